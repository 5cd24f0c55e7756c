/-
  The document's answer: shr, word, rotr, of words of 64 bits.
-/
import Derived.Test.YtfihidnmgaiojaaProg
import Derived.Test.YtfihidnmgaiojaaRBits
import Derived.WalkKit
import Derived.WalkSpells
import Derived.WalkLawsBesides
import Derived.Deep.QuietTactic
import Derived.BigQuiet
import Derived.Deep.RegionWith
namespace Go.Proofs.Ytfihidnmgaiojaa
open Go.RowKit
set_option linter.unusedVariables false
section
attribute [local go_sem] andS orS xorS notS addS addSw shlS shlSw sarS wordSx ex_xor ex_and ex_or sarX

set_option maxHeartbeats 400000 in
theorem rshr64 (x : BitVec 64) (n : Int) (w : World) (h0 : 0 < n) (h1 : n < 64) :
    Calls Try.prog 53 #[.int .i64 (eS (x)), .int .i64 n, .int .i64 64] w fun e w' => e = .returned (.int .i64 (eS (x >>> n.toNat))) ∧ ∃ k, w' = w.drewN k := by
  have hn0 : (n == 0) = false := by rw [beq_eq_false_iff_ne]; omega
  go_enter Try.func53, Try.ntmps53
  go_wp2_with fail
  try go_quiet (fail)
  try go_wp2
  go_ret
  first
    | exact ⟨rfl, 0, rfl⟩
    | exact ⟨by rw [← shrfin x n h0 h1]; rfl, nq, rfl⟩

set_option maxHeartbeats 400000 in
theorem rword64 (x : BitVec 64) (w : World) :
    Calls Try.prog 49 #[.int .i64 (eS x), .int .i64 64] w fun e w' => e = .returned (.int .i64 (eS (x))) ∧ w' = w := by
  go_enter Try.func49, Try.ntmps49
  go_wp2
  go_ret
  exact ⟨rfl, rfl⟩

set_option maxHeartbeats 400000 in
theorem rrotr64 (x : BitVec 64) (n : Int) (w : World) (h0 : 0 < n) (h1 : n < 64) :
    Calls Try.prog 52 #[.int .i64 (eS (x)), .int .i64 n, .int .i64 64] w fun e w' => e = .returned (.int .i64 (eS (rotr x n.toNat))) ∧ ∃ k, w' = w.drewN k := by
  go_enter Try.func52, Try.ntmps52
  go_wp2_with fail
  go_quiet (first | (go_at_call 53; exact Calls.quiet_of (rshr64 x n _ h0 h1)) | (go_at_call 49; exact Calls.quiet_of_same (rword64 _ _)))
  go_wp2
  go_ret
  first
    | exact ⟨by rw [← rotrX x n.toNat (by omega) (by omega), show 32 - n.toNat = (32 - n).toNat from by omega]; rfl, nq, rfl⟩
    | exact ⟨by unfold rotr; rw [show 64 - n.toNat = (64 - n).toNat from by omega]; rfl, nq, rfl⟩

/-- What holds of a way: its bits, its amounts. -/
structure RWay64 (w : World) (p : Way 64) (by_ : Nat) : Prop where
  len : p.K.length = 80
  f1 : w.cell? ⟨by_, 0, none⟩ = some (.int .i64 1)
  f2 : w.cell? ⟨by_, 1, none⟩ = some (.int .i64 8)
  f3 : w.cell? ⟨by_, 2, none⟩ = some (.int .i64 7)
  n1 : w.cell? ⟨by_, 3, none⟩ = some (.int .i64 19)
  n2 : w.cell? ⟨by_, 4, none⟩ = some (.int .i64 61)
  n3 : w.cell? ⟨by_, 5, none⟩ = some (.int .i64 6)
  e1 : w.cell? ⟨by_, 6, none⟩ = some (.int .i64 14)
  e2 : w.cell? ⟨by_, 7, none⟩ = some (.int .i64 18)
  e3 : w.cell? ⟨by_, 8, none⟩ = some (.int .i64 41)
  a1 : w.cell? ⟨by_, 9, none⟩ = some (.int .i64 28)
  a2 : w.cell? ⟨by_, 10, none⟩ = some (.int .i64 34)
  a3 : w.cell? ⟨by_, 11, none⟩ = some (.int .i64 39)
  hf : p.f1 = 1 ∧ p.f2 = 8 ∧ p.f3 = 7
  hn : p.n1 = 19 ∧ p.n2 = 61 ∧ p.n3 = 6
  he : p.e1 = 14 ∧ p.e2 = 18 ∧ p.e3 = 41
  ha : p.a1 = 28 ∧ p.a2 = 34 ∧ p.a3 = 39

set_option maxHeartbeats 400000 in
theorem rmixE64 (x : BitVec 64) (b : Nat) (w : World) (p : Way 64) (hR : RWay64 w p b) (v3 v4 : Value) :
    Calls Try.prog 48 #[.agg #[.int .i64 64, .int .i64 80, .slice (some ⟨b, 0, none⟩) 12 12, v3, v4], .int .i64 (eS (x)), .int .i64 6] w
      fun e w' => e = .returned (.int .i64 (eS (sig x p.e1 p.e2 p.e3))) ∧ ∃ k, w' = (w.alloc (.cells #[.int .i64 64, .int .i64 80, .slice (some ⟨b, 0, none⟩) 12 12, v3, v4] 50)).drewN k := by
  have c1 := hR.e1
  have c2 := hR.e2
  have c3 := hR.e3
  have hlt : b < w.heap.size := World.block_lt_of_cell? w _ c1
  have HE : Hid _ := hR.he
  go_enter Try.func48, Try.ntmps48
  go_wp2_with fail
  go_quiet (first | (go_at_call_of 52 (Value.int IntKind.i64 14); exact Calls.quiet_of (rrotr64 x 14 _ (by omega) (by omega))) | (go_at_call_of 52 (Value.int IntKind.i64 18); exact Calls.quiet_of (rrotr64 x 18 _ (by omega) (by omega))) | (go_at_call_of 52 (Value.int IntKind.i64 41); exact Calls.quiet_of (rrotr64 x 41 _ (by omega) (by omega))))
  go_wp2
  go_ret
  refine ⟨?_, nq, rfl⟩
  unfold sig
  rw [HE.out.1, HE.out.2.1, HE.out.2.2]
  rfl

set_option maxHeartbeats 400000 in
theorem rmixA64 (x : BitVec 64) (b : Nat) (w : World) (p : Way 64) (hR : RWay64 w p b) (v3 v4 : Value) :
    Calls Try.prog 48 #[.agg #[.int .i64 64, .int .i64 80, .slice (some ⟨b, 0, none⟩) 12 12, v3, v4], .int .i64 (eS (x)), .int .i64 9] w
      fun e w' => e = .returned (.int .i64 (eS (sig x p.a1 p.a2 p.a3))) ∧ ∃ k, w' = (w.alloc (.cells #[.int .i64 64, .int .i64 80, .slice (some ⟨b, 0, none⟩) 12 12, v3, v4] 50)).drewN k := by
  have c1 := hR.a1
  have c2 := hR.a2
  have c3 := hR.a3
  have hlt : b < w.heap.size := World.block_lt_of_cell? w _ c1
  have HA : Hid _ := hR.ha
  go_enter Try.func48, Try.ntmps48
  go_wp2_with fail
  go_quiet (first | (go_at_call_of 52 (Value.int IntKind.i64 28); exact Calls.quiet_of (rrotr64 x 28 _ (by omega) (by omega))) | (go_at_call_of 52 (Value.int IntKind.i64 34); exact Calls.quiet_of (rrotr64 x 34 _ (by omega) (by omega))) | (go_at_call_of 52 (Value.int IntKind.i64 39); exact Calls.quiet_of (rrotr64 x 39 _ (by omega) (by omega))))
  go_wp2
  go_ret
  refine ⟨?_, nq, rfl⟩
  unfold sig
  rw [HA.out.1, HA.out.2.1, HA.out.2.2]
  rfl
end
end Go.Proofs.Ytfihidnmgaiojaa
