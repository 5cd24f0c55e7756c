/-
  turn, turnThrice and turnAndShift, of words of 32 bits.
-/
import Derived.Test.YtfihidnmgaiojaaProg
import Derived.Test.YtfihidnmgaiojaaBits
import Derived.WalkKit
import Derived.WalkSpells
import Derived.WalkLawsBesides
import Derived.Deep.QuietTactic
import Derived.BigQuiet
import Derived.Deep.RegionWith
namespace Go.Proofs.Ytfihidnmgaiojaa
open Go.RowKit
set_option linter.unusedVariables false
section
attribute [local go_sem] shr_eW shr_eW_min shl32 or32 xor32 and32 add32 not32

set_option maxHeartbeats 400000 in
theorem turn32 (bp : Nat) (x : BitVec 32) (n : Int) (w : World) (h0 : 0 < n) (h1 : n < 32) (hc : w.cell? ⟨bp, 0, none⟩ = some (.int .i64 4)) :
    Calls Try.prog 64 #[.pointer (some ⟨bp, 0, none⟩), .int .u32 (eW x), .int .i64 n] w fun e w' => e = .returned (.int .u32 (eW (rotr x n.toNat))) ∧ ∃ k, w' = w.drewN k := by
  go_enter Try.func64, Try.ntmps64
  go_wp2_with fail
  go_quiet (fail)
  go_wp2
  go_ret
  refine ⟨ret_int ?_, nq, rfl⟩
  unfold rotr
  rw [show (32 - n).toNat = 32 - n.toNat from by omega]

set_option maxHeartbeats 400000 in
theorem thrice32 (bp : Nat) (x : BitVec 32) (a b c : Int) (w : World) (ha : 0 < a ∧ a < 32) (hb : 0 < b ∧ b < 32) (hc : 0 < c ∧ c < 32)
    (hp : w.cell? ⟨bp, 0, none⟩ = some (.int .i64 4)) :
    Calls Try.prog 60 #[.pointer (some ⟨bp, 0, none⟩), .int .u32 (eW x), .agg #[.int .i64 a, .int .i64 b, .int .i64 c]] w
      fun e w' => e = .returned (.int .u32 (eW (rotr x a.toNat ^^^ rotr x b.toNat ^^^ rotr x c.toNat))) ∧ ∃ k, w' = (w.alloc (.cells #[.int .i64 a, .int .i64 b, .int .i64 c] 37)).drewN k := by
  have hlt : bp < w.heap.size := World.block_lt_of_cell? w _ hp
  have hp' : ∀ o n, ((w.alloc o).drewN n).cell? ⟨bp, 0, none⟩ = some (.int .i64 4) := fun o n => (World.cell?_alloc_lt _ _ _ hlt).trans hp
  go_enter Try.func60, Try.ntmps60
  go_wp2_with fail
  go_quiet (first | (go_at_call_of 64 (Value.int IntKind.i64 a); exact Calls.quiet_of (turn32 _ _ _ _ ha.1 ha.2 (hp' _ _))) | (go_at_call_of 64 (Value.int IntKind.i64 b); exact Calls.quiet_of (turn32 _ _ _ _ hb.1 hb.2 (hp' _ _))) | (go_at_call_of 64 (Value.int IntKind.i64 c); exact Calls.quiet_of (turn32 _ _ _ _ hc.1 hc.2 (hp' _ _))))
  go_wp2
  go_ret
  exact ⟨rfl, nq, rfl⟩

set_option maxHeartbeats 400000 in
theorem andShift32 (bp : Nat) (x : BitVec 32) (a b c : Int) (w : World) (ha : 0 < a ∧ a < 32) (hb : 0 < b ∧ b < 32) (hc : 0 < c ∧ c < 32)
    (hp : w.cell? ⟨bp, 0, none⟩ = some (.int .i64 4)) :
    Calls Try.prog 59 #[.pointer (some ⟨bp, 0, none⟩), .int .u32 (eW x), .agg #[.int .i64 a, .int .i64 b, .int .i64 c]] w
      fun e w' => e = .returned (.int .u32 (eW (rotr x a.toNat ^^^ rotr x b.toNat ^^^ x >>> c.toNat))) ∧ ∃ k, w' = (w.alloc (.cells #[.int .i64 a, .int .i64 b, .int .i64 c] 37)).drewN k := by
  have hlt : bp < w.heap.size := World.block_lt_of_cell? w _ hp
  have hp' : ∀ o n, ((w.alloc o).drewN n).cell? ⟨bp, 0, none⟩ = some (.int .i64 4) := fun o n => (World.cell?_alloc_lt _ _ _ hlt).trans hp
  have hc0 := hc.1
  have hc1 := hc.2
  go_enter Try.func59, Try.ntmps59
  go_wp2_with fail
  go_quiet (first | (go_at_call_of 64 (Value.int IntKind.i64 a); exact Calls.quiet_of (turn32 _ _ _ _ ha.1 ha.2 (hp' _ _))) | (go_at_call_of 64 (Value.int IntKind.i64 b); exact Calls.quiet_of (turn32 _ _ _ _ hb.1 hb.2 (hp' _ _))))
  go_wp2
  go_ret
  exact ⟨rfl, nq, rfl⟩
end
end Go.Proofs.Ytfihidnmgaiojaa
