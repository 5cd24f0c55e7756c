/-
  turn, turnThrice and turnAndShift, of words of 64 bits.
-/
import Derived.Test.YtfihidnmgaiojaaProg
import Derived.Test.YtfihidnmgaiojaaBits
import Derived.WalkKit
import Derived.WalkSpells
import Derived.WalkLawsBesides
import Derived.Deep.QuietTactic
import Derived.BigQuiet
import Derived.Deep.RegionWith
namespace Go.Proofs.Ytfihidnmgaiojaa
open Go.RowKit
set_option linter.unusedVariables false
section
attribute [local go_sem] shr_eW shr_eW_min shl64 or64 xor64 and64 add64 not64

set_option maxHeartbeats 400000 in
theorem turn64 (bp : Nat) (x : BitVec 64) (n : Int) (w : World) (h0 : 0 < n) (h1 : n < 64) (hc : w.cell? ⟨bp, 0, none⟩ = some (.int .i64 8)) :
    Calls Try.prog 65 #[.pointer (some ⟨bp, 0, none⟩), .int .u64 (eW x), .int .i64 n] w fun e w' => e = .returned (.int .u64 (eW (rotr x n.toNat))) ∧ ∃ k, w' = w.drewN k := by
  go_enter Try.func65, Try.ntmps65
  go_wp2_with fail
  go_quiet (fail)
  go_wp2
  go_ret
  refine ⟨ret_int ?_, nq, rfl⟩
  unfold rotr
  rw [show (64 - n).toNat = 64 - n.toNat from by omega]

set_option maxHeartbeats 400000 in
theorem thrice64 (bp : Nat) (x : BitVec 64) (a b c : Int) (w : World) (ha : 0 < a ∧ a < 64) (hb : 0 < b ∧ b < 64) (hc : 0 < c ∧ c < 64)
    (hp : w.cell? ⟨bp, 0, none⟩ = some (.int .i64 8)) :
    Calls Try.prog 63 #[.pointer (some ⟨bp, 0, none⟩), .int .u64 (eW x), .agg #[.int .i64 a, .int .i64 b, .int .i64 c]] w
      fun e w' => e = .returned (.int .u64 (eW (rotr x a.toNat ^^^ rotr x b.toNat ^^^ rotr x c.toNat))) ∧ ∃ k, w' = (w.alloc (.cells #[.int .i64 a, .int .i64 b, .int .i64 c] 37)).drewN k := by
  have hlt : bp < w.heap.size := World.block_lt_of_cell? w _ hp
  have hp' : ∀ o n, ((w.alloc o).drewN n).cell? ⟨bp, 0, none⟩ = some (.int .i64 8) := fun o n => (World.cell?_alloc_lt _ _ _ hlt).trans hp
  go_enter Try.func63, Try.ntmps63
  go_wp2_with fail
  go_quiet (first | (go_at_call_of 65 (Value.int IntKind.i64 a); exact Calls.quiet_of (turn64 _ _ _ _ ha.1 ha.2 (hp' _ _))) | (go_at_call_of 65 (Value.int IntKind.i64 b); exact Calls.quiet_of (turn64 _ _ _ _ hb.1 hb.2 (hp' _ _))) | (go_at_call_of 65 (Value.int IntKind.i64 c); exact Calls.quiet_of (turn64 _ _ _ _ hc.1 hc.2 (hp' _ _))))
  go_wp2
  go_ret
  exact ⟨rfl, nq, rfl⟩

set_option maxHeartbeats 400000 in
theorem andShift64 (bp : Nat) (x : BitVec 64) (a b c : Int) (w : World) (ha : 0 < a ∧ a < 64) (hb : 0 < b ∧ b < 64) (hc : 0 < c ∧ c < 64)
    (hp : w.cell? ⟨bp, 0, none⟩ = some (.int .i64 8)) :
    Calls Try.prog 62 #[.pointer (some ⟨bp, 0, none⟩), .int .u64 (eW x), .agg #[.int .i64 a, .int .i64 b, .int .i64 c]] w
      fun e w' => e = .returned (.int .u64 (eW (rotr x a.toNat ^^^ rotr x b.toNat ^^^ x >>> c.toNat))) ∧ ∃ k, w' = (w.alloc (.cells #[.int .i64 a, .int .i64 b, .int .i64 c] 37)).drewN k := by
  have hlt : bp < w.heap.size := World.block_lt_of_cell? w _ hp
  have hp' : ∀ o n, ((w.alloc o).drewN n).cell? ⟨bp, 0, none⟩ = some (.int .i64 8) := fun o n => (World.cell?_alloc_lt _ _ _ hlt).trans hp
  have hc0 := hc.1
  have hc1 := hc.2
  go_enter Try.func62, Try.ntmps62
  go_wp2_with fail
  go_quiet (first | (go_at_call_of 65 (Value.int IntKind.i64 a); exact Calls.quiet_of (turn64 _ _ _ _ ha.1 ha.2 (hp' _ _))) | (go_at_call_of 65 (Value.int IntKind.i64 b); exact Calls.quiet_of (turn64 _ _ _ _ hb.1 hb.2 (hp' _ _))))
  go_wp2
  go_ret
  exact ⟨rfl, nq, rfl⟩
end
end Go.Proofs.Ytfihidnmgaiojaa
