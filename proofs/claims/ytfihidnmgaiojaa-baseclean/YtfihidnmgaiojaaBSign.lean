/-
  base.sign.
-/
import Derived.Test.YtfihidnmgaiojaaProg
import Derived.Test.YtfihidnmgaiojaaBBuf
import Derived.WalkSpells
import Derived.WalkLawsBesides
import Derived.BigQuiet
namespace Go.Proofs.Ytfihidnmgaiojaa
open Go.RowKit
set_option linter.unusedVariables false
section
def lo6 (x : BitVec 32) : Nat := x.toNat % 64
theorem lo6_lt (x : BitVec 32) : lo6 x < 64 := Nat.mod_lt _ (by omega)
theorem and63 (x : BitVec 32) : bits .and .u32 (eW x) 63 = (lo6 x : Int) := by
  have e : (63 : Int) = eW 63#32 := rfl
  rw [e, and32]; unfold eW lo6
  rw [BitVec.toNat_and]
  have := Nat.and_two_pow_sub_one_eq_mod x.toNat 6
  exact congrArg Int.ofNat this
attribute [local go_sem] and63

theorem sg_at (n : Nat) (h : n < 64) : sg n = signsB[n]'h := by
  unfold sg; rw [Array.getD_eq_getD_getElem?, Array.getElem?_eq_getElem (by exact h)]; rfl

set_option maxHeartbeats 400000 in
theorem sign_any (x : BitVec 32) (w : World) : Calls Try.prog 32 #[.int .u32 (eW x)] w fun e w' => e = .returned (.int .u8 ((sg (lo6 x)).toNat : Int)) ∧ w' = w := by
  have h0 := lo6_lt x
  have h1 : (lo6 x : Int) < 64 := by omega
  go_enter Try.func32, Try.ntmps32
  go_wp2
  go_ret
  refine ⟨?_, rfl⟩
  rw [sg_at _ h0]; rfl
end
end Go.Proofs.Ytfihidnmgaiojaa
