/-
  Blocks over two texts, one behind the other.
-/
import Derived.Test.YtfihidnmgaiojaaSpec
namespace Go.Proofs.Ytfihidnmgaiojaa

theorem blocksTo_left {n : Nat} (p : Way n) (y z : Nat) (s : St n) (A B : List UInt8) (m : Nat) (hA : A.length = m * z) : ∀ j, j ≤ m → blocksTo p y z s (A ++ B) j = blocksTo p y z s A j := by
  intro j
  induction j with
  | zero => intro _; rfl
  | succ j ih =>
    intro hj
    have h1 : (j + 1) * z ≤ m * z := Nat.mul_le_mul_right _ hj
    have h2 : j * z + z ≤ A.length := by rw [hA]; rw [Nat.add_mul, Nat.one_mul] at h1; exact h1
    rw [blocksTo, blocksTo, ih (by omega), List.drop_append_of_le_length (by omega), List.take_append_of_le_length (by rw [List.length_drop]; omega)]

theorem blocksTo_append {n : Nat} (p : Way n) (y z : Nat) (s : St n) (A B : List UInt8) (m : Nat) (hA : A.length = m * z) (k : Nat) : blocksTo p y z s (A ++ B) (m + k) = blocksTo p y z (blocksTo p y z s A m) B k := by
  induction k with
  | zero => exact blocksTo_left p y z s A B m hA m (Nat.le_refl _)
  | succ k ih =>
    rw [← Nat.add_assoc, blocksTo, blocksTo, ih, Nat.add_mul, ← hA, List.drop_append]
    congr 2
    rw [List.drop_of_length_le (by omega), List.nil_append, Nat.add_sub_cancel_left]

theorem endL_split (z c m : Nat) (l : List UInt8) (size : Nat) (hm : m = l.length / z) : endL z c l size = l.take (m * z) ++ endL z c (l.drop (m * z)) size := by
  have h1 : padZ z c l.length = padZ z c (l.drop (m * z)).length := by
    rw [← padZ_mod z c l.length]
    congr 1
    rw [List.length_drop, hm, Nat.mul_comm, Nat.mod_eq_sub_mul_div]
  unfold endL
  rw [h1, ← List.append_assoc, ← List.append_assoc, ← List.append_assoc, List.take_append_drop]

theorem join_sum {n : Nat} (p : Way n) (y z c : Nat) (hz : 0 < z) (s : St n) (l : List UInt8) (size : Nat) :
    blocksTo p y z s (endL z c l size) ((endL z c l size).length / z) =
      blocksTo p y z (blocksTo p y z s (l.take (l.length / z * z)) (l.length / z)) (endL z c (l.drop (l.length / z * z)) size) ((endL z c (l.drop (l.length / z * z)) size).length / z) := by
  have hA : (l.take (l.length / z * z)).length = l.length / z * z := by
    rw [List.length_take]; exact Nat.min_eq_left (Nat.div_mul_le_self _ _)
  have hk : (endL z c l size).length / z = l.length / z + (endL z c (l.drop (l.length / z * z)) size).length / z := by
    rw [endL_split z c _ l size rfl, List.length_append, hA, Nat.add_comm, Nat.add_mul_div_right _ _ hz, Nat.add_comm]
  rw [hk, endL_split z c _ l size rfl]
  exact blocksTo_append p y z s _ _ _ hA _

end Go.Proofs.Ytfihidnmgaiojaa
