/-
  Bytes as numbers: a word of few bytes is the same number in 32 bits and in 64.
-/
import Derived.Test.YtfihidnmgaiojaaRBits
namespace Go.Proofs.Ytfihidnmgaiojaa
open Go.RowKit

def valB (l : List UInt8) : Nat := l.foldl (fun a c => a * 256 + c.toNat) 0
theorem valB_snoc (l : List UInt8) (c : UInt8) : valB (l ++ [c]) = valB l * 256 + c.toNat := by unfold valB; rw [List.foldl_append]; rfl

theorem or_step (n v c : Nat) (hn : 8 ≤ n) (hc : c < 256) : BitVec.ofNat n v <<< 8 ||| BitVec.ofNat n c = BitVec.ofNat n (v * 256 + c) := by
  apply BitVec.eq_of_toNat_eq
  rw [BitVec.toNat_or, BitVec.toNat_shiftLeft, BitVec.toNat_ofNat, BitVec.toNat_ofNat, BitVec.toNat_ofNat]
  have h256 : 256 ≤ 2 ^ n := by
    have := Nat.pow_le_pow_right (n := 2) (by omega) hn; simpa using this
  rw [Nat.mod_eq_of_lt (a := c) (by omega), Nat.shiftLeft_eq]
  have e1 : v % 2 ^ n * 2 ^ 8 % 2 ^ n = (v * 256) % 2 ^ n := by rw [Nat.mod_mul_mod]
  rw [e1]
  obtain ⟨m, rfl⟩ : ∃ m, n = m + 8 := ⟨n - 8, by omega⟩
  have e2 : v * 256 % 2 ^ (m + 8) = (v % 2 ^ m) * 2 ^ 8 := by
    rw [Nat.pow_add, show (256 : Nat) = 2 ^ 8 from rfl, Nat.mul_mod_mul_right]
  have e3 : (v * 256 + c) % 2 ^ (m + 8) = (v % 2 ^ m) * 2 ^ 8 + c := by
    rw [Nat.add_mod, e2, Nat.mod_eq_of_lt (a := c) (by omega)]
    apply Nat.mod_eq_of_lt
    have h1 : v % 2 ^ m < 2 ^ m := Nat.mod_lt _ (Nat.two_pow_pos _)
    have h2 : (v % 2 ^ m + 1) * 2 ^ 8 ≤ 2 ^ m * 2 ^ 8 := Nat.mul_le_mul_right _ h1
    rw [Nat.pow_add]; omega
  rw [e2, e3, ← Nat.shiftLeft_eq, ← Nat.shiftLeft_add_eq_or_of_lt (by simpa using hc)]

theorem rd_val (n : Nat) (hn : 8 ≤ n) (l : List UInt8) : rd n l = BitVec.ofNat n (valB l) := by
  have h : ∀ (k : Nat) (l : List UInt8), l.length = k → rd n l = BitVec.ofNat n (valB l) := by
    intro k
    induction k with
    | zero => intro l hl; rw [List.length_eq_zero_iff.1 hl]; rfl
    | succ k ih =>
      intro l hl
      have hne : l ≠ [] := by intro h; rw [h] at hl; simp at hl
      rw [← List.dropLast_concat_getLast hne, rd_snoc, valB_snoc, ih _ (by simp [hl]), or_step n _ _ hn (UInt8.toNat_lt _)]
  exact h l.length l rfl

theorem valB_lt (l : List UInt8) : valB l < 256 ^ l.length := by
  have h : ∀ (k : Nat) (l : List UInt8), l.length = k → valB l < 256 ^ k := by
    intro k
    induction k with
    | zero => intro l hl; rw [List.length_eq_zero_iff.1 hl]; simp [valB]
    | succ k ih =>
      intro l hl
      have hne : l ≠ [] := by intro h; rw [h] at hl; simp at hl
      have h1 := ih l.dropLast (by simp [hl])
      have h2 := UInt8.toNat_lt (l.getLast hne)
      rw [← List.dropLast_concat_getLast hne, valB_snoc, Nat.pow_succ]; omega
  exact h l.length l rfl

theorem rd_ex (l : List UInt8) (h : l.length ≤ 4) : rd 64 l = ex (rd 32 l) := by
  have hv : valB l < 4294967296 := by
    have h1 := valB_lt l
    have h2 : 256 ^ l.length ≤ 256 ^ 4 := Nat.pow_le_pow_right (by omega) h
    omega
  rw [rd_val 64 (by omega), rd_val 32 (by omega)]
  apply BitVec.eq_of_toNat_eq
  unfold ex
  rw [BitVec.toNat_setWidth, BitVec.toNat_ofNat, BitVec.toNat_ofNat]
  rw [Nat.mod_eq_of_lt (a := valB l) (b := 2 ^ 32) (by omega)]

theorem take_piece (s : ByteArray) (k m y : Nat) (hm : m < y) (h : y * k + y ≤ s.size) (hx : y * k + m < s.size) :
    ((s.data.toList.drop (k * y)).take y).take (m + 1) = ((s.data.toList.drop (k * y)).take y).take m ++ [s[y * k + m]] := by
  have hl : m < ((s.data.toList.drop (k * y)).take y).length := by simp; rw [Nat.mul_comm k y]; omega
  rw [List.take_succ_eq_append_getElem hl]
  congr 2
  rw [List.getElem_take, List.getElem_drop]
  have e : k * y + m = y * k + m := by rw [Nat.mul_comm]
  simp only [e]
  rfl

theorem rdS_step (x : BitVec 64) (c : UInt8) : bits .or .i64 (wrap64 (eS x * 256)) (wrap64 (c.toNat : Int)) = eS (x <<< 8 ||| BitVec.ofNat 64 c.toNat) := by
  have h := c.toNat_lt
  have h1 : wrap64 (eS x * 256) = eS (x <<< 8) := shlSw x 8
  have h2 : wrap64 (c.toNat : Int) = eS (BitVec.ofNat 64 c.toNat) := by
    rw [wrap64_eS, BitVec.ofInt_natCast]
  rw [h1, h2, orS]

end Go.Proofs.Ytfihidnmgaiojaa
