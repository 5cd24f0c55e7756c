/-
  Ints as bit vectors of 64: what Go's operations on int do to them.
-/
import Derived.Test.YtfihidnmgaiojaaSpec
namespace Go.Proofs.Ytfihidnmgaiojaa
open Go.RowKit
set_option linter.unusedVariables false

def eS (x : BitVec 64) : Int := x.toInt

theorem ofInt_eS (x : BitVec 64) : BitVec.ofInt 64 (eS x) = x := by unfold eS; simp
theorem i64wrap_eq (n : Int) : IntKind.i64.wrap n = eS (BitVec.ofInt 64 n) := by
  rw [IntKind.wrap_i64]; unfold eS; rw [BitVec.toInt_ofInt]
  rw [Int.bmod_def]; split <;> omega
theorem i64wrap_nat (x : BitVec 64) : IntKind.i64.wrap (x.toNat : Int) = eS x := by rw [i64wrap_eq]; simp
theorem wrap64_eS (n : Int) : wrap64 n = eS (BitVec.ofInt 64 n) := by rw [← i64wrap_eq, IntWalk.i64_left]

theorem andS (x y : BitVec 64) : bits .and .i64 (eS x) (eS y) = eS (x &&& y) := by
  show IntKind.i64.wrap ((BitVec.ofInt 64 (eS x) &&& BitVec.ofInt 64 (eS y)).toNat : Int) = _
  rw [ofInt_eS, ofInt_eS, i64wrap_nat]
theorem orS (x y : BitVec 64) : bits .or .i64 (eS x) (eS y) = eS (x ||| y) := by
  show IntKind.i64.wrap ((BitVec.ofInt 64 (eS x) ||| BitVec.ofInt 64 (eS y)).toNat : Int) = _
  rw [ofInt_eS, ofInt_eS, i64wrap_nat]
theorem xorS (x y : BitVec 64) : bits .xor .i64 (eS x) (eS y) = eS (x ^^^ y) := by
  show IntKind.i64.wrap ((BitVec.ofInt 64 (eS x) ^^^ BitVec.ofInt 64 (eS y)).toNat : Int) = _
  rw [ofInt_eS, ofInt_eS, i64wrap_nat]
theorem notS (x : BitVec 64) : bits .xor .i64 (-1) (eS x) = eS (~~~x) := by
  show IntKind.i64.wrap ((BitVec.ofInt 64 (-1) ^^^ BitVec.ofInt 64 (eS x)).toNat : Int) = _
  rw [ofInt_eS, i64wrap_nat, show BitVec.ofInt 64 (-1) = BitVec.allOnes 64 from rfl, BitVec.allOnes_xor]
theorem addS (x y : BitVec 64) : IntKind.i64.wrap (eS x + eS y) = eS (x + y) := by rw [i64wrap_eq, BitVec.ofInt_add, ofInt_eS, ofInt_eS]
theorem addSw (x y : BitVec 64) : wrap64 (eS x + eS y) = eS (x + y) := by rw [wrap64_eS, BitVec.ofInt_add, ofInt_eS, ofInt_eS]
theorem ofInt_pow (n : Nat) : BitVec.ofInt 64 (2 ^ n) = BitVec.twoPow 64 n := by
  apply BitVec.eq_of_toNat_eq
  rw [BitVec.toNat_ofInt, BitVec.toNat_twoPow]
  have : ((2 : Int) ^ n) = ((2 ^ n : Nat) : Int) := by simp
  rw [this]; exact_mod_cast rfl
theorem shlS (x : BitVec 64) (n : Nat) : IntKind.i64.wrap (eS x * 2 ^ n) = eS (x <<< n) := by
  rw [i64wrap_eq, BitVec.ofInt_mul, ofInt_eS, ofInt_pow, BitVec.shiftLeft_eq_mul_twoPow]
theorem shlSw (x : BitVec 64) (n : Nat) : wrap64 (eS x * 2 ^ n) = eS (x <<< n) := by rw [← shlS, IntWalk.i64_left]
theorem sarS (x : BitVec 64) (n : Nat) : eS x / 2 ^ n = eS (x.sshiftRight n) := by
  unfold eS; rw [BitVec.toInt_sshiftRight, Int.shiftRight_eq_div_pow]
  have : ((2 : Int) ^ n) = ((2 ^ n : Nat) : Int) := by simp
  rw [this]

/-- A word of 32 bits as an int. -/
theorem eS_32 (x : BitVec 32) : eS (x.setWidth 64) = eW x := by
  unfold eS eW
  have h := x.isLt
  rw [BitVec.toInt_eq_toNat_cond, BitVec.toNat_setWidth]
  rw [Nat.mod_eq_of_lt (by omega)]
  split <;> omega

theorem sar_32 (x : BitVec 32) (n : Nat) : (x.setWidth 64).sshiftRight n = (x >>> n).setWidth 64 := by
  apply BitVec.eq_of_getLsbD_eq
  intro i hi
  have hm : (x.setWidth 64).msb = false := by
    rw [BitVec.msb_setWidth]; simp
  simp only [BitVec.getLsbD_sshiftRight, BitVec.getLsbD_setWidth, BitVec.getLsbD_ushiftRight, hm]
  by_cases h : n + i < 64
  · simp [h, hi]
  · have : ¬ (n + i < 32) := by omega
    simp [h, hi]
    rw [BitVec.getLsbD_of_ge x _ (by omega)]

theorem mask_64 (x : BitVec 64) (n : Nat) (h0 : 0 < n) (h1 : n < 64) : x.sshiftRight n &&& BitVec.ofInt 64 (2 ^ (64 - n) - 1) = x >>> n := by
  apply BitVec.eq_of_getLsbD_eq
  intro i hi
  have e : BitVec.ofInt 64 (2 ^ (64 - n) - 1) = BitVec.ofNat 64 (2 ^ (64 - n) - 1) := by
    have hp : 0 < 2 ^ (64 - n) := Nat.two_pow_pos _
    have : ((2 : Int) ^ (64 - n) - 1) = ((2 ^ (64 - n) - 1 : Nat) : Int) := by
      rw [Int.natCast_sub hp]; simp
    rw [this, BitVec.ofInt_natCast]
  rw [e]
  simp only [BitVec.getLsbD_and, BitVec.getLsbD_sshiftRight, BitVec.getLsbD_ushiftRight, BitVec.getLsbD_ofNat, Nat.testBit_two_pow_sub_one]
  by_cases h : n + i < 64
  · have h2 : i < 64 - n := by omega
    simp [h, hi, h2]
  · simp [h, hi]
    rw [BitVec.getLsbD_of_ge x _ (by omega)]; simp; omega

theorem wrap64_less (a : Int) : wrap64 (wrap64 a - 1) = wrap64 (a - 1) := by unfold wrap64; omega
theorem shrfin (x : BitVec 64) (n : Int) (h0 : 0 < n) (h1 : n < 64) : bits .and .i64 (eS (x.sshiftRight n.toNat)) (wrap64 (wrap64 (2 ^ (64 - n).toNat) - 1)) = eS (x >>> n.toNat) := by
  rw [wrap64_less, wrap64_eS, andS, show (64 - n).toNat = 64 - n.toNat from by omega, mask_64 x n.toNat (by omega) (by omega)]

theorem word_32 (x : BitVec 64) : x &&& BitVec.ofInt 64 4294967295 = (x.setWidth 32).setWidth 64 := by
  apply BitVec.eq_of_getLsbD_eq
  intro i hi
  have e : BitVec.ofInt 64 4294967295 = BitVec.ofNat 64 (2 ^ 32 - 1) := rfl
  rw [e]
  simp only [BitVec.getLsbD_and, BitVec.getLsbD_setWidth, BitVec.getLsbD_ofNat, Nat.testBit_two_pow_sub_one]
  by_cases h : i < 32 <;> simp [h, hi]

theorem wordS (x : BitVec 64) : bits .and .i64 (eS x) 4294967295 = eS ((x.setWidth 32).setWidth 64) := by
  show IntKind.i64.wrap ((BitVec.ofInt 64 (eS x) &&& BitVec.ofInt 64 4294967295).toNat : Int) = _
  rw [ofInt_eS, i64wrap_nat, word_32]

/-- A word of 32 bits as one of 64. -/
def ex (x : BitVec 32) : BitVec 64 := x.setWidth 64
theorem ex_xor (x y : BitVec 32) : ex x ^^^ ex y = ex (x ^^^ y) := by unfold ex; rw [BitVec.setWidth_xor]
theorem ex_and (x y : BitVec 32) : ex x &&& ex y = ex (x &&& y) := by unfold ex; rw [BitVec.setWidth_and]
theorem ex_or (x y : BitVec 32) : ex x ||| ex y = ex (x ||| y) := by unfold ex; rw [BitVec.setWidth_or]
theorem set_ex (x : BitVec 32) : BitVec.setWidth 32 (ex x) = x := by unfold ex; simp
theorem set_add (x y : BitVec 64) : BitVec.setWidth 32 (x + y) = BitVec.setWidth 32 x + BitVec.setWidth 32 y := BitVec.setWidth_add x y (by omega)
theorem set_not (x : BitVec 32) : BitVec.setWidth 32 (~~~(ex x)) = ~~~x := by
  unfold ex; rw [BitVec.setWidth_not (by omega)]; simp
theorem eS_ex (x : BitVec 32) : eS (ex x) = eW x := eS_32 x
theorem sarX (x : BitVec 32) (n : Nat) : (ex x).sshiftRight n = ex (x >>> n) := sar_32 x n
theorem wordSx (x : BitVec 64) : bits .and .i64 (eS x) 4294967295 = eS (ex (x.setWidth 32)) := wordS x

theorem rotr_32 (x : BitVec 32) (n : Nat) (h0 : 0 < n) (h1 : n < 32) : ((x >>> n).setWidth 64 ||| x.setWidth 64 <<< (32 - n)).setWidth 32 = rotr x n := by
  apply BitVec.eq_of_getLsbD_eq
  intro i hi
  unfold rotr
  simp only [BitVec.getLsbD_or, BitVec.getLsbD_setWidth, BitVec.getLsbD_ushiftRight, BitVec.getLsbD_shiftLeft]
  have h2 : i < 64 := by omega
  simp [hi, h2]
  by_cases h : i < 32 - n
  · simp [h]
  · have : i - (32 - n) < 64 := by omega
    simp [h, this]

theorem rotrX (x : BitVec 32) (n : Nat) (h0 : 0 < n) (h1 : n < 32) : (ex (x >>> n) ||| ex x <<< (32 - n)).setWidth 32 = rotr x n := rotr_32 x n h0 h1

end Go.Proofs.Ytfihidnmgaiojaa
