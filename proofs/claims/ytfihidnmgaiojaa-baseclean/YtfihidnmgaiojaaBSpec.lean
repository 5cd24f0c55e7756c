/-
  Bytes as signs, on lists: what Encode gathers byte by byte.
-/
import Derived.Test.YtfihidnmgaiojaaBuf
namespace Go.Proofs.Ytfihidnmgaiojaa
open Go.RowKit
set_option linter.unusedVariables false

def signsB : ByteArray := ⟨#[65, 66, 67, 68, 69, 70, 71, 72, 73, 74, 75, 76, 77, 78, 79, 80, 81, 82, 83, 84, 85, 86, 87, 88, 89, 90, 97, 98, 99, 100, 101, 102, 103, 104, 105, 106, 107, 108, 109, 110, 111, 112, 113, 114, 115, 116, 117, 118, 119, 120, 121, 122, 48, 49, 50, 51, 52, 53, 54, 55, 56, 57, 45, 95]⟩

/-- The sign of a group. -/
def sg (n : Nat) : UInt8 := signsB.data.getD n 0

/-- What the k-th byte c, behind the byte p, adds. -/
def stp (k p c : Nat) : List UInt8 := if k % 3 = 0 then [sg (c / 4)] else if k % 3 = 1 then [sg (p % 4 * 16 + c / 16)] else [sg (p % 16 * 4 + c / 64), sg (c % 64)]
def pre (d : Nat → Nat) : Nat → List UInt8 | 0 => [] | k + 1 => pre d k ++ stp k (d (k - 1)) (d k)
def tl (d : Nat → Nat) (k : Nat) : List UInt8 := if k % 3 = 0 then [] else if k % 3 = 1 then [sg (d (k - 1) % 4 * 16)] else [sg (d (k - 1) % 16 * 4)]
def enc (d : Nat → Nat) (n : Nat) : List UInt8 := pre d n ++ tl d n

theorem stp_length (k p c : Nat) : (stp k p c).length = (if k % 3 = 2 then 2 else 1) := by
  unfold stp
  have : k % 3 = 0 ∨ k % 3 = 1 ∨ k % 3 = 2 := by omega
  rcases this with h | h | h <;> simp [h]
theorem pre_length (d : Nat → Nat) (k : Nat) : (pre d k).length = 4 * (k / 3) + k % 3 := by
  induction k with
  | zero => rfl
  | succ k ih =>
    rw [pre, List.length_append, ih, stp_length]
    split <;> omega
theorem tl_length (d : Nat → Nat) (k : Nat) : (tl d k).length = (if k % 3 = 0 then 0 else 1) := by
  unfold tl
  have : k % 3 = 0 ∨ k % 3 = 1 ∨ k % 3 = 2 := by omega
  rcases this with h | h | h <;> simp [h]
theorem enc_length (d : Nat → Nat) (k : Nat) : (enc d k).length = (4 * k + 2) / 3 := by
  rw [enc, List.length_append, pre_length, tl_length]
  have h3 : k % 3 = 0 ∨ k % 3 = 1 ∨ k % 3 = 2 := by omega
  rcases h3 with h | h | h <;> simp [h] <;> omega

/-- The bytes of a text, as numbers. -/
def dB (s : ByteArray) (k : Nat) : Nat := (s.data.getD k 0).toNat
theorem dB_at (s : ByteArray) (k : Nat) (h : k < s.size) : dB s k = (s[k]'h).toNat := by
  unfold dB
  have h' : k < s.data.size := h
  rw [Array.getD_eq_getD_getElem?, Array.getElem?_eq_getElem h']; rfl
theorem dB_lt (s : ByteArray) (k : Nat) : dB s k < 256 := (s.data.getD k 0).toNat_lt

theorem or_byte (x : BitVec 32) (b : Nat) (hb : b < 256) : (x <<< 8 ||| BitVec.ofNat 32 b).toNat = x.toNat * 256 % 4294967296 + b := by
  rw [BitVec.toNat_or, BitVec.toNat_shiftLeft, BitVec.toNat_ofNat, Nat.shiftLeft_eq]
  have e1 : x.toNat * 2 ^ 8 % 2 ^ 32 = (x.toNat % 2 ^ 24) <<< 8 := by rw [Nat.shiftLeft_eq]; omega
  have e2 : b % 2 ^ 32 = b := by omega
  rw [e1, e2, ← Nat.shiftLeft_add_eq_or_of_lt (by omega), Nat.shiftLeft_eq]

/-- The inner rounds: what is taken of the word. -/
theorem take_grp (x : BitVec 32) (k p c j m : Nat) (hc : c < 256) (hp : 0 < k → x.toNat % 256 = p) (hm : 6 * j + m = 2 * (k % 3) + 8) (h6 : 6 ≤ m) :
    (stp k p c).take (j + 1) = (stp k p c).take j ++ [sg (((x <<< 8 ||| BitVec.ofNat 32 c) >>> (m - 6)).toNat % 64)] := by
  rw [BitVec.toNat_ushiftRight, or_byte x c hc, Nat.shiftRight_eq_div_pow]
  unfold stp
  have h3 : k % 3 = 0 ∨ k % 3 = 1 ∨ k % 3 = 2 := by omega
  rcases h3 with h | h | h
  · obtain rfl : j = 0 := by omega
    obtain rfl : m = 8 := by omega
    simp [h]; congr 1; omega
  · obtain rfl : j = 0 := by omega
    obtain rfl : m = 10 := by omega
    have := hp (by omega)
    simp [h]; congr 1; omega
  · have := hp (by omega)
    have hj : j = 0 ∨ j = 1 := by omega
    rcases hj with rfl | rfl
    · obtain rfl : m = 12 := by omega
      simp [h]; congr 1; omega
    · obtain rfl : m = 6 := by omega
      simp [h]; congr 1; omega

theorem take_end (k p c j m : Nat) (hm : 6 * j + m = 2 * (k % 3) + 8) (h6 : m < 6) : (stp k p c).take j = stp k p c ∧ m = 2 * ((k + 1) % 3) := by
  refine ⟨List.take_of_length_le ?_, by omega⟩
  rw [stp_length]; split <;> omega

theorem tl_grp (x : BitVec 32) (d : Nat → Nat) (k : Nat) (hp : 0 < k → x.toNat % 256 = d (k - 1)) (h0 : 2 * (k % 3) ≠ 0) :
    tl d k = [sg ((x <<< (6 - 2 * (k % 3))).toNat % 64)] := by
  rw [BitVec.toNat_shiftLeft, Nat.shiftLeft_eq]
  unfold tl
  have := hp (by omega)
  have h3 : k % 3 = 1 ∨ k % 3 = 2 := by omega
  rcases h3 with h | h
  · simp [h]; congr 1; omega
  · simp [h]; congr 1; omega

end Go.Proofs.Ytfihidnmgaiojaa
