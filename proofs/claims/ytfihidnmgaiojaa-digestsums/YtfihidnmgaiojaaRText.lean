/-
  The document's answer: bytesOf, padded.
-/
import Derived.Test.YtfihidnmgaiojaaRRead
import Derived.Test.YtfihidnmgaiojaaRTurn64
import Derived.Test.YtfihidnmgaiojaaBuf
namespace Go.Proofs.Ytfihidnmgaiojaa
open Go.RowKit
set_option linter.unusedVariables false

theorem byte_sar (x : BitVec 64) (k : Nat) (h : k ≤ 56) : eS x / 2 ^ k % 256 = ((byteOf (x >>> k)).toNat : Int) := by
  rw [sarS]
  have h2 : (x.sshiftRight k).setWidth 8 = (x >>> k).setWidth 8 := by
    apply BitVec.eq_of_getLsbD_eq
    intro i hi
    simp only [BitVec.getLsbD_setWidth, BitVec.getLsbD_sshiftRight, BitVec.getLsbD_ushiftRight]
    have h3 : k + i < 64 := by omega
    have h4 : i < 64 := by omega
    simp [h3, h4, hi]
  have h5 : ∀ y : BitVec 64, eS y % 256 = (((y.setWidth 8).toNat : Nat) : Int) := by
    intro y
    have hy := y.isLt
    unfold eS
    rw [BitVec.toInt_eq_toNat_cond, BitVec.toNat_setWidth]
    split <;> omega
  rw [h5, h2]
  unfold byteOf
  simp

theorem str1 (W : World) (c : UInt8) : Sem.run Try.prog (convert 56 9 (.slice (some ⟨W.heap.size, 0, none⟩) 1 1)) (W.alloc (.cells #[.int .u8 (c.toNat : Int)] 5)) = .ok (.string ⟨#[c]⟩) (W.alloc (.cells #[.int .u8 (c.toNat : Int)] 5)) := by
  refine run_convert_bytes_back _ 56 9 5 ⟨W.heap.size, 0, none⟩ 1 [c] Try.underlying56 Try.underlying5 Try.underlying9 ?_
  intro j hj
  obtain rfl : j = 0 := by simpa using hj
  show (W.alloc _).cell? ⟨W.heap.size, 0, none⟩ = _
  rw [cell_of_row _ _ _ _ _ _ (heap_alloc_new _ _)]; rfl

theorem beTo_far (n : Nat) (x : BitVec 64) (m : Nat) (h : 8 ≤ n - 1 - m) : byteOf (x >>> (8 * (n - 1 - m))) = 0 := by
  have e : x >>> (8 * (n - 1 - m)) = 0 := by
    apply BitVec.eq_of_toNat_eq
    rw [BitVec.toNat_ushiftRight, Nat.shiftRight_eq_div_pow]
    have h1 := x.isLt
    have h2 : 2 ^ 64 ≤ 2 ^ (8 * (n - 1 - m)) := Nat.pow_le_pow_right (by omega) (by omega)
    exact Nat.div_eq_of_lt (by omega)
  rw [e]; rfl

theorem beTo_ex (c : Nat) (x : BitVec 32) (k : Nat) : beTo c (ex x) k = beTo c x k := by
  induction k with
  | zero => rfl
  | succ k ih =>
    have hx : (ex x).toNat = x.toNat := by unfold ex; rw [BitVec.toNat_setWidth]; have := x.isLt; omega
    have e : ∀ j : Nat, byteOf (ex x >>> j) = byteOf (x >>> j) := by
      intro j
      unfold byteOf
      rw [BitVec.toNat_ushiftRight, BitVec.toNat_ushiftRight, hx]
    rw [beTo, beTo, ih, e]

theorem str_app (l k : List UInt8) : (⟨l.toArray⟩ ++ ⟨k.toArray⟩ : ByteArray) = ⟨(l ++ k).toArray⟩ := Go.WideShapes.bytes_inj (by simp)

set_option maxHeartbeats 400000 in
theorem rbytesOf (x : BitVec 64) (n : Nat) (hn : n ≤ 16) (w : World) :
    Calls Try.prog 28 #[.int .i64 (eS x), .int .i64 (n : Int)] w fun e w' => e = .returned (.string ⟨(beTo n x n).toArray⟩) ∧ Below w.heap.size w w' := by
  go_enter Try.func28, Try.ntmps28
  go_wp2_with fail
  go_loopw [5, 6] (fun v i wr => ∃ m : Nat, m ≤ n ∧ i = .int .i64 ((n : Int) - 1 - m) ∧ v = .string ⟨(beTo n x m).toArray⟩ ∧ Below w.heap.size w wr) (fun _ i _ => (intOf i + 1).toNat)
  case atStart => exact ⟨0, by omega, by simp, rfl, brf _⟩
  case round =>
    obtain ⟨m, hm, rfl, rfl, hb⟩ := hrel
    by_cases hlt : m < n
    · have hi0 : (0 : Int) ≤ (n : Int) - 1 - m := by omega
      have hbl : (beTo n x m).length + 1 ≤ 9223372036854775807 := by rw [beTo_length]; omega
      have HB : Hid _ := hb
      clear hb
      by_cases h8 : (n : Int) - 1 - m < 8
      · have hs1 := str1 wr (byteOf (x >>> (8 * (n - 1 - m))))
        rw [← byte_sar x _ (by omega)] at hs1
        go_wp2_with fail
        go_roundw
        case rel => first | exact ⟨m + 1, by omega, by go_num, by rw [beTo, ← str_app], bal HB.out _⟩ | ((repeat apply Exists.intro); refine ⟨⟨m + 1, by omega, by go_num, by rw [beTo, ← str_app], bal HB.out _⟩, rfl⟩)
        case measure => simp [intOf]; omega
      · have hs1 := str1 wr 0
        rw [show (((0 : UInt8).toNat : Nat) : Int) = 0 from rfl] at hs1
        go_wp2_with fail
        go_roundw
        case rel => first | exact ⟨m + 1, by omega, by go_num, by rw [beTo, beTo_far n x m (by omega), ← str_app], bal HB.out _⟩ | ((repeat apply Exists.intro); refine ⟨⟨m + 1, by omega, by go_num, by rw [beTo, beTo_far n x m (by omega), ← str_app], bal HB.out _⟩, rfl⟩)
        case measure => simp [intOf]; omega
    · obtain rfl : m = n := by omega
      go_wp2_with fail
      go_ret
      exact ⟨rfl, hb⟩
end Go.Proofs.Ytfihidnmgaiojaa
