/-
  The document's answer: padded, in blocks of 128 bytes.
-/
import Derived.Test.YtfihidnmgaiojaaRText
namespace Go.Proofs.Ytfihidnmgaiojaa
open Go.RowKit
set_option linter.unusedVariables false

theorem bits8_64 (n : Nat) (h : n ≤ 140737488355328) : eS (BitVec.ofNat 64 (n * 8)) = 8 * (n : Int) := by
  unfold eS
  rw [BitVec.toInt_eq_toNat_cond, BitVec.toNat_ofNat]
  split <;> omega

/-- A text, byte 128, and k bytes 0. -/
def padTo64 (l : List UInt8) (k : Nat) : List UInt8 := l ++ [128] ++ List.replicate k 0
theorem padTo64_length (l : List UInt8) (k : Nat) : (padTo64 l k).length = l.length + 1 + k := by simp [padTo64]; omega
theorem padTo64_succ (l : List UInt8) (k : Nat) : padTo64 l (k + 1) = padTo64 l k ++ [0] := by simp [padTo64, List.replicate_succ']

set_option maxHeartbeats 400000 in
theorem rpadded64 (d : ByteArray) (w : World) (hd : d.size ≤ 140737488355328) :
    Calls Try.prog 26 #[.string d, .int .i64 128] w fun e w' => e = .returned (.string ⟨(endL 128 16 d.data.toList d.size).toArray⟩) ∧ Below w.heap.size w w' := by
  have hl : d.size + 1 ≤ 9223372036854775807 := by omega
  have hp : padZ 128 16 d.size < 128 := Nat.mod_lt _ (by omega)
  have HP : Hid (padZ 128 16 d.size < 128) := hp
  clear hp
  go_enter Try.func26, Try.ntmps26
  go_wp2_with fail
  go_loopw [5] (fun v wr => ∃ k : Nat, k ≤ padZ 128 16 d.size ∧ v = .string ⟨(padTo64 d.data.toList k).toArray⟩ ∧ wr = w) (fun v _ => 9223372036854775807 - (match v with | .string s => s.size | _ => 0))
  case atStart => exact ⟨0, by omega, congrArg Value.string (Go.WideShapes.bytes_inj (by simp [padTo64])), rfl⟩
  case round =>
    obtain ⟨k, hk, rfl, hw⟩ := hrel
    subst hw
    have hL : (padTo64 d.data.toList k).length = d.size + 1 + k := padTo64_length _ _
    generalize hQ : padTo64 d.data.toList k = L at hL
    have HQ : Hid _ := hQ
    clear hQ
    have hll : L.length + 1 ≤ 9223372036854775807 := by have := HP.out; omega
    by_cases hlt : k < padZ 128 16 d.size
    · have hne : ¬ ((L.length : Int) % 128 = 112) := by
        have := padZ_miss 128 16 d.size k (by omega) (by omega) (by omega) hlt
        omega
      go_wp2_with fail
      have ea : (⟨L.toArray⟩ ++ ⟨#[0]⟩ : ByteArray) = ⟨(padTo64 d.data.toList (k + 1)).toArray⟩ := by rw [padTo64_succ, HQ.out]; exact str_app L [0]
      refine ⟨⟨k + 1, by omega, by rw [ea], trivial⟩, ?_⟩
      show 9223372036854775807 - (⟨L.toArray⟩ ++ ⟨#[0]⟩ : ByteArray).size < 9223372036854775807 - (⟨L.toArray⟩ : ByteArray).size
      have e1 : (⟨L.toArray⟩ ++ ⟨#[0]⟩ : ByteArray).size = L.length + 1 := by rw [show (⟨L.toArray⟩ ++ ⟨#[0]⟩ : ByteArray) = _ from str_app L [0]]; show (L ++ [0]).toArray.size = _; simp
      have e2 : (⟨L.toArray⟩ : ByteArray).size = L.length := by show L.toArray.size = _; simp
      rw [e1, e2]; omega
    · obtain rfl : k = padZ 128 16 d.size := by omega
      have hne : (L.length : Int) % 128 = 112 := by
        have := padZ_hit 128 16 d.size (by omega) (by omega) (by omega)
        omega
      go_wp2_with fail
      have hc := rbytesOf (BitVec.ofNat 64 (d.size * 8)) 16 (by omega) wr
      rw [bits8_64 _ hd] at hc
      refine Calls.mono hc ?_
      rintro e1 w1 ⟨rfl, hb1⟩
      generalize hT : beTo 16 (BitVec.ofNat 64 (d.size * 8)) 16 = T
      have hTl : T.length = 16 := by rw [← hT]; exact beTo_length _ _ _
      have HT : Hid _ := hT
      clear hT hc
      have hl2 : L.length + T.length ≤ 9223372036854775807 := by have := HP.out; omega
      go_wp2_with fail
      go_ret
      refine ⟨?_, hb1⟩
      rw [str_app, endL, HT.out, ← HQ.out]
      rfl
end Go.Proofs.Ytfihidnmgaiojaa
