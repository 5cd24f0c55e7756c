/-
  The law BaseClean.
-/
import Derived.Test.YtfihidnmgaiojaaBValue
namespace Go.Proofs.Ytfihidnmgaiojaa
open Go.RowKit
set_option linter.unusedVariables false

theorem sign_of_stp (k p c : Nat) (hc : c < 256) : ∀ b ∈ stp k p c, ∃ x, x < 64 ∧ b = sg x := by
  intro b hb
  unfold stp at hb
  split at hb
  · simp at hb; exact ⟨_, by omega, hb⟩
  · split at hb
    · simp at hb; exact ⟨_, by omega, hb⟩
    · simp at hb
      rcases hb with hb | hb
      · exact ⟨_, by omega, hb⟩
      · exact ⟨_, by omega, hb⟩
theorem sign_of_pre (d : Nat → Nat) (hd : ∀ k, d k < 256) (n : Nat) : ∀ b ∈ pre d n, ∃ x, x < 64 ∧ b = sg x := by
  induction n with
  | zero => intro b hb; simp [pre] at hb
  | succ n ih =>
    intro b hb
    rw [pre, List.mem_append] at hb
    rcases hb with hb | hb
    · exact ih b hb
    · exact sign_of_stp n _ _ (hd n) b hb
theorem sign_of_enc (d : Nat → Nat) (hd : ∀ k, d k < 256) (n : Nat) : ∀ b ∈ enc d n, ∃ x, x < 64 ∧ b = sg x := by
  intro b hb
  rw [enc, List.mem_append] at hb
  rcases hb with hb | hb
  · exact sign_of_pre d hd n b hb
  · unfold tl at hb
    split at hb
    · simp at hb
    · split at hb
      · simp at hb; exact ⟨_, by omega, hb⟩
      · simp at hb; exact ⟨_, by omega, hb⟩

/-- A sign and three more. -/
theorem four (L : ByteArray) (i : Nat) (hi : i < L.size) (hL : ∀ (k : Nat) (h : k < L.size), ∃ x, x < 64 ∧ L[k] = sg x) :
    (L.extract i (i + 1) ++ (⟨#[65, 65, 65]⟩ : ByteArray)).size = 4 ∧
    ∃ v : Nat → Nat, ∀ k (h : k < (L.extract i (i + 1) ++ (⟨#[65, 65, 65]⟩ : ByteArray)).size), v k < 64 ∧ (L.extract i (i + 1) ++ (⟨#[65, 65, 65]⟩ : ByteArray))[k] = sg (v k) := by
  have hs1 : (L.extract i (i + 1)).size = 1 := by simp; omega
  have hs3 : (⟨#[65, 65, 65]⟩ : ByteArray).size = 3 := rfl
  have hs : (L.extract i (i + 1) ++ (⟨#[65, 65, 65]⟩ : ByteArray)).size = 4 := by rw [ByteArray.size_append, hs1, hs3]
  refine ⟨hs, ?_⟩
  obtain ⟨x, hx, hxe⟩ := hL i hi
  refine ⟨fun k => if k = 0 then x else 0, ?_⟩
  intro k hk
  have hk4 : k < 4 := by omega
  match k, hk4, hk with
  | 0, _, hk =>
    refine ⟨by simpa using hx, ?_⟩
    rw [ByteArray.getElem_append_left (by omega)]
    simpa [ByteArray.getElem_extract] using hxe
  | 1, _, hk =>
    refine ⟨by simp, ?_⟩
    rw [ByteArray.getElem_append_right (by omega)]
    simp [hs1]; rfl
  | 2, _, hk =>
    refine ⟨by simp, ?_⟩
    rw [ByteArray.getElem_append_right (by omega)]
    simp [hs1]; rfl
  | 3, _, hk =>
    refine ⟨by simp, ?_⟩
    rw [ByteArray.getElem_append_right (by omega)]
    simp [hs1]; rfl

set_option maxHeartbeats 400000 in
theorem law_clean (s : ByteArray) (w : World) (hs : s.size ≤ 140737488351232) :
    Calls Try.prog 9 #[.string s] w fun e w' => e = .returned (.bool true) ∧ Below w.heap.size w w' := by
  have h1 := fun w => encode_any s w hs
  have hLs : (⟨(enc (dB s) s.size).toArray⟩ : ByteArray).size = (4 * s.size + 2) / 3 := by
    show (enc (dB s) s.size).toArray.size = _
    rw [List.size_toArray, enc_length]
  have hLg : ∀ (k : Nat) (h : k < (⟨(enc (dB s) s.size).toArray⟩ : ByteArray).size), ∃ x, x < 64 ∧ (⟨(enc (dB s) s.size).toArray⟩ : ByteArray)[k] = sg x := by
    intro k h
    refine sign_of_enc (dB s) (dB_lt s) s.size _ ?_
    have h' : k < (enc (dB s) s.size).length := by rw [enc_length]; omega
    exact List.getElem_mem h'
  generalize (⟨(enc (dB s) s.size).toArray⟩ : ByteArray) = L at h1 hLs hLg
  have HG : Hid _ := hLg
  have hb1 : (s.size : Int) ≤ (L.size : Int) := by omega
  have hb2 : (L.size : Int) ≤ 4 * (((s.size : Int) + 2) / 3) := by omega
  have hb3 : L.size ≤ 220000000000000 := by omega
  clear hLs hLg
  go_enter Try.func9, Try.ntmps9
  go_wp2_with fail
  refine (h1 _).mono ?_
  rintro e w1 ⟨rfl, hB1⟩
  clear h1
  go_wp2_with fail
  go_loopw [4] (fun i wr => ∃ k : Nat, k ≤ L.size ∧ i = .int .i64 (k : Int) ∧ Below w.heap.size w wr) (fun i _ => L.size - (intOf i).toNat)
  case atStart => exact ⟨0, by omega, rfl, hB1⟩
  case round =>
    clear hB1
    obtain ⟨k, hk, rfl, hB⟩ := hrel
    by_cases hlt : k < L.size
    · have hlt' : (k : Int) < (L.size : Int) := by omega
      obtain ⟨hf4, v, hfv⟩ := four L k hlt HG.out
      have hd := fun w => rdecode4 _ v w hf4 hfv
      clear hf4 hfv
      go_wp2_with fail
      refine (hd _).mono ?_
      rintro e w2 ⟨⟨r, rfl⟩, hB2⟩
      have hB3 : Below w.heap.size w w2 := hB.trans (by have := hB.size; exact ⟨hB2.os, hB2.tape, hB2.output, hB2.size, fun k hk => hB2.block k (by omega)⟩)
      have HB3 : Hid _ := hB3
      clear hd hB2 hB3 hB
      go_wp2
      exact ⟨⟨k + 1, by omega, by go_num, HB3.out⟩, by simp [intOf]; omega⟩
    · have hlt' : (L.size : Int) ≤ (k : Int) := by omega
      go_wp2
      go_ret
      exact ⟨rfl, hB⟩
end Go.Proofs.Ytfihidnmgaiojaa
