/-
  The law BaseJoined.
-/
import Derived.Test.YtfihidnmgaiojaaBEnc
namespace Go.Proofs.Ytfihidnmgaiojaa
open Go.RowKit
set_option linter.unusedVariables false

theorem pre_congr (d e : Nat → Nat) (n : Nat) (h : ∀ k, k < n → d k = e k) : pre d n = pre e n := by
  induction n with
  | zero => rfl
  | succ n ih =>
    rw [pre, pre, ih fun k hk => h k (by omega), h n (by omega), h (n - 1) (by omega)]
theorem tl_congr (d e : Nat → Nat) (n : Nat) (h : ∀ k, k < n → d k = e k) : tl d n = tl e n := by
  unfold tl
  by_cases h0 : n % 3 = 0
  · simp [h0]
  · rw [h (n - 1) (by omega)]
theorem stp_shift (d : Nat → Nat) (m k : Nat) (hm : m % 3 = 0) : stp (m + k) (d (m + k - 1)) (d (m + k)) = stp k (d (m + (k - 1))) (d (m + k)) := by
  have e : (m + k) % 3 = k % 3 := by omega
  unfold stp
  rw [e]
  by_cases h0 : k % 3 = 0
  · simp [h0]
  · rw [show m + k - 1 = m + (k - 1) by omega]
theorem pre_shift (d : Nat → Nat) (m k : Nat) (hm : m % 3 = 0) : pre d (m + k) = pre d m ++ pre (fun j => d (m + j)) k := by
  induction k with
  | zero => simp [pre]
  | succ k ih => rw [← Nat.add_assoc, pre, pre, ih, List.append_assoc, stp_shift d m k hm]
theorem tl_shift (d : Nat → Nat) (m k : Nat) (hm : m % 3 = 0) : tl d (m + k) = tl (fun j => d (m + j)) k := by
  have e : (m + k) % 3 = k % 3 := by omega
  unfold tl
  rw [e]
  by_cases h0 : k % 3 = 0
  · simp [h0]
  · rw [show m + k - 1 = m + (k - 1) by omega]

theorem dB_left (x b : ByteArray) (k : Nat) (h : k < x.size) : dB (x ++ b) k = dB x k := by
  have h2 : k < (x ++ b).size := by rw [ByteArray.size_append]; omega
  rw [dB_at _ k h2, dB_at x k h, ByteArray.getElem_append_left h]
theorem dB_out' (s : ByteArray) (k : Nat) (h : s.size ≤ k) : dB s k = 0 := by
  unfold dB
  have h' : s.data.size ≤ k := h
  rw [Array.getD_eq_getD_getElem?, Array.getElem?_eq_none h']; rfl
theorem dB_right (x b : ByteArray) (k : Nat) : dB (x ++ b) (x.size + k) = dB b k := by
  by_cases h : k < b.size
  · have h2 : x.size + k < (x ++ b).size := by rw [ByteArray.size_append]; omega
    rw [dB_at _ _ h2, dB_at b k h, ByteArray.getElem_append_right (by omega)]
    simp
  · rw [dB_out' _ _ (by rw [ByteArray.size_append]; omega), dB_out' _ _ (by omega)]

theorem enc_joined (x b : ByteArray) (hx : x.size % 3 = 0) : enc (dB (x ++ b)) (x ++ b).size = enc (dB x) x.size ++ enc (dB b) b.size := by
  rw [ByteArray.size_append]
  unfold enc
  rw [pre_shift _ _ _ hx, tl_shift _ _ _ hx, pre_congr _ (dB x) _ (fun k hk => dB_left x b k hk)]
  have e : (fun j => dB (x ++ b) (x.size + j)) = dB b := funext fun j => dB_right x b j
  have e2 : tl (dB x) x.size = [] := by unfold tl; rw [if_pos hx]
  rw [e, e2, List.append_nil, List.append_assoc]

theorem below_next {a b c : World} (h1 : Below a.heap.size a b) (h2 : Below b.heap.size b c) : Below a.heap.size a c :=
  h1.trans (by have := h1.size; exact ⟨h2.os, h2.tape, h2.output, h2.size, fun k hk => h2.block k (by omega)⟩)

set_option maxHeartbeats 400000 in
theorem law_joined (a b : ByteArray) (w : World) (hs : a.size + b.size ≤ 1048576) :
    Calls Try.prog 8 #[.string a, .string b] w fun e w' => e = .returned (.bool true) ∧ Below w.heap.size w w' := by
  generalize hN : a.size - a.size % 3 = N
  have hNi : (a.size : Int) - (a.size : Int) % 3 = (N : Int) := by omega
  have hN2 : N ≤ a.size := by omega
  have hx : (a.extract 0 N).size = N := by simp; omega
  have h1 := fun w => encode_any (a.extract 0 N ++ b) w (by rw [ByteArray.size_append, hx]; omega)
  have h2 := fun w => encode_any (a.extract 0 N) w (by omega)
  have h3 := fun w => encode_any b w (by omega)
  have hj : (⟨(enc (dB (a.extract 0 N ++ b)) (a.extract 0 N ++ b).size).toArray⟩ : ByteArray) = ⟨(enc (dB (a.extract 0 N)) (a.extract 0 N).size).toArray⟩ ++ ⟨(enc (dB b) b.size).toArray⟩ := by
    rw [enc_joined _ _ (by rw [hx]; omega)]
    apply ByteArray.ext
    rw [ByteArray.data_append, ← List.append_toArray]
  rw [hj] at h1
  have hle : (N : Int) + (b.size : Int) ≤ (((⟨(enc (dB (a.extract 0 N)) (a.extract 0 N).size).toArray⟩ : ByteArray).size : Int) + ((⟨(enc (dB b) b.size).toArray⟩ : ByteArray).size : Int)) ∧ (((⟨(enc (dB (a.extract 0 N)) (a.extract 0 N).size).toArray⟩ : ByteArray).size : Int) + ((⟨(enc (dB b) b.size).toArray⟩ : ByteArray).size : Int)) ≤ 3000000 := by
    have e1 : (⟨(enc (dB (a.extract 0 N)) (a.extract 0 N).size).toArray⟩ : ByteArray).size = (4 * N + 2) / 3 := by
      show (enc (dB (a.extract 0 N)) (a.extract 0 N).size).toArray.size = _
      rw [List.size_toArray, enc_length, hx]
    have e2 : (⟨(enc (dB b) b.size).toArray⟩ : ByteArray).size = (4 * b.size + 2) / 3 := by
      show (enc (dB b) b.size).toArray.size = _
      rw [List.size_toArray, enc_length]
    rw [e1, e2]; omega
  clear hj hN hx
  generalize (⟨(enc (dB (a.extract 0 N)) (a.extract 0 N).size).toArray⟩ : ByteArray) = T at h1 h2 hle
  generalize (⟨(enc (dB b) b.size).toArray⟩ : ByteArray) = U at h1 h3 hle
  obtain ⟨hle, hle3⟩ := hle
  have hle4 : T.size + U.size ≤ 3000000 := by omega
  have hle2 : (N : Int) + (b.size : Int) ≤ ((T ++ U).size : Int) := by rw [ByteArray.size_append]; omega
  go_enter Try.func8, Try.ntmps8
  go_wp2_with fail
  refine (h1 _).mono ?_
  rintro e w1 ⟨rfl, hb1⟩
  have HB1 : Hid _ := hb1
  clear hb1
  go_wp2_with fail
  refine (h2 _).mono ?_
  rintro e w2 ⟨rfl, hb2⟩
  have HB2 : Hid _ := hb2
  clear hb2
  go_wp2_with fail
  refine (h3 _).mono ?_
  rintro e w3 ⟨rfl, hb3⟩
  have HB3 : Hid _ := hb3
  clear hb3 h1 h2 h3
  go_wp2
  go_ret
  refine ⟨?_, below_next (below_next HB1.out HB2.out) HB3.out⟩
  rfl
end Go.Proofs.Ytfihidnmgaiojaa
