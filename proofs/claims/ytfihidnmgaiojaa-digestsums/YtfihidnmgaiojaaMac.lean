/-
  digest.Mac.
-/
import Derived.Test.YtfihidnmgaiojaaMask
namespace Go.Proofs.Ytfihidnmgaiojaa
open Go.RowKit
set_option linter.unusedVariables false

def blockN (a : Int) : Nat := if a = 256 then 64 else 128

/-- A key of more than a block is its sum. -/
def keyL (sum : List UInt8 → List UInt8) (n : Nat) (k : List UInt8) : List UInt8 := if n < k.length then sum k else k
def macL (sum : List UInt8 → List UInt8) (n : Nat) (k d : List UInt8) : List UInt8 := sum (maskL n 92 (keyL sum n k) ++ sum (maskL n 54 (keyL sum n k) ++ d))
def codeMac (a : Int) (k d : List UInt8) : List UInt8 := if isAlg a = true then macL (codeSum a) (blockN a) k d else []

theorem codeSum_length (a : Int) (l : List UInt8) : ((codeSum a l).length : Int) = sizeL a := by
  unfold codeSum sizeL
  by_cases h1 : a = 256
  · rw [if_pos h1, if_pos h1, writeTo32_length]; rfl
  · rw [if_neg h1, if_neg h1]
    by_cases h2 : a = 384
    · rw [if_pos h2, if_pos h2, List.length_take, writeTo64_length]; rfl
    · rw [if_neg h2, if_neg h2]
      by_cases h3 : a = 512
      · rw [if_pos h3, if_pos h3, writeTo64_length]; rfl
      · rw [if_neg h3, if_neg h3]; rfl

theorem isAlg_cases {a : Int} (h : isAlg a = true) : a = 256 ∨ a = 384 ∨ a = 512 := by
  simp [isAlg] at h; omega
theorem sizeL_pos {a : Int} (h : isAlg a = true) : 0 < sizeL a ∧ sizeL a ≤ blockN a := by
  rcases isAlg_cases h with rfl | rfl | rfl <;> decide
theorem sizeL_zero {a : Int} (h : isAlg a = false) : sizeL a = 0 := by
  simp [isAlg] at h; simp [sizeL, h]

theorem sumx (a : Int) (d : ByteArray) (w : World) (hd : d.size ≤ 140737488355328) :
    Calls Try.prog 10 #[.int .i64 a, .string d] w fun e w' => (∃ T : ByteArray, T.data.toList = codeSum a d.data.toList ∧ e = .returned (.string T)) ∧ Below w.heap.size w w' :=
  (sum_any a d w hd).mono fun e w' ⟨he, hb⟩ => ⟨⟨_, rfl, he⟩, hb⟩
theorem maskx (k : ByteArray) (n : Nat) (c : UInt8) (w : World) (hk : k.size ≤ n) (hn : n ≤ 128) :
    Calls Try.prog 30 #[.string k, .int .i64 (n : Int), .int .u8 (c.toNat : Int)] w
      fun e w' => (∃ T : ByteArray, T.data.toList = maskL n c k.data.toList ∧ e = .returned (.string T)) ∧ Below w.heap.size w w' :=
  (mask_any k n c w hk hn).mono fun e w' ⟨he, hb⟩ => ⟨⟨_, rfl, he⟩, hb⟩
theorem maskL_length (n : Nat) (c : UInt8) (k : List UInt8) (h : k.length ≤ n) : (maskL n c k).length = n := by simp [maskL, padK]; omega
theorem ksizex (a : Int) (w : World) : Calls Try.prog 29 #[.int .i64 a] w fun e w' => e = .returned (.int .i64 (blockN a : Int)) ∧ w' = w :=
  (ksize_any a w).mono fun e w' ⟨he, hw⟩ => ⟨by rw [he]; unfold blockN; by_cases h : a = 256 <;> simp [h], hw⟩

set_option maxHeartbeats 400000 in
theorem mac_none (a : Int) (k d : ByteArray) (w : World) (h : isAlg a = false) :
    Calls Try.prog 14 #[.int .i64 a, .string k, .string d] w fun e w' => e = .returned (.string ⟨#[]⟩) ∧ w' = w := by
  have hs := sizeL_zero h
  clear h
  go_enter Try.func14, Try.ntmps14
  go_wp2_with (go_at_call 11; refine (size_any a _).mono ?_; rintro e1 w1 ⟨rfl, hw1⟩; rw [hw1, hs]; clear hw1 w1)
  go_ret
  exact ⟨rfl, rfl⟩

set_option maxHeartbeats 400000 in
theorem mac_short (a : Int) (k d : ByteArray) (w : World) (h : isAlg a = true) (hk : k.size ≤ blockN a) (hd : d.size ≤ 140737488351232) :
    Calls Try.prog 14 #[.int .i64 a, .string k, .string d] w fun e w' => e = .returned (.string ⟨(macL (codeSum a) (blockN a) k.data.toList d.data.toList).toArray⟩) ∧ Below w.heap.size w w' := by
  have hs := sizeL_pos h
  have hs0 : (sizeL a == 0) = false := by rw [beq_eq_false_iff_ne]; omega
  have hn : blockN a ≤ 128 := by unfold blockN; split <;> omega
  have HKL : Hid (keyL (codeSum a) (blockN a) k.data.toList = k.data.toList) := by show keyL _ _ _ = _; rw [keyL, if_neg (by simp; omega)]
  have hlen : ∀ l, ((codeSum a l).length : Int) ≤ 128 := fun l => by rw [codeSum_length]; omega
  have HLen : Hid (∀ l, ((codeSum a l).length : Int) ≤ 128) := hlen
  clear h hs hlen
  generalize hN : blockN a = n at hk hn HKL
  go_enter Try.func14, Try.ntmps14
  go_wp2_with (first | (go_at_call 11; refine (size_any a _).mono ?_; rintro e1 w1 ⟨rfl, hw1⟩; rw [hw1]; clear hw1 w1) | (go_at_call 29; refine (ksizex a _).mono ?_; rintro e1 w1 ⟨rfl, hw1⟩; rw [hw1, hN]; clear hw1 w1))
  refine (maskx k n 54 _ hk hn).mono ?_
  rintro e1 w1 ⟨⟨T1, hT1, rfl⟩, hb1⟩
  have h1s : T1.size ≤ 128 := by
    have e : T1.data.toList.length = T1.size := by simp
    rw [← e, hT1, maskL_length _ _ _ (by simpa using hk)]; exact hn
  have HT1 : Hid _ := hT1
  clear hT1
  go_wp2_with fail
  refine (sumx a (T1 ++ d) _ (by simp; omega)).mono ?_
  rintro e2 w2 ⟨⟨T2, hT2, rfl⟩, hb2⟩
  have h2s : T2.size ≤ 128 := by
    have e : T2.data.toList.length = T2.size := by simp
    have h := HLen.out (T1 ++ d).data.toList
    rw [← hT2, e] at h; omega
  have HT2 : Hid _ := hT2
  clear hT2
  go_wp2_with fail
  refine (maskx k n 92 _ hk hn).mono ?_
  rintro e3 w3 ⟨⟨T3, hT3, rfl⟩, hb3⟩
  have h3s : T3.size ≤ 128 := by
    have e : T3.data.toList.length = T3.size := by simp
    rw [← e, hT3, maskL_length _ _ _ (by simpa using hk)]; exact hn
  have HT3 : Hid _ := hT3
  clear hT3
  go_wp2_with fail
  refine (sumx a (T3 ++ T2) _ (by simp; omega)).mono ?_
  rintro e4 w4 ⟨⟨T4, hT4, rfl⟩, hb4⟩
  have HT4 : Hid _ := hT4
  clear hT4
  go_wp2_with fail
  go_ret
  have B1 := hb1.trans (hb2.mono hb1.size)
  have B2 := B1.trans (hb3.mono B1.size)
  have B3 := B2.trans (hb4.mono B2.size)
  refine ⟨?_, B3⟩
  show Ending.returned (.string T4) = _
  have e1 : T4 = ⟨(macL (codeSum a) n k.data.toList d.data.toList).toArray⟩ := by
    apply Go.WideShapes.bytes_inj
    rw [HT4.out, macL, HKL.out]
    simp [HT3.out, HT2.out, HT1.out]
  rw [e1]

set_option maxHeartbeats 400000 in
theorem mac_long (a : Int) (k d : ByteArray) (w : World) (h : isAlg a = true) (hk : blockN a < k.size) (hkk : k.size ≤ 140737488355328) (hd : d.size ≤ 140737488351232) :
    Calls Try.prog 14 #[.int .i64 a, .string k, .string d] w fun e w' => e = .returned (.string ⟨(macL (codeSum a) (blockN a) k.data.toList d.data.toList).toArray⟩) ∧ Below w.heap.size w w' := by
  have hs := sizeL_pos h
  have hs0 : (sizeL a == 0) = false := by rw [beq_eq_false_iff_ne]; omega
  have hn : blockN a ≤ 128 := by unfold blockN; split <;> omega
  have HKL : Hid (keyL (codeSum a) (blockN a) k.data.toList = codeSum a k.data.toList) := by show keyL _ _ _ = _; rw [keyL, if_pos (by simp; omega)]
  have hlen : ∀ l, ((codeSum a l).length : Int) ≤ 128 := fun l => by rw [codeSum_length]; omega
  have hln : ∀ l, (codeSum a l).length ≤ blockN a := fun l => by have := codeSum_length a l; omega
  have HLen : Hid (∀ l, ((codeSum a l).length : Int) ≤ 128) := hlen
  have HLn : Hid (∀ l, (codeSum a l).length ≤ blockN a) := hln
  clear h hs hlen hln
  generalize hN : blockN a = n at hk hn HKL HLn
  go_enter Try.func14, Try.ntmps14
  go_wp2_with (first | (go_at_call 11; refine (size_any a _).mono ?_; rintro e1 w1 ⟨rfl, hw1⟩; rw [hw1]; clear hw1 w1) | (go_at_call 29; refine (ksizex a _).mono ?_; rintro e1 w1 ⟨rfl, hw1⟩; rw [hw1, hN]; clear hw1 w1))
  refine (sumx a k _ hkk).mono ?_
  rintro e0 w0 ⟨⟨T0, hT0, rfl⟩, hb0⟩
  have h0s : T0.size ≤ n := by
    have e : T0.data.toList.length = T0.size := by simp
    have h := HLn.out k.data.toList
    rw [← hT0, e] at h; omega
  have HT0 : Hid _ := hT0
  clear hT0
  go_wp2_with fail
  refine (maskx T0 n 54 _ h0s hn).mono ?_
  rintro e1 w1 ⟨⟨T1, hT1, rfl⟩, hb1⟩
  have h1s : T1.size ≤ 128 := by
    have e : T1.data.toList.length = T1.size := by simp
    rw [← e, hT1, maskL_length _ _ _ (by simpa using h0s)]; exact hn
  have HT1 : Hid _ := hT1
  clear hT1
  go_wp2_with fail
  refine (sumx a (T1 ++ d) _ (by simp; omega)).mono ?_
  rintro e2 w2 ⟨⟨T2, hT2, rfl⟩, hb2⟩
  have h2s : T2.size ≤ 128 := by
    have e : T2.data.toList.length = T2.size := by simp
    have h := HLen.out (T1 ++ d).data.toList
    rw [← hT2, e] at h; omega
  have HT2 : Hid _ := hT2
  clear hT2
  go_wp2_with fail
  refine (maskx T0 n 92 _ h0s hn).mono ?_
  rintro e3 w3 ⟨⟨T3, hT3, rfl⟩, hb3⟩
  have h3s : T3.size ≤ 128 := by
    have e : T3.data.toList.length = T3.size := by simp
    rw [← e, hT3, maskL_length _ _ _ (by simpa using h0s)]; exact hn
  have HT3 : Hid _ := hT3
  clear hT3
  go_wp2_with fail
  refine (sumx a (T3 ++ T2) _ (by simp; omega)).mono ?_
  rintro e4 w4 ⟨⟨T4, hT4, rfl⟩, hb4⟩
  have HT4 : Hid _ := hT4
  clear hT4
  go_wp2_with fail
  go_ret
  have B0 := hb0.trans (hb1.mono hb0.size)
  have B1 := B0.trans (hb2.mono B0.size)
  have B2 := B1.trans (hb3.mono B1.size)
  have B3 := B2.trans (hb4.mono B2.size)
  refine ⟨?_, B3⟩
  show Ending.returned (.string T4) = _
  have e1 : T4 = ⟨(macL (codeSum a) n k.data.toList d.data.toList).toArray⟩ := by
    apply Go.WideShapes.bytes_inj
    rw [HT4.out, macL, HKL.out]
    simp [HT3.out, HT2.out, HT1.out, HT0.out]
  rw [e1]

theorem mac_any (a : Int) (k d : ByteArray) (w : World) (hkk : k.size ≤ 140737488355328) (hd : d.size ≤ 140737488351232) :
    Calls Try.prog 14 #[.int .i64 a, .string k, .string d] w fun e w' => e = .returned (.string ⟨(codeMac a k.data.toList d.data.toList).toArray⟩) ∧ Below w.heap.size w w' := by
  unfold codeMac
  cases h : isAlg a with
  | false => exact (mac_none a k d w h).mono fun e w' ⟨he, hw⟩ => ⟨he, by rw [hw]; exact brf w⟩
  | true =>
    rw [if_pos rfl]
    by_cases hk : blockN a < k.size
    · exact mac_long a k d w h hk hkk hd
    · exact mac_short a k d w h (by omega) hd

end Go.Proofs.Ytfihidnmgaiojaa
