/-
  The document's answer: Mac; the law DigestMacs.
-/
import Derived.Test.YtfihidnmgaiojaaRSumAll
import Derived.Test.YtfihidnmgaiojaaRVeil
namespace Go.Proofs.Ytfihidnmgaiojaa
open Go.RowKit
set_option linter.unusedVariables false

theorem rsumx (a : Int) (d : ByteArray) (w : World) (hd : d.size ≤ 140737488355328) :
    Calls Try.prog 12 #[.int .i64 a, .string d] w fun e w' => (∃ T : ByteArray, T.data.toList = codeSum a d.data.toList ∧ e = .returned (.string T)) ∧ Below w.heap.size w w' :=
  (rsum_any a d w hd).mono fun e w' ⟨he, hb⟩ => ⟨⟨_, rfl, he⟩, hb⟩

theorem list_size (T : ByteArray) : T.data.toList.length = T.size := by simp
theorem size_list (L : List UInt8) : (⟨L.toArray⟩ : ByteArray).size = L.length := by show L.toArray.size = _; simp

theorem macL_eq (sum : List UInt8 → List UInt8) (n : Nat) (k d K L : List UInt8) (hK : keyL sum n k = K) (hL : L = K ++ List.replicate (n - K.length) 0) : macL sum n k d = sum (L.map (· ^^^ 92) ++ sum (L.map (· ^^^ 54) ++ d)) := by
  unfold macL maskL padK
  rw [hK, hL]

set_option maxHeartbeats 400000 in
theorem rmac_none (a : Int) (k d : ByteArray) (w : World) (h : isAlg a = false) :
    Calls Try.prog 15 #[.int .i64 a, .string k, .string d] w fun e w' => e = .returned (.string ⟨#[]⟩) ∧ w' = w := by
  have hs := sizeL_zero h
  clear h
  go_enter Try.func15, Try.ntmps15
  go_wp2_with (go_at_call 13; refine (rsize_any a _).mono ?_; rintro e1 w1 ⟨rfl, hw1⟩; rw [hw1, hs]; clear hw1 w1)
  go_ret
  exact ⟨rfl, rfl⟩

set_option maxHeartbeats 400000 in
theorem rmac_256s (a : Int) (k d : ByteArray) (w : World) (h : isAlg a = true) (ha : (a == 256) = true) (hN : blockN a = 64) (hk : k.size ≤ 64) (hkk : k.size ≤ 140737488355328) (hd : d.size ≤ 140737488351232) :
    Calls Try.prog 15 #[.int .i64 a, .string k, .string d] w fun e w' => e = .returned (.string ⟨(macL (codeSum a) 64 k.data.toList d.data.toList).toArray⟩) ∧ Below w.heap.size w w' := by
  have hs := sizeL_pos h
  have hs0 : (sizeL a == 0) = false := by rw [beq_eq_false_iff_ne]; omega
  have hlen : ∀ T : ByteArray, ∀ l, T.data.toList = codeSum a l → T.size ≤ 64 := fun T l e => by have := codeSum_length a l; rw [← e, list_size] at this; omega
  have HLen : Hid _ := hlen
  clear h hs hlen hN
  have hi0 : (k.size : Int) ≤ 64 := by omega
  go_enter Try.func15, Try.ntmps15
  go_wp2_with (go_at_call 13; refine (rsize_any a _).mono ?_; rintro e1 w1 ⟨rfl, hw1⟩; rw [hw1]; clear hw1 w1)
  obtain ⟨K0, hK0⟩ : ∃ K0, K0 = k := ⟨_, rfl⟩
  obtain ⟨w0, hw0⟩ : ∃ w0, w0 = w := ⟨_, rfl⟩
  have hk0 : K0.size ≤ 64 := by rw [hK0]; exact hk
  have HK : Hid (keyL (codeSum a) 64 k.data.toList = K0.data.toList) := by show keyL _ _ _ = _; rw [keyL, if_neg (by rw [list_size]; omega), hK0]
  have HB0 : Hid (Below w.heap.size w w0) := by rw [hw0]; exact brf w
  have HE : Hid (K0 = k ∧ w0 = w) := ⟨hK0, hw0⟩
  clear hkk hK0 hw0
  go_loopw [1] (fun v wr => ∃ j : Nat, j ≤ 64 - K0.size ∧ v = .string ⟨(K0.data.toList ++ List.replicate j 0).toArray⟩ ∧ wr = w0) (fun v _ => 64 - (match v with | .string s => s.size | _ => 0))
  case atStart => exact ⟨0, by omega, by rw [HE.out.1]; simp, HE.out.2.symm⟩
  case round =>
    obtain ⟨j, hj, rfl, hw⟩ := hrel
    subst hw
    have hLl : (K0.data.toList ++ List.replicate j 0).length = K0.size + j := by simp
    generalize hL : K0.data.toList ++ List.replicate j 0 = L at hLl
    have HL : Hid (K0.data.toList ++ List.replicate j 0 = L) := hL
    clear hL
    by_cases hlt : j < 64 - K0.size
    · have hi1 : (L.length : Int) < 64 := by omega
      have hi2 : L.length + 1 ≤ 9223372036854775807 := by omega
      have HLl : Hid _ := hLl
      clear hLl
      go_wp2_with fail
      have ea : (⟨L.toArray⟩ ++ ⟨#[0]⟩ : ByteArray) = ⟨(K0.data.toList ++ List.replicate (j + 1) 0).toArray⟩ := by rw [List.replicate_succ', ← List.append_assoc, HL.out]; exact str_app L [0]
      refine ⟨⟨j + 1, by omega, by rw [ea], trivial⟩, ?_⟩
      show 64 - (⟨L.toArray⟩ ++ ⟨#[0]⟩ : ByteArray).size < 64 - (⟨L.toArray⟩ : ByteArray).size
      rw [show (⟨L.toArray⟩ ++ ⟨#[0]⟩ : ByteArray) = _ from str_app L [0], size_list, size_list, List.length_append]
      show 64 - (L.length + 1) < 64 - L.length
      omega
    · have hLn : L.length = 64 := by omega
      have hi1 : ¬ (L.length : Int) < 64 := by omega
      have HLe : Hid (L = K0.data.toList ++ List.replicate (64 - K0.data.toList.length) 0) := by show L = _; rw [← HL.out, list_size]; congr 2; omega
      have HLn : Hid (L.length = 64) := hLn
      clear hLn hLl
      go_wp2_with fail
      refine (veiled_any ⟨L.toArray⟩ 54 _ (by rw [size_list, HLn.out]; omega)).mono ?_
      rintro e1 w1 ⟨⟨T1, hT1, rfl⟩, hb1⟩
      have h1s : T1.size ≤ 128 := by rw [← list_size, hT1, List.length_map]; show L.length ≤ 128; rw [HLn.out]; omega
      have HT1 : Hid _ := hT1
      clear hT1
      go_wp2_with fail
      refine (rsumx a (T1 ++ d) _ (by simp; omega)).mono ?_
      rintro e2 w2 ⟨⟨T2, hT2, rfl⟩, hb2⟩
      have h2s := HLen.out T2 _ hT2
      have HT2 : Hid _ := hT2
      clear hT2
      go_wp2_with fail
      refine (veiled_any ⟨L.toArray⟩ 92 _ (by rw [size_list, HLn.out]; omega)).mono ?_
      rintro e3 w3 ⟨⟨T3, hT3, rfl⟩, hb3⟩
      have h3s : T3.size ≤ 128 := by rw [← list_size, hT3, List.length_map]; show L.length ≤ 128; rw [HLn.out]; omega
      have HT3 : Hid _ := hT3
      clear hT3
      go_wp2_with fail
      refine (rsumx a (T3 ++ T2) _ (by simp; omega)).mono ?_
      rintro e4 w4 ⟨⟨T4, hT4, rfl⟩, hb4⟩
      have HT4 : Hid _ := hT4
      clear hT4
      go_wp2_with fail
      go_ret
      have B0 := HB0.out.trans (hb1.mono HB0.out.size)
      have B1 := B0.trans (hb2.mono B0.size)
      have B2 := B1.trans (hb3.mono B1.size)
      have B3 := B2.trans (hb4.mono B2.size)
      refine ⟨?_, B3⟩
      show Ending.returned (.string T4) = _
      have e1 : T4 = ⟨(macL (codeSum a) 64 k.data.toList d.data.toList).toArray⟩ := by
        apply Go.WideShapes.bytes_inj
        rw [HT4.out, macL_eq _ _ _ _ _ _ HK.out HLe.out]
        simp [HT3.out, HT2.out, HT1.out]
      rw [e1]

set_option maxHeartbeats 400000 in
theorem rmac_256l (a : Int) (k d : ByteArray) (w : World) (h : isAlg a = true) (ha : (a == 256) = true) (hN : blockN a = 64) (hk : 64 < k.size) (hkk : k.size ≤ 140737488355328) (hd : d.size ≤ 140737488351232) :
    Calls Try.prog 15 #[.int .i64 a, .string k, .string d] w fun e w' => e = .returned (.string ⟨(macL (codeSum a) 64 k.data.toList d.data.toList).toArray⟩) ∧ Below w.heap.size w w' := by
  have hs := sizeL_pos h
  have hs0 : (sizeL a == 0) = false := by rw [beq_eq_false_iff_ne]; omega
  have hlen : ∀ T : ByteArray, ∀ l, T.data.toList = codeSum a l → T.size ≤ 64 := fun T l e => by have := codeSum_length a l; rw [← e, list_size] at this; omega
  have HLen : Hid _ := hlen
  clear h hs hlen hN
  have hi0 : (64 : Int) < (k.size : Int) := by omega
  go_enter Try.func15, Try.ntmps15
  go_wp2_with (go_at_call 13; refine (rsize_any a _).mono ?_; rintro e1 w1 ⟨rfl, hw1⟩; rw [hw1]; clear hw1 w1)
  refine (rsumx a k _ hkk).mono ?_
  rintro e0 w0 ⟨⟨K0, hK0, rfl⟩, hb0⟩
  have hk0 : K0.size ≤ 64 := HLen.out K0 _ hK0
  have HK : Hid (keyL (codeSum a) 64 k.data.toList = K0.data.toList) := by show keyL _ _ _ = _; rw [keyL, if_pos (by rw [list_size]; exact hk), hK0]
  have HB0 : Hid _ := hb0
  clear hb0 hK0 hk hkk hi0
  go_wp2_with fail
  go_loopw [1] (fun v wr => ∃ j : Nat, j ≤ 64 - K0.size ∧ v = .string ⟨(K0.data.toList ++ List.replicate j 0).toArray⟩ ∧ wr = w0) (fun v _ => 64 - (match v with | .string s => s.size | _ => 0))
  case atStart => exact ⟨0, by omega, by simp, rfl⟩
  case round =>
    obtain ⟨j, hj, rfl, hw⟩ := hrel
    subst hw
    have hLl : (K0.data.toList ++ List.replicate j 0).length = K0.size + j := by simp
    generalize hL : K0.data.toList ++ List.replicate j 0 = L at hLl
    have HL : Hid (K0.data.toList ++ List.replicate j 0 = L) := hL
    clear hL
    by_cases hlt : j < 64 - K0.size
    · have hi1 : (L.length : Int) < 64 := by omega
      have hi2 : L.length + 1 ≤ 9223372036854775807 := by omega
      have HLl : Hid _ := hLl
      clear hLl
      go_wp2_with fail
      have ea : (⟨L.toArray⟩ ++ ⟨#[0]⟩ : ByteArray) = ⟨(K0.data.toList ++ List.replicate (j + 1) 0).toArray⟩ := by rw [List.replicate_succ', ← List.append_assoc, HL.out]; exact str_app L [0]
      refine ⟨⟨j + 1, by omega, by rw [ea], trivial⟩, ?_⟩
      show 64 - (⟨L.toArray⟩ ++ ⟨#[0]⟩ : ByteArray).size < 64 - (⟨L.toArray⟩ : ByteArray).size
      rw [show (⟨L.toArray⟩ ++ ⟨#[0]⟩ : ByteArray) = _ from str_app L [0], size_list, size_list, List.length_append]
      show 64 - (L.length + 1) < 64 - L.length
      omega
    · have hLn : L.length = 64 := by omega
      have hi1 : ¬ (L.length : Int) < 64 := by omega
      have HLe : Hid (L = K0.data.toList ++ List.replicate (64 - K0.data.toList.length) 0) := by show L = _; rw [← HL.out, list_size]; congr 2; omega
      have HLn : Hid (L.length = 64) := hLn
      clear hLn hLl
      go_wp2_with fail
      refine (veiled_any ⟨L.toArray⟩ 54 _ (by rw [size_list, HLn.out]; omega)).mono ?_
      rintro e1 w1 ⟨⟨T1, hT1, rfl⟩, hb1⟩
      have h1s : T1.size ≤ 128 := by rw [← list_size, hT1, List.length_map]; show L.length ≤ 128; rw [HLn.out]; omega
      have HT1 : Hid _ := hT1
      clear hT1
      go_wp2_with fail
      refine (rsumx a (T1 ++ d) _ (by simp; omega)).mono ?_
      rintro e2 w2 ⟨⟨T2, hT2, rfl⟩, hb2⟩
      have h2s := HLen.out T2 _ hT2
      have HT2 : Hid _ := hT2
      clear hT2
      go_wp2_with fail
      refine (veiled_any ⟨L.toArray⟩ 92 _ (by rw [size_list, HLn.out]; omega)).mono ?_
      rintro e3 w3 ⟨⟨T3, hT3, rfl⟩, hb3⟩
      have h3s : T3.size ≤ 128 := by rw [← list_size, hT3, List.length_map]; show L.length ≤ 128; rw [HLn.out]; omega
      have HT3 : Hid _ := hT3
      clear hT3
      go_wp2_with fail
      refine (rsumx a (T3 ++ T2) _ (by simp; omega)).mono ?_
      rintro e4 w4 ⟨⟨T4, hT4, rfl⟩, hb4⟩
      have HT4 : Hid _ := hT4
      clear hT4
      go_wp2_with fail
      go_ret
      have B0 := HB0.out.trans (hb1.mono HB0.out.size)
      have B1 := B0.trans (hb2.mono B0.size)
      have B2 := B1.trans (hb3.mono B1.size)
      have B3 := B2.trans (hb4.mono B2.size)
      refine ⟨?_, B3⟩
      show Ending.returned (.string T4) = _
      have e1 : T4 = ⟨(macL (codeSum a) 64 k.data.toList d.data.toList).toArray⟩ := by
        apply Go.WideShapes.bytes_inj
        rw [HT4.out, macL_eq _ _ _ _ _ _ HK.out HLe.out]
        simp [HT3.out, HT2.out, HT1.out]
      rw [e1]

set_option maxHeartbeats 400000 in
theorem rmac_512s (a : Int) (k d : ByteArray) (w : World) (h : isAlg a = true) (ha : (a == 256) = false) (hN : blockN a = 128) (hk : k.size ≤ 128) (hkk : k.size ≤ 140737488355328) (hd : d.size ≤ 140737488351232) :
    Calls Try.prog 15 #[.int .i64 a, .string k, .string d] w fun e w' => e = .returned (.string ⟨(macL (codeSum a) 128 k.data.toList d.data.toList).toArray⟩) ∧ Below w.heap.size w w' := by
  have hs := sizeL_pos h
  have hs0 : (sizeL a == 0) = false := by rw [beq_eq_false_iff_ne]; omega
  have hlen : ∀ T : ByteArray, ∀ l, T.data.toList = codeSum a l → T.size ≤ 128 := fun T l e => by have := codeSum_length a l; rw [← e, list_size] at this; omega
  have HLen : Hid _ := hlen
  clear h hs hlen hN
  have hi0 : (k.size : Int) ≤ 128 := by omega
  go_enter Try.func15, Try.ntmps15
  go_wp2_with (go_at_call 13; refine (rsize_any a _).mono ?_; rintro e1 w1 ⟨rfl, hw1⟩; rw [hw1]; clear hw1 w1)
  obtain ⟨K0, hK0⟩ : ∃ K0, K0 = k := ⟨_, rfl⟩
  obtain ⟨w0, hw0⟩ : ∃ w0, w0 = w := ⟨_, rfl⟩
  have hk0 : K0.size ≤ 128 := by rw [hK0]; exact hk
  have HK : Hid (keyL (codeSum a) 128 k.data.toList = K0.data.toList) := by show keyL _ _ _ = _; rw [keyL, if_neg (by rw [list_size]; omega), hK0]
  have HB0 : Hid (Below w.heap.size w w0) := by rw [hw0]; exact brf w
  have HE : Hid (K0 = k ∧ w0 = w) := ⟨hK0, hw0⟩
  clear hkk hK0 hw0
  go_loopw [1] (fun v wr => ∃ j : Nat, j ≤ 128 - K0.size ∧ v = .string ⟨(K0.data.toList ++ List.replicate j 0).toArray⟩ ∧ wr = w0) (fun v _ => 128 - (match v with | .string s => s.size | _ => 0))
  case atStart => exact ⟨0, by omega, by rw [HE.out.1]; simp, HE.out.2.symm⟩
  case round =>
    obtain ⟨j, hj, rfl, hw⟩ := hrel
    subst hw
    have hLl : (K0.data.toList ++ List.replicate j 0).length = K0.size + j := by simp
    generalize hL : K0.data.toList ++ List.replicate j 0 = L at hLl
    have HL : Hid (K0.data.toList ++ List.replicate j 0 = L) := hL
    clear hL
    by_cases hlt : j < 128 - K0.size
    · have hi1 : (L.length : Int) < 128 := by omega
      have hi2 : L.length + 1 ≤ 9223372036854775807 := by omega
      have HLl : Hid _ := hLl
      clear hLl
      go_wp2_with fail
      have ea : (⟨L.toArray⟩ ++ ⟨#[0]⟩ : ByteArray) = ⟨(K0.data.toList ++ List.replicate (j + 1) 0).toArray⟩ := by rw [List.replicate_succ', ← List.append_assoc, HL.out]; exact str_app L [0]
      refine ⟨⟨j + 1, by omega, by rw [ea], trivial⟩, ?_⟩
      show 128 - (⟨L.toArray⟩ ++ ⟨#[0]⟩ : ByteArray).size < 128 - (⟨L.toArray⟩ : ByteArray).size
      rw [show (⟨L.toArray⟩ ++ ⟨#[0]⟩ : ByteArray) = _ from str_app L [0], size_list, size_list, List.length_append]
      show 128 - (L.length + 1) < 128 - L.length
      omega
    · have hLn : L.length = 128 := by omega
      have hi1 : ¬ (L.length : Int) < 128 := by omega
      have HLe : Hid (L = K0.data.toList ++ List.replicate (128 - K0.data.toList.length) 0) := by show L = _; rw [← HL.out, list_size]; congr 2; omega
      have HLn : Hid (L.length = 128) := hLn
      clear hLn hLl
      go_wp2_with fail
      refine (veiled_any ⟨L.toArray⟩ 54 _ (by rw [size_list, HLn.out]; omega)).mono ?_
      rintro e1 w1 ⟨⟨T1, hT1, rfl⟩, hb1⟩
      have h1s : T1.size ≤ 128 := by rw [← list_size, hT1, List.length_map]; show L.length ≤ 128; rw [HLn.out]; omega
      have HT1 : Hid _ := hT1
      clear hT1
      go_wp2_with fail
      refine (rsumx a (T1 ++ d) _ (by simp; omega)).mono ?_
      rintro e2 w2 ⟨⟨T2, hT2, rfl⟩, hb2⟩
      have h2s := HLen.out T2 _ hT2
      have HT2 : Hid _ := hT2
      clear hT2
      go_wp2_with fail
      refine (veiled_any ⟨L.toArray⟩ 92 _ (by rw [size_list, HLn.out]; omega)).mono ?_
      rintro e3 w3 ⟨⟨T3, hT3, rfl⟩, hb3⟩
      have h3s : T3.size ≤ 128 := by rw [← list_size, hT3, List.length_map]; show L.length ≤ 128; rw [HLn.out]; omega
      have HT3 : Hid _ := hT3
      clear hT3
      go_wp2_with fail
      refine (rsumx a (T3 ++ T2) _ (by simp; omega)).mono ?_
      rintro e4 w4 ⟨⟨T4, hT4, rfl⟩, hb4⟩
      have HT4 : Hid _ := hT4
      clear hT4
      go_wp2_with fail
      go_ret
      have B0 := HB0.out.trans (hb1.mono HB0.out.size)
      have B1 := B0.trans (hb2.mono B0.size)
      have B2 := B1.trans (hb3.mono B1.size)
      have B3 := B2.trans (hb4.mono B2.size)
      refine ⟨?_, B3⟩
      show Ending.returned (.string T4) = _
      have e1 : T4 = ⟨(macL (codeSum a) 128 k.data.toList d.data.toList).toArray⟩ := by
        apply Go.WideShapes.bytes_inj
        rw [HT4.out, macL_eq _ _ _ _ _ _ HK.out HLe.out]
        simp [HT3.out, HT2.out, HT1.out]
      rw [e1]

set_option maxHeartbeats 400000 in
theorem rmac_512l (a : Int) (k d : ByteArray) (w : World) (h : isAlg a = true) (ha : (a == 256) = false) (hN : blockN a = 128) (hk : 128 < k.size) (hkk : k.size ≤ 140737488355328) (hd : d.size ≤ 140737488351232) :
    Calls Try.prog 15 #[.int .i64 a, .string k, .string d] w fun e w' => e = .returned (.string ⟨(macL (codeSum a) 128 k.data.toList d.data.toList).toArray⟩) ∧ Below w.heap.size w w' := by
  have hs := sizeL_pos h
  have hs0 : (sizeL a == 0) = false := by rw [beq_eq_false_iff_ne]; omega
  have hlen : ∀ T : ByteArray, ∀ l, T.data.toList = codeSum a l → T.size ≤ 128 := fun T l e => by have := codeSum_length a l; rw [← e, list_size] at this; omega
  have HLen : Hid _ := hlen
  clear h hs hlen hN
  have hi0 : (128 : Int) < (k.size : Int) := by omega
  go_enter Try.func15, Try.ntmps15
  go_wp2_with (go_at_call 13; refine (rsize_any a _).mono ?_; rintro e1 w1 ⟨rfl, hw1⟩; rw [hw1]; clear hw1 w1)
  refine (rsumx a k _ hkk).mono ?_
  rintro e0 w0 ⟨⟨K0, hK0, rfl⟩, hb0⟩
  have hk0 : K0.size ≤ 128 := HLen.out K0 _ hK0
  have HK : Hid (keyL (codeSum a) 128 k.data.toList = K0.data.toList) := by show keyL _ _ _ = _; rw [keyL, if_pos (by rw [list_size]; exact hk), hK0]
  have HB0 : Hid _ := hb0
  clear hb0 hK0 hk hkk hi0
  go_wp2_with fail
  go_loopw [1] (fun v wr => ∃ j : Nat, j ≤ 128 - K0.size ∧ v = .string ⟨(K0.data.toList ++ List.replicate j 0).toArray⟩ ∧ wr = w0) (fun v _ => 128 - (match v with | .string s => s.size | _ => 0))
  case atStart => exact ⟨0, by omega, by simp, rfl⟩
  case round =>
    obtain ⟨j, hj, rfl, hw⟩ := hrel
    subst hw
    have hLl : (K0.data.toList ++ List.replicate j 0).length = K0.size + j := by simp
    generalize hL : K0.data.toList ++ List.replicate j 0 = L at hLl
    have HL : Hid (K0.data.toList ++ List.replicate j 0 = L) := hL
    clear hL
    by_cases hlt : j < 128 - K0.size
    · have hi1 : (L.length : Int) < 128 := by omega
      have hi2 : L.length + 1 ≤ 9223372036854775807 := by omega
      have HLl : Hid _ := hLl
      clear hLl
      go_wp2_with fail
      have ea : (⟨L.toArray⟩ ++ ⟨#[0]⟩ : ByteArray) = ⟨(K0.data.toList ++ List.replicate (j + 1) 0).toArray⟩ := by rw [List.replicate_succ', ← List.append_assoc, HL.out]; exact str_app L [0]
      refine ⟨⟨j + 1, by omega, by rw [ea], trivial⟩, ?_⟩
      show 128 - (⟨L.toArray⟩ ++ ⟨#[0]⟩ : ByteArray).size < 128 - (⟨L.toArray⟩ : ByteArray).size
      rw [show (⟨L.toArray⟩ ++ ⟨#[0]⟩ : ByteArray) = _ from str_app L [0], size_list, size_list, List.length_append]
      show 128 - (L.length + 1) < 128 - L.length
      omega
    · have hLn : L.length = 128 := by omega
      have hi1 : ¬ (L.length : Int) < 128 := by omega
      have HLe : Hid (L = K0.data.toList ++ List.replicate (128 - K0.data.toList.length) 0) := by show L = _; rw [← HL.out, list_size]; congr 2; omega
      have HLn : Hid (L.length = 128) := hLn
      clear hLn hLl
      go_wp2_with fail
      refine (veiled_any ⟨L.toArray⟩ 54 _ (by rw [size_list, HLn.out]; omega)).mono ?_
      rintro e1 w1 ⟨⟨T1, hT1, rfl⟩, hb1⟩
      have h1s : T1.size ≤ 128 := by rw [← list_size, hT1, List.length_map]; show L.length ≤ 128; rw [HLn.out]; omega
      have HT1 : Hid _ := hT1
      clear hT1
      go_wp2_with fail
      refine (rsumx a (T1 ++ d) _ (by simp; omega)).mono ?_
      rintro e2 w2 ⟨⟨T2, hT2, rfl⟩, hb2⟩
      have h2s := HLen.out T2 _ hT2
      have HT2 : Hid _ := hT2
      clear hT2
      go_wp2_with fail
      refine (veiled_any ⟨L.toArray⟩ 92 _ (by rw [size_list, HLn.out]; omega)).mono ?_
      rintro e3 w3 ⟨⟨T3, hT3, rfl⟩, hb3⟩
      have h3s : T3.size ≤ 128 := by rw [← list_size, hT3, List.length_map]; show L.length ≤ 128; rw [HLn.out]; omega
      have HT3 : Hid _ := hT3
      clear hT3
      go_wp2_with fail
      refine (rsumx a (T3 ++ T2) _ (by simp; omega)).mono ?_
      rintro e4 w4 ⟨⟨T4, hT4, rfl⟩, hb4⟩
      have HT4 : Hid _ := hT4
      clear hT4
      go_wp2_with fail
      go_ret
      have B0 := HB0.out.trans (hb1.mono HB0.out.size)
      have B1 := B0.trans (hb2.mono B0.size)
      have B2 := B1.trans (hb3.mono B1.size)
      have B3 := B2.trans (hb4.mono B2.size)
      refine ⟨?_, B3⟩
      show Ending.returned (.string T4) = _
      have e1 : T4 = ⟨(macL (codeSum a) 128 k.data.toList d.data.toList).toArray⟩ := by
        apply Go.WideShapes.bytes_inj
        rw [HT4.out, macL_eq _ _ _ _ _ _ HK.out HLe.out]
        simp [HT3.out, HT2.out, HT1.out]
      rw [e1]

theorem rmac_any (a : Int) (k d : ByteArray) (w : World) (hkk : k.size ≤ 140737488355328) (hd : d.size ≤ 140737488351232) :
    Calls Try.prog 15 #[.int .i64 a, .string k, .string d] w fun e w' => e = .returned (.string ⟨(codeMac a k.data.toList d.data.toList).toArray⟩) ∧ Below w.heap.size w w' := by
  unfold codeMac
  cases h : isAlg a with
  | false => rw [if_neg (by simp)]; exact (rmac_none a k d w h).mono fun e w' ⟨he, hw⟩ => ⟨he, by rw [hw]; exact brf w⟩
  | true =>
    rw [if_pos rfl]
    by_cases ha : a = 256
    · have hN : blockN a = 64 := by rw [ha]; rfl
      rw [hN]
      by_cases hk : k.size ≤ 64
      · exact rmac_256s a k d w h (by simp [ha]) hN hk hkk hd
      · exact rmac_256l a k d w h (by simp [ha]) hN (by omega) hkk hd
    · have hN : blockN a = 128 := by unfold blockN; rw [if_neg ha]
      rw [hN]
      by_cases hk : k.size ≤ 128
      · exact rmac_512s a k d w h (by simp [ha]) hN hk hkk hd
      · exact rmac_512l a k d w h (by simp [ha]) hN (by omega) hkk hd

set_option maxHeartbeats 400000 in
theorem macsLaw (a : Int) (k d : ByteArray) (w : World) (hk : k.size ≤ 140737488351232) (hd : d.size ≤ 140737488351232) :
    Calls Try.prog 4 #[.int .i64 a, .string k, .string d] w fun e w' => e = .returned (.bool true) ∧ Below w.heap.size w w' := by
  go_enter Try.func4, Try.ntmps4
  go_wp2_with fail
  refine (mac_any a k d _ (by omega) hd).mono ?_
  rintro e1 w1 ⟨rfl, hb1⟩
  go_wp2_with fail
  refine (rmac_any a k d _ (by omega) hd).mono ?_
  rintro e2 w2 ⟨rfl, hb2⟩
  go_wp2_with fail
  go_ret
  exact ⟨rfl, hb1.trans (hb2.mono hb1.size)⟩
end Go.Proofs.Ytfihidnmgaiojaa
