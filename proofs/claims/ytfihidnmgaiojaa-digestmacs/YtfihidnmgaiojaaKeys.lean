/-
  The law DigestKeys.
-/
import Derived.Test.YtfihidnmgaiojaaMac
namespace Go.Proofs.Ytfihidnmgaiojaa
open Go.RowKit
set_option linter.unusedVariables false

set_option maxHeartbeats 400000 in
theorem rsize_any (a : Int) (w : World) : Calls Try.prog 13 #[.int .i64 a] w fun e w' => e = .returned (.int .i64 (sizeL a)) ∧ w' = w := by
  by_cases h1 : a = 256
  · subst h1
    go_enter Try.func13, Try.ntmps13
    go_wp2
    go_ret
    exact ⟨rfl, rfl⟩
  by_cases h2 : a = 384
  · subst h2
    go_enter Try.func13, Try.ntmps13
    go_wp2
    go_ret
    exact ⟨rfl, rfl⟩
  by_cases h3 : a = 512
  · subst h3
    go_enter Try.func13, Try.ntmps13
    go_wp2
    go_ret
    exact ⟨rfl, rfl⟩
  · have e1 : (a == 256) = false := by simp [h1]
    have e2 : (a == 384) = false := by simp [h2]
    have e3 : (a == 512) = false := by simp [h3]
    have HS : Hid (sizeL a = 0) := by show sizeL a = 0; simp [sizeL, h1, h2, h3]
    clear h1 h2 h3
    go_enter Try.func13, Try.ntmps13
    go_wp2
    go_ret
    exact ⟨by rw [HS.out]; rfl, rfl⟩

theorem keyL_sum (a : Int) (k : List UInt8) (h : isAlg a = true) : keyL (codeSum a) (blockN a) (codeSum a k) = codeSum a k := by
  rw [keyL, if_neg]
  have h1 := codeSum_length a k
  have h2 := sizeL_pos h
  omega
theorem mac_of_sum (a : Int) (k d : List UInt8) (h : isAlg a = true) (hk : blockN a < k.length) : codeMac a (codeSum a k) d = codeMac a k d := by
  unfold codeMac macL
  rw [if_pos h, if_pos h, keyL_sum a k h]
  rw [keyL, if_pos hk]
theorem padK_zeros (n z : Nat) (k : List UInt8) (h : k.length + z ≤ n) : padK n (k ++ List.replicate z 0) = padK n k := by
  unfold padK
  rw [List.append_assoc, List.replicate_append_replicate]
  congr 2
  simp; omega
theorem mac_of_zeros (a : Int) (k d : List UInt8) (z : Nat) (h : k.length + z ≤ blockN a) : codeMac a (k ++ List.replicate z 0) d = codeMac a k d := by
  have h1 : keyL (codeSum a) (blockN a) (k ++ List.replicate z 0) = k ++ List.replicate z 0 := by rw [keyL, if_neg (by simp; omega)]
  have h2 : keyL (codeSum a) (blockN a) k = k := by rw [keyL, if_neg (by omega)]
  unfold codeMac macL
  rw [h1, h2]
  unfold maskL
  rw [padK_zeros _ _ _ h]
theorem mac_length (a : Int) (k d : List UInt8) (h : isAlg a = true) : ((codeMac a k d).length : Int) = sizeL a := by
  unfold codeMac macL
  rw [if_pos h, codeSum_length]
theorem sizeL_div {a : Int} (h : isAlg a = true) : sizeL a = a / 8 := by
  rcases isAlg_cases h with rfl | rfl | rfl <;> rfl

set_option maxHeartbeats 400000 in
theorem keys_none (a z : Int) (k d : ByteArray) (w : World) (h : isAlg a = false) :
    Calls Try.prog 6 #[.int .i64 a, .string k, .int .i64 z, .string d] w fun e w' => e = .returned (.bool true) ∧ Below w.heap.size w w' := by
  have hs := sizeL_zero h
  have h256 : (a == 256) = false := by simp [isAlg] at h; simp [h]
  go_enter Try.func6, Try.ntmps6
  go_wp2_with (first | (go_at_call 14; refine (mac_none a k d _ h).mono ?_; rintro e1 w1 ⟨rfl, hw1⟩; rw [hw1]; clear hw1 w1) | (go_at_call 13; refine (rsize_any a _).mono ?_; rintro e1 w1 ⟨rfl, hw1⟩; rw [hw1, hs]; clear hw1 w1))
  go_ret
  exact ⟨rfl, brf w⟩

set_option maxHeartbeats 400000 in
theorem keys_long (a z : Int) (k d : ByteArray) (w : World) (h : isAlg a = true) (hk : blockN a < k.size) (hkk : k.size ≤ 140737488351232) (hd : d.size ≤ 140737488351232) :
    Calls Try.prog 6 #[.int .i64 a, .string k, .int .i64 z, .string d] w fun e w' => e = .returned (.bool true) ∧ Below w.heap.size w w' := by
  have hs := sizeL_pos h
  have hs0 : (sizeL a == 0) = false := by rw [beq_eq_false_iff_ne]; omega
  have HM : Hid (codeMac a (codeSum a k.data.toList) d.data.toList = codeMac a k.data.toList d.data.toList) := mac_of_sum a _ _ h (by simpa using hk)
  have HLn : Hid (∀ l, (codeSum a l).length ≤ 128) := fun l => by have := codeSum_length a l; have hn : blockN a ≤ 128 := by { unfold blockN; split <;> omega }; omega
  clear hs
  by_cases h256 : a = 256
  all_goals
    have hb : blockN a < k.size := hk
    unfold blockN at hb
    first
      | (rw [if_pos h256] at hb; have hq : (a == 256) = true := by simp [h256])
      | (rw [if_neg h256] at hb; have hq : (a == 256) = false := by simp [h256])
    clear h256 hk h
    go_enter Try.func6, Try.ntmps6
    go_wp2_with fail
    refine (mac_any a k d _ (by omega) hd).mono ?_
    rintro e1 w1 ⟨rfl, hb1⟩
    generalize hM : ByteArray.mk (codeMac a k.data.toList d.data.toList).toArray = M
    have HMM : Hid (ByteArray.mk (codeMac a k.data.toList d.data.toList).toArray = M) := hM
    clear hM
    go_wp2_with (go_at_call 13; refine (rsize_any a _).mono ?_; rintro e1 w2 ⟨rfl, hw1⟩; rw [hw1]; clear hw1 w2)
    refine (sumx a k _ (by omega)).mono ?_
    rintro e2 w2 ⟨⟨T2, hT2, rfl⟩, hb2⟩
    have h2s : T2.size ≤ 128 := by
      have e : T2.data.toList.length = T2.size := by simp
      have h := HLn.out k.data.toList
      rw [← hT2, e] at h; omega
    have HT2 : Hid _ := hT2
    clear hT2
    go_wp2_with fail
    refine (mac_any a T2 d _ (by omega) hd).mono ?_
    rintro e3 w3 ⟨rfl, hb3⟩
    rw [HT2.out, HM.out, HMM.out]
    go_wp2_with fail
    go_ret
    have B1 := hb1.trans (hb2.mono hb1.size)
    have B2 := B1.trans (hb3.mono B1.size)
    exact ⟨rfl, B2⟩

set_option maxHeartbeats 400000 in
theorem keys_out (a z : Int) (k d : ByteArray) (w : World) (h : isAlg a = true) (hk : k.size ≤ blockN a) (hd : d.size ≤ 140737488351232) (hz : z < 0 ∨ (blockN a : Int) - k.size < z) :
    Calls Try.prog 6 #[.int .i64 a, .string k, .int .i64 z, .string d] w fun e w' => e = .returned (.bool true) ∧ Below w.heap.size w w' := by
  have hs := sizeL_pos h
  have hs0 : (sizeL a == 0) = false := by rw [beq_eq_false_iff_ne]; omega
  have hml : ((codeMac a k.data.toList d.data.toList).length : Int) = a / 8 := by rw [mac_length _ _ _ h, sizeL_div h]
  have ha0 : 0 ≤ a ∧ a ≤ 512 := by rcases isAlg_cases h with rfl | rfl | rfl <;> omega
  have hn : blockN a ≤ 128 := by unfold blockN; split <;> omega
  clear hs
  by_cases h256 : a = 256
  all_goals
    have hb : k.size ≤ blockN a := hk
    unfold blockN at hb hz
    first
      | (rw [if_pos h256] at hb hz; have hq : (a == 256) = true := by simp [h256])
      | (rw [if_neg h256] at hb hz; have hq : (a == 256) = false := by simp [h256])
    have hkk : k.size ≤ 140737488355328 := by omega
    clear h256 hk h hn
    by_cases hz0 : z < 0
    all_goals
      go_enter Try.func6, Try.ntmps6
      go_wp2_with fail
      refine (mac_any a k d _ hkk hd).mono ?_
      rintro e1 w1 ⟨rfl, hb1⟩
      generalize hM : ByteArray.mk (codeMac a k.data.toList d.data.toList).toArray = M
      have hMs : (M.size : Int) = a / 8 := by rw [← hM, ← hml]; rfl
      have hMs2 : ((M.size : Int) == a / 8) = true := by simp [hMs]
      clear hM
      have HMs : Hid _ := hMs
      clear hMs hml
      go_wp2_with (go_at_call 13; refine (rsize_any a _).mono ?_; rintro e1 w2 ⟨rfl, hw1⟩; rw [hw1]; clear hw1 w2)
      all_goals
        go_ret
        exact ⟨rfl, hb1⟩

set_option maxHeartbeats 400000 in
theorem keys_in (a : Int) (z : Nat) (k d : ByteArray) (w : World) (h : isAlg a = true) (hk : k.size + z ≤ blockN a) (hd : d.size ≤ 140737488351232) :
    Calls Try.prog 6 #[.int .i64 a, .string k, .int .i64 (z : Int), .string d] w fun e w' => e = .returned (.bool true) ∧ Below w.heap.size w w' := by
  have hs := sizeL_pos h
  have hs0 : (sizeL a == 0) = false := by rw [beq_eq_false_iff_ne]; omega
  have HM : Hid (codeMac a (k.data.toList ++ List.replicate z 0) d.data.toList = codeMac a k.data.toList d.data.toList) := mac_of_zeros a _ _ z (by simpa using hk)
  have hn : blockN a ≤ 128 := by unfold blockN; split <;> omega
  have hkk : k.size + z ≤ 128 := by omega
  clear hs
  by_cases h256 : a = 256
  all_goals
    have hb : k.size + z ≤ blockN a := hk
    unfold blockN at hb
    first
      | (rw [if_pos h256] at hb; have hq : (a == 256) = true := by simp [h256])
      | (rw [if_neg h256] at hb; have hq : (a == 256) = false := by simp [h256])
    clear h256 hk h hn
    go_enter Try.func6, Try.ntmps6
    go_wp2_with fail
    refine (mac_any a k d _ (by omega) hd).mono ?_
    rintro e1 w1 ⟨rfl, hb1⟩
    generalize hM : ByteArray.mk (codeMac a k.data.toList d.data.toList).toArray = M
    have HMM : Hid (ByteArray.mk (codeMac a k.data.toList d.data.toList).toArray = M) := hM
    clear hM
    go_wp2_with (go_at_call 13; refine (rsize_any a _).mono ?_; rintro e1 w2 ⟨rfl, hw1⟩; rw [hw1]; clear hw1 w2)
    go_loop [12, 13] (fun s i => ∃ (j : Nat) (T : ByteArray), j ≤ z ∧ i = .int .i64 j ∧ T.data.toList = k.data.toList ++ List.replicate j 0 ∧ s = .string T) (fun _ i => z - (intOf i).toNat)
    case atStart => exact ⟨0, k, by omega, rfl, by simp, rfl⟩
    case round =>
      obtain ⟨j, T, hj, rfl, hT, rfl⟩ := hrel
      have hTs : T.size ≤ 128 := by
        have e : T.data.toList.length = T.size := by simp
        rw [← e, hT]; simp; omega
      have HT : Hid _ := hT
      clear hT
      by_cases hlt : j < z
      · go_wp2_with fail
        go_round
        case rel => exact ⟨j + 1, _, by omega, by go_num, by simp [HT.out, List.replicate_succ'], rfl⟩
        case measure => simp [intOf]; omega
      · obtain rfl : j = z := by omega
        go_wp2_with fail
        refine (mac_any a T d _ (by omega) hd).mono ?_
        rintro e3 w3 ⟨rfl, hb3⟩
        rw [HT.out, HM.out, HMM.out]
        go_wp2_with fail
        go_ret
        exact ⟨rfl, hb1.trans (hb3.mono hb1.size)⟩

theorem law_keys (a z : Int) (k d : ByteArray) (w : World) (hk : k.size ≤ 140737488351232) (hd : d.size ≤ 140737488351232) :
    Calls Try.prog 6 #[.int .i64 a, .string k, .int .i64 z, .string d] w fun e w' => e = .returned (.bool true) ∧ Below w.heap.size w w' := by
  cases h : isAlg a with
  | false => exact keys_none a z k d w h
  | true =>
    by_cases hl : blockN a < k.size
    · exact keys_long a z k d w h hl hk hd
    · by_cases hz : z < 0 ∨ (blockN a : Int) - k.size < z
      · exact keys_out a z k d w h (by omega) hd hz
      · obtain ⟨n, rfl⟩ := Int.eq_ofNat_of_zero_le (show 0 ≤ z by omega)
        exact keys_in a n k d w h (by omega) hd

theorem law_keys2 (a : Int) (k : ByteArray) (z : Int) (d : ByteArray) (w : World) (hk : k.size ≤ 140737488351232) (hd : d.size ≤ 140737488351232) :
    Calls Try.prog 6 #[.int .i64 a, .string k, .int .i64 z, .string d] w fun e w' => e = .returned (.bool true) ∧ Below w.heap.size w w' := law_keys a z k d w hk hd
end Go.Proofs.Ytfihidnmgaiojaa
