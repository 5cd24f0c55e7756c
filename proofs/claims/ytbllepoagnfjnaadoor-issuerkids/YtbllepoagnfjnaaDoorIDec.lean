/-
  notaryref.Decode of signs.
-/
import Derived.Test.YtbllepoagnfjnaaDoorB1
namespace Go.Proofs.YtbllepoagnfjnaaDoor.Dg
set_option maxRecDepth 4000
open Go.RowKit
set_option linter.unusedVariables false
section
attribute [local go_sem] i64_and15 i64_and3 i64_and0
theorem tl_of {v : Nat → Nat} {j q Z : Nat} (hq : 6 * (j + 1) % 8 = q) (h : Z = v j % 2 ^ q) : ∀ m, j + 1 = m + 1 → Z = v m % 2 ^ (6 * (j + 1) % 8) := fun m hm => by
  obtain rfl : j = m := by omega
  rw [hq]; exact h
set_option maxHeartbeats 1000000 in
theorem rdecode (t : ByteArray) (v : Nat → Nat) (w : World) (ht : t.size ≤ 1000) (ht4 : ¬ t.size % 4 = 1) (hend : ∀ m, t.size = m + 1 → v m % 2 ^ (6 * t.size % 8) = 0) (hv : ∀ i (h : i < t.size), v i < 64 ∧ t[i] = sg (v i)) :
    Calls Tryd.prog 19 #[.string t] w
      fun e w' => (∃ r : ByteArray, e = .returned (.tuple #[.string r, .int .i64 0, .int .i64 0]) ∧ r.size = 6 * t.size / 8) ∧ Below w.heap.size w w' := by
  obtain ⟨i0, hi, hz0, hz1, hz2⟩ := info_parts u8infoB
  have HI : Hid _ := hi
  have HV : Hid (∀ i (h : i < t.size), v i < 64 ∧ t[i] = sg (v i)) := hv
  have HT : Hid (t.size ≤ 1000) := ht
  have HE : Hid (∀ m, t.size = m + 1 → v m % 2 ^ (6 * t.size % 8) = 0) := hend
  have ht1 : t.size ≤ 1000 := ht
  have hr4 : ((t.size : Int) % 4 == 1) = false := by rw [beq_eq_false_iff_ne]; omega
  clear hi hv ht ht4 hend
  go_enter Tryd.func19, Tryd.ntmps19
  go_wp2_with fail
  go_loopw [5] (fun i wr => ∃ k : Nat, k ≤ t.size ∧ i = .int .i64 (k : Int) ∧ wr = w) (fun i _ => t.size - (intOf i).toNat)
  case atStart => exact ⟨0, by omega, rfl, rfl⟩
  case round =>
    obtain ⟨k, hk, rfl, hwr⟩ := hrel
    rw [hwr]
    clear hwr wr
    by_cases hlt : k < t.size
    · have hlt' : (k : Int) < (t.size : Int) := by omega
      have hv0 : (0 : Int) ≤ (v k : Int) := by omega
      go_wp2_with (go_at_call 35; refine (value_sg _ (v k) _ (HV.out k hlt).1 (HV.out k hlt).2).mono ?_; rintro e w1 ⟨rfl, hw1⟩; rw [hw1]; clear hw1 w1)
      exact ⟨⟨k + 1, by omega, by go_num, trivial⟩, by simp [intOf]; omega⟩
    · have hlt' : (t.size : Int) ≤ (k : Int) := by omega
      go_wp2_with fail
      go_loopw [6, 7, 8, 9] (fun o x bt i wr => ∃ (j X : Nat) (L : List UInt8), j ≤ t.size ∧ i = .int .i64 (j : Int) ∧ x = .int .i64 (X : Int) ∧ bt = .int .i64 ((6 * j % 8 : Nat) : Int) ∧ X < 2 ^ (6 * j % 8) ∧ Hid (∀ m, j = m + 1 → X = v m % 2 ^ (6 * j % 8)) ∧ L.length = 6 * j / 8 ∧ OwnB w.heap.size 5 o L wr ∧ Below w.heap.size w wr) (fun _ _ _ i _ => t.size - (intOf i).toNat)
      case atStart => exact ⟨0, 0, [], by omega, rfl, rfl, rfl, by decide, (fun m h => by omega), by simp, .inl ⟨rfl, rfl⟩, brf _⟩
      case round =>
        obtain ⟨j, X, L, hj, rfl, rfl, rfl, hX, HX, hLl, ho, hb⟩ := hrel
        have HO : Hid (OwnB w.heap.size 5 _ L wr) := ho
        clear ho
        generalize hq : 6 * j % 8 = q at hX
        have HQ : Hid (6 * j % 8 = q) := hq
        by_cases hlt2 : j < t.size
        · have hlt2' : (j : Int) < (t.size : Int) := by omega
          have hv64 := (HV.out j hlt2).1
          have hqc : q = 0 ∨ q = 6 ∨ q = 4 ∨ q = 2 := by omega
          clear hq
          rcases hqc with rfl | rfl | rfl | rfl
          · obtain rfl : X = 0 := by simpa using hX
            go_wp2_with (go_at_call 35; refine (value_sg _ (v j) _ (HV.out j hlt2).1 (HV.out j hlt2).2).mono ?_; rintro e w1 ⟨rfl, hw1⟩; rw [hw1]; clear hw1 w1)
            have hq6 : 6 * (j + 1) % 8 = 6 := by have := HQ.out; omega
            exact ⟨⟨j + 1, v j, L, by omega, by go_num, by simp, by rw [hq6]; rfl, by rw [hq6]; exact hv64, tl_of hq6 (by omega), by have := HQ.out; omega, HO.out, hb⟩, by simp [intOf]; omega⟩
          · have hY0 : X * 64 + v j < 4096 := by omega
            obtain ⟨Y, hY, hYe⟩ : ∃ Y : Nat, (X : Int) * 64 + (v j : Int) = (Y : Int) ∧ X * 64 + v j = Y := ⟨X * 64 + v j, by omega, rfl⟩
            rw [hYe] at hY0
            have HYe : Hid (X * 64 + v j = Y) := hYe
            clear hYe
            obtain ⟨c, hbt⟩ : ∃ c : UInt8, (Y : Int) / 16 = (c.toNat : Int) := ⟨UInt8.ofNat (Y / 16), by simp; omega⟩
            have hbs := hb.size
            have hl : L.length + 1 ≤ 220000000000000 := by omega
            go_wp2_with (first | (go_at_call 35; refine (value_sg _ (v j) _ (HV.out j hlt2).1 (HV.out j hlt2).2).mono ?_; rintro e w1 ⟨rfl, hw1⟩; rw [hw1]; clear hw1 w1) | (refine wp_appW rfl (.tmp 47) (.tmp 52) 84 rfl 5 i0 Tryd.underlying84 HI.out hz0 hz1 hz2 w.heap.size _ _ c ⟨wr.heap.size, 0, none⟩ rfl rfl hl (HO.out.alloc_own _) (by simp; omega) (one_cell _ _ _) ?_; intro v3 w3 ho3 hb3; have HO3 : Hid _ := ho3; clear ho3))
            have hq6 : 6 * (j + 1) % 8 = 4 := by have := HQ.out; omega
            exact ⟨⟨j + 1, Y % 16, L ++ [c], by omega, by go_num, congrArg (Value.int .i64) (by omega), by rw [hq6]; rfl, by rw [hq6]; omega, tl_of hq6 (by have := HYe.out; omega), by have := HQ.out; simp; omega, HO3.out, (bal hb _).trans hb3⟩, by simp [intOf]; omega⟩
          · have hY0 : X * 64 + v j < 1024 := by omega
            obtain ⟨Y, hY, hYe⟩ : ∃ Y : Nat, (X : Int) * 64 + (v j : Int) = (Y : Int) ∧ X * 64 + v j = Y := ⟨X * 64 + v j, by omega, rfl⟩
            rw [hYe] at hY0
            have HYe : Hid (X * 64 + v j = Y) := hYe
            clear hYe
            obtain ⟨c, hbt⟩ : ∃ c : UInt8, (Y : Int) / 4 = (c.toNat : Int) := ⟨UInt8.ofNat (Y / 4), by simp; omega⟩
            have hbs := hb.size
            have hl : L.length + 1 ≤ 220000000000000 := by omega
            go_wp2_with (first | (go_at_call 35; refine (value_sg _ (v j) _ (HV.out j hlt2).1 (HV.out j hlt2).2).mono ?_; rintro e w1 ⟨rfl, hw1⟩; rw [hw1]; clear hw1 w1) | (refine wp_appW rfl (.tmp 47) (.tmp 52) 84 rfl 5 i0 Tryd.underlying84 HI.out hz0 hz1 hz2 w.heap.size _ _ c ⟨wr.heap.size, 0, none⟩ rfl rfl hl (HO.out.alloc_own _) (by simp; omega) (one_cell _ _ _) ?_; intro v3 w3 ho3 hb3; have HO3 : Hid _ := ho3; clear ho3))
            have hq6 : 6 * (j + 1) % 8 = 2 := by have := HQ.out; omega
            exact ⟨⟨j + 1, Y % 4, L ++ [c], by omega, by go_num, congrArg (Value.int .i64) (by omega), by rw [hq6]; rfl, by rw [hq6]; omega, tl_of hq6 (by have := HYe.out; omega), by have := HQ.out; simp; omega, HO3.out, (bal hb _).trans hb3⟩, by simp [intOf]; omega⟩
          · have hY0 : X * 64 + v j < 256 := by omega
            obtain ⟨c, hY⟩ : ∃ c : UInt8, (X : Int) * 64 + (v j : Int) = (c.toNat : Int) := ⟨UInt8.ofNat (X * 64 + v j), by simp; omega⟩
            have hc256 : c.toNat < 256 := c.toNat_lt
            have hbs := hb.size
            have hl : L.length + 1 ≤ 220000000000000 := by omega
            go_wp2_with (first | (go_at_call 35; refine (value_sg _ (v j) _ (HV.out j hlt2).1 (HV.out j hlt2).2).mono ?_; rintro e w1 ⟨rfl, hw1⟩; rw [hw1]; clear hw1 w1) | (refine wp_appW rfl (.tmp 47) (.tmp 52) 84 rfl 5 i0 Tryd.underlying84 HI.out hz0 hz1 hz2 w.heap.size _ _ c ⟨wr.heap.size, 0, none⟩ rfl rfl hl (HO.out.alloc_own _) (by simp; omega) (one_cell _ _ _) ?_; intro v3 w3 ho3 hb3; have HO3 : Hid _ := ho3; clear ho3))
            have hq6 : 6 * (j + 1) % 8 = 0 := by have := HQ.out; omega
            exact ⟨⟨j + 1, 0, L ++ [c], by omega, by go_num, congrArg (Value.int .i64) (by omega), by rw [hq6]; rfl, by rw [hq6]; omega, tl_of hq6 (by simp [Nat.mod_one]), by have := HQ.out; simp; omega, HO3.out, (bal hb _).trans hb3⟩, by simp [intOf]; omega⟩
        · have hlt2' : (t.size : Int) ≤ (j : Int) := by omega
          have hjt : j = t.size := by omega
          obtain rfl : X = 0 := by
            rcases Nat.eq_zero_or_pos j with h0 | h0
            · obtain rfl : q = 0 := by omega
              simpa using hX
            · obtain ⟨m, hm⟩ : ∃ m, j = m + 1 := ⟨j - 1, by omega⟩
              rw [HX.out m hm, hjt]; exact HE.out m (by omega)
          have HL : Hid (L.length = 6 * t.size / 8) := by rw [← hjt]; exact hLl
          have hs := HO.out.str (P := Tryd.prog) (t := 84) (d := 9) Tryd.underlying84 Tryd.underlying5 Tryd.underlying9
          clear hq
          go_wp2
          go_ret3
          exact ⟨⟨⟨L.toArray⟩, rfl, by show L.toArray.size = _; rw [List.size_toArray]; exact HL.out⟩, hb⟩
end
end Go.Proofs.YtbllepoagnfjnaaDoor.Dg
