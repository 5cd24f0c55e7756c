/-
  Joined by program: NAhead, QOrd.
-/
import Derived.Test.YtoijppmkkhgkdacGreatDoorY0
import Derived.WalkSpells
import Derived.Test.YtoijppmkkhgkdacGreatDoorQStr
/-
  Of the texts JUnit, JAhead what speaks of functions (walk.py).
-/
/-
  A text's numbers of 16 bits.
-/
namespace Go.Proofs.YtoijppmkkhgkdacGreatDoor
open Go.RowKit
set_option linter.unusedVariables false

set_option maxRecDepth 4000 in
set_option maxHeartbeats 2000000 in
theorem runits (s : ByteArray) (w : World) (hs : s.size ≤ 1000000000) : Calls Tryz.prog 22 #[.string s] w
    fun e w' => ∃ v, e = .returned v ∧ w'.ownsRow w.heap.size 3 1 v (unitsL s.data.toList).length ((unitsL s.data.toList).map iV) ∧ Below w.heap.size w w' := by
  obtain ⟨i0, hi0, hz0, hz1, hz2⟩ := info_parts intinfo
  have HI : Hid _ := hi0
  clear hi0
  go_enter Tryz.func22, Tryz.ntmps22
  go_wp2_with fail
  go_loopw [3, 4] (fun v i wr => UInv s w v i wr) (fun _ i _ => s.size - (intOf i).toNat)
  case atStart => exact ⟨0, [], by omega, rfl, by simp, by simp [sfx], World.ownsRow_nil _ _ _ _, Below.refl _ _⟩
  case round =>
    obtain ⟨j, us, hj, rfl, hu, he, ho, hb⟩ := hrel
    have HU : Hid _ := hu
    have HE : Hid _ := he
    have HO : Hid (wr.ownsRow w.heap.size 3 1 _ us.length (us.map iV)) := ho
    have HB : Hid _ := hb
    have hbs := hb.size
    clear hu he ho hb
    by_cases hlt : j < s.size
    · have hlt' : (j : Int) < (s.size : Int) := by omega
      have HLL := seqLen_len (sfx s j)
      rw [sfx_length] at HLL
      rcases seq5 (sfx s j) with h0 | h0 | h0 | h0 | h0
      · have hstep : stepL (sfx s j) = 1 := by unfold stepL; rw [h0]; rfl
        have hsz : j + 1 ≤ s.size := by omega
        have hsq : ∀ w, Calls Tryz.prog 20 #[.string s, .int .i64 (j : Int)] w fun e w' => e = .returned (.int .i64 0) ∧ w' = w := fun w => by have := rsequence s j w hlt (by omega); rw [h0] at this; exact this
        clear h0 HLL
        have HG : Hid (∀ k, (sfx s j).getD k 0 = if h : j + k < s.size then s[j + k] else (sfx s j).getD k 0) := fun k => by split; exact sfx_getD s j k (by assumption); rfl
        have HS : Hid _ := hstep
        clear hstep
        have c0 : (s[j].toNat : Int) < 256 := by have := s[j].toNat_lt; omega
        go_wp2_with fail
        refine (hsq _).mono ?_
        rintro e w1 ⟨rfl, hw1⟩; rw [hw1]; clear hw1 w1 hsq
        go_wp2_with fail
        go_loop [6, 7] (fun r k => ∃ m : Nat, 1 ≤ m ∧ m ≤ 1 ∧ k = .int .i64 (m : Int) ∧ r = .int .i64 (runeTo (sfx s j) 1 (m - 1) : Nat)) (fun _ k => 1 - (intOf k).toNat)
        case atStart =>
          refine ⟨1, by omega, by omega, rfl, ?_⟩
          have := sfx_getD s j 0 (by omega)
          simp only [Nat.sub_self, runeTo, this]
          rfl
        case round =>
          obtain ⟨m, hm1, hm2, rfl, rfl⟩ := hrel
          by_cases hm : m < 1
          · omega
          · obtain rfl : m = 1 := by omega
            have hR := runeTo_lt (sfx s j) 1 (1 - 1)
            have HR : Hid (runeL (sfx s j) = runeTo (sfx s j) 1 (1 - 1)) := by show runeL (sfx s j) = _; unfold runeL; rw [HS.out]
            generalize runeTo (sfx s j) 1 (1 - 1) = X at hR HR
            have hb1 : (X : Int) < 67108864 := by omega
            by_cases hXs : X < 65536
            · have HY : Hid ([X] = unitR (runeL (sfx s j))) := by show [X] = _; rw [HR.out, unitR, if_pos hXs]
              obtain ⟨Y, hY⟩ : ∃ Y : Int, (X : Int) = Y := ⟨_, rfl⟩
              rw [hY]
              have y0 : 0 ≤ Y := by omega
              have y1 : Y < 65536 := by omega
              have HYX : Hid _ := hY
              clear hY hXs hR hb1 HR
              go_wp2_with (refine wp_appN rfl (.tmp 45) (.tmp 47) 36 rfl 3 i0 Tryz.underlying36 HI.out hz0 hz1 hz2 w.heap.size _ us.length (us.map iV) (.int .i64 Y) rfl wr rfl HO.out hbs (by have := HU.out; omega) rfl ?_; intro v5 w5 ho5 hb5; have W5 : Hid _ := ho5; have B5 : Hid _ := hb5; clear ho5 hb5)
              go_roundw
              case rel => exact UInv.next hlt HU.out HE.out (by rw [HS.out]; go_num) (by rw [HS.out]; omega) HY.out (by show w5.ownsRow _ _ _ _ (us.length + 1) (us.map iV ++ [.int .i64 (X : Int)]); rw [HYX.out]; exact W5.out) (HB.out.trans B5.out)
              case measure => simp [intOf]; omega
            · exfalso; clear HR; simp at hR; omega
      · have hstep : stepL (sfx s j) = 1 := by unfold stepL; rw [h0]; rfl
        have hsz : j + 1 ≤ s.size := by omega
        have hsq : ∀ w, Calls Tryz.prog 20 #[.string s, .int .i64 (j : Int)] w fun e w' => e = .returned (.int .i64 1) ∧ w' = w := fun w => by have := rsequence s j w hlt (by omega); rw [h0] at this; exact this
        clear h0 HLL
        have HG : Hid (∀ k, (sfx s j).getD k 0 = if h : j + k < s.size then s[j + k] else (sfx s j).getD k 0) := fun k => by split; exact sfx_getD s j k (by assumption); rfl
        have HS : Hid _ := hstep
        clear hstep
        have c0 : (s[j].toNat : Int) < 256 := by have := s[j].toNat_lt; omega
        go_wp2_with fail
        refine (hsq _).mono ?_
        rintro e w1 ⟨rfl, hw1⟩; rw [hw1]; clear hw1 w1 hsq
        go_wp2_with fail
        go_loop [6, 7] (fun r k => ∃ m : Nat, 1 ≤ m ∧ m ≤ 1 ∧ k = .int .i64 (m : Int) ∧ r = .int .i64 (runeTo (sfx s j) 1 (m - 1) : Nat)) (fun _ k => 1 - (intOf k).toNat)
        case atStart =>
          refine ⟨1, by omega, by omega, rfl, ?_⟩
          have := sfx_getD s j 0 (by omega)
          simp only [Nat.sub_self, runeTo, this]
          rfl
        case round =>
          obtain ⟨m, hm1, hm2, rfl, rfl⟩ := hrel
          by_cases hm : m < 1
          · omega
          · obtain rfl : m = 1 := by omega
            have hR := runeTo_lt (sfx s j) 1 (1 - 1)
            have HR : Hid (runeL (sfx s j) = runeTo (sfx s j) 1 (1 - 1)) := by show runeL (sfx s j) = _; unfold runeL; rw [HS.out]
            generalize runeTo (sfx s j) 1 (1 - 1) = X at hR HR
            have hb1 : (X : Int) < 67108864 := by omega
            by_cases hXs : X < 65536
            · have HY : Hid ([X] = unitR (runeL (sfx s j))) := by show [X] = _; rw [HR.out, unitR, if_pos hXs]
              obtain ⟨Y, hY⟩ : ∃ Y : Int, (X : Int) = Y := ⟨_, rfl⟩
              rw [hY]
              have y0 : 0 ≤ Y := by omega
              have y1 : Y < 65536 := by omega
              have HYX : Hid _ := hY
              clear hY hXs hR hb1 HR
              go_wp2_with (refine wp_appN rfl (.tmp 45) (.tmp 47) 36 rfl 3 i0 Tryz.underlying36 HI.out hz0 hz1 hz2 w.heap.size _ us.length (us.map iV) (.int .i64 Y) rfl wr rfl HO.out hbs (by have := HU.out; omega) rfl ?_; intro v5 w5 ho5 hb5; have W5 : Hid _ := ho5; have B5 : Hid _ := hb5; clear ho5 hb5)
              go_roundw
              case rel => exact UInv.next hlt HU.out HE.out (by rw [HS.out]; go_num) (by rw [HS.out]; omega) HY.out (by show w5.ownsRow _ _ _ _ (us.length + 1) (us.map iV ++ [.int .i64 (X : Int)]); rw [HYX.out]; exact W5.out) (HB.out.trans B5.out)
              case measure => simp [intOf]; omega
            · exfalso; clear HR; simp at hR; omega
      · have hstep : stepL (sfx s j) = 2 := by unfold stepL; rw [h0]; rfl
        have hsz : j + 2 ≤ s.size := by omega
        have hsq : ∀ w, Calls Tryz.prog 20 #[.string s, .int .i64 (j : Int)] w fun e w' => e = .returned (.int .i64 2) ∧ w' = w := fun w => by have := rsequence s j w hlt (by omega); rw [h0] at this; exact this
        clear h0 HLL
        have HG : Hid (∀ k, (sfx s j).getD k 0 = if h : j + k < s.size then s[j + k] else (sfx s j).getD k 0) := fun k => by split; exact sfx_getD s j k (by assumption); rfl
        have HS : Hid _ := hstep
        clear hstep
        have c0 : (s[j].toNat : Int) < 256 := by have := s[j].toNat_lt; omega
        go_wp2_with fail
        refine (hsq _).mono ?_
        rintro e w1 ⟨rfl, hw1⟩; rw [hw1]; clear hw1 w1 hsq
        go_wp2_with fail
        go_loop [6, 7] (fun r k => ∃ m : Nat, 1 ≤ m ∧ m ≤ 2 ∧ k = .int .i64 (m : Int) ∧ r = .int .i64 (runeTo (sfx s j) 2 (m - 1) : Nat)) (fun _ k => 2 - (intOf k).toNat)
        case atStart =>
          refine ⟨1, by omega, by omega, rfl, ?_⟩
          have := sfx_getD s j 0 (by omega)
          simp only [Nat.sub_self, runeTo, this]
          rfl
        case round =>
          obtain ⟨m, hm1, hm2, rfl, rfl⟩ := hrel
          by_cases hm : m < 2
          · have hR := runeTo_lt (sfx s j) 2 (m - 1)
            have hnext : runeTo (sfx s j) 2 m = 64 * runeTo (sfx s j) 2 (m - 1) + s[j + m].toNat % 64 := by
              obtain ⟨m', rfl⟩ : ∃ m', m = m' + 1 := ⟨m - 1, by omega⟩
              rw [runeTo, sfx_getD s j (m' + 1) (by omega)]; rfl
            have hRb : runeTo (sfx s j) 2 (m - 1) < 67108864 := by
              have : 64 ^ (m - 1) ≤ 64 ^ 3 := Nat.pow_le_pow_right (by omega) (by omega)
              omega
            clear hR
            have HN : Hid _ := hnext
            clear hnext
            have HRX : ∃ X, runeTo (sfx s j) 2 (m - 1) = X := ⟨_, rfl⟩
            obtain ⟨X, hX⟩ := HRX
            rw [hX] at hRb ⊢
            have HX : Hid _ := hX
            clear hX
            have hi1 : (0 : Int) ≤ (j : Int) + m := by omega
            have hi2 : (j : Int) + m < (s.size : Int) := by omega
            have ht : ((j : Int) + (m : Int)).toNat = j + m := by omega
            have hx : j + m < s.size := by omega
            go_wp2_with fail
            go_round
            case rel => exact ⟨m + 1, by omega, by omega, by go_num, by rw [Nat.add_sub_cancel, HN.out, HX.out]; exact congrArg (Value.int .i64) (wr_step X s[j + m].toNat hRb s[j + m].toNat_lt)⟩
            case measure => simp [intOf]; omega
          · obtain rfl : m = 2 := by omega
            have hR := runeTo_lt (sfx s j) 2 (2 - 1)
            have HR : Hid (runeL (sfx s j) = runeTo (sfx s j) 2 (2 - 1)) := by show runeL (sfx s j) = _; unfold runeL; rw [HS.out]
            generalize runeTo (sfx s j) 2 (2 - 1) = X at hR HR
            have hb1 : (X : Int) < 67108864 := by omega
            by_cases hXs : X < 65536
            · have HY : Hid ([X] = unitR (runeL (sfx s j))) := by show [X] = _; rw [HR.out, unitR, if_pos hXs]
              obtain ⟨Y, hY⟩ : ∃ Y : Int, (X : Int) = Y := ⟨_, rfl⟩
              rw [hY]
              have y0 : 0 ≤ Y := by omega
              have y1 : Y < 65536 := by omega
              have HYX : Hid _ := hY
              clear hY hXs hR hb1 HR
              go_wp2_with (refine wp_appN rfl (.tmp 45) (.tmp 47) 36 rfl 3 i0 Tryz.underlying36 HI.out hz0 hz1 hz2 w.heap.size _ us.length (us.map iV) (.int .i64 Y) rfl wr rfl HO.out hbs (by have := HU.out; omega) rfl ?_; intro v5 w5 ho5 hb5; have W5 : Hid _ := ho5; have B5 : Hid _ := hb5; clear ho5 hb5)
              go_roundw
              case rel => exact UInv.next hlt HU.out HE.out (by rw [HS.out]; go_num) (by rw [HS.out]; omega) HY.out (by show w5.ownsRow _ _ _ _ (us.length + 1) (us.map iV ++ [.int .i64 (X : Int)]); rw [HYX.out]; exact W5.out) (HB.out.trans B5.out)
              case measure => simp [intOf]; omega
            · exfalso; clear HR; simp at hR; omega
      · have hstep : stepL (sfx s j) = 3 := by unfold stepL; rw [h0]; rfl
        have hsz : j + 3 ≤ s.size := by omega
        have hsq : ∀ w, Calls Tryz.prog 20 #[.string s, .int .i64 (j : Int)] w fun e w' => e = .returned (.int .i64 3) ∧ w' = w := fun w => by have := rsequence s j w hlt (by omega); rw [h0] at this; exact this
        clear h0 HLL
        have HG : Hid (∀ k, (sfx s j).getD k 0 = if h : j + k < s.size then s[j + k] else (sfx s j).getD k 0) := fun k => by split; exact sfx_getD s j k (by assumption); rfl
        have HS : Hid _ := hstep
        clear hstep
        have c0 : (s[j].toNat : Int) < 256 := by have := s[j].toNat_lt; omega
        go_wp2_with fail
        refine (hsq _).mono ?_
        rintro e w1 ⟨rfl, hw1⟩; rw [hw1]; clear hw1 w1 hsq
        go_wp2_with fail
        go_loop [6, 7] (fun r k => ∃ m : Nat, 1 ≤ m ∧ m ≤ 3 ∧ k = .int .i64 (m : Int) ∧ r = .int .i64 (runeTo (sfx s j) 3 (m - 1) : Nat)) (fun _ k => 3 - (intOf k).toNat)
        case atStart =>
          refine ⟨1, by omega, by omega, rfl, ?_⟩
          have := sfx_getD s j 0 (by omega)
          simp only [Nat.sub_self, runeTo, this]
          rfl
        case round =>
          obtain ⟨m, hm1, hm2, rfl, rfl⟩ := hrel
          by_cases hm : m < 3
          · have hR := runeTo_lt (sfx s j) 3 (m - 1)
            have hnext : runeTo (sfx s j) 3 m = 64 * runeTo (sfx s j) 3 (m - 1) + s[j + m].toNat % 64 := by
              obtain ⟨m', rfl⟩ : ∃ m', m = m' + 1 := ⟨m - 1, by omega⟩
              rw [runeTo, sfx_getD s j (m' + 1) (by omega)]; rfl
            have hRb : runeTo (sfx s j) 3 (m - 1) < 67108864 := by
              have : 64 ^ (m - 1) ≤ 64 ^ 3 := Nat.pow_le_pow_right (by omega) (by omega)
              omega
            clear hR
            have HN : Hid _ := hnext
            clear hnext
            have HRX : ∃ X, runeTo (sfx s j) 3 (m - 1) = X := ⟨_, rfl⟩
            obtain ⟨X, hX⟩ := HRX
            rw [hX] at hRb ⊢
            have HX : Hid _ := hX
            clear hX
            have hi1 : (0 : Int) ≤ (j : Int) + m := by omega
            have hi2 : (j : Int) + m < (s.size : Int) := by omega
            have ht : ((j : Int) + (m : Int)).toNat = j + m := by omega
            have hx : j + m < s.size := by omega
            go_wp2_with fail
            go_round
            case rel => exact ⟨m + 1, by omega, by omega, by go_num, by rw [Nat.add_sub_cancel, HN.out, HX.out]; exact congrArg (Value.int .i64) (wr_step X s[j + m].toNat hRb s[j + m].toNat_lt)⟩
            case measure => simp [intOf]; omega
          · obtain rfl : m = 3 := by omega
            have hR := runeTo_lt (sfx s j) 3 (3 - 1)
            have HR : Hid (runeL (sfx s j) = runeTo (sfx s j) 3 (3 - 1)) := by show runeL (sfx s j) = _; unfold runeL; rw [HS.out]
            generalize runeTo (sfx s j) 3 (3 - 1) = X at hR HR
            have hb1 : (X : Int) < 67108864 := by omega
            by_cases hXs : X < 65536
            · have HY : Hid ([X] = unitR (runeL (sfx s j))) := by show [X] = _; rw [HR.out, unitR, if_pos hXs]
              obtain ⟨Y, hY⟩ : ∃ Y : Int, (X : Int) = Y := ⟨_, rfl⟩
              rw [hY]
              have y0 : 0 ≤ Y := by omega
              have y1 : Y < 65536 := by omega
              have HYX : Hid _ := hY
              clear hY hXs hR hb1 HR
              go_wp2_with (refine wp_appN rfl (.tmp 45) (.tmp 47) 36 rfl 3 i0 Tryz.underlying36 HI.out hz0 hz1 hz2 w.heap.size _ us.length (us.map iV) (.int .i64 Y) rfl wr rfl HO.out hbs (by have := HU.out; omega) rfl ?_; intro v5 w5 ho5 hb5; have W5 : Hid _ := ho5; have B5 : Hid _ := hb5; clear ho5 hb5)
              go_roundw
              case rel => exact UInv.next hlt HU.out HE.out (by rw [HS.out]; go_num) (by rw [HS.out]; omega) HY.out (by show w5.ownsRow _ _ _ _ (us.length + 1) (us.map iV ++ [.int .i64 (X : Int)]); rw [HYX.out]; exact W5.out) (HB.out.trans B5.out)
              case measure => simp [intOf]; omega
            · have HY : Hid ([55296 + (X - 65536) / 1024, 56320 + (X - 65536) % 1024] = unitR (runeL (sfx s j))) := by show _ = _; rw [HR.out, unitR, if_neg hXs]
              obtain ⟨Y, hY⟩ : ∃ Y : Nat, X = 65536 + Y := ⟨X - 65536, by omega⟩
              obtain ⟨Z, hZ⟩ : ∃ Z : Int, (X : Int) = Z := ⟨_, rfl⟩
              rw [hZ]
              have z0 : 65536 ≤ Z := by omega
              have z1 : Z < 67108864 := by omega
              have zd : decide (Z < 65536) = false := by simp; omega
              have HYX : Hid ((55296 + (X - 65536) / 1024 : Nat) = 55296 + (Z - 65536) / 1024 ∧ (56320 + (X - 65536) % 1024 : Nat) = 56320 + (Z - 65536) % 1024) := by show _ ∧ _; omega
              clear hY hXs hR hb1 HR hZ
              go_wp2_with (first | (refine wp_appN rfl (.tmp 49) (.tmp 54) 36 rfl 3 i0 Tryz.underlying36 HI.out hz0 hz1 hz2 w.heap.size _ us.length (us.map iV) (.int .i64 (55296 + (Z - 65536) / 1024)) rfl wr rfl HO.out hbs (by have := HU.out; omega) rfl ?_; intro v5 w5 ho5 hb5; have hbs5 := Nat.le_trans hbs hb5.size; have W5 : Hid _ := ho5; have B5 : Hid _ := hb5; clear ho5 hb5) | (refine wp_appN rfl (.tmp 56) (.tmp 61) 36 rfl 3 i0 Tryz.underlying36 HI.out hz0 hz1 hz2 w.heap.size _ (us.length + 1) _ (.int .i64 (56320 + (Z - 65536) % 1024)) rfl w5 rfl W5.out hbs5 (by have := HU.out; omega) rfl ?_; intro v6 w6 ho6 hb6; have W6 : Hid _ := ho6; have B6 : Hid _ := hb6; clear ho6 hb6))
              go_roundw
              case rel => exact UInv.next hlt HU.out HE.out (by rw [HS.out]; go_num) (by rw [HS.out]; omega) HY.out (by
                show w6.ownsRow _ _ _ _ (us.length + 2) (us.map iV ++ [.int .i64 ((55296 + (X - 65536) / 1024 : Nat) : Int), .int .i64 ((56320 + (X - 65536) % 1024 : Nat) : Int)])
                rw [HYX.out.1, HYX.out.2]
                have := W6.out
                rw [List.append_assoc] at this
                exact this) (HB.out.trans (B5.out.trans B6.out))
              case measure => simp [intOf]; omega
      · have hstep : stepL (sfx s j) = 4 := by unfold stepL; rw [h0]; rfl
        have hsz : j + 4 ≤ s.size := by omega
        have hsq : ∀ w, Calls Tryz.prog 20 #[.string s, .int .i64 (j : Int)] w fun e w' => e = .returned (.int .i64 4) ∧ w' = w := fun w => by have := rsequence s j w hlt (by omega); rw [h0] at this; exact this
        clear h0 HLL
        have HG : Hid (∀ k, (sfx s j).getD k 0 = if h : j + k < s.size then s[j + k] else (sfx s j).getD k 0) := fun k => by split; exact sfx_getD s j k (by assumption); rfl
        have HS : Hid _ := hstep
        clear hstep
        have c0 : (s[j].toNat : Int) < 256 := by have := s[j].toNat_lt; omega
        go_wp2_with fail
        refine (hsq _).mono ?_
        rintro e w1 ⟨rfl, hw1⟩; rw [hw1]; clear hw1 w1 hsq
        go_wp2_with fail
        go_loop [6, 7] (fun r k => ∃ m : Nat, 1 ≤ m ∧ m ≤ 4 ∧ k = .int .i64 (m : Int) ∧ r = .int .i64 (runeTo (sfx s j) 4 (m - 1) : Nat)) (fun _ k => 4 - (intOf k).toNat)
        case atStart =>
          refine ⟨1, by omega, by omega, rfl, ?_⟩
          have := sfx_getD s j 0 (by omega)
          simp only [Nat.sub_self, runeTo, this]
          rfl
        case round =>
          obtain ⟨m, hm1, hm2, rfl, rfl⟩ := hrel
          by_cases hm : m < 4
          · have hR := runeTo_lt (sfx s j) 4 (m - 1)
            have hnext : runeTo (sfx s j) 4 m = 64 * runeTo (sfx s j) 4 (m - 1) + s[j + m].toNat % 64 := by
              obtain ⟨m', rfl⟩ : ∃ m', m = m' + 1 := ⟨m - 1, by omega⟩
              rw [runeTo, sfx_getD s j (m' + 1) (by omega)]; rfl
            have hRb : runeTo (sfx s j) 4 (m - 1) < 67108864 := by
              have : 64 ^ (m - 1) ≤ 64 ^ 3 := Nat.pow_le_pow_right (by omega) (by omega)
              omega
            clear hR
            have HN : Hid _ := hnext
            clear hnext
            have HRX : ∃ X, runeTo (sfx s j) 4 (m - 1) = X := ⟨_, rfl⟩
            obtain ⟨X, hX⟩ := HRX
            rw [hX] at hRb ⊢
            have HX : Hid _ := hX
            clear hX
            have hi1 : (0 : Int) ≤ (j : Int) + m := by omega
            have hi2 : (j : Int) + m < (s.size : Int) := by omega
            have ht : ((j : Int) + (m : Int)).toNat = j + m := by omega
            have hx : j + m < s.size := by omega
            go_wp2_with fail
            go_round
            case rel => exact ⟨m + 1, by omega, by omega, by go_num, by rw [Nat.add_sub_cancel, HN.out, HX.out]; exact congrArg (Value.int .i64) (wr_step X s[j + m].toNat hRb s[j + m].toNat_lt)⟩
            case measure => simp [intOf]; omega
          · obtain rfl : m = 4 := by omega
            have hR := runeTo_lt (sfx s j) 4 (4 - 1)
            have HR : Hid (runeL (sfx s j) = runeTo (sfx s j) 4 (4 - 1)) := by show runeL (sfx s j) = _; unfold runeL; rw [HS.out]
            generalize runeTo (sfx s j) 4 (4 - 1) = X at hR HR
            have hb1 : (X : Int) < 67108864 := by omega
            by_cases hXs : X < 65536
            · have HY : Hid ([X] = unitR (runeL (sfx s j))) := by show [X] = _; rw [HR.out, unitR, if_pos hXs]
              obtain ⟨Y, hY⟩ : ∃ Y : Int, (X : Int) = Y := ⟨_, rfl⟩
              rw [hY]
              have y0 : 0 ≤ Y := by omega
              have y1 : Y < 65536 := by omega
              have HYX : Hid _ := hY
              clear hY hXs hR hb1 HR
              go_wp2_with (refine wp_appN rfl (.tmp 45) (.tmp 47) 36 rfl 3 i0 Tryz.underlying36 HI.out hz0 hz1 hz2 w.heap.size _ us.length (us.map iV) (.int .i64 Y) rfl wr rfl HO.out hbs (by have := HU.out; omega) rfl ?_; intro v5 w5 ho5 hb5; have W5 : Hid _ := ho5; have B5 : Hid _ := hb5; clear ho5 hb5)
              go_roundw
              case rel => exact UInv.next hlt HU.out HE.out (by rw [HS.out]; go_num) (by rw [HS.out]; omega) HY.out (by show w5.ownsRow _ _ _ _ (us.length + 1) (us.map iV ++ [.int .i64 (X : Int)]); rw [HYX.out]; exact W5.out) (HB.out.trans B5.out)
              case measure => simp [intOf]; omega
            · have HY : Hid ([55296 + (X - 65536) / 1024, 56320 + (X - 65536) % 1024] = unitR (runeL (sfx s j))) := by show _ = _; rw [HR.out, unitR, if_neg hXs]
              obtain ⟨Y, hY⟩ : ∃ Y : Nat, X = 65536 + Y := ⟨X - 65536, by omega⟩
              obtain ⟨Z, hZ⟩ : ∃ Z : Int, (X : Int) = Z := ⟨_, rfl⟩
              rw [hZ]
              have z0 : 65536 ≤ Z := by omega
              have z1 : Z < 67108864 := by omega
              have zd : decide (Z < 65536) = false := by simp; omega
              have HYX : Hid ((55296 + (X - 65536) / 1024 : Nat) = 55296 + (Z - 65536) / 1024 ∧ (56320 + (X - 65536) % 1024 : Nat) = 56320 + (Z - 65536) % 1024) := by show _ ∧ _; omega
              clear hY hXs hR hb1 HR hZ
              go_wp2_with (first | (refine wp_appN rfl (.tmp 49) (.tmp 54) 36 rfl 3 i0 Tryz.underlying36 HI.out hz0 hz1 hz2 w.heap.size _ us.length (us.map iV) (.int .i64 (55296 + (Z - 65536) / 1024)) rfl wr rfl HO.out hbs (by have := HU.out; omega) rfl ?_; intro v5 w5 ho5 hb5; have hbs5 := Nat.le_trans hbs hb5.size; have W5 : Hid _ := ho5; have B5 : Hid _ := hb5; clear ho5 hb5) | (refine wp_appN rfl (.tmp 56) (.tmp 61) 36 rfl 3 i0 Tryz.underlying36 HI.out hz0 hz1 hz2 w.heap.size _ (us.length + 1) _ (.int .i64 (56320 + (Z - 65536) % 1024)) rfl w5 rfl W5.out hbs5 (by have := HU.out; omega) rfl ?_; intro v6 w6 ho6 hb6; have W6 : Hid _ := ho6; have B6 : Hid _ := hb6; clear ho6 hb6))
              go_roundw
              case rel => exact UInv.next hlt HU.out HE.out (by rw [HS.out]; go_num) (by rw [HS.out]; omega) HY.out (by
                show w6.ownsRow _ _ _ _ (us.length + 2) (us.map iV ++ [.int .i64 ((55296 + (X - 65536) / 1024 : Nat) : Int), .int .i64 ((56320 + (X - 65536) % 1024 : Nat) : Int)])
                rw [HYX.out.1, HYX.out.2]
                have := W6.out
                rw [List.append_assoc] at this
                exact this) (HB.out.trans (B5.out.trans B6.out))
              case measure => simp [intOf]; omega
    · obtain rfl : j = s.size := by omega
      go_wp2_with fail
      go_ret
      have e : unitsL s.data.toList = us := by have := HE.out; rw [sfx_nil s s.size (Nat.le_refl _), unitsL_nil, List.append_nil] at this; exact this
      rw [e]
      exact ⟨_, rfl, HO.out, HB.out⟩
end Go.Proofs.YtoijppmkkhgkdacGreatDoor

/-
  Which of two names stands ahead.
-/
namespace Go.Proofs.YtoijppmkkhgkdacGreatDoor
open Go.RowKit
set_option linter.unusedVariables false

set_option maxHeartbeats 1000000 in
theorem rahead (a b : ByteArray) (w : World) (ha : a.size ≤ 1000000000) (hb : b.size ≤ 1000000000) : Calls Tryz.prog 13 #[.string a, .string b] w
    fun e w' => e = .returned (.bool (aheadL a.data.toList b.data.toList)) ∧ Below w.heap.size w w' := by
  have hla : (unitsL a.data.toList).length ≤ 2000000000 := by have := unitsL_len a.data.toList; simp at this; omega
  have hlb : (unitsL b.data.toList).length ≤ 2000000000 := by have := unitsL_len b.data.toList; simp at this; omega
  unfold aheadL
  have hua := fun w => runits a w ha
  have hub := fun w => runits b w hb
  generalize unitsL a.data.toList = us at *
  generalize unitsL b.data.toList = vs at *
  clear ha hb
  go_enter Tryz.func13, Tryz.ntmps13
  go_wp2_with fail
  refine (hua _).mono ?_
  rintro e w1 ⟨x, rfl, r1, b1⟩
  have R1 : Hid (IRow w1 x us) := IRow.of r1
  have B1 : Hid (Below w.heap.size w w1) := b1
  have hz : w.heap.size ≤ w1.heap.size := b1.size
  clear r1 b1 hua
  go_wp2_with fail
  refine (hub _).mono ?_
  rintro e w2 ⟨y, rfl, r2, b2⟩
  have R2 : Hid (IRow w2 y vs) := IRow.of r2
  have R1' : Hid (IRow w2 x us) := R1.out.keep fun g j u hc => cell_keep b2 hc
  have B2 : Hid (Below w.heap.size w w2) := B1.out.trans ⟨b2.os, b2.tape, b2.output, b2.size, fun k hk => b2.block k (by omega)⟩
  clear r2 b2 hub R1 B1
  go_wp2_with fail
  go_loopw [7] (fun i wr => ∃ j : Nat, j ≤ us.length ∧ j ≤ vs.length ∧ i = .int .i64 (j : Int) ∧ aheadU us vs = aheadU (us.drop j) (vs.drop j) ∧ IRow wr x us ∧ IRow wr y vs ∧ Below w.heap.size w wr) (fun i _ => us.length - (intOf i).toNat)
  case atStart => exact ⟨0, by omega, by omega, rfl, rfl, R1'.out, R2.out, B2.out⟩
  case round =>
    clear R1' R2 B2
    obtain ⟨j, hj, hj', rfl, he, r1, r2, hb⟩ := hrel
    have HE : Hid _ := he
    have R1 : Hid (IRow wr x us) := r1
    have R2 : Hid (IRow wr y vs) := r2
    have HB : Hid (Below w.heap.size w wr) := hb
    obtain ⟨ad1, cap1, rfl, c1⟩ := r1
    obtain ⟨ad2, cap2, rfl, c2⟩ := r2
    clear he hb
    by_cases hlt : j < us.length ∧ j < vs.length
    · obtain ⟨k1, k2⟩ := hlt
      have k1' : (j : Int) < (us.length : Int) := by omega
      have k2' : (j : Int) < (vs.length : Int) := by omega
      obtain ⟨p, hp⟩ : ∃ p, us[j]? = some p := ⟨_, List.getElem?_eq_getElem k1⟩
      obtain ⟨q, hq⟩ : ∃ q, vs[j]? = some q := ⟨_, List.getElem?_eq_getElem k2⟩
      obtain ⟨g1, rfl, d1⟩ := c1 j p hp
      obtain ⟨g2, rfl, d2⟩ := c2 j q hq
      have HP : Hid (us[j]? = some p ∧ vs[j]? = some q) := ⟨hp, hq⟩
      clear c1 c2 hp hq
      by_cases hpq : p = q
      · subst hpq
        go_wp2_with fail
        go_quiet (fail)
        go_wp2_with fail
        go_roundw
        case rel => exact ⟨j + 1, by omega, by omega, by go_num, HE.out.trans (aheadU_step us vs j p HP.out.1 HP.out.2), R1.out.drewN nq, R2.out.drewN nq, bdN HB.out nq⟩
        case measure => simp [intOf]; omega
      · have hpq' : ((p : Int) == (q : Int)) = false := by simp; omega
        have HPQ : Hid _ := hpq
        clear hpq
        go_wp2_with fail
        go_quiet (fail)
        go_wp2_with fail
        go_quiet (fail)
        go_wp2
        go_ret
        refine ⟨?_, bdN (bdN HB.out _) _⟩
        rw [HE.out, aheadU_ne us vs j p q HP.out.1 HP.out.2 HPQ.out]
        go_num
    · by_cases k1 : j < us.length
      · have k1' : (j : Int) < (us.length : Int) := by omega
        have k2' : decide ((j : Int) < (vs.length : Int)) = false := by simp; omega
        have HEE : Hid (aheadU us vs = decide (us.length < vs.length)) := by show _ = _; rw [HE.out, aheadU_end us vs j hj hj' (by omega)]
        go_wp2
        go_ret
        exact ⟨by rw [HEE.out]; rfl, HB.out⟩
      · have k1' : decide ((j : Int) < (us.length : Int)) = false := by simp; omega
        have HEE : Hid (aheadU us vs = decide (us.length < vs.length)) := by show _ = _; rw [HE.out, aheadU_end us vs j hj hj' (by omega)]
        go_wp2
        go_ret
        exact ⟨by rw [HEE.out]; rfl, HB.out⟩
end Go.Proofs.YtoijppmkkhgkdacGreatDoor
/-
  An object of two names, read, and its one form.
-/
namespace Go.Proofs.YtoijppmkkhgkdacGreatDoor
set_option linter.unusedVariables false

theorem quot_pre {a : List UInt8} (hu : U8 a) (rest : List UInt8) : quotL (strT a ++ rest) = .ok (a, (strT a).length) := by
  unfold quotL strT
  simp only [List.cons_append, if_true, List.append_assoc, List.nil_append]
  unfold strL
  rw [strF_sgns hu rest _ (by simp; omega)]
  simp
theorem nb_no (c : UInt8) (l : List UInt8) (h : isB c = false) : nb (c :: l) = 0 := by rw [nb, if_neg (by simp [h])]
theorem valL_dig (d j n : Nat) (c : UInt8) (r : List UInt8) (h1 : 1 ≤ n) (h2 : n ≤ 9) (hc : isD c = false) : valL d (UInt8.ofNat (48 + n) :: c :: r) j = .ok (.int (n : Int) j, 1) := by
  obtain ⟨d1, d2⟩ := digit_is n (by omega)
  have h34 : UInt8.ofNat (48 + n) ≠ 34 := fun e => by have := congrArg UInt8.toNat e; rw [d2] at this; simp at this; omega
  have h45 : UInt8.ofNat (48 + n) ≠ 45 := fun e => by have := congrArg UInt8.toNat e; rw [d2] at this; simp at this; omega
  have hI : intL (UInt8.ofNat (48 + n) :: c :: r) = .ok ((n : Int), 1) := by
    unfold intL
    dsimp only
    have e0 : (if (UInt8.ofNat (48 + n) :: c :: r).head? = some 45 then 1 else 0) = 0 := by rw [List.head?_cons, if_neg (fun e => h45 (Option.some.inj e))]
    have e1 : nd (UInt8.ofNat (48 + n) :: c :: r) = 1 := by rw [nd, if_pos d1, nd, if_neg (by simp [hc])]
    rw [e0, List.drop_zero, e1]
    have e2 : accN 0 ((UInt8.ofNat (48 + n) :: c :: r).take 1) = n := by
      show accN 0 [UInt8.ofNat (48 + n)] = n
      rw [accN, accN, d2, if_pos (by unfold maxI; omega)]; omega
    rw [e2, if_neg (by omega), if_neg (by unfold maxI; omega), if_neg (by omega)]
  rw [valL_cons, if_neg h34, if_pos (.inr d1), hI]
theorem objF_more (d f : Nat) (ks : List (List UInt8)) (a r : List UInt8) (i n : Nat) (hu : U8 a) (hk : a ∉ ks) (h1 : 1 ≤ n) (h2 : n ≤ 9) :
    objF (valL d) (f + 1) ks (strT a ++ 58 :: UInt8.ofNat (48 + n) :: 44 :: r) i = (match objF (valL d) f (ks ++ [a]) r (i + ((strT a).length + 3)) with | .error e => .error e | .ok (ms, k) => .ok ((a, .int (n : Int) (i + ((strT a).length + 1))) :: ms, (strT a).length + 3 + k)) := by
  have hq := quot_pre hu (58 :: UInt8.ofNat (48 + n) :: 44 :: r)
  have hnb : nb (strT a ++ 58 :: UInt8.ofNat (48 + n) :: 44 :: r) = 0 := by unfold strT; rw [List.cons_append, List.cons_append]; exact nb_no _ _ (by decide)
  obtain ⟨d1, d2⟩ := digit_is n (by omega)
  have hdb : isB (UInt8.ofNat (48 + n)) = false := by
    unfold isB
    have hne : ∀ c : UInt8, c.toNat < 48 → (UInt8.ofNat (48 + n) == c) = false := fun c hc => by
      simp only [beq_eq_false_iff_ne]
      intro e; have := congrArg UInt8.toNat e; rw [d2] at this; omega
    rw [hne 32 (by decide), hne 9 (by decide), hne 10 (by decide), hne 13 (by decide)]; rfl
  generalize hm : (strT a).length = m at *
  have p0 : (strT a ++ 58 :: UInt8.ofNat (48 + n) :: 44 :: r).drop m = 58 :: UInt8.ofNat (48 + n) :: 44 :: r := List.drop_left' hm
  have p1 : (strT a ++ 58 :: UInt8.ofNat (48 + n) :: 44 :: r).drop (m + 1) = UInt8.ofNat (48 + n) :: 44 :: r := by rw [← List.drop_drop, p0]; rfl
  have p2 : (strT a ++ 58 :: UInt8.ofNat (48 + n) :: 44 :: r).drop (m + 1 + 1) = 44 :: r := by rw [← List.drop_drop, p1]; rfl
  have p3 : (strT a ++ 58 :: UInt8.ofNat (48 + n) :: 44 :: r).drop (m + 1 + 1 + 1) = r := by rw [← List.drop_drop, p2]; rfl
  rw [objF]
  dsimp only
  rw [hnb, List.drop_zero, hq]
  dsimp only
  rw [if_neg hk, Nat.zero_add, p0, nb_no 58 _ (by decide), Nat.add_zero, p0]
  dsimp only
  rw [if_pos rfl, p1, nb_no _ _ hdb, Nat.add_zero, p1, valL_dig d _ n 44 r h1 h2 (by decide)]
  dsimp only
  rw [p2, nb_no 44 _ (by decide), Nat.add_zero, p2]
  dsimp only
  rw [if_pos rfl, p3]
  all_goals rfl
theorem objF_last (d f : Nat) (ks : List (List UInt8)) (a r : List UInt8) (i n : Nat) (hu : U8 a) (hk : a ∉ ks) (h1 : 1 ≤ n) (h2 : n ≤ 9) :
    objF (valL d) (f + 1) ks (strT a ++ 58 :: UInt8.ofNat (48 + n) :: 125 :: r) i = .ok ([(a, .int (n : Int) (i + ((strT a).length + 1)))], (strT a).length + 3) := by
  have hq := quot_pre hu (58 :: UInt8.ofNat (48 + n) :: 125 :: r)
  have hnb : nb (strT a ++ 58 :: UInt8.ofNat (48 + n) :: 125 :: r) = 0 := by unfold strT; rw [List.cons_append, List.cons_append]; exact nb_no _ _ (by decide)
  obtain ⟨d1, d2⟩ := digit_is n (by omega)
  have hdb : isB (UInt8.ofNat (48 + n)) = false := by
    unfold isB
    have hne : ∀ c : UInt8, c.toNat < 48 → (UInt8.ofNat (48 + n) == c) = false := fun c hc => by
      simp only [beq_eq_false_iff_ne]
      intro e; have := congrArg UInt8.toNat e; rw [d2] at this; omega
    rw [hne 32 (by decide), hne 9 (by decide), hne 10 (by decide), hne 13 (by decide)]; rfl
  generalize hm : (strT a).length = m at *
  have p0 : (strT a ++ 58 :: UInt8.ofNat (48 + n) :: 125 :: r).drop m = 58 :: UInt8.ofNat (48 + n) :: 125 :: r := List.drop_left' hm
  have p1 : (strT a ++ 58 :: UInt8.ofNat (48 + n) :: 125 :: r).drop (m + 1) = UInt8.ofNat (48 + n) :: 125 :: r := by rw [← List.drop_drop, p0]; rfl
  have p2 : (strT a ++ 58 :: UInt8.ofNat (48 + n) :: 125 :: r).drop (m + 1 + 1) = 125 :: r := by rw [← List.drop_drop, p1]; rfl
  rw [objF]
  dsimp only
  rw [hnb, List.drop_zero, hq]
  dsimp only
  rw [if_neg hk, Nat.zero_add, p0, nb_no 58 _ (by decide), Nat.add_zero, p0]
  dsimp only
  rw [if_pos rfl, p1, nb_no _ _ hdb, Nat.add_zero, p1, valL_dig d _ n 125 r h1 h2 (by decide)]
  dsimp only
  rw [p2, nb_no 125 _ (by decide), Nat.add_zero, p2]
  dsimp only
  rw [if_neg (by decide), if_pos rfl]
/-- The text of an object of two names. -/
def two (a b : List UInt8) (m n : Nat) : List UInt8 := 123 :: (strT a ++ 58 :: UInt8.ofNat (48 + m) :: 44 :: (strT b ++ 58 :: UInt8.ofNat (48 + n) :: 125 :: []))
theorem readL_two {a b : List UInt8} (ha : U8 a) (hb : U8 b) (hab : a ≠ b) (m n : Nat) (m1 : 1 ≤ m) (m2 : m ≤ 9) (n1 : 1 ≤ n) (n2 : n ≤ 9) (hl : (two a b m n).length ≤ 65536) :
    ∃ i j, readL (two a b m n) = .ok (.obj [(a, .int (m : Int) i), (b, .int (n : Int) j)] 0) := by
  have hnb : nb (two a b m n) = 0 := nb_no _ _ (by decide)
  have hlen : (two a b m n).length = 1 + ((strT a).length + 3 + ((strT b).length + 3)) := by unfold two; simp; omega
  have hO : ∃ i j, objL (valL 31) (two a b m n) 0 = .ok (.obj [(a, .int (m : Int) i), (b, .int (n : Int) j)] 0, (two a b m n).length) := by
    have hd1 : (two a b m n).drop 1 = strT a ++ 58 :: UInt8.ofNat (48 + m) :: 44 :: (strT b ++ 58 :: UInt8.ofNat (48 + n) :: 125 :: []) := rfl
    have hb1 : nb ((two a b m n).drop 1) = 0 := by rw [hd1]; unfold strT; rw [List.cons_append, List.cons_append]; exact nb_no _ _ (by decide)
    obtain ⟨f, hf⟩ : ∃ f, (two a b m n).length + 1 = f + 1 + 1 := ⟨(two a b m n).length - 1, by omega⟩
    refine ⟨1 + ((strT a).length + 1), 1 + ((strT a).length + 3) + ((strT b).length + 1), ?_⟩
    unfold objL
    dsimp only
    rw [hb1, Nat.add_zero]
    rw [if_neg (by rw [hd1]; unfold strT; simp), hf, hd1, objF_more 31 (f + 1) [] a _ _ m ha (by simp) m1 m2, objF_last 31 f _ b [] _ n hb (by simpa using Ne.symm hab) n1 n2]
    dsimp only
    rw [hlen]
  obtain ⟨i, j, hO⟩ := hO
  refine ⟨i, j, ?_⟩
  have hc : two a b m n = 123 :: (two a b m n).drop 1 := rfl
  have hv : valL 32 (two a b m n) 0 = .ok (.obj [(a, .int (m : Int) i), (b, .int (n : Int) j)] 0, (two a b m n).length) := by
    rw [hc, valL_cons, ← hc]
    rw [if_neg (by decide), if_neg (by decide), if_neg (by decide), if_pos (by decide)]
    dsimp only
    rw [if_neg (by decide)]
    exact hO
  unfold readL
  rw [if_neg (by omega)]
  dsimp only
  rw [hnb, List.drop_zero, hv]
  dsimp only
  rw [Nat.zero_add, List.drop_of_length_le (Nat.le_refl _)]
  rw [if_neg (by simp [nb])]
theorem form_two (a b : List UInt8) (m n i j : Nat) (m1 : 1 ≤ m) (m2 : m ≤ 9) (n1 : 1 ≤ n) (n2 : n ≤ 9) :
    formN (flat 0 [] (.obj [(a, .int (m : Int) i), (b, .int (n : Int) j)] 0)) (flat 0 [] (.obj [(a, .int (m : Int) i), (b, .int (n : Int) j)] 0)).length 0 = if aheadL b a = true then two b a n m else two a b m n := by
  have hfl : flat 0 [] (.obj [(a, .int (m : Int) i), (b, .int (n : Int) j)] 0) = [⟨5, [], [], 0, [1, 2], 0⟩, ⟨2, a, [], m, [], i⟩, ⟨2, b, [], n, [], j⟩] := rfl
  rw [hfl]
  generalize hL : [(⟨5, [], [], 0, [1, 2], 0⟩ : Nd), ⟨2, a, [], m, [], i⟩, ⟨2, b, [], n, [], j⟩] = L
  have l0 : L[0]? = some ⟨5, [], [], 0, [1, 2], 0⟩ := by rw [← hL]; rfl
  have l1 : L[1]? = some ⟨2, a, [], m, [], i⟩ := by rw [← hL]; rfl
  have l2 : L[2]? = some ⟨2, b, [], n, [], j⟩ := by rw [← hL]; rfl
  have hlen : L.length = 3 := by rw [← hL]; rfl
  have dg : ∀ x : Nat, 1 ≤ x → x ≤ 9 → decI (x : Int) = [UInt8.ofNat (48 + x)] := fun x h1 h2 => by
    unfold decI; rw [if_neg (by omega), Int.toNat_natCast, decN_small x (by omega)]
  have f1 : memF L (formN L 2) 1 = strT a ++ 58 :: [UInt8.ofNat (48 + m)] := by
    unfold memF; rw [keyL_of l1]; simp [formN, l1, dg m m1 m2]
  have f2 : memF L (formN L 2) 2 = strT b ++ 58 :: [UInt8.ofNat (48 + n)] := by
    unfold memF; rw [keyL_of l2]; simp [formN, l2, dg n n1 n2]
  have hlt : ltK L 2 1 = aheadL b a := by unfold ltK; rw [keyL_of l1, keyL_of l2]
  have hs : srt (ltK L) [1, 2] = if aheadL b a = true then [2, 1] else [1, 2] := by
    rw [← hlt]
    by_cases h : ltK L 2 1 = true <;> simp [srt, insL, insR, h]
  rw [hlen, formN, l0]
  dsimp only
  rw [if_neg (by decide), if_neg (by decide), if_neg (by decide), if_neg (by decide), if_neg (by decide), hs]
  by_cases h : aheadL b a = true
  · rw [if_pos h, if_pos h]
    simp [bodyTo, f1, f2, two]
  · rw [if_neg h, if_neg h]
    simp [bodyTo, f1, f2, two]
theorem prF_two {a b : List UInt8} (ha : U8 a) (hb : U8 b) (hab : a ≠ b) (m n : Nat) (m1 : 1 ≤ m) (m2 : m ≤ 9) (n1 : 1 ≤ n) (n2 : n ≤ 9) (hl : (two a b m n).length ≤ 65536) :
    prF (readL (two a b m n)) = (if aheadL b a = true then two b a n m else two a b m n, 0, 0) := by
  obtain ⟨i, j, hR⟩ := readL_two ha hb hab m n m1 m2 n1 n2 hl
  rw [hR]
  unfold prF
  simp only
  rw [form_two a b m n i j m1 m2 n1 n2]
theorem ahead_or {a b : List UInt8} (ha : U8 a) (hb : U8 b) (hab : a ≠ b) : aheadL b a = !aheadL a b := by
  have hne : unitsL a ≠ unitsL b := fun e => hab (units_inj ha hb e)
  unfold aheadL
  cases h : aheadU (unitsL a) (unitsL b) with
  | true => simpa using aheadU_asym _ _ h
  | false => simpa using aheadU_tot _ _ hne h
end Go.Proofs.YtoijppmkkhgkdacGreatDoor
