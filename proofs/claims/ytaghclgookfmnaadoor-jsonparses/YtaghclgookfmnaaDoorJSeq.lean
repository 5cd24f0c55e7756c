import Derived.Test.YtaghclgookfmnaaDoorJLex
/-
  notaryref.sequence, RightText.
-/
namespace Go.Proofs.YtaghclgookfmnaaDoor
open Go.RowKit
set_option linter.unusedVariables false

def okS (l : List UInt8) (lo hi k : Nat) : Bool := goesL l 1 lo hi && (decide (k ≤ 2) || goesL l 2 128 191) && (decide (k ≤ 3) || goesL l 3 128 191)
theorem okS2 (l : List UInt8) (lo hi : Nat) : okS l lo hi 2 = goesL l 1 lo hi := by simp [okS]
theorem okS3 (l : List UInt8) (lo hi : Nat) : okS l lo hi 3 = (okS l lo hi 2 && goesL l 2 128 191) := by simp [okS]
theorem okS4 (l : List UInt8) (lo hi : Nat) : okS l lo hi 4 = (okS l lo hi 3 && goesL l 3 128 191) := by simp [okS]
theorem okS_succ (l : List UInt8) (lo hi k : Nat) (h2 : 2 ≤ k) (h4 : k < 4) : okS l lo hi (k + 1) = (okS l lo hi k && goesL l k 128 191) := by
  have : k = 2 ∨ k = 3 := by omega
  rcases this with rfl | rfl
  · exact okS3 l lo hi
  · exact okS4 l lo hi

theorem seq_kinds (c : Nat) (h1 : 194 ≤ c) (h2 : c ≤ 244) :
    (c < 224 ∧ seqN c = 2 ∧ seqLo c = 128 ∧ seqHi c = 191) ∨ (c = 224 ∧ seqN c = 3 ∧ seqLo c = 160 ∧ seqHi c = 191) ∨ (c = 237 ∧ seqN c = 3 ∧ seqLo c = 128 ∧ seqHi c = 159) ∨
    (224 < c ∧ c < 240 ∧ c ≠ 237 ∧ seqN c = 3 ∧ seqLo c = 128 ∧ seqHi c = 191) ∨ (c = 240 ∧ seqN c = 4 ∧ seqLo c = 144 ∧ seqHi c = 191) ∨ (c = 244 ∧ seqN c = 4 ∧ seqLo c = 128 ∧ seqHi c = 143) ∨
    (240 < c ∧ c < 244 ∧ seqN c = 4 ∧ seqLo c = 128 ∧ seqHi c = 191) := by
  unfold seqN seqLo seqHi
  have : c < 224 ∨ c = 224 ∨ c = 237 ∨ (224 < c ∧ c < 240 ∧ c ≠ 237) ∨ c = 240 ∨ c = 244 ∨ (240 < c ∧ c < 244) := by omega
  rcases this with h | h | h | ⟨h, h', h''⟩ | h | h | ⟨h, h'⟩
  · left; refine ⟨h, ?_, ?_, ?_⟩ <;> (repeat' split) <;> omega
  · right; left; simp [h]
  · right; right; left; simp [h]
  · right; right; right; left; refine ⟨h, h', h'', ?_, ?_, ?_⟩ <;> (repeat' split) <;> omega
  · right; right; right; right; left; simp [h]
  · right; right; right; right; right; left; simp [h]
  · right; right; right; right; right; right; refine ⟨h, h', ?_, ?_, ?_⟩ <;> (repeat' split) <;> omega

set_option maxHeartbeats 1000000 in
theorem rsequence (s : ByteArray) (i : Nat) (w : World) (hi : i < s.size) (hs : s.size ≤ 140737488351232) : Calls Tryd.prog 36 #[.string s, .int .i64 (i : Int)] w
    fun e w' => e = .returned (.int .i64 (seqLen (sfx s i) : Int)) ∧ w' = w := by
  have hi' : (i : Int) < (s.size : Int) := by omega
  have hl : seqLen (sfx s i) = if s[i].toNat < 128 then 1 else if s[i].toNat < 194 ∨ 244 < s[i].toNat then 0 else if okS (sfx s i) (seqLo s[i].toNat) (seqHi s[i].toNat) (seqN s[i].toNat) = true then seqN s[i].toNat else 0 := by
    rw [sfx_cons s i hi]; rfl
  by_cases h1 : s[i].toNat < 128
  · rw [hl, if_pos h1]
    have h1' : (s[i].toNat : Int) < 128 := by omega
    clear hl h1
    go_enter Tryd.func36, Tryd.ntmps36
    go_wp2
    go_ret
    exact ⟨rfl, rfl⟩
  · have a1 : decide ((s[i].toNat : Int) < 128) = false := by simp; omega
    by_cases h2 : s[i].toNat < 194 ∨ 244 < s[i].toNat
    · rw [hl, if_neg h1, if_pos h2]
      clear hl
      by_cases h3 : s[i].toNat < 194
      · have h3' : (s[i].toNat : Int) < 194 := by omega
        clear h1 h2 h3
        go_enter Tryd.func36, Tryd.ntmps36
        go_wp2
        go_ret
        exact ⟨rfl, rfl⟩
      · have h3' : (244 : Int) < (s[i].toNat : Int) := by omega
        have a2 : decide ((s[i].toNat : Int) < 194) = false := by simp; omega
        clear h1 h2 h3
        go_enter Tryd.func36, Tryd.ntmps36
        go_wp2
        go_ret
        exact ⟨rfl, rfl⟩
    · rw [hl, if_neg h1, if_neg h2]
      have a2 : decide ((s[i].toNat : Int) < 194) = false := by simp; omega
      have a3 : decide ((244 : Int) < (s[i].toNat : Int)) = false := by simp; omega
      have hg := fun k lo hi w => rgoes s i k lo hi w
      have hk := seq_kinds s[i].toNat (by omega) (by omega)
      clear hl h1 h2
      rcases hk with ⟨h, n1, n2, n3⟩ | ⟨h, n1, n2, n3⟩ | ⟨h, n1, n2, n3⟩ | ⟨h, h', h'', n1, n2, n3⟩ | ⟨h, n1, n2, n3⟩ | ⟨h, n1, n2, n3⟩ | ⟨h, h', n1, n2, n3⟩
      · rw [n1, n2, n3]
        have b1 : decide ((224 : Int) ≤ (s[i].toNat : Int)) = false := by simp; omega
        have b2 : decide ((240 : Int) ≤ (s[i].toNat : Int)) = false := by simp; omega
        have c1 : ((s[i].toNat : Int) == 224) = false := by simp; omega
        have c2 : ((s[i].toNat : Int) == 237) = false := by simp; omega
        have c3 : ((s[i].toNat : Int) == 240) = false := by simp; omega
        have c4 : ((s[i].toNat : Int) == 244) = false := by simp; omega
        clear h
        clear n1 n2 n3
        generalize hR : (if okS (sfx s i) 128 191 2 = true then 2 else 0) = R
        have HR : Hid _ := hR
        clear hR
        go_enter Tryd.func36, Tryd.ntmps36
        go_wp2_with fail
        refine (hg 1 128 191 _).mono ?_
        rintro e w1 ⟨rfl, hw1⟩
        rw [hw1]; clear hw1 w1
        rw [← okS2]
        go_wp2_with fail
        go_loopw [9, 10] (fun ok k wr => ∃ j : Nat, 2 ≤ j ∧ j ≤ 2 ∧ k = .int .i64 (j : Int) ∧ ok = .bool (okS (sfx s i) 128 191 j) ∧ wr = w) (fun _ k _ => 4 - (intOf k).toNat)
        case atStart => exact ⟨2, by omega, by omega, rfl, rfl, rfl⟩
        case round =>
          obtain ⟨j, hj2, hjn, rfl, rfl, hwr⟩ := hrel
          rw [hwr]; clear hwr wr
          by_cases hlt : j < 2
          · have hlt' : (j : Int) < 2 := by omega
            have e1 := okS_succ (sfx s i) 128 191 j hj2 (by omega)
            generalize hb : okS (sfx s i) 128 191 j = b at e1
            have HE : Hid _ := e1
            clear e1 hb
            cases b
            all_goals
              go_wp2_with fail
              refine (hg j 128 191 _).mono ?_
              rintro e w1 ⟨rfl, hw1⟩
              rw [hw1]; clear hw1 w1
              go_wp2
              exact ⟨⟨j + 1, by omega, by omega, by go_num, by rw [HE.out]; simp, trivial⟩, by simp [intOf]; omega⟩
          · have hlt' : (2 : Int) ≤ (j : Int) := by omega
            have hjN : j = 2 := by omega
            have HJ : Hid (j = 2) := hjN
            clear hjN
            generalize hb : okS (sfx s i) 128 191 j = b
            have HB : Hid (okS (sfx s i) 128 191 j = b) := hb
            clear hb
            clear hj2 hjn hlt hg a1 a2 a3 b1 b2 c1 c2 c3 c4
            cases b
            · go_wp2
              go_ret
              refine ⟨ret_int ?_, rfl⟩
              have e := HB.out
              rw [HJ.out] at e
              rw [← HR.out, e]; rfl
            · go_wp2
              go_ret
              refine ⟨ret_int ?_, rfl⟩
              have e := HB.out
              rw [HJ.out] at e
              rw [← HR.out, e]; rfl
      · rw [n1, n2, n3]
        have b1 : decide ((224 : Int) ≤ (s[i].toNat : Int)) = true := by simp; omega
        have b2 : decide ((240 : Int) ≤ (s[i].toNat : Int)) = false := by simp; omega
        have c1 : ((s[i].toNat : Int) == 224) = true := by simp; omega
        have c2 : ((s[i].toNat : Int) == 237) = false := by simp; omega
        have c3 : ((s[i].toNat : Int) == 240) = false := by simp; omega
        have c4 : ((s[i].toNat : Int) == 244) = false := by simp; omega
        clear h
        clear n1 n2 n3
        generalize hR : (if okS (sfx s i) 160 191 3 = true then 3 else 0) = R
        have HR : Hid _ := hR
        clear hR
        go_enter Tryd.func36, Tryd.ntmps36
        go_wp2_with fail
        refine (hg 1 160 191 _).mono ?_
        rintro e w1 ⟨rfl, hw1⟩
        rw [hw1]; clear hw1 w1
        rw [← okS2]
        go_wp2_with fail
        go_loopw [9, 10] (fun ok k wr => ∃ j : Nat, 2 ≤ j ∧ j ≤ 3 ∧ k = .int .i64 (j : Int) ∧ ok = .bool (okS (sfx s i) 160 191 j) ∧ wr = w) (fun _ k _ => 4 - (intOf k).toNat)
        case atStart => exact ⟨2, by omega, by omega, rfl, rfl, rfl⟩
        case round =>
          obtain ⟨j, hj2, hjn, rfl, rfl, hwr⟩ := hrel
          rw [hwr]; clear hwr wr
          by_cases hlt : j < 3
          · have hlt' : (j : Int) < 3 := by omega
            have e1 := okS_succ (sfx s i) 160 191 j hj2 (by omega)
            generalize hb : okS (sfx s i) 160 191 j = b at e1
            have HE : Hid _ := e1
            clear e1 hb
            cases b
            all_goals
              go_wp2_with fail
              refine (hg j 128 191 _).mono ?_
              rintro e w1 ⟨rfl, hw1⟩
              rw [hw1]; clear hw1 w1
              go_wp2
              exact ⟨⟨j + 1, by omega, by omega, by go_num, by rw [HE.out]; simp, trivial⟩, by simp [intOf]; omega⟩
          · have hlt' : (3 : Int) ≤ (j : Int) := by omega
            have hjN : j = 3 := by omega
            have HJ : Hid (j = 3) := hjN
            clear hjN
            generalize hb : okS (sfx s i) 160 191 j = b
            have HB : Hid (okS (sfx s i) 160 191 j = b) := hb
            clear hb
            clear hj2 hjn hlt hg a1 a2 a3 b1 b2 c1 c2 c3 c4
            cases b
            · go_wp2
              go_ret
              refine ⟨ret_int ?_, rfl⟩
              have e := HB.out
              rw [HJ.out] at e
              rw [← HR.out, e]; rfl
            · go_wp2
              go_ret
              refine ⟨ret_int ?_, rfl⟩
              have e := HB.out
              rw [HJ.out] at e
              rw [← HR.out, e]; rfl
      · rw [n1, n2, n3]
        have b1 : decide ((224 : Int) ≤ (s[i].toNat : Int)) = true := by simp; omega
        have b2 : decide ((240 : Int) ≤ (s[i].toNat : Int)) = false := by simp; omega
        have c1 : ((s[i].toNat : Int) == 224) = false := by simp; omega
        have c2 : ((s[i].toNat : Int) == 237) = true := by simp; omega
        have c3 : ((s[i].toNat : Int) == 240) = false := by simp; omega
        have c4 : ((s[i].toNat : Int) == 244) = false := by simp; omega
        clear h
        clear n1 n2 n3
        generalize hR : (if okS (sfx s i) 128 159 3 = true then 3 else 0) = R
        have HR : Hid _ := hR
        clear hR
        go_enter Tryd.func36, Tryd.ntmps36
        go_wp2_with fail
        refine (hg 1 128 159 _).mono ?_
        rintro e w1 ⟨rfl, hw1⟩
        rw [hw1]; clear hw1 w1
        rw [← okS2]
        go_wp2_with fail
        go_loopw [9, 10] (fun ok k wr => ∃ j : Nat, 2 ≤ j ∧ j ≤ 3 ∧ k = .int .i64 (j : Int) ∧ ok = .bool (okS (sfx s i) 128 159 j) ∧ wr = w) (fun _ k _ => 4 - (intOf k).toNat)
        case atStart => exact ⟨2, by omega, by omega, rfl, rfl, rfl⟩
        case round =>
          obtain ⟨j, hj2, hjn, rfl, rfl, hwr⟩ := hrel
          rw [hwr]; clear hwr wr
          by_cases hlt : j < 3
          · have hlt' : (j : Int) < 3 := by omega
            have e1 := okS_succ (sfx s i) 128 159 j hj2 (by omega)
            generalize hb : okS (sfx s i) 128 159 j = b at e1
            have HE : Hid _ := e1
            clear e1 hb
            cases b
            all_goals
              go_wp2_with fail
              refine (hg j 128 191 _).mono ?_
              rintro e w1 ⟨rfl, hw1⟩
              rw [hw1]; clear hw1 w1
              go_wp2
              exact ⟨⟨j + 1, by omega, by omega, by go_num, by rw [HE.out]; simp, trivial⟩, by simp [intOf]; omega⟩
          · have hlt' : (3 : Int) ≤ (j : Int) := by omega
            have hjN : j = 3 := by omega
            have HJ : Hid (j = 3) := hjN
            clear hjN
            generalize hb : okS (sfx s i) 128 159 j = b
            have HB : Hid (okS (sfx s i) 128 159 j = b) := hb
            clear hb
            clear hj2 hjn hlt hg a1 a2 a3 b1 b2 c1 c2 c3 c4
            cases b
            · go_wp2
              go_ret
              refine ⟨ret_int ?_, rfl⟩
              have e := HB.out
              rw [HJ.out] at e
              rw [← HR.out, e]; rfl
            · go_wp2
              go_ret
              refine ⟨ret_int ?_, rfl⟩
              have e := HB.out
              rw [HJ.out] at e
              rw [← HR.out, e]; rfl
      · rw [n1, n2, n3]
        have b1 : decide ((224 : Int) ≤ (s[i].toNat : Int)) = true := by simp; omega
        have b2 : decide ((240 : Int) ≤ (s[i].toNat : Int)) = false := by simp; omega
        have c1 : ((s[i].toNat : Int) == 224) = false := by simp; omega
        have c2 : ((s[i].toNat : Int) == 237) = false := by simp; omega
        have c3 : ((s[i].toNat : Int) == 240) = false := by simp; omega
        have c4 : ((s[i].toNat : Int) == 244) = false := by simp; omega
        clear h h' h''
        clear n1 n2 n3
        generalize hR : (if okS (sfx s i) 128 191 3 = true then 3 else 0) = R
        have HR : Hid _ := hR
        clear hR
        go_enter Tryd.func36, Tryd.ntmps36
        go_wp2_with fail
        refine (hg 1 128 191 _).mono ?_
        rintro e w1 ⟨rfl, hw1⟩
        rw [hw1]; clear hw1 w1
        rw [← okS2]
        go_wp2_with fail
        go_loopw [9, 10] (fun ok k wr => ∃ j : Nat, 2 ≤ j ∧ j ≤ 3 ∧ k = .int .i64 (j : Int) ∧ ok = .bool (okS (sfx s i) 128 191 j) ∧ wr = w) (fun _ k _ => 4 - (intOf k).toNat)
        case atStart => exact ⟨2, by omega, by omega, rfl, rfl, rfl⟩
        case round =>
          obtain ⟨j, hj2, hjn, rfl, rfl, hwr⟩ := hrel
          rw [hwr]; clear hwr wr
          by_cases hlt : j < 3
          · have hlt' : (j : Int) < 3 := by omega
            have e1 := okS_succ (sfx s i) 128 191 j hj2 (by omega)
            generalize hb : okS (sfx s i) 128 191 j = b at e1
            have HE : Hid _ := e1
            clear e1 hb
            cases b
            all_goals
              go_wp2_with fail
              refine (hg j 128 191 _).mono ?_
              rintro e w1 ⟨rfl, hw1⟩
              rw [hw1]; clear hw1 w1
              go_wp2
              exact ⟨⟨j + 1, by omega, by omega, by go_num, by rw [HE.out]; simp, trivial⟩, by simp [intOf]; omega⟩
          · have hlt' : (3 : Int) ≤ (j : Int) := by omega
            have hjN : j = 3 := by omega
            have HJ : Hid (j = 3) := hjN
            clear hjN
            generalize hb : okS (sfx s i) 128 191 j = b
            have HB : Hid (okS (sfx s i) 128 191 j = b) := hb
            clear hb
            clear hj2 hjn hlt hg a1 a2 a3 b1 b2 c1 c2 c3 c4
            cases b
            · go_wp2
              go_ret
              refine ⟨ret_int ?_, rfl⟩
              have e := HB.out
              rw [HJ.out] at e
              rw [← HR.out, e]; rfl
            · go_wp2
              go_ret
              refine ⟨ret_int ?_, rfl⟩
              have e := HB.out
              rw [HJ.out] at e
              rw [← HR.out, e]; rfl
      · rw [n1, n2, n3]
        have b1 : decide ((224 : Int) ≤ (s[i].toNat : Int)) = true := by simp; omega
        have b2 : decide ((240 : Int) ≤ (s[i].toNat : Int)) = true := by simp; omega
        have c1 : ((s[i].toNat : Int) == 224) = false := by simp; omega
        have c2 : ((s[i].toNat : Int) == 237) = false := by simp; omega
        have c3 : ((s[i].toNat : Int) == 240) = true := by simp; omega
        have c4 : ((s[i].toNat : Int) == 244) = false := by simp; omega
        clear h
        clear n1 n2 n3
        generalize hR : (if okS (sfx s i) 144 191 4 = true then 4 else 0) = R
        have HR : Hid _ := hR
        clear hR
        go_enter Tryd.func36, Tryd.ntmps36
        go_wp2_with fail
        refine (hg 1 144 191 _).mono ?_
        rintro e w1 ⟨rfl, hw1⟩
        rw [hw1]; clear hw1 w1
        rw [← okS2]
        go_wp2_with fail
        go_loopw [9, 10] (fun ok k wr => ∃ j : Nat, 2 ≤ j ∧ j ≤ 4 ∧ k = .int .i64 (j : Int) ∧ ok = .bool (okS (sfx s i) 144 191 j) ∧ wr = w) (fun _ k _ => 4 - (intOf k).toNat)
        case atStart => exact ⟨2, by omega, by omega, rfl, rfl, rfl⟩
        case round =>
          obtain ⟨j, hj2, hjn, rfl, rfl, hwr⟩ := hrel
          rw [hwr]; clear hwr wr
          by_cases hlt : j < 4
          · have hlt' : (j : Int) < 4 := by omega
            have e1 := okS_succ (sfx s i) 144 191 j hj2 (by omega)
            generalize hb : okS (sfx s i) 144 191 j = b at e1
            have HE : Hid _ := e1
            clear e1 hb
            cases b
            all_goals
              go_wp2_with fail
              refine (hg j 128 191 _).mono ?_
              rintro e w1 ⟨rfl, hw1⟩
              rw [hw1]; clear hw1 w1
              go_wp2
              exact ⟨⟨j + 1, by omega, by omega, by go_num, by rw [HE.out]; simp, trivial⟩, by simp [intOf]; omega⟩
          · have hlt' : (4 : Int) ≤ (j : Int) := by omega
            have hjN : j = 4 := by omega
            have HJ : Hid (j = 4) := hjN
            clear hjN
            generalize hb : okS (sfx s i) 144 191 j = b
            have HB : Hid (okS (sfx s i) 144 191 j = b) := hb
            clear hb
            clear hj2 hjn hlt hg a1 a2 a3 b1 b2 c1 c2 c3 c4
            cases b
            · go_wp2
              go_ret
              refine ⟨ret_int ?_, rfl⟩
              have e := HB.out
              rw [HJ.out] at e
              rw [← HR.out, e]; rfl
            · go_wp2
              go_ret
              refine ⟨ret_int ?_, rfl⟩
              have e := HB.out
              rw [HJ.out] at e
              rw [← HR.out, e]; rfl
      · rw [n1, n2, n3]
        have b1 : decide ((224 : Int) ≤ (s[i].toNat : Int)) = true := by simp; omega
        have b2 : decide ((240 : Int) ≤ (s[i].toNat : Int)) = true := by simp; omega
        have c1 : ((s[i].toNat : Int) == 224) = false := by simp; omega
        have c2 : ((s[i].toNat : Int) == 237) = false := by simp; omega
        have c3 : ((s[i].toNat : Int) == 240) = false := by simp; omega
        have c4 : ((s[i].toNat : Int) == 244) = true := by simp; omega
        clear h
        clear n1 n2 n3
        generalize hR : (if okS (sfx s i) 128 143 4 = true then 4 else 0) = R
        have HR : Hid _ := hR
        clear hR
        go_enter Tryd.func36, Tryd.ntmps36
        go_wp2_with fail
        refine (hg 1 128 143 _).mono ?_
        rintro e w1 ⟨rfl, hw1⟩
        rw [hw1]; clear hw1 w1
        rw [← okS2]
        go_wp2_with fail
        go_loopw [9, 10] (fun ok k wr => ∃ j : Nat, 2 ≤ j ∧ j ≤ 4 ∧ k = .int .i64 (j : Int) ∧ ok = .bool (okS (sfx s i) 128 143 j) ∧ wr = w) (fun _ k _ => 4 - (intOf k).toNat)
        case atStart => exact ⟨2, by omega, by omega, rfl, rfl, rfl⟩
        case round =>
          obtain ⟨j, hj2, hjn, rfl, rfl, hwr⟩ := hrel
          rw [hwr]; clear hwr wr
          by_cases hlt : j < 4
          · have hlt' : (j : Int) < 4 := by omega
            have e1 := okS_succ (sfx s i) 128 143 j hj2 (by omega)
            generalize hb : okS (sfx s i) 128 143 j = b at e1
            have HE : Hid _ := e1
            clear e1 hb
            cases b
            all_goals
              go_wp2_with fail
              refine (hg j 128 191 _).mono ?_
              rintro e w1 ⟨rfl, hw1⟩
              rw [hw1]; clear hw1 w1
              go_wp2
              exact ⟨⟨j + 1, by omega, by omega, by go_num, by rw [HE.out]; simp, trivial⟩, by simp [intOf]; omega⟩
          · have hlt' : (4 : Int) ≤ (j : Int) := by omega
            have hjN : j = 4 := by omega
            have HJ : Hid (j = 4) := hjN
            clear hjN
            generalize hb : okS (sfx s i) 128 143 j = b
            have HB : Hid (okS (sfx s i) 128 143 j = b) := hb
            clear hb
            clear hj2 hjn hlt hg a1 a2 a3 b1 b2 c1 c2 c3 c4
            cases b
            · go_wp2
              go_ret
              refine ⟨ret_int ?_, rfl⟩
              have e := HB.out
              rw [HJ.out] at e
              rw [← HR.out, e]; rfl
            · go_wp2
              go_ret
              refine ⟨ret_int ?_, rfl⟩
              have e := HB.out
              rw [HJ.out] at e
              rw [← HR.out, e]; rfl
      · rw [n1, n2, n3]
        have b1 : decide ((224 : Int) ≤ (s[i].toNat : Int)) = true := by simp; omega
        have b2 : decide ((240 : Int) ≤ (s[i].toNat : Int)) = true := by simp; omega
        have c1 : ((s[i].toNat : Int) == 224) = false := by simp; omega
        have c2 : ((s[i].toNat : Int) == 237) = false := by simp; omega
        have c3 : ((s[i].toNat : Int) == 240) = false := by simp; omega
        have c4 : ((s[i].toNat : Int) == 244) = false := by simp; omega
        clear h h'
        clear n1 n2 n3
        generalize hR : (if okS (sfx s i) 128 191 4 = true then 4 else 0) = R
        have HR : Hid _ := hR
        clear hR
        go_enter Tryd.func36, Tryd.ntmps36
        go_wp2_with fail
        refine (hg 1 128 191 _).mono ?_
        rintro e w1 ⟨rfl, hw1⟩
        rw [hw1]; clear hw1 w1
        rw [← okS2]
        go_wp2_with fail
        go_loopw [9, 10] (fun ok k wr => ∃ j : Nat, 2 ≤ j ∧ j ≤ 4 ∧ k = .int .i64 (j : Int) ∧ ok = .bool (okS (sfx s i) 128 191 j) ∧ wr = w) (fun _ k _ => 4 - (intOf k).toNat)
        case atStart => exact ⟨2, by omega, by omega, rfl, rfl, rfl⟩
        case round =>
          obtain ⟨j, hj2, hjn, rfl, rfl, hwr⟩ := hrel
          rw [hwr]; clear hwr wr
          by_cases hlt : j < 4
          · have hlt' : (j : Int) < 4 := by omega
            have e1 := okS_succ (sfx s i) 128 191 j hj2 (by omega)
            generalize hb : okS (sfx s i) 128 191 j = b at e1
            have HE : Hid _ := e1
            clear e1 hb
            cases b
            all_goals
              go_wp2_with fail
              refine (hg j 128 191 _).mono ?_
              rintro e w1 ⟨rfl, hw1⟩
              rw [hw1]; clear hw1 w1
              go_wp2
              exact ⟨⟨j + 1, by omega, by omega, by go_num, by rw [HE.out]; simp, trivial⟩, by simp [intOf]; omega⟩
          · have hlt' : (4 : Int) ≤ (j : Int) := by omega
            have hjN : j = 4 := by omega
            have HJ : Hid (j = 4) := hjN
            clear hjN
            generalize hb : okS (sfx s i) 128 191 j = b
            have HB : Hid (okS (sfx s i) 128 191 j = b) := hb
            clear hb
            clear hj2 hjn hlt hg a1 a2 a3 b1 b2 c1 c2 c3 c4
            cases b
            · go_wp2
              go_ret
              refine ⟨ret_int ?_, rfl⟩
              have e := HB.out
              rw [HJ.out] at e
              rw [← HR.out, e]; rfl
            · go_wp2
              go_ret
              refine ⟨ret_int ?_, rfl⟩
              have e := HB.out
              rw [HJ.out] at e
              rw [← HR.out, e]; rfl
end Go.Proofs.YtaghclgookfmnaaDoor
