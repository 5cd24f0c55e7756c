import Derived.Test.YtaghclgookfmnaaDoorJInt
/-
  The document's reader: an integer below 0; integers, whole.
-/
namespace Go.Proofs.YtaghclgookfmnaaDoor
open Go.RowKit
set_option linter.unusedVariables false
section
variable (bp : Nat) (s : ByteArray) (i : Nat) (vL : Value) (at0 dp : Nat) (w : World)

set_option maxRecDepth 4000 in
set_option maxHeartbeats 1000000 in
theorem rint1 (hs : s.size ≤ 140737488340000) (h : RD bp s i vL 0 at0 dp w) (hi : i < s.size) (hm : s[i] = 45) (fr E T : Nat) (hfr : i + 1 = fr) (hE : fr + nd (sfx s fr) = E) (hT : accN 0 ((sfx s fr).take (nd (sfx s fr))) = T) :
    Calls Tryd.prog 23 #[.pointer (some ⟨bp, 0, none⟩)] w fun r w' => IP bp s i vL at0 dp (intL (sfx s i)) r w' ∧ Onl bp w w' := by
  have hr : Calls Tryd.prog 19 #[.pointer (some ⟨bp, 0, none⟩), .int .u8 45] w fun r w'' => r = .returned (.bool true) ∧ RD bp s i vL 0 at0 dp w'' ∧ Onl bp w w'' := by
    have hb : isAt 0 (sfx s i) 45 = true := isAt_yes (by rw [sfx_cons s i hi, hm]; rfl)
    exact hb ▸ (ris bp s i vL 0 at0 dp 45 w h).mono fun e w'' ⟨he, n, hw⟩ => ⟨he, hw ▸ h.drewN n, hw ▸ (onl_refl bp w).drewN n⟩
  have HFR : Hid ((fr + nd (sfx s fr) = E ∧ accN 0 ((sfx s fr).take (nd (sfx s fr))) = T) ∧ fr ≤ s.size) := ⟨⟨hE, hT⟩, by omega⟩
  obtain ⟨c0, c1, c2, c3, c4, c5, cf⟩ := h.cell
  have HI : Hid (i + 1 = fr) := hfr
  have HIL : Hid (intL (sfx s i) = if E - fr = 0 ∨ (1 < E - fr ∧ (sfx s fr).head? = some 48) then .error (2, 1) else if maxI < T then .error (3, 0) else .ok (-(T : Int), 1 + (E - fr))) := by
    have hk : E - fr = nd (sfx s fr) := by omega
    rw [hk, ← hT, ← hfr]
    exact intL_minus (by rw [sfx_cons s i hi, hm])
  have hfi : (i : Int) + 1 = (fr : Int) := by omega
  have hib : (i : Int) ≤ 140737488340000 := by omega
  clear hE hT hfr
  go_enter Tryd.func23, Tryd.ntmps23
  go_wp2_with fail
  refine hr.mono ?_
  rintro e w2 ⟨rfl, h2, o2⟩
  have O1 : Hid (Onl bp w w2) := o2
  clear c0 c1 c2 c3 c4 c5 cf h hr o2
  obtain ⟨c0, c1, c2, c3, c4, c5, cf⟩ := h2.cell
  have f1 := cf 1
  have h2b := h2.setI fr
  have o2b : Onl bp w (w2.setCell ⟨bp, 1, none⟩ (.int .i64 (fr : Int))) := Onl.setCell O1.out _ h2
  have c1b := h2b.cell.2.1
  go_wp2_with fail
  generalize w2.setCell ⟨bp, 1, none⟩ (.int .i64 (fr : Int)) = w2b at h2b o2b c1b
  have H2 : Hid (RD bp s fr vL 0 at0 dp w2b) := h2b
  have O2 : Hid (Onl bp w w2b) := o2b
  clear c0 c1 c2 c3 c4 c5 cf h2 h2b o2b c1b O1 f1 hfi
  go_loopw [6] (fun v wr => II bp s vL at0 dp w fr E T v wr) (fun _ wr => s.size - posOf (wr.cell? ⟨bp, 1, none⟩))
  case atStart => exact ⟨fr, 0, Nat.le_refl _, HFR.out.2, HFR.out.1.1, HFR.out.1.2, by omega, rfl, H2.out, O2.out⟩
  case round =>
    clear H2 O2
    obtain ⟨p, X, hfp, hps, hE, hT, hX, rfl, hrd, ho⟩ := hrel
    have HO : Hid (Onl bp w wr) := ho
    have HM : Hid (posOf (wr.cell? ⟨bp, 1, none⟩) = p) := pos_rd hrd
    obtain ⟨c0, c1, c2, c3, c4, c5, cf⟩ := hrd.cell
    clear ho
    by_cases hlt2 : p < s.size
    · have hp1 : (p : Int) < (s.size : Int) := by omega
      have hdg := rdigit s[p]
      cases hd : isD s[p] with
      | true =>
        rw [hd] at hdg
        obtain ⟨hd1, hd2⟩ := (isD_iff _).1 hd
        have HE : Hid (p + 1 + nd (sfx s (p + 1)) = E) := by rw [nd_cons s p hlt2 hd] at hE; show p + 1 + nd (sfx s (p + 1)) = E; omega
        have HT : Hid (accN (if X ≤ maxI then 10 * X + (s[p].toNat - 48) else X) ((sfx s (p + 1)).take (nd (sfx s (p + 1)))) = T) := by rw [acc_cons s p X hlt2 hd] at hT; exact hT
        clear hE hT hd
        have HB : Hid (fr ≤ p ∧ p < s.size ∧ 48 ≤ s[p].toNat ∧ s[p].toNat ≤ 57) := ⟨hfp, hlt2, hd1, hd2⟩
        have hd1' : (48 : Int) ≤ (s[p].toNat : Int) := by omega
        have hd2' : (s[p].toNat : Int) ≤ 57 := by omega
        have hpb : (p : Int) ≤ 140737488340000 := by omega
        have hX' : (X : Int) ≤ 90071992547409919 := by omega
        by_cases hmx : X ≤ maxI
        · have HX : Hid (X ≤ maxI) := hmx
          have hmx' : (X : Int) ≤ 9007199254740991 := by unfold maxI at hmx; omega
          clear hmx hX hfp hps hd1 hd2
          go_wp2_with fail
          go_quiet ((go_at_call 22; exact Calls.quiet_of_same (hdg _)))
          have h3 := hrd.drewN nq
          have O3 : Hid (Onl bp w (wr.drewN nq)) := Onl.drewN HO.out nq
          generalize wr.drewN nq = w3 at h3 O3
          clear c0 c1 c2 c3 c4 c5 cf hrd HO nq hdg
          obtain ⟨c0, c1, c2, c3, c4, c5, cf⟩ := h3.cell
          go_wp2_with fail
          go_quiet (fail)
          have h4 := h3.drewN nq
          have O4 : Hid (Onl bp w (w3.drewN nq)) := Onl.drewN O3.out nq
          generalize w3.drewN nq = w4 at h4 O4
          clear c0 c1 c2 c3 c4 c5 cf h3 O3 nq w3
          obtain ⟨c0, c1, c2, c3, c4, c5, cf⟩ := h4.cell
          have f1 := cf 1
          go_wp2_with fail
          have h5 := h4.setI (p + 1)
          obtain ⟨b1, b2, b3, b4⟩ := HB.out
          refine ⟨⟨p + 1, 10 * X + (s[p].toNat - 48), by omega, by omega, HE.out, ?_, by omega, congrArg (Value.int .i64) (by omega), h5, Onl.setCell O4.out _ h4⟩, ?_⟩
          · have := HT.out; rw [if_pos HX.out] at this; exact this
          · rw [HM.out, pos_set h4 p]; omega
        · have HX : Hid (¬ X ≤ maxI) := hmx
          have hmx' : (9007199254740991 : Int) < (X : Int) := by unfold maxI at hmx; omega
          have HXb : Hid (X ≤ 90071992547409919) := hX
          clear hmx hX hfp hps hd1 hd2
          go_wp2_with fail
          go_quiet ((go_at_call 22; exact Calls.quiet_of_same (hdg _)))
          have h3 := hrd.drewN nq
          have O3 : Hid (Onl bp w (wr.drewN nq)) := Onl.drewN HO.out nq
          generalize wr.drewN nq = w3 at h3 O3
          clear c0 c1 c2 c3 c4 c5 cf hrd HO nq hdg
          obtain ⟨c0, c1, c2, c3, c4, c5, cf⟩ := h3.cell
          have f1 := cf 1
          go_wp2_with fail
          have h5 := h3.setI (p + 1)
          obtain ⟨b1, b2, b3, b4⟩ := HB.out
          refine ⟨⟨p + 1, X, by omega, by omega, HE.out, ?_, HXb.out, rfl, h5, Onl.setCell O3.out _ h3⟩, ?_⟩
          · have := HT.out; rw [if_neg HX.out] at this; exact this
          · rw [HM.out, pos_set h3 p]; omega
      | false =>
        rw [hd] at hdg
        have hz := nd_stop s p hlt2 hd
        rw [hz] at hE hT
        have hE : p = E := by omega
        have hT : X = T := hT
        subst hE; subst hT
        clear hd hz
        have hfb : (fr : Int) ≤ 140737488340000 := by have := HFR.out.2; omega
        have hpb : (p : Int) ≤ 140737488340000 := by omega
        have hXb : (X : Int) ≤ 90071992547409919 := by omega
        by_cases hA : p = fr
        · have hX0 : X = 0 := by
            obtain ⟨⟨e1, e2⟩, e3⟩ := HFR.out
            have hz : nd (sfx s fr) = 0 := by omega
            rw [hz] at e2
            exact e2.symm
          have HR : Hid (intL (sfx s i) = .error (2, 1)) := by
            have := HIL.out; rw [if_pos (by left; omega)] at this; exact this
          have hAi : ((p : Int) == (fr : Int)) = true := by simp; omega
          subst hX0
          clear hfp hps hX HIL HFR hA hXb
          go_wp2_with fail
          go_quiet ((go_at_call 22; exact Calls.quiet_of_same (hdg _)))
          have h3 := hrd.drewN nq
          have O3 : Hid (Onl bp w (wr.drewN nq)) := Onl.drewN HO.out nq
          generalize wr.drewN nq = w3 at h3 O3
          clear c0 c1 c2 c3 c4 c5 cf hrd HO nq
          obtain ⟨c0, c1, c2, c3, c4, c5, cf⟩ := h3.cell
          have hfa := rfail0 bp s p vL at0 dp 2 fr _ h3
          go_wp2_with fail
          refine hfa.mono ?_
          rintro e w7 ⟨rfl, h7, o7⟩
          have H7 : Hid (RD bp s p vL 2 fr dp w7) := h7
          have O7 : Hid (Onl bp w w7) := Onl.trans O3.out o7
          clear o7 hfa
          go_wp2
          go_ret
          refine ⟨?_, O7.out⟩
          rw [HR.out]
          exact ⟨⟨_, rfl⟩, p, by rw [HI.out]; exact H7.out⟩
        · have hAi : ((p : Int) == (fr : Int)) = false := by simp; omega
          have hfs : fr < s.size := by omega
          have hfs' : (fr : Int) < (s.size : Int) := by omega
          by_cases hB : fr + 1 < p ∧ s[fr] = 48
          · have HR : Hid (intL (sfx s i) = .error (2, 1)) := by
              have := HIL.out; rw [if_pos (by right; exact ⟨by omega, by rw [sfx_cons s fr hfs, hB.2]; rfl⟩)] at this; exact this
            have hB1 : (1 : Int) < (p : Int) - (fr : Int) := by omega
            have hB2 : ((s[fr].toNat : Int) == 48) = true := by rw [hB.2]; rfl
            by_cases hmx : X ≤ maxI
            · have hmx' : decide ((9007199254740991 : Int) < (X : Int)) = false := by unfold maxI at hmx; simp; omega
              clear hfp hps hX HIL HFR hA hmx hB
              go_wp2_with fail
              go_quiet ((go_at_call 22; exact Calls.quiet_of_same (hdg _)))
              have h3 := hrd.drewN nq
              have O3 : Hid (Onl bp w (wr.drewN nq)) := Onl.drewN HO.out nq
              generalize wr.drewN nq = w3 at h3 O3
              clear c0 c1 c2 c3 c4 c5 cf hrd HO nq
              obtain ⟨c0, c1, c2, c3, c4, c5, cf⟩ := h3.cell
              have hfa := rfail0 bp s p vL at0 dp 2 fr _ h3
              go_wp2_with fail
              refine hfa.mono ?_
              rintro e w7 ⟨rfl, h7, o7⟩
              have H7 : Hid (RD bp s p vL 2 fr dp w7) := h7
              have O7 : Hid (Onl bp w w7) := Onl.trans O3.out o7
              clear o7 hfa
              go_wp2
              go_ret
              refine ⟨?_, O7.out⟩
              rw [HR.out]
              exact ⟨⟨_, rfl⟩, p, by rw [HI.out]; exact H7.out⟩
            · have hmx' : (9007199254740991 : Int) < (X : Int) := by unfold maxI at hmx; omega
              clear hfp hps hX HIL HFR hA hmx hB
              go_wp2_with fail
              go_quiet ((go_at_call 22; exact Calls.quiet_of_same (hdg _)))
              have h3 := hrd.drewN nq
              have O3 : Hid (Onl bp w (wr.drewN nq)) := Onl.drewN HO.out nq
              generalize wr.drewN nq = w3 at h3 O3
              clear c0 c1 c2 c3 c4 c5 cf hrd HO nq
              obtain ⟨c0, c1, c2, c3, c4, c5, cf⟩ := h3.cell
              have hfa := rfail0 bp s p vL at0 dp 2 fr _ h3
              go_wp2_with fail
              refine hfa.mono ?_
              rintro e w7 ⟨rfl, h7, o7⟩
              have H7 : Hid (RD bp s p vL 2 fr dp w7) := h7
              have O7 : Hid (Onl bp w w7) := Onl.trans O3.out o7
              clear o7 hfa
              have hf2 : Calls Tryd.prog 13 #[.pointer (some ⟨bp, 0, none⟩), .int .i64 3, .int .i64 (i : Int)] w7 fun r w' => r = .returned (.tuple #[]) ∧ w' = w7 := rfail1 bp s p vL 2 fr dp 3 i w7 h7 (by omega)
              go_wp2_with fail
              refine hf2.mono ?_
              rintro e w8 ⟨rfl, hw8⟩
              rw [hw8]; clear hw8 w8 hf2
              go_wp2
              go_ret
              refine ⟨?_, O7.out⟩
              rw [HR.out]
              exact ⟨⟨_, rfl⟩, p, by rw [HI.out]; exact H7.out⟩
          · have HNB : Hid (¬ (p - fr = 0 ∨ (1 < p - fr ∧ (sfx s fr).head? = some 48))) := by
              show ¬ (p - fr = 0 ∨ (1 < p - fr ∧ (sfx s fr).head? = some 48))
              rintro (h | ⟨h, h'⟩)
              · omega
              · rw [sfx_cons s fr hfs] at h'
                exact hB ⟨by omega, by simpa using h'⟩
            have hBB : (decide ((1 : Int) < (p : Int) - (fr : Int)) = false) ∨ ((1 : Int) < (p : Int) - (fr : Int) ∧ ((s[fr].toNat : Int) == 48) = false) := by
              by_cases h1 : fr + 1 < p
              · right; exact ⟨by omega, u8_ne (k := 48) (by omega) (fun e => hB ⟨h1, e⟩)⟩
              · left; simp; omega
            by_cases hmx : X ≤ maxI
            · have HR : Hid (intL (sfx s i) = .ok (-(X : Int), 1 + (p - fr))) := by
                have := HIL.out; rw [if_neg HNB.out, if_neg (by omega)] at this; exact this
              have hmx' : decide ((9007199254740991 : Int) < (X : Int)) = false := by unfold maxI at hmx; simp; omega
              have HPF : Hid (fr ≤ p) := hfp
              clear hfp hps hX HIL HFR hA hmx hB HNB
              rcases hBB with hB1 | ⟨hB1, hB2⟩
              · go_wp2_with fail
                go_quiet ((go_at_call 22; exact Calls.quiet_of_same (hdg _)))
                have h3 := hrd.drewN nq
                have O3 : Hid (Onl bp w (wr.drewN nq)) := Onl.drewN HO.out nq
                generalize wr.drewN nq = w3 at h3 O3
                clear c0 c1 c2 c3 c4 c5 cf hrd HO nq
                obtain ⟨c0, c1, c2, c3, c4, c5, cf⟩ := h3.cell
                go_wp2
                go_ret
                refine ⟨?_, O3.out⟩
                rw [HR.out]
                refine ⟨rfl, ?_⟩
                rw [show i + (1 + (p - fr)) = p by have := HI.out; have := HPF.out; omega]; exact h3
              · go_wp2_with fail
                go_quiet ((go_at_call 22; exact Calls.quiet_of_same (hdg _)))
                have h3 := hrd.drewN nq
                have O3 : Hid (Onl bp w (wr.drewN nq)) := Onl.drewN HO.out nq
                generalize wr.drewN nq = w3 at h3 O3
                clear c0 c1 c2 c3 c4 c5 cf hrd HO nq
                obtain ⟨c0, c1, c2, c3, c4, c5, cf⟩ := h3.cell
                go_wp2
                go_ret
                refine ⟨?_, O3.out⟩
                rw [HR.out]
                refine ⟨rfl, ?_⟩
                rw [show i + (1 + (p - fr)) = p by have := HI.out; have := HPF.out; omega]; exact h3
            · have HR : Hid (intL (sfx s i) = .error (3, 0)) := by
                have := HIL.out; rw [if_neg HNB.out, if_pos (by omega)] at this; exact this
              have hmx' : (9007199254740991 : Int) < (X : Int) := by unfold maxI at hmx; omega
              clear hfp hps hX HIL HFR hA hmx hB HNB
              rcases hBB with hB1 | ⟨hB1, hB2⟩
              · go_wp2_with fail
                go_quiet ((go_at_call 22; exact Calls.quiet_of_same (hdg _)))
                have h3 := hrd.drewN nq
                have O3 : Hid (Onl bp w (wr.drewN nq)) := Onl.drewN HO.out nq
                generalize wr.drewN nq = w3 at h3 O3
                clear c0 c1 c2 c3 c4 c5 cf hrd HO nq
                obtain ⟨c0, c1, c2, c3, c4, c5, cf⟩ := h3.cell
                have hfa : Calls Tryd.prog 13 #[.pointer (some ⟨bp, 0, none⟩), .int .i64 3, .int .i64 (i : Int)] w3 fun r w' => r = .returned (.tuple #[]) ∧ RD bp s p vL 3 i dp w' ∧ Onl bp w3 w' := rfail0 bp s p vL at0 dp 3 i _ h3
                go_wp2_with fail
                refine hfa.mono ?_
                rintro e w7 ⟨rfl, h7, o7⟩
                have H7 : Hid (RD bp s p vL 3 i dp w7) := h7
                have O7 : Hid (Onl bp w w7) := Onl.trans O3.out o7
                clear h7 o7 hfa
                go_wp2
                go_ret
                refine ⟨?_, O7.out⟩
                rw [HR.out]
                exact ⟨⟨_, rfl⟩, p, H7.out⟩
              · go_wp2_with fail
                go_quiet ((go_at_call 22; exact Calls.quiet_of_same (hdg _)))
                have h3 := hrd.drewN nq
                have O3 : Hid (Onl bp w (wr.drewN nq)) := Onl.drewN HO.out nq
                generalize wr.drewN nq = w3 at h3 O3
                clear c0 c1 c2 c3 c4 c5 cf hrd HO nq
                obtain ⟨c0, c1, c2, c3, c4, c5, cf⟩ := h3.cell
                have hfa : Calls Tryd.prog 13 #[.pointer (some ⟨bp, 0, none⟩), .int .i64 3, .int .i64 (i : Int)] w3 fun r w' => r = .returned (.tuple #[]) ∧ RD bp s p vL 3 i dp w' ∧ Onl bp w3 w' := rfail0 bp s p vL at0 dp 3 i _ h3
                go_wp2_with fail
                refine hfa.mono ?_
                rintro e w7 ⟨rfl, h7, o7⟩
                have H7 : Hid (RD bp s p vL 3 i dp w7) := h7
                have O7 : Hid (Onl bp w w7) := Onl.trans O3.out o7
                clear h7 o7 hfa
                go_wp2
                go_ret
                refine ⟨?_, O7.out⟩
                rw [HR.out]
                exact ⟨⟨_, rfl⟩, p, H7.out⟩
    · have hz := nd_end s p (by omega)
      rw [hz] at hE hT
      have hE : p = E := by omega
      have hT : X = T := hT
      subst hE; subst hT
      have hp1 : (s.size : Int) ≤ (p : Int) := by omega
      have hp3 : s.size ≤ p := by omega
      clear hz
      have hfb : (fr : Int) ≤ 140737488340000 := by have := HFR.out.2; omega
      have hpb : (p : Int) ≤ 140737488340000 := by omega
      have hXb : (X : Int) ≤ 90071992547409919 := by omega
      by_cases hA : p = fr
      · have hX0 : X = 0 := by
          obtain ⟨⟨e1, e2⟩, e3⟩ := HFR.out
          have hz : nd (sfx s fr) = 0 := by omega
          rw [hz] at e2
          exact e2.symm
        have HR : Hid (intL (sfx s i) = .error (2, 1)) := by
          have := HIL.out; rw [if_pos (by left; omega)] at this; exact this
        have hAi : ((p : Int) == (fr : Int)) = true := by simp; omega
        subst hX0
        clear hfp hps hX HIL HFR hA hXb
        go_wp2_with fail
        go_quiet (fail)
        have h3 := hrd.drewN nq
        have O3 : Hid (Onl bp w (wr.drewN nq)) := Onl.drewN HO.out nq
        generalize wr.drewN nq = w3 at h3 O3
        clear c0 c1 c2 c3 c4 c5 cf hrd HO nq
        obtain ⟨c0, c1, c2, c3, c4, c5, cf⟩ := h3.cell
        have hfa := rfail0 bp s p vL at0 dp 2 fr _ h3
        go_wp2_with fail
        refine hfa.mono ?_
        rintro e w7 ⟨rfl, h7, o7⟩
        have H7 : Hid (RD bp s p vL 2 fr dp w7) := h7
        have O7 : Hid (Onl bp w w7) := Onl.trans O3.out o7
        clear o7 hfa
        go_wp2
        go_ret
        refine ⟨?_, O7.out⟩
        rw [HR.out]
        exact ⟨⟨_, rfl⟩, p, by rw [HI.out]; exact H7.out⟩
      · have hAi : ((p : Int) == (fr : Int)) = false := by simp; omega
        have hfs : fr < s.size := by omega
        have hfs' : (fr : Int) < (s.size : Int) := by omega
        by_cases hB : fr + 1 < p ∧ s[fr] = 48
        · have HR : Hid (intL (sfx s i) = .error (2, 1)) := by
            have := HIL.out; rw [if_pos (by right; exact ⟨by omega, by rw [sfx_cons s fr hfs, hB.2]; rfl⟩)] at this; exact this
          have hB1 : (1 : Int) < (p : Int) - (fr : Int) := by omega
          have hB2 : ((s[fr].toNat : Int) == 48) = true := by rw [hB.2]; rfl
          by_cases hmx : X ≤ maxI
          · have hmx' : decide ((9007199254740991 : Int) < (X : Int)) = false := by unfold maxI at hmx; simp; omega
            clear hfp hps hX HIL HFR hA hmx hB
            go_wp2_with fail
            go_quiet (fail)
            have h3 := hrd.drewN nq
            have O3 : Hid (Onl bp w (wr.drewN nq)) := Onl.drewN HO.out nq
            generalize wr.drewN nq = w3 at h3 O3
            clear c0 c1 c2 c3 c4 c5 cf hrd HO nq
            obtain ⟨c0, c1, c2, c3, c4, c5, cf⟩ := h3.cell
            have hfa := rfail0 bp s p vL at0 dp 2 fr _ h3
            go_wp2_with fail
            refine hfa.mono ?_
            rintro e w7 ⟨rfl, h7, o7⟩
            have H7 : Hid (RD bp s p vL 2 fr dp w7) := h7
            have O7 : Hid (Onl bp w w7) := Onl.trans O3.out o7
            clear o7 hfa
            go_wp2
            go_ret
            refine ⟨?_, O7.out⟩
            rw [HR.out]
            exact ⟨⟨_, rfl⟩, p, by rw [HI.out]; exact H7.out⟩
          · have hmx' : (9007199254740991 : Int) < (X : Int) := by unfold maxI at hmx; omega
            clear hfp hps hX HIL HFR hA hmx hB
            go_wp2_with fail
            go_quiet (fail)
            have h3 := hrd.drewN nq
            have O3 : Hid (Onl bp w (wr.drewN nq)) := Onl.drewN HO.out nq
            generalize wr.drewN nq = w3 at h3 O3
            clear c0 c1 c2 c3 c4 c5 cf hrd HO nq
            obtain ⟨c0, c1, c2, c3, c4, c5, cf⟩ := h3.cell
            have hfa := rfail0 bp s p vL at0 dp 2 fr _ h3
            go_wp2_with fail
            refine hfa.mono ?_
            rintro e w7 ⟨rfl, h7, o7⟩
            have H7 : Hid (RD bp s p vL 2 fr dp w7) := h7
            have O7 : Hid (Onl bp w w7) := Onl.trans O3.out o7
            clear o7 hfa
            have hf2 : Calls Tryd.prog 13 #[.pointer (some ⟨bp, 0, none⟩), .int .i64 3, .int .i64 (i : Int)] w7 fun r w' => r = .returned (.tuple #[]) ∧ w' = w7 := rfail1 bp s p vL 2 fr dp 3 i w7 h7 (by omega)
            go_wp2_with fail
            refine hf2.mono ?_
            rintro e w8 ⟨rfl, hw8⟩
            rw [hw8]; clear hw8 w8 hf2
            go_wp2
            go_ret
            refine ⟨?_, O7.out⟩
            rw [HR.out]
            exact ⟨⟨_, rfl⟩, p, by rw [HI.out]; exact H7.out⟩
        · have HNB : Hid (¬ (p - fr = 0 ∨ (1 < p - fr ∧ (sfx s fr).head? = some 48))) := by
            show ¬ (p - fr = 0 ∨ (1 < p - fr ∧ (sfx s fr).head? = some 48))
            rintro (h | ⟨h, h'⟩)
            · omega
            · rw [sfx_cons s fr hfs] at h'
              exact hB ⟨by omega, by simpa using h'⟩
          have hBB : (decide ((1 : Int) < (p : Int) - (fr : Int)) = false) ∨ ((1 : Int) < (p : Int) - (fr : Int) ∧ ((s[fr].toNat : Int) == 48) = false) := by
            by_cases h1 : fr + 1 < p
            · right; exact ⟨by omega, u8_ne (k := 48) (by omega) (fun e => hB ⟨h1, e⟩)⟩
            · left; simp; omega
          by_cases hmx : X ≤ maxI
          · have HR : Hid (intL (sfx s i) = .ok (-(X : Int), 1 + (p - fr))) := by
              have := HIL.out; rw [if_neg HNB.out, if_neg (by omega)] at this; exact this
            have hmx' : decide ((9007199254740991 : Int) < (X : Int)) = false := by unfold maxI at hmx; simp; omega
            have HPF : Hid (fr ≤ p) := hfp
            clear hfp hps hX HIL HFR hA hmx hB HNB
            rcases hBB with hB1 | ⟨hB1, hB2⟩
            · go_wp2_with fail
              go_quiet (fail)
              have h3 := hrd.drewN nq
              have O3 : Hid (Onl bp w (wr.drewN nq)) := Onl.drewN HO.out nq
              generalize wr.drewN nq = w3 at h3 O3
              clear c0 c1 c2 c3 c4 c5 cf hrd HO nq
              obtain ⟨c0, c1, c2, c3, c4, c5, cf⟩ := h3.cell
              go_wp2
              go_ret
              refine ⟨?_, O3.out⟩
              rw [HR.out]
              refine ⟨rfl, ?_⟩
              rw [show i + (1 + (p - fr)) = p by have := HI.out; have := HPF.out; omega]; exact h3
            · go_wp2_with fail
              go_quiet (fail)
              have h3 := hrd.drewN nq
              have O3 : Hid (Onl bp w (wr.drewN nq)) := Onl.drewN HO.out nq
              generalize wr.drewN nq = w3 at h3 O3
              clear c0 c1 c2 c3 c4 c5 cf hrd HO nq
              obtain ⟨c0, c1, c2, c3, c4, c5, cf⟩ := h3.cell
              go_wp2
              go_ret
              refine ⟨?_, O3.out⟩
              rw [HR.out]
              refine ⟨rfl, ?_⟩
              rw [show i + (1 + (p - fr)) = p by have := HI.out; have := HPF.out; omega]; exact h3
          · have HR : Hid (intL (sfx s i) = .error (3, 0)) := by
              have := HIL.out; rw [if_neg HNB.out, if_pos (by omega)] at this; exact this
            have hmx' : (9007199254740991 : Int) < (X : Int) := by unfold maxI at hmx; omega
            clear hfp hps hX HIL HFR hA hmx hB HNB
            rcases hBB with hB1 | ⟨hB1, hB2⟩
            · go_wp2_with fail
              go_quiet (fail)
              have h3 := hrd.drewN nq
              have O3 : Hid (Onl bp w (wr.drewN nq)) := Onl.drewN HO.out nq
              generalize wr.drewN nq = w3 at h3 O3
              clear c0 c1 c2 c3 c4 c5 cf hrd HO nq
              obtain ⟨c0, c1, c2, c3, c4, c5, cf⟩ := h3.cell
              have hfa : Calls Tryd.prog 13 #[.pointer (some ⟨bp, 0, none⟩), .int .i64 3, .int .i64 (i : Int)] w3 fun r w' => r = .returned (.tuple #[]) ∧ RD bp s p vL 3 i dp w' ∧ Onl bp w3 w' := rfail0 bp s p vL at0 dp 3 i _ h3
              go_wp2_with fail
              refine hfa.mono ?_
              rintro e w7 ⟨rfl, h7, o7⟩
              have H7 : Hid (RD bp s p vL 3 i dp w7) := h7
              have O7 : Hid (Onl bp w w7) := Onl.trans O3.out o7
              clear h7 o7 hfa
              go_wp2
              go_ret
              refine ⟨?_, O7.out⟩
              rw [HR.out]
              exact ⟨⟨_, rfl⟩, p, H7.out⟩
            · go_wp2_with fail
              go_quiet (fail)
              have h3 := hrd.drewN nq
              have O3 : Hid (Onl bp w (wr.drewN nq)) := Onl.drewN HO.out nq
              generalize wr.drewN nq = w3 at h3 O3
              clear c0 c1 c2 c3 c4 c5 cf hrd HO nq
              obtain ⟨c0, c1, c2, c3, c4, c5, cf⟩ := h3.cell
              have hfa : Calls Tryd.prog 13 #[.pointer (some ⟨bp, 0, none⟩), .int .i64 3, .int .i64 (i : Int)] w3 fun r w' => r = .returned (.tuple #[]) ∧ RD bp s p vL 3 i dp w' ∧ Onl bp w3 w' := rfail0 bp s p vL at0 dp 3 i _ h3
              go_wp2_with fail
              refine hfa.mono ?_
              rintro e w7 ⟨rfl, h7, o7⟩
              have H7 : Hid (RD bp s p vL 3 i dp w7) := h7
              have O7 : Hid (Onl bp w w7) := Onl.trans O3.out o7
              clear h7 o7 hfa
              go_wp2
              go_ret
              refine ⟨?_, O7.out⟩
              rw [HR.out]
              exact ⟨⟨_, rfl⟩, p, H7.out⟩

theorem rinteger (hs : s.size ≤ 140737488340000) (h : RD bp s i vL 0 at0 dp w) (hi : i < s.size) :
    Calls Tryd.prog 23 #[.pointer (some ⟨bp, 0, none⟩)] w fun r w' => IP bp s i vL at0 dp (intL (sfx s i)) r w' ∧ Onl bp w w' := by
  by_cases hm : s[i] = 45
  · exact rint1 bp s i vL at0 dp w hs h hi hm (i + 1) _ _ rfl rfl rfl
  · exact rint0 bp s i vL at0 dp w hs h hi hm i _ _ rfl rfl rfl
end
end Go.Proofs.YtaghclgookfmnaaDoor
