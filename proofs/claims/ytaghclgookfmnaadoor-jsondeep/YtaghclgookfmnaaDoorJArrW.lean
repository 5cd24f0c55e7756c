import Derived.Test.YtaghclgookfmnaaDoorJArr
/-
  The document's reader: array, walked.
-/
namespace Go.Proofs.YtaghclgookfmnaaDoor
open Go.RowKit
set_option linter.unusedVariables false

section
variable (bp : Nat) (s : ByteArray) (i : Nat) (ns : List Nd) (up : Option Nat) (key : List UInt8) (at0 dp : Nat) (w : World)

def AI (d : Nat) (v : Value) (wr : World) : Prop :=
  Below bp w wr ∧
  ((v = .bool true ∧ ∃ p ts f, i < p ∧ p ≤ s.size ∧ (sfx s p).length < f ∧ RN bp s p (arrN ns up key i ts) 0 at0 dp wr ∧ (arrN ns up key i ts).length ≤ p ∧ WFk (arrN ns up key i ts) ∧ arrL (valL d) (sfx s i) i = finA ts i p (arrF (valL d) f (sfx s p) p)) ∨
   (v = .bool false ∧ ∃ p ts, i ≤ p ∧ RN bp s p (arrN ns up key i ts) 0 at0 dp wr ∧ arrL (valL d) (sfx s i) i = if (sfx s p).head? = some 93 then .ok (.arr ts i, p - i + 1) else .error (2, p)) ∨
   (∃ b, v = .bool b ∧ ∃ e a j vL, 0 < e ∧ RD bp s j vL e a dp wr ∧ arrL (valL d) (sfx s i) i = .error (e, a)))
def boolOf : Value → Bool | .bool b => b | _ => false
def AM (v : Value) (wr : World) : Nat := if boolOf v = true ∧ posOf (wr.cell? ⟨bp, 3, none⟩) = 0 then s.size + 2 - posOf (wr.cell? ⟨bp, 1, none⟩) + 1 else 0
theorem AM_er {j er a d : Nat} {vL v : Value} {w' : World} (h : RD bp s j vL er a d w') (he : 0 < er) : AM bp s v w' = 0 := by
  unfold AM; rw [h.cell.2.2.2.1, if_neg (by simp [posOf]; omega)]
theorem AM_no {w' : World} : AM bp s (.bool false) w' = 0 := by unfold AM; rw [if_neg (by simp [boolOf])]
theorem AM_ok {j a d : Nat} {vL : Value} {w' : World} (h : RD bp s j vL 0 a d w') : AM bp s (.bool true) w' = s.size + 2 - j + 1 := by
  unfold AM; rw [h.cell.2.2.2.1, pos_rd h]; simp [posOf, boolOf]
theorem RN.onl {p : Nat} {L : List Nd} {er a : Nat} {wa wb : World} {q : Nat} {vL : Value} (hn : Nodes (bp + 1) 49 vL L wa) (hr : RD bp s q vL er a dp wb) (ho : Onl bp wa wb) : RN bp s q L er a dp wb := ⟨vL, hr, hn.onl ho (by omega)⟩

theorem arrL_head (v : List UInt8 → Nat → JR JT) (s : ByteArray) (i p : Nat) (hp : i + 1 + nb (sfx s (i + 1)) = p) (hh : (sfx s p).head? = some 93) : arrL v (sfx s i) i = if (sfx s p).head? = some 93 then .ok (.arr [] i, p - i + 1) else .error (2, p) := by
  rw [arrL_eq v s i p hp, if_pos hh, if_pos hh]
set_option maxRecDepth 4000 in
set_option maxHeartbeats 1000000 in
theorem rarray (d : Nat) (hv : ValC d dp) (hs : s.size ≤ 65536) (h : RN bp s i ns 0 at0 dp w) (hi : i < s.size) (hc : s[i] = 91) (hl : ns.length ≤ i) (hw : WFk ns) (hup : ∀ u, up = some u → u < ns.length) :
    Calls Tryd.prog 25 #[.pointer (some ⟨bp, 0, none⟩), .int .i64 (upV up), .string ⟨key.toArray⟩] w fun r w' => r = .returned (.tuple #[]) ∧ VP bp s i ns up key at0 dp (arrL (valL d) (sfx s i) i) w' ∧ Below bp w w' := by
  obtain ⟨vL, h1, h2⟩ := h
  have hlt := h1.lt
  have ha := radd bp s i 0 at0 dp ns up ⟨4, key, [], 0, [], i⟩ w ⟨vL, h1, h2⟩ rfl (by omega) hw hup
  unfold ndV at ha
  obtain ⟨c0, c1, c2, c3, c4, c5, cf⟩ := h1.cell
  have hh : (sfx s i).head? = some 91 := by rw [sfx_cons s i hi, hc]; rfl
  go_enter Tryd.func25, Tryd.ntmps25
  go_wp2_with fail
  refine ha.mono ?_
  rintro e w1 ⟨rfl, ⟨v1, r1, n1⟩, b1⟩
  clear ha c0 c1 c2 c3 c4 c5 cf h1 h2
  have hm : Calls Tryd.prog 34 #[.pointer (some ⟨bp, 0, none⟩), .int .u8 91] w1 fun r w' => r = .returned (.tuple #[]) ∧ RD bp s (i + 1) v1 0 at0 dp w' ∧ Onl bp w1 w' := rmust_ok bp s i v1 at0 dp 91 w1 (by omega) r1 hh
  have B1 : Hid (Below bp w w1) := b1
  have N1 : Hid (Nodes (bp + 1) 49 v1 (addKid ns up ns.length ++ [⟨4, key, [], 0, [], i⟩]) w1) := n1
  have hlt1 : bp < w1.heap.size := r1.lt
  clear b1 n1
  go_wp2_with fail
  refine hm.mono ?_
  rintro e w2 ⟨rfl, r2, o2⟩
  have O2 : Hid (Onl bp w1 w2) := o2
  have hbk := rblanks bp s (i + 1) v1 at0 dp w2 (by omega) r2
  clear hm o2 r1 r2
  go_wp2_with fail
  refine hbk.mono ?_
  rintro e w3 ⟨rfl, r3, o3⟩
  have O3 : Hid (Onl bp w1 w3) := Onl.trans O2.out o3
  clear hbk o3 O2
  generalize hp : i + 1 + nb (sfx s (i + 1)) = p at r3
  have HP : Hid (i + 1 + nb (sfx s (i + 1)) = p) := hp
  have hr : ∀ b, isAt 0 (sfx s p) 93 = b → Calls Tryd.prog 19 #[.pointer (some ⟨bp, 0, none⟩), .int .u8 93] w3 fun r w'' => r = .returned (.bool b) ∧ RD bp s p v1 0 at0 dp w'' ∧ Onl bp w3 w'' :=
    fun b hb => hb ▸ (ris bp s p v1 0 at0 dp 93 w3 r3).mono fun e w'' ⟨he, n, hw⟩ => ⟨he, hw ▸ r3.drewN n, hw ▸ (onl_refl bp w3).drewN n⟩
  generalize hb : isAt 0 (sfx s p) 93 = b
  have hr1 := hr b hb
  have HB : Hid (isAt 0 (sfx s p) 93 = b) := hb
  clear hr hb hp r3
  go_wp2_with fail
  refine hr1.mono ?_
  rintro e w4 ⟨rfl, r4, o4⟩
  have O4 : Hid (Onl bp w1 w4) := Onl.trans O3.out o4
  have R4 : Hid (RD bp s p v1 0 at0 dp w4) := r4
  clear hr1 o4 O3 r4
  go_wp2_with fail
  go_loopw [7] (fun v wr => AI bp s i ns up key at0 dp w d v wr) (fun v wr => AM bp s v wr)
  case atStart =>
    have hb4 : Below bp w w4 := B1.out.trans (onl_bel O4.out hlt1)
    have hN4 : RN bp s p (arrN ns up key i []) 0 at0 dp w4 := ⟨v1, R4.out, N1.out.onl O4.out (by omega)⟩
    have hpe := HP.out
    have hple : p ≤ s.size := by have := nb_le (sfx s (i + 1)); rw [sfx_length] at this; omega
    refine ⟨hb4, ?_⟩
    cases b with
    | true =>
      right; left
      refine ⟨rfl, p, [], by omega, hN4, ?_⟩
      exact arrL_head (valL d) s i p hpe (by have := HB.out; simp [isAt] at this; exact this)
    | false =>
      left
      have hne : (sfx s p).head? ≠ some 93 := by have := HB.out; simp [isAt] at this; exact this
      refine ⟨rfl, p, [], (sfx s i).length + 1, by omega, hple, ?_, hN4, ?_, ?_, ?_⟩
      · rw [sfx_length, sfx_length]; omega
      · rw [arrN_length]; simp [sizeL]; omega
      · exact flat_wf hw up key (.arr [] i)
      · rw [arrL_eq (valL d) s i p hpe, if_neg hne]
  case round =>
    clear B1 N1 O4 R4 HP HB hlt1
    obtain ⟨hbel, hcase⟩ := hrel
    have HBL : Hid (Below bp w wr) := hbel
    clear hbel
    rcases hcase with ⟨rfl, p, ts, f, hip, hps, hf, ⟨vv, hrd, hnn⟩, hlen, hwf, hfin⟩ | ⟨rfl, p, ts, hip, ⟨vv, hrd, hnn⟩, hfin⟩ | ⟨b, rfl, e, a, j, vv, he, hrd, hfin⟩
    · have HF : Hid (arrL (valL d) (sfx s i) i = finA ts i p (arrF (valL d) f (sfx s p) p)) := hfin
      have HM : Hid (AM bp s (.bool true) wr = s.size + 2 - p + 1) := AM_ok bp s hrd
      have HNN : Hid (Nodes (bp + 1) 49 vv (arrN ns up key i ts) wr) := hnn
      obtain ⟨f, rfl⟩ : ∃ g, f = g + 1 := ⟨f - 1, by omega⟩
      have HLN : Hid ((arrN ns up key i ts).length ≤ p ∧ WFk (arrN ns up key i ts) ∧ i < p ∧ p ≤ s.size ∧ (sfx s p).length < f + 1) := ⟨hlen, hwf, hip, hps, hf⟩
      obtain ⟨c0, c1, c2, c3, c4, c5, cf⟩ := hrd.cell
      have hbk := rblanks bp s p vv at0 dp wr (by omega) hrd
      generalize hp2 : p + nb (sfx s p) = p2 at hbk
      have HP2 : Hid (p + nb (sfx s p) = p2) := hp2
      have hltr := hrd.lt
      clear hfin hnn hlen hwf hip hps hf hp2 hrd
      go_wp2_with fail
      refine hbk.mono ?_
      rintro e w2 ⟨rfl, r2, o2⟩
      have N2 := HNN.out.onl o2 (by omega)
      have hva := hv bp s p2 (arrN ns up key i ts) (some ns.length) [] at0 w2 hs ⟨vv, r2, N2⟩ (by have := HLN.out.1; have := HP2.out; omega) HLN.out.2.1 (fun u hu => by injection hu with hu; subst hu; rw [arrN_length]; omega)
      have B2 : Hid (Below bp w w2) := HBL.out.trans (onl_bel o2 hltr)
      have hlt2 : bp < w2.heap.size := r2.lt
      clear hbk o2 r2 N2 HNN HBL c0 c1 c2 c3 c4 c5 cf hltr
      cases hR : valL d (sfx s p2) p2 with
      | error q =>
        obtain ⟨e, a⟩ := q
        rw [hR] at hva
        have HR : Hid (arrF (valL d) (f + 1) (sfx s p) p = .error (e, a)) := by
          have h2 := HP2.out
          refine arrF_er _ _ _ _ _ ?_
          rw [h2]; exact hR
        clear hR
        go_wp2_with fail
        refine hva.mono ?_
        rintro e0 w3 ⟨rfl, ⟨he, j, v3, r3⟩, b3⟩
        have B3 : Hid (Below bp w w3) := B2.out.trans b3
        have hlt3 : bp < w3.heap.size := r3.lt
        have hbk := rblanks_er bp s j v3 e a dp w3 r3 he
        clear hva b3 B2 r3
        go_wp2_with fail
        refine hbk.mono ?_
        rintro e0 w4 ⟨rfl, r4, o4⟩
        have B4 : Hid (Below bp w w4) := B3.out.trans (onl_bel o4 hlt3)
        have hr4 : Calls Tryd.prog 19 #[.pointer (some ⟨bp, 0, none⟩), .int .u8 44] w4 fun r w'' => r = .returned (.bool false) ∧ RD bp s j v3 e a dp w'' ∧ Onl bp w4 w'' :=
          (ris bp s j v3 e a dp 44 w4 r4).mono fun e2 w'' ⟨he2, n, hw⟩ => ⟨by rw [he2, isAt_er he], hw ▸ r4.drewN n, hw ▸ (onl_refl bp w4).drewN n⟩
        have hlt4 : bp < w4.heap.size := r4.lt
        clear hbk o4 r4 B3
        go_wp2_with fail
        refine hr4.mono ?_
        rintro e0 w5 ⟨rfl, r5, o5⟩
        have R5 : Hid (RD bp s j v3 e a dp w5) := r5
        have B5 : Hid (Below bp w w5) := B4.out.trans (onl_bel o5 hlt4)
        clear hr4 o5 r5 B4
        go_wp2_with fail
        refine ⟨⟨B5.out, .inr (.inr ⟨false, rfl, e, a, j, v3, he, R5.out, ?_⟩)⟩, ?_⟩
        · rw [HF.out, HR.out]; rfl
        · rw [AM_no, HM.out]; omega
      | ok q =>
        obtain ⟨tt, n⟩ := q
        rw [hR] at hva
        have hsz := valL_size d _ _ _ _ hR
        have HR : Hid (valL d (sfx s p2) p2 = .ok (tt, n)) := hR
        clear hR
        go_wp2_with fail
        refine hva.mono ?_
        rintro e0 w3 ⟨rfl, ⟨v3, r3, n3⟩, b3⟩
        rw [arrN_add] at n3
        have B3 : Hid (Below bp w w3) := B2.out.trans b3
        have hlt3 : bp < w3.heap.size := r3.lt
        have N3 : Hid (Nodes (bp + 1) 49 v3 (arrN ns up key i (ts ++ [tt])) w3) := n3
        have hbk := rblanks bp s (p2 + n) v3 at0 dp w3 (by omega) r3
        generalize hp3 : p2 + n + nb (sfx s (p2 + n)) = p3 at hbk
        have HP3 : Hid (p2 + n + nb (sfx s (p2 + n)) = p3) := hp3
        clear hva b3 B2 r3 n3 hp3
        go_wp2_with fail
        refine hbk.mono ?_
        rintro e0 w4 ⟨rfl, r4, o4⟩
        have B4 : Hid (Below bp w w4) := B3.out.trans (onl_bel o4 hlt3)
        have N4 : Hid (Nodes (bp + 1) 49 v3 (arrN ns up key i (ts ++ [tt])) w4) := N3.out.onl o4 (by omega)
        have hlt4 : bp < w4.heap.size := r4.lt
        have hr : ∀ b, isAt 0 (sfx s p3) 44 = b → Calls Tryd.prog 19 #[.pointer (some ⟨bp, 0, none⟩), .int .u8 44] w4 fun r w'' => r = .returned (.bool b) ∧ RD bp s p3 v3 0 at0 dp w'' ∧ Onl bp w4 w'' :=
          fun b hb => hb ▸ (ris bp s p3 v3 0 at0 dp 44 w4 r4).mono fun e w'' ⟨he, n, hw⟩ => ⟨he, hw ▸ r4.drewN n, hw ▸ (onl_refl bp w4).drewN n⟩
        clear hbk o4 B3 N3 r4
        by_cases h44 : (sfx s p3).head? = some 44
        · have hr1 := hr true (isAt_yes h44)
          have hp3s := head_lt h44
          have hp3b : (p3 : Int) ≤ 65536 := by omega
          have H44 : Hid ((sfx s p3).head? = some 44 ∧ p3 < s.size) := ⟨h44, hp3s⟩
          clear hr h44 hp3s
          go_wp2_with fail
          refine hr1.mono ?_
          rintro e0 w5 ⟨rfl, r5, o5⟩
          have B5 : Hid (Below bp w w5) := B4.out.trans (onl_bel o5 hlt4)
          have N5 : Hid (Nodes (bp + 1) 49 v3 (arrN ns up key i (ts ++ [tt])) w5) := N4.out.onl o5 (by omega)
          have hlt5 : bp < w5.heap.size := r5.lt
          clear hr1 o5 B4 N4
          obtain ⟨c0, c1, c2, c3, c4, c5, cf⟩ := r5.cell
          have f1 := cf 1
          go_wp2_with fail
          have r6 := r5.setI (p3 + 1)
          have o6 : Onl bp w5 (w5.setCell ⟨bp, 1, none⟩ (.int .i64 ((p3 + 1 : Nat) : Int))) := Onl.setCell (onl_refl bp w5) _ r5
          obtain ⟨g1, g2, g3, g4, g5⟩ := HLN.out
          have e2 := HP2.out
          have e3 := HP3.out
          refine ⟨⟨B5.out.trans (onl_bel o6 hlt5), .inl ⟨rfl, p3 + 1, ts ++ [tt], f, by omega, by have := H44.out.2; omega, ?_, ⟨v3, r6, N5.out.onl o6 (by omega)⟩, ?_, ?_, ?_⟩⟩, ?_⟩
          · rw [sfx_length] at g5 ⊢; have := H44.out.2; omega
          · rw [arrN_length] at g1 ⊢; rw [sizeL_append]; omega
          · exact flat_wf hw up key (.arr (ts ++ [tt]) i)
          · rw [HF.out, arrF_more (valL d) s p f p2 p3 n tt e2 HR.out e3 H44.out.1, finA_more ts tt i p (p3 + 1) (by omega) (by omega)]
          · have hAM : AM bp s (.bool true) (w5.setCell ⟨bp, 1, none⟩ (.int .i64 ((p3 : Int) + 1))) = s.size + 2 - (p3 + 1) + 1 := AM_ok bp s r6
            rw [hAM, HM.out]; have := H44.out.2; omega
        · have hr1 := hr false (isAt_no h44)
          have H44 : Hid ((sfx s p3).head? ≠ some 44) := h44
          clear hr h44
          go_wp2_with fail
          refine hr1.mono ?_
          rintro e0 w5 ⟨rfl, r5, o5⟩
          have B5 : Hid (Below bp w w5) := B4.out.trans (onl_bel o5 hlt4)
          have N5 : Hid (Nodes (bp + 1) 49 v3 (arrN ns up key i (ts ++ [tt])) w5) := N4.out.onl o5 (by omega)
          have R5 : Hid (RD bp s p3 v3 0 at0 dp w5) := r5
          clear hr1 o5 B4 N4 r5
          go_wp2_with fail
          obtain ⟨g1, g2, g3, g4, g5⟩ := HLN.out
          have e2 := HP2.out
          have e3 := HP3.out
          refine ⟨⟨B5.out, .inr (.inl ⟨rfl, p3, ts ++ [tt], by omega, ⟨v3, R5.out, N5.out⟩, ?_⟩)⟩, ?_⟩
          · rw [HF.out, arrF_last (valL d) s p f p2 p3 n tt e2 HR.out e3 H44.out, finA_last ts tt i p p3 (by omega) (by omega)]
          · rw [AM_no, HM.out]; omega
    · have HF : Hid (arrL (valL d) (sfx s i) i = if (sfx s p).head? = some 93 then .ok (.arr ts i, p - i + 1) else .error (2, p)) := hfin
      have HNN : Hid (Nodes (bp + 1) 49 vv (arrN ns up key i ts) wr) := hnn
      have hltr := hrd.lt
      have HIP : Hid (i ≤ p) := hip
      by_cases h93 : (sfx s p).head? = some 93
      · have hm : Calls Tryd.prog 34 #[.pointer (some ⟨bp, 0, none⟩), .int .u8 93] wr fun r w' => r = .returned (.tuple #[]) ∧ RD bp s (p + 1) vv 0 at0 dp w' ∧ Onl bp wr w' := rmust_ok bp s p vv at0 dp 93 wr (by omega) hrd h93
        have H93 : Hid _ := h93
        clear hfin hnn h93 hrd hip
        go_wp2_with fail
        refine hm.mono ?_
        rintro e0 w5 ⟨rfl, r5, o5⟩
        have R5 : Hid (RD bp s (p + 1) vv 0 at0 dp w5) := r5
        have N5 : Hid (Nodes (bp + 1) 49 vv (arrN ns up key i ts) w5) := HNN.out.onl o5 (by omega)
        have B5 : Hid (Below bp w w5) := HBL.out.trans (onl_bel o5 hltr)
        clear hm o5 r5
        go_wp2
        go_end0
        refine ⟨rfl, ?_, B5.out⟩
        rw [HF.out, if_pos H93.out]
        show RN bp s (i + (p - i + 1)) _ 0 at0 dp w5
        rw [show i + (p - i + 1) = p + 1 by have := HIP.out; omega]
        exact ⟨vv, R5.out, N5.out⟩
      · have hm : Calls Tryd.prog 34 #[.pointer (some ⟨bp, 0, none⟩), .int .u8 93] wr fun r w' => r = .returned (.tuple #[]) ∧ RD bp s p vv 2 p dp w' ∧ Onl bp wr w' := rmust_no bp s p vv at0 dp 93 wr hrd h93
        have H93 : Hid (¬ (sfx s p).head? = some 93) := h93
        clear hfin hnn h93 hrd hip
        go_wp2_with fail
        refine hm.mono ?_
        rintro e0 w5 ⟨rfl, r5, o5⟩
        have R5 : Hid (RD bp s p vv 2 p dp w5) := r5
        have B5 : Hid (Below bp w w5) := HBL.out.trans (onl_bel o5 hltr)
        clear hm o5 r5
        go_wp2
        go_end0
        refine ⟨rfl, ?_, B5.out⟩
        rw [HF.out, if_neg H93.out]
        exact ⟨by omega, _, _, R5.out⟩
    · have HF : Hid (arrL (valL d) (sfx s i) i = .error (e, a)) := hfin
      have hm : Calls Tryd.prog 34 #[.pointer (some ⟨bp, 0, none⟩), .int .u8 93] wr fun r w' => r = .returned (.tuple #[]) ∧ ∃ n, w' = wr.drewN n := rmust_er bp s j vv e a dp 93 wr hrd he
      have heb : ((e : Int) == 0) = false := by simp; omega
      obtain ⟨c0, c1, c2, c3, c4, c5, cf⟩ := hrd.cell
      have hltr := hrd.lt
      clear hfin
      cases b
      all_goals
        go_wp2_with fail
        refine hm.mono ?_
        rintro e0 w5 ⟨rfl, n, hw5⟩
        rw [hw5]; clear hw5 w5
        go_wp2
        go_end0
        refine ⟨rfl, ?_, HBL.out.trans (onl_bel ((onl_refl bp wr).drewN n) hltr)⟩
        rw [HF.out]
        exact ⟨he, j, vv, hrd⟩
end
end Go.Proofs.YtaghclgookfmnaaDoor
