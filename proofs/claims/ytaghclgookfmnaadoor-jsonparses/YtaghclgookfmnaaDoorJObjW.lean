import Derived.Test.YtaghclgookfmnaaDoorJObj
/-
  The document's reader: object, walked.
-/
namespace Go.Proofs.YtaghclgookfmnaaDoor
open Go.RowKit
set_option linter.unusedVariables false

section
variable (bp : Nat) (s : ByteArray) (i : Nat) (ns : List Nd) (up : Option Nat) (key : List UInt8) (at0 dp : Nat) (w : World)

set_option maxRecDepth 4000 in
set_option maxHeartbeats 400000 in
theorem rval_er (e a d : Nat) (vL : Value) (u : Int) (kb : ByteArray) (h1 : RD bp s i vL e a d w) (he : 0 < e) :
    Calls Tryd.prog 12 #[.pointer (some ⟨bp, 0, none⟩), .int .i64 u, .string kb] w fun r w' => r = .returned (.tuple #[]) ∧ RD bp s i vL e a d w' ∧ Onl bp w w' := by
  have heb : ((e : Int) != 0) = true := by simp; omega
  obtain ⟨c0, c1, c2, c3, c4, c5, cf⟩ := h1.cell
  by_cases hi : i < s.size
  · have hi' : (i : Int) < (s.size : Int) := by omega
    have hif : decide ((s.size : Int) ≤ (i : Int)) = false := by simp; omega
    go_enter Tryd.func12, Tryd.ntmps12
    go_wp2_with fail
    go_quiet (fail)
    have h3 := h1.drewN nq
    have O3 : Hid (Onl bp w (w.drewN nq)) := Onl.drewN (onl_refl bp w) nq
    generalize w.drewN nq = w3 at h3 O3
    clear c0 c1 c2 c3 c4 c5 cf nq h1
    obtain ⟨c0, c1, c2, c3, c4, c5, cf⟩ := h3.cell
    go_wp2
    refine bodyPost_ret (results_none rfl _ _ _) rfl ?_
    exact ⟨rfl, h3, O3.out⟩
  · have hi' : (s.size : Int) ≤ (i : Int) := by omega
    have hi2 : s.size ≤ i := by omega
    go_enter Tryd.func12, Tryd.ntmps12
    go_wp2_with fail
    go_quiet (fail)
    have h3 := h1.drewN nq
    have O3 : Hid (Onl bp w (w.drewN nq)) := Onl.drewN (onl_refl bp w) nq
    generalize w.drewN nq = w3 at h3 O3
    clear c0 c1 c2 c3 c4 c5 cf nq h1
    obtain ⟨c0, c1, c2, c3, c4, c5, cf⟩ := h3.cell
    have hfa := rfail1 bp s i vL e a d 2 i w3 h3 he
    go_wp2_with fail
    refine hfa.mono ?_
    rintro e0 w4 ⟨rfl, hw4⟩
    rw [hw4]; clear hw4 w4 hfa
    go_wp2
    refine bodyPost_ret (results_none rfl _ _ _) rfl ?_
    exact ⟨rfl, h3, O3.out⟩

def OI (d : Nat) (v : Value) (wr : World) : Prop :=
  Below bp w wr ∧
  ((v = .bool true ∧ ∃ p ms f, i < p ∧ p ≤ s.size ∧ (sfx s p).length < f ∧ RN bp s p (objN ns up key i ms) 0 at0 dp wr ∧ (objN ns up key i ms).length ≤ p ∧ objL (valL d) (sfx s i) i = finO ms i p (objF (valL d) f (ms.map (·.1)) (sfx s p) p)) ∨
   (v = .bool false ∧ ∃ p ms, i ≤ p ∧ RN bp s p (objN ns up key i ms) 0 at0 dp wr ∧ objL (valL d) (sfx s i) i = if (sfx s p).head? = some 125 then .ok (.obj ms i, p - i + 1) else .error (2, p)) ∨
   (∃ b, v = .bool b ∧ ∃ e a j vL, 0 < e ∧ RD bp s j vL e a dp wr ∧ objL (valL d) (sfx s i) i = .error (e, a)))

theorem objL_head (v : List UInt8 → Nat → JR JT) (s : ByteArray) (i p : Nat) (hp : i + 1 + nb (sfx s (i + 1)) = p) (hh : (sfx s p).head? = some 125) : objL v (sfx s i) i = if (sfx s p).head? = some 125 then .ok (.obj [] i, p - i + 1) else .error (2, p) := by
  rw [objL_eq v s i p hp, if_pos hh, if_pos hh]

set_option maxRecDepth 4000 in
set_option maxHeartbeats 1000000 in
theorem robject (d : Nat) (hv : ValC d dp) (hs : s.size ≤ 65536) (h : RN bp s i ns 0 at0 dp w) (hi : i < s.size) (hc : s[i] = 123) (hl : ns.length ≤ i) (hw : WFk ns) (hup : ∀ u, up = some u → u < ns.length) :
    Calls Tryd.prog 26 #[.pointer (some ⟨bp, 0, none⟩), .int .i64 (upV up), .string ⟨key.toArray⟩] w fun r w' => r = .returned (.tuple #[]) ∧ VP bp s i ns up key at0 dp (objL (valL d) (sfx s i) i) w' ∧ Below bp w w' := by
  obtain ⟨vL, h1, h2⟩ := h
  have hlt := h1.lt
  have ha := radd bp s i 0 at0 dp ns up ⟨5, key, [], 0, [], i⟩ w ⟨vL, h1, h2⟩ rfl (by omega) hw hup
  unfold ndV at ha
  obtain ⟨c0, c1, c2, c3, c4, c5, cf⟩ := h1.cell
  have hh : (sfx s i).head? = some 123 := by rw [sfx_cons s i hi, hc]; rfl
  go_enter Tryd.func26, Tryd.ntmps26
  go_wp2_with fail
  refine ha.mono ?_
  rintro e w1 ⟨rfl, ⟨v1, r1, n1⟩, b1⟩
  clear ha c0 c1 c2 c3 c4 c5 cf h1 h2
  have hm : Calls Tryd.prog 34 #[.pointer (some ⟨bp, 0, none⟩), .int .u8 123] w1 fun r w' => r = .returned (.tuple #[]) ∧ RD bp s (i + 1) v1 0 at0 dp w' ∧ Onl bp w1 w' := rmust_ok bp s i v1 at0 dp 123 w1 (by omega) r1 hh
  have B1 : Hid (Below bp w w1) := b1
  have N1 : Hid (Nodes (bp + 1) 49 v1 (addKid ns up ns.length ++ [⟨5, key, [], 0, [], i⟩]) w1) := n1
  have hlt1 : bp < w1.heap.size := r1.lt
  clear b1 n1
  go_wp2_with fail
  refine hm.mono ?_
  rintro e w2 ⟨rfl, r2, o2⟩
  have O2 : Hid (Onl bp w1 w2) := o2
  have hbk := rblanks bp s (i + 1) v1 at0 dp w2 (by omega) r2
  clear hm o2 r1 r2
  go_wp2_with fail
  refine hbk.mono ?_
  rintro e w3 ⟨rfl, r3, o3⟩
  have O3 : Hid (Onl bp w1 w3) := Onl.trans O2.out o3
  clear hbk o3 O2
  generalize hp : i + 1 + nb (sfx s (i + 1)) = p at r3
  have HP : Hid (i + 1 + nb (sfx s (i + 1)) = p) := hp
  have hr : ∀ b, isAt 0 (sfx s p) 125 = b → Calls Tryd.prog 19 #[.pointer (some ⟨bp, 0, none⟩), .int .u8 125] w3 fun r w'' => r = .returned (.bool b) ∧ RD bp s p v1 0 at0 dp w'' ∧ Onl bp w3 w'' :=
    fun b hb => hb ▸ (ris bp s p v1 0 at0 dp 125 w3 r3).mono fun e w'' ⟨he, n, hw⟩ => ⟨he, hw ▸ r3.drewN n, hw ▸ (onl_refl bp w3).drewN n⟩
  generalize hb : isAt 0 (sfx s p) 125 = b
  have hr1 := hr b hb
  have HB : Hid (isAt 0 (sfx s p) 125 = b) := hb
  clear hr hb hp r3
  go_wp2_with fail
  refine hr1.mono ?_
  rintro e w4 ⟨rfl, r4, o4⟩
  have O4 : Hid (Onl bp w1 w4) := Onl.trans O3.out o4
  have R4 : Hid (RD bp s p v1 0 at0 dp w4) := r4
  clear hr1 o4 O3 r4
  go_wp2_with fail
  go_loopw [7] (fun v wr => OI bp s i ns up key at0 dp w d v wr) (fun v wr => AM bp s v wr)
  case atStart =>
    have hb4 : Below bp w w4 := B1.out.trans (onl_bel O4.out hlt1)
    have hN4 : RN bp s p (objN ns up key i []) 0 at0 dp w4 := ⟨v1, R4.out, N1.out.onl O4.out (by omega)⟩
    have hpe := HP.out
    have hple : p ≤ s.size := by have := nb_le (sfx s (i + 1)); rw [sfx_length] at this; omega
    refine ⟨hb4, ?_⟩
    cases b with
    | true =>
      right; left
      refine ⟨rfl, p, [], by omega, hN4, ?_⟩
      exact objL_head (valL d) s i p hpe (by have := HB.out; simp [isAt] at this; exact this)
    | false =>
      left
      have hne : (sfx s p).head? ≠ some 125 := by have := HB.out; simp [isAt] at this; exact this
      refine ⟨rfl, p, [], (sfx s i).length + 1, by omega, hple, ?_, hN4, ?_, ?_⟩
      · rw [sfx_length, sfx_length]; omega
      · rw [objN_length]; simp [sizeM]; omega
      · rw [objL_eq (valL d) s i p hpe, if_neg hne]; rfl
  case round =>
    clear B1 N1 O4 R4 HP HB hlt1
    obtain ⟨hbel, hcase⟩ := hrel
    have HBL : Hid (Below bp w wr) := hbel
    clear hbel
    rcases hcase with ⟨rfl, p, ms, f, hip, hps, hf, ⟨vv, hrd, hnn⟩, hlen, hfin⟩ | ⟨rfl, p, ms, hip, ⟨vv, hrd, hnn⟩, hfin⟩ | ⟨b, rfl, e, a, j, vv, he, hrd, hfin⟩
    · have HF : Hid (objL (valL d) (sfx s i) i = finO ms i p (objF (valL d) f (ms.map (·.1)) (sfx s p) p)) := hfin
      have HM : Hid (AM bp s (.bool true) wr = s.size + 2 - p + 1) := AM_ok bp s hrd
      have HNN : Hid (Nodes (bp + 1) 49 vv (objN ns up key i ms) wr) := hnn
      obtain ⟨f, rfl⟩ : ∃ g, f = g + 1 := ⟨f - 1, by omega⟩
      have HLN : Hid ((objN ns up key i ms).length ≤ p ∧ i < p ∧ p ≤ s.size ∧ (sfx s p).length < f + 1) := ⟨hlen, hip, hps, hf⟩
      obtain ⟨c0, c1, c2, c3, c4, c5, cf⟩ := hrd.cell
      have hbk := rblanks bp s p vv at0 dp wr (by omega) hrd
      generalize hp2 : p + nb (sfx s p) = p2 at hbk
      have HP2 : Hid (p + nb (sfx s p) = p2) := hp2
      have hltr := hrd.lt
      clear hfin hnn hlen hip hps hf hp2 hrd
      go_wp2_with fail
      refine hbk.mono ?_
      rintro e w1 ⟨rfl, r1, o1⟩
      have N1 : Hid (Nodes (bp + 1) 49 vv (objN ns up key i ms) w1) := HNN.out.onl o1 (by omega)
      have B1 : Hid (Below bp w w1) := HBL.out.trans (onl_bel o1 hltr)
      have hq := rquoted bp s p2 vv at0 dp w1 (by omega) r1
      clear hbk o1 HNN HBL c0 c1 c2 c3 c4 c5 cf hltr
      obtain ⟨c0, c1, c2, c3, c4, c5, cf⟩ := r1.cell
      cases hQ : quotL (sfx s p2) with
      | error oo =>
        rw [hQ] at hq
        have HR : Hid (objF (valL d) (f + 1) (ms.map (·.1)) (sfx s p) p = .error (2, p2 + oo)) := objF_quot _ _ _ _ _ _ _ HP2.out hQ
        clear hQ
        go_wp2_with fail
        refine hq.mono ?_
        rintro e w2 ⟨⟨⟨tt, rfl⟩, j, r2⟩, o2⟩
        have B2 : Hid (Below bp w w2) := B1.out.trans (onl_bel o2 r1.lt)
        clear hq o2 B1 r1 c0 c1 c2 c3 c4 c5 cf
        obtain ⟨e, he, hee⟩ : ∃ e, 0 < e ∧ e = 2 := ⟨2, by omega, rfl⟩
        obtain ⟨a, haa⟩ : ∃ a, a = p2 + oo := ⟨_, rfl⟩
        rw [← hee, ← haa] at HR r2
        obtain ⟨v3, hv3⟩ : ∃ v3, v3 = vv := ⟨_, rfl⟩
        rw [← hv3] at r2
        have heb : ((e : Int) == 0) = false := by simp; omega
        obtain ⟨c0, c1, c2, c3, c4, c5, cf⟩ := r2.cell
        clear hee haa hv3
        have hbk2 := rblanks_er bp s j v3 e a dp w2 r2 he
        go_wp2_with fail
        refine hbk2.mono ?_
        rintro e0 w3 ⟨rfl, r3, o3⟩
        have B3 : Hid (Below bp w w3) := B2.out.trans (onl_bel o3 r2.lt)
        clear hbk2 o3 B2 r2
        have hmu3 : Calls Tryd.prog 34 #[.pointer (some ⟨bp, 0, none⟩), .int .u8 58] w3 fun r w' => r = .returned (.tuple #[]) ∧ RD bp s j v3 e a dp w' ∧ Onl bp w3 w' := (rmust_er bp s j v3 e a dp 58 w3 r3 he).mono fun e2 w'' ⟨he2, n, hw⟩ => ⟨he2, hw ▸ r3.drewN n, hw ▸ (onl_refl bp w3).drewN n⟩
        go_wp2_with fail
        refine hmu3.mono ?_
        rintro e0 w4 ⟨rfl, r4, o4⟩
        have B4 : Hid (Below bp w w4) := B3.out.trans (onl_bel o4 r3.lt)
        clear hmu3 o4 B3 r3
        have hbk4 := rblanks_er bp s j v3 e a dp w4 r4 he
        go_wp2_with fail
        refine hbk4.mono ?_
        rintro e0 w5 ⟨rfl, r5, o5⟩
        have B5 : Hid (Below bp w w5) := B4.out.trans (onl_bel o5 r4.lt)
        clear hbk4 o5 B4 r4
        have hva5 := rval_er bp s j w5 e a dp v3 (ns.length : Int) tt r5 he
        go_wp2_with fail
        refine hva5.mono ?_
        rintro e0 w6 ⟨rfl, r6, o6⟩
        have B6 : Hid (Below bp w w6) := B5.out.trans (onl_bel o6 r5.lt)
        clear hva5 o6 B5 r5
        have hbk6 := rblanks_er bp s j v3 e a dp w6 r6 he
        go_wp2_with fail
        refine hbk6.mono ?_
        rintro e0 w7 ⟨rfl, r7, o7⟩
        have B7 : Hid (Below bp w w7) := B6.out.trans (onl_bel o7 r6.lt)
        clear hbk6 o7 B6 r6
        have hr7 : Calls Tryd.prog 19 #[.pointer (some ⟨bp, 0, none⟩), .int .u8 44] w7 fun r w'' => r = .returned (.bool false) ∧ RD bp s j v3 e a dp w'' ∧ Onl bp w7 w'' :=
          (ris bp s j v3 e a dp 44 w7 r7).mono fun e2 w'' ⟨he2, n, hw⟩ => ⟨by rw [he2, isAt_er he], hw ▸ r7.drewN n, hw ▸ (onl_refl bp w7).drewN n⟩
        go_wp2_with fail
        refine hr7.mono ?_
        rintro e0 w8 ⟨rfl, r8, o8⟩
        have R8 : Hid (RD bp s j v3 e a dp w8) := r8
        have B8 : Hid (Below bp w w8) := B7.out.trans (onl_bel o8 r7.lt)
        clear hr7 o8 r8 B7 r7
        go_wp2_with fail
        refine ⟨⟨B8.out, .inr (.inr ⟨false, rfl, e, a, j, v3, he, R8.out, ?_⟩)⟩, ?_⟩
        · rw [HF.out, HR.out]; rfl
        · rw [AM_no, HM.out]; omega
      | ok q =>
        obtain ⟨name, m⟩ := q
        rw [hQ] at hq
        have HQ : Hid (quotL (sfx s p2) = .ok (name, m)) := hQ
        clear hQ
        go_wp2_with fail
        refine hq.mono ?_
        rintro e w2 ⟨⟨rfl, r2⟩, o2⟩
        have B2 : Hid (Below bp w w2) := B1.out.trans (onl_bel o2 r1.lt)
        have N2 : Hid (Nodes (bp + 1) 49 vv (objN ns up key i ms) w2) := N1.out.onl o2 (by omega)
        clear hq o2 B1 N1 r1 c0 c1 c2 c3 c4 c5 cf
        obtain ⟨c0, c1, c2, c3, c4, c5, cf⟩ := r2.cell
        have hmem := rmember (bp + 1) vv (objN ns up key i ms) w2 N2.out ns.length ⟨5, key, [], 0, startsM (ns.length + 1) ms, i⟩ (objN_self ns up key i ms) (fun k hk => by have := startsM_lt _ _ k hk; rw [objN_length]; omega) (by have := HLN.out.1; have := HLN.out.2.2.1; omega) (by have := startsM_length (ns.length + 1) ms; have := HLN.out.1; rw [objN_length] at this; have := HLN.out.2.2.1; simp only; omega) ⟨name.toArray⟩
        have hk2 := objN_keys ns up key i ms name
        rw [hk2] at hmem
        clear hk2
        go_wp2_with fail
        refine hmem.mono ?_
        rintro e0 w3 ⟨⟨z, rfl, hz⟩, hw3⟩
        rw [hw3]; clear hw3 w3 hmem
        by_cases hin : name ∈ ms.map (·.1)
        · have hz0 : (0 : Int) ≤ z := hz.2 hin
          have HR : Hid (objF (valL d) (f + 1) (ms.map (·.1)) (sfx s p) p = .error (4, p2)) := objF_twice _ _ _ _ _ _ _ _ HP2.out HQ.out hin
          have hfa : Calls Tryd.prog 13 #[.pointer (some ⟨bp, 0, none⟩), .int .i64 4, .int .i64 (p2 : Int)] w2 fun r w' => r = .returned (.tuple #[]) ∧ RD bp s (p2 + m) vv 4 p2 dp w' ∧ Onl bp w2 w' := rfail0 bp s (p2 + m) vv at0 dp 4 p2 w2 r2
          clear hz hin
          go_wp2_with fail
          refine hfa.mono ?_
          rintro e0 w3 ⟨rfl, r3, o3⟩
          have B3 : Hid (Below bp w w3) := B2.out.trans (onl_bel o3 r2.lt)
          clear hfa o3 B2 r2 c0 c1 c2 c3 c4 c5 cf
          obtain ⟨e, he, hee⟩ : ∃ e, 0 < e ∧ e = 4 := ⟨4, by omega, rfl⟩
          obtain ⟨a, haa⟩ : ∃ a, a = p2 := ⟨_, rfl⟩
          obtain ⟨j, hjj⟩ : ∃ j, j = p2 + m := ⟨_, rfl⟩
          rw [← hee, ← hjj] at r3
          rw [← hee] at HR
          obtain ⟨v3, hv3⟩ : ∃ v3, v3 = vv := ⟨_, rfl⟩
          rw [← hv3] at r3
          subst haa
          clear hee hjj hv3
          have hbk3 := rblanks_er bp s j v3 e a dp w3 r3 he
          go_wp2_with fail
          refine hbk3.mono ?_
          rintro e0 w4 ⟨rfl, r4, o4⟩
          have B4 : Hid (Below bp w w4) := B3.out.trans (onl_bel o4 r3.lt)
          clear hbk3 o4 B3 r3
          have hmu4 : Calls Tryd.prog 34 #[.pointer (some ⟨bp, 0, none⟩), .int .u8 58] w4 fun r w' => r = .returned (.tuple #[]) ∧ RD bp s j v3 e a dp w' ∧ Onl bp w4 w' := (rmust_er bp s j v3 e a dp 58 w4 r4 he).mono fun e2 w'' ⟨he2, n, hw⟩ => ⟨he2, hw ▸ r4.drewN n, hw ▸ (onl_refl bp w4).drewN n⟩
          go_wp2_with fail
          refine hmu4.mono ?_
          rintro e0 w5 ⟨rfl, r5, o5⟩
          have B5 : Hid (Below bp w w5) := B4.out.trans (onl_bel o5 r4.lt)
          clear hmu4 o5 B4 r4
          have hbk5 := rblanks_er bp s j v3 e a dp w5 r5 he
          go_wp2_with fail
          refine hbk5.mono ?_
          rintro e0 w6 ⟨rfl, r6, o6⟩
          have B6 : Hid (Below bp w w6) := B5.out.trans (onl_bel o6 r5.lt)
          clear hbk5 o6 B5 r5
          have hva6 := rval_er bp s j w6 e a dp v3 (ns.length : Int) ⟨name.toArray⟩ r6 he
          go_wp2_with fail
          refine hva6.mono ?_
          rintro e0 w7 ⟨rfl, r7, o7⟩
          have B7 : Hid (Below bp w w7) := B6.out.trans (onl_bel o7 r6.lt)
          clear hva6 o7 B6 r6
          have hbk7 := rblanks_er bp s j v3 e a dp w7 r7 he
          go_wp2_with fail
          refine hbk7.mono ?_
          rintro e0 w8 ⟨rfl, r8, o8⟩
          have B8 : Hid (Below bp w w8) := B7.out.trans (onl_bel o8 r7.lt)
          clear hbk7 o8 B7 r7
          have hr8 : Calls Tryd.prog 19 #[.pointer (some ⟨bp, 0, none⟩), .int .u8 44] w8 fun r w'' => r = .returned (.bool false) ∧ RD bp s j v3 e a dp w'' ∧ Onl bp w8 w'' :=
            (ris bp s j v3 e a dp 44 w8 r8).mono fun e2 w'' ⟨he2, n, hw⟩ => ⟨by rw [he2, isAt_er he], hw ▸ r8.drewN n, hw ▸ (onl_refl bp w8).drewN n⟩
          go_wp2_with fail
          refine hr8.mono ?_
          rintro e0 w9 ⟨rfl, r9, o9⟩
          have R9 : Hid (RD bp s j v3 e a dp w9) := r9
          have B9 : Hid (Below bp w w9) := B8.out.trans (onl_bel o9 r8.lt)
          clear hr8 o9 r9 B8 r8
          go_wp2_with fail
          refine ⟨⟨B9.out, .inr (.inr ⟨false, rfl, e, a, j, v3, he, R9.out, ?_⟩)⟩, ?_⟩
          · rw [HF.out, HR.out]; rfl
          · rw [AM_no, HM.out]; omega
        · have hz0 : decide ((0 : Int) ≤ z) = false := by
            rw [decide_eq_false_iff_not]; exact fun h => hin (hz.1 h)
          have HIN : Hid (name ∉ ms.map (·.1)) := hin
          have hbk := rblanks bp s (p2 + m) vv at0 dp w2 (by omega) r2
          generalize hp3 : p2 + m + nb (sfx s (p2 + m)) = p3 at hbk
          have HP3 : Hid (p2 + m + nb (sfx s (p2 + m)) = p3) := hp3
          have hlt2 := r2.lt
          clear hz hin hp3 r2
          go_wp2_with fail
          refine hbk.mono ?_
          rintro e0 w3 ⟨rfl, r3, o3⟩
          have B3 : Hid (Below bp w w3) := B2.out.trans (onl_bel o3 hlt2)
          have N3 : Hid (Nodes (bp + 1) 49 vv (objN ns up key i ms) w3) := N2.out.onl o3 (by omega)
          have hlt3 := r3.lt
          clear hbk o3 B2 N2 c0 c1 c2 c3 c4 c5 cf hz0 hlt2
          by_cases h58 : (sfx s p3).head? = some 58
          · have hm : Calls Tryd.prog 34 #[.pointer (some ⟨bp, 0, none⟩), .int .u8 58] w3 fun r w' => r = .returned (.tuple #[]) ∧ RD bp s (p3 + 1) vv 0 at0 dp w' ∧ Onl bp w3 w' := rmust_ok bp s p3 vv at0 dp 58 w3 (by omega) r3 h58
            have H58 : Hid ((sfx s p3).head? = some 58) := h58
            clear h58 r3
            go_wp2_with fail
            refine hm.mono ?_
            rintro e0 w4 ⟨rfl, r4, o4⟩
            have B4 : Hid (Below bp w w4) := B3.out.trans (onl_bel o4 hlt3)
            have N4 : Hid (Nodes (bp + 1) 49 vv (objN ns up key i ms) w4) := N3.out.onl o4 (by omega)
            have hbk := rblanks bp s (p3 + 1) vv at0 dp w4 (by omega) r4
            generalize hp4 : p3 + 1 + nb (sfx s (p3 + 1)) = p4 at hbk
            have HP4 : Hid (p3 + 1 + nb (sfx s (p3 + 1)) = p4) := hp4
            have hlt4 := r4.lt
            clear hm o4 B3 N3 r4 hp4 hlt3
            go_wp2_with fail
            refine hbk.mono ?_
            rintro e0 w5 ⟨rfl, r5, o5⟩
            have B5 : Hid (Below bp w w5) := B4.out.trans (onl_bel o5 hlt4)
            have N5 := N4.out.onl o5 (by omega)
            have hva := hv bp s p4 (objN ns up key i ms) (some ns.length) name at0 w5 hs ⟨vv, r5, N5⟩ (by have := HLN.out.1; have := HP2.out; have := HP3.out; have := HP4.out; omega) (flat_wf hw up key (.obj ms i)) (fun u hu => by injection hu with hu; subst hu; rw [objN_length]; omega)
            have hval := objF_val (valL d) s p f p2 p3 p4 m (ms.map (·.1)) name HP2.out HQ.out HIN.out HP3.out H58.out HP4.out
            clear hbk o5 B4 N4 r5 N5 hlt4
            cases hR : valL d (sfx s p4) p4 with
            | error q =>
              obtain ⟨e, a⟩ := q
              rw [hR] at hva hval
              have HR : Hid (objF (valL d) (f + 1) (ms.map (·.1)) (sfx s p) p = .error (e, a)) := hval
              clear hR hval
              go_wp2_with fail
              refine hva.mono ?_
              rintro e0 w6 ⟨rfl, ⟨he, j, v3, r6⟩, b6⟩
              have B6 : Hid (Below bp w w6) := B5.out.trans b6
              clear hva b6 B5
              have hbk6 := rblanks_er bp s j v3 e a dp w6 r6 he
              go_wp2_with fail
              refine hbk6.mono ?_
              rintro e0 w7 ⟨rfl, r7, o7⟩
              have B7 : Hid (Below bp w w7) := B6.out.trans (onl_bel o7 r6.lt)
              clear hbk6 o7 B6 r6
              have hr7 : Calls Tryd.prog 19 #[.pointer (some ⟨bp, 0, none⟩), .int .u8 44] w7 fun r w'' => r = .returned (.bool false) ∧ RD bp s j v3 e a dp w'' ∧ Onl bp w7 w'' :=
                (ris bp s j v3 e a dp 44 w7 r7).mono fun e2 w'' ⟨he2, n, hw⟩ => ⟨by rw [he2, isAt_er he], hw ▸ r7.drewN n, hw ▸ (onl_refl bp w7).drewN n⟩
              go_wp2_with fail
              refine hr7.mono ?_
              rintro e0 w8 ⟨rfl, r8, o8⟩
              have R8 : Hid (RD bp s j v3 e a dp w8) := r8
              have B8 : Hid (Below bp w w8) := B7.out.trans (onl_bel o8 r7.lt)
              clear hr7 o8 r8 B7 r7
              go_wp2_with fail
              refine ⟨⟨B8.out, .inr (.inr ⟨false, rfl, e, a, j, v3, he, R8.out, ?_⟩)⟩, ?_⟩
              · rw [HF.out, HR.out]; rfl
              · rw [AM_no, HM.out]; omega
            | ok q =>
              obtain ⟨tt, n⟩ := q
              rw [hR] at hva hval
              have hsz := valL_size d _ _ _ _ hR
              have HVA : Hid _ := hval
              clear hR hval
              go_wp2_with fail
              refine hva.mono ?_
              rintro e0 w6 ⟨rfl, ⟨v3, r6, n6⟩, b6⟩
              rw [objN_add] at n6
              have B6 : Hid (Below bp w w6) := B5.out.trans b6
              have hlt6 := r6.lt
              have N6 : Hid (Nodes (bp + 1) 49 v3 (objN ns up key i (ms ++ [(name, tt)])) w6) := n6
              have hbk := rblanks bp s (p4 + n) v3 at0 dp w6 (by omega) r6
              generalize hp5 : p4 + n + nb (sfx s (p4 + n)) = p5 at hbk HVA
              have HP5 : Hid (p4 + n + nb (sfx s (p4 + n)) = p5) := hp5
              clear hva b6 B5 r6 n6 hp5
              go_wp2_with fail
              refine hbk.mono ?_
              rintro e0 w7 ⟨rfl, r7, o7⟩
              have B7 : Hid (Below bp w w7) := B6.out.trans (onl_bel o7 hlt6)
              have N7 : Hid (Nodes (bp + 1) 49 v3 (objN ns up key i (ms ++ [(name, tt)])) w7) := N6.out.onl o7 (by omega)
              have hlt7 := r7.lt
              have hr : ∀ b, isAt 0 (sfx s p5) 44 = b → Calls Tryd.prog 19 #[.pointer (some ⟨bp, 0, none⟩), .int .u8 44] w7 fun r w'' => r = .returned (.bool b) ∧ RD bp s p5 v3 0 at0 dp w'' ∧ Onl bp w7 w'' :=
                fun b hb => hb ▸ (ris bp s p5 v3 0 at0 dp 44 w7 r7).mono fun e w'' ⟨he, n, hw⟩ => ⟨he, hw ▸ r7.drewN n, hw ▸ (onl_refl bp w7).drewN n⟩
              clear hbk o7 B6 N6 r7
              by_cases h44 : (sfx s p5).head? = some 44
              · have hr1 := hr true (isAt_yes h44)
                have hp5s := head_lt h44
                have hp5b : (p5 : Int) ≤ 65536 := by omega
                have H44 : Hid ((sfx s p5).head? = some 44 ∧ p5 < s.size) := ⟨h44, hp5s⟩
                clear hr h44 hp5s
                go_wp2_with fail
                refine hr1.mono ?_
                rintro e0 w8 ⟨rfl, r8, o8⟩
                have B8 : Hid (Below bp w w8) := B7.out.trans (onl_bel o8 hlt7)
                have N8 : Hid (Nodes (bp + 1) 49 v3 (objN ns up key i (ms ++ [(name, tt)])) w8) := N7.out.onl o8 (by omega)
                have hlt8 := r8.lt
                clear hr1 o8 B7 N7
                obtain ⟨c0, c1, c2, c3, c4, c5, cf⟩ := r8.cell
                have f1 := cf 1
                go_wp2_with fail
                have r9 := r8.setI (p5 + 1)
                have o9 : Onl bp w8 (w8.setCell ⟨bp, 1, none⟩ (.int .i64 ((p5 + 1 : Nat) : Int))) := Onl.setCell (onl_refl bp w8) _ r8
                obtain ⟨g1, g3, g4, g5⟩ := HLN.out
                have e2 := HP2.out
                have e3 := HP3.out
                have e4 := HP4.out
                have e5 := HP5.out
                refine ⟨⟨B8.out.trans (onl_bel o9 hlt8), .inl ⟨rfl, p5 + 1, ms ++ [(name, tt)], f, by omega, by have := H44.out.2; omega, ?_, ⟨v3, r9, N8.out.onl o9 (by omega)⟩, ?_, ?_⟩⟩, ?_⟩
                · rw [sfx_length] at g5 ⊢; have := H44.out.2; omega
                · rw [objN_length] at g1 ⊢; rw [sizeM_append]; omega
                · rw [HF.out, HVA.out]
                  have hh := H44.out.1
                  match hsx : sfx s p5 with
                  | [] => rw [hsx] at hh; simp at hh
                  | c :: r =>
                    rw [hsx] at hh
                    have hh : c = 44 := by simpa using hh
                    simp only [hh, if_true]
                    rw [List.map_append, List.map_cons, List.map_nil]
                    exact finO_more ms (name, tt) i p (p5 + 1) (by omega) (by omega) _
                · have hAM : AM bp s (.bool true) (w8.setCell ⟨bp, 1, none⟩ (.int .i64 ((p5 : Int) + 1))) = s.size + 2 - (p5 + 1) + 1 := AM_ok bp s r9
                  rw [hAM, HM.out]; have := H44.out.2; omega
              · have hr1 := hr false (isAt_no h44)
                have H44 : Hid ((sfx s p5).head? ≠ some 44) := h44
                clear hr h44
                go_wp2_with fail
                refine hr1.mono ?_
                rintro e0 w8 ⟨rfl, r8, o8⟩
                have B8 : Hid (Below bp w w8) := B7.out.trans (onl_bel o8 hlt7)
                have N8 : Hid (Nodes (bp + 1) 49 v3 (objN ns up key i (ms ++ [(name, tt)])) w8) := N7.out.onl o8 (by omega)
                have R8 : Hid (RD bp s p5 v3 0 at0 dp w8) := r8
                clear hr1 o8 B7 N7 r8
                go_wp2_with fail
                obtain ⟨g1, g3, g4, g5⟩ := HLN.out
                have e2 := HP2.out
                have e3 := HP3.out
                have e4 := HP4.out
                have e5 := HP5.out
                refine ⟨⟨B8.out, .inr (.inl ⟨rfl, p5, ms ++ [(name, tt)], by omega, ⟨v3, R8.out, N8.out⟩, ?_⟩)⟩, ?_⟩
                · rw [HF.out, HVA.out]
                  have hh := H44.out
                  match hsx : sfx s p5 with
                  | [] => simp [finO]
                  | c :: r =>
                    rw [hsx] at hh
                    have hh : c ≠ 44 := by simpa using hh
                    by_cases h125 : c = 125
                    · simp [h125, finO]; omega
                    · simp [hh, h125, finO]
                · rw [AM_no, HM.out]; omega
          · have hm : Calls Tryd.prog 34 #[.pointer (some ⟨bp, 0, none⟩), .int .u8 58] w3 fun r w' => r = .returned (.tuple #[]) ∧ RD bp s p3 vv 2 p3 dp w' ∧ Onl bp w3 w' := rmust_no bp s p3 vv at0 dp 58 w3 r3 h58
            have HR : Hid (objF (valL d) (f + 1) (ms.map (·.1)) (sfx s p) p = .error (2, p3)) := objF_colon _ _ _ _ _ _ _ _ _ HP2.out HQ.out HIN.out HP3.out h58
            clear h58 r3
            go_wp2_with fail
            refine hm.mono ?_
            rintro e0 w4 ⟨rfl, r4, o4⟩
            have B4 : Hid (Below bp w w4) := B3.out.trans (onl_bel o4 hlt3)
            clear hm o4 B3
            obtain ⟨e, he, hee⟩ : ∃ e, 0 < e ∧ e = 2 := ⟨2, by omega, rfl⟩
            obtain ⟨a, haa⟩ : ∃ a, a = p3 := ⟨_, rfl⟩
            obtain ⟨j, hjj⟩ : ∃ j, j = p3 := ⟨_, rfl⟩
            obtain ⟨v3, hv3⟩ : ∃ v3, v3 = vv := ⟨_, rfl⟩
            have r4' : RD bp s j v3 e a dp w4 := by rw [hjj, hv3, hee, haa]; exact r4
            have HR' : Hid (objF (valL d) (f + 1) (ms.map (·.1)) (sfx s p) p = .error (e, a)) := by rw [hee, haa]; exact HR
            clear r4 HR hee haa hjj hv3
            have r4 := r4'
            have HR := HR'
            clear r4' HR'
            have hbk4 := rblanks_er bp s j v3 e a dp w4 r4 he
            go_wp2_with fail
            refine hbk4.mono ?_
            rintro e0 w5 ⟨rfl, r5, o5⟩
            have B5 : Hid (Below bp w w5) := B4.out.trans (onl_bel o5 r4.lt)
            clear hbk4 o5 B4 r4
            have hva5 := rval_er bp s j w5 e a dp v3 (ns.length : Int) ⟨name.toArray⟩ r5 he
            go_wp2_with fail
            refine hva5.mono ?_
            rintro e0 w6 ⟨rfl, r6, o6⟩
            have B6 : Hid (Below bp w w6) := B5.out.trans (onl_bel o6 r5.lt)
            clear hva5 o6 B5 r5
            have hbk6 := rblanks_er bp s j v3 e a dp w6 r6 he
            go_wp2_with fail
            refine hbk6.mono ?_
            rintro e0 w7 ⟨rfl, r7, o7⟩
            have B7 : Hid (Below bp w w7) := B6.out.trans (onl_bel o7 r6.lt)
            clear hbk6 o7 B6 r6
            have hr7 : Calls Tryd.prog 19 #[.pointer (some ⟨bp, 0, none⟩), .int .u8 44] w7 fun r w'' => r = .returned (.bool false) ∧ RD bp s j v3 e a dp w'' ∧ Onl bp w7 w'' :=
              (ris bp s j v3 e a dp 44 w7 r7).mono fun e2 w'' ⟨he2, n, hw⟩ => ⟨by rw [he2, isAt_er he], hw ▸ r7.drewN n, hw ▸ (onl_refl bp w7).drewN n⟩
            go_wp2_with fail
            refine hr7.mono ?_
            rintro e0 w8 ⟨rfl, r8, o8⟩
            have R8 : Hid (RD bp s j v3 e a dp w8) := r8
            have B8 : Hid (Below bp w w8) := B7.out.trans (onl_bel o8 r7.lt)
            clear hr7 o8 r8 B7 r7
            go_wp2_with fail
            refine ⟨⟨B8.out, .inr (.inr ⟨false, rfl, e, a, j, v3, he, R8.out, ?_⟩)⟩, ?_⟩
            · rw [HF.out, HR.out]; rfl
            · rw [AM_no, HM.out]; omega
    · have HF : Hid (objL (valL d) (sfx s i) i = if (sfx s p).head? = some 125 then .ok (.obj ms i, p - i + 1) else .error (2, p)) := hfin
      have HNN : Hid (Nodes (bp + 1) 49 vv (objN ns up key i ms) wr) := hnn
      have hltr := hrd.lt
      have HIP : Hid (i ≤ p) := hip
      by_cases h125 : (sfx s p).head? = some 125
      · have hm : Calls Tryd.prog 34 #[.pointer (some ⟨bp, 0, none⟩), .int .u8 125] wr fun r w' => r = .returned (.tuple #[]) ∧ RD bp s (p + 1) vv 0 at0 dp w' ∧ Onl bp wr w' := rmust_ok bp s p vv at0 dp 125 wr (by omega) hrd h125
        have H125 : Hid _ := h125
        clear hfin hnn h125 hrd hip
        go_wp2_with fail
        refine hm.mono ?_
        rintro e0 w5 ⟨rfl, r5, o5⟩
        have R5 : Hid (RD bp s (p + 1) vv 0 at0 dp w5) := r5
        have N5 : Hid (Nodes (bp + 1) 49 vv (objN ns up key i ms) w5) := HNN.out.onl o5 (by omega)
        have B5 : Hid (Below bp w w5) := HBL.out.trans (onl_bel o5 hltr)
        clear hm o5 r5
        go_wp2
        go_end0
        refine ⟨rfl, ?_, B5.out⟩
        rw [HF.out, if_pos H125.out]
        show RN bp s (i + (p - i + 1)) _ 0 at0 dp w5
        rw [show i + (p - i + 1) = p + 1 by have := HIP.out; omega]
        exact ⟨vv, R5.out, N5.out⟩
      · have hm : Calls Tryd.prog 34 #[.pointer (some ⟨bp, 0, none⟩), .int .u8 125] wr fun r w' => r = .returned (.tuple #[]) ∧ RD bp s p vv 2 p dp w' ∧ Onl bp wr w' := rmust_no bp s p vv at0 dp 125 wr hrd h125
        have H125 : Hid (¬ (sfx s p).head? = some 125) := h125
        clear hfin hnn h125 hrd hip
        go_wp2_with fail
        refine hm.mono ?_
        rintro e0 w5 ⟨rfl, r5, o5⟩
        have R5 : Hid (RD bp s p vv 2 p dp w5) := r5
        have B5 : Hid (Below bp w w5) := HBL.out.trans (onl_bel o5 hltr)
        clear hm o5 r5
        go_wp2
        go_end0
        refine ⟨rfl, ?_, B5.out⟩
        rw [HF.out, if_neg H125.out]
        exact ⟨by omega, _, _, R5.out⟩
    · have HF : Hid (objL (valL d) (sfx s i) i = .error (e, a)) := hfin
      have hm : Calls Tryd.prog 34 #[.pointer (some ⟨bp, 0, none⟩), .int .u8 125] wr fun r w' => r = .returned (.tuple #[]) ∧ ∃ n, w' = wr.drewN n := rmust_er bp s j vv e a dp 125 wr hrd he
      have heb : ((e : Int) == 0) = false := by simp; omega
      obtain ⟨c0, c1, c2, c3, c4, c5, cf⟩ := hrd.cell
      have hltr := hrd.lt
      clear hfin
      cases b
      all_goals
        go_wp2_with fail
        refine hm.mono ?_
        rintro e0 w5 ⟨rfl, n, hw5⟩
        rw [hw5]; clear hw5 w5
        go_wp2
        go_end0
        refine ⟨rfl, ?_, HBL.out.trans (onl_bel ((onl_refl bp wr).drewN n) hltr)⟩
        rw [HF.out]
        exact ⟨he, j, vv, hrd⟩
end
end Go.Proofs.YtaghclgookfmnaaDoor
