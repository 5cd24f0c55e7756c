/-
  Joined by program: JValue, JRead.
-/
import Derived.Test.YtgiaflcbiipafabGreatDoorG12
/-
  The document's reader: value, whole.
-/
namespace Go.Proofs.YtgiaflcbiipafabGreatDoor
open Go.RowKit
set_option linter.unusedVariables false

section
variable (bp : Nat) (s : ByteArray) (i : Nat) (ns : List Nd) (up : Option Nat) (key : List UInt8) (at0 dp : Nat) (w : World)

set_option maxRecDepth 4000 in
set_option maxHeartbeats 1000000 in
theorem rval_arr (d : Nat) (hv : ValC d (dp + 1)) (hdp : dp < 32) (hs : s.size ≤ 65536) (h : RN bp s i ns 0 at0 dp w) (hi : i < s.size) (hc : s[i] = 91) (hl : ns.length ≤ i) (hw : WFk ns) (hup : ∀ u, up = some u → u < ns.length) :
    Calls Tryz.prog 17 #[.pointer (some ⟨bp, 0, none⟩), .int .i64 (upV up), .string ⟨key.toArray⟩] w fun r w' => r = .returned (.tuple #[]) ∧ VP bp s i ns up key at0 dp (valL (d + 1) (sfx s i) i) w' ∧ Below bp w w' := by
  obtain ⟨vL, h1, h2⟩ := h
  have HR : Hid (valL (d + 1) (sfx s i) i = arrL (valL d) (sfx s i) i) := by
    show valL (d + 1) (sfx s i) i = arrL (valL d) (sfx s i) i
    rw [sfx_cons s i hi, valL_cons]; simp [hc, isD]
  have har := fun w' (h' : RN bp s i ns 0 at0 (dp + 1) w') => rarray bp s i ns up key at0 (dp + 1) w' d hv hs h' hi hc hl hw hup
  have hi' : (i : Int) < (s.size : Int) := by omega
  have hif : decide ((s.size : Int) ≤ (i : Int)) = false := by simp; omega
  have hcb : ((s[i].toNat : Int) == 91) = true := by rw [hc]; rfl
  have hdg : ∀ w, Calls Tryz.prog 35 #[.int .u8 91] w fun e w' => e = .returned (.bool false) ∧ w' = w := rdigit 91
  have hdd : decide ((32 : Int) ≤ (dp : Int)) = false := by simp; omega
  have hdb : (dp : Int) ≤ 32 := by omega
  have hlt := h1.lt
  have HN : Hid (Nodes (bp + 1) 64 vL ns w) := h2
  clear h2 hl hup hdp
  obtain ⟨c0, c1, c2, c3, c4, c5, cf⟩ := h1.cell
  go_enter Tryz.func17, Tryz.ntmps17
  go_wp2_with fail
  go_quiet (fail)
  have h3 := h1.drewN nq
  have O3 : Hid (Onl bp w (w.drewN nq)) := Onl.drewN (onl_refl bp w) nq
  generalize w.drewN nq = w3 at h3 O3
  clear c0 c1 c2 c3 c4 c5 cf nq h1
  obtain ⟨c0, c1, c2, c3, c4, c5, cf⟩ := h3.cell
  go_wp2_with fail
  go_quiet (fail)
  have h4 := h3.drewN nq
  have O4 : Hid (Onl bp w (w3.drewN nq)) := Onl.drewN O3.out nq
  generalize w3.drewN nq = w4 at h4 O4
  clear c0 c1 c2 c3 c4 c5 cf nq h3 O3 w3
  go_wp2_with fail
  refine (hdg _).mono ?_
  rintro e w4' ⟨rfl, hw4⟩
  rw [hw4]; clear hw4 w4'
  obtain ⟨c0, c1, c2, c3, c4, c5, cf⟩ := h4.cell
  have f5 := cf 5
  have h5 := h4.setD (dp + 1)
  have o5 : Onl bp w (w4.setCell ⟨bp, 5, none⟩ (.int .i64 ((dp + 1 : Nat) : Int))) := Onl.setCell O4.out _ h4
  have ha := har _ ⟨vL, h5, HN.out.onl o5 (by omega)⟩
  have O5 : Hid (Onl bp w (w4.setCell ⟨bp, 5, none⟩ (.int .i64 ((dp + 1 : Nat) : Int)))) := o5
  rw [show ((dp + 1 : Nat) : Int) = (dp : Int) + 1 by omega] at ha O5
  clear h5 o5 har
  go_wp2_with fail
  refine ha.mono ?_
  rintro e w6 ⟨rfl, h6, b6⟩
  have B6 : Hid (Below bp w w6) := (onl_bel O5.out hlt).trans b6
  clear ha b6 O5 c0 c1 c2 c3 c4 c5 cf f5 h4 O4
  cases hA : arrL (valL d) (sfx s i) i with
  | ok q =>
    obtain ⟨t, n⟩ := q
    rw [hA] at h6
    have HA : Hid _ := hA
    clear hA
    obtain ⟨v6, r6, n6⟩ := h6
    obtain ⟨c0, c1, c2, c3, c4, c5, cf⟩ := r6.cell
    have f5 := cf 5
    rw [show ((dp + 1 : Nat) : Int) = (dp : Int) + 1 by omega] at c5
    have h7 := r6.setD dp
    have o7 : Onl bp w6 (w6.setCell ⟨bp, 5, none⟩ (.int .i64 (dp : Int))) := Onl.setCell (onl_refl bp w6) _ r6
    have n7 := n6.onl o7 (by omega)
    have H7 : Hid _ := And.intro h7 (And.intro n7 (onl_bel o7 r6.lt))
    have hsub : (dp : Int) + 1 - 1 = (dp : Int) := by omega
    clear h7 o7 n7 n6
    go_wp2
    go_end0
    refine ⟨rfl, ?_, B6.out.trans H7.out.2.2⟩
    rw [HR.out, HA.out]
    exact ⟨v6, H7.out.1, H7.out.2.1⟩
  | error q =>
    obtain ⟨er, a⟩ := q
    rw [hA] at h6
    have HA : Hid _ := hA
    clear hA
    obtain ⟨he, j, v6, r6⟩ := h6
    obtain ⟨c0, c1, c2, c3, c4, c5, cf⟩ := r6.cell
    have f5 := cf 5
    rw [show ((dp + 1 : Nat) : Int) = (dp : Int) + 1 by omega] at c5
    have h7 := r6.setD dp
    have o7 : Onl bp w6 (w6.setCell ⟨bp, 5, none⟩ (.int .i64 (dp : Int))) := Onl.setCell (onl_refl bp w6) _ r6
    have H7 : Hid _ := And.intro h7 (onl_bel o7 r6.lt)
    have hsub : (dp : Int) + 1 - 1 = (dp : Int) := by omega
    clear h7 o7
    go_wp2
    go_end0
    refine ⟨rfl, ?_, B6.out.trans H7.out.2⟩
    rw [HR.out, HA.out]
    exact ⟨he, j, v6, H7.out.1⟩
set_option maxRecDepth 4000 in
set_option maxHeartbeats 1000000 in
theorem rval_obj (d : Nat) (hv : ValC d (dp + 1)) (hdp : dp < 32) (hs : s.size ≤ 65536) (h : RN bp s i ns 0 at0 dp w) (hi : i < s.size) (hc : s[i] = 123) (hl : ns.length ≤ i) (hw : WFk ns) (hup : ∀ u, up = some u → u < ns.length) :
    Calls Tryz.prog 17 #[.pointer (some ⟨bp, 0, none⟩), .int .i64 (upV up), .string ⟨key.toArray⟩] w fun r w' => r = .returned (.tuple #[]) ∧ VP bp s i ns up key at0 dp (valL (d + 1) (sfx s i) i) w' ∧ Below bp w w' := by
  obtain ⟨vL, h1, h2⟩ := h
  have HR : Hid (valL (d + 1) (sfx s i) i = objL (valL d) (sfx s i) i) := by
    show valL (d + 1) (sfx s i) i = objL (valL d) (sfx s i) i
    rw [sfx_cons s i hi, valL_cons]; simp [hc, isD]
  have har := fun w' (h' : RN bp s i ns 0 at0 (dp + 1) w') => robject bp s i ns up key at0 (dp + 1) w' d hv hs h' hi hc hl hw hup
  have hi' : (i : Int) < (s.size : Int) := by omega
  have hif : decide ((s.size : Int) ≤ (i : Int)) = false := by simp; omega
  have hcb : ((s[i].toNat : Int) == 123) = true := by rw [hc]; rfl
  have hdg : ∀ w, Calls Tryz.prog 35 #[.int .u8 123] w fun e w' => e = .returned (.bool false) ∧ w' = w := rdigit 123
  have hdd : decide ((32 : Int) ≤ (dp : Int)) = false := by simp; omega
  have hdb : (dp : Int) ≤ 32 := by omega
  have hlt := h1.lt
  have HN : Hid (Nodes (bp + 1) 64 vL ns w) := h2
  clear h2 hl hup hdp
  obtain ⟨c0, c1, c2, c3, c4, c5, cf⟩ := h1.cell
  go_enter Tryz.func17, Tryz.ntmps17
  go_wp2_with fail
  go_quiet (fail)
  have h3 := h1.drewN nq
  have O3 : Hid (Onl bp w (w.drewN nq)) := Onl.drewN (onl_refl bp w) nq
  generalize w.drewN nq = w3 at h3 O3
  clear c0 c1 c2 c3 c4 c5 cf nq h1
  obtain ⟨c0, c1, c2, c3, c4, c5, cf⟩ := h3.cell
  go_wp2_with fail
  go_quiet (fail)
  have h4 := h3.drewN nq
  have O4 : Hid (Onl bp w (w3.drewN nq)) := Onl.drewN O3.out nq
  generalize w3.drewN nq = w4 at h4 O4
  clear c0 c1 c2 c3 c4 c5 cf nq h3 O3 w3
  go_wp2_with fail
  refine (hdg _).mono ?_
  rintro e w4' ⟨rfl, hw4⟩
  rw [hw4]; clear hw4 w4'
  obtain ⟨c0, c1, c2, c3, c4, c5, cf⟩ := h4.cell
  have f5 := cf 5
  have h5 := h4.setD (dp + 1)
  have o5 : Onl bp w (w4.setCell ⟨bp, 5, none⟩ (.int .i64 ((dp + 1 : Nat) : Int))) := Onl.setCell O4.out _ h4
  have ha := har _ ⟨vL, h5, HN.out.onl o5 (by omega)⟩
  have O5 : Hid (Onl bp w (w4.setCell ⟨bp, 5, none⟩ (.int .i64 ((dp + 1 : Nat) : Int)))) := o5
  rw [show ((dp + 1 : Nat) : Int) = (dp : Int) + 1 by omega] at ha O5
  clear h5 o5 har
  go_wp2_with fail
  refine ha.mono ?_
  rintro e w6 ⟨rfl, h6, b6⟩
  have B6 : Hid (Below bp w w6) := (onl_bel O5.out hlt).trans b6
  clear ha b6 O5 c0 c1 c2 c3 c4 c5 cf f5 h4 O4
  cases hA : objL (valL d) (sfx s i) i with
  | ok q =>
    obtain ⟨t, n⟩ := q
    rw [hA] at h6
    have HA : Hid _ := hA
    clear hA
    obtain ⟨v6, r6, n6⟩ := h6
    obtain ⟨c0, c1, c2, c3, c4, c5, cf⟩ := r6.cell
    have f5 := cf 5
    rw [show ((dp + 1 : Nat) : Int) = (dp : Int) + 1 by omega] at c5
    have h7 := r6.setD dp
    have o7 : Onl bp w6 (w6.setCell ⟨bp, 5, none⟩ (.int .i64 (dp : Int))) := Onl.setCell (onl_refl bp w6) _ r6
    have n7 := n6.onl o7 (by omega)
    have H7 : Hid _ := And.intro h7 (And.intro n7 (onl_bel o7 r6.lt))
    have hsub : (dp : Int) + 1 - 1 = (dp : Int) := by omega
    clear h7 o7 n7 n6
    go_wp2
    go_end0
    refine ⟨rfl, ?_, B6.out.trans H7.out.2.2⟩
    rw [HR.out, HA.out]
    exact ⟨v6, H7.out.1, H7.out.2.1⟩
  | error q =>
    obtain ⟨er, a⟩ := q
    rw [hA] at h6
    have HA : Hid _ := hA
    clear hA
    obtain ⟨he, j, v6, r6⟩ := h6
    obtain ⟨c0, c1, c2, c3, c4, c5, cf⟩ := r6.cell
    have f5 := cf 5
    rw [show ((dp + 1 : Nat) : Int) = (dp : Int) + 1 by omega] at c5
    have h7 := r6.setD dp
    have o7 : Onl bp w6 (w6.setCell ⟨bp, 5, none⟩ (.int .i64 (dp : Int))) := Onl.setCell (onl_refl bp w6) _ r6
    have H7 : Hid _ := And.intro h7 (onl_bel o7 r6.lt)
    have hsub : (dp : Int) + 1 - 1 = (dp : Int) := by omega
    clear h7 o7
    go_wp2
    go_end0
    refine ⟨rfl, ?_, B6.out.trans H7.out.2⟩
    rw [HR.out, HA.out]
    exact ⟨he, j, v6, H7.out.1⟩
end

/-- value, by how deep it may go. -/
theorem rvalue : ∀ (d : Nat), d ≤ 32 → ValC d (32 - d) := by
  intro d
  induction d with
  | zero =>
    intro _ bp s i ns up key at0 w hs h hl hw hup
    by_cases hi : i < s.size
    · have hl2 : ns.length ≤ 1000000 := by omega
      by_cases h34 : s[i] = 34
      · exact rval_str bp s i ns up key at0 32 w hs h hi h34 hl2 hw hup 0
      by_cases h45 : s[i] = 45
      · exact rval_minus bp s i ns up key at0 32 w hs h hi h45 hl2 hw hup 0
      cases hd : isD s[i] with
      | true => exact rval_digit bp s i ns up key at0 32 w hs h hi h45 hd hl2 hw hup 0
      | false =>
        by_cases hwd : s[i] = 116 ∨ s[i] = 102 ∨ s[i] = 110
        · exact rval_word bp s i ns up key at0 32 w hs h hi hwd hl2 hw hup 0
        by_cases hbr : s[i] = 91 ∨ s[i] = 123
        · exact rval_deep bp s i ns up key at0 w hs h hi hbr
        · exact rval_other bp s i ns up key at0 32 w hs h hi h34 h45 hd (fun e => hwd (.inl e)) (fun e => hwd (.inr (.inl e))) (fun e => hwd (.inr (.inr e))) (fun e => hbr (.inl e)) (fun e => hbr (.inr e)) 0
    · exact rval_end bp s i ns up key at0 32 w hs h (by omega) 0
  | succ d ih =>
    intro hd32 bp s i ns up key at0 w hs h hl hw hup
    have hv : ValC d (32 - (d + 1) + 1) := by rw [show 32 - (d + 1) + 1 = 32 - d by omega]; exact ih (by omega)
    by_cases hi : i < s.size
    · have hl2 : ns.length ≤ 1000000 := by omega
      by_cases h34 : s[i] = 34
      · exact rval_str bp s i ns up key at0 _ w hs h hi h34 hl2 hw hup _
      by_cases h45 : s[i] = 45
      · exact rval_minus bp s i ns up key at0 _ w hs h hi h45 hl2 hw hup _
      cases hd : isD s[i] with
      | true => exact rval_digit bp s i ns up key at0 _ w hs h hi h45 hd hl2 hw hup _
      | false =>
        by_cases hwd : s[i] = 116 ∨ s[i] = 102 ∨ s[i] = 110
        · exact rval_word bp s i ns up key at0 _ w hs h hi hwd hl2 hw hup _
        by_cases h91 : s[i] = 91
        · exact rval_arr bp s i ns up key at0 _ w d hv (by omega) hs h hi h91 hl hw hup
        by_cases h123 : s[i] = 123
        · exact rval_obj bp s i ns up key at0 _ w d hv (by omega) hs h hi h123 hl hw hup
        · exact rval_other bp s i ns up key at0 _ w hs h hi h34 h45 hd (fun e => hwd (.inl e)) (fun e => hwd (.inr (.inl e))) (fun e => hwd (.inr (.inr e))) h91 h123 _
    · exact rval_end bp s i ns up key at0 _ w hs h (by omega) _
end Go.Proofs.YtgiaflcbiipafabGreatDoor
/-
  notaryref.ReadJson.
-/
namespace Go.Proofs.YtgiaflcbiipafabGreatDoor
open Go.RowKit
set_option linter.unusedVariables false

/-- What ReadJson answers. -/
def JP (B : Nat) (R : Except (Nat × Nat) JT) (r : Ending) (w' : World) : Prop :=
  match R with
  | .ok t => ∃ v, r = .returned (.tuple #[v, .int .i64 0, .int .i64 0]) ∧ Nodes B 64 v (flat 0 [] t) w'
  | .error (e, a) => r = .returned (.tuple #[.slice none 0 0, .int .i64 (e : Int), .int .i64 (a : Int)]) ∧ 0 < e

theorem readL_eq (s : ByteArray) (hs : s.size ≤ 65536) (p : Nat) (hp : nb (sfx s 0) = p) : readL s.data.toList = (match valL 32 (sfx s p) p with
    | .error e => .error e
    | .ok (t, n) => if p + n + nb (sfx s (p + n)) < s.size then .error (2, p + n + nb (sfx s (p + n))) else .ok t) := by
  have e0 : s.data.toList = sfx s 0 := rfl
  unfold readL
  rw [if_neg (by simp; omega), e0, hp]
  dsimp only
  rw [sfx_drop, Nat.zero_add]
  cases valL 32 (sfx s p) p with
  | error e => rfl
  | ok q =>
    obtain ⟨t, n⟩ := q
    dsimp only
    rw [sfx_drop, Nat.zero_add, sfx_length, Nat.sub_zero]

set_option maxRecDepth 4000 in
set_option maxHeartbeats 1000000 in
theorem rread (s : ByteArray) (w : World) (hs2 : s.size ≤ 140737488351232) :
    Calls Tryz.prog 9 #[.string s] w fun r w' => JP (w.heap.size + 1) (readL s.data.toList) r w' ∧ Below w.heap.size w w' := by
  by_cases hs : s.size ≤ 65536
  · have hs' : decide ((65536 : Int) < (s.size : Int)) = false := by simp; omega
    have HS : Hid (s.size ≤ 65536) := hs
    clear hs
    go_enter Tryz.func9, Tryz.ntmps9
    go_wp2_with fail
    have hlt0 : w.heap.size < (w.alloc (.cells #[.string s, .int .i64 0, .slice none 0 0, .int .i64 0, .int .i64 0, .int .i64 0] 53)).heap.size := by simp
    have r0 : RD w.heap.size s 0 (.slice none 0 0) 0 0 0 (w.alloc (.cells #[.string s, .int .i64 0, .slice none 0 0, .int .i64 0, .int .i64 0, .int .i64 0] 53)) := heap_alloc_new w _
    have B0 : Hid (Below w.heap.size w (w.alloc (.cells #[.string s, .int .i64 0, .slice none 0 0, .int .i64 0, .int .i64 0, .int .i64 0] 53))) := bal (brf w) _
    generalize w.alloc (.cells #[.string s, .int .i64 0, .slice none 0 0, .int .i64 0, .int .i64 0, .int .i64 0] 53) = w0 at r0 B0 hlt0
    generalize hbp : w.heap.size = bp at r0 B0 hlt0
    have HBP : Hid (w.heap.size = bp) := hbp
    have hbk := rblanks bp s 0 (.slice none 0 0) 0 0 w0 (by have := HS.out; omega) r0
    rw [Nat.zero_add] at hbk
    generalize hp : nb (sfx s 0) = p at hbk
    have HRE : Hid _ := readL_eq s HS.out p hp
    clear hbp hp
    refine hbk.mono ?_
    rintro e w1 ⟨rfl, r1, o1⟩
    have B1 : Hid (Below bp w w1) := B0.out.trans (onl_bel o1 hlt0)
    have hva := rvalue 32 (Nat.le_refl _) bp s p [] none [] 0 w1 HS.out ⟨_, r1, Nodes.nil _ _ _⟩ (Nat.zero_le _) (fun n hn => by simp at hn) (fun u hu => by cases hu)
    clear hbk o1 B0 r0 hlt0 r1
    cases hR : valL 32 (sfx s p) p with
    | error q =>
      obtain ⟨e, a⟩ := q
      rw [hR] at hva
      have HR : Hid (readL s.data.toList = .error (e, a)) := by have := HRE.out; rw [hR] at this; exact this
      clear hR HRE
      go_wp2_with fail
      refine hva.mono ?_
      rintro e0 w2 ⟨rfl, ⟨he, j, v2, r2⟩, b2⟩
      have B2 : Hid (Below bp w w2) := B1.out.trans b2
      have hbk := rblanks_er bp s j v2 e a _ w2 r2 he
      have hlt2 := r2.lt
      clear hva b2 B1 r2
      go_wp2_with fail
      refine hbk.mono ?_
      rintro e0 w3 ⟨rfl, r3, o3⟩
      have B3 : Hid (Below bp w w3) := B2.out.trans (onl_bel o3 hlt2)
      clear hbk o3 B2
      obtain ⟨c0, c1, c2, c3, c4, c5, cf⟩ := r3.cell
      have heb : ((e : Int) != 0) = true := by simp; omega
      have hfa := rfail1 bp s j v2 e a _ 2 j w3 r3 he
      by_cases hj : j < s.size
      · have hj' : (j : Int) < (s.size : Int) := by omega
        go_wp2_with fail
        refine hfa.mono ?_
        rintro e0 w4 ⟨rfl, hw4⟩
        rw [hw4]; clear hw4 w4 hfa
        go_wp2_with fail
        go_quiet (fail)
        go_wp2
        go_ret3
        rw [HR.out]
        exact ⟨⟨rfl, he⟩, by rw [HBP.out]; exact bdN B3.out nq⟩
      · have hj' : decide ((j : Int) < (s.size : Int)) = false := by simp; omega
        go_wp2_with fail
        go_quiet (fail)
        go_wp2
        go_ret3
        rw [HR.out]
        exact ⟨⟨rfl, he⟩, by rw [HBP.out]; exact bdN B3.out nq⟩
    | ok q =>
      obtain ⟨tt, n⟩ := q
      rw [hR] at hva
      have HR : Hid (readL s.data.toList = if p + n + nb (sfx s (p + n)) < s.size then .error (2, p + n + nb (sfx s (p + n))) else .ok tt) := by have := HRE.out; rw [hR] at this; exact this
      clear hR HRE
      go_wp2_with fail
      refine hva.mono ?_
      rintro e0 w2 ⟨rfl, ⟨v2, r2, n2⟩, b2⟩
      have B2 : Hid (Below bp w w2) := B1.out.trans b2
      have hbk := rblanks bp s (p + n) v2 0 _ w2 (by have := HS.out; omega) r2
      generalize hp3 : p + n + nb (sfx s (p + n)) = p3 at hbk HR
      have hlt2 := r2.lt
      have N2 : Hid (Nodes (bp + 1) 64 v2 (flat 0 [] tt) w2) := n2
      clear hva b2 B1 r2 n2 hp3
      go_wp2_with fail
      refine hbk.mono ?_
      rintro e0 w3 ⟨rfl, r3, o3⟩
      have B3 : Hid (Below bp w w3) := B2.out.trans (onl_bel o3 hlt2)
      have N3 : Hid (Nodes (bp + 1) 64 v2 (flat 0 [] tt) w3) := N2.out.onl o3 (by omega)
      clear hbk o3 B2 N2
      obtain ⟨c0, c1, c2, c3, c4, c5, cf⟩ := r3.cell
      by_cases hj : p3 < s.size
      · have hj' : (p3 : Int) < (s.size : Int) := by omega
        have hfa : Calls Tryz.prog 18 #[.pointer (some ⟨bp, 0, none⟩), .int .i64 2, .int .i64 (p3 : Int)] w3 fun r w' => r = .returned (.tuple #[]) ∧ RD bp s p3 v2 2 p3 (32 - 32) w' ∧ Onl bp w3 w' := rfail0 bp s p3 v2 0 _ 2 p3 w3 r3
        have HJ : Hid (p3 < s.size) := hj
        go_wp2_with fail
        refine hfa.mono ?_
        rintro e0 w4 ⟨rfl, r4, o4⟩
        have B4 : Hid (Below bp w w4) := B3.out.trans (onl_bel o4 r3.lt)
        clear hfa o4 c0 c1 c2 c3 c4 c5 cf r3
        obtain ⟨c0, c1, c2, c3, c4, c5, cf⟩ := r4.cell
        go_wp2_with fail
        go_quiet (fail)
        go_wp2
        go_ret3
        rw [HR.out, if_pos HJ.out]
        exact ⟨⟨rfl, by omega⟩, by rw [HBP.out]; exact bdN B4.out nq⟩
      · have hj' : decide ((p3 : Int) < (s.size : Int)) = false := by simp; omega
        have HJ : Hid (¬ p3 < s.size) := hj
        go_wp2
        go_ret3
        rw [HR.out, if_neg HJ.out]
        exact ⟨⟨v2, rfl, by rw [HBP.out]; exact N3.out⟩, by rw [HBP.out]; exact B3.out⟩
  · have hs' : (65536 : Int) < (s.size : Int) := by omega
    have hR : readL s.data.toList = .error (1, 0) := by unfold readL; rw [if_pos (by simp; omega)]
    rw [hR]
    clear hR hs
    go_enter Tryz.func9, Tryz.ntmps9
    go_wp2
    go_ret3
    exact ⟨⟨rfl, by omega⟩, brf _⟩
end Go.Proofs.YtgiaflcbiipafabGreatDoor
