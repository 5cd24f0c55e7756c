import Derived.Test.YtaghclgookfmnaaDoorJObjW
/-
  The document's reader: value, whole.
-/
namespace Go.Proofs.YtaghclgookfmnaaDoor
open Go.RowKit
set_option linter.unusedVariables false

section
variable (bp : Nat) (s : ByteArray) (i : Nat) (ns : List Nd) (up : Option Nat) (key : List UInt8) (at0 dp : Nat) (w : World)

set_option maxRecDepth 4000 in
set_option maxHeartbeats 1000000 in
theorem rval_arr (d : Nat) (hv : ValC d (dp + 1)) (hdp : dp < 32) (hs : s.size ≤ 65536) (h : RN bp s i ns 0 at0 dp w) (hi : i < s.size) (hc : s[i] = 91) (hl : ns.length ≤ i) (hw : WFk ns) (hup : ∀ u, up = some u → u < ns.length) :
    Calls Tryd.prog 12 #[.pointer (some ⟨bp, 0, none⟩), .int .i64 (upV up), .string ⟨key.toArray⟩] w fun r w' => r = .returned (.tuple #[]) ∧ VP bp s i ns up key at0 dp (valL (d + 1) (sfx s i) i) w' ∧ Below bp w w' := by
  obtain ⟨vL, h1, h2⟩ := h
  have HR : Hid (valL (d + 1) (sfx s i) i = arrL (valL d) (sfx s i) i) := by
    show valL (d + 1) (sfx s i) i = arrL (valL d) (sfx s i) i
    rw [sfx_cons s i hi, valL_cons]; simp [hc, isD]
  have har := fun w' (h' : RN bp s i ns 0 at0 (dp + 1) w') => rarray bp s i ns up key at0 (dp + 1) w' d hv hs h' hi hc hl hw hup
  have hi' : (i : Int) < (s.size : Int) := by omega
  have hif : decide ((s.size : Int) ≤ (i : Int)) = false := by simp; omega
  have hcb : ((s[i].toNat : Int) == 91) = true := by rw [hc]; rfl
  have hdg : ∀ w, Calls Tryd.prog 22 #[.int .u8 91] w fun e w' => e = .returned (.bool false) ∧ w' = w := rdigit 91
  have hdd : decide ((32 : Int) ≤ (dp : Int)) = false := by simp; omega
  have hdb : (dp : Int) ≤ 32 := by omega
  have hlt := h1.lt
  have HN : Hid (Nodes (bp + 1) 49 vL ns w) := h2
  clear h2 hl hup hdp
  obtain ⟨c0, c1, c2, c3, c4, c5, cf⟩ := h1.cell
  go_enter Tryd.func12, Tryd.ntmps12
  go_wp2_with fail
  go_quiet (fail)
  have h3 := h1.drewN nq
  have O3 : Hid (Onl bp w (w.drewN nq)) := Onl.drewN (onl_refl bp w) nq
  generalize w.drewN nq = w3 at h3 O3
  clear c0 c1 c2 c3 c4 c5 cf nq h1
  obtain ⟨c0, c1, c2, c3, c4, c5, cf⟩ := h3.cell
  go_wp2_with fail
  go_quiet (fail)
  have h4 := h3.drewN nq
  have O4 : Hid (Onl bp w (w3.drewN nq)) := Onl.drewN O3.out nq
  generalize w3.drewN nq = w4 at h4 O4
  clear c0 c1 c2 c3 c4 c5 cf nq h3 O3 w3
  go_wp2_with fail
  refine (hdg _).mono ?_
  rintro e w4' ⟨rfl, hw4⟩
  rw [hw4]; clear hw4 w4'
  obtain ⟨c0, c1, c2, c3, c4, c5, cf⟩ := h4.cell
  have f5 := cf 5
  have h5 := h4.setD (dp + 1)
  have o5 : Onl bp w (w4.setCell ⟨bp, 5, none⟩ (.int .i64 ((dp + 1 : Nat) : Int))) := Onl.setCell O4.out _ h4
  have ha := har _ ⟨vL, h5, HN.out.onl o5 (by omega)⟩
  have O5 : Hid (Onl bp w (w4.setCell ⟨bp, 5, none⟩ (.int .i64 ((dp + 1 : Nat) : Int)))) := o5
  rw [show ((dp + 1 : Nat) : Int) = (dp : Int) + 1 by omega] at ha O5
  clear h5 o5 har
  go_wp2_with fail
  refine ha.mono ?_
  rintro e w6 ⟨rfl, h6, b6⟩
  have B6 : Hid (Below bp w w6) := (onl_bel O5.out hlt).trans b6
  clear ha b6 O5 c0 c1 c2 c3 c4 c5 cf f5 h4 O4
  cases hA : arrL (valL d) (sfx s i) i with
  | ok q =>
    obtain ⟨t, n⟩ := q
    rw [hA] at h6
    have HA : Hid _ := hA
    clear hA
    obtain ⟨v6, r6, n6⟩ := h6
    obtain ⟨c0, c1, c2, c3, c4, c5, cf⟩ := r6.cell
    have f5 := cf 5
    rw [show ((dp + 1 : Nat) : Int) = (dp : Int) + 1 by omega] at c5
    have h7 := r6.setD dp
    have o7 : Onl bp w6 (w6.setCell ⟨bp, 5, none⟩ (.int .i64 (dp : Int))) := Onl.setCell (onl_refl bp w6) _ r6
    have n7 := n6.onl o7 (by omega)
    have H7 : Hid _ := And.intro h7 (And.intro n7 (onl_bel o7 r6.lt))
    have hsub : (dp : Int) + 1 - 1 = (dp : Int) := by omega
    clear h7 o7 n7 n6
    go_wp2
    go_end0
    refine ⟨rfl, ?_, B6.out.trans H7.out.2.2⟩
    rw [HR.out, HA.out]
    exact ⟨v6, H7.out.1, H7.out.2.1⟩
  | error q =>
    obtain ⟨er, a⟩ := q
    rw [hA] at h6
    have HA : Hid _ := hA
    clear hA
    obtain ⟨he, j, v6, r6⟩ := h6
    obtain ⟨c0, c1, c2, c3, c4, c5, cf⟩ := r6.cell
    have f5 := cf 5
    rw [show ((dp + 1 : Nat) : Int) = (dp : Int) + 1 by omega] at c5
    have h7 := r6.setD dp
    have o7 : Onl bp w6 (w6.setCell ⟨bp, 5, none⟩ (.int .i64 (dp : Int))) := Onl.setCell (onl_refl bp w6) _ r6
    have H7 : Hid _ := And.intro h7 (onl_bel o7 r6.lt)
    have hsub : (dp : Int) + 1 - 1 = (dp : Int) := by omega
    clear h7 o7
    go_wp2
    go_end0
    refine ⟨rfl, ?_, B6.out.trans H7.out.2⟩
    rw [HR.out, HA.out]
    exact ⟨he, j, v6, H7.out.1⟩
set_option maxRecDepth 4000 in
set_option maxHeartbeats 1000000 in
theorem rval_obj (d : Nat) (hv : ValC d (dp + 1)) (hdp : dp < 32) (hs : s.size ≤ 65536) (h : RN bp s i ns 0 at0 dp w) (hi : i < s.size) (hc : s[i] = 123) (hl : ns.length ≤ i) (hw : WFk ns) (hup : ∀ u, up = some u → u < ns.length) :
    Calls Tryd.prog 12 #[.pointer (some ⟨bp, 0, none⟩), .int .i64 (upV up), .string ⟨key.toArray⟩] w fun r w' => r = .returned (.tuple #[]) ∧ VP bp s i ns up key at0 dp (valL (d + 1) (sfx s i) i) w' ∧ Below bp w w' := by
  obtain ⟨vL, h1, h2⟩ := h
  have HR : Hid (valL (d + 1) (sfx s i) i = objL (valL d) (sfx s i) i) := by
    show valL (d + 1) (sfx s i) i = objL (valL d) (sfx s i) i
    rw [sfx_cons s i hi, valL_cons]; simp [hc, isD]
  have har := fun w' (h' : RN bp s i ns 0 at0 (dp + 1) w') => robject bp s i ns up key at0 (dp + 1) w' d hv hs h' hi hc hl hw hup
  have hi' : (i : Int) < (s.size : Int) := by omega
  have hif : decide ((s.size : Int) ≤ (i : Int)) = false := by simp; omega
  have hcb : ((s[i].toNat : Int) == 123) = true := by rw [hc]; rfl
  have hdg : ∀ w, Calls Tryd.prog 22 #[.int .u8 123] w fun e w' => e = .returned (.bool false) ∧ w' = w := rdigit 123
  have hdd : decide ((32 : Int) ≤ (dp : Int)) = false := by simp; omega
  have hdb : (dp : Int) ≤ 32 := by omega
  have hlt := h1.lt
  have HN : Hid (Nodes (bp + 1) 49 vL ns w) := h2
  clear h2 hl hup hdp
  obtain ⟨c0, c1, c2, c3, c4, c5, cf⟩ := h1.cell
  go_enter Tryd.func12, Tryd.ntmps12
  go_wp2_with fail
  go_quiet (fail)
  have h3 := h1.drewN nq
  have O3 : Hid (Onl bp w (w.drewN nq)) := Onl.drewN (onl_refl bp w) nq
  generalize w.drewN nq = w3 at h3 O3
  clear c0 c1 c2 c3 c4 c5 cf nq h1
  obtain ⟨c0, c1, c2, c3, c4, c5, cf⟩ := h3.cell
  go_wp2_with fail
  go_quiet (fail)
  have h4 := h3.drewN nq
  have O4 : Hid (Onl bp w (w3.drewN nq)) := Onl.drewN O3.out nq
  generalize w3.drewN nq = w4 at h4 O4
  clear c0 c1 c2 c3 c4 c5 cf nq h3 O3 w3
  go_wp2_with fail
  refine (hdg _).mono ?_
  rintro e w4' ⟨rfl, hw4⟩
  rw [hw4]; clear hw4 w4'
  obtain ⟨c0, c1, c2, c3, c4, c5, cf⟩ := h4.cell
  have f5 := cf 5
  have h5 := h4.setD (dp + 1)
  have o5 : Onl bp w (w4.setCell ⟨bp, 5, none⟩ (.int .i64 ((dp + 1 : Nat) : Int))) := Onl.setCell O4.out _ h4
  have ha := har _ ⟨vL, h5, HN.out.onl o5 (by omega)⟩
  have O5 : Hid (Onl bp w (w4.setCell ⟨bp, 5, none⟩ (.int .i64 ((dp + 1 : Nat) : Int)))) := o5
  rw [show ((dp + 1 : Nat) : Int) = (dp : Int) + 1 by omega] at ha O5
  clear h5 o5 har
  go_wp2_with fail
  refine ha.mono ?_
  rintro e w6 ⟨rfl, h6, b6⟩
  have B6 : Hid (Below bp w w6) := (onl_bel O5.out hlt).trans b6
  clear ha b6 O5 c0 c1 c2 c3 c4 c5 cf f5 h4 O4
  cases hA : objL (valL d) (sfx s i) i with
  | ok q =>
    obtain ⟨t, n⟩ := q
    rw [hA] at h6
    have HA : Hid _ := hA
    clear hA
    obtain ⟨v6, r6, n6⟩ := h6
    obtain ⟨c0, c1, c2, c3, c4, c5, cf⟩ := r6.cell
    have f5 := cf 5
    rw [show ((dp + 1 : Nat) : Int) = (dp : Int) + 1 by omega] at c5
    have h7 := r6.setD dp
    have o7 : Onl bp w6 (w6.setCell ⟨bp, 5, none⟩ (.int .i64 (dp : Int))) := Onl.setCell (onl_refl bp w6) _ r6
    have n7 := n6.onl o7 (by omega)
    have H7 : Hid _ := And.intro h7 (And.intro n7 (onl_bel o7 r6.lt))
    have hsub : (dp : Int) + 1 - 1 = (dp : Int) := by omega
    clear h7 o7 n7 n6
    go_wp2
    go_end0
    refine ⟨rfl, ?_, B6.out.trans H7.out.2.2⟩
    rw [HR.out, HA.out]
    exact ⟨v6, H7.out.1, H7.out.2.1⟩
  | error q =>
    obtain ⟨er, a⟩ := q
    rw [hA] at h6
    have HA : Hid _ := hA
    clear hA
    obtain ⟨he, j, v6, r6⟩ := h6
    obtain ⟨c0, c1, c2, c3, c4, c5, cf⟩ := r6.cell
    have f5 := cf 5
    rw [show ((dp + 1 : Nat) : Int) = (dp : Int) + 1 by omega] at c5
    have h7 := r6.setD dp
    have o7 : Onl bp w6 (w6.setCell ⟨bp, 5, none⟩ (.int .i64 (dp : Int))) := Onl.setCell (onl_refl bp w6) _ r6
    have H7 : Hid _ := And.intro h7 (onl_bel o7 r6.lt)
    have hsub : (dp : Int) + 1 - 1 = (dp : Int) := by omega
    clear h7 o7
    go_wp2
    go_end0
    refine ⟨rfl, ?_, B6.out.trans H7.out.2⟩
    rw [HR.out, HA.out]
    exact ⟨he, j, v6, H7.out.1⟩
end

/-- value, by how deep it may go. -/
theorem rvalue : ∀ (d : Nat), d ≤ 32 → ValC d (32 - d) := by
  intro d
  induction d with
  | zero =>
    intro _ bp s i ns up key at0 w hs h hl hw hup
    by_cases hi : i < s.size
    · have hl2 : ns.length ≤ 1000000 := by omega
      by_cases h34 : s[i] = 34
      · exact rval_str bp s i ns up key at0 32 w hs h hi h34 hl2 hw hup 0
      by_cases h45 : s[i] = 45
      · exact rval_minus bp s i ns up key at0 32 w hs h hi h45 hl2 hw hup 0
      cases hd : isD s[i] with
      | true => exact rval_digit bp s i ns up key at0 32 w hs h hi h45 hd hl2 hw hup 0
      | false =>
        by_cases hwd : s[i] = 116 ∨ s[i] = 102 ∨ s[i] = 110
        · exact rval_word bp s i ns up key at0 32 w hs h hi hwd hl2 hw hup 0
        by_cases hbr : s[i] = 91 ∨ s[i] = 123
        · exact rval_deep bp s i ns up key at0 w hs h hi hbr
        · exact rval_other bp s i ns up key at0 32 w hs h hi h34 h45 hd (fun e => hwd (.inl e)) (fun e => hwd (.inr (.inl e))) (fun e => hwd (.inr (.inr e))) (fun e => hbr (.inl e)) (fun e => hbr (.inr e)) 0
    · exact rval_end bp s i ns up key at0 32 w hs h (by omega) 0
  | succ d ih =>
    intro hd32 bp s i ns up key at0 w hs h hl hw hup
    have hv : ValC d (32 - (d + 1) + 1) := by rw [show 32 - (d + 1) + 1 = 32 - d by omega]; exact ih (by omega)
    by_cases hi : i < s.size
    · have hl2 : ns.length ≤ 1000000 := by omega
      by_cases h34 : s[i] = 34
      · exact rval_str bp s i ns up key at0 _ w hs h hi h34 hl2 hw hup _
      by_cases h45 : s[i] = 45
      · exact rval_minus bp s i ns up key at0 _ w hs h hi h45 hl2 hw hup _
      cases hd : isD s[i] with
      | true => exact rval_digit bp s i ns up key at0 _ w hs h hi h45 hd hl2 hw hup _
      | false =>
        by_cases hwd : s[i] = 116 ∨ s[i] = 102 ∨ s[i] = 110
        · exact rval_word bp s i ns up key at0 _ w hs h hi hwd hl2 hw hup _
        by_cases h91 : s[i] = 91
        · exact rval_arr bp s i ns up key at0 _ w d hv (by omega) hs h hi h91 hl hw hup
        by_cases h123 : s[i] = 123
        · exact rval_obj bp s i ns up key at0 _ w d hv (by omega) hs h hi h123 hl hw hup
        · exact rval_other bp s i ns up key at0 _ w hs h hi h34 h45 hd (fun e => hwd (.inl e)) (fun e => hwd (.inr (.inl e))) (fun e => hwd (.inr (.inr e))) h91 h123 _
    · exact rval_end bp s i ns up key at0 _ w hs h (by omega) _
end Go.Proofs.YtaghclgookfmnaaDoor
