import Derived.Test.YtaghclgookfmnaaDoorJState
/-
  The document's reader: value: integers, what is no value, too deep.
-/
namespace Go.Proofs.YtaghclgookfmnaaDoor
open Go.RowKit
set_option linter.unusedVariables false
theorem intL_err {l : List UInt8} {e o : Nat} (h : intL l = .error (e, o)) : 0 < e := by
  have key : ∀ (m : Nat) (c1 c2 : Prop) [Decidable c1] [Decidable c2] (x : Int × Nat), (if c1 then Except.error (2, m) else if c2 then .error (3, 0) else .ok x : Except (Nat × Nat) (Int × Nat)) = .error (e, o) → 0 < e := by
    intro m c1 c2 _ _ x hx
    split at hx
    · injection hx with hx; injection hx with h1 h2; omega
    · split at hx
      · injection hx with hx; injection hx with h1 h2; omega
      · cases hx
  exact key _ _ _ _ h
section
variable (bp : Nat) (s : ByteArray) (i : Nat) (ns : List Nd) (up : Option Nat) (key : List UInt8) (at0 dp : Nat) (w : World)

set_option maxRecDepth 4000 in
set_option maxHeartbeats 1000000 in
theorem rval_minus (hs : s.size ≤ 65536) (h : RN bp s i ns 0 at0 dp w) (hi : i < s.size) (hc : s[i] = 45) (hl : ns.length ≤ 1000000) (hw : WFk ns) (hup : ∀ u, up = some u → u < ns.length) (d : Nat) :
    Calls Tryd.prog 12 #[.pointer (some ⟨bp, 0, none⟩), .int .i64 (upV up), .string ⟨key.toArray⟩] w fun r w' => r = .returned (.tuple #[]) ∧ VP bp s i ns up key at0 dp (valL d (sfx s i) i) w' ∧ Below bp w w' := by
  obtain ⟨vL, h1, h2⟩ := h
  have hR : valL d (sfx s i) i = (match intL (sfx s i) with | .error (e, o) => .error (e, i + o) | .ok (n, k) => .ok (.int n i, k)) := by
    rw [sfx_cons s i hi, valL_cons, if_neg (by rw [hc]; decide), if_pos (by left; exact hc)]; rfl
  have HR : Hid _ := hR
  have hq := fun w' (h' : RD bp s i vL 0 at0 dp w') => rinteger bp s i vL at0 dp w' (by omega) h' hi
  have hi' : (i : Int) < (s.size : Int) := by omega
  have hif : decide ((s.size : Int) ≤ (i : Int)) = false := by simp; omega
  have hcb : ((s[i].toNat : Int) == 45) = true := by rw [hc]; rfl
  clear hR
  have hlt := h1.lt
  have HN : Hid (Nodes (bp + 1) 49 vL ns w) := h2
  clear h2
  obtain ⟨c0, c1, c2, c3, c4, c5, cf⟩ := h1.cell
  go_enter Tryd.func12, Tryd.ntmps12
  go_wp2_with fail
  go_quiet (fail)
  have h3 := h1.drewN nq
  have O3 : Hid (Onl bp w (w.drewN nq)) := Onl.drewN (onl_refl bp w) nq
  generalize w.drewN nq = w3 at h3 O3
  clear c0 c1 c2 c3 c4 c5 cf nq h1
  obtain ⟨c0, c1, c2, c3, c4, c5, cf⟩ := h3.cell
  go_wp2_with fail
  go_quiet (fail)
  have h4 := h3.drewN nq
  have O4 : Hid (Onl bp w (w3.drewN nq)) := Onl.drewN O3.out nq
  generalize w3.drewN nq = w4 at h4 O4
  clear c0 c1 c2 c3 c4 c5 cf nq h3 O3 w3
  cases hQ : intL (sfx s i) with
  | ok q =>
    obtain ⟨m, n⟩ := q
    rw [hQ] at hq
    have HR2 : Hid (valL d (sfx s i) i = .ok (.int m i, n)) := by have := HR.out; rw [hQ] at this; exact this
    clear hQ HR
    go_wp2_with fail
    refine (hq _ h4).mono ?_
    rintro e w5 ⟨⟨rfl, h5⟩, o5⟩
    have O5 : Hid (Onl bp w w5) := Onl.trans O4.out o5
    have hN5 : Nodes (bp + 1) 49 vL ns w5 := HN.out.onl O5.out (by omega)
    have ha := radd bp s (i + n) 0 at0 dp ns up ⟨2, key, [], m, [], i⟩ w5 ⟨vL, h5, hN5⟩ rfl hl hw hup
    unfold ndV at ha
    clear o5 hq h4 O4 h5 hN5 hl hup
    go_wp2_with fail
    refine ha.mono ?_
    rintro e w6 ⟨rfl, h6, hb6⟩
    have H6 : Hid _ := h6
    have B6 : Hid (Below bp w w6) := (onl_bel O5.out hlt).trans hb6
    clear h6 hb6 ha
    go_wp2
    go_end0
    refine ⟨rfl, ?_, B6.out⟩
    rw [HR2.out]
    exact H6.out
  | error q =>
    obtain ⟨er, o⟩ := q
    rw [hQ] at hq
    have HE : Hid (0 < er) := intL_err hQ
    have HR2 : Hid (valL d (sfx s i) i = .error (er, i + o)) := by have := HR.out; rw [hQ] at this; exact this
    clear hQ HR
    go_wp2_with fail
    refine (hq _ h4).mono ?_
    rintro e w5 ⟨⟨⟨m, rfl⟩, j, h5⟩, o5⟩
    have O5 : Hid (Onl bp w w5) := Onl.trans O4.out o5
    have hN5 : Nodes (bp + 1) 49 vL ns w5 := HN.out.onl O5.out (by omega)
    have ha := radd bp s j er (i + o) dp ns up ⟨2, key, [], m, [], i⟩ w5 ⟨vL, h5, hN5⟩ rfl hl hw hup
    unfold ndV at ha
    clear o5 hq h4 O4 h5 hN5 hl hup
    go_wp2_with fail
    refine ha.mono ?_
    rintro e w6 ⟨rfl, ⟨v6, h6, _⟩, hb6⟩
    have H6 : Hid _ := h6
    have B6 : Hid (Below bp w w6) := (onl_bel O5.out hlt).trans hb6
    clear h6 hb6 ha
    go_wp2
    go_end0
    refine ⟨rfl, ?_, B6.out⟩
    rw [HR2.out]
    exact ⟨HE.out, _, _, H6.out⟩

set_option maxRecDepth 4000 in
set_option maxHeartbeats 1000000 in
theorem rval_digit (hs : s.size ≤ 65536) (h : RN bp s i ns 0 at0 dp w) (hi : i < s.size) (hc : s[i] ≠ 45) (hd : isD s[i] = true) (hl : ns.length ≤ 1000000) (hw : WFk ns) (hup : ∀ u, up = some u → u < ns.length) (d : Nat) :
    Calls Tryd.prog 12 #[.pointer (some ⟨bp, 0, none⟩), .int .i64 (upV up), .string ⟨key.toArray⟩] w fun r w' => r = .returned (.tuple #[]) ∧ VP bp s i ns up key at0 dp (valL d (sfx s i) i) w' ∧ Below bp w w' := by
  obtain ⟨vL, h1, h2⟩ := h
  obtain ⟨hd1, hd2⟩ := (isD_iff _).1 hd
  have h34 : s[i] ≠ 34 := fun e => by rw [e] at hd1; revert hd1; decide
  have hR : valL d (sfx s i) i = (match intL (sfx s i) with | .error (e, o) => .error (e, i + o) | .ok (n, k) => .ok (.int n i, k)) := by
    rw [sfx_cons s i hi, valL_cons, if_neg h34, if_pos (by right; exact hd)]; rfl
  have HR : Hid _ := hR
  have hq := fun w' (h' : RD bp s i vL 0 at0 dp w') => rinteger bp s i vL at0 dp w' (by omega) h' hi
  have hdg := rdigit s[i]
  rw [hd] at hdg
  have hi' : (i : Int) < (s.size : Int) := by omega
  have hif : decide ((s.size : Int) ≤ (i : Int)) = false := by simp; omega
  have n34 : ((s[i].toNat : Int) == 34) = false := u8_ne (k := 34) (by omega) h34
  have n45 : ((s[i].toNat : Int) == 45) = false := u8_ne (k := 45) (by omega) hc
  have HNN : Hid _ := And.intro n34 n45
  clear hR hd hd1 hd2 n34 n45 h34 hc
  have hlt := h1.lt
  have HN : Hid (Nodes (bp + 1) 49 vL ns w) := h2
  clear h2
  obtain ⟨c0, c1, c2, c3, c4, c5, cf⟩ := h1.cell
  go_enter Tryd.func12, Tryd.ntmps12
  go_wp2_with fail
  go_quiet (fail)
  have h3 := h1.drewN nq
  have O3 : Hid (Onl bp w (w.drewN nq)) := Onl.drewN (onl_refl bp w) nq
  generalize w.drewN nq = w3 at h3 O3
  clear c0 c1 c2 c3 c4 c5 cf nq h1
  obtain ⟨c0, c1, c2, c3, c4, c5, cf⟩ := h3.cell
  go_wp2_with fail
  go_quiet (fail)
  have h4 := h3.drewN nq
  have O4 : Hid (Onl bp w (w3.drewN nq)) := Onl.drewN O3.out nq
  generalize w3.drewN nq = w4 at h4 O4
  clear c0 c1 c2 c3 c4 c5 cf nq h3 O3 w3
  obtain ⟨n34, n45⟩ := HNN.out
  go_wp2_with fail
  refine (hdg _).mono ?_
  rintro e w4' ⟨rfl, hw4⟩
  rw [hw4]; clear hw4 w4'
  clear n34 n45 hdg
  cases hQ : intL (sfx s i) with
  | ok q =>
    obtain ⟨m, n⟩ := q
    rw [hQ] at hq
    have HR2 : Hid (valL d (sfx s i) i = .ok (.int m i, n)) := by have := HR.out; rw [hQ] at this; exact this
    clear hQ HR
    go_wp2_with fail
    refine (hq _ h4).mono ?_
    rintro e w5 ⟨⟨rfl, h5⟩, o5⟩
    have O5 : Hid (Onl bp w w5) := Onl.trans O4.out o5
    have hN5 : Nodes (bp + 1) 49 vL ns w5 := HN.out.onl O5.out (by omega)
    have ha := radd bp s (i + n) 0 at0 dp ns up ⟨2, key, [], m, [], i⟩ w5 ⟨vL, h5, hN5⟩ rfl hl hw hup
    unfold ndV at ha
    clear o5 hq h4 O4 h5 hN5 hl hup
    go_wp2_with fail
    refine ha.mono ?_
    rintro e w6 ⟨rfl, h6, hb6⟩
    have H6 : Hid _ := h6
    have B6 : Hid (Below bp w w6) := (onl_bel O5.out hlt).trans hb6
    clear h6 hb6 ha
    go_wp2
    go_end0
    refine ⟨rfl, ?_, B6.out⟩
    rw [HR2.out]
    exact H6.out
  | error q =>
    obtain ⟨er, o⟩ := q
    rw [hQ] at hq
    have HE : Hid (0 < er) := intL_err hQ
    have HR2 : Hid (valL d (sfx s i) i = .error (er, i + o)) := by have := HR.out; rw [hQ] at this; exact this
    clear hQ HR
    go_wp2_with fail
    refine (hq _ h4).mono ?_
    rintro e w5 ⟨⟨⟨m, rfl⟩, j, h5⟩, o5⟩
    have O5 : Hid (Onl bp w w5) := Onl.trans O4.out o5
    have hN5 : Nodes (bp + 1) 49 vL ns w5 := HN.out.onl O5.out (by omega)
    have ha := radd bp s j er (i + o) dp ns up ⟨2, key, [], m, [], i⟩ w5 ⟨vL, h5, hN5⟩ rfl hl hw hup
    unfold ndV at ha
    clear o5 hq h4 O4 h5 hN5 hl hup
    go_wp2_with fail
    refine ha.mono ?_
    rintro e w6 ⟨rfl, ⟨v6, h6, _⟩, hb6⟩
    have H6 : Hid _ := h6
    have B6 : Hid (Below bp w w6) := (onl_bel O5.out hlt).trans hb6
    clear h6 hb6 ha
    go_wp2
    go_end0
    refine ⟨rfl, ?_, B6.out⟩
    rw [HR2.out]
    exact ⟨HE.out, _, _, H6.out⟩

set_option maxRecDepth 4000 in
set_option maxHeartbeats 1000000 in
theorem rval_end (hs : s.size ≤ 65536) (h : RN bp s i ns 0 at0 dp w) (hi : s.size ≤ i) (d : Nat) :
    Calls Tryd.prog 12 #[.pointer (some ⟨bp, 0, none⟩), .int .i64 (upV up), .string ⟨key.toArray⟩] w fun r w' => r = .returned (.tuple #[]) ∧ VP bp s i ns up key at0 dp (valL d (sfx s i) i) w' ∧ Below bp w w' := by
  obtain ⟨vL, h1, h2⟩ := h
  have HR : Hid (valL d (sfx s i) i = .error (2, i)) := by rw [sfx_nil s i hi]; exact valL_nil d i
  have hi' : (s.size : Int) ≤ (i : Int) := by omega
  have hlt := h1.lt
  have HN : Hid (Nodes (bp + 1) 49 vL ns w) := h2
  clear h2
  obtain ⟨c0, c1, c2, c3, c4, c5, cf⟩ := h1.cell
  go_enter Tryd.func12, Tryd.ntmps12
  go_wp2_with fail
  go_quiet (fail)
  have h3 := h1.drewN nq
  have O3 : Hid (Onl bp w (w.drewN nq)) := Onl.drewN (onl_refl bp w) nq
  generalize w.drewN nq = w3 at h3 O3
  clear c0 c1 c2 c3 c4 c5 cf nq h1
  obtain ⟨c0, c1, c2, c3, c4, c5, cf⟩ := h3.cell
  have hfa : Calls Tryd.prog 13 #[.pointer (some ⟨bp, 0, none⟩), .int .i64 2, .int .i64 (i : Int)] w3 fun r w' => r = .returned (.tuple #[]) ∧ RD bp s i vL 2 i dp w' ∧ Onl bp w3 w' := rfail0 bp s i vL at0 dp 2 i _ h3
  go_wp2_with fail
  refine hfa.mono ?_
  rintro e w7 ⟨rfl, h7, o7⟩
  have H7 : Hid (RD bp s i vL 2 i dp w7) := h7
  have O7 : Hid (Onl bp w w7) := Onl.trans O3.out o7
  clear o7 hfa
  clear c0 c1 c2 c3 c4 c5 cf
  obtain ⟨c0, c1, c2, c3, c4, c5, cf⟩ := h7.cell
  go_wp2
  refine bodyPost_ret (results_none rfl _ _ _) rfl ?_
  refine ⟨rfl, ?_, onl_bel O7.out hlt⟩
  rw [HR.out]
  exact ⟨by omega, _, _, H7.out⟩

set_option maxRecDepth 4000 in
set_option maxHeartbeats 1000000 in
theorem rval_other (hs : s.size ≤ 65536) (h : RN bp s i ns 0 at0 dp w) (hi : i < s.size) (h34 : s[i] ≠ 34) (h45 : s[i] ≠ 45) (hd : isD s[i] = false) (h116 : s[i] ≠ 116) (h102 : s[i] ≠ 102) (h110 : s[i] ≠ 110) (h91 : s[i] ≠ 91) (h123 : s[i] ≠ 123) (d : Nat) :
    Calls Tryd.prog 12 #[.pointer (some ⟨bp, 0, none⟩), .int .i64 (upV up), .string ⟨key.toArray⟩] w fun r w' => r = .returned (.tuple #[]) ∧ VP bp s i ns up key at0 dp (valL d (sfx s i) i) w' ∧ Below bp w w' := by
  obtain ⟨vL, h1, h2⟩ := h
  have HR : Hid (valL d (sfx s i) i = .error (2, i)) := by
    show valL d (sfx s i) i = .error (2, i)
    rw [sfx_cons s i hi, valL_cons, if_neg h34, if_neg (by simp [h45, hd]), if_neg (by simp [h116, h102, h110]), if_neg (by simp [h91, h123])]
  have hdg := rdigit s[i]
  rw [hd] at hdg
  have hi' : (i : Int) < (s.size : Int) := by omega
  have hif : decide ((s.size : Int) ≤ (i : Int)) = false := by simp; omega
  have n34 : ((s[i].toNat : Int) == 34) = false := u8_ne (k := 34) (by omega) h34
  have n45 : ((s[i].toNat : Int) == 45) = false := u8_ne (k := 45) (by omega) h45
  have n116 : ((s[i].toNat : Int) == 116) = false := u8_ne (k := 116) (by omega) h116
  have n102 : ((s[i].toNat : Int) == 102) = false := u8_ne (k := 102) (by omega) h102
  have n110 : ((s[i].toNat : Int) == 110) = false := u8_ne (k := 110) (by omega) h110
  have n91 : ((s[i].toNat : Int) == 91) = false := u8_ne (k := 91) (by omega) h91
  have n123 : ((s[i].toNat : Int) == 123) = false := u8_ne (k := 123) (by omega) h123
  have HNN : Hid _ := And.intro n34 (And.intro n45 (And.intro n116 (And.intro n102 (And.intro n110 (And.intro n91 n123)))))
  clear n34 n45 n116 n102 n110 n91 n123 h34 h45 h116 h102 h110 h91 h123 hd
  have hlt := h1.lt
  have HN : Hid (Nodes (bp + 1) 49 vL ns w) := h2
  clear h2
  obtain ⟨c0, c1, c2, c3, c4, c5, cf⟩ := h1.cell
  go_enter Tryd.func12, Tryd.ntmps12
  go_wp2_with fail
  go_quiet (fail)
  have h3 := h1.drewN nq
  have O3 : Hid (Onl bp w (w.drewN nq)) := Onl.drewN (onl_refl bp w) nq
  generalize w.drewN nq = w3 at h3 O3
  clear c0 c1 c2 c3 c4 c5 cf nq h1
  obtain ⟨c0, c1, c2, c3, c4, c5, cf⟩ := h3.cell
  go_wp2_with fail
  go_quiet (fail)
  have h4 := h3.drewN nq
  have O4 : Hid (Onl bp w (w3.drewN nq)) := Onl.drewN O3.out nq
  generalize w3.drewN nq = w4 at h4 O4
  clear c0 c1 c2 c3 c4 c5 cf nq h3 O3 w3
  obtain ⟨c0, c1, c2, c3, c4, c5, cf⟩ := h4.cell
  obtain ⟨n34, n45, n116, n102, n110, n91, n123⟩ := HNN.out
  go_wp2_with fail
  refine (hdg _).mono ?_
  rintro e w4' ⟨rfl, hw4⟩
  rw [hw4]; clear hw4 w4'
  have hfa : Calls Tryd.prog 13 #[.pointer (some ⟨bp, 0, none⟩), .int .i64 2, .int .i64 (i : Int)] w4 fun r w' => r = .returned (.tuple #[]) ∧ RD bp s i vL 2 i dp w' ∧ Onl bp w4 w' := rfail0 bp s i vL at0 dp 2 i _ h4
  go_wp2_with fail
  refine hfa.mono ?_
  rintro e w7 ⟨rfl, h7, o7⟩
  have H7 : Hid (RD bp s i vL 2 i dp w7) := h7
  have O7 : Hid (Onl bp w w7) := Onl.trans O4.out o7
  clear o7 hfa
  clear c0 c1 c2 c3 c4 c5 cf n34 n45 n116 n102 n110 n91 n123
  go_wp2
  go_end0
  refine ⟨rfl, ?_, onl_bel O7.out hlt⟩
  rw [HR.out]
  exact ⟨by omega, _, _, H7.out⟩

set_option maxRecDepth 4000 in
set_option maxHeartbeats 1000000 in
theorem rval_deep (hs : s.size ≤ 65536) (h : RN bp s i ns 0 at0 32 w) (hi : i < s.size) (hc : s[i] = 91 ∨ s[i] = 123) :
    Calls Tryd.prog 12 #[.pointer (some ⟨bp, 0, none⟩), .int .i64 (upV up), .string ⟨key.toArray⟩] w fun r w' => r = .returned (.tuple #[]) ∧ VP bp s i ns up key at0 32 (valL 0 (sfx s i) i) w' ∧ Below bp w w' := by
  obtain ⟨vL, h1, h2⟩ := h
  have hd : isD s[i] = false := by rcases hc with e | e <;> rw [e] <;> rfl
  have HR : Hid (valL 0 (sfx s i) i = .error (5, i)) := by
    show valL 0 (sfx s i) i = .error (5, i)
    rw [sfx_cons s i hi, valL_cons, if_neg (by rcases hc with e | e <;> rw [e] <;> decide), if_neg (by rw [hd]; rcases hc with e | e <;> rw [e] <;> decide), if_neg (by rcases hc with e | e <;> rw [e] <;> decide), if_pos hc]
  have hi' : (i : Int) < (s.size : Int) := by omega
  have hif : decide ((s.size : Int) ≤ (i : Int)) = false := by simp; omega
  have hlt := h1.lt
  rcases hc with hc | hc
  · have hcb : ((s[i].toNat : Int) == 91) = true := by rw [hc]; rfl
    have hdg : ∀ w, Calls Tryd.prog 22 #[.int .u8 91] w fun e w' => e = .returned (.bool false) ∧ w' = w := rdigit 91
    have HN : Hid (Nodes (bp + 1) 49 vL ns w) := h2
    clear h2
    obtain ⟨c0, c1, c2, c3, c4, c5, cf⟩ := h1.cell
    go_enter Tryd.func12, Tryd.ntmps12
    go_wp2_with fail
    go_quiet (fail)
    have h3 := h1.drewN nq
    have O3 : Hid (Onl bp w (w.drewN nq)) := Onl.drewN (onl_refl bp w) nq
    generalize w.drewN nq = w3 at h3 O3
    clear c0 c1 c2 c3 c4 c5 cf nq h1
    obtain ⟨c0, c1, c2, c3, c4, c5, cf⟩ := h3.cell
    go_wp2_with fail
    go_quiet (fail)
    have h4 := h3.drewN nq
    have O4 : Hid (Onl bp w (w3.drewN nq)) := Onl.drewN O3.out nq
    generalize w3.drewN nq = w4 at h4 O4
    clear c0 c1 c2 c3 c4 c5 cf nq h3 O3 w3
    obtain ⟨c0, c1, c2, c3, c4, c5, cf⟩ := h4.cell
    go_wp2_with fail
    refine (hdg _).mono ?_
    rintro e w4' ⟨rfl, hw4⟩
    rw [hw4]; clear hw4 w4'
    have hfa : Calls Tryd.prog 13 #[.pointer (some ⟨bp, 0, none⟩), .int .i64 5, .int .i64 (i : Int)] w4 fun r w' => r = .returned (.tuple #[]) ∧ RD bp s i vL 5 i 32 w' ∧ Onl bp w4 w' := rfail0 bp s i vL at0 32 5 i _ h4
    go_wp2_with fail
    refine hfa.mono ?_
    rintro e w7 ⟨rfl, h7, o7⟩
    have H7 : Hid (RD bp s i vL 5 i 32 w7) := h7
    have O7 : Hid (Onl bp w w7) := Onl.trans O4.out o7
    clear o7 hfa
    go_wp2
    refine bodyPost_ret (results_none rfl _ _ _) rfl ?_
    refine ⟨rfl, ?_, onl_bel O7.out hlt⟩
    rw [HR.out]
    exact ⟨by omega, _, _, H7.out⟩
  · have hcb : ((s[i].toNat : Int) == 123) = true := by rw [hc]; rfl
    have hdg : ∀ w, Calls Tryd.prog 22 #[.int .u8 123] w fun e w' => e = .returned (.bool false) ∧ w' = w := rdigit 123
    have HN : Hid (Nodes (bp + 1) 49 vL ns w) := h2
    clear h2
    obtain ⟨c0, c1, c2, c3, c4, c5, cf⟩ := h1.cell
    go_enter Tryd.func12, Tryd.ntmps12
    go_wp2_with fail
    go_quiet (fail)
    have h3 := h1.drewN nq
    have O3 : Hid (Onl bp w (w.drewN nq)) := Onl.drewN (onl_refl bp w) nq
    generalize w.drewN nq = w3 at h3 O3
    clear c0 c1 c2 c3 c4 c5 cf nq h1
    obtain ⟨c0, c1, c2, c3, c4, c5, cf⟩ := h3.cell
    go_wp2_with fail
    go_quiet (fail)
    have h4 := h3.drewN nq
    have O4 : Hid (Onl bp w (w3.drewN nq)) := Onl.drewN O3.out nq
    generalize w3.drewN nq = w4 at h4 O4
    clear c0 c1 c2 c3 c4 c5 cf nq h3 O3 w3
    obtain ⟨c0, c1, c2, c3, c4, c5, cf⟩ := h4.cell
    go_wp2_with fail
    refine (hdg _).mono ?_
    rintro e w4' ⟨rfl, hw4⟩
    rw [hw4]; clear hw4 w4'
    have hfa : Calls Tryd.prog 13 #[.pointer (some ⟨bp, 0, none⟩), .int .i64 5, .int .i64 (i : Int)] w4 fun r w' => r = .returned (.tuple #[]) ∧ RD bp s i vL 5 i 32 w' ∧ Onl bp w4 w' := rfail0 bp s i vL at0 32 5 i _ h4
    go_wp2_with fail
    refine hfa.mono ?_
    rintro e w7 ⟨rfl, h7, o7⟩
    have H7 : Hid (RD bp s i vL 5 i 32 w7) := h7
    have O7 : Hid (Onl bp w w7) := Onl.trans O4.out o7
    clear o7 hfa
    go_wp2
    refine bodyPost_ret (results_none rfl _ _ _) rfl ?_
    refine ⟨rfl, ?_, onl_bel O7.out hlt⟩
    rw [HR.out]
    exact ⟨by omega, _, _, H7.out⟩
end
end Go.Proofs.YtaghclgookfmnaaDoor
