import Derived.Test.YtaghclgookfmnaaDoorJWord
/-
  The document's reader: value: words. What is read, by its size.
-/
namespace Go.Proofs.YtaghclgookfmnaaDoor
open Go.RowKit
set_option linter.unusedVariables false
section
variable (bp : Nat) (s : ByteArray) (i : Nat) (ns : List Nd) (up : Option Nat) (key : List UInt8) (at0 dp : Nat) (w : World)

set_option maxRecDepth 4000 in
set_option maxHeartbeats 1000000 in
theorem rval_word (hs : s.size ≤ 65536) (h : RN bp s i ns 0 at0 dp w) (hi : i < s.size) (hc : s[i] = 116 ∨ s[i] = 102 ∨ s[i] = 110) (hl : ns.length ≤ 1000000) (hw : WFk ns) (hup : ∀ u, up = some u → u < ns.length) (d : Nat) :
    Calls Tryd.prog 12 #[.pointer (some ⟨bp, 0, none⟩), .int .i64 (upV up), .string ⟨key.toArray⟩] w fun r w' => r = .returned (.tuple #[]) ∧ VP bp s i ns up key at0 dp (valL d (sfx s i) i) w' ∧ Below bp w w' := by
  obtain ⟨vL, h1, h2⟩ := h
  have hd : isD s[i] = false := by rcases hc with e | e | e <;> rw [e] <;> rfl
  have HR : Hid (valL d (sfx s i) i = wordL (sfx s i) i) := by
    show valL d (sfx s i) i = wordL (sfx s i) i
    rw [sfx_cons s i hi, valL_cons, if_neg (by rcases hc with e | e | e <;> rw [e] <;> decide), if_neg (by rw [hd]; rcases hc with e | e | e <;> rw [e] <;> decide), if_pos hc]
  have hwd := fun w' (h' : RN bp s i ns 0 at0 dp w') => rword bp s i ns up key at0 dp w' hs h' hi hl hw hup _ rfl
  have hi' : (i : Int) < (s.size : Int) := by omega
  have hif : decide ((s.size : Int) ≤ (i : Int)) = false := by simp; omega
  have hlt := h1.lt
  clear hl hup hd
  rcases hc with hc | hc | hc
  · have hcb : ((s[i].toNat : Int) == 116) = true := by rw [hc]; rfl
    have hdg : ∀ w, Calls Tryd.prog 22 #[.int .u8 116] w fun e w' => e = .returned (.bool false) ∧ w' = w := rdigit 116
    have HN : Hid (Nodes (bp + 1) 49 vL ns w) := h2
    clear h2
    obtain ⟨c0, c1, c2, c3, c4, c5, cf⟩ := h1.cell
    go_enter Tryd.func12, Tryd.ntmps12
    go_wp2_with fail
    go_quiet (fail)
    have h3 := h1.drewN nq
    have O3 : Hid (Onl bp w (w.drewN nq)) := Onl.drewN (onl_refl bp w) nq
    generalize w.drewN nq = w3 at h3 O3
    clear c0 c1 c2 c3 c4 c5 cf nq h1
    obtain ⟨c0, c1, c2, c3, c4, c5, cf⟩ := h3.cell
    go_wp2_with fail
    go_quiet (fail)
    have h4 := h3.drewN nq
    have O4 : Hid (Onl bp w (w3.drewN nq)) := Onl.drewN O3.out nq
    generalize w3.drewN nq = w4 at h4 O4
    clear c0 c1 c2 c3 c4 c5 cf nq h3 O3 w3
    go_wp2_with fail
    refine (hdg _).mono ?_
    rintro e w4' ⟨rfl, hw4⟩
    rw [hw4]; clear hw4 w4'
    go_wp2_with fail
    refine (hwd _ ⟨vL, h4, HN.out.onl O4.out (by omega)⟩).mono ?_
    rintro e w6 ⟨rfl, h6, hb6⟩
    have H6 : Hid _ := h6
    have B6 : Hid (Below bp w w6) := (onl_bel O4.out hlt).trans hb6
    clear h6 hb6 hwd h4
    go_wp2
    go_end0
    refine ⟨rfl, ?_, B6.out⟩
    rw [HR.out]
    exact H6.out
  · have hcb : ((s[i].toNat : Int) == 102) = true := by rw [hc]; rfl
    have hdg : ∀ w, Calls Tryd.prog 22 #[.int .u8 102] w fun e w' => e = .returned (.bool false) ∧ w' = w := rdigit 102
    have HN : Hid (Nodes (bp + 1) 49 vL ns w) := h2
    clear h2
    obtain ⟨c0, c1, c2, c3, c4, c5, cf⟩ := h1.cell
    go_enter Tryd.func12, Tryd.ntmps12
    go_wp2_with fail
    go_quiet (fail)
    have h3 := h1.drewN nq
    have O3 : Hid (Onl bp w (w.drewN nq)) := Onl.drewN (onl_refl bp w) nq
    generalize w.drewN nq = w3 at h3 O3
    clear c0 c1 c2 c3 c4 c5 cf nq h1
    obtain ⟨c0, c1, c2, c3, c4, c5, cf⟩ := h3.cell
    go_wp2_with fail
    go_quiet (fail)
    have h4 := h3.drewN nq
    have O4 : Hid (Onl bp w (w3.drewN nq)) := Onl.drewN O3.out nq
    generalize w3.drewN nq = w4 at h4 O4
    clear c0 c1 c2 c3 c4 c5 cf nq h3 O3 w3
    go_wp2_with fail
    refine (hdg _).mono ?_
    rintro e w4' ⟨rfl, hw4⟩
    rw [hw4]; clear hw4 w4'
    go_wp2_with fail
    refine (hwd _ ⟨vL, h4, HN.out.onl O4.out (by omega)⟩).mono ?_
    rintro e w6 ⟨rfl, h6, hb6⟩
    have H6 : Hid _ := h6
    have B6 : Hid (Below bp w w6) := (onl_bel O4.out hlt).trans hb6
    clear h6 hb6 hwd h4
    go_wp2
    go_end0
    refine ⟨rfl, ?_, B6.out⟩
    rw [HR.out]
    exact H6.out
  · have hcb : ((s[i].toNat : Int) == 110) = true := by rw [hc]; rfl
    have hdg : ∀ w, Calls Tryd.prog 22 #[.int .u8 110] w fun e w' => e = .returned (.bool false) ∧ w' = w := rdigit 110
    have HN : Hid (Nodes (bp + 1) 49 vL ns w) := h2
    clear h2
    obtain ⟨c0, c1, c2, c3, c4, c5, cf⟩ := h1.cell
    go_enter Tryd.func12, Tryd.ntmps12
    go_wp2_with fail
    go_quiet (fail)
    have h3 := h1.drewN nq
    have O3 : Hid (Onl bp w (w.drewN nq)) := Onl.drewN (onl_refl bp w) nq
    generalize w.drewN nq = w3 at h3 O3
    clear c0 c1 c2 c3 c4 c5 cf nq h1
    obtain ⟨c0, c1, c2, c3, c4, c5, cf⟩ := h3.cell
    go_wp2_with fail
    go_quiet (fail)
    have h4 := h3.drewN nq
    have O4 : Hid (Onl bp w (w3.drewN nq)) := Onl.drewN O3.out nq
    generalize w3.drewN nq = w4 at h4 O4
    clear c0 c1 c2 c3 c4 c5 cf nq h3 O3 w3
    go_wp2_with fail
    refine (hdg _).mono ?_
    rintro e w4' ⟨rfl, hw4⟩
    rw [hw4]; clear hw4 w4'
    go_wp2_with fail
    refine (hwd _ ⟨vL, h4, HN.out.onl O4.out (by omega)⟩).mono ?_
    rintro e w6 ⟨rfl, h6, hb6⟩
    have H6 : Hid _ := h6
    have B6 : Hid (Below bp w w6) := (onl_bel O4.out hlt).trans hb6
    clear h6 hb6 hwd h4
    go_wp2
    go_end0
    refine ⟨rfl, ?_, B6.out⟩
    rw [HR.out]
    exact H6.out
end

theorem strF_pos : ∀ (f : Nat) (l t : List UInt8) (n : Nat), strF f l = .ok (t, n) → 1 ≤ n := by
  intro f
  induction f with
  | zero => intro l t n h; simp [strF] at h
  | succ f ih =>
    intro l t n h
    match l with
    | [] => simp [strF] at h
    | c :: r =>
      have shift_pos : ∀ (a : List UInt8) (k : Nat) (X : Except Nat (List UInt8 × Nat)), (∀ t n, X = .ok (t, n) → 1 ≤ n) → shiftS a k X = .ok (t, n) → 1 ≤ n := by
        intro a k X hX hx
        cases X with
        | error o => simp [shiftS] at hx
        | ok q => obtain ⟨t', n'⟩ := q; have := hX t' n' rfl; simp [shiftS] at hx; omega
      rw [strF] at h
      split at h
      · injection h with h; injection h with h1 h2; omega
      · split at h
        · cases h
        · split at h
          · split at h
            · cases h
            · exact shift_pos _ _ _ (fun t n => ih _ t n) h
          · split at h
            · cases h
            · exact shift_pos _ _ _ (fun t n => ih _ t n) h
theorem quotL_pos {l t : List UInt8} {n : Nat} (h : quotL l = .ok (t, n)) : 1 ≤ n := by
  unfold quotL at h
  split at h
  · split at h
    · split at h
      · injection h with h; injection h with h1 h2; omega
      · cases h
    · cases h
  · cases h
theorem intL_pos {l : List UInt8} {m : Int} {n : Nat} (h : intL l = .ok (m, n)) : 1 ≤ n := by
  have key : ∀ (m1 k : Nat) (p : Prop) (c2 : Prop) [Decidable p] [Decidable c2] (x : Int), (if k = 0 ∨ p then Except.error (2, m1) else if c2 then .error (3, 0) else .ok (x, m1 + k) : Except (Nat × Nat) (Int × Nat)) = .ok (m, n) → 1 ≤ n := by
    intro m1 k p c2 _ _ x hx
    split at hx
    · cases hx
    · split at hx
      · cases hx
      · rename_i h1 _
        injection hx with hx; injection hx with h2 h3
        have : k ≠ 0 := fun e => h1 (.inl e)
        omega
  exact key _ _ _ _ _ h
theorem wordL_size {l : List UInt8} {i n : Nat} {t : JT} (h : wordL l i = .ok (t, n)) : t.size ≤ n := by
  unfold wordL at h
  dsimp only at h
  split at h
  · injection h with h; injection h with h1 h2; subst h1; subst h2; simp [JT.size]
  · split at h
    · injection h with h; injection h with h1 h2; subst h1; subst h2; simp [JT.size]
    · split at h
      · injection h with h; injection h with h1 h2; subst h1; subst h2; simp [JT.size]
      · cases h

theorem arrF_size (v : List UInt8 → Nat → JR JT) (hv : ∀ l i t n, v l i = .ok (t, n) → t.size ≤ n) : ∀ (f : Nat) (l : List UInt8) (i : Nat) (ts : List JT) (k : Nat), arrF v f l i = .ok (ts, k) → sizeL ts ≤ k := by
  intro f
  induction f with
  | zero => intro l i ts k h; simp [arrF] at h
  | succ f ih =>
    intro l i ts k h
    rw [arrF] at h
    dsimp only at h
    split at h
    · cases h
    · rename_i t n hvt
      have h0 := hv _ _ _ _ hvt
      split at h
      · split at h
        · split at h
          · cases h
          · rename_i ts' k' hr
            have := ih _ _ _ _ hr
            injection h with h; injection h with h1 h2; subst h1; subst h2
            simp only [sizeL]; omega
        · split at h
          · injection h with h; injection h with h1 h2; subst h1; subst h2
            simp only [sizeL]; omega
          · cases h
      · cases h
theorem objF_size (v : List UInt8 → Nat → JR JT) (hv : ∀ l i t n, v l i = .ok (t, n) → t.size ≤ n) : ∀ (f : Nat) (ks : List (List UInt8)) (l : List UInt8) (i : Nat) (ms : List (List UInt8 × JT)) (k : Nat), objF v f ks l i = .ok (ms, k) → sizeM ms ≤ k := by
  intro f
  induction f with
  | zero => intro ks l i ts k h; simp [objF] at h
  | succ f ih =>
    intro ks l i ms k h
    rw [objF] at h
    dsimp only at h
    split at h
    · cases h
    · split at h
      · cases h
      · split at h
        · split at h
          · split at h
            · cases h
            · rename_i t n hvt
              have h0 := hv _ _ _ _ hvt
              split at h
              · split at h
                · split at h
                  · cases h
                  · rename_i ms' k' hr
                    have := ih _ _ _ _ _ hr
                    injection h with h; injection h with h1 h2; subst h1; subst h2
                    simp only [sizeM]; omega
                · split at h
                  · injection h with h; injection h with h1 h2; subst h1; subst h2
                    simp only [sizeM]; omega
                  · cases h
              · cases h
          · cases h
        · cases h
theorem valL_size : ∀ (d : Nat) (l : List UInt8) (i : Nat) (t : JT) (n : Nat), valL d l i = .ok (t, n) → t.size ≤ n := by
  intro d
  induction d with
  | zero =>
    intro l i t n h
    match l with
    | [] => rw [valL_nil] at h; cases h
    | c :: r =>
      rw [valL_cons] at h
      split at h
      · split at h
        · cases h
        · rename_i hq; have := quotL_pos hq; injection h with h; injection h with h1 h2; subst h1; subst h2; simp [JT.size]; omega
      · split at h
        · split at h
          · cases h
          · rename_i hq; have := intL_pos hq; injection h with h; injection h with h1 h2; subst h1; subst h2; simp [JT.size]; omega
        · split at h
          · exact wordL_size h
          · split at h
            · cases h
            · cases h
  | succ d ih =>
    intro l i t n h
    match l with
    | [] => rw [valL_nil] at h; cases h
    | c :: r =>
      rw [valL_cons] at h
      split at h
      · split at h
        · cases h
        · rename_i hq; have := quotL_pos hq; injection h with h; injection h with h1 h2; subst h1; subst h2; simp [JT.size]; omega
      · split at h
        · split at h
          · cases h
          · rename_i hq; have := intL_pos hq; injection h with h; injection h with h1 h2; subst h1; subst h2; simp [JT.size]; omega
        · split at h
          · exact wordL_size h
          · split at h
            · dsimp only at h
              split at h
              · unfold arrL at h
                dsimp only at h
                split at h
                · injection h with h; injection h with h1 h2; subst h1; subst h2; simp [JT.size, sizeL]
                · split at h
                  · cases h
                  · rename_i hr; have := arrF_size _ ih _ _ _ _ _ hr; injection h with h; injection h with h1 h2; subst h1; subst h2; simp only [JT.size]; omega
              · unfold objL at h
                dsimp only at h
                split at h
                · injection h with h; injection h with h1 h2; subst h1; subst h2; simp [JT.size, sizeM]
                · split at h
                  · cases h
                  · rename_i hr; have := objF_size _ ih _ _ _ _ _ _ hr; injection h with h; injection h with h1 h2; subst h1; subst h2; simp only [JT.size]; omega
            · cases h
end Go.Proofs.YtaghclgookfmnaaDoor
