import Derived.Test.YtaghclgookfmnaaDoorJEscU
/-
  The document's reader: escape, whole.
-/
namespace Go.Proofs.YtaghclgookfmnaaDoor
open Go.RowKit
set_option linter.unusedVariables false

theorem hexv_lt {c : UInt8} {d : Nat} (h : hexv c = some d) : d < 16 := by
  unfold hexv at h
  split at h
  · injection h with h; omega
  · split at h
    · injection h with h; omega
    · split at h
      · injection h with h; omega
      · cases h
theorem fourG_some {k n : Nat} {l : List UInt8} {o m e : Nat} (h : fourG k n l o = (some m, e)) : e = o + k ∧ m < (n + 1) * 16 ^ k := by
  induction k generalizing n l o with
  | zero => simp [fourG] at h; omega
  | succ k ih =>
    match l with
    | [] => simp [fourG] at h
    | c :: r =>
      rw [fourG] at h
      cases hv : hexv c with
      | none => rw [hv] at h; simp at h
      | some d =>
        rw [hv] at h
        obtain ⟨h1, h2⟩ := ih h
        have := hexv_lt hv
        refine ⟨by omega, Nat.lt_of_lt_of_le h2 ?_⟩
        rw [Nat.pow_succ, Nat.mul_comm (16 ^ k) 16, ← Nat.mul_assoc]
        exact Nat.mul_le_mul_right _ (by omega)
theorem four4_some {l : List UInt8} {m e : Nat} (h : four4 l = (some m, e)) : e = 4 ∧ m < 65536 := by
  have := fourG_some h; omega

section
variable (bp : Nat) (s : ByteArray) (i : Nat) (vL : Value) (at0 dp : Nat) (w : World)

theorem resc_simple (hs : s.size ≤ 140737488351232) (h : RD bp s i vL 0 at0 dp w) (hi1 : i + 1 < s.size) (b : UInt8) (hb : esc1 s[i + 1] = some b) :
    Calls Tryd.prog 35 #[.pointer (some ⟨bp, 0, none⟩)] w fun r w' => r = .returned (.string ⟨#[b]⟩) ∧ RD bp s (i + 2) vL 0 at0 dp w' ∧ Onl bp w w' := by
  by_cases h34 : s[i + 1] = 34
  · rw [h34] at hb; injection hb with hb; subst hb; exact resc_34 bp s i vL at0 dp w hs h hi1 h34
  by_cases h92 : s[i + 1] = 92
  · rw [h92] at hb; injection hb with hb; subst hb; exact resc_92 bp s i vL at0 dp w hs h hi1 h92
  by_cases h47 : s[i + 1] = 47
  · rw [h47] at hb; injection hb with hb; subst hb; exact resc_47 bp s i vL at0 dp w hs h hi1 h47
  by_cases h98 : s[i + 1] = 98
  · rw [h98] at hb; injection hb with hb; subst hb; exact resc_98 bp s i vL at0 dp w hs h hi1 h98
  by_cases h102 : s[i + 1] = 102
  · rw [h102] at hb; injection hb with hb; subst hb; exact resc_102 bp s i vL at0 dp w hs h hi1 h102
  by_cases h110 : s[i + 1] = 110
  · rw [h110] at hb; injection hb with hb; subst hb; exact resc_110 bp s i vL at0 dp w hs h hi1 h110
  by_cases h114 : s[i + 1] = 114
  · rw [h114] at hb; injection hb with hb; subst hb; exact resc_114 bp s i vL at0 dp w hs h hi1 h114
  by_cases h116 : s[i + 1] = 116
  · rw [h116] at hb; injection hb with hb; subst hb; exact resc_116 bp s i vL at0 dp w hs h hi1 h116
  · simp [esc1, h34, h92, h47, h98, h102, h110, h114, h116] at hb

theorem esc1_none {c : UInt8} (h : esc1 c = none) (h117 : c ≠ 117) : ∀ k ∈ [34, 92, 47, 98, 102, 110, 114, 116, 117], c ≠ UInt8.ofNat k := by
  intro k hk e
  simp at hk
  rcases hk with rfl | rfl | rfl | rfl | rfl | rfl | rfl | rfl | rfl
  all_goals first | (rw [e] at h; revert h; decide) | exact h117 e

theorem rescape (hs : s.size ≤ 140737488340000) (h : RD bp s i vL 0 at0 dp w) (hi : i < s.size) :
    (∀ t k, escL (sfx s i) = .ok (t, k) → Calls Tryd.prog 35 #[.pointer (some ⟨bp, 0, none⟩)] w fun r w' => r = .returned (.string ⟨t.toArray⟩) ∧ RD bp s (i + k) vL 0 at0 dp w' ∧ Onl bp w w') ∧
    (∀ o, escL (sfx s i) = .error o → Calls Tryd.prog 35 #[.pointer (some ⟨bp, 0, none⟩)] w fun r w' => r = .returned (.string ⟨#[]⟩) ∧ (∃ j, RD bp s j vL 2 (i + o) dp w') ∧ Onl bp w w') := by
  have hs2 : s.size ≤ 140737488351232 := by omega
  by_cases hi1 : i + 1 < s.size
  · rw [escL_cons s i hi1]
    cases hb : esc1 s[i + 1] with
    | some b =>
      refine ⟨fun t k he => ?_, fun o he => (by simp at he)⟩
      simp at he
      obtain ⟨rfl, rfl⟩ := he
      exact resc_simple bp s i vL at0 dp w hs2 h hi1 b hb
    | none =>
      by_cases hu : s[i + 1] = 117
      · simp only [hu, if_true]
        cases hF : four4 (sfx s (i + 2)) with
        | mk F1 k4 =>
          cases F1 with
          | none =>
            refine ⟨fun t k he => (by simp at he), fun o he => ?_⟩
            simp at he
            subst he
            rw [← Nat.add_assoc]
            exact resc_u0 bp s i vL at0 dp w hs2 h hi1 hu k4 hF
          | some n =>
            obtain ⟨rfl, hn⟩ := four4_some hF
            dsimp only
            by_cases hp : n < 55296 ∨ 57343 < n
            · refine ⟨fun t k he => ?_, fun o he => (by rw [pairL_plain n _ hp] at he; simp at he)⟩
              rw [pairL_plain n _ hp] at he
              simp at he
              obtain ⟨rfl, rfl⟩ := he
              exact resc_u1 bp s i vL at0 dp w hs2 h hi1 hu 4 n hF (by omega) _ _ fun w' h' => rpair_plain bp s (i + 6) vL at0 dp w' (n : Int) n i rfl (by omega) hn h'
            · cases hl : lowL (sfx s (i + 6)) with
              | none =>
                have hpe : pairL n (sfx s (i + 6)) = .error 0 := by unfold pairL; rw [if_neg hp, hl]
                refine ⟨fun t k he => (by rw [hpe] at he; simp at he), fun o he => ?_⟩
                rw [hpe] at he
                injection he with he
                subst he
                exact resc_u1 bp s i vL at0 dp w hs2 h hi1 hu 4 n hF (by omega) ⟨#[]⟩ (fun w' => ∃ j, RD bp s j vL 2 (i + 0) dp w') fun w' h' => (rpair_er bp s (i + 6) vL at0 dp w' (n : Int) i (by omega) (by omega) (.inl hl) h' (by omega)).mono fun r w2 ⟨a, b, c⟩ => ⟨a, ⟨_, b⟩, c⟩
              | some m =>
                have hb2 := lowL_bound hl
                by_cases h5 : 56320 ≤ n
                · have hpe : pairL n (sfx s (i + 6)) = .error 0 := by unfold pairL; rw [if_neg hp, hl]; simp [h5]
                  refine ⟨fun t k he => (by rw [hpe] at he; simp at he), fun o he => ?_⟩
                  rw [hpe] at he
                  injection he with he
                  subst he
                  exact resc_u1 bp s i vL at0 dp w hs2 h hi1 hu 4 n hF (by omega) ⟨#[]⟩ (fun w' => ∃ j, RD bp s j vL 2 (i + 0) dp w') fun w' h' => (rpair_er bp s (i + 6) vL at0 dp w' (n : Int) i (by omega) (by omega) (.inr (by omega)) h' (by omega)).mono fun r w2 ⟨a, b, c⟩ => ⟨a, ⟨_, b⟩, c⟩
                · have hpe : pairL n (sfx s (i + 6)) = .ok (wr8 (65536 + 1024 * (n - 55296) + (m - 56320)), 12) := by unfold pairL; rw [if_neg hp, hl]; simp [h5]
                  refine ⟨fun t k he => ?_, fun o he => (by rw [hpe] at he; simp at he)⟩
                  rw [hpe] at he
                  injection he with he
                  injection he with he1 he2
                  subst he1; subst he2
                  exact resc_u1 bp s i vL at0 dp w hs2 h hi1 hu 4 n hF (by omega) _ (fun w' => RD bp s (i + 12) vL 0 at0 dp w') fun w' h' => rpair_two bp s (i + 6) vL at0 dp w' (n : Int) i m _ (by omega) (by omega) hl (by omega) (by omega) h' (by omega)
      · simp only [hu, if_false]
        refine ⟨fun t k he => (by simp at he), fun o he => ?_⟩
        injection he with he
        subst he
        exact resc_no bp s i vL at0 dp w hs2 h (i + 1) rfl hi1 (esc1_none hb hu)
  · have hl : escL (sfx s i) = .error 1 := by rw [sfx_cons s i hi, sfx_nil s (i + 1) (by omega)]; rfl
    rw [hl]
    refine ⟨fun t k he => (by simp at he), fun o he => ?_⟩
    injection he with he
    subst he
    exact resc_end bp s i vL at0 dp w hs2 h hi (by omega)
end
end Go.Proofs.YtaghclgookfmnaaDoor
