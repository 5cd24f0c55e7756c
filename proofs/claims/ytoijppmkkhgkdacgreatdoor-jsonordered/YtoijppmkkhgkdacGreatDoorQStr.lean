import Derived.Test.YtoijppmkkhgkdacGreatDoorG21
import Derived.Test.YtoijppmkkhgkdacGreatDoorX6
/-
  A text of right sequences, written as a string, is read as itself; one that is none, between quotes, is not read.
-/
namespace Go.Proofs.YtoijppmkkhgkdacGreatDoor
set_option linter.unusedVariables false

theorem hex_low : ∀ n, n < 32 → hexv (lowC (n / 16)) = some (n / 16) ∧ hexv (lowC (n % 16)) = some (n % 16) := by decide
theorem four_low (c : UInt8) (hc : c.toNat < 32) (l : List UInt8) : four4 (48 :: 48 :: lowC (c.toNat / 16) :: lowC (c.toNat % 16) :: l) = (some c.toNat, 4) := by
  obtain ⟨h1, h2⟩ := hex_low c.toNat hc
  have h0 : hexv 48 = some 0 := by decide
  unfold four4
  simp only [fourG, h0, h1, h2]
  refine Prod.ext ?_ rfl
  simp only [Option.some.injEq]
  omega
theorem strF_esc (f : Nat) (t : List UInt8) (n : Nat) (l : List UInt8) (h : escL (92 :: l) = .ok (t, n)) : strF (f + 1) (92 :: l) = shiftS t n (strF f ((92 :: l).drop n)) := by
  rw [strF]
  simp [h]
theorem strF_seq (f : Nat) (a l : List UInt8) (h0 : a ≠ []) (h : seqLen a = a.length) (hc : ∀ c r, a = c :: r → c ≠ 34 ∧ 32 ≤ c.toNat ∧ c ≠ 92) : strF (f + 1) (a ++ l) = shiftS a a.length (strF f l) := by
  match a, h0 with
  | c :: r, _ =>
    obtain ⟨c1, c2, c3⟩ := hc c r rfl
    have hs := seqLen_app (c :: r) l (by simp) h
    rw [List.cons_append] at hs ⊢
    rw [strF]
    rw [if_neg c1, if_neg (by omega), if_neg c3, hs, if_neg (by simp)]
    rw [← List.cons_append, List.take_left' rfl, List.drop_left' rfl]
theorem sgnsL_one (c : UInt8) : sgnsL [c] = sgnL c := by simp [sgnsL]
theorem sgnL_high (c : UInt8) (h : 128 ≤ c.toNat) : sgnL c = [c] := by
  have hne : ∀ d : UInt8, d.toNat < 128 → c ≠ d := fun d hd e => by rw [e] at h; omega
  unfold sgnL
  rw [if_neg (by rintro (e | e) <;> exact hne _ (by decide) e), if_neg (hne _ (by decide)), if_neg (hne _ (by decide)), if_neg (hne _ (by decide)), if_neg (hne _ (by decide)), if_neg (hne _ (by decide)), if_neg (by omega)]
theorem seq_step (a : List UInt8) (h0 : a ≠ []) (h : seqLen a = a.length) (l : List UInt8) (f : Nat) : strF (f + 1) (sgnsL a ++ l) = shiftS a (sgnsL a).length (strF f l) := by
  rcases seq_cases a h0 h with ⟨c, rfl, p⟩ | ⟨c, d, rfl, p⟩ | ⟨c, d, e, rfl, p⟩ | ⟨c, d, e, g, rfl, p⟩
  · rw [sgnsL_one]
    by_cases h1 : c = 34 ∨ c = 92
    · have e : sgnL c = [92, c] := by unfold sgnL; rw [if_pos h1]
      rw [e]
      rw [show [92, c] ++ l = 92 :: (c :: l) from rfl, strF_esc f [c] 2 (c :: l) (by rcases h1 with rfl | rfl <;> simp [escL, esc1])]
      rfl
    · by_cases h2 : c = 8
      · subst h2; rw [show sgnL 8 = [92, 98] by decide, show [92, 98] ++ l = 92 :: (98 :: l) from rfl, strF_esc f [8] 2 (98 :: l) (by simp [escL, esc1])]; rfl
      by_cases h3 : c = 9
      · subst h3; rw [show sgnL 9 = [92, 116] by decide, show [92, 116] ++ l = 92 :: (116 :: l) from rfl, strF_esc f [9] 2 (116 :: l) (by simp [escL, esc1])]; rfl
      by_cases h4 : c = 10
      · subst h4; rw [show sgnL 10 = [92, 110] by decide, show [92, 110] ++ l = 92 :: (110 :: l) from rfl, strF_esc f [10] 2 (110 :: l) (by simp [escL, esc1])]; rfl
      by_cases h5 : c = 12
      · subst h5; rw [show sgnL 12 = [92, 102] by decide, show [92, 102] ++ l = 92 :: (102 :: l) from rfl, strF_esc f [12] 2 (102 :: l) (by simp [escL, esc1])]; rfl
      by_cases h6 : c = 13
      · subst h6; rw [show sgnL 13 = [92, 114] by decide, show [92, 114] ++ l = 92 :: (114 :: l) from rfl, strF_esc f [13] 2 (114 :: l) (by simp [escL, esc1])]; rfl
      by_cases h7 : c.toNat < 32
      · have e : sgnL c = [92, 117, 48, 48, lowC (c.toNat / 16), lowC (c.toNat % 16)] := by
          unfold sgnL; rw [if_neg h1, if_neg h2, if_neg h3, if_neg h4, if_neg h5, if_neg h6, if_pos h7]
        have e2 : wr8 c.toNat = [c] := by unfold wr8; rw [if_pos (by omega)]; simp
        rw [e]
        rw [show [92, 117, 48, 48, lowC (c.toNat / 16), lowC (c.toNat % 16)] ++ l = 92 :: (117 :: 48 :: 48 :: lowC (c.toNat / 16) :: lowC (c.toNat % 16) :: l) from rfl]
        rw [strF_esc f [c] 6 _ ?_]
        · rfl
        · have e3 : esc1 117 = none := by decide
          simp only [escL, e3, if_true, four_low c h7 l, pairL]
          rw [if_pos (by omega), e2]
      · have e : sgnL c = [c] := by unfold sgnL; rw [if_neg h1, if_neg h2, if_neg h3, if_neg h4, if_neg h5, if_neg h6, if_neg h7]
        rw [e]
        exact strF_seq f [c] l h0 h (fun c' r hr => by
          injection hr with hr _; subst hr
          exact ⟨fun e => h1 (.inl e), by omega, fun e => h1 (.inr e)⟩)
  · rw [show sgnsL [c, d] = [c, d] by simp [sgnsL, sgnL_high c (by omega), sgnL_high d (by omega)]]
    exact strF_seq f [c, d] l h0 h (fun c' r hr => by
      injection hr with hr _; subst hr
      refine ⟨fun e' => ?_, by omega, fun e' => ?_⟩ <;> (rw [e'] at p; simp at p))
  · rw [show sgnsL [c, d, e] = [c, d, e] by simp [sgnsL, sgnL_high c (by omega), sgnL_high d (by omega), sgnL_high e (by omega)]]
    exact strF_seq f [c, d, e] l h0 h (fun c' r hr => by
      injection hr with hr _; subst hr
      refine ⟨fun e' => ?_, by omega, fun e' => ?_⟩ <;> (rw [e'] at p; simp at p))
  · rw [show sgnsL [c, d, e, g] = [c, d, e, g] by simp [sgnsL, sgnL_high c (by omega), sgnL_high d (by omega), sgnL_high e (by omega), sgnL_high g (by omega)]]
    exact strF_seq f [c, d, e, g] l h0 h (fun c' r hr => by
      injection hr with hr _; subst hr
      refine ⟨fun e' => ?_, by omega, fun e' => ?_⟩ <;> (rw [e'] at p; simp at p))
theorem sgnL_pos (c : UInt8) : 1 ≤ (sgnL c).length := by
  unfold sgnL
  repeat' split
  all_goals simp
theorem sgnsL_pos (a : List UInt8) (h : a ≠ []) : 1 ≤ (sgnsL a).length := by
  match a, h with
  | c :: r, _ => have := sgnL_pos c; simp only [sgnsL, List.length_append]; omega
theorem strF_sgns {s : List UInt8} (hu : U8 s) : ∀ (rest : List UInt8) (f : Nat), (sgnsL s).length < f → strF f (sgnsL s ++ 34 :: rest) = .ok (s, (sgnsL s).length + 1) := by
  induction hu with
  | nil =>
    intro rest f hf
    obtain ⟨f, rfl⟩ : ∃ g, f = g + 1 := ⟨f - 1, by omega⟩
    simp [sgnsL, strF]
  | cons a r h0 h _ ih =>
    intro rest f hf
    obtain ⟨f, rfl⟩ : ∃ g, f = g + 1 := ⟨f - 1, by omega⟩
    have hp := sgnsL_pos a h0
    rw [sgnsL_append, List.length_append] at hf
    rw [sgnsL_append, List.append_assoc, seq_step a h0 h, ih rest f (by omega)]
    simp only [shiftS, List.length_append]
    rw [Nat.add_assoc]
theorem quotL_strT {s : List UInt8} (hu : U8 s) : quotL (strT s) = .ok (s, (strT s).length) := by
  unfold quotL strT
  simp only [List.cons_append, if_true]
  unfold strL
  rw [strF_sgns hu [] _ (by simp; omega)]
  simp
theorem readL_strT {s : List UInt8} (hu : U8 s) (hl : (strT s).length ≤ 65536) : readL (strT s) = .ok (.str s 0) := by
  have hq := quotL_strT hu
  have hc : ∃ r, strT s = 34 :: r := ⟨_, rfl⟩
  obtain ⟨r, hr⟩ := hc
  have hnb : nb (strT s) = 0 := by rw [hr, nb, if_neg (by decide)]
  unfold readL
  rw [if_neg (by omega)]
  dsimp only
  rw [hnb, List.drop_zero, hr, valL_cons, if_pos rfl, ← hr, hq]
  dsimp only
  rw [Nat.zero_add, List.drop_of_length_le (Nat.le_refl _)]
  rw [if_neg (by simp [nb])]
/-- Between quotes, without a quote or a backslash in it: what is read is the text, and of right sequences. -/
theorem strF_back : ∀ (f : Nat) (s t : List UInt8) (n : Nat), (∀ c ∈ s, c ≠ 34 ∧ c ≠ 92) → strF f (s ++ [34]) = .ok (t, n) → t = s ∧ U8 s ∧ n = s.length + 1 := by
  intro f
  induction f with
  | zero => intro s t n _ h; simp [strF] at h
  | succ f ih =>
    intro s t n hs h
    match s with
    | [] =>
      simp [strF] at h
      exact ⟨h.1, .nil, by simp [h.2]⟩
    | c :: r =>
      obtain ⟨c1, c2⟩ := hs c (by simp)
      rw [List.cons_append, strF, if_neg c1] at h
      split at h
      · cases h
      · try rw [if_neg c2] at h
        split at h
        · cases h
        · rename_i h32 hq
          rw [← List.cons_append] at h hq
          have hlen := (seqLen_take _ hq).2
          have ht := (seqLen_take _ hq).1
          have hle : seqLen (c :: r ++ [34]) ≤ (c :: r).length := by
            by_cases hx : seqLen (c :: r ++ [34]) ≤ (c :: r).length
            · exact hx
            · exfalso
              have hall : seqLen (c :: r ++ [34]) = (c :: r ++ [34]).length := by
                rw [List.length_append, List.length_singleton] at hlen ⊢; omega
              have hlast : (c :: r ++ [34]).getLast? = some 34 := List.getLast?_concat
              rcases seq_cases (c :: r ++ [34]) (by simp) hall with ⟨c', e, p⟩ | ⟨c', d, e, p⟩ | ⟨c', d, e', e, p⟩ | ⟨c', d, e', g, e, p⟩
              · have := congrArg List.length e; simp at this
              · rw [e] at hlast; simp at hlast; rw [hlast] at p; simp at p
              · rw [e] at hlast; simp at hlast; rw [hlast] at p; simp at p
              · rw [e] at hlast; simp at hlast; rw [hlast] at p; simp at p
          generalize hq' : seqLen (c :: r ++ [34]) = q at *
          rw [List.take_append_of_le_length hle] at h ht
          rw [List.drop_append_of_le_length hle] at h
          cases hr : strF f ((c :: r).drop q ++ [34]) with
          | error o => rw [hr] at h; simp [shiftS] at h
          | ok z =>
            obtain ⟨t', n'⟩ := z
            obtain ⟨a1, a2, a3⟩ := ih _ _ _ (fun x hx => hs x (List.mem_of_mem_drop hx)) hr
            rw [hr, shiftS] at h
            injection h with h; injection h with e1 e2
            subst a1; subst e1; subst e2
            refine ⟨by rw [List.take_append_drop], ?_, ?_⟩
            · have hlt : ((c :: r).take q).length = q := by rw [List.length_take]; omega
              have := U8.cons ((c :: r).take q) ((c :: r).drop q) (by intro e; rw [e] at hlt; simp at hlt; omega) (by rw [ht, hlt]) a2
              rwa [List.take_append_drop] at this
            · rw [a3, List.length_drop]; omega
theorem readL_wrong {s : List UInt8} (hs : ∀ c ∈ s, c ≠ 34 ∧ c ≠ 92) (hu : ¬ U8 s) (hl : s.length + 2 ≤ 65536) : ∃ p, readL (34 :: s ++ [34]) = .error (2, p) := by
  have hnb : nb (34 :: s ++ [34]) = 0 := by rw [List.cons_append, nb, if_neg (by decide)]
  have hq : ∃ o, quotL (34 :: s ++ [34]) = .error o := by
    unfold quotL
    simp only [List.cons_append, if_true]
    cases hr : strL (s ++ [34]) with
    | error o => exact ⟨o + 1, rfl⟩
    | ok z =>
      obtain ⟨t, n⟩ := z
      exact absurd (strF_back _ _ _ _ hs hr).2.1 hu
  obtain ⟨o, hq⟩ := hq
  refine ⟨0 + o, ?_⟩
  unfold readL
  rw [if_neg (by simp; omega)]
  dsimp only
  rw [hnb, List.drop_zero, List.cons_append, valL_cons, if_pos rfl, ← List.cons_append, hq]
theorem form_str (s : List UInt8) : formN (flat 0 [] (.str s 0)) (flat 0 [] (.str s 0)).length 0 = strT s := by
  simp [flat, formN]
end Go.Proofs.YtoijppmkkhgkdacGreatDoor
