import Derived.Test.YtoijppmkkhgkdacGreatDoorQForm
/-
  Two values in an array.
-/
namespace Go.Proofs.YtoijppmkkhgkdacGreatDoor
set_option linter.unusedVariables false

/-- What a text that is read is made of: blanks, a value, blanks. -/
theorem readL_parts {s : List UInt8} {ts : JT} (h : readL s = .ok ts) : ∃ n, valL 32 (s.drop (nb s)) (nb s) = .ok (ts, n) ∧ nb s + n ≤ s.length ∧ nb s < s.length ∧ Blk (s.drop (nb s + n)) := by
  unfold readL at h
  split at h
  · cases h
  · dsimp only at h
    cases hv : valL 32 (s.drop (nb s)) (nb s) with
    | error e => rw [hv] at h; simp at h
    | ok q =>
      obtain ⟨t, n⟩ := q
      rw [hv] at h
      dsimp only at h
      have hn := (valL_rok _ _ _ _ _ hv).1
      rw [List.length_drop] at hn
      have hb := nb_le s
      have hlt : nb s < s.length := by
        by_cases hlt : nb s < s.length
        · exact hlt
        · rw [List.drop_of_length_le (by omega), valL_nil] at hv; cases hv
      split at h
      · cases h
      · rename_i hend
        injection h with h
        subst h
        refine ⟨n, rfl, by omega, hlt, ?_⟩
        have hle := nb_le (s.drop (nb s + n))
        rw [List.length_drop] at hle
        have hz : nb (s.drop (nb s + n)) = (s.drop (nb s + n)).length := by rw [List.length_drop]; omega
        have : ∀ l : List UInt8, nb l = l.length → Blk l := by
          intro l
          induction l with
          | nil => intro _ c hc; simp at hc
          | cons c r ih =>
            intro hl
            rw [nb] at hl
            split at hl
            · rename_i hc
              intro x hxm
              rcases List.mem_cons.1 hxm with rfl | hxm
              · exact hc
              · exact ih (by simpa using hl) x hxm
            · simp at hl
        exact this _ hz
/-- Its value, read one bracket deeper, where more stands behind. -/
theorem val_in {s : List UInt8} {ts : JT} (h : readL s = .ok ts) (x : List UInt8) (hx : Beh x) (j : Nat) (t1 : JT) (n1 : Nat) (h1 : valL 31 (s.drop (nb s) ++ x) j = .ok (t1, n1)) :
    nb s + n1 ≤ s.length ∧ nb s < s.length ∧ Blk (s.drop (nb s + n1)) ∧ fmT t1 = fmT ts := by
  obtain ⟨n, hv, hn, hlt, hB⟩ := readL_parts h
  have e1 := (valL_ext x hx 32 _ _ _ _ hv).2
  have e2 := valL_mono 31 _ _ _ _ h1
  have e3 := valL_mv (nb s) 32 (s.drop (nb s) ++ x) 0
  have e4 := valL_mv j 32 (s.drop (nb s) ++ x) 0
  rw [Nat.zero_add] at e3 e4
  have hfm : ∀ (k : Nat) (t : JT), fmT (mvT k t) = fmT t := fun k t => by
    have a := prF_mv k t
    rw [prF_form, prF_form] at a
    exact (Prod.mk.inj a).1
  cases h0 : valL 32 (s.drop (nb s) ++ x) 0 with
  | error e =>
    obtain ⟨e, a⟩ := e
    rw [h0, e1] at e3; simp [mv1] at e3
  | ok q =>
    obtain ⟨t0, n0⟩ := q
    rw [h0, e1] at e3
    rw [h0, e2] at e4
    simp only [mv1, Except.ok.injEq, Prod.mk.injEq] at e3 e4
    obtain ⟨a1, a2⟩ := e3
    obtain ⟨b1, b2⟩ := e4
    subst a2; subst b2
    refine ⟨hn, hlt, hB, ?_⟩
    rw [a1, b1, hfm, hfm]
def both (s t : List UInt8) : List UInt8 := 91 :: 32 :: (s ++ 9 :: 44 :: 13 :: 10 :: (t ++ [93]))
theorem nb_drop_blk (s x : List UInt8) (k : Nat) (hk : k ≤ s.length) (hB : Blk (s.drop k)) (c : UInt8) (r : List UInt8) (hx : x = c :: r) (hc : isB c = false) : nb ((s ++ x).drop k) = s.length - k ∧ (s ++ x).drop s.length = c :: r := by
  refine ⟨?_, by rw [List.drop_left' rfl, hx]⟩
  rw [drop_ext s x k hk, nb_blk _ _ hB, List.length_drop, hx, nb, if_neg (by simp [hc])]; rfl
theorem readL_both {s t : List UInt8} {ts tt x : JT} (hs : readL s = .ok ts) (ht : readL t = .ok tt) (hw : readL (both s t) = .ok x) : ∃ t1 t2, x = .arr [t1, t2] 0 ∧ fmT t1 = fmT ts ∧ fmT t2 = fmT tt := by
  obtain ⟨n0, hv, _, _, _⟩ := readL_parts hw
  have hnb0 : nb (both s t) = 0 := by unfold both; rw [nb, if_neg (by decide)]
  rw [hnb0, List.drop_zero] at hv
  unfold both at hv
  rw [valL_cons] at hv
  rw [if_neg (by decide), if_neg (by decide), if_neg (by decide), if_pos (by decide)] at hv
  dsimp only at hv
  rw [if_pos rfl] at hv
  unfold arrL at hv
  dsimp only at hv
  obtain ⟨_, _, _, hlt, _⟩ := readL_parts hs
  obtain ⟨_, _, _, hlt2, _⟩ := readL_parts ht
  generalize hY : (9 :: 44 :: 13 :: 10 :: (t ++ [93]) : List UInt8) = Y at hv
  have hBY : Beh Y := fun c r e => by rw [← hY] at e; injection e with e _; subst e; decide
  have hnbs : nb (s ++ Y) = nb s := nb_ext s Y _ _ (List.drop_eq_getElem_cons hlt)
  have hd1 : (91 :: 32 :: (s ++ Y) : List UInt8).drop 1 = 32 :: (s ++ Y) := rfl
  have hn1 : nb (32 :: (s ++ Y)) = nb s + 1 := by rw [nb, if_pos (by decide), hnbs]
  rw [hd1, hn1] at hv
  have hd2 : (91 :: 32 :: (s ++ Y) : List UInt8).drop (1 + (nb s + 1)) = s.drop (nb s) ++ Y := by
    rw [show 1 + (nb s + 1) = nb s + 1 + 1 by omega, List.drop_succ_cons, List.drop_succ_cons, drop_ext s Y _ (by omega)]
  rw [hd2] at hv
  split at hv
  · rename_i h93
    exfalso
    obtain ⟨n, hvs, _⟩ := readL_parts hs
    rw [List.drop_eq_getElem_cons hlt] at h93 hvs
    simp only [List.cons_append, List.head?_cons, Option.some.injEq] at h93
    rw [h93, valL_cons] at hvs
    rw [if_neg (by decide), if_neg (by decide), if_neg (by decide), if_neg (by decide)] at hvs
    cases hvs
  · cases hr : arrF (valL 31) ((91 :: 32 :: (s ++ Y) : List UInt8).length + 1) (s.drop (nb s) ++ Y) (0 + (1 + (nb s + 1))) with
    | error e => rw [hr] at hv; simp at hv
    | ok z =>
      obtain ⟨L, k⟩ := z
      rw [hr] at hv
      simp only [Except.ok.injEq, Prod.mk.injEq] at hv
      obtain ⟨hv, _⟩ := hv
      subst hv
      generalize (91 :: 32 :: (s ++ Y) : List UInt8).length = f at hr
      rw [arrF] at hr
      dsimp only at hr
      have hc0 : nb (s.drop (nb s) ++ Y) = 0 := by
        have hdd : (s.drop (nb s)).drop (nb (s.drop (nb s))) = s.drop (nb s + nb (s.drop (nb s))) := by rw [List.drop_drop]
        have hzz : nb (s.drop (nb s)) = 0 := by
          have : ∀ l : List UInt8, nb (l.drop (nb l)) = 0 := by
            intro l
            induction l with
            | nil => rfl
            | cons c r ih =>
              rw [nb]
              split
              · rw [List.drop_succ_cons]; exact ih
              · rename_i hcb; rw [List.drop_zero, nb, if_neg hcb]
          exact this s
        have := nb_ext (s.drop (nb s)) Y s[nb s] (s.drop (nb s + 1)) (by rw [hzz, List.drop_zero]; exact List.drop_eq_getElem_cons hlt)
        rw [this, hzz]
      rw [hc0, List.drop_zero, Nat.add_zero, Nat.zero_add] at hr
      cases hv1 : valL 31 (s.drop (nb s) ++ Y) (1 + (nb s + 1)) with
      | error e => rw [hv1] at hr; simp at hr
      | ok q =>
        obtain ⟨t1, n1⟩ := q
        rw [hv1] at hr
        dsimp only at hr
        obtain ⟨g1, g2, g3, g4⟩ := val_in hs Y hBY _ t1 n1 hv1
        have hl1 : s.drop (nb s) ++ Y = (s.drop (nb s) ++ [9]) ++ (44 :: 13 :: 10 :: (t ++ [93])) := by rw [← hY]; simp
        have hSl : (s.drop (nb s) ++ [9]).length = s.length - nb s + 1 := by rw [List.length_append, List.length_drop]; rfl
        have hB1 : Blk ((s.drop (nb s) ++ [9]).drop n1) := by
          rw [drop_ext _ _ _ (by rw [List.length_drop]; omega), List.drop_drop]
          intro c hc
          rcases List.mem_append.1 hc with hc | hc
          · exact g3 c hc
          · simp at hc; subst hc; decide
        obtain ⟨p1, p2⟩ := nb_drop_blk (s.drop (nb s) ++ [9]) (44 :: 13 :: 10 :: (t ++ [93])) n1 (by rw [hSl]; omega) hB1 44 _ rfl (by decide)
        rw [← hl1] at p1 p2
        have hb9 : n1 + ((s.drop (nb s) ++ [9]).length - n1) = (s.drop (nb s) ++ [9]).length := by rw [hSl]; omega
        rw [show 0 + n1 = n1 by omega, p1, hb9, p2] at hr
        dsimp only at hr
        rw [if_pos rfl] at hr
        have p3 : (s.drop (nb s) ++ Y).drop ((s.drop (nb s) ++ [9]).length + 1) = 13 :: 10 :: (t ++ [93]) := by rw [← List.drop_drop, p2]; rfl
        rw [p3] at hr
        generalize (1 + (nb s + 1) + ((s.drop (nb s) ++ [9]).length + 1)) = I at hr
        generalize (s.drop (nb s) ++ [9]).length = q at hr
        cases hr2 : arrF (valL 31) f (13 :: 10 :: (t ++ [93])) I with
        | error e => rw [hr2] at hr; simp at hr
        | ok z =>
          obtain ⟨L2, k2⟩ := z
          rw [hr2] at hr
          simp only [Except.ok.injEq, Prod.mk.injEq] at hr
          obtain ⟨hr, _⟩ := hr
          subst hr
          cases f with
          | zero => simp [arrF] at hr2
          | succ f =>
            rw [arrF] at hr2
            dsimp only at hr2
            have hnt : nb (t ++ [93]) = nb t := nb_ext t [93] _ _ (List.drop_eq_getElem_cons hlt2)
            have hn2 : nb (13 :: 10 :: (t ++ [93])) = nb t + 1 + 1 := by rw [nb, if_pos (by decide), nb, if_pos (by decide), hnt]
            have hd3 : (13 :: 10 :: (t ++ [93]) : List UInt8).drop (nb t + 1 + 1) = t.drop (nb t) ++ [93] := by rw [List.drop_succ_cons, List.drop_succ_cons, drop_ext t _ _ (by omega)]
            rw [hn2, hd3] at hr2
            have hB93 : Beh [93] := fun c r e => by injection e with e _; subst e; decide
            cases hv2 : valL 31 (t.drop (nb t) ++ [93]) (I + (nb t + 1 + 1)) with
            | error e => rw [hv2] at hr2; simp at hr2
            | ok q2 =>
              obtain ⟨t2, n2⟩ := q2
              rw [hv2] at hr2
              dsimp only at hr2
              obtain ⟨k1, k2', k3, k4⟩ := val_in ht [93] hB93 _ t2 n2 hv2
              have hl2 : (13 :: 10 :: (t ++ [93]) : List UInt8) = (13 :: 10 :: t) ++ [93] := rfl
              have hB2 : Blk ((13 :: 10 :: t : List UInt8).drop (nb t + 1 + 1 + n2)) := by
                rw [show nb t + 1 + 1 + n2 = nb t + n2 + 1 + 1 by omega, List.drop_succ_cons, List.drop_succ_cons]; exact k3
              obtain ⟨r1, r2⟩ := nb_drop_blk (13 :: 10 :: t) [93] (nb t + 1 + 1 + n2) (by simp; omega) hB2 93 [] rfl (by decide)
              rw [← hl2] at r1 r2
              have hlen2 : (13 :: 10 :: t : List UInt8).length = t.length + 2 := rfl
              have hb8 : nb t + 1 + 1 + n2 + ((13 :: 10 :: t : List UInt8).length - (nb t + 1 + 1 + n2)) = (13 :: 10 :: t : List UInt8).length := by rw [hlen2]; omega
              rw [r1, hb8, r2] at hr2
              dsimp only at hr2
              rw [if_neg (by decide), if_pos rfl] at hr2
              simp only [Except.ok.injEq, Prod.mk.injEq] at hr2
              obtain ⟨hr2, _⟩ := hr2
              subst hr2
              exact ⟨t1, t2, rfl, g4, k4⟩
theorem prF_both {s t : List UInt8} {ts tt x : JT} (hs : readL s = .ok ts) (ht : readL t = .ok tt) (hw : readL (both s t) = .ok x) : prF (.ok x) = (91 :: ((prF (.ok ts)).1 ++ 44 :: (prF (.ok tt)).1) ++ [93], 0, 0) := by
  obtain ⟨t1, t2, rfl, e1, e2⟩ := readL_both hs ht hw
  rw [prF_form, prF_form, prF_form]
  simp only [fmT, fmL, joinC]
  rw [e1, e2]
end Go.Proofs.YtoijppmkkhgkdacGreatDoor
