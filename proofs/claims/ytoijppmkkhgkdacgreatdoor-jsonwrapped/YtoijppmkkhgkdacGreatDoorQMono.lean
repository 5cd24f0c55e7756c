import Derived.Test.YtoijppmkkhgkdacGreatDoorU0
/-
  What is read within fewer brackets is read within more.
-/
namespace Go.Proofs.YtoijppmkkhgkdacGreatDoor
set_option linter.unusedVariables false

/-- All that v reads u reads. -/
def Mono (v u : List UInt8 → Nat → JR JT) : Prop := ∀ l i t n, v l i = .ok (t, n) → u l i = .ok (t, n)
theorem arrF_mono (v u : List UInt8 → Nat → JR JT) (hv : Mono v u) : ∀ (f : Nat) (l : List UInt8) (i : Nat) (ts : List JT) (k : Nat), arrF v f l i = .ok (ts, k) → arrF u f l i = .ok (ts, k) := by
  intro f
  induction f with
  | zero => intro l i ts k h; simp [arrF] at h
  | succ f ih =>
    intro l i ts k h
    rw [arrF] at h ⊢
    dsimp only at h ⊢
    cases hq : v (l.drop (nb l)) (i + nb l) with
    | error e => rw [hq] at h; simp at h
    | ok q =>
      obtain ⟨t, n⟩ := q
      rw [hq] at h
      rw [hv _ _ _ _ hq]
      dsimp only at h ⊢
      generalize nb l + n + nb (l.drop (nb l + n)) = b at *
      cases hd : l.drop b with
      | nil => rw [hd] at h; simp at h
      | cons c r =>
        rw [hd] at h
        dsimp only at h ⊢
        split at h
        · rename_i h44
          rw [if_pos h44]
          cases hr : arrF v f (l.drop (b + 1)) (i + (b + 1)) with
          | error e => rw [hr] at h; simp at h
          | ok z => obtain ⟨ts', k'⟩ := z; rw [hr] at h; rw [ih _ _ ts' k' hr]; exact h
        · rename_i h44
          rw [if_neg h44]; exact h
theorem objF_mono (v u : List UInt8 → Nat → JR JT) (hv : Mono v u) : ∀ (f : Nat) (ks : List (List UInt8)) (l : List UInt8) (i : Nat) (ms : List (List UInt8 × JT)) (k : Nat), objF v f ks l i = .ok (ms, k) → objF u f ks l i = .ok (ms, k) := by
  intro f
  induction f with
  | zero => intro ks l i ts k h; simp [objF] at h
  | succ f ih =>
    intro ks l i ms k h
    rw [objF] at h ⊢
    dsimp only at h ⊢
    cases hq : quotL (l.drop (nb l)) with
    | error e => rw [hq] at h; simp at h
    | ok q =>
      obtain ⟨name, m⟩ := q
      rw [hq] at h
      dsimp only at h ⊢
      split at h
      · cases h
      · rename_i hks
        rw [if_neg hks]
        generalize nb l + m + nb (l.drop (nb l + m)) = b at *
        cases hd : l.drop b with
        | nil => rw [hd] at h; simp at h
        | cons c r =>
          rw [hd] at h
          dsimp only at h ⊢
          split at h
          · rename_i h58
            rw [if_pos h58]
            generalize b + 1 + nb (l.drop (b + 1)) = d at *
            cases hw : v (l.drop d) (i + d) with
            | error e => rw [hw] at h; simp at h
            | ok q =>
              obtain ⟨t, n⟩ := q
              rw [hw] at h
              rw [hv _ _ _ _ hw]
              dsimp only at h ⊢
              generalize d + n + nb (l.drop (d + n)) = g at *
              cases hg : l.drop g with
              | nil => rw [hg] at h; simp at h
              | cons c2 r2 =>
                rw [hg] at h
                dsimp only at h ⊢
                split at h
                · rename_i h44
                  rw [if_pos h44]
                  cases hr : objF v f (ks ++ [name]) (l.drop (g + 1)) (i + (g + 1)) with
                  | error e => rw [hr] at h; simp at h
                  | ok z => obtain ⟨ms', k'⟩ := z; rw [hr] at h; rw [ih _ _ _ ms' k' hr]; exact h
                · rename_i h44
                  rw [if_neg h44]; exact h
          · cases h
theorem valL_mono : ∀ d, Mono (valL d) (valL (d + 1)) := by
  intro d
  induction d with
  | zero =>
    intro l i t n h
    match l with
    | [] => rw [valL_nil] at h; cases h
    | c :: r =>
      rw [valL_cons] at h ⊢
      generalize (c :: r) = L at *
      split at h
      · rename_i h1; rw [if_pos h1]; exact h
      · rename_i h1
        rw [if_neg h1]
        split at h
        · rename_i h2; rw [if_pos h2]; exact h
        · rename_i h2
          rw [if_neg h2]
          split at h
          · rename_i h3; rw [if_pos h3]; exact h
          · split at h <;> cases h
  | succ d ih =>
    intro l i t n h
    match l with
    | [] => rw [valL_nil] at h; cases h
    | c :: r =>
      rw [valL_cons] at h ⊢
      generalize (c :: r) = L at *
      split at h
      · rename_i h1; rw [if_pos h1]; exact h
      · rename_i h1
        rw [if_neg h1]
        split at h
        · rename_i h2; rw [if_pos h2]; exact h
        · rename_i h2
          rw [if_neg h2]
          split at h
          · rename_i h3; rw [if_pos h3]; exact h
          · rename_i h3
            rw [if_neg h3]
            split at h
            · rename_i h4
              rw [if_pos h4]
              dsimp only at h ⊢
              split at h
              · rename_i h5
                rw [if_pos h5]
                unfold arrL at h ⊢
                dsimp only at h ⊢
                split at h
                · rename_i h6; rw [if_pos h6]; exact h
                · rename_i h6
                  rw [if_neg h6]
                  cases hr : arrF (valL d) (L.length + 1) (L.drop (1 + nb (L.drop 1))) (i + (1 + nb (L.drop 1))) with
                  | error e => rw [hr] at h; simp at h
                  | ok z => obtain ⟨ts, k⟩ := z; rw [hr] at h; rw [arrF_mono _ _ ih _ _ _ _ _ hr]; exact h
              · rename_i h5
                rw [if_neg h5]
                unfold objL at h ⊢
                dsimp only at h ⊢
                split at h
                · rename_i h6; rw [if_pos h6]; exact h
                · rename_i h6
                  rw [if_neg h6]
                  cases hr : objF (valL d) (L.length + 1) [] (L.drop (1 + nb (L.drop 1))) (i + (1 + nb (L.drop 1))) with
                  | error e => rw [hr] at h; simp at h
                  | ok z => obtain ⟨ts, k⟩ := z; rw [hr] at h; rw [objF_mono _ _ ih _ _ _ _ _ _ hr]; exact h
            · cases h
end Go.Proofs.YtoijppmkkhgkdacGreatDoor
