/-
  Joined by program: QMono, QForm.
-/
import Derived.Test.YtdmpiampghddkabGreatDoorU0
/-
  What is read within fewer brackets is read within more.
-/
namespace Go.Proofs.YtdmpiampghddkabGreatDoor
set_option linter.unusedVariables false

/-- All that v reads u reads. -/
def Mono (v u : List UInt8 → Nat → JR JT) : Prop := ∀ l i t n, v l i = .ok (t, n) → u l i = .ok (t, n)
theorem arrF_mono (v u : List UInt8 → Nat → JR JT) (hv : Mono v u) : ∀ (f : Nat) (l : List UInt8) (i : Nat) (ts : List JT) (k : Nat), arrF v f l i = .ok (ts, k) → arrF u f l i = .ok (ts, k) := by
  intro f
  induction f with
  | zero => intro l i ts k h; simp [arrF] at h
  | succ f ih =>
    intro l i ts k h
    rw [arrF] at h ⊢
    dsimp only at h ⊢
    cases hq : v (l.drop (nb l)) (i + nb l) with
    | error e => rw [hq] at h; simp at h
    | ok q =>
      obtain ⟨t, n⟩ := q
      rw [hq] at h
      rw [hv _ _ _ _ hq]
      dsimp only at h ⊢
      generalize nb l + n + nb (l.drop (nb l + n)) = b at *
      cases hd : l.drop b with
      | nil => rw [hd] at h; simp at h
      | cons c r =>
        rw [hd] at h
        dsimp only at h ⊢
        split at h
        · rename_i h44
          rw [if_pos h44]
          cases hr : arrF v f (l.drop (b + 1)) (i + (b + 1)) with
          | error e => rw [hr] at h; simp at h
          | ok z => obtain ⟨ts', k'⟩ := z; rw [hr] at h; rw [ih _ _ ts' k' hr]; exact h
        · rename_i h44
          rw [if_neg h44]; exact h
theorem objF_mono (v u : List UInt8 → Nat → JR JT) (hv : Mono v u) : ∀ (f : Nat) (ks : List (List UInt8)) (l : List UInt8) (i : Nat) (ms : List (List UInt8 × JT)) (k : Nat), objF v f ks l i = .ok (ms, k) → objF u f ks l i = .ok (ms, k) := by
  intro f
  induction f with
  | zero => intro ks l i ts k h; simp [objF] at h
  | succ f ih =>
    intro ks l i ms k h
    rw [objF] at h ⊢
    dsimp only at h ⊢
    cases hq : quotL (l.drop (nb l)) with
    | error e => rw [hq] at h; simp at h
    | ok q =>
      obtain ⟨name, m⟩ := q
      rw [hq] at h
      dsimp only at h ⊢
      split at h
      · cases h
      · rename_i hks
        rw [if_neg hks]
        generalize nb l + m + nb (l.drop (nb l + m)) = b at *
        cases hd : l.drop b with
        | nil => rw [hd] at h; simp at h
        | cons c r =>
          rw [hd] at h
          dsimp only at h ⊢
          split at h
          · rename_i h58
            rw [if_pos h58]
            generalize b + 1 + nb (l.drop (b + 1)) = d at *
            cases hw : v (l.drop d) (i + d) with
            | error e => rw [hw] at h; simp at h
            | ok q =>
              obtain ⟨t, n⟩ := q
              rw [hw] at h
              rw [hv _ _ _ _ hw]
              dsimp only at h ⊢
              generalize d + n + nb (l.drop (d + n)) = g at *
              cases hg : l.drop g with
              | nil => rw [hg] at h; simp at h
              | cons c2 r2 =>
                rw [hg] at h
                dsimp only at h ⊢
                split at h
                · rename_i h44
                  rw [if_pos h44]
                  cases hr : objF v f (ks ++ [name]) (l.drop (g + 1)) (i + (g + 1)) with
                  | error e => rw [hr] at h; simp at h
                  | ok z => obtain ⟨ms', k'⟩ := z; rw [hr] at h; rw [ih _ _ _ ms' k' hr]; exact h
                · rename_i h44
                  rw [if_neg h44]; exact h
          · cases h
theorem valL_mono : ∀ d, Mono (valL d) (valL (d + 1)) := by
  intro d
  induction d with
  | zero =>
    intro l i t n h
    match l with
    | [] => rw [valL_nil] at h; cases h
    | c :: r =>
      rw [valL_cons] at h ⊢
      generalize (c :: r) = L at *
      split at h
      · rename_i h1; rw [if_pos h1]; exact h
      · rename_i h1
        rw [if_neg h1]
        split at h
        · rename_i h2; rw [if_pos h2]; exact h
        · rename_i h2
          rw [if_neg h2]
          split at h
          · rename_i h3; rw [if_pos h3]; exact h
          · split at h <;> cases h
  | succ d ih =>
    intro l i t n h
    match l with
    | [] => rw [valL_nil] at h; cases h
    | c :: r =>
      rw [valL_cons] at h ⊢
      generalize (c :: r) = L at *
      split at h
      · rename_i h1; rw [if_pos h1]; exact h
      · rename_i h1
        rw [if_neg h1]
        split at h
        · rename_i h2; rw [if_pos h2]; exact h
        · rename_i h2
          rw [if_neg h2]
          split at h
          · rename_i h3; rw [if_pos h3]; exact h
          · rename_i h3
            rw [if_neg h3]
            split at h
            · rename_i h4
              rw [if_pos h4]
              dsimp only at h ⊢
              split at h
              · rename_i h5
                rw [if_pos h5]
                unfold arrL at h ⊢
                dsimp only at h ⊢
                split at h
                · rename_i h6; rw [if_pos h6]; exact h
                · rename_i h6
                  rw [if_neg h6]
                  cases hr : arrF (valL d) (L.length + 1) (L.drop (1 + nb (L.drop 1))) (i + (1 + nb (L.drop 1))) with
                  | error e => rw [hr] at h; simp at h
                  | ok z => obtain ⟨ts, k⟩ := z; rw [hr] at h; rw [arrF_mono _ _ ih _ _ _ _ _ hr]; exact h
              · rename_i h5
                rw [if_neg h5]
                unfold objL at h ⊢
                dsimp only at h ⊢
                split at h
                · rename_i h6; rw [if_pos h6]; exact h
                · rename_i h6
                  rw [if_neg h6]
                  cases hr : objF (valL d) (L.length + 1) [] (L.drop (1 + nb (L.drop 1))) (i + (1 + nb (L.drop 1))) with
                  | error e => rw [hr] at h; simp at h
                  | ok z => obtain ⟨ts, k⟩ := z; rw [hr] at h; rw [objF_mono _ _ ih _ _ _ _ _ _ hr]; exact h
            · cases h
end Go.Proofs.YtdmpiampghddkabGreatDoor
/-
  A tree's one form, said of the tree alone.
-/
namespace Go.Proofs.YtdmpiampghddkabGreatDoor
set_option linter.unusedVariables false

/-- Texts with commas between. -/
def joinC : List (List UInt8) → List UInt8
  | [] => []
  | [a] => a
  | a :: b :: r => a ++ 44 :: joinC (b :: r)
theorem joinC_snoc : ∀ (l : List (List UInt8)) (x : List UInt8), joinC (l ++ [x]) = joinC l ++ (if l = [] then [] else [44]) ++ x
  | [], x => by simp [joinC]
  | [a], x => by simp [joinC]
  | a :: b :: r, x => by
    have h := joinC_snoc (b :: r) x
    simp only [List.cons_append, joinC] at h ⊢
    rw [h]; simp
theorem bodyTo_take (F : Nat → List UInt8) (ks : List Nat) : ∀ j, j ≤ ks.length → bodyTo F ks j = joinC ((ks.take j).map F)
  | 0, _ => by simp [bodyTo, joinC]
  | j + 1, h => by
    have hj : j < ks.length := h
    rw [bodyTo, bodyTo_take F ks j (by omega), List.take_add_one, List.getElem?_eq_getElem hj]
    simp only [Option.toList, List.map_append, List.map_cons, List.map_nil]
    rw [joinC_snoc]
    have e : ks.getD j 0 = ks[j] := by rw [List.getD_eq_getElem?_getD, List.getElem?_eq_getElem hj]; rfl
    rw [e]
    by_cases h0 : j = 0
    · subst h0; simp
    · have : (ks.take j).map F ≠ [] := by
        intro hh
        have h9 := congrArg List.length hh
        rw [List.length_map, List.length_take, List.length_nil] at h9; omega
      rw [if_neg h0, if_neg this]
theorem bodyTo_all (F : Nat → List UInt8) (ks : List Nat) : bodyTo F ks ks.length = joinC (ks.map F) := by
  rw [bodyTo_take F ks ks.length (Nat.le_refl _), List.take_length]
/-- Setting in, of names with their texts. -/
def insP (x : List UInt8 × List UInt8) : List (List UInt8 × List UInt8) → List (List UInt8 × List UInt8)
  | [] => [x]
  | y :: r => if aheadL x.1 y.1 = true then y :: insP x r else x :: y :: r
def srtP (l : List (List UInt8 × List UInt8)) : List (List UInt8 × List UInt8) := l.foldl (fun a x => (insP x a.reverse).reverse) []
theorem insR_map (L : List Nd) (F : Nat → List UInt8) (x : Nat) : ∀ l : List Nat, (insR (ltK L) x l).map (fun k => (keyL L k, F k)) = insP (keyL L x, F x) (l.map fun k => (keyL L k, F k))
  | [] => rfl
  | y :: r => by
    simp only [insR, List.map_cons, insP]
    have e : ltK L x y = aheadL (keyL L x) (keyL L y) := rfl
    rw [e]
    split
    · rw [List.map_cons, insR_map L F x r]
    · rfl
theorem srt_map (L : List Nd) (F : Nat → List UInt8) (l : List Nat) : (srt (ltK L) l).map (fun k => (keyL L k, F k)) = srtP (l.map fun k => (keyL L k, F k)) := by
  have h : ∀ (l acc : List Nat), (l.foldl (insL (ltK L)) acc).map (fun k => (keyL L k, F k)) = (l.map fun k => (keyL L k, F k)).foldl (fun a x => (insP x a.reverse).reverse) (acc.map fun k => (keyL L k, F k)) := by
    intro l
    induction l with
    | nil => intro acc; rfl
    | cons x r ih =>
      intro acc
      rw [List.foldl_cons, ih, List.map_cons, List.foldl_cons]
      congr 1
      unfold insL
      rw [List.map_reverse, insR_map, List.map_reverse]
  exact h l []
def memP (p : List UInt8 × List UInt8) : List UInt8 := strT p.1 ++ 58 :: p.2
mutual
/-- The one form. -/
def fmT : JT → List UInt8
  | .null _ => [110, 117, 108, 108]
  | .truth b _ => if b then [116, 114, 117, 101] else [102, 97, 108, 115, 101]
  | .int n _ => decI n
  | .str t _ => strT t
  | .arr ts _ => 91 :: joinC (fmL ts) ++ [93]
  | .obj ms _ => 123 :: joinC ((srtP (fmM ms)).map memP) ++ [125]
def fmL : List JT → List (List UInt8)
  | [] => []
  | t :: r => fmT t :: fmL r
def fmM : List (List UInt8 × JT) → List (List UInt8 × List UInt8)
  | [] => []
  | (n, t) :: r => (n, fmT t) :: fmM r
end
theorem sub_formL (L : List Nd) (f : Nat) (ih : ∀ (t : JT) (b : Nat) (key : List UInt8), Sub L b key t → t.size ≤ f → formN L f b = fmT t) : ∀ (ts : List JT) (b : Nat), SubL L b ts → sizeL ts ≤ f → (startsL b ts).map (formN L f) = fmL ts
  | [], b, h, hs => rfl
  | t :: r, b, h, hs => by
    rw [sizeL] at hs
    simp only [startsL, List.map_cons, fmL]
    rw [ih t b [] h.head (by omega), sub_formL L f ih r _ h.tail (by omega)]
theorem sub_formM (L : List Nd) (f : Nat) (ih : ∀ (t : JT) (b : Nat) (key : List UInt8), Sub L b key t → t.size ≤ f → formN L f b = fmT t) : ∀ (ms : List (List UInt8 × JT)) (b : Nat), SubM L b ms → sizeM ms ≤ f → (startsM b ms).map (fun k => (keyL L k, formN L f k)) = fmM ms
  | [], b, h, hs => rfl
  | (n, t) :: r, b, h, hs => by
    rw [sizeM] at hs
    simp only [startsM, List.map_cons, fmM]
    rw [ih t b n h.head (by omega), h.head.key, sub_formM L f ih r _ h.tail (by omega)]
/-- Wherever a tree's nodes lie, its form is the same. -/
theorem sub_form (L : List Nd) : ∀ (f : Nat) (t : JT) (b : Nat) (key : List UInt8), Sub L b key t → t.size ≤ f → formN L f b = fmT t := by
  intro f
  induction f with
  | zero => intro t b key h hs; have := size_pos t; omega
  | succ f ih =>
    intro t b key h hs
    have hf := h.first
    cases t with
    | null a => simp [flat] at hf; simp [formN, hf, fmT]
    | truth x a => simp [flat] at hf; cases x <;> simp [formN, hf, fmT]
    | int n a => simp [flat] at hf; simp [formN, hf, fmT]
    | str x a => simp [flat] at hf; simp [formN, hf, fmT]
    | arr ts a =>
      simp [flat] at hf
      simp only [formN, hf]
      simp only [JT.size] at hs
      rw [if_neg (by decide), if_neg (by decide), if_neg (by decide), if_neg (by decide), if_pos trivial, bodyTo_all, sub_formL L f ih ts (b + 1) h.arr (by omega), fmT]
    | obj ms a =>
      simp [flat] at hf
      simp only [formN, hf]
      simp only [JT.size] at hs
      have hl : (startsM (b + 1) ms).length = (srt (ltK L) (startsM (b + 1) ms)).length := (srt_len _ _).symm
      rw [if_neg (by decide), if_neg (by decide), if_neg (by decide), if_neg (by decide), if_neg (by decide), hl, bodyTo_all, fmT]
      have e : (srt (ltK L) (startsM (b + 1) ms)).map (memF L (formN L f)) = ((srt (ltK L) (startsM (b + 1) ms)).map (fun k => (keyL L k, formN L f k))).map memP := by
        rw [List.map_map]; rfl
      rw [e, srt_map, sub_formM L f ih ms (b + 1) h.obj (by omega)]
theorem prF_form (t : JT) : prF (.ok t) = (fmT t, 0, 0) := by
  unfold prF
  simp only
  rw [flat_length, sub_form (flat 0 [] t) t.size t 0 [] (fun j hj => by rw [Nat.zero_add]) (Nat.le_refl _)]
end Go.Proofs.YtdmpiampghddkabGreatDoor
