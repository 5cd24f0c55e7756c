/-
  Joined by program: QCost, QShort.
-/
import Derived.Test.YtoijppmkkhgkdacGreatDoorJPureP
/-
  What is read is no longer than the text; what would be written of it is at most 30 times as long.
-/
namespace Go.Proofs.YtoijppmkkhgkdacGreatDoor
set_option linter.unusedVariables false

theorem fourG_lenQ : ∀ (k n : Nat) (l : List UInt8) (o m o' : Nat), fourG k n l o = (some m, o') → k ≤ l.length
  | 0, n, l, o, m, o', h => Nat.zero_le _
  | k + 1, n, [], o, m, o', h => by simp [fourG] at h
  | k + 1, n, c :: r, o, m, o', h => by
    rw [fourG] at h
    split at h
    · simp at h
    · have := fourG_lenQ k _ _ _ _ _ h
      simp; omega
theorem lowL_lenQ {l : List UInt8} {m : Nat} (h : lowL l = some m) : 6 ≤ l.length := by
  unfold lowL at h
  split at h
  · rename_i a b r
    split at h
    · split at h
      · rename_i n hn
        have : 4 ≤ r.length := by
          have h4 : four4 r = (some n, (four4 r).2) := Prod.ext hn rfl
          exact fourG_lenQ 4 0 r 0 _ _ h4
        simp; omega
      · cases h
    · cases h
  · cases h
theorem escL_lenQ {l t : List UInt8} {n : Nat} (h : escL l = .ok (t, n)) : n ≤ l.length := by
  unfold escL at h
  split at h
  · rename_i a c r
    split at h
    · injection h with h; injection h with h1 h2; subst h2; simp
    · split at h
      · split at h
        · cases h
        · rename_i m o h4
          have h4' : 4 ≤ r.length := fourG_lenQ 4 0 r 0 _ _ h4
          unfold pairL at h
          split at h
          · injection h with h; injection h with h1 h2; subst h2; simp; omega
          · split at h
            · cases h
            · rename_i m' hl
              have := lowL_lenQ hl
              rw [List.length_drop] at this
              split at h
              · cases h
              · injection h with h; injection h with h1 h2; subst h2; simp; omega
      · cases h
  · cases h

theorem strF_lenQ : ∀ (f : Nat) (l t : List UInt8) (n : Nat), strF f l = .ok (t, n) → t.length + 1 ≤ n ∧ n ≤ l.length := by
  intro f
  induction f with
  | zero => intro l t n h; simp [strF] at h
  | succ f ih =>
    intro l t n h
    match l with
    | [] => simp [strF] at h
    | c :: r =>
      rw [strF] at h
      have key : ∀ (acc : List UInt8) (k : Nat), acc.length ≤ k → k ≤ (c :: r).length → shiftS acc k (strF f ((c :: r).drop k)) = .ok (t, n) → t.length + 1 ≤ n ∧ n ≤ (c :: r).length := by
        intro acc k ha hk hh
        generalize (c :: r) = L at *
        cases hs : strF f (L.drop k) with
        | error o => rw [hs] at hh; simp [shiftS] at hh
        | ok q =>
          obtain ⟨t', n'⟩ := q
          have := ih _ _ _ hs
          rw [List.length_drop] at this
          rw [hs, shiftS] at hh
          injection hh with hh; injection hh with h1 h2; subst h1; subst h2
          rw [List.length_append]; omega
      split at h
      · injection h with h; injection h with h1 h2; subst h1; subst h2; simp
      · split at h
        · cases h
        · split at h
          · split at h
            · cases h
            · rename_i t' n' he
              exact key t' n' (escL_ok he).1 (escL_lenQ he) h
          · split at h
            · cases h
            · have := seqLen_len (c :: r)
              exact key _ _ (by rw [List.length_take]; omega) this h
theorem quotL_lenQ {l t : List UInt8} {n : Nat} (h : quotL l = .ok (t, n)) : t.length + 2 ≤ n ∧ n ≤ l.length := by
  unfold quotL at h
  split at h
  · rename_i c r
    split at h
    · split at h
      · rename_i t' n' hs
        have := strF_lenQ _ _ _ _ hs
        injection h with h; injection h with h1 h2; subst h1; subst h2
        simp; omega
      · cases h
    · cases h
  · cases h
theorem accN_len : ∀ (l : List UInt8) (n : Nat), n ≤ 10 * maxI + 300 → accN n l ≤ 10 * maxI + 300
  | [], n, h => h
  | c :: r, n, h => by
    rw [accN]
    apply accN_len r
    split
    · have := c.toNat_lt; omega
    · exact h
theorem intL_lenQ {l : List UInt8} {m : Int} {n : Nat} (h : intL l = .ok (m, n)) : 1 ≤ n ∧ n ≤ l.length ∧ -9223372036854775808 ≤ m ∧ m ≤ 9223372036854775807 := by
  have h1 := intL_pos h
  unfold intL at h
  dsimp only at h
  have hd := nd_le (l.drop (if l.head? = some 45 then 1 else 0))
  rw [List.length_drop] at hd
  generalize (if l.head? = some 45 then 1 else 0) = a at h hd
  split at h
  · cases h
  · rename_i hk
    split at h
    · cases h
    · rename_i hm
      injection h with h; injection h with e1 e2
      have hm' : accN 0 ((l.drop a).take (nd (l.drop a))) ≤ 9007199254740991 := by unfold maxI at hm; omega
      refine ⟨h1, by omega, ?_⟩
      split at e1 <;> omega
theorem wordL_lenQ {l : List UInt8} {i n : Nat} {t : JT} (h : wordL l i = .ok (t, n)) : n ≤ l.length ∧ 4 ≤ n ∧ ((∃ b, t = .truth b i) ∨ t = .null i) := by
  have hl : ∀ k, (l.take (nl l)).length = k → k ≤ l.length := fun k hk => by rw [List.length_take] at hk; omega
  unfold wordL at h
  dsimp only at h
  split at h
  · rename_i e; injection h with h; injection h with h1 h2; subst h1; subst h2; exact ⟨hl 4 (by rw [e]; rfl), by omega, .inl ⟨_, rfl⟩⟩
  · split at h
    · rename_i e; injection h with h; injection h with h1 h2; subst h1; subst h2; exact ⟨hl 5 (by rw [e]; rfl), by omega, .inl ⟨_, rfl⟩⟩
    · split at h
      · rename_i e; injection h with h; injection h with h1 h2; subst h1; subst h2; exact ⟨hl 4 (by rw [e]; rfl), by omega, .inr rfl⟩
      · cases h

mutual
/-- What would be written of a tree is at most so long. -/
def cost : JT → Nat
  | .null _ => 4
  | .truth _ _ => 5
  | .int _ _ => 21
  | .str t _ => 6 * t.length + 2
  | .arr ts _ => 2 + costL ts
  | .obj ms _ => 2 + costM ms
def costL : List JT → Nat
  | [] => 0
  | t :: r => cost t + 1 + costL r
def costM : List (List UInt8 × JT) → Nat
  | [] => 0
  | (k, t) :: r => 6 * k.length + 4 + cost t + costM r
end

/-- What is said of a value that was read. -/
def Rok (l : List UInt8) (t : JT) (n : Nat) : Prop := n ≤ l.length ∧ cost t ≤ 30 * n ∧ ∀ M, l.length ≤ M → okT M t
theorem drop_ltQ {l : List UInt8} {b : Nat} {c : UInt8} {r : List UInt8} (h : l.drop b = c :: r) : b < l.length := by
  by_cases hb : b < l.length
  · exact hb
  · rw [List.drop_of_length_le (by omega)] at h; cases h
theorem arrF_rok (v : List UInt8 → Nat → JR JT) (hv : ∀ l i t n, v l i = .ok (t, n) → Rok l t n) : ∀ (f : Nat) (l : List UInt8) (i : Nat) (ts : List JT) (k : Nat), arrF v f l i = .ok (ts, k) → (1 ≤ k ∧ k ≤ l.length) ∧ costL ts ≤ 30 * k ∧ ∀ M, l.length ≤ M → okL M ts := by
  intro f
  induction f with
  | zero => intro l i ts k h; simp [arrF] at h
  | succ f ih =>
    intro l i ts k h
    rw [arrF] at h
    dsimp only at h
    split at h
    · cases h
    · rename_i t n hvt
      obtain ⟨h0, h00, h01⟩ := hv _ _ _ _ hvt
      rw [List.length_drop] at h0 h01
      split at h
      · rename_i c r hd
        have hb := drop_ltQ hd
        split at h
        · split at h
          · cases h
          · rename_i ts' k' hr
            obtain ⟨g0, g1, g2⟩ := ih _ _ _ _ hr
            rw [List.length_drop] at g0 g2
            injection h with h; injection h with h1 h2; subst h1; subst h2
            refine ⟨by omega, by simp only [costL]; omega, fun M hM => ?_⟩
            rw [okL]; exact ⟨h01 M (by omega), g2 M (by omega)⟩
        · split at h
          · injection h with h; injection h with h1 h2; subst h1; subst h2
            refine ⟨by omega, by simp only [costL]; omega, fun M hM => ?_⟩
            rw [okL, okL]; exact ⟨h01 M (by omega), trivial⟩
          · cases h
      · cases h
theorem objF_rok (v : List UInt8 → Nat → JR JT) (hv : ∀ l i t n, v l i = .ok (t, n) → Rok l t n) : ∀ (f : Nat) (ks : List (List UInt8)) (l : List UInt8) (i : Nat) (ms : List (List UInt8 × JT)) (k : Nat), objF v f ks l i = .ok (ms, k) → (1 ≤ k ∧ k ≤ l.length) ∧ costM ms ≤ 30 * k ∧ ∀ M, l.length ≤ M → okM M ms := by
  intro f
  induction f with
  | zero => intro ks l i ts k h; simp [objF] at h
  | succ f ih =>
    intro ks l i ms k h
    rw [objF] at h
    dsimp only at h
    split at h
    · cases h
    · rename_i name m hq
      obtain ⟨q0, q1⟩ := quotL_lenQ hq
      rw [List.length_drop] at q1
      split at h
      · cases h
      · split at h
        · rename_i c0 r0 hd0
          have hb0 := drop_ltQ hd0
          split at h
          · split at h
            · cases h
            · rename_i t n hvt
              obtain ⟨h0, h00, h01⟩ := hv _ _ _ _ hvt
              rw [List.length_drop] at h0 h01
              split at h
              · rename_i c r hd
                have hb := drop_ltQ hd
                split at h
                · split at h
                  · cases h
                  · rename_i ms' k' hr
                    obtain ⟨g0, g1, g2⟩ := ih _ _ _ _ _ hr
                    rw [List.length_drop] at g0 g2
                    injection h with h; injection h with h1 h2; subst h1; subst h2
                    refine ⟨by omega, by simp only [costM]; omega, fun M hM => ?_⟩
                    rw [okM]; exact ⟨by omega, h01 M (by omega), g2 M (by omega)⟩
                · split at h
                  · injection h with h; injection h with h1 h2; subst h1; subst h2
                    refine ⟨by omega, by simp only [costM]; omega, fun M hM => ?_⟩
                    rw [okM, okM]; exact ⟨by omega, h01 M (by omega), trivial⟩
                  · cases h
              · cases h
          · cases h
        · cases h
theorem arrL_rok (v : List UInt8 → Nat → JR JT) (hv : ∀ l i t n, v l i = .ok (t, n) → Rok l t n) (l : List UInt8) (i : Nat) (t : JT) (n : Nat) (h : arrL v l i = .ok (t, n)) : Rok l t n := by
  unfold arrL at h
  dsimp only at h
  split at h
  · rename_i hh
    injection h with h; injection h with h1 h2; subst h1; subst h2
    have hb : 1 + nb (l.drop 1) < l.length := by
      by_cases hb : 1 + nb (l.drop 1) < l.length
      · exact hb
      · rw [List.drop_of_length_le (by omega)] at hh; simp at hh
    exact ⟨by omega, by simp only [cost, costL]; omega, fun M _ => by simp [okT, okL]⟩
  · split at h
    · cases h
    · rename_i ts k hr
      obtain ⟨g0, g1, g2⟩ := arrF_rok v hv _ _ _ _ _ hr
      rw [List.length_drop] at g0 g2
      injection h with h; injection h with h1 h2; subst h1; subst h2
      exact ⟨by omega, by simp only [cost]; omega, fun M hM => by rw [okT]; exact g2 M (by omega)⟩
theorem objL_rok (v : List UInt8 → Nat → JR JT) (hv : ∀ l i t n, v l i = .ok (t, n) → Rok l t n) (l : List UInt8) (i : Nat) (t : JT) (n : Nat) (h : objL v l i = .ok (t, n)) : Rok l t n := by
  unfold objL at h
  dsimp only at h
  split at h
  · rename_i hh
    injection h with h; injection h with h1 h2; subst h1; subst h2
    have hb : 1 + nb (l.drop 1) < l.length := by
      by_cases hb : 1 + nb (l.drop 1) < l.length
      · exact hb
      · rw [List.drop_of_length_le (by omega)] at hh; simp at hh
    exact ⟨by omega, by simp only [cost, costM]; omega, fun M _ => by simp [okT, okM]⟩
  · split at h
    · cases h
    · rename_i ms k hr
      obtain ⟨g0, g1, g2⟩ := objF_rok v hv _ _ _ _ _ _ hr
      rw [List.length_drop] at g0 g2
      injection h with h; injection h with h1 h2; subst h1; subst h2
      exact ⟨by omega, by simp only [cost]; omega, fun M hM => by rw [okT]; exact g2 M (by omega)⟩
theorem valL_rok : ∀ (d : Nat) (l : List UInt8) (i : Nat) (t : JT) (n : Nat), valL d l i = .ok (t, n) → Rok l t n := by
  intro d
  induction d with
  | zero =>
    intro l i t n h
    match l with
    | [] => rw [valL_nil] at h; cases h
    | c :: r =>
      rw [valL_cons] at h
      generalize (c :: r) = L at *
      split at h
      · split at h
        · cases h
        · rename_i hq; have := quotL_lenQ hq; injection h with h; injection h with h1 h2; subst h1; subst h2; exact ⟨by omega, by simp only [cost]; omega, fun M hM => by rw [okT]; omega⟩
      · split at h
        · split at h
          · cases h
          · rename_i hq; have := intL_lenQ hq; injection h with h; injection h with h1 h2; subst h1; subst h2; exact ⟨by omega, by simp only [cost]; omega, fun M hM => by rw [okT]; omega⟩
        · split at h
          · obtain ⟨h1, h2, ⟨b, rfl⟩ | rfl⟩ := wordL_lenQ h
            · exact ⟨h1, by simp only [cost]; omega, fun M hM => by simp [okT]⟩
            · exact ⟨h1, by simp only [cost]; omega, fun M hM => by simp [okT]⟩
          · split at h <;> cases h
  | succ d ih =>
    intro l i t n h
    match l with
    | [] => rw [valL_nil] at h; cases h
    | c :: r =>
      rw [valL_cons] at h
      generalize (c :: r) = L at *
      split at h
      · split at h
        · cases h
        · rename_i hq; have := quotL_lenQ hq; injection h with h; injection h with h1 h2; subst h1; subst h2; exact ⟨by omega, by simp only [cost]; omega, fun M hM => by rw [okT]; omega⟩
      · split at h
        · split at h
          · cases h
          · rename_i hq; have := intL_lenQ hq; injection h with h; injection h with h1 h2; subst h1; subst h2; exact ⟨by omega, by simp only [cost]; omega, fun M hM => by rw [okT]; omega⟩
        · split at h
          · obtain ⟨h1, h2, ⟨b, rfl⟩ | rfl⟩ := wordL_lenQ h
            · exact ⟨h1, by simp only [cost]; omega, fun M hM => by simp [okT]⟩
            · exact ⟨h1, by simp only [cost]; omega, fun M hM => by simp [okT]⟩
          · split at h
            · dsimp only at h
              split at h
              · exact arrL_rok _ ih _ _ _ _ h
              · exact objL_rok _ ih _ _ _ _ h
            · cases h
theorem readL_rok {l : List UInt8} {t : JT} (h : readL l = .ok t) : cost t ≤ 1966080 ∧ okT 65536 t ∧ t.size ≤ 65536 := by
  unfold readL at h
  split at h
  · cases h
  · rename_i hl
    dsimp only at h
    split at h
    · cases h
    · rename_i t' n hv
      obtain ⟨h0, h1, h2⟩ := valL_rok _ _ _ _ _ hv
      have h3 := valL_size _ _ _ _ _ hv
      rw [List.length_drop] at h0 h2
      split at h
      · cases h
      · injection h with h; subst h
        exact ⟨by omega, h2 65536 (by omega), by omega⟩
end Go.Proofs.YtoijppmkkhgkdacGreatDoor
/-
  What is written of a tree that was read is short.
-/
namespace Go.Proofs.YtoijppmkkhgkdacGreatDoor
set_option linter.unusedVariables false

theorem insR_sum (lt : Nat → Nat → Bool) (g : Nat → Nat) (x : Nat) (l : List Nat) : ((insR lt x l).map g).sum = g x + (l.map g).sum := by
  induction l with
  | nil => simp [insR]
  | cons y r ih =>
    rw [insR]
    split
    · simp only [List.map_cons, List.sum_cons, ih]; omega
    · simp
theorem sum_reverse (g : Nat → Nat) (l : List Nat) : (l.reverse.map g).sum = (l.map g).sum := by
  induction l with
  | nil => rfl
  | cons x r ih => simp only [List.reverse_cons, List.map_append, List.sum_append, ih, List.map_cons, List.map_nil, List.sum_cons, List.sum_nil]; omega
theorem insL_sum (lt : Nat → Nat → Bool) (g : Nat → Nat) (l : List Nat) (x : Nat) : ((insL lt l x).map g).sum = g x + (l.map g).sum := by
  unfold insL
  rw [sum_reverse, insR_sum, sum_reverse]
theorem fold_sum (lt : Nat → Nat → Bool) (g : Nat → Nat) (l : List Nat) : ∀ acc : List Nat, ((l.foldl (insL lt) acc).map g).sum = (acc.map g).sum + (l.map g).sum := by
  induction l with
  | nil => intro acc; simp
  | cons x r ih => intro acc; rw [List.foldl_cons, ih, insL_sum]; simp only [List.map_cons, List.sum_cons]; omega
theorem srt_sum (lt : Nat → Nat → Bool) (g : Nat → Nat) (l : List Nat) : ((srt lt l).map g).sum = (l.map g).sum := by
  unfold srt; rw [fold_sum]; simp

theorem bodyTo_len (f : Nat → List UInt8) (ks : List Nat) : ∀ j, j ≤ ks.length → (bodyTo f ks j).length ≤ ((ks.take j).map fun k => (f k).length + 1).sum := by
  intro j
  induction j with
  | zero => intro _; simp [bodyTo]
  | succ j ih =>
    intro hj
    have h1 := ih (by omega)
    have hk : ks[j]? = some ks[j] := List.getElem?_eq_getElem (by omega)
    rw [bodyTo, List.take_add_one, hk, List.getD_eq_getElem?_getD, hk]
    simp only [List.length_append, List.map_append, List.sum_append, Option.toList_some, List.map_cons, List.map_nil, List.sum_cons, List.sum_nil, Option.getD_some]
    split
    · simp only [List.length_nil]; omega
    · simp only [List.length_cons, List.length_nil]; omega
theorem take_sum (g : Nat → Nat) (l : List Nat) (j : Nat) : ((l.take j).map g).sum ≤ (l.map g).sum := by
  have h : (l.map g).sum = ((l.take j).map g).sum + ((l.drop j).map g).sum := by
    rw [← List.sum_append, ← List.map_append, List.take_append_drop]
  omega
theorem bodyTo_sum (f : Nat → List UInt8) (ks : List Nat) (j : Nat) (hj : j ≤ ks.length) : (bodyTo f ks j).length ≤ (ks.map fun k => (f k).length + 1).sum :=
  Nat.le_trans (bodyTo_len f ks j hj) (take_sum _ _ _)

/-- From b on the list L holds the tree t, laid flat. -/
def Sub (L : List Nd) (b : Nat) (key : List UInt8) (t : JT) : Prop := ∀ j, j < t.size → L[b + j]? = (flat b key t)[j]?
def SubL (L : List Nd) (b : Nat) (ts : List JT) : Prop := ∀ j, j < sizeL ts → L[b + j]? = (flatL b ts)[j]?
def SubM (L : List Nd) (b : Nat) (ms : List (List UInt8 × JT)) : Prop := ∀ j, j < sizeM ms → L[b + j]? = (flatM b ms)[j]?
theorem Sub.arr {L : List Nd} {b : Nat} {key : List UInt8} {ts : List JT} {i : Nat} (h : Sub L b key (.arr ts i)) : SubL L (b + 1) ts := fun j hj => by
  have := h (j + 1) (by rw [JT.size]; omega)
  rw [flat, List.getElem?_cons_succ] at this
  rw [show b + 1 + j = b + (j + 1) by omega]; exact this
theorem Sub.obj {L : List Nd} {b : Nat} {key : List UInt8} {ms : List (List UInt8 × JT)} {i : Nat} (h : Sub L b key (.obj ms i)) : SubM L (b + 1) ms := fun j hj => by
  have := h (j + 1) (by rw [JT.size]; omega)
  rw [flat, List.getElem?_cons_succ] at this
  rw [show b + 1 + j = b + (j + 1) by omega]; exact this
theorem SubL.head {L : List Nd} {b : Nat} {t : JT} {r : List JT} (h : SubL L b (t :: r)) : Sub L b [] t := fun j hj => by
  have := h j (by rw [sizeL]; omega)
  rw [flatL, List.getElem?_append_left (by rw [flat_length]; exact hj)] at this
  exact this
theorem SubL.tail {L : List Nd} {b : Nat} {t : JT} {r : List JT} (h : SubL L b (t :: r)) : SubL L (b + t.size) r := fun j hj => by
  have := h (t.size + j) (by rw [sizeL]; omega)
  rw [flatL, List.getElem?_append_right (by rw [flat_length]; omega), flat_length, Nat.add_sub_cancel_left] at this
  rw [show b + t.size + j = b + (t.size + j) by omega]; exact this
theorem SubM.head {L : List Nd} {b : Nat} {k : List UInt8} {t : JT} {r : List (List UInt8 × JT)} (h : SubM L b ((k, t) :: r)) : Sub L b k t := fun j hj => by
  have := h j (by rw [sizeM]; omega)
  rw [flatM, List.getElem?_append_left (by rw [flat_length]; exact hj)] at this
  exact this
theorem SubM.tail {L : List Nd} {b : Nat} {k : List UInt8} {t : JT} {r : List (List UInt8 × JT)} (h : SubM L b ((k, t) :: r)) : SubM L (b + t.size) r := fun j hj => by
  have := h (t.size + j) (by rw [sizeM]; omega)
  rw [flatM, List.getElem?_append_right (by rw [flat_length]; omega), flat_length, Nat.add_sub_cancel_left] at this
  rw [show b + t.size + j = b + (t.size + j) by omega]; exact this
theorem Sub.first {L : List Nd} {b : Nat} {key : List UInt8} {t : JT} (h : Sub L b key t) : L[b]? = (flat b key t)[0]? := h 0 (by have := size_pos t; omega)
theorem Sub.key {L : List Nd} {b : Nat} {key : List UInt8} {t : JT} (h : Sub L b key t) : keyL L b = key := by
  have h1 := h.first
  cases t <;> (rw [flat] at h1; exact keyL_of h1)

theorem strT_len (t : List UInt8) : (strT t).length ≤ 6 * t.length + 2 := by
  have := sgnsL_len t
  unfold strT
  simp only [List.length_append, List.length_cons, List.length_nil]; omega
theorem decI_len (n : Int) (h0 : -9223372036854775808 ≤ n) (h1 : n ≤ 9223372036854775807) : (decI n).length ≤ 21 := by
  unfold decI
  split
  · have := decN_le (n := (-n).toNat) (by omega); simp only [List.length_cons]; omega
  · have := decN_le (n := n.toNat) (by omega); omega

theorem sumL (L : List Nd) (F : Nat → List UInt8) (hF : ∀ b key t, Sub L b key t → okT 65536 t → (F b).length ≤ cost t) : ∀ (ts : List JT) (b : Nat), SubL L b ts → okL 65536 ts → ((startsL b ts).map fun k => (F k).length + 1).sum ≤ costL ts := by
  intro ts
  induction ts with
  | nil => intro b _ _; simp [startsL, costL]
  | cons t r ih =>
    intro b h ho
    rw [okL] at ho
    have h1 := hF b [] t h.head ho.1
    have h2 := ih _ h.tail ho.2
    rw [startsL, costL, List.map_cons, List.sum_cons]; omega
theorem sumM (L : List Nd) (F : Nat → List UInt8) (hF : ∀ b key t, Sub L b key t → okT 65536 t → (F b).length ≤ cost t) : ∀ (ms : List (List UInt8 × JT)) (b : Nat), SubM L b ms → okM 65536 ms → ((startsM b ms).map fun k => (memF L F k).length + 1).sum ≤ costM ms := by
  intro ms
  induction ms with
  | nil => intro b _ _; simp [startsM, costM]
  | cons m r ih =>
    obtain ⟨k, t⟩ := m
    intro b h ho
    rw [okM] at ho
    have h1 := hF b k t h.head ho.2.1
    have h2 := ih _ h.tail ho.2.2
    have h3 := strT_len k
    have h4 : (memF L F b).length = (strT k).length + 1 + (F b).length := by
      unfold memF
      rw [h.head.key, List.length_append, List.length_cons]; omega
    rw [startsM, costM, List.map_cons, List.sum_cons, h4]; omega
theorem form_cost (L : List Nd) : ∀ (f b : Nat) (key : List UInt8) (t : JT), Sub L b key t → okT 65536 t → (formN L f b).length ≤ cost t := by
  intro f
  induction f with
  | zero => intro b key t _ _; simp [formN]
  | succ f ih =>
    intro b key t h ho
    have h1 := h.first
    cases t with
    | null i => rw [flat] at h1; rw [formN, h1]; simp [cost]
    | truth x i => rw [flat] at h1; rw [formN, h1]; cases x <;> simp [cost]
    | int n i => rw [flat] at h1; rw [formN, h1]; rw [okT] at ho; have := decI_len n ho.1 ho.2; simp only [List.getElem?_cons_zero, cost]; simpa using this
    | str s i => rw [flat] at h1; rw [formN, h1]; have := strT_len s; simp only [List.getElem?_cons_zero, cost]; simpa using this
    | arr ts i =>
      have h2 := sumL L (formN L f) (ih · · ·) ts (b + 1) h.arr (by rw [okT] at ho; exact ho)
      rw [flat] at h1
      have h3 := bodyTo_sum (formN L f) (startsL (b + 1) ts) _ (Nat.le_refl _)
      rw [formN, h1]
      simp [cost]
      omega
    | obj ms i =>
      have h2 := sumM L (formN L f) (ih · · ·) ms (b + 1) h.obj (by rw [okT] at ho; exact ho)
      rw [flat] at h1
      have h3 := bodyTo_sum (memF L (formN L f)) (srt (ltK L) (startsM (b + 1) ms)) (startsM (b + 1) ms).length (Nat.le_of_eq (srt_len _ _).symm)
      rw [srt_sum] at h3
      rw [formN, h1]
      simp [cost]
      omega

mutual
theorem sub_at (L : List Nd) (b : Nat) (key : List UInt8) (t : JT) (h : Sub L b key t) (ho : okT 65536 t) : ∀ k, k < t.size → ∃ key' t', Sub L (b + k) key' t' ∧ okT 65536 t' ∧ cost t' ≤ cost t := by
  intro k hk
  cases k with
  | zero => exact ⟨key, t, h, ho, Nat.le_refl _⟩
  | succ k =>
    cases t with
    | null i => rw [JT.size] at hk; omega
    | truth x i => rw [JT.size] at hk; omega
    | int n i => rw [JT.size] at hk; omega
    | str s i => rw [JT.size] at hk; omega
    | arr ts i =>
      obtain ⟨key', t', g1, g2, g3⟩ := subL_at L (b + 1) ts h.arr (by rw [okT] at ho; exact ho) k (by rw [JT.size] at hk; omega)
      rw [show b + 1 + k = b + (k + 1) by omega] at g1
      exact ⟨key', t', g1, g2, by rw [cost]; omega⟩
    | obj ms i =>
      obtain ⟨key', t', g1, g2, g3⟩ := subM_at L (b + 1) ms h.obj (by rw [okT] at ho; exact ho) k (by rw [JT.size] at hk; omega)
      rw [show b + 1 + k = b + (k + 1) by omega] at g1
      exact ⟨key', t', g1, g2, by rw [cost]; omega⟩
theorem subL_at (L : List Nd) (b : Nat) (ts : List JT) (h : SubL L b ts) (ho : okL 65536 ts) : ∀ k, k < sizeL ts → ∃ key' t', Sub L (b + k) key' t' ∧ okT 65536 t' ∧ cost t' ≤ costL ts := by
  intro k hk
  cases ts with
  | nil => rw [sizeL] at hk; omega
  | cons t r =>
    rw [okL] at ho
    by_cases hl : k < t.size
    · obtain ⟨key', t', g1, g2, g3⟩ := sub_at L b [] t h.head ho.1 k hl
      exact ⟨key', t', g1, g2, by rw [costL]; omega⟩
    · obtain ⟨key', t', g1, g2, g3⟩ := subL_at L (b + t.size) r h.tail ho.2 (k - t.size) (by rw [sizeL] at hk; omega)
      rw [show b + t.size + (k - t.size) = b + k by omega] at g1
      exact ⟨key', t', g1, g2, by rw [costL]; omega⟩
theorem subM_at (L : List Nd) (b : Nat) (ms : List (List UInt8 × JT)) (h : SubM L b ms) (ho : okM 65536 ms) : ∀ k, k < sizeM ms → ∃ key' t', Sub L (b + k) key' t' ∧ okT 65536 t' ∧ cost t' ≤ costM ms := by
  intro k hk
  cases ms with
  | nil => rw [sizeM] at hk; omega
  | cons m r =>
    obtain ⟨n, t⟩ := m
    rw [okM] at ho
    by_cases hl : k < t.size
    · obtain ⟨key', t', g1, g2, g3⟩ := sub_at L b n t h.head ho.2.1 k hl
      exact ⟨key', t', g1, g2, by rw [costM]; omega⟩
    · obtain ⟨key', t', g1, g2, g3⟩ := subM_at L (b + t.size) r h.tail ho.2.2 (k - t.size) (by rw [sizeM] at hk; omega)
      rw [show b + t.size + (k - t.size) = b + k by omega] at g1
      exact ⟨key', t', g1, g2, by rw [costM]; omega⟩
end

theorem sub_self (t : JT) : Sub (flat 0 [] t) 0 [] t := fun j hj => by rw [Nat.zero_add]
theorem short_flat (t : JT) (ho : okT 65536 t) (hc : cost t ≤ 1966080) : Short (flat 0 [] t) := by
  have hat := sub_at (flat 0 [] t) 0 [] t (sub_self t) ho
  have hlt : ∀ (k : Nat) (n : Nd), (flat 0 [] t)[k]? = some n → k < t.size := fun k n hn => by
    have := (List.getElem?_eq_some_iff.1 hn).1; rw [flat_length] at this; exact this
  generalize hL : flat 0 [] t = L at *
  refine ⟨fun f k => ?_, fun f k n hn h4 j hj => ?_, fun f k n hn h5 j hj => ?_⟩
  · cases f with
    | zero => simp [formN]
    | succ f =>
      cases hk : L[k]? with
      | none => rw [formN, hk]; simp
      | some n =>
        obtain ⟨key, t', g1, g2, g3⟩ := hat k (hlt k n hk)
        rw [Nat.zero_add] at g1
        have := form_cost L (f + 1) k key t' g1 g2
        omega
  · obtain ⟨key, t', g1, g2, g3⟩ := hat k (hlt k n hn)
    rw [Nat.zero_add] at g1
    have h1 := g1.first
    rw [hn] at h1
    cases t' with
    | null i => rw [flat] at h1; injection h1 with h1; subst h1; simp at h4
    | truth x i => rw [flat] at h1; injection h1 with h1; subst h1; simp at h4
    | int n i => rw [flat] at h1; injection h1 with h1; subst h1; simp at h4
    | str s i => rw [flat] at h1; injection h1 with h1; subst h1; simp at h4
    | arr ts i =>
      have h2 := sumL L (formN L f) (form_cost L f) ts (k + 1) g1.arr (by rw [okT] at g2; exact g2)
      rw [flat] at h1; injection h1 with h1; subst h1
      have h3 := bodyTo_sum (formN L f) (startsL (k + 1) ts) j hj
      rw [cost] at g3
      dsimp only
      omega
    | obj ms i => rw [flat] at h1; injection h1 with h1; subst h1; simp at h4
  · obtain ⟨key, t', g1, g2, g3⟩ := hat k (hlt k n hn)
    rw [Nat.zero_add] at g1
    have h1 := g1.first
    rw [hn] at h1
    cases t' with
    | null i => rw [flat] at h1; injection h1 with h1; subst h1; simp at h5
    | truth x i => rw [flat] at h1; injection h1 with h1; subst h1; simp at h5
    | int n i => rw [flat] at h1; injection h1 with h1; subst h1; simp at h5
    | str s i => rw [flat] at h1; injection h1 with h1; subst h1; simp at h5
    | arr ts i => rw [flat] at h1; injection h1 with h1; subst h1; simp at h5
    | obj ms i =>
      have h2 := sumM L (formN L f) (form_cost L f) ms (k + 1) g1.obj (by rw [okT] at g2; exact g2)
      rw [flat] at h1; injection h1 with h1; subst h1
      have h3 := bodyTo_sum (memF L (formN L f)) (srt (ltK L) (startsM (k + 1) ms)) j (by rw [srt_len]; exact hj)
      rw [srt_sum] at h3
      rw [cost] at g3
      dsimp only
      omega

/-- What rprint asks of a tree that was read. -/
theorem read_fit {l : List UInt8} {t : JT} (h : readL l = .ok t) : WFN (flat 0 [] t) ∧ Short (flat 0 [] t) := by
  obtain ⟨h1, h2, h3⟩ := readL_rok h
  exact ⟨wfn_flat 65536 t h2 (by omega) (by omega), short_flat t h2 h1⟩
end Go.Proofs.YtoijppmkkhgkdacGreatDoor
