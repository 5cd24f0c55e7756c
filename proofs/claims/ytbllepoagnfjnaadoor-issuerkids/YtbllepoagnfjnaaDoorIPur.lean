/-
  What is read of plain texts.
-/
import Derived.Test.YtbllepoagnfjnaaDoorG1
namespace Go.Proofs.YtbllepoagnfjnaaDoor
set_option linter.unusedVariables false

/-- A sign that stands for itself in a string. -/
def pl (c : UInt8) : Bool := decide (c ≠ 34 ∧ 32 ≤ c.toNat ∧ c ≠ 92 ∧ c.toNat < 128)
theorem pl_cases {c : UInt8} (h : pl c = true) : c ≠ 34 ∧ ¬ c.toNat < 32 ∧ c ≠ 92 ∧ c.toNat < 128 := by
  have := of_decide_eq_true h
  exact ⟨this.1, by omega, this.2.2.1, this.2.2.2⟩
theorem strF_pl : ∀ (t x : List UInt8) (f : Nat), (∀ c ∈ t, pl c = true) → t.length < f → strF f (t ++ 34 :: x) = .ok (t, t.length + 1)
  | [], x, f + 1, _, _ => by rw [List.nil_append, strF]; simp
  | c :: t, x, f + 1, h, hf => by
    obtain ⟨h1, h2, h3, h4⟩ := pl_cases (h c (by simp))
    have ih := strF_pl t x f (fun d hd => h d (by simp [hd])) (by simpa using hf)
    have hs : seqLen (c :: (t ++ 34 :: x)) = 1 := by rw [seqLen, if_pos h4]
    rw [List.cons_append, strF]
    rw [if_neg h1, if_neg h2, if_neg h3, hs, if_neg (by decide)]
    simp only [List.drop_succ_cons, List.drop_zero, List.take_succ_cons, List.take_zero]
    rw [ih]
    simp [shiftS]; omega
theorem quot_pl (t x : List UInt8) (h : ∀ c ∈ t, pl c = true) : quotL (34 :: (t ++ 34 :: x)) = .ok (t, t.length + 2) := by
  rw [quotL, if_pos rfl]
  unfold strL
  rw [strF_pl t x _ h (by simp; omega)]
theorem val_str (d : Nat) (t x : List UInt8) (i : Nat) (h : ∀ c ∈ t, pl c = true) : valL d (34 :: (t ++ 34 :: x)) i = .ok (.str t i, t.length + 2) := by
  rw [valL_cons, if_pos rfl, quot_pl t x h]
theorem drop_q (t x : List UInt8) : (34 :: (t ++ 34 :: x)).drop (t.length + 2) = x := by
  rw [show t.length + 2 = (t.length + 1) + 1 by omega, List.drop_succ_cons, List.drop_append]
  simp
theorem nb_q (c : UInt8) (x : List UInt8) (h : isB c = false) : nb (c :: x) = 0 := by rw [nb, if_neg (by simp [h])]
/-- A member whose value is a plain text: what stands behind it. -/
theorem mem_drops (n s x : List UInt8) (c : UInt8) : (34 :: (n ++ 34 :: 58 :: 34 :: (s ++ 34 :: c :: x))).drop (n.length + 2) = 58 :: 34 :: (s ++ 34 :: c :: x) ∧ (34 :: (n ++ 34 :: 58 :: 34 :: (s ++ 34 :: c :: x))).drop (n.length + 3) = 34 :: (s ++ 34 :: c :: x) ∧ (34 :: (n ++ 34 :: 58 :: 34 :: (s ++ 34 :: c :: x))).drop (n.length + 3 + (s.length + 2)) = c :: x ∧ (34 :: (n ++ 34 :: 58 :: 34 :: (s ++ 34 :: c :: x))).drop (n.length + 3 + (s.length + 2) + 1) = x := by
  have e1 := drop_q n (58 :: 34 :: (s ++ 34 :: c :: x))
  have e2 : (34 :: (n ++ 34 :: 58 :: 34 :: (s ++ 34 :: c :: x))).drop (n.length + 3) = 34 :: (s ++ 34 :: c :: x) := by
    rw [show n.length + 3 = (n.length + 2) + 1 by omega, ← List.drop_drop, e1]; rfl
  have e3 : (34 :: (n ++ 34 :: 58 :: 34 :: (s ++ 34 :: c :: x))).drop (n.length + 3 + (s.length + 2)) = c :: x := by
    rw [← List.drop_drop, e2]; exact drop_q s (c :: x)
  refine ⟨e1, e2, e3, ?_⟩
  rw [← List.drop_drop, e3]; rfl
theorem objF_step (d f : Nat) (ks : List (List UInt8)) (n s x : List UInt8) (c : UInt8) (i : Nat) (hn : ∀ c ∈ n, pl c = true) (hs : ∀ c ∈ s, pl c = true) (hk : n ∉ ks) (hc : c = 44 ∨ c = 125) :
    objF (valL d) (f + 1) ks (34 :: (n ++ 34 :: 58 :: 34 :: (s ++ 34 :: c :: x))) i =
      if c = 44 then (match objF (valL d) f (ks ++ [n]) x (i + (n.length + 3 + (s.length + 2) + 1)) with | .error e => .error e | .ok (ms, k) => .ok ((n, .str s (i + (n.length + 3))) :: ms, n.length + 3 + (s.length + 2) + 1 + k)) else .ok ([(n, .str s (i + (n.length + 3)))], n.length + 3 + (s.length + 2) + 1) := by
  obtain ⟨e1, e2, e3, e4⟩ := mem_drops n s x c
  have hcb : isB c = false := by rcases hc with rfl | rfl <;> decide
  rw [objF]
  simp only [nb_q 34 _ (by decide), Nat.zero_add, List.drop_zero, Nat.add_zero]
  rw [quot_pl n _ hn]
  simp only
  rw [if_neg hk]
  simp only [e1, nb_q 58 _ (by decide), Nat.add_zero, if_pos, e2, nb_q 34 _ (by decide)]
  rw [val_str d s _ _ hs]
  simp only [e3, nb_q c _ hcb, Nat.add_zero, e4]
  by_cases h : c = 44
  · simp only [if_pos h]; rfl
  · rw [if_neg h, if_neg h, if_pos (hc.resolve_left h)]
theorem val_brace (d : Nat) (r : List UInt8) (i : Nat) : valL (d + 1) (123 :: r) i = objL (valL d) (123 :: r) i := by
  rw [valL_cons, if_neg (by decide), if_neg (by decide), if_neg (by decide), if_pos (.inr rfl)]
  simp only
  rw [if_neg (by decide)]
theorem val_square (d : Nat) (r : List UInt8) (i : Nat) : valL (d + 1) (91 :: r) i = arrL (valL d) (91 :: r) i := by
  rw [valL_cons, if_neg (by decide), if_neg (by decide), if_neg (by decide), if_pos (.inl rfl)]
  rfl
def algN : List UInt8 := [97, 108, 103]
def kN : List UInt8 := [107]
def kidN : List UInt8 := [107, 105, 100]
def ktyN : List UInt8 := [107, 116, 121]
def octN : List UInt8 := [111, 99, 116]
def keysN : List UInt8 := [107, 101, 121, 115]
/-- A key's object, and what stands behind it. -/
def keyTx (nm e kid x : List UInt8) : List UInt8 :=
  123 :: 34 :: (algN ++ 34 :: 58 :: 34 :: (nm ++ 34 :: 44 :: 34 :: (kN ++ 34 :: 58 :: 34 :: (e ++ 34 :: 44 :: 34 :: (kidN ++ 34 :: 58 :: 34 :: (kid ++ 34 :: 44 :: 34 :: (ktyN ++ 34 :: 58 :: 34 :: (octN ++ 34 :: 125 :: x))))))))
/-- The tree of a key. -/
def KT (nm e kid : List UInt8) (t : JT) : Prop := ∃ a1 a2 a3 a4 i, t = .obj [(algN, .str nm a1), (kN, .str e a2), (kidN, .str kid a3), (ktyN, .str octN a4)] i
theorem val_key (d : Nat) (nm e kid x : List UInt8) (i : Nat) (h1 : ∀ c ∈ nm, pl c = true) (h2 : ∀ c ∈ e, pl c = true) (h3 : ∀ c ∈ kid, pl c = true) :
    ∃ t, valL (d + 1) (keyTx nm e kid [] ++ x) i = .ok (t, (keyTx nm e kid []).length) ∧ KT nm e kid t := by
  have ex : keyTx nm e kid [] ++ x = keyTx nm e kid x := by simp [keyTx]
  rw [ex]
  obtain ⟨m, hm⟩ : ∃ m, (keyTx nm e kid x).length + 1 = m + 4 := ⟨(keyTx nm e kid x).length + 1 - 4, by simp [keyTx]; omega⟩
  have p1 : ∀ c ∈ algN, pl c = true := by decide
  have p2 : ∀ c ∈ kN, pl c = true := by decide
  have p3 : ∀ c ∈ kidN, pl c = true := by decide
  have p4 : ∀ c ∈ ktyN, pl c = true := by decide
  have p5 : ∀ c ∈ octN, pl c = true := by decide
  have e0 : valL (d + 1) (keyTx nm e kid x) i = objL (valL d) (keyTx nm e kid x) i := by
    exact val_brace d _ i
  have e1 : (keyTx nm e kid x).drop 1 = 34 :: (algN ++ 34 :: 58 :: 34 :: (nm ++ 34 :: 44 :: 34 :: (kN ++ 34 :: 58 :: 34 :: (e ++ 34 :: 44 :: 34 :: (kidN ++ 34 :: 58 :: 34 :: (kid ++ 34 :: 44 :: 34 :: (ktyN ++ 34 :: 58 :: 34 :: (octN ++ 34 :: 125 :: x)))))))) := rfl
  rw [e0]
  unfold objL
  simp only [e1, nb_q 34 _ (by decide), Nat.add_zero, List.head?_cons]
  rw [if_neg (by decide), hm]
  rw [show m + 4 = (m + 3) + 1 by omega, objF_step d (m + 3) [] algN nm _ 44 _ p1 h1 (by simp) (.inl rfl), if_pos rfl]
  rw [show m + 3 = (m + 2) + 1 by omega, objF_step d (m + 2) _ kN e _ 44 _ p2 h2 (by decide) (.inl rfl), if_pos rfl]
  rw [show m + 2 = (m + 1) + 1 by omega, objF_step d (m + 1) _ kidN kid _ 44 _ p3 h3 (by decide) (.inl rfl), if_pos rfl]
  rw [objF_step d m _ ktyN octN _ 125 _ p4 p5 (by decide) (.inr rfl), if_neg (by decide)]
  have hl : 1 + (algN.length + 3 + (nm.length + 2) + 1 + (kN.length + 3 + (e.length + 2) + 1 + (kidN.length + 3 + (kid.length + 2) + 1 + (ktyN.length + 3 + (octN.length + 2) + 1)))) = (keyTx nm e kid []).length := by
    simp [keyTx, algN, kN, kidN, ktyN, octN]
    omega
  rw [← hl]
  exact ⟨_, rfl, ⟨_, _, _, _, _, rfl⟩⟩
/-- Objects of keys, one behind the other. -/
def objsT : List (List UInt8 × List UInt8 × List UInt8) → List UInt8
  | [] => []
  | [a] => keyTx a.1 a.2.1 a.2.2 []
  | a :: b :: r => keyTx a.1 a.2.1 a.2.2 [] ++ 44 :: objsT (b :: r)
theorem objsT_len : ∀ l : List (List UInt8 × List UInt8 × List UInt8), l.length ≤ (objsT l).length
  | [] => Nat.le_refl _
  | [a] => by simp [objsT, keyTx]
  | a :: b :: r => by
    have := objsT_len (b :: r)
    rw [objsT, List.length_append]
    simp only [List.length_cons] at this ⊢
    omega
def PlK (a : List UInt8 × List UInt8 × List UInt8) : Prop := (∀ c ∈ a.1, pl c = true) ∧ (∀ c ∈ a.2.1, pl c = true) ∧ (∀ c ∈ a.2.2, pl c = true)
theorem arr_keys (d : Nat) : ∀ (ks : List (List UInt8 × List UInt8 × List UInt8)) (f : Nat) (x : List UInt8) (i : Nat), ks ≠ [] → ks.length ≤ f → (∀ a ∈ ks, PlK a) →
    ∃ ts, arrF (valL (d + 1)) f (objsT ks ++ 93 :: x) i = .ok (ts, (objsT ks).length + 1) ∧ ts.length = ks.length ∧ ∀ (j : Nat) a t, ks[j]? = some a → ts[j]? = some t → KT a.1 a.2.1 a.2.2 t
  | [], f, x, i, h, _, _ => absurd rfl h
  | [a], 0, x, i, _, h, _ => by simp at h
  | [a], f + 1, x, i, _, _, hp => by
    obtain ⟨h1, h2, h3⟩ := hp a (by simp)
    obtain ⟨t, ht, hk⟩ := val_key d a.1 a.2.1 a.2.2 (93 :: x) i h1 h2 h3
    have hn : nb (objsT [a] ++ 93 :: x) = 0 := nb_q 123 _ (by decide)
    have hd : (objsT [a] ++ 93 :: x).drop (keyTx a.1 a.2.1 a.2.2 []).length = 93 :: x := List.drop_left' rfl
    refine ⟨[t], ?_, rfl, fun j b u hb hu => ?_⟩
    · rw [arrF]
      simp only [hn, List.drop_zero, Nat.add_zero, Nat.zero_add]
      rw [show objsT [a] = keyTx a.1 a.2.1 a.2.2 [] from rfl] at hd ⊢
      rw [ht]
      simp only [hd, nb_q 93 _ (show isB 93 = false by decide), Nat.add_zero]
      rfl
    · match j with
      | 0 => simp at hb hu; subst hb hu; exact hk
      | j + 1 => simp at hb
  | a :: b :: r, 0, x, i, _, h, _ => by simp at h
  | a :: b :: r, f + 1, x, i, _, hl, hp => by
    obtain ⟨h1, h2, h3⟩ := hp a (by simp)
    have es : objsT (a :: b :: r) ++ 93 :: x = keyTx a.1 a.2.1 a.2.2 [] ++ 44 :: (objsT (b :: r) ++ 93 :: x) := by rw [objsT]; simp
    obtain ⟨t, ht, hk⟩ := val_key d a.1 a.2.1 a.2.2 (44 :: (objsT (b :: r) ++ 93 :: x)) i h1 h2 h3
    have hn : nb (keyTx a.1 a.2.1 a.2.2 [] ++ 44 :: (objsT (b :: r) ++ 93 :: x)) = 0 := nb_q 123 _ (by decide)
    have hd : (keyTx a.1 a.2.1 a.2.2 [] ++ 44 :: (objsT (b :: r) ++ 93 :: x)).drop (keyTx a.1 a.2.1 a.2.2 []).length = 44 :: (objsT (b :: r) ++ 93 :: x) := List.drop_left' rfl
    have hd2 : (keyTx a.1 a.2.1 a.2.2 [] ++ 44 :: (objsT (b :: r) ++ 93 :: x)).drop ((keyTx a.1 a.2.1 a.2.2 []).length + 1) = objsT (b :: r) ++ 93 :: x := by rw [← List.drop_drop, hd]; rfl
    obtain ⟨ts, e1, e2, e3⟩ := arr_keys d (b :: r) f x (i + ((keyTx a.1 a.2.1 a.2.2 []).length + 1)) (by simp) (by simpa using hl) (fun c hc => hp c (List.mem_cons_of_mem _ hc))
    refine ⟨t :: ts, ?_, by simp [e2], fun j c u hc hu => ?_⟩
    · rw [es, arrF]
      simp only [hn, List.drop_zero, Nat.add_zero, Nat.zero_add]
      rw [ht]
      simp only [hd, nb_q 44 _ (show isB 44 = false by decide), Nat.add_zero, if_pos, hd2]
      rw [e1, objsT]
      simp; omega
    · match j with
      | 0 => simp at hc hu; subst hc hu; exact hk
      | j + 1 => simp only [List.getElem?_cons_succ] at hc hu; exact e3 j c u hc hu
theorem objF_one (v : List UInt8 → Nat → JR JT) (f : Nat) (n y x : List UInt8) (i m : Nat) (t : JT) (hn : ∀ c ∈ n, pl c = true) (hy : nb y = 0) (hv : v y (i + (n.length + 3)) = .ok (t, m)) (hd : y.drop m = 125 :: x) :
    objF v (f + 1) [] (34 :: (n ++ 34 :: 58 :: y)) i = .ok ([(n, t)], n.length + 3 + m + 1) := by
  have e1 := drop_q n (58 :: y)
  have e2 : (34 :: (n ++ 34 :: 58 :: y)).drop (n.length + 3) = y := by
    rw [show n.length + 3 = (n.length + 2) + 1 by omega, ← List.drop_drop, e1]; rfl
  have e3 : (34 :: (n ++ 34 :: 58 :: y)).drop (n.length + 3 + m) = 125 :: x := by rw [← List.drop_drop, e2, hd]
  rw [objF]
  simp only [nb_q 34 _ (show isB 34 = false by decide), Nat.zero_add, List.drop_zero, Nat.add_zero]
  rw [quot_pl n _ hn]
  simp only [List.not_mem_nil, if_false, e1, nb_q 58 _ (show isB 58 = false by decide), Nat.add_zero, if_pos, e2, hy, hv, e3, nb_q 125 _ (show isB 125 = false by decide)]
  rfl
/-- A set of keys, as it is printed. -/
def setT (ks : List (List UInt8 × List UInt8 × List UInt8)) : List UInt8 := 123 :: 34 :: (keysN ++ 34 :: 58 :: 91 :: (objsT ks ++ 93 :: [125]))
theorem objsT_head (a : List UInt8 × List UInt8 × List UInt8) : ∀ r, ∃ y, objsT (a :: r) = 123 :: y
  | [] => ⟨_, rfl⟩
  | b :: r => ⟨_, by rw [objsT]; rfl⟩
theorem val_arr (d : Nat) (ks : List (List UInt8 × List UInt8 × List UInt8)) (x : List UInt8) (i : Nat) (hp : ∀ a ∈ ks, PlK a) :
    ∃ ts, valL (d + 2) (91 :: (objsT ks ++ 93 :: x)) i = .ok (.arr ts i, (objsT ks).length + 2) ∧ ts.length = ks.length ∧ ∀ (j : Nat) a t, ks[j]? = some a → ts[j]? = some t → KT a.1 a.2.1 a.2.2 t := by
  rw [val_square]
  unfold arrL
  match ks, hp with
  | [], hp =>
    refine ⟨[], ?_, rfl, fun j a t h => by simp at h⟩
    simp only [objsT, List.nil_append, List.drop_succ_cons, List.drop_zero, nb_q 93 _ (show isB 93 = false by decide), Nat.add_zero, List.head?_cons, if_pos]
    rfl
  | a :: r, hp =>
    obtain ⟨y, hy⟩ := objsT_head a r
    obtain ⟨ts, e1, e2, e3⟩ := arr_keys d (a :: r) ((91 :: (objsT (a :: r) ++ 93 :: x)).length + 1) x (i + 1) (by simp) (by
      have : ∀ l : List (List UInt8 × List UInt8 × List UInt8), l.length ≤ (objsT l).length := objsT_len
      have := this (a :: r)
      simp only [List.length_cons, List.length_append] at this ⊢
      omega) hp
    refine ⟨ts, ?_, e2, e3⟩
    have hn : nb (objsT (a :: r) ++ 93 :: x) = 0 := by rw [hy]; exact nb_q 123 _ (by decide)
    have hh : (objsT (a :: r) ++ 93 :: x).head? ≠ some 93 := by rw [hy]; simp
    simp only [List.drop_succ_cons, List.drop_zero, hn, Nat.add_zero]
    rw [if_neg hh, e1]
    simp only [Except.ok.injEq, Prod.mk.injEq, true_and]
    omega
theorem read_set (ks : List (List UInt8 × List UInt8 × List UInt8)) (hp : ∀ a ∈ ks, PlK a) (hl : (setT ks).length ≤ 65536) :
    ∃ ts i, readL (setT ks) = .ok (.obj [(keysN, .arr ts i)] 0) ∧ ts.length = ks.length ∧ ∀ (j : Nat) a t, ks[j]? = some a → ts[j]? = some t → KT a.1 a.2.1 a.2.2 t := by
  obtain ⟨ts, e1, e2, e3⟩ := val_arr 29 ks [125] (1 + (keysN.length + 3)) hp
  have hlen : (setT ks).length = (objsT ks).length + 11 := by simp [setT, keysN]
  have hd : (91 :: (objsT ks ++ 93 :: [125])).drop ((objsT ks).length + 2) = 125 :: [] := by
    rw [show (objsT ks).length + 2 = ((objsT ks).length + 1) + 1 by omega, List.drop_succ_cons, ← List.drop_drop, List.drop_left' rfl]; rfl
  have eo := objF_one (valL 31) ((setT ks).length) keysN (91 :: (objsT ks ++ 93 :: [125])) [] 1 _ _ (by decide) (nb_q 91 _ (by decide)) e1 hd
  have ev : valL 32 (setT ks) 0 = .ok (.obj [(keysN, .arr ts (1 + (keysN.length + 3)))] 0, (setT ks).length) := by
    unfold setT at eo ⊢
    rw [val_brace]
    unfold objL
    simp only [List.drop_succ_cons, List.drop_zero, nb_q 34 _ (show isB 34 = false by decide), Nat.add_zero, List.head?_cons, Nat.zero_add]
    rw [if_neg (by decide), eo]
    simp only [Except.ok.injEq, Prod.mk.injEq, true_and]
    simp [keysN]
    omega
  refine ⟨ts, 1 + (keysN.length + 3), ?_, e2, e3⟩
  unfold readL
  have hn : nb (setT ks) = 0 := nb_q 123 _ (by decide)
  rw [if_neg (by omega)]
  simp only [hn, List.drop_zero, ev, Nat.zero_add, List.drop_length]
  rw [if_neg (by simp [nb])]
end Go.Proofs.YtbllepoagnfjnaaDoor
