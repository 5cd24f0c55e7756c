import Derived.Test.YtaghclgookfmnaaDoorJValW
/-
  The document's reader: an array.
-/
namespace Go.Proofs.YtaghclgookfmnaaDoor
open Go.RowKit
set_option linter.unusedVariables false

theorem sizeL_append (ts : List JT) (t : JT) : sizeL (ts ++ [t]) = sizeL ts + t.size := by
  induction ts with
  | nil => simp [sizeL]
  | cons a r ih => simp only [List.cons_append, sizeL, ih]; omega
theorem startsL_append (b : Nat) (ts : List JT) (t : JT) : startsL b (ts ++ [t]) = startsL b ts ++ [b + sizeL ts] := by
  induction ts generalizing b with
  | nil => simp [startsL, sizeL]
  | cons a r ih => simp only [List.cons_append, startsL, ih, sizeL, Nat.add_assoc]
theorem flatL_append (b : Nat) (ts : List JT) (t : JT) : flatL b (ts ++ [t]) = flatL b ts ++ flat (b + sizeL ts) [] t := by
  induction ts generalizing b with
  | nil => simp [flatL, sizeL]
  | cons a r ih => simp only [List.cons_append, flatL, ih, sizeL, List.append_assoc, Nat.add_assoc]
theorem size_pos (t : JT) : 1 ≤ t.size := by cases t <;> simp only [JT.size] <;> omega
theorem startsL_length (b : Nat) (ts : List JT) : (startsL b ts).length ≤ sizeL ts := by
  induction ts generalizing b with
  | nil => simp [startsL, sizeL]
  | cons a r ih => have := ih (b + a.size); have := size_pos a; simp only [startsL, List.length_cons, sizeL]; omega
theorem startsM_length (b : Nat) (ms : List (List UInt8 × JT)) : (startsM b ms).length ≤ sizeM ms := by
  induction ms generalizing b with
  | nil => simp [startsM, sizeM]
  | cons a r ih => obtain ⟨k, t⟩ := a; have := ih (b + t.size); have := size_pos t; simp only [startsM, List.length_cons, sizeM]; omega
mutual
theorem flat_kids (b : Nat) (key : List UInt8) (t : JT) : ∀ n ∈ flat b key t, n.kids.length ≤ t.size := by
  cases t with
  | null i => intro n hn; simp [flat] at hn; subst hn; simp
  | truth x i => intro n hn; simp [flat] at hn; subst hn; simp
  | int m i => intro n hn; simp [flat] at hn; subst hn; simp
  | str t i => intro n hn; simp [flat] at hn; subst hn; simp
  | arr ts i =>
    intro n hn
    rw [flat, List.mem_cons] at hn
    rcases hn with rfl | hn
    · have := startsL_length (b + 1) ts; simp only [JT.size]; omega
    · have := flatL_kids (b + 1) ts n hn; simp only [JT.size]; omega
  | obj ms i =>
    intro n hn
    rw [flat, List.mem_cons] at hn
    rcases hn with rfl | hn
    · have := startsM_length (b + 1) ms; simp only [JT.size]; omega
    · have := flatM_kids (b + 1) ms n hn; simp only [JT.size]; omega
theorem flatL_kids (b : Nat) (ts : List JT) : ∀ n ∈ flatL b ts, n.kids.length ≤ sizeL ts := by
  cases ts with
  | nil => intro n hn; simp [flatL] at hn
  | cons t r =>
    intro n hn
    rw [flatL, List.mem_append] at hn
    rcases hn with hn | hn
    · have := flat_kids b [] t n hn; simp only [sizeL]; omega
    · have := flatL_kids (b + t.size) r n hn; simp only [sizeL]; omega
theorem flatM_kids (b : Nat) (ms : List (List UInt8 × JT)) : ∀ n ∈ flatM b ms, n.kids.length ≤ sizeM ms := by
  cases ms with
  | nil => intro n hn; simp [flatM] at hn
  | cons m r =>
    obtain ⟨k, t⟩ := m
    intro n hn
    rw [flatM, List.mem_append] at hn
    rcases hn with hn | hn
    · have := flat_kids b k t n hn; simp only [sizeM]; omega
    · have := flatM_kids (b + t.size) r n hn; simp only [sizeM]; omega
end

theorem addKid_mem {ns : List Nd} (h : WFk ns) (up : Option Nat) (k : Nat) : ∀ n ∈ addKid ns up k, n.kids.length ≤ ns.length + 1 := by
  intro n hn
  cases up with
  | none => have := h n hn; omega
  | some u =>
    unfold addKid at hn
    obtain ⟨j, hj, rfl⟩ := List.getElem_of_mem hn
    rw [List.getElem_modify]
    have hk3 : j < ns.length := by simpa using hj
    have := h ns[j] (List.getElem_mem hk3)
    split
    · simp; omega
    · omega
theorem flat_wf {ns : List Nd} (h : WFk ns) (up : Option Nat) (key : List UInt8) (t : JT) : WFk (addKid ns up ns.length ++ flat ns.length key t) := by
  intro n hn
  rw [List.length_append, addKid_length, flat_length]
  rw [List.mem_append] at hn
  have hp := size_pos t
  rcases hn with hn | hn
  · have := addKid_mem h up ns.length n hn; omega
  · have := flat_kids ns.length key t n hn; omega

/-- An array's nodes, so far. -/
def arrN (ns : List Nd) (up : Option Nat) (key : List UInt8) (i : Nat) (ts : List JT) : List Nd :=
  addKid ns up ns.length ++ flat ns.length key (.arr ts i)
theorem arrN_length (ns : List Nd) (up : Option Nat) (key : List UInt8) (i : Nat) (ts : List JT) : (arrN ns up key i ts).length = ns.length + 1 + sizeL ts := by
  rw [arrN, List.length_append, addKid_length, flat_length, JT.size]; omega
theorem modify_mid {α : Type} (A : List α) (x : α) (F : List α) (f : α → α) (k : Nat) (h : A.length = k) : (A ++ x :: F).modify k f = A ++ f x :: F := by
  subst h
  induction A with
  | nil => rfl
  | cons a A ih => simp only [List.cons_append, List.length_cons, List.modify_succ_cons, ih]
theorem arrN_add (ns : List Nd) (up : Option Nat) (key : List UInt8) (i : Nat) (ts : List JT) (t : JT) :
    addKid (arrN ns up key i ts) (some ns.length) (arrN ns up key i ts).length ++ flat (arrN ns up key i ts).length [] t = arrN ns up key i (ts ++ [t]) := by
  rw [arrN_length]
  unfold arrN
  rw [flat, flat]
  show (List.modify _ _ _) ++ _ = _
  rw [modify_mid _ _ _ _ _ (addKid_length ns up ns.length), startsL_append, flatL_append]
  simp [Nat.add_assoc]

/-- How a value within is read. -/
def ValC (d dp : Nat) : Prop := ∀ (bp : Nat) (s : ByteArray) (i : Nat) (ns : List Nd) (up : Option Nat) (key : List UInt8) (at0 : Nat) (w : World), s.size ≤ 65536 → RN bp s i ns 0 at0 dp w → ns.length ≤ i → WFk ns → (∀ u, up = some u → u < ns.length) →
  Calls Tryd.prog 12 #[.pointer (some ⟨bp, 0, none⟩), .int .i64 (upV up), .string ⟨key.toArray⟩] w fun r w' => r = .returned (.tuple #[]) ∧ VP bp s i ns up key at0 dp (valL d (sfx s i) i) w' ∧ Below bp w w'

def finA (ts : List JT) (i p : Nat) : JR (List JT) → JR JT
  | .error e => .error e
  | .ok (ts', k) => .ok (.arr (ts ++ ts') i, p - i + k)

theorem nb_le (l : List UInt8) : nb l ≤ l.length := by
  induction l with
  | nil => simp [nb]
  | cons c r ih => rw [nb]; split <;> simp <;> omega
theorem arrL_eq (v : List UInt8 → Nat → JR JT) (s : ByteArray) (i p : Nat) (hp : i + 1 + nb (sfx s (i + 1)) = p) :
    arrL v (sfx s i) i = if (sfx s p).head? = some 93 then .ok (.arr [] i, p - i + 1) else finA [] i p (arrF v ((sfx s i).length + 1) (sfx s p) p) := by
  unfold arrL
  dsimp only
  rw [sfx_drop, sfx_drop, show i + (1 + nb (sfx s (i + 1))) = p by omega, show 1 + nb (sfx s (i + 1)) = p - i by omega]
  split
  · rfl
  · unfold finA; split <;> simp_all
theorem arrF_er (v : List UInt8 → Nat → JR JT) (s : ByteArray) (p f : Nat) (e : Nat × Nat) (h : v (sfx s (p + nb (sfx s p))) (p + nb (sfx s p)) = .error e) : arrF v (f + 1) (sfx s p) p = .error e := by
  rw [arrF]; dsimp only; rw [sfx_drop, h]
theorem arrF_more (v : List UInt8 → Nat → JR JT) (s : ByteArray) (p f p2 p3 n : Nat) (t : JT) (h2 : p + nb (sfx s p) = p2) (h : v (sfx s p2) p2 = .ok (t, n)) (h3 : p2 + n + nb (sfx s (p2 + n)) = p3) (hc : (sfx s p3).head? = some 44) :
    arrF v (f + 1) (sfx s p) p = match arrF v f (sfx s (p3 + 1)) (p3 + 1) with | .error e => .error e | .ok (ts, k) => .ok (t :: ts, p3 + 1 - p + k) := by
  rw [arrF]; dsimp only
  rw [sfx_drop, h2, h]
  dsimp only
  rw [sfx_drop, sfx_drop, sfx_drop, show p + (nb (sfx s p) + n) = p2 + n by omega, show p + (nb (sfx s p) + n + nb (sfx s (p2 + n))) = p3 by omega, show p + (nb (sfx s p) + n + nb (sfx s (p2 + n)) + 1) = p3 + 1 by omega, show nb (sfx s p) + n + nb (sfx s (p2 + n)) + 1 = p3 + 1 - p by omega]
  match hs : sfx s p3 with
  | [] => rw [hs] at hc; simp at hc
  | c :: r =>
    rw [hs] at hc
    have hc : c = 44 := by simpa using hc
    simp only [hc, if_true]
    rfl
theorem arrF_last (v : List UInt8 → Nat → JR JT) (s : ByteArray) (p f p2 p3 n : Nat) (t : JT) (h2 : p + nb (sfx s p) = p2) (h : v (sfx s p2) p2 = .ok (t, n)) (h3 : p2 + n + nb (sfx s (p2 + n)) = p3) (hc : (sfx s p3).head? ≠ some 44) :
    arrF v (f + 1) (sfx s p) p = if (sfx s p3).head? = some 93 then .ok ([t], p3 + 1 - p) else .error (2, p3) := by
  rw [arrF]; dsimp only
  rw [sfx_drop, h2, h]
  dsimp only
  rw [sfx_drop, sfx_drop, sfx_drop, show p + (nb (sfx s p) + n) = p2 + n by omega, show p + (nb (sfx s p) + n + nb (sfx s (p2 + n))) = p3 by omega, show p + (nb (sfx s p) + n + nb (sfx s (p2 + n)) + 1) = p3 + 1 by omega, show nb (sfx s p) + n + nb (sfx s (p2 + n)) + 1 = p3 + 1 - p by omega]
  match hs : sfx s p3 with
  | [] => simp
  | c :: r =>
    rw [hs] at hc
    have hc : c ≠ 44 := by simpa using hc
    simp [hc]
theorem finA_more (ts : List JT) (t : JT) (i p q : Nat) (h : i ≤ p) (hq : p ≤ q) (X : JR (List JT)) : finA ts i p (match X with | .error e => .error e | .ok (ts', k) => .ok (t :: ts', q - p + k)) = finA (ts ++ [t]) i q X := by
  cases X with
  | error e => rfl
  | ok x => obtain ⟨a, b⟩ := x; simp [finA]; omega
theorem finA_last (ts : List JT) (t : JT) (i p p3 : Nat) (h : i ≤ p) (hq : p ≤ p3) (c : Prop) [Decidable c] : finA ts i p (if c then .ok ([t], p3 + 1 - p) else .error (2, p3)) = if c then .ok (.arr (ts ++ [t]) i, p3 - i + 1) else .error (2, p3) := by
  split
  · simp [finA]; omega
  · rfl
end Go.Proofs.YtaghclgookfmnaaDoor
