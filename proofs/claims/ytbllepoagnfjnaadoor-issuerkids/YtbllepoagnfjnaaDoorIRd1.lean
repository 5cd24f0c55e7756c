/-
  The nodes of a printed set.
-/
import Derived.Test.YtbllepoagnfjnaaDoorIExp
namespace Go.Proofs.YtbllepoagnfjnaaDoor.Dg
set_option maxRecDepth 4000
open Go.RowKit Go.Deep
set_option linter.unusedVariables false
set_option linter.unusedSimpArgs false

theorem kt_size {nm e kid : List UInt8} {t : JT} (h : KT nm e kid t) : t.size = 5 := by
  obtain ⟨a1, a2, a3, a4, i, rfl⟩ := h
  rfl
theorem kt_nodes {nm e kid : List UInt8} {t : JT} (h : KT nm e kid t) (b : Nat) : ∃ p p1 p2 p3 p4, flat b [] t = [⟨5, [], [], 0, [b + 1, b + 2, b + 3, b + 4], p⟩, ⟨3, algN, nm, 0, [], p1⟩, ⟨3, kN, e, 0, [], p2⟩, ⟨3, kidN, kid, 0, [], p3⟩, ⟨3, ktyN, octN, 0, [], p4⟩] := by
  obtain ⟨a1, a2, a3, a4, i, rfl⟩ := h
  exact ⟨i, a1, a2, a3, a4, rfl⟩
theorem flatL_at : ∀ (ts : List JT) (b : Nat), (∀ t ∈ ts, t.size = 5) → (flatL b ts).length = 5 * ts.length ∧ startsL b ts = (List.range ts.length).map (fun j => b + 5 * j) ∧ ∀ (j r : Nat) (t : JT), ts[j]? = some t → r < 5 → (flatL b ts)[5 * j + r]? = (flat (b + 5 * j) [] t)[r]?
  | [], b, _ => ⟨rfl, rfl, fun j r t h => by simp at h⟩
  | t :: ts, b, h => by
    have h5 := h t (by simp)
    have hf : (flat b [] t).length = 5 := by rw [flat_length, h5]
    obtain ⟨e1, e2, e3⟩ := flatL_at ts (b + 5) (fun x hx => h x (by simp [hx]))
    refine ⟨?_, ?_, fun j r u hj hr => ?_⟩
    · rw [flatL, List.length_append, hf, h5, e1]; simp; omega
    · rw [startsL, h5, e2, List.length_cons, List.range_succ_eq_map]
      simp only [List.map_cons, List.map_map, Nat.mul_zero, Nat.add_zero]
      congr 1
      apply List.map_congr_left
      intro x _
      simp; omega
    · rw [flatL, h5]
      cases j with
      | zero =>
        simp at hj
        subst hj
        rw [List.getElem?_append_left (by omega)]
        simp
      | succ j =>
        simp only [List.getElem?_cons_succ] at hj
        rw [List.getElem?_append_right (by omega), hf, show 5 * (j + 1) + r - 5 = 5 * j + r by omega, e3 j r u hj hr, show b + 5 + 5 * j = b + 5 * (j + 1) by omega]
/-- The nodes of a set of keys. -/
structure SetL (ps : List (List UInt8 × List UInt8 × List UInt8)) (L : List Nd) : Prop where
  len : L.length = 2 + 5 * ps.length
  n0 : ∃ p, L[0]? = some ⟨5, [], [], 0, [1], p⟩
  n1 : ∃ p, L[1]? = some ⟨4, keysN, [], 0, (List.range ps.length).map (fun j => 2 + 5 * j), p⟩
  key : ∀ (j : Nat) a, ps[j]? = some a → ∃ p p1 p2 p3 p4, L[2 + 5 * j]? = some ⟨5, [], [], 0, [2 + 5 * j + 1, 2 + 5 * j + 2, 2 + 5 * j + 3, 2 + 5 * j + 4], p⟩ ∧ L[2 + 5 * j + 1]? = some ⟨3, algN, a.1, 0, [], p1⟩ ∧ L[2 + 5 * j + 2]? = some ⟨3, kN, a.2.1, 0, [], p2⟩ ∧ L[2 + 5 * j + 3]? = some ⟨3, kidN, a.2.2, 0, [], p3⟩ ∧ L[2 + 5 * j + 4]? = some ⟨3, ktyN, octN, 0, [], p4⟩
theorem setL_of {ps : List (List UInt8 × List UInt8 × List UInt8)} {ts : List JT} {i : Nat} (hl : ts.length = ps.length) (h : ∀ (j : Nat) a t, ps[j]? = some a → ts[j]? = some t → KT a.1 a.2.1 a.2.2 t) : SetL ps (flat 0 [] (.obj [(keysN, .arr ts i)] 0)) := by
  have get : ∀ (j : Nat) (t : JT), ts[j]? = some t → ∃ a, ps[j]? = some a := fun j t ht => by
    have := (List.getElem?_eq_some_iff.1 ht).1
    exact ⟨_, List.getElem?_eq_getElem (by omega)⟩
  have h5 : ∀ t ∈ ts, t.size = 5 := fun t ht => by
    obtain ⟨j, hj⟩ := List.getElem?_of_mem ht
    obtain ⟨a, ha⟩ := get j t hj
    exact kt_size (h j a t ha hj)
  obtain ⟨e1, e2, e3⟩ := flatL_at ts 2 h5
  have eL : flat 0 [] (.obj [(keysN, .arr ts i)] 0) = ⟨5, [], [], 0, [1], 0⟩ :: ⟨4, keysN, [], 0, startsL 2 ts, i⟩ :: flatL 2 ts := by
    simp [flat, flatM, startsM]
  rw [eL]
  refine ⟨?_, ⟨_, rfl⟩, ⟨i, by rw [e2, hl]; rfl⟩, fun j a ha => ?_⟩
  · simp [e1, hl]; omega
  · obtain ⟨t, ht⟩ : ∃ t, ts[j]? = some t := by
      have := (List.getElem?_eq_some_iff.1 ha).1
      exact ⟨_, List.getElem?_eq_getElem (by omega)⟩
    obtain ⟨p, p1, p2, p3, p4, ef⟩ := kt_nodes (h j a t ha ht) (2 + 5 * j)
    have g : ∀ r, r < 5 → (⟨5, [], [], 0, [1], 0⟩ :: ⟨4, keysN, [], 0, startsL 2 ts, i⟩ :: flatL 2 ts : List Nd)[2 + 5 * j + r]? = (flat (2 + 5 * j) [] t)[r]? := fun r hr => by
      rw [show 2 + 5 * j + r = (5 * j + r) + 1 + 1 by omega, List.getElem?_cons_succ, List.getElem?_cons_succ]
      exact e3 j r t ht hr
    refine ⟨p, p1, p2, p3, p4, ?_, ?_, ?_, ?_, ?_⟩
    · rw [← Nat.add_zero (2 + 5 * j), g 0 (by omega), Nat.add_zero, ef]; rfl
    · rw [g 1 (by omega), ef]; rfl
    · rw [g 2 (by omega), ef]; rfl
    · rw [g 3 (by omega), ef]; rfl
    · rw [g 4 (by omega), ef]; rfl
end Go.Proofs.YtbllepoagnfjnaaDoor.Dg
