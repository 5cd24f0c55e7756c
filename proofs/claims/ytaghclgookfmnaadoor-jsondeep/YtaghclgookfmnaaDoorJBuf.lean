import Derived.Test.YtaghclgookfmnaaDoorJEscA
import Derived.Deep.AppendSrc
import Derived.Deep.DeepAppendWide
/-
  Append of a string's bytes onto bytes of the call's own.
-/
namespace Go.Proofs.YtaghclgookfmnaaDoor
open Go.RowKit
set_option linter.unusedVariables false

theorem setCells_row {g : Nat} {e : TypeId} {fz : Nat × Nat} : ∀ (vs : List Value) (o : Nat) (w : World) (cur : Array Value), w.heap[g]? = some (.cells cur e fz) → o + vs.length ≤ cur.size →
    ∃ cur', (w.setCells g o vs).heap[g]? = some (.cells cur' e fz) ∧ cur'.size = cur.size ∧ cur'.toList = cur.toList.take o ++ vs ++ cur.toList.drop (o + vs.length) ∧ (∀ B, B ≤ g → Below B w (w.setCells g o vs)) := by
  intro vs
  induction vs with
  | nil => intro o w cur h hl; exact ⟨cur, h, rfl, by simp, fun B _ => Below.refl _ _⟩
  | cons v r ih =>
    intro o w cur h hl
    simp only [List.length_cons] at hl
    have e1 := setCell_eq_setRow w g o cur e fz v h
    have h1 : (w.setCell ⟨g, o, none⟩ v).heap[g]? = some (.cells (cur.setIfInBounds o v) e fz) := by rw [e1]; exact setRow_heap w g _ _ _ _ h
    obtain ⟨cur', a1, a2, a3, a4⟩ := ih (o + 1) _ _ h1 (by simp; omega)
    refine ⟨cur', a1, by simpa using a2, ?_, fun B hB => ?_⟩
    · rw [a3, Array.toList_setIfInBounds]
      rw [List.take_succ_eq_append_getElem (by simp; omega), List.take_set_of_le (Nat.le_refl _)]
      rw [List.drop_set_of_lt (by omega)]
      simp [List.append_assoc, Nat.add_comm, Nat.add_left_comm]
    · have hb : Below B w (w.setCell ⟨g, o, none⟩ v) := by rw [e1]; exact below_setRow (Below.refl _ _) hB _
      exact hb.trans (a4 B hB)

theorem byteCells_eq (s : ByteArray) : byteCells s = s.data.toList.map byteV := rfl

theorem appS {P : Program} (w : World) (t u ty e : TypeId) (i : TypeInfo) (ht : P.underlying t = some (.slice e)) (hu : P.underlying u = some .string) (hi : P.info? e = some i) (hz : i.zero = some (.int .u8 0)) (hsize : i.size = 1) (hby : i.bytes = 1)
    (B : Nat) (v : Value) (l : List UInt8) (s : ByteArray) (hown : OwnB B e v l w) (hB : B ≤ w.heap.size) (hlen : l.length + s.size ≤ 140737488355328) :
    ∃ v' w', (Builtin.append_ #[t, u] ty #[v, .string s]).run P w = .ok v' w' ∧ OwnB B e v' (l ++ s.data.toList) w' ∧ Below B w w' := by
  have hsrc : Src P i.size u (.string s) s.size (byteCells s) w := by rw [hsize]; exact Src.ofString w hu s
  have h63 : l.length + s.size ≤ maxLen := by unfold maxLen; omega
  have hsl : s.data.toList.length = s.size := by simp
  by_cases hs0 : s.size = 0
  · have hsd : s.data.toList = [] := List.length_eq_zero_iff.1 (by omega)
    rw [hsd, List.append_nil]
    rcases hown with ⟨rfl, rfl⟩ | ⟨g, cap, cur, fz, rfl, hBg, hg, hfz, hlc, hcm, hcs, htk⟩
    · refine ⟨.slice none 0 0, w, ?_, .inl ⟨rfl, rfl⟩, Below.refl _ _⟩
      simp [Builtin.append_, run_underlying ht, run_underlying hu, sizeOf, typeInfo, hi, Builtin.lenOf, Builtin.firstCells, hs0]
    · have hr := run_append_room_src (P := P) w t u ty e i ht hi g 0 l.length cap (.string s) s.size (byteCells s) hsrc (by omega) (by intro j hj; rw [byteCells_length] at hj; omega) (by intro j hj; rw [byteCells_length] at hj; omega)
      have hbc : byteCells s = [] := by rw [byteCells_eq, hsd]; rfl
      rw [hbc] at hr
      refine ⟨_, _, hr, .inr ⟨g, cap, cur, fz, by rw [hs0]; rfl, hBg, hg, hfz, hlc, hcm, hcs, htk⟩, Below.refl _ _⟩
  · rcases hown with ⟨rfl, rfl⟩ | ⟨g, cap, cur, fz, rfl, hBg, hg, hfz, hlc, hcm, hcs, htk⟩
    · have hr := run_append_grow_src (P := P) w t u ty e i (.int .u8 0) ht hi hz none 0 0 [] (by simp [Builtin.firstCells]) (.string s) s.size (byteCells s) hsrc (by omega) (by simp at hlen ⊢; omega) (by rw [hby]; exact growslice_fits (by omega) (by simp at hlen ⊢; omega))
      rw [Nat.zero_add] at hr
      have hge := grownCap_ge w s.size 0 e
      have hm := grownCap_le_maxLen w s.size 0 e (by simpa using h63)
      generalize grownCap w s.size 0 e = c at hr hge hm
      refine ⟨_, _, hr, ?_, ((Below.refl B w).drew).alloc (by show B ≤ w.heap.size; omega) _⟩
      refine .inr ⟨w.heap.size, c, _, (0, 0), by simp, hB, heap_alloc_new w.drew _, .inl (Nat.zero_le _), by simp; omega, hm, ?_, ?_⟩
      · have hz1 : (Value.int IntKind.u8 0).cells.size = 1 := rfl
        simp only [Array.size_append, List.size_toArray, size_zeroCells, hz1, List.length_append, byteCells_length, List.length_nil]
        omega
      · rw [byteCells_eq]
        simp only [Array.toList_append, List.nil_append]
        rw [List.take_left' (by simp)]
    · by_cases hroom : l.length + s.size ≤ cap
      · have hcc : ∀ j, j < (byteCells s).length → (w.cell? ⟨g, 0 + l.length * i.size + j, none⟩).isSome = true := by
          intro j hj; rw [byteCells_length] at hj
          rw [hsize, cell_of_row w g _ cur e fz hg]
          simp; omega
        have hff : ∀ j, j < (byteCells s).length → w.frozen? ⟨g, 0 + l.length * i.size + j, none⟩ = false := by
          intro j hj; rw [byteCells_length] at hj
          obtain ⟨lo, hi'⟩ := fz
          simp only [World.frozen?, hg, Bool.and_eq_false_iff, decide_eq_false_iff_not, hsize]
          simp only at hfz
          omega
        have hr := run_append_room_src (P := P) w t u ty e i ht hi g 0 l.length cap (.string s) s.size (byteCells s) hsrc hroom hcc hff
        obtain ⟨cur', a1, a2, a3, a4⟩ := setCells_row (byteCells s) (0 + l.length * i.size) w cur hg (by rw [byteCells_length, hsize]; omega)
        refine ⟨_, _, hr, .inr ⟨g, cap, cur', fz, by simp, hBg, a1, ?_, by simp; omega, hcm, by omega, ?_⟩, a4 B hBg⟩
        · rcases hfz with h | h
          · left; simp; omega
          · exact .inr h
        · rw [a3, hsize, Nat.zero_add, Nat.mul_one, htk, byteCells_eq]
          rw [List.take_left' (by simp)]
          simp
      · have holds := OwnB.cells (B := B) (cap := cap) hg htk
        have hold : (Builtin.firstCells i.size l.length (.slice (some ⟨g, 0, none⟩) l.length cap)).run P w.drew = .ok (l.map byteV).toArray w.drew := by
          rw [hsize]
          exact run_firstCells_some (P := P) w.drew 1 l.length ⟨g, 0, none⟩ l.length cap (l.map byteV) (by simp) (by simpa using holds)
        have hr := run_append_grow_src (P := P) w t u ty e i (.int .u8 0) ht hi hz (some ⟨g, 0, none⟩) l.length cap (l.map byteV) hold (.string s) s.size (byteCells s) hsrc (by omega) (by unfold maxLen at h63; omega) (by rw [hby]; exact growslice_fits (by omega) (by omega))
        have hge := grownCap_ge w (l.length + s.size) cap e
        have hm := grownCap_le_maxLen w (l.length + s.size) cap e h63
        generalize grownCap w (l.length + s.size) cap e = c at hr hge hm
        refine ⟨_, _, hr, ?_, ((Below.refl B w).drew).alloc (by show B ≤ w.heap.size; omega) _⟩
        refine .inr ⟨w.heap.size, c, _, (0, 0), by simp, hB, heap_alloc_new w.drew _, .inl (Nat.zero_le _), by simp; omega, hm, ?_, ?_⟩
        · have hz1 : (Value.int IntKind.u8 0).cells.size = 1 := rfl
          simp only [Array.size_append, List.size_toArray, size_zeroCells, hz1, List.length_append, byteCells_length, List.length_map]
          omega
        · rw [byteCells_eq]
          simp only [Array.toList_append]
          rw [← List.map_append, List.take_left' (by simp)]

/-- The operation, for the walk. -/
theorem wp_appS {P : Program} {ops : Array Oper} {rest : List Oper} {o : Oper} {a : Act} {Q : Exit → Act → World → Prop} {w : World} (hgd : o.guard = none) (x y : Operand) (t u : TypeId)
    (ho : o.op = .call { callee := .builtin .append, args := #[x, y], argTypes := #[t, u] })
    (e : TypeId) (i : TypeInfo) (ht : P.underlying t = some (.slice e)) (hu : P.underlying u = some .string) (hi : P.info? e = some i) (hz : i.zero = some (.int .u8 0)) (hsize : i.size = 1) (hby : i.bytes = 1)
    (B : Nat) (v : Value) (l : List UInt8) (s : ByteArray) (hx : a.eval x = v) (hy : a.eval y = .string s) (hlen : l.length + s.size ≤ 140737488355328) (hown : OwnB B e v l w) (hB : B ≤ w.heap.size)
    (h : ∀ v' w', OwnB B e v' (l ++ s.data.toList) w' → Below B w w' → wpList P ops Q rest (a.put o.dst v') w') : wpList P ops Q (o :: rest) a w := by
  refine wpList_plain hgd fun K hK => ?_
  obtain ⟨v', w', hr, h2, h3⟩ := appS (P := P) w t u o.type e i ht hu hi hz hsize hby B v l s hown hB hlen
  unfold Oper.wp execOp
  simp only [ho, resolve, invoke, builtin, Sem.run_bind, Sem.run_pure, Result.andThen_ok, List.map_toArray, List.map_cons, List.map_nil, hx, hy, hr]
  exact hK _ _ (h v' w' h2 h3)
theorem stepS {P : Program} {ops : Array Oper} {o : Oper} {a : Act} {w : World} {K : Act → World → Prop} {Q : Exit → Act → World → Prop} {E : Prop} (hgd : o.guard = none) (x y : Operand) (t u : TypeId)
    (ho : o.op = .call { callee := .builtin .append, args := #[x, y], argTypes := #[t, u] })
    (e : TypeId) (i : TypeInfo) (ht : P.underlying t = some (.slice e)) (hu : P.underlying u = some .string) (hi : P.info? e = some i) (hz : i.zero = some (.int .u8 0)) (hsize : i.size = 1) (hby : i.bytes = 1)
    (B : Nat) (v : Value) (l : List UInt8) (s : ByteArray) (hx : a.eval x = v) (hy : a.eval y = .string s) (hlen : l.length + s.size ≤ 140737488355328) (hown : OwnB B e v l w) (hB : B ≤ w.heap.size)
    (h : ∀ v' w', OwnB B e v' (l ++ s.data.toList) w' → Below B w w' → K (a.put o.dst v') w') :
    if Region.wanted o (yielded ops a.tmps) = true then Oper.wp P o a w K Q else E := by
  have hw : Region.wanted o (yielded ops a.tmps) = true := by simp [Region.wanted, hgd]
  rw [if_pos hw]
  obtain ⟨v', w', hr, h2, h3⟩ := appS (P := P) w t u o.type e i ht hu hi hz hsize hby B v l s hown hB hlen
  unfold Oper.wp execOp
  simp only [ho, resolve, invoke, builtin, Sem.run_bind, Sem.run_pure, Result.andThen_ok, List.map_toArray, List.map_cons, List.map_nil, hx, hy, hr]
  exact h v' w' h2 h3
end Go.Proofs.YtaghclgookfmnaaDoor
