import Derived.Test.YtaghclgookfmnaaDoorBits
import Derived.Laws.AppendOwn
import Derived.Laws.BytesArg
import Derived.Laws.IdiomStrings
import Derived.Laws.Rows
import Derived.Laws.Tables
import Derived.Laws.CopyOwn
/-
  Bytes that a call gathers: a slice of its own, whatever lies behind its last byte; append of one byte; []byte of a string; string of such a slice.
-/
namespace Go.Proofs.YtaghclgookfmnaaDoor
open Go.RowKit
set_option linter.unusedVariables false

theorem ushr_min64 (x : BitVec 64) (n : Nat) : x >>> (min n 64) = x >>> n := by
  by_cases h : n ≤ 64
  · rw [Nat.min_eq_left h]
  · rw [Nat.min_eq_right (by omega), BitVec.ushiftRight_eq_zero (by omega), BitVec.ushiftRight_eq_zero (by omega)]

def byteV (b : UInt8) : Value := .int .u8 (b.toNat : Int)

/-- The slice v holds the bytes l, in a block from B on; what may not be written of it lies ahead of its end or behind its room. -/
def OwnB (B : Nat) (e : TypeId) (v : Value) (l : List UInt8) (w : World) : Prop :=
  (v = .slice none 0 0 ∧ l = []) ∨
  ∃ g cap cur fz, v = .slice (some ⟨g, 0, none⟩) l.length cap ∧ B ≤ g ∧ w.heap[g]? = some (.cells cur e fz) ∧ (fz.2 ≤ l.length ∨ cap ≤ fz.1) ∧ l.length ≤ cap ∧ cap ≤ maxLen ∧ cur.size = cap ∧
    cur.toList.take l.length = l.map byteV

theorem OwnB.below {B C : Nat} {e : TypeId} {v : Value} {l : List UInt8} {w w' : World} (h : OwnB B e v l w) (hb : Below C w w') (hC : w.heap.size ≤ C) : OwnB B e v l w' := by
  rcases h with h | ⟨g, cap, cur, fz, hv, hB, hg, rest⟩
  · exact .inl h
  · refine .inr ⟨g, cap, cur, fz, hv, hB, ?_, rest⟩
    have := (Array.getElem?_eq_some_iff.1 hg).1
    rw [hb.block _ (by omega)]; exact hg

theorem OwnB.cells {B : Nat} {e : TypeId} {l : List UInt8} {w : World} {g cap : Nat} {cur : Array Value} {fz : Nat × Nat} (hg : w.heap[g]? = some (.cells cur e fz)) (ht : cur.toList.take l.length = l.map byteV) :
    ∀ j u, (l.map byteV)[j]? = some u → w.cell? ((⟨g, 0, none⟩ : Addr).add j) = some u := by
  intro j u hu
  have hadd : (⟨g, 0, none⟩ : Addr).add j = ⟨g, j, none⟩ := by unfold Addr.add; split <;> simp_all
  rw [hadd, cell_of_row w g j cur e fz hg]
  rw [← ht, List.getElem?_take] at hu
  split at hu
  · simpa using hu
  · cases hu

theorem one_cell (w : World) (v : Value) (e : TypeId) : ∀ j u, [v][j]? = some u → (w.alloc (.cells #[v] e)).cell? ((⟨w.heap.size, 0, none⟩ : Addr).add j) = some u := by
  intro j u hu
  match j, hu with
  | 0, hu => simp at hu; subst hu; simp [Addr.add]
  | (j + 1), hu => simp at hu

theorem grown_own {P : Program} (W : World) (e : TypeId) (B : Nat) (l : List UInt8) (b : UInt8) (c : Nat) (hB : B ≤ W.heap.size) (hc : l.length + 1 ≤ c) (hm : c ≤ maxLen) :
    OwnB B e (.slice (some ⟨W.heap.size, 0, none⟩) (l.length + 1) c) (l ++ [b]) (W.drew.alloc (.cells ((l.map byteV).toArray ++ [byteV b].toArray ++ Builtin.zeroCells (Value.int .u8 0).cells (c - (l.length + 1))) e)) := by
  refine .inr ⟨W.heap.size, c, _, (0, 0), by simp, hB, heap_alloc_new W.drew _, .inl (Nat.zero_le _), by simpa using hc, hm, ?_, ?_⟩
  · have hz1 : (Value.int IntKind.u8 0).cells.size = 1 := rfl
    simp only [Array.size_append, List.size_toArray, size_zeroCells, hz1, List.length_map, List.length_singleton]
    omega
  · have e1 : (l ++ [b]).length = ((l.map byteV) ++ [byteV b]).length := by simp
    rw [e1]
    simp only [Array.toList_append]
    rw [List.take_left]; simp

theorem app1 {P : Program} (w0 : World) (t ty e : TypeId) (i : TypeInfo) (ht : P.underlying t = some (.slice e)) (hi : P.info? e = some i) (hz : i.zero = some (.int .u8 0)) (hsize : i.size = 1) (hby : i.bytes = 1)
    (B : Nat) (v : Value) (l : List UInt8) (b : UInt8) (hown : OwnB B e v l w0) (hB : B ≤ w0.heap.size) (hlen : l.length + 1 ≤ 140737488355328) :
    ∃ v' w', (Builtin.append_ #[t, t] ty #[v, .slice (some ⟨w0.heap.size, 0, none⟩) 1 1]).run P (w0.alloc (.cells #[byteV b] e)) = .ok v' w' ∧ OwnB B e v' (l ++ [b]) w' ∧ Below B w0 w' := by
  have hW : Below B w0 (w0.alloc (.cells #[byteV b] e)) := (Below.refl _ _).alloc hB _
  have hnew := one_cell w0 (byteV b) e
  generalize hWe : w0.alloc (.cells #[byteV b] e) = W at hW hnew
  have hsz : W.heap.size = w0.heap.size + 1 := by rw [← hWe]; simp
  have h63 : l.length + 1 ≤ maxLen := by unfold maxLen; omega
  rcases hown with ⟨rfl, rfl⟩ | ⟨g, cap, cur, fz, rfl, hBg, hg, hfz, hlc, hcm, hcs, htk⟩
  · obtain ⟨v', w', r1, r2, r3, _⟩ := run_append_own (P := P) W B t ty e i (.int .u8 0) 1 1 ht hi hz hsize hby rfl (by decide) (.slice none 0 0) 0 [] ⟨by simp, .inl ⟨rfl, rfl⟩⟩ ⟨w0.heap.size, 0, none⟩ 1 1 [byteV b] rfl hnew
      (by intro u hu; simp at hu; subst hu; rfl) (by unfold maxLen; omega) (by omega) (by omega)
    refine ⟨v', w', r1, ?_, hW.trans ⟨r3.os, r3.tape, r3.output, r3.size, fun k hk => r3.block k (by omega) (by simp [Value.ownBlock])⟩⟩
    rcases r2.2 with ⟨_, h0⟩ | ⟨g, cap, cur, hv, hb, hg, hn, hm, hs, htake⟩
    · omega
    · exact .inr ⟨g, cap, cur, (0, 0), hv, hb, hg, .inl (Nat.zero_le _), hn, hm, by omega, by simpa using htake⟩
  · have hgW : W.heap[g]? = some (.cells cur e fz) := by
      rw [← hWe, heap_alloc_old _ _ (Array.getElem?_eq_some_iff.1 hg).1]; exact hg
    by_cases hroom : l.length + 1 ≤ cap
    · have hf := run_firstCells_some (P := P) W 1 1 ⟨w0.heap.size, 0, none⟩ 1 1 [byteV b] rfl hnew
      have hcell : W.cell? ⟨g, l.length, none⟩ = some cur[l.length] := by simp [World.cell?, hgW]
      have hfro : W.frozen? ⟨g, l.length, none⟩ = false := by
        obtain ⟨lo, hi'⟩ := fz
        simp only [World.frozen?, hgW, Bool.and_eq_false_iff, decide_eq_false_iff_not]
        simp only at hfz
        omega
      have hadd : (⟨g, l.length, none⟩ : Addr).add 0 = ⟨g, l.length, none⟩ := by unfold Addr.add; split <;> simp_all
      have hst : (storeCells ⟨g, l.length, none⟩ [byteV b] 0).run P W = .ok () (W.setRow g (cur.setIfInBounds l.length (byteV b))) := by
        simp only [storeCells, Sem.run_bind, hadd]
        rw [run_store P W _ (byteV b) _ rfl, hcell]
        simp [hfro, setCell_eq_setRow W g l.length cur e fz (byteV b) hgW]
      refine ⟨.slice (some ⟨g, 0, none⟩) (l.length + 1) cap, W.setRow g (cur.setIfInBounds l.length (byteV b)), ?_, ?_, below_setRow hW hBg _⟩
      · simp [Builtin.append_, run_underlying ht, sizeOf, typeInfo, hi, hsize, Builtin.lenOf, hroom, hf, Addr.add_lit, hst]
      · refine .inr ⟨g, cap, _, fz, by simp, hBg, setRow_heap W g cur _ e _ hgW, ?_, by simpa using hroom, hcm, by simpa using hcs, ?_⟩
        · rcases hfz with h | h
          · left; simp; omega
          · exact .inr h
        · rw [List.length_append, List.length_singleton, Array.toList_setIfInBounds, List.take_succ_eq_append_getElem (by simp; omega)]
          rw [List.take_set_of_le (Nat.le_refl _), htk]
          simp
    · have holds := OwnB.cells (B := B) (cap := cap) hgW htk
      have hr := run_append_grow (P := P) W t ty e i (.int .u8 0) ht hi hz ⟨g, 0, none⟩ l.length cap (l.map byteV) (by rw [hsize]; simp) holds ⟨w0.heap.size, 0, none⟩ 1 1 [byteV b] (by rw [hsize]; rfl) hnew (by omega) (by unfold maxLen at h63; omega)
        (by rw [hby]; exact growslice_fits (by omega) (by omega))
      refine ⟨_, _, hr, grown_own (P := P) W e B l b _ (by omega) (grownCap_ge W _ _ e) (grownCap_le_maxLen W _ _ e h63), ?_⟩
      exact (hW.drew).alloc (by show B ≤ W.heap.size; omega) _

/-- The operation, for the walk. -/
theorem wp_app1 {P : Program} {ops : Array Oper} {rest : List Oper} {o : Oper} {a : Act} {Q : Exit → Act → World → Prop} (hgd : o.guard = none) (s x : Operand) (t : TypeId)
    (ho : o.op = .call { callee := .builtin .append, args := #[s, x], argTypes := #[t, t] })
    (e : TypeId) (i : TypeInfo) (ht : P.underlying t = some (.slice e)) (hi : P.info? e = some i) (hz : i.zero = some (.int .u8 0)) (hsize : i.size = 1) (hby : i.bytes = 1)
    (B : Nat) (v : Value) (l : List UInt8) (b : UInt8) (w0 : World) (hs : a.eval s = v) (hown : OwnB B e v l w0) (hB : B ≤ w0.heap.size) (hlen : l.length + 1 ≤ 140737488355328)
    (hx : a.eval x = .slice (some ⟨w0.heap.size, 0, none⟩) 1 1)
    (h : ∀ v' w', OwnB B e v' (l ++ [b]) w' → Below B w0 w' → wpList P ops Q rest (a.put o.dst v') w') : wpList P ops Q (o :: rest) a (w0.alloc (.cells #[byteV b] e)) := by
  refine wpList_plain hgd fun K hK => ?_
  obtain ⟨v', w', hr, h2, h3⟩ := app1 (P := P) w0 t o.type e i ht hi hz hsize hby B v l b hown hB hlen
  unfold Oper.wp execOp
  simp only [ho, resolve, invoke, builtin, Sem.run_bind, Sem.run_pure, Result.andThen_ok, List.map_toArray, List.map_cons, List.map_nil, hs, hx, hr]
  exact hK _ _ (h v' w' h2 h3)

theorem OwnB.shape {B : Nat} {e : TypeId} {v : Value} {l : List UInt8} {w : World} (h : OwnB B e v l w) (hl : l ≠ []) : ∃ g cap, v = .slice (some ⟨g, 0, none⟩) l.length cap := by
  rcases h with ⟨_, h⟩ | ⟨g, cap, _, _, hv, _⟩
  · exact absurd h hl
  · exact ⟨g, cap, hv⟩

def slen : Value → Nat | .slice _ n _ => n | _ => 0
theorem OwnB.slen {B : Nat} {e : TypeId} {v : Value} {l : List UInt8} {w : World} (h : OwnB B e v l w) : slen v = l.length := by
  rcases h with ⟨rfl, rfl⟩ | ⟨g, cap, _, _, rfl, _⟩ <;> rfl

theorem OwnB.str {P : Program} {B : Nat} {t d e : TypeId} {v : Value} {l : List UInt8} {w : World} (ht : P.underlying t = some (.slice e)) (he : P.underlying e = some (.int .u8)) (hd : P.underlying d = some .string) (h : OwnB B e v l w) :
    Sem.run P (convert t d v) w = .ok (.string ⟨l.toArray⟩) w := by
  rcases h with ⟨rfl, rfl⟩ | ⟨g, cap, cur, fz, rfl, hB, hg, hfz, hlc, hcm, hcs, htk⟩
  · exact run_convert_bytes_nil w t e ht he 0 0 d hd
  · refine run_convert_bytes_back w t d e ⟨g, 0, none⟩ cap l ht he hd ?_
    intro j hj
    exact OwnB.cells (B := B) (cap := cap) hg htk j _ (by simp [List.getElem?_eq_getElem hj, byteV])

theorem wp_bytes {P : Program} {ops : Array Oper} {rest : List Oper} {o : Oper} {a : Act} {Q : Exit → Act → World → Prop} {w : World} (hgd : o.guard = none) (x : Operand) (t d : TypeId)
    (ho : o.op = .convert t d x) (e : TypeId) (ht : P.underlying t = some .string) (hd : P.underlying d = some (.slice e)) (he : P.underlying e = some (.int .u8))
    (B : Nat) (s : ByteArray) (hs : a.eval x = .string s) (hB : B ≤ w.heap.size) (hlen : s.size ≤ maxLen)
    (h : ∀ v' w', OwnB B e v' s.data.toList w' → Below B w w' → wpList P ops Q rest (a.put o.dst v') w') : wpList P ops Q (o :: rest) a w := by
  refine wpList_plain hgd fun K hK => ?_
  have hr := run_bytes_of_string (P := P) w t d e s ht hd he
  have hge := grownCap_ge w s.size 0 e
  have hm := grownCap_le_maxLen w s.size 0 e hlen
  generalize grownCap w s.size 0 e = c at hr hge hm
  have hsz : (bytesRow s c).size = c := by
    simp only [bytesRow, Array.size_append, Array.size_map, Array.size_replicate, ByteArray.size_data]; omega
  unfold Oper.wp execOp
  simp only [ho, hs, Sem.run_bind, Sem.run_pure, Result.andThen_ok, hr]
  refine hK _ _ (h _ _ ?_ ((Below.refl B w).drew.alloc hB _))
  refine .inr ⟨w.heap.size, c, _, _, by simp, hB, heap_alloc_new w.drew _, .inr (by simp [hsz]), by simpa using hge, hm, hsz, ?_⟩
  simp only [bytesRow, Array.toList_append, Array.toList_map]
  rw [List.take_left' (by simp)]
  rfl

end Go.Proofs.YtaghclgookfmnaaDoor
