/-
  Append of one byte, for long texts: growslice's own bound.
-/
import Derived.Test.YtfihidnmgaiojaaBSpec
import Derived.Deep.DeepAppendWide
import Derived.Deep.RegionHeld3
namespace Go.Proofs.Ytfihidnmgaiojaa
open Go.RowKit
set_option linter.unusedVariables false

theorem appW {P : Program} (W : World) (t ty e : TypeId) (i : TypeInfo) (ht : P.underlying t = some (.slice e)) (hi : P.info? e = some i) (hz : i.zero = some (.int .u8 0)) (hsize : i.size = 1) (hby : i.bytes = 1)
    (B : Nat) (v : Value) (l : List UInt8) (b : UInt8) (ad : Addr) (hown : OwnB B e v l W) (hB : B ≤ W.heap.size) (hlen : l.length + 1 ≤ 220000000000000)
    (hnew : ∀ j u, [byteV b][j]? = some u → W.cell? (ad.add j) = some u) :
    ∃ v' w', (Builtin.append_ #[t, t] ty #[v, .slice (some ad) 1 1]).run P W = .ok v' w' ∧ OwnB B e v' (l ++ [b]) w' ∧ Below B W w' := by
  have hW : Below B W W := Below.refl _ _
  have h63 : l.length + 1 ≤ maxLen := by unfold maxLen; omega
  rcases hown with ⟨rfl, rfl⟩ | ⟨g, cap, cur, fz, rfl, hBg, hg, hfz, hlc, hcm, hcs, htk⟩
  · obtain ⟨v', w', r1, r2, r3, _⟩ := run_append_own (P := P) W B t ty e i (.int .u8 0) 1 1 ht hi hz hsize hby rfl (by decide) (.slice none 0 0) 0 [] ⟨by simp, .inl ⟨rfl, rfl⟩⟩ ad 1 1 [byteV b] rfl hnew
      (by intro u hu; simp at hu; subst hu; rfl) (by unfold maxLen; omega) (by omega) (by omega)
    refine ⟨v', w', r1, ?_, hW.trans ⟨r3.os, r3.tape, r3.output, r3.size, fun k hk => r3.block k (by omega) (by simp [Value.ownBlock])⟩⟩
    rcases r2.2 with ⟨_, h0⟩ | ⟨g, cap, cur, hv, hb, hg, hn, hm, hs, htake⟩
    · omega
    · exact .inr ⟨g, cap, cur, (0, 0), hv, hb, hg, .inl (Nat.zero_le _), hn, hm, by omega, by simpa using htake⟩
  · by_cases hroom : l.length + 1 ≤ cap
    · have hf := run_firstCells_some (P := P) W 1 1 ad 1 1 [byteV b] rfl hnew
      have hcell : W.cell? ⟨g, l.length, none⟩ = some cur[l.length] := by simp [World.cell?, hg]
      have hfro : W.frozen? ⟨g, l.length, none⟩ = false := by
        obtain ⟨lo, hi'⟩ := fz
        simp only [World.frozen?, hg, Bool.and_eq_false_iff, decide_eq_false_iff_not]
        simp only at hfz
        omega
      have hadd : (⟨g, l.length, none⟩ : Addr).add 0 = ⟨g, l.length, none⟩ := by unfold Addr.add; split <;> simp_all
      have hst : (storeCells ⟨g, l.length, none⟩ [byteV b] 0).run P W = .ok () (W.setRow g (cur.setIfInBounds l.length (byteV b))) := by
        simp only [storeCells, Sem.run_bind, hadd]
        rw [run_store P W _ (byteV b) _ rfl, hcell]
        simp [hfro, setCell_eq_setRow W g l.length cur e fz (byteV b) hg]
      refine ⟨.slice (some ⟨g, 0, none⟩) (l.length + 1) cap, W.setRow g (cur.setIfInBounds l.length (byteV b)), ?_, ?_, below_setRow hW hBg _⟩
      · simp [Builtin.append_, run_underlying ht, sizeOf, typeInfo, hi, hsize, Builtin.lenOf, hroom, hf, Addr.add_lit, hst]
      · refine .inr ⟨g, cap, _, fz, by simp, hBg, setRow_heap W g cur _ e _ hg, ?_, by simpa using hroom, hcm, by simpa using hcs, ?_⟩
        · rcases hfz with h | h
          · left; simp; omega
          · exact .inr h
        · rw [List.length_append, List.length_singleton, Array.toList_setIfInBounds, List.take_succ_eq_append_getElem (by simp; omega)]
          rw [List.take_set_of_le (Nat.le_refl _), htk]
          simp
    · have holds := OwnB.cells (B := B) (cap := cap) hg htk
      have hr := run_append_grow (P := P) W t ty e i (.int .u8 0) ht hi hz ⟨g, 0, none⟩ l.length cap (l.map byteV) (by rw [hsize]; simp) holds ad 1 1 [byteV b] (by rw [hsize]; rfl) hnew (by omega) (by unfold maxLen at h63; omega)
        (by rw [hby]; exact growslice_fits_wide (by omega) (by omega))
      refine ⟨_, _, hr, grown_own (P := P) W e B l b _ (by omega) (grownCap_ge W _ _ e) (grownCap_le_maxLen W _ _ e h63), ?_⟩
      exact (hW.drew).alloc (by show B ≤ W.heap.size; omega) _

theorem new_cell {w : World} (v : Value) (e : TypeId) (n : Nat) : ∀ j u, [v][j]? = some u → ((w.alloc (.cells #[v] e)).drewN n).cell? ((⟨w.heap.size, 0, none⟩ : Addr).add j) = some u := by
  intro j u hu
  exact one_cell w v e j u hu

/-- The operation, for the walk. -/
theorem wp_appW {P : Program} {ops : Array Oper} {rest : List Oper} {o : Oper} {a : Act} {Q : Exit → Act → World → Prop} {w : World} (hgd : o.guard = none) (s x : Operand) (t : TypeId)
    (ho : o.op = .call { callee := .builtin .append, args := #[s, x], argTypes := #[t, t] })
    (e : TypeId) (i : TypeInfo) (ht : P.underlying t = some (.slice e)) (hi : P.info? e = some i) (hz : i.zero = some (.int .u8 0)) (hsize : i.size = 1) (hby : i.bytes = 1)
    (B : Nat) (v : Value) (l : List UInt8) (b : UInt8) (ad : Addr) (hs : a.eval s = v) (hx : a.eval x = .slice (some ad) 1 1) (hlen : l.length + 1 ≤ 220000000000000)
    (hown : OwnB B e v l w) (hB : B ≤ w.heap.size)
    (hnew : ∀ j u, [byteV b][j]? = some u → w.cell? (ad.add j) = some u)
    (h : ∀ v' w', OwnB B e v' (l ++ [b]) w' → Below B w w' → wpList P ops Q rest (a.put o.dst v') w') : wpList P ops Q (o :: rest) a w := by
  refine wpList_plain hgd fun K hK => ?_
  obtain ⟨v', w', hr, h2, h3⟩ := appW (P := P) w t o.type e i ht hi hz hsize hby B v l b ad hown hB hlen hnew
  unfold Oper.wp execOp
  simp only [ho, resolve, invoke, builtin, Sem.run_bind, Sem.run_pure, Result.andThen_ok, List.map_toArray, List.map_cons, List.map_nil, hs, hx, hr]
  exact hK _ _ (h v' w' h2 h3)

/-- At a step of a region that draws its order. -/
theorem stepW {P : Program} {ops : Array Oper} {o : Oper} {a : Act} {w : World} {K : Act → World → Prop} {Q : Exit → Act → World → Prop} {E : Prop} (hgd : o.guard = none) (s x : Operand) (t : TypeId)
    (ho : o.op = .call { callee := .builtin .append, args := #[s, x], argTypes := #[t, t] })
    (e : TypeId) (i : TypeInfo) (ht : P.underlying t = some (.slice e)) (hi : P.info? e = some i) (hz : i.zero = some (.int .u8 0)) (hsize : i.size = 1) (hby : i.bytes = 1)
    (B : Nat) (v : Value) (l : List UInt8) (b : UInt8) (ad : Addr) (hs : a.eval s = v) (hx : a.eval x = .slice (some ad) 1 1) (hlen : l.length + 1 ≤ 220000000000000)
    (hown : OwnB B e v l w) (hB : B ≤ w.heap.size)
    (hnew : ∀ j u, [byteV b][j]? = some u → w.cell? (ad.add j) = some u)
    (h : ∀ v' w', OwnB B e v' (l ++ [b]) w' → Below B w w' → K (a.put o.dst v') w') :
    if Region.wanted o (yielded ops a.tmps) = true then Oper.wp P o a w K Q else E := by
  have hw : Region.wanted o (yielded ops a.tmps) = true := by simp [Region.wanted, hgd]
  rw [if_pos hw]
  obtain ⟨v', w', hr, h2, h3⟩ := appW (P := P) w t o.type e i ht hi hz hsize hby B v l b ad hown hB hlen hnew
  unfold Oper.wp execOp
  simp only [ho, resolve, invoke, builtin, Sem.run_bind, Sem.run_pure, Result.andThen_ok, List.map_toArray, List.map_cons, List.map_nil, hs, hx, hr]
  exact h v' w' h2 h3

end Go.Proofs.Ytfihidnmgaiojaa
