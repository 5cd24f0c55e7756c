/-
  Append of one value onto a row of the call's own: what lay in the row lies there still.
-/
import Derived.Test.YtfihidnmgaiojaaBuf
namespace Go.Proofs.Ytfihidnmgaiojaa
open Go.RowKit
set_option linter.unusedVariables false

theorem b_self {w w' : World} (h : Below w.heap.size w w') {b o : Nat} {v : Value} (hv : w.cell? ⟨b, o, none⟩ = some v) : w'.cell? ⟨b, o, none⟩ = some v := b_cell h (World.block_lt_of_cell? w _ hv) hv

theorem appI {P : Program} (w : World) (t ty e : TypeId) (i : TypeInfo) (ht : P.underlying t = some (.slice e)) (hi : P.info? e = some i) (hz : i.zero = some (.int .i64 0)) (hsize : i.size = 1) (hby : i.bytes = 8)
    (B g n cap : Nat) (xs : List Value) (hown : w.ownsRow B e 1 (.slice (some ⟨g, 0, none⟩) n cap) n xs) (hn : n ≤ 1000) (hB : B ≤ w.heap.size)
    (ad : Addr) (y : Value) (hy : y.oneCell' = true) (hc : ∀ j u, [y][j]? = some u → w.cell? (ad.add j) = some u) :
    ∃ v' w', (Builtin.append_ #[t, t] ty #[.slice (some ⟨g, 0, none⟩) n cap, .slice (some ad) 1 1]).run P w = .ok v' w' ∧ w'.ownsRow B e 1 v' (n + 1) (xs ++ [y]) ∧ w.grownBy w' (some g) ∧
      (∀ j, j < n → w'.cell? ⟨g, j, none⟩ = w.cell? ⟨g, j, none⟩) := by
  have h1 : ∀ u ∈ [y], u.oneCell' = true := by intro u hu; simp at hu; subst hu; exact hy
  obtain ⟨v', w', r1, r2, r3, _⟩ := run_append_own (P := P) w B t ty e i (.int .i64 0) 1 8 ht hi hz hsize hby rfl (by decide) (.slice (some ⟨g, 0, none⟩) n cap) n xs hown ad 1 1 [y] rfl hc h1 (by unfold maxLen; omega) (by omega) hB
  refine ⟨v', w', r1, r2, r3, ?_⟩
  intro j hj
  rcases hown.2 with ⟨h0, _⟩ | ⟨g', cap', cur, hv, hbg, hg, hnc, hcm, hcs, htk⟩
  · cases h0
  · have e1 : g' = g ∧ cap' = cap := by injection hv with ha _ hc; injection ha with ha; injection ha with ha; exact ⟨ha.symm, hc.symm⟩
    obtain ⟨rfl, rfl⟩ := e1
    by_cases hroom : n + 1 ≤ cap'
    · have hr := run_append_room (P := P) w t ty e i ht hi g' n cap' cur hg ad 1 1 [y] (by rw [hsize]; rfl) hc h1 hroom (by rw [hsize]; simp; omega)
      rw [hr] at r1
      injection r1 with _ r1
      rw [← r1, cell_setRow_same w g' j cur _ e (0, 0) hg, cell_of_row w g' j cur e (0, 0) hg, hsize]
      have hlen : j < (cur.toList.take (n * 1)).length := by simp; omega
      rw [List.getElem?_toArray, List.append_assoc, List.getElem?_append_left hlen, List.getElem?_take, if_pos (by omega)]
      simp
    · have holds := hown.cells (g := g') rfl
      have hr := run_append_grow (P := P) w t ty e i (.int .i64 0) ht hi hz ⟨g', 0, none⟩ n cap' xs (by rw [hsize]; exact hown.1) holds ad 1 1 [y] (by rw [hsize]; rfl) hc (by omega) (by omega) (by rw [hby]; exact growslice_fits (by omega) (by omega))
      rw [hr] at r1
      injection r1 with _ r1
      have hgl : g' < w.heap.size := (Array.getElem?_eq_some_iff.1 hg).1
      rw [← r1, World.cell?_alloc_lt _ _ _ (by exact hgl)]
      rfl

/-- At a step of a region that draws its order. -/
theorem stepI {P : Program} {ops : Array Oper} {o : Oper} {a : Act} {w : World} {K : Act → World → Prop} {Q : Exit → Act → World → Prop} {E : Prop} (hgd : o.guard = none) (s x : Operand) (t : TypeId)
    (ho : o.op = .call { callee := .builtin .append, args := #[s, x], argTypes := #[t, t] })
    (e : TypeId) (i : TypeInfo) (ht : P.underlying t = some (.slice e)) (hi : P.info? e = some i) (hz : i.zero = some (.int .i64 0)) (hsize : i.size = 1) (hby : i.bytes = 8)
    (B g n cap : Nat) (xs : List Value) (ad : Addr) (y : Value) (hy : y.oneCell' = true) (hn : n ≤ 1000)
    (hs : a.eval s = .slice (some ⟨g, 0, none⟩) n cap) (hx : a.eval x = .slice (some ad) 1 1)
    (hown : w.ownsRow B e 1 (.slice (some ⟨g, 0, none⟩) n cap) n xs) (hB : B ≤ w.heap.size) (hc : ∀ j u, [y][j]? = some u → w.cell? (ad.add j) = some u)
    (h : ∀ v' w', w'.ownsRow B e 1 v' (n + 1) (xs ++ [y]) → w.grownBy w' (some g) → (∀ j, j < n → w'.cell? ⟨g, j, none⟩ = w.cell? ⟨g, j, none⟩) → K (a.put o.dst v') w') :
    if Region.wanted o (yielded ops a.tmps) = true then Oper.wp P o a w K Q else E := by
  have hw : Region.wanted o (yielded ops a.tmps) = true := by simp [Region.wanted, hgd]
  rw [if_pos hw]
  obtain ⟨v', w', r1, r2, r3, r4⟩ := appI (P := P) w t o.type e i ht hi hz hsize hby B g n cap xs hown hn hB ad y hy hc
  unfold Oper.wp execOp
  simp only [ho, resolve, invoke, builtin, Sem.run_bind, Sem.run_pure, Result.andThen_ok, List.map_toArray, List.map_cons, List.map_nil, hs, hx, r1]
  exact h v' w' r2 r3 r4

end Go.Proofs.Ytfihidnmgaiojaa
