/-
  Scripts that came in, opened.
-/
import Derived.Test.YtbllepoagnfjnaaDoorILaw
import Derived.ProofKit
import Derived.OpenShut
import Derived.ShutString
import Derived.ChangeOld
import Derived.Below
import Derived.SizedLaws
import Derived.Lib.SmallJoins
namespace Go.Proofs.YtbllepoagnfjnaaDoor.Dg
set_option maxRecDepth 4000
open Go.ChangeShapes Go.WideShapes Go.ChangeAt Go.RowKit Go.Joins Go.Deep
set_option linter.unusedVariables false

theorem weights_in {H : Type} {P : Program} {e : TypeId} {d : DataW H} {ds : List (DataW H)} (hd : d ∈ ds) {n : Nat} (hn : n ∈ d.weights P e) : n ∈ DataW.weightsAll P e ds := by
  induction ds with
  | nil => cases hd
  | cons d0 ds ih =>
    simp only [DataW.weightsAll, List.mem_append]
    rcases List.mem_cons.1 hd with rfl | h
    · exact .inl hn
    · exact .inr (ih h)
section
variable {H : Type} {enc : TypeId × Value → H} {P : Program} {w : World} {base : Nat} {spare : Nat → Bool} {held : Bool}
theorem trod_struct6 {t : TypeId} {f0 f1 f2 f3 f4 f5 : Field} {fuel : Nat} {cs : List Value} {x : DataW H × List MemPlace} (ht : P.underlying t = some (.struct #[f0, f1, f2, f3, f4, f5])) (h : DataW.trod enc P w base spare held fuel t cs = some x) :
    ∃ y0 y1 y2 y3 y4 y5 n, x = (.agg [y0.1, y1.1, y2.1, y3.1, y4.1, y5.1], y0.2 ++ (y1.2 ++ (y2.2 ++ (y3.2 ++ (y4.2 ++ y5.2))))) ∧ cs.length = P.cellsOf t ∧ DataW.trod enc P w base spare held n f0.type ((cs.drop f0.offset).take (P.cellsOf f0.type)) = some y0 ∧
      DataW.trod enc P w base spare held n f1.type ((cs.drop f1.offset).take (P.cellsOf f1.type)) = some y1 ∧ DataW.trod enc P w base spare held n f2.type ((cs.drop f2.offset).take (P.cellsOf f2.type)) = some y2 ∧
      DataW.trod enc P w base spare held n f3.type ((cs.drop f3.offset).take (P.cellsOf f3.type)) = some y3 ∧ DataW.trod enc P w base spare held n f4.type ((cs.drop f4.offset).take (P.cellsOf f4.type)) = some y4 ∧ DataW.trod enc P w base spare held n f5.type ((cs.drop f5.offset).take (P.cellsOf f5.type)) = some y5 := by
  obtain ⟨xs, n, _, rfl, hl, hlen, hf⟩ := DataW.trod_struct ht h
  match xs, hlen with
  | [y0, y1, y2, y3, y4, y5], _ => exact ⟨y0, y1, y2, y3, y4, y5, n, by simp, hl, by simpa using hf 0 f0 rfl, by simpa using hf 1 f1 rfl, by simpa using hf 2 f2 rfl, by simpa using hf 3 f3 rfl, by simpa using hf 4 f4 rfl, by simpa using hf 5 f5 rfl⟩
end
/-- A script that came in. -/
theorem open_OR {H : Type} {enc : TypeId × Value → H} {W : World} {fuel : Nat} {v : Value} {x : DataW H × List MemPlace}
    (h : DataW.trod enc Tryd.prog W 0 (fun _ => true) true fuel 22 [v] = some x) (hz : ∀ n ∈ x.1.weights Tryd.prog 22, n ≤ reachBytes) :
    ∃ os, OR W v os ∧ os.length ≤ 2000000000000 ∧ ∀ o ∈ os, o.s.size ≤ 140737488351232 := by
  rcases open_slice Tryd.underlying22 h with ⟨hcs, _⟩ | ⟨a, l, c, m, n, D, Pl, hcs, _, hl, hm, hlen, hx, hel⟩
  · simp at hcs
    subst hcs
    exact ⟨[], ⟨none, 0, rfl, fun j z hj => by simp at hj⟩, by simp, fun k hk => by cases hk⟩
  · simp at hcs
    subst hcs
    have hmc : m = c := by simpa using hlen
    have hc3 : Tryd.prog.cellsOf 37 = 6 := by kernel_rfl
    have hby : Tryd.prog.bytesOf 37 = 80 := by kernel_rfl
    have one : ∀ i, i < l → ∃ k : Stp, (W.cell? (a.add (i * 6)) = some (.int .i64 k.kind) ∧ W.cell? ((a.add (i * 6)).add 1) = some (.int .i64 k.a) ∧ W.cell? ((a.add (i * 6)).add 2) = some (.int .i64 k.b) ∧ W.cell? ((a.add (i * 6)).add 3) = some (.string k.s) ∧ W.cell? ((a.add (i * 6)).add 4) = some (.string k.t) ∧ W.cell? ((a.add (i * 6)).add 5) = some (.slice k.va k.vl k.vc)) ∧ ∃ z, D i = .agg [.lit (.int .i64 k.kind), .lit (.int .i64 k.a), .lit (.int .i64 k.b), .lit (.string k.s.data.toList), .lit (.string k.t.data.toList), z] := by
      intro i hi
      obtain ⟨cs', h1, h2⟩ := hel i (by omega)
      rw [hc3] at h1
      obtain ⟨_, hlen', hcell⟩ := World.cells?_some h1
      obtain ⟨y0, y1, y2, y3, y4, y5, n', hd, _, g0, g1, g2, g3, g4, g5⟩ := trod_struct6 Tryd.underlying37 h2
      match cs', hlen' with
      | [c0, c1, c2, c3, c4, c5], _ =>
        have ci : Tryd.prog.cellsOf 3 = 1 := by kernel_rfl
        have cS : Tryd.prog.cellsOf 9 = 1 := by kernel_rfl
        have cV : Tryd.prog.cellsOf 35 = 1 := by kernel_rfl
        have g0' : DataW.trod enc Tryd.prog W 0 (fun _ => true) true n' 3 [c0] = some y0 := by simpa [ci] using g0
        have g1' : DataW.trod enc Tryd.prog W 0 (fun _ => true) true n' 3 [c1] = some y1 := by simpa [ci] using g1
        have g2' : DataW.trod enc Tryd.prog W 0 (fun _ => true) true n' 3 [c2] = some y2 := by simpa [ci] using g2
        have g3' : DataW.trod enc Tryd.prog W 0 (fun _ => true) true n' 9 [c3] = some y3 := by simpa [cS] using g3
        have g4' : DataW.trod enc Tryd.prog W 0 (fun _ => true) true n' 9 [c4] = some y4 := by simpa [cS] using g4
        have g5' : DataW.trod enc Tryd.prog W 0 (fun _ => true) true n' 35 [c5] = some y5 := by simpa [cV] using g5
        obtain ⟨s0, e0, f0, _⟩ := DataW.trod_int Tryd.underlying3 g0'
        obtain ⟨s1, e1, f1, _⟩ := DataW.trod_int Tryd.underlying3 g1'
        obtain ⟨s2, e2, f2, _⟩ := DataW.trod_int Tryd.underlying3 g2'
        obtain ⟨s3, e3, f3, _⟩ := DataW.trod_string Tryd.underlying9 g3'
        obtain ⟨s4, e4, f4, _⟩ := DataW.trod_string Tryd.underlying9 g4'
        simp only [List.cons.injEq, and_true] at e0 e1 e2 e3 e4
        subst e0 e1 e2 e3 e4
        obtain ⟨va, vl, vc, rfl⟩ : ∃ va vl vc, c5 = .slice va vl vc := by
          rcases open_slice Tryd.underlying35 g5' with ⟨q, _⟩ | ⟨a', l', c', _, _, _, _, q, _⟩
          · simp at q; exact ⟨none, 0, 0, q⟩
          · simp at q; exact ⟨some a', l', c', q⟩
        simp only [Prod.mk.injEq] at hd
        refine ⟨⟨s0, s1, s2, s3, s4, va, vl, vc⟩, ⟨?_, ?_, ?_, ?_, ?_, ?_⟩, y5.1, ?_⟩
        · have := hcell 0 (by omega); simpa [Addr.add] using this
        · have := hcell 1 (by omega); simpa using this
        · have := hcell 2 (by omega); simpa using this
        · have := hcell 3 (by omega); simpa using this
        · have := hcell 4 (by omega); simpa using this
        · have := hcell 5 (by omega); simpa using this
        · rw [hd.1, f0, f1, f2, f3, f4]
    haveI : Inhabited Stp := ⟨⟨0, 0, 0, ByteArray.empty, ByteArray.empty, none, 0, 0⟩⟩
    obtain ⟨K, hK⟩ := choose_lt one
    have hll : ((List.range l).map K).length = l := by simp
    have hw : ∀ n ∈ x.1.weights Tryd.prog 22, n ≤ 140737488351232 := fun n hn => by have := hz n hn; simpa [reachBytes] using this
    rw [hx] at hw
    simp only [DataW.weights, Tryd.underlying22, hby] at hw
    refine ⟨(List.range l).map K, ⟨some a, c, by rw [hll], fun j k hj => ?_⟩, ?_, fun k hk => ?_⟩
    · have hjl : j < l := by have := (List.getElem?_eq_some_iff.1 hj).1; rw [hll] at this; exact this
      have hkj : K j = k := by
        rw [List.getElem?_map, List.getElem?_range hjl] at hj
        simpa using hj
      obtain ⟨⟨a0, a1, a2, a3, a4, a5⟩, _⟩ := hK j hjl
      rw [hkj] at a0 a1 a2 a3 a4 a5
      obtain ⟨b, off, spot⟩ := a
      have hspot : spot = none := by
        have h0 := (hK 0 (by omega)).1.1
        simpa [Addr.add] using World.cell?_spot h0
      subst hspot
      have hadd : ∀ o i : Nat, (⟨b, o, none⟩ : Addr).add i = ⟨b, o + i, none⟩ := fun o i => by unfold Addr.add; split <;> simp_all
      rw [hadd] at a0 a1 a2 a3 a4 a5
      rw [hadd] at a1 a2 a3 a4 a5
      exact ⟨b, off, rfl, a0, a1, a2, a3, a4, a5⟩
    · rw [hll]
      have := hw _ (List.mem_cons_self ..)
      simp at this
      omega
    · obtain ⟨j, hj, rfl⟩ := List.mem_map.1 hk
      have hjl : j < l := List.mem_range.1 hj
      obtain ⟨z, hD⟩ := (hK j hjl).2
      have hmem : D j ∈ (List.range l).map D := List.mem_map.2 ⟨j, hj, rfl⟩
      have hin : ∀ n, n ∈ (D j).weights Tryd.prog 37 → n ≤ 140737488351232 := fun n hn => hw n (List.mem_cons_of_mem _ (List.mem_append_left _ (weights_in hmem hn)))
      rw [hD] at hin
      simp only [DataW.weights, Tryd.underlying37] at hin
      have q1 := hin (K j).s.data.toList.length (by simp [DataW.weightsEach, DataW.weights])
      simpa using q1
end Go.Proofs.YtbllepoagnfjnaaDoor.Dg
