/-
  The document's setNode, of a printed set.
-/
import Derived.Test.YtbllepoagnfjnaaDoorIKm
namespace Go.Proofs.YtbllepoagnfjnaaDoor.Dg
set_option maxRecDepth 4000
open Go.RowKit
set_option linter.unusedVariables false

theorem IR.of_rr {tN : TypeId} {v : Value} {L : List Nd} {w : World} (h : RR tN v L w) {k : Nat} {n : Nd} (hn : L[k]? = some n) {g : Nat} {kv : Value} (hg : ∃ ln cap, v = .slice (some ⟨g, 0, none⟩) ln cap) (hc : w.cell? ⟨g, k * 6 + 4, none⟩ = some kv) : IR w kv n.kids := by
  obtain ⟨g', kv', e, a, hl, c0, c1, c2, c3, c4, c5⟩ := h.at' k n hn
  obtain ⟨ln, cap, rfl⟩ := hg
  injection e with e1 e2 _
  injection e1 with e1
  injection e1 with e1 _ _
  subst e1
  rw [hc] at c4
  injection c4 with c4
  rw [c4]; exact a
set_option maxRecDepth 4000 in
set_option maxHeartbeats 1000000 in
theorem rset0 (v up : Value) (L : List Nd) (w : World) (hx : RR 63 v L w) (n : Nd) (hn : L[0]? = some n) (h5 : n.kind = 5) :
    Calls Tryd.prog 17 #[v, up, .int .i64 0] w fun r w' => r = .returned (.int .i64 0) ∧ Below w.heap.size w w' := by
  have hkl : 0 < L.length := (List.getElem?_eq_some_iff.1 hn).1
  obtain ⟨ad, cap, rfl⟩ := hx.shape
  obtain ⟨g, adk, capk, rfl, _, hkb, hkc, c0, c1, c2, c3, c4, c5⟩ := hx.node hn
  rw [h5] at c0
  simp only [Nat.zero_mul, Nat.zero_add] at c0 c1 c2 c3 c4 c5
  have k0 : (0 : Int) < (L.length : Int) := by omega
  clear hx hn hkc h5
  go_enter Tryd.func17, Tryd.ntmps17
  go_wp2_with fail
  go_ret
  exact ⟨rfl, bal (brf _) _⟩
set_option maxRecDepth 4000 in
set_option maxHeartbeats 1000000 in
theorem rset1 (v : Value) (ub : Nat) (L : List Nd) (w : World) (hx : RR 63 v L w) (n : Nd) (i : Nat) (hi : 0 < i) (hl : L.length ≤ 1000000) (hn : L[i]? = some n) (h4 : n.kind = 4) (hk : n.key = keysN) (hu : w.cell? ⟨ub, i, none⟩ = some (.int .i64 0)) :
    Calls Tryd.prog 17 #[v, .slice (some ⟨ub, 0, none⟩) L.length L.length, .int .i64 (i : Int)] w fun r w' => r = .returned (.int .i64 0) ∧ Below w.heap.size w w' := by
  have hkl : i < L.length := (List.getElem?_eq_some_iff.1 hn).1
  obtain ⟨ad, cap, rfl⟩ := hx.shape
  obtain ⟨g, adk, capk, rfl, _, hkb, hkc, c0, c1, c2, c3, c4, c5⟩ := hx.node hn
  rw [h4] at c0
  rw [hk, show keysN.toArray = #[107, 101, 121, 115] from rfl] at c1
  have k0 : (i : Int) < (L.length : Int) := by omega
  have k1 : ((i : Int) == 0) = false := by rw [beq_eq_false_iff_ne]; omega
  have ub0 : ub < w.heap.size := World.block_lt_of_cell? w _ hu
  have u1 : ∀ o, (w.alloc o).cell? ⟨ub, i, none⟩ = some (.int .i64 0) := fun o => (World.cell?_alloc_lt _ _ _ ub0).trans hu
  clear hx hn hkc h4 hk
  go_enter Tryd.func17, Tryd.ntmps17
  go_wp2_with fail
  go_ret
  exact ⟨rfl, bal (brf _) _⟩
set_option maxRecDepth 4000 in
set_option maxHeartbeats 1000000 in
theorem rset2 (v : Value) (ub : Nat) (L : List Nd) (w : World) (hx : RR 63 v L w) (n m : Nd) (i p : Nat) (hi : 0 < i) (hp : 0 < p) (hl : L.length ≤ 1000000) (hn : L[i]? = some n) (hm : L[p]? = some m) (h5 : n.kind = 5) (hk : m.kids.length ≤ 20) (hu : w.cell? ⟨ub, i, none⟩ = some (.int .i64 (p : Int))) (hu2 : w.cell? ⟨ub, p, none⟩ = some (.int .i64 0)) :
    Calls Tryd.prog 17 #[v, .slice (some ⟨ub, 0, none⟩) L.length L.length, .int .i64 (i : Int)] w fun r w' => r = .returned (.int .i64 0) ∧ Below w.heap.size w w' := by
  have hkl : i < L.length := (List.getElem?_eq_some_iff.1 hn).1
  have hpl : p < L.length := (List.getElem?_eq_some_iff.1 hm).1
  obtain ⟨ad, cap, rfl⟩ := hx.shape
  obtain ⟨g, adk, capk, rfl, _, hkb, hkc, c0, c1, c2, c3, c4, c5⟩ := hx.node hn
  obtain ⟨g', adm, capm, eg, _, hmb, hmc, _, _, _, _, d4, _⟩ := hx.node hm
  obtain rfl : g = g' := by injection eg with eg; injection eg
  have ir := IR.of_rr hx hm ⟨_, _, rfl⟩ d4
  rw [h5] at c0
  have u1 : ∀ o, (w.alloc o).cell? ⟨ub, i, none⟩ = some (.int .i64 (p : Int)) := fun o => (World.cell?_alloc_lt _ _ _ (World.block_lt_of_cell? w _ hu)).trans hu
  have u2 : ∀ o, (w.alloc o).cell? ⟨ub, p, none⟩ = some (.int .i64 0) := fun o => (World.cell?_alloc_lt _ _ _ (World.block_lt_of_cell? w _ hu2)).trans hu2
  have u3 : ∀ o, (w.alloc o).cell? ⟨g, p * 6 + 4, none⟩ = some (.slice adm m.kids.length capm) := fun o => (World.cell?_alloc_lt _ _ _ (World.block_lt_of_cell? w _ d4)).trans d4
  have k0 : (i : Int) < (L.length : Int) := by omega
  have k1 : ((i : Int) == 0) = false := by rw [beq_eq_false_iff_ne]; omega
  have k2 : ((p : Int) == 0) = false := by rw [beq_eq_false_iff_ne]; omega
  have k3 : (p : Int) < (L.length : Int) := by omega
  have HI := thid ir
  clear hx hn hm hkc hmc h5 eg ir
  go_enter Tryd.func17, Tryd.ntmps17
  go_wp2_with (refine (rindex _ m.kids i _ (HI.out.below ((Below.refl _ _).alloc (Nat.le_refl _) _)) hk).mono ?_; rintro r w1 ⟨⟨q, rfl, hq⟩, hw1⟩; rw [hw1]; clear hw1 w1)
  go_ret
  exact ⟨rfl, bal (brf _) _⟩
set_option maxRecDepth 4000 in
set_option maxHeartbeats 1000000 in
theorem rset3 (v : Value) (ub : Nat) (L : List Nd) (w : World) (hx : RR 63 v L w) (n : Nd) (i p q : Nat) (hi : 0 < i) (hp : 0 < p) (hq : 0 < q) (hpl : p < L.length) (hl : L.length ≤ 1000000) (hn : L[i]? = some n) (h3 : n.kind = 3) (hK : KM n.key n.text) (hu : w.cell? ⟨ub, i, none⟩ = some (.int .i64 (p : Int))) (hu2 : w.cell? ⟨ub, p, none⟩ = some (.int .i64 (q : Int))) :
    Calls Tryd.prog 17 #[v, .slice (some ⟨ub, 0, none⟩) L.length L.length, .int .i64 (i : Int)] w fun r w' => r = .returned (.int .i64 0) ∧ Below w.heap.size w w' := by
  have hkl : i < L.length := (List.getElem?_eq_some_iff.1 hn).1
  obtain ⟨ad, cap, rfl⟩ := hx.shape
  obtain ⟨g, adk, capk, rfl, _, hkb, hkc, c0, c1, c2, c3, c4, c5⟩ := hx.node hn
  rw [h3] at c0
  have u1 : ∀ o, (w.alloc o).cell? ⟨ub, i, none⟩ = some (.int .i64 (p : Int)) := fun o => (World.cell?_alloc_lt _ _ _ (World.block_lt_of_cell? w _ hu)).trans hu
  have u2 : ∀ o, (w.alloc o).cell? ⟨ub, p, none⟩ = some (.int .i64 (q : Int)) := fun o => (World.cell?_alloc_lt _ _ _ (World.block_lt_of_cell? w _ hu2)).trans hu2
  have k0 : (i : Int) < (L.length : Int) := by omega
  have k1 : ((i : Int) == 0) = false := by rw [beq_eq_false_iff_ne]; omega
  have k2 : ((p : Int) == 0) = false := by rw [beq_eq_false_iff_ne]; omega
  have k4 : ((q : Int) == 0) = false := by rw [beq_eq_false_iff_ne]; omega
  have k3 : (p : Int) < (L.length : Int) := by omega
  have HK := thid hK
  clear hx hn hkc h3 hK
  go_enter Tryd.func17, Tryd.ntmps17
  go_wp2_with (refine (rkm _ _ _ _ _ _ HK.out).mono ?_; rintro r w1 ⟨rfl, hb⟩; have HB := thid hb; clear hb)
  go_ret
  exact ⟨rfl, (bal (brf _) _).trans (HB.out.mono (by simp))⟩
end Go.Proofs.YtbllepoagnfjnaaDoor.Dg
