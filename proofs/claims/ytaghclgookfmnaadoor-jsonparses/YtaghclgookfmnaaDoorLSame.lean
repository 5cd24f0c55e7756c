/-
  The law's own: same, num.
-/
import Derived.Test.YtaghclgookfmnaaDoorCText
namespace Go.Proofs.YtaghclgookfmnaaDoor
open Go.RowKit
set_option linter.unusedVariables false

/-- A row of numbers that can be read. -/
def IR (w : World) (v : Value) (us : List Nat) : Prop :=
  ∃ ad cap, v = .slice ad us.length cap ∧ ∀ j k : Nat, us[j]? = some k → ∃ g, ad = some ⟨g, 0, none⟩ ∧ w.cell? ⟨g, j, none⟩ = some (.int .i64 (k : Int))
theorem IR.of {B : Nat} {e : TypeId} {w : World} {v : Value} {us : List Nat} (h : w.ownsRow B e 1 v us.length (us.map iV)) : IR w v us := by
  have hadd : ∀ (g j : Nat), (⟨g, 0, none⟩ : Addr).add j = ⟨g, j, none⟩ := fun g j => by unfold Addr.add; split <;> simp_all
  rcases h.2 with ⟨a, b⟩ | ⟨g, c, cu, a, _⟩
  · refine ⟨none, 0, by rw [a, b], fun j k hj => ?_⟩
    obtain rfl := List.length_eq_zero_iff.1 b
    simp at hj
  · refine ⟨some ⟨g, 0, none⟩, c, a, fun j k hj => ⟨g, rfl, ?_⟩⟩
    have := h.cells (g := g) (by rw [a]; rfl) j (iV k) (by simp [hj])
    rwa [hadd] at this
theorem IR.keep {w w' : World} {v : Value} {us : List Nat} (h : IR w v us) (hc : ∀ g j u, w.cell? ⟨g, j, none⟩ = some u → w'.cell? ⟨g, j, none⟩ = some u) : IR w' v us := by
  obtain ⟨ad, cap, h1, h2⟩ := h
  refine ⟨ad, cap, h1, fun j k hj => ?_⟩
  obtain ⟨g, a, b⟩ := h2 j k hj
  exact ⟨g, a, hc _ _ _ b⟩
theorem IR.drewN {w : World} {v : Value} {us : List Nat} (h : IR w v us) (n : Nat) : IR (w.drewN n) v us := h.keep fun g j u hc => by simpa using hc
theorem cell_kp {w w' : World} (h : Below w.heap.size w w') {g j : Nat} {u : Value} (hc : w.cell? ⟨g, j, none⟩ = some u) : w'.cell? ⟨g, j, none⟩ = some u := by
  by_cases hg : g < w.heap.size
  · have := h.block g hg
    simp only [World.cell?] at hc ⊢
    rw [this]; exact hc
  · have : w.heap[g]? = none := Array.getElem?_eq_none (by omega)
    simp [World.cell?, this] at hc
theorem IR.below {w w' : World} {v : Value} {us : List Nat} (h : IR w v us) (hb : Below w.heap.size w w') : IR w' v us := h.keep fun g j u hc => cell_kp hb hc
set_option maxHeartbeats 400000 in
theorem lnum (e : Int) (w : World) : Calls Tryd.prog 8 #[.int .i64 e] w fun r w' => r = .returned (.int .i64 e) ∧ w' = w := by
  go_enter Tryd.func8, Tryd.ntmps8
  go_wp2
  go_ret
  exact ⟨rfl, rfl⟩
set_option maxHeartbeats 1000000 in
theorem lsame (x y : Value) (us : List Nat) (w : World) (hx : IR w x us) (hy : IR w y us) (hl : us.length ≤ 1000000000) :
    Calls Tryd.prog 14 #[x, y] w fun r w' => r = .returned (.bool true) ∧ Below w.heap.size w w' := by
  have H0 : Hid (IR w x us ∧ IR w y us) := ⟨hx, hy⟩
  obtain ⟨ad1, cap1, rfl, c1⟩ := hx
  obtain ⟨ad2, cap2, rfl, c2⟩ := hy
  clear c1 c2
  go_enter Tryd.func14, Tryd.ntmps14
  go_wp2_with fail
  go_loopw [5] (fun i wr => ∃ j : Nat, j ≤ us.length ∧ i = .int .i64 (j : Int) ∧ IR wr (.slice ad1 us.length cap1) us ∧ IR wr (.slice ad2 us.length cap2) us ∧ Below w.heap.size w wr) (fun i _ => us.length - (intOf i).toNat)
  case atStart => exact ⟨0, by omega, rfl, H0.out.1, H0.out.2, brf w⟩
  case round =>
    clear H0
    obtain ⟨j, hj, rfl, r1, r2, hb⟩ := hrel
    have R1 : Hid (IR wr (.slice ad1 us.length cap1) us) := r1
    have R2 : Hid (IR wr (.slice ad2 us.length cap2) us) := r2
    have HB : Hid (Below w.heap.size w wr) := hb
    have c1 : ∀ j k : Nat, us[j]? = some k → ∃ g, ad1 = some ⟨g, 0, none⟩ ∧ wr.cell? ⟨g, j, none⟩ = some (.int .i64 (k : Int)) := by
      obtain ⟨ad, cap, e, c⟩ := r1
      injection e with a _ _
      rw [a]; exact c
    have c2 : ∀ j k : Nat, us[j]? = some k → ∃ g, ad2 = some ⟨g, 0, none⟩ ∧ wr.cell? ⟨g, j, none⟩ = some (.int .i64 (k : Int)) := by
      obtain ⟨ad, cap, e, c⟩ := r2
      injection e with a _ _
      rw [a]; exact c
    clear hb r1 r2
    by_cases hlt : j < us.length
    · have k1 : (j : Int) < (us.length : Int) := by omega
      obtain ⟨p, hp⟩ : ∃ p, us[j]? = some p := ⟨_, List.getElem?_eq_getElem hlt⟩
      obtain ⟨g1, rfl, d1⟩ := c1 j p hp
      obtain ⟨g2, rfl, d2⟩ := c2 j p hp
      have hjb : (j : Int) ≤ 1000000000 := by omega
      clear c1 c2 hp
      go_wp2_with fail
      go_quiet (fail)
      go_wp2_with fail
      go_roundw
      case rel => exact ⟨j + 1, by omega, by go_num, R1.out.drewN nq, R2.out.drewN nq, bdN HB.out nq⟩
      case measure => simp [intOf]; omega
    · have k1 : ¬ (j : Int) < (us.length : Int) := by omega
      go_wp2
      go_ret
      exact ⟨rfl, HB.out⟩
end Go.Proofs.YtaghclgookfmnaaDoor
