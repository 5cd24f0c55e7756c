/-
  Joined by program: LSame, LNodes.
-/
import Derived.Test.YtaghclgookfmnaaDoorCText
/-
  The law's own: same, num.
-/
namespace Go.Proofs.YtaghclgookfmnaaDoor
open Go.RowKit
set_option linter.unusedVariables false

/-- A row of numbers that can be read. -/
def IR (w : World) (v : Value) (us : List Nat) : Prop :=
  ∃ ad cap, v = .slice ad us.length cap ∧ ∀ j k : Nat, us[j]? = some k → ∃ g, ad = some ⟨g, 0, none⟩ ∧ w.cell? ⟨g, j, none⟩ = some (.int .i64 (k : Int))
theorem IR.of {B : Nat} {e : TypeId} {w : World} {v : Value} {us : List Nat} (h : w.ownsRow B e 1 v us.length (us.map iV)) : IR w v us := by
  have hadd : ∀ (g j : Nat), (⟨g, 0, none⟩ : Addr).add j = ⟨g, j, none⟩ := fun g j => by unfold Addr.add; split <;> simp_all
  rcases h.2 with ⟨a, b⟩ | ⟨g, c, cu, a, _⟩
  · refine ⟨none, 0, by rw [a, b], fun j k hj => ?_⟩
    obtain rfl := List.length_eq_zero_iff.1 b
    simp at hj
  · refine ⟨some ⟨g, 0, none⟩, c, a, fun j k hj => ⟨g, rfl, ?_⟩⟩
    have := h.cells (g := g) (by rw [a]; rfl) j (iV k) (by simp [hj])
    rwa [hadd] at this
theorem IR.keep {w w' : World} {v : Value} {us : List Nat} (h : IR w v us) (hc : ∀ g j u, w.cell? ⟨g, j, none⟩ = some u → w'.cell? ⟨g, j, none⟩ = some u) : IR w' v us := by
  obtain ⟨ad, cap, h1, h2⟩ := h
  refine ⟨ad, cap, h1, fun j k hj => ?_⟩
  obtain ⟨g, a, b⟩ := h2 j k hj
  exact ⟨g, a, hc _ _ _ b⟩
theorem IR.drewN {w : World} {v : Value} {us : List Nat} (h : IR w v us) (n : Nat) : IR (w.drewN n) v us := h.keep fun g j u hc => by simpa using hc
theorem cell_kp {w w' : World} (h : Below w.heap.size w w') {g j : Nat} {u : Value} (hc : w.cell? ⟨g, j, none⟩ = some u) : w'.cell? ⟨g, j, none⟩ = some u := by
  by_cases hg : g < w.heap.size
  · have := h.block g hg
    simp only [World.cell?] at hc ⊢
    rw [this]; exact hc
  · have : w.heap[g]? = none := Array.getElem?_eq_none (by omega)
    simp [World.cell?, this] at hc
theorem IR.below {w w' : World} {v : Value} {us : List Nat} (h : IR w v us) (hb : Below w.heap.size w w') : IR w' v us := h.keep fun g j u hc => cell_kp hb hc
set_option maxHeartbeats 400000 in
theorem lnum (e : Int) (w : World) : Calls Tryd.prog 8 #[.int .i64 e] w fun r w' => r = .returned (.int .i64 e) ∧ w' = w := by
  go_enter Tryd.func8, Tryd.ntmps8
  go_wp2
  go_ret
  exact ⟨rfl, rfl⟩
set_option maxHeartbeats 1000000 in
theorem lsame (x y : Value) (us : List Nat) (w : World) (hx : IR w x us) (hy : IR w y us) (hl : us.length ≤ 1000000000) :
    Calls Tryd.prog 14 #[x, y] w fun r w' => r = .returned (.bool true) ∧ Below w.heap.size w w' := by
  have H0 : Hid (IR w x us ∧ IR w y us) := ⟨hx, hy⟩
  obtain ⟨ad1, cap1, rfl, c1⟩ := hx
  obtain ⟨ad2, cap2, rfl, c2⟩ := hy
  clear c1 c2
  go_enter Tryd.func14, Tryd.ntmps14
  go_wp2_with fail
  go_loopw [5] (fun i wr => ∃ j : Nat, j ≤ us.length ∧ i = .int .i64 (j : Int) ∧ IR wr (.slice ad1 us.length cap1) us ∧ IR wr (.slice ad2 us.length cap2) us ∧ Below w.heap.size w wr) (fun i _ => us.length - (intOf i).toNat)
  case atStart => exact ⟨0, by omega, rfl, H0.out.1, H0.out.2, brf w⟩
  case round =>
    clear H0
    obtain ⟨j, hj, rfl, r1, r2, hb⟩ := hrel
    have R1 : Hid (IR wr (.slice ad1 us.length cap1) us) := r1
    have R2 : Hid (IR wr (.slice ad2 us.length cap2) us) := r2
    have HB : Hid (Below w.heap.size w wr) := hb
    have c1 : ∀ j k : Nat, us[j]? = some k → ∃ g, ad1 = some ⟨g, 0, none⟩ ∧ wr.cell? ⟨g, j, none⟩ = some (.int .i64 (k : Int)) := by
      obtain ⟨ad, cap, e, c⟩ := r1
      injection e with a _ _
      rw [a]; exact c
    have c2 : ∀ j k : Nat, us[j]? = some k → ∃ g, ad2 = some ⟨g, 0, none⟩ ∧ wr.cell? ⟨g, j, none⟩ = some (.int .i64 (k : Int)) := by
      obtain ⟨ad, cap, e, c⟩ := r2
      injection e with a _ _
      rw [a]; exact c
    clear hb r1 r2
    by_cases hlt : j < us.length
    · have k1 : (j : Int) < (us.length : Int) := by omega
      obtain ⟨p, hp⟩ : ∃ p, us[j]? = some p := ⟨_, List.getElem?_eq_getElem hlt⟩
      obtain ⟨g1, rfl, d1⟩ := c1 j p hp
      obtain ⟨g2, rfl, d2⟩ := c2 j p hp
      have hjb : (j : Int) ≤ 1000000000 := by omega
      clear c1 c2 hp
      go_wp2_with fail
      go_quiet (fail)
      go_wp2_with fail
      go_roundw
      case rel => exact ⟨j + 1, by omega, by go_num, R1.out.drewN nq, R2.out.drewN nq, bdN HB.out nq⟩
      case measure => simp [intOf]; omega
    · have k1 : ¬ (j : Int) < (us.length : Int) := by omega
      go_wp2
      go_ret
      exact ⟨rfl, HB.out⟩
end Go.Proofs.YtaghclgookfmnaaDoor
/-
  The law's own: nodes.
-/
namespace Go.Proofs.YtaghclgookfmnaaDoor
open Go.RowKit
set_option linter.unusedVariables false

/-- The slice v can be read as the nodes ns. -/
structure RR (tN : TypeId) (v : Value) (ns : List Nd) (w : World) : Prop where
  shape : ∃ ad cap, v = .slice ad ns.length cap
  at' : ∀ (k : Nat) (n : Nd), ns[k]? = some n → ∃ g kv, v = .slice (some ⟨g, 0, none⟩) ns.length (match v with | .slice _ _ c => c | _ => 0) ∧ IR w kv n.kids ∧ n.kids.length ≤ 1000000000 ∧
    w.cell? ⟨g, k * 6, none⟩ = some (.int .i64 (n.kind : Int)) ∧ w.cell? ⟨g, k * 6 + 1, none⟩ = some (.string ⟨n.key.toArray⟩) ∧ w.cell? ⟨g, k * 6 + 2, none⟩ = some (.string ⟨n.text.toArray⟩) ∧
    w.cell? ⟨g, k * 6 + 3, none⟩ = some (.int .i64 n.num) ∧ w.cell? ⟨g, k * 6 + 4, none⟩ = some kv ∧ w.cell? ⟨g, k * 6 + 5, none⟩ = some (.int .i64 (n.at' : Int))
theorem RR.of {B : Nat} {tN : TypeId} {v : Value} {kvs : List Value} {ns : List Nd} {w : World} (h : NK B tN v kvs ns w) (hk : ∀ n ∈ ns, n.kids.length ≤ 1000000000) : RR tN v ns w := by
  refine ⟨h.shape, fun k n hn => ?_⟩
  have hkn : k < ns.length := (List.getElem?_eq_some_iff.1 hn).1
  obtain ⟨kv, hkv⟩ : ∃ kv, kvs[k]? = some kv := ⟨_, List.getElem?_eq_getElem (by have := h.1; omega)⟩
  obtain ⟨ad, cap, rfl⟩ := h.shape
  obtain ⟨g, rfl⟩ : ∃ g, ad = some ⟨g, 0, none⟩ := by
    rcases h.2.1.2 with ⟨e, h0⟩ | ⟨g, c, cu, e, _⟩
    · omega
    · injection e with e _ _; exact ⟨g, e⟩
  have c := fun j x hj hx => (h.at (g := g) rfl (u := k) (j := j) hn hkv hj (x := x) hx).1
  exact ⟨g, kv, rfl, IR.of (h.2.2.1 k n kv hn hkv), hk n (List.mem_of_getElem? hn), c 0 _ (by omega) rfl, c 1 _ (by omega) rfl, c 2 _ (by omega) rfl, c 3 _ (by omega) rfl, c 4 _ (by omega) rfl, c 5 _ (by omega) rfl⟩
theorem RR.below {tN : TypeId} {v : Value} {ns : List Nd} {w w' : World} (h : RR tN v ns w) (hb : Below w.heap.size w w') : RR tN v ns w' := by
  refine ⟨h.shape, fun k n hn => ?_⟩
  obtain ⟨g, kv, a, b, hl, c0, c1, c2, c3, c4, c5⟩ := h.at' k n hn
  exact ⟨g, kv, a, b.below hb, hl, cell_kp hb c0, cell_kp hb c1, cell_kp hb c2, cell_kp hb c3, cell_kp hb c4, cell_kp hb c5⟩

set_option maxRecDepth 4000 in
set_option maxHeartbeats 2000000 in
theorem lnodes (x y : Value) (ns : List Nd) (w : World) (hx : RR 33 x ns w) (hy : RR 49 y ns w) (hl : ns.length ≤ 1000000000) :
    Calls Tryd.prog 7 #[x, y] w fun r w' => r = .returned (.bool true) ∧ Below w.heap.size w w' := by
  have H0 : Hid (RR 33 x ns w ∧ RR 49 y ns w) := ⟨hx, hy⟩
  obtain ⟨ad1, cap1, rfl⟩ := hx.shape
  obtain ⟨ad2, cap2, rfl⟩ := hy.shape
  clear hx hy
  go_enter Tryd.func7, Tryd.ntmps7
  go_wp2_with fail
  go_loopw [5] (fun i wr => ∃ j : Nat, j ≤ ns.length ∧ i = .int .i64 (j : Int) ∧ RR 33 (.slice ad1 ns.length cap1) ns wr ∧ RR 49 (.slice ad2 ns.length cap2) ns wr ∧ Below w.heap.size w wr) (fun i _ => ns.length - (intOf i).toNat)
  case atStart => exact ⟨0, by omega, rfl, H0.out.1, H0.out.2, brf w⟩
  case round =>
    clear H0
    obtain ⟨j, hj, rfl, r1, r2, hb⟩ := hrel
    have R : Hid (RR 33 (.slice ad1 ns.length cap1) ns wr ∧ RR 49 (.slice ad2 ns.length cap2) ns wr ∧ Below w.heap.size w wr) := ⟨r1, r2, hb⟩
    clear hb
    by_cases hlt : j < ns.length
    · have k1 : (j : Int) < (ns.length : Int) := by omega
      obtain ⟨n, hn⟩ : ∃ n, ns[j]? = some n := ⟨_, List.getElem?_eq_getElem hlt⟩
      obtain ⟨g1, ka, e1, ia, hkl, a0, a1, a2, a3, a4, a5⟩ := r1.at' j n hn
      obtain ⟨g2, kb, e2, ib, _, b0, b1, b2, b3, b4, b5⟩ := r2.at' j n hn
      obtain rfl : ad1 = some ⟨g1, 0, none⟩ := by injection e1
      obtain rfl : ad2 = some ⟨g2, 0, none⟩ := by injection e2
      clear e1 e2
      have hjb : (j : Int) ≤ 1000000000 := by omega
      have hg1 : g1 < wr.heap.size := by
        by_cases hg : g1 < wr.heap.size
        · exact hg
        · have : wr.heap[g1]? = none := Array.getElem?_eq_none (by omega)
          simp [World.cell?, this] at a0
      have hg2 : g2 < wr.heap.size := by
        by_cases hg : g2 < wr.heap.size
        · exact hg
        · have : wr.heap[g2]? = none := Array.getElem?_eq_none (by omega)
          simp [World.cell?, this] at b0
      have hsm := fun w' (h1 : IR w' ka n.kids) (h2 : IR w' kb n.kids) => lsame ka kb n.kids w' h1 h2 hkl
      have II : Hid (IR wr ka n.kids ∧ IR wr kb n.kids) := ⟨ia, ib⟩
      obtain ⟨ada, capa, rfl, _⟩ := ia
      obtain ⟨adb, capb, rfl, _⟩ := ib
      clear r1 r2 hn hkl
      go_wp2_with fail
      have hWb : Below wr.heap.size wr ((wr.alloc (.cells #[.int .i64 (n.kind : Int), .string ⟨n.key.toArray⟩, .string ⟨n.text.toArray⟩, .int .i64 n.num, .slice ada n.kids.length capa, .int .i64 (n.at' : Int)] 33)).alloc (.cells #[.int .i64 (n.kind : Int), .string ⟨n.key.toArray⟩, .string ⟨n.text.toArray⟩, .int .i64 n.num, .slice adb n.kids.length capb, .int .i64 (n.at' : Int)] 49)) := bal (bal (brf wr) _) _
      have hW0 : ((wr.alloc (.cells #[.int .i64 (n.kind : Int), .string ⟨n.key.toArray⟩, .string ⟨n.text.toArray⟩, .int .i64 n.num, .slice ada n.kids.length capa, .int .i64 (n.at' : Int)] 33)).alloc (.cells #[.int .i64 (n.kind : Int), .string ⟨n.key.toArray⟩, .string ⟨n.text.toArray⟩, .int .i64 n.num, .slice adb n.kids.length capb, .int .i64 (n.at' : Int)] 49)).heap[wr.heap.size]? = some (.cells #[.int .i64 (n.kind : Int), .string ⟨n.key.toArray⟩, .string ⟨n.text.toArray⟩, .int .i64 n.num, .slice ada n.kids.length capa, .int .i64 (n.at' : Int)] 33 (0, 0)) := by
        rw [heap_alloc_old _ _ (by simp), heap_alloc_new]
      have hW1 : ((wr.alloc (.cells #[.int .i64 (n.kind : Int), .string ⟨n.key.toArray⟩, .string ⟨n.text.toArray⟩, .int .i64 n.num, .slice ada n.kids.length capa, .int .i64 (n.at' : Int)] 33)).alloc (.cells #[.int .i64 (n.kind : Int), .string ⟨n.key.toArray⟩, .string ⟨n.text.toArray⟩, .int .i64 n.num, .slice adb n.kids.length capb, .int .i64 (n.at' : Int)] 49)).heap[wr.heap.size + 1]? = some (.cells #[.int .i64 (n.kind : Int), .string ⟨n.key.toArray⟩, .string ⟨n.text.toArray⟩, .int .i64 n.num, .slice adb n.kids.length capb, .int .i64 (n.at' : Int)] 49 (0, 0)) := by
        have := heap_alloc_new (wr.alloc (.cells #[.int .i64 (n.kind : Int), .string ⟨n.key.toArray⟩, .string ⟨n.text.toArray⟩, .int .i64 n.num, .slice ada n.kids.length capa, .int .i64 (n.at' : Int)] 33)) (.cells #[.int .i64 (n.kind : Int), .string ⟨n.key.toArray⟩, .string ⟨n.text.toArray⟩, .int .i64 n.num, .slice adb n.kids.length capb, .int .i64 (n.at' : Int)] 49)
        simpa using this
      generalize (wr.alloc (.cells #[.int .i64 (n.kind : Int), .string ⟨n.key.toArray⟩, .string ⟨n.text.toArray⟩, .int .i64 n.num, .slice ada n.kids.length capa, .int .i64 (n.at' : Int)] 33)).alloc (.cells #[.int .i64 (n.kind : Int), .string ⟨n.key.toArray⟩, .string ⟨n.text.toArray⟩, .int .i64 n.num, .slice adb n.kids.length capb, .int .i64 (n.at' : Int)] 49) = W at hWb hW0 hW1
      refine (hsm W (II.out.1.below hWb) (II.out.2.below hWb)).mono ?_
      rintro r w3 ⟨rfl, hb3⟩
      have hW3 : Below wr.heap.size wr w3 := hWb.trans ⟨hb3.os, hb3.tape, hb3.output, hb3.size, fun k hk => hb3.block k (by have := hWb.size; omega)⟩
      have y0 : w3.heap[wr.heap.size]? = _ := (hb3.block _ (Array.getElem?_eq_some_iff.1 hW0).1).trans hW0
      have y1 : w3.heap[wr.heap.size + 1]? = _ := (hb3.block _ (Array.getElem?_eq_some_iff.1 hW1).1).trans hW1
      have p0 : w3.cell? ⟨wr.heap.size, 0, none⟩ = some (.int .i64 (n.kind : Int)) := by rw [cell_of_row w3 _ 0 _ _ _ y0]; rfl
      have p1 : w3.cell? ⟨wr.heap.size, 1, none⟩ = some (.string ⟨n.key.toArray⟩) := by rw [cell_of_row w3 _ 1 _ _ _ y0]; rfl
      have p2 : w3.cell? ⟨wr.heap.size, 2, none⟩ = some (.string ⟨n.text.toArray⟩) := by rw [cell_of_row w3 _ 2 _ _ _ y0]; rfl
      have p3 : w3.cell? ⟨wr.heap.size, 3, none⟩ = some (.int .i64 n.num) := by rw [cell_of_row w3 _ 3 _ _ _ y0]; rfl
      have p5 : w3.cell? ⟨wr.heap.size, 5, none⟩ = some (.int .i64 (n.at' : Int)) := by rw [cell_of_row w3 _ 5 _ _ _ y0]; rfl
      have q0 : w3.cell? ⟨wr.heap.size + 1, 0, none⟩ = some (.int .i64 (n.kind : Int)) := by rw [cell_of_row w3 _ 0 _ _ _ y1]; rfl
      have q1 : w3.cell? ⟨wr.heap.size + 1, 1, none⟩ = some (.string ⟨n.key.toArray⟩) := by rw [cell_of_row w3 _ 1 _ _ _ y1]; rfl
      have q2 : w3.cell? ⟨wr.heap.size + 1, 2, none⟩ = some (.string ⟨n.text.toArray⟩) := by rw [cell_of_row w3 _ 2 _ _ _ y1]; rfl
      have q3 : w3.cell? ⟨wr.heap.size + 1, 3, none⟩ = some (.int .i64 n.num) := by rw [cell_of_row w3 _ 3 _ _ _ y1]; rfl
      have q5 : w3.cell? ⟨wr.heap.size + 1, 5, none⟩ = some (.int .i64 (n.at' : Int)) := by rw [cell_of_row w3 _ 5 _ _ _ y1]; rfl
      have R3 : Hid (RR 33 (.slice (some ⟨g1, 0, none⟩) ns.length cap1) ns w3 ∧ RR 49 (.slice (some ⟨g2, 0, none⟩) ns.length cap2) ns w3 ∧ Below w.heap.size w w3) :=
        ⟨R.out.1.below hW3, R.out.2.1.below hW3, R.out.2.2.trans ⟨hW3.os, hW3.tape, hW3.output, hW3.size, fun k hk => hW3.block k (by have := R.out.2.2.size; omega)⟩⟩
      clear hb3 hW3 y0 y1 hWb hW0 hW1 hsm II R a0 a1 a2 a3 a4 a5 b0 b1 b2 b3 b4 b5
      go_wp2_with fail
      go_roundw
      case rel => exact ⟨j + 1, by omega, by go_num, R3.out⟩
      case measure => simp [intOf]; omega
    · have k1 : ¬ (j : Int) < (ns.length : Int) := by omega
      go_wp2
      go_ret
      exact ⟨rfl, R.out.2.2⟩
end Go.Proofs.YtaghclgookfmnaaDoor
