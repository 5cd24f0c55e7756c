/-
  block, of words of 64 bits.
-/
import Derived.Test.YtfihidnmgaiojaaSpread64
import Derived.Deep.WholeRow
namespace Go.Proofs.Ytfihidnmgaiojaa
open Go.RowKit
set_option linter.unusedVariables false
section
attribute [local go_sem] shr_eW shr_eW_min shl64 or64 xor64 and64 add64 not64 add64m add64m3 alloc_drewN

/-- The plan's cells, but for the eight words at first, and its keys. -/
structure Plan64 (p : Way 64) (w : World) (bp kb : Nat) : Prop where
  c0 : w.cell? ⟨bp, 0, none⟩ = some (.int .i64 8)
  c9 : w.cell? ⟨bp, 9, none⟩ = some (.slice (some ⟨kb, 0, none⟩) 80 80)
  c10 : w.cell? ⟨bp, 10, none⟩ = some (.int .i64 1)
  c11 : w.cell? ⟨bp, 11, none⟩ = some (.int .i64 8)
  c12 : w.cell? ⟨bp, 12, none⟩ = some (.int .i64 7)
  c13 : w.cell? ⟨bp, 13, none⟩ = some (.int .i64 19)
  c14 : w.cell? ⟨bp, 14, none⟩ = some (.int .i64 61)
  c15 : w.cell? ⟨bp, 15, none⟩ = some (.int .i64 6)
  c16 : w.cell? ⟨bp, 16, none⟩ = some (.int .i64 14)
  c17 : w.cell? ⟨bp, 17, none⟩ = some (.int .i64 18)
  c18 : w.cell? ⟨bp, 18, none⟩ = some (.int .i64 41)
  c19 : w.cell? ⟨bp, 19, none⟩ = some (.int .i64 28)
  c20 : w.cell? ⟨bp, 20, none⟩ = some (.int .i64 34)
  c21 : w.cell? ⟨bp, 21, none⟩ = some (.int .i64 39)
  ks : ∀ i, i < 80 → w.cell? ⟨kb, i, none⟩ = some (.int .u64 (eW (p.K.getD i 0)))
  hK : p.K.length = 80
  hf : p.f1 = 1 ∧ p.f2 = 8 ∧ p.f3 = 7
  hn : p.n1 = 19 ∧ p.n2 = 61 ∧ p.n3 = 6
  he : p.e1 = 14 ∧ p.e2 = 18 ∧ p.e3 = 41
  ha : p.a1 = 28 ∧ p.a2 = 34 ∧ p.a3 = 39

theorem Plan64.lt {p : Way 64} {w : World} {bp kb : Nat} (h : Plan64 p w bp kb) : bp < w.heap.size := World.block_lt_of_cell? w _ h.c0
theorem Plan64.ltk {p : Way 64} {w : World} {bp kb : Nat} (h : Plan64 p w bp kb) : kb < w.heap.size := World.block_lt_of_cell? w _ (h.ks 0 (by omega))
theorem Plan64.up {p : Way 64} {w w' : World} {bp kb B : Nat} (h : Plan64 p w bp kb) (hb : Below B w w') (h1 : bp < B) (h2 : kb < B) : Plan64 p w' bp kb :=
  ⟨b_cell hb h1 h.c0, b_cell hb h1 h.c9, b_cell hb h1 h.c10, b_cell hb h1 h.c11, b_cell hb h1 h.c12, b_cell hb h1 h.c13, b_cell hb h1 h.c14, b_cell hb h1 h.c15, b_cell hb h1 h.c16, b_cell hb h1 h.c17,
   b_cell hb h1 h.c18, b_cell hb h1 h.c19, b_cell hb h1 h.c20, b_cell hb h1 h.c21, fun i hi => b_cell hb h2 (h.ks i hi), h.hK, h.hf, h.hn, h.he, h.ha⟩

/-- The eight cells of a state. -/
def st64 (s : St 64) : Array Value := #[.int .u64 (eW s.a), .int .u64 (eW s.b), .int .u64 (eW s.c), .int .u64 (eW s.d), .int .u64 (eW s.e), .int .u64 (eW s.f), .int .u64 (eW s.g), .int .u64 (eW s.h)]

def ST64 : TypeId := 43
theorem st64_info (s : St 64) : (Try.prog.info? 43).map (·.size) = some (st64 s).size := by
  rw [show (st64 s).size = 8 from rfl]; kernel_rfl
theorem st64_one (s : St 64) : (st64 s).all (·.oneCell') = true := by simp [st64, Value.oneCell']

/-- What the state holds at place j. -/
def at64 (s : St 64) (j : Nat) : BitVec 64 := [s.a, s.b, s.c, s.d, s.e, s.f, s.g, s.h].getD j 0
/-- The eight cells while v is put to s, word by word: i of them are done. -/
def mix64 (s v : St 64) (i : Nat) : Array Value := ((List.range 8).map fun j => Value.int .u64 (eW (if j < i then at64 s j + at64 v j else at64 s j))).toArray
theorem mix64_0 (s v : St 64) : mix64 s v 0 = st64 s := by simp [mix64, st64, at64, List.range, List.range.loop]
theorem mix64_8 (s v : St 64) : mix64 s v 8 = st64 (plusS s v) := by simp [mix64, st64, at64, plusS, List.range, List.range.loop]
theorem mix64_get (s v : St 64) (i : Nat) (h : i < 8) : (mix64 s v i)[i]? = some (.int .u64 (eW (at64 s i))) := by
  simp [mix64, h]
theorem mix64_set (s v : St 64) (i : Nat) (h : i < 8) : (mix64 s v i).setIfInBounds i (.int .u64 (eW (at64 s i + at64 v i))) = mix64 s v (i + 1) := by
  apply Array.ext_getElem?
  intro j
  by_cases hj : j < 8
  · rw [Array.getElem?_setIfInBounds]
    by_cases he : i = j
    · subst he; rw [if_pos rfl, if_pos (by simp [mix64, h])]; simp [mix64, h]
    · rw [if_neg he]
      simp only [mix64, List.getElem?_toArray, List.getElem?_map, List.getElem?_range hj, Option.map_some]
      by_cases h1 : j < i
      · rw [if_pos h1, if_pos (by omega)]
      · rw [if_neg h1, if_neg (by omega)]
  · rw [Array.getElem?_eq_none (by simp [mix64]; omega), Array.getElem?_eq_none (by simp [mix64]; omega)]
theorem st64_get (s : St 64) (i : Nat) (h : i < 8) : (st64 s)[i]? = some (.int .u64 (eW (at64 s i))) := by
  rw [← mix64_0 s s]; simp [mix64, h]

/-- What holds at each round's head: the blocks of h (its first cells), of the answer, of w and of v. -/
structure Inv64 (p : Way 64) (w : World) (bp kb B2 : Nat) (s v : St 64) (ws : List (BitVec 64)) (wr : World) : Prop where
  plan0 : Plan64 p w bp kb
  h0 : wr.heap[w.heap.size]? = some (.cells (st64 s) 43 (0, 0))
  h1 : wr.heap[w.heap.size + 1]? = some (.cells (st64 ⟨0, 0, 0, 0, 0, 0, 0, 0⟩) 43 (0, 0))
  h2 : wr.heap[B2]? = some (.cells (row64 ws) 75 (0, 0))
  h3 : wr.heap[B2 + 1]? = some (.cells (st64 v) 43 (0, 0))
  below : Below w.heap.size w wr
  b2 : w.heap.size + 1 < B2

theorem Inv64.plan {p : Way 64} {w wr : World} {bp kb B2 : Nat} {s v : St 64} {ws : List (BitVec 64)} (h : Inv64 p w bp kb B2 s v ws wr) : Plan64 p wr bp kb := h.plan0.up h.below h.plan0.lt h.plan0.ltk

theorem Inv64.start {p : Way 64} {w w1 W4 : World} {bp kb : Nat} {s : St 64} {ws : List (BitVec 64)} {Z : Array Value} (hp : Plan64 p w bp kb) (hB : Below w.heap.size w w1)
    (h0 : w1.heap[w.heap.size]? = some (.cells (st64 s) 43 (0, 0)))
    (h1 : w1.heap[w.heap.size + 1]? = some (.cells (st64 ⟨0, 0, 0, 0, 0, 0, 0, 0⟩) 43 (0, 0)))
    (hW : ((w1.alloc (.cells (row64 ws) 75)).alloc (.cells Z 43)).setRow (w1.heap.size + 1) (st64 s) = W4) : Inv64 p w bp kb w1.heap.size s s ws W4 := by
  have hsz : w.heap.size + 1 < w1.heap.size := (Array.getElem?_eq_some_iff.1 h1).1
  have hb : Below w.heap.size w W4 := by rw [← hW]; exact below_setRow (bal (bal hB _) _) (by omega) _
  refine ⟨hp, ?_, ?_, ?_, ?_, hb, hsz⟩
  · rw [← hW, setRow_other _ _ _ _ (by omega)]; exact heap2 h0 _ _
  · rw [← hW, setRow_other _ _ _ _ (by omega)]; exact heap2 h1 _ _
  · rw [← hW, setRow_other _ _ _ _ (by omega), heap_alloc2_old]
  · rw [← hW]; exact setRow_heap _ _ _ _ _ _ (heap_alloc2_new _ _ _)

theorem st64_cells {w : World} {g : Nat} {v : St 64} {t : TypeId} {fr : Nat × Nat} (h : w.heap[g]? = some (.cells (st64 v) t fr)) :
    w.cell? ⟨g, 0, none⟩ = some (.int .u64 (eW v.a)) ∧ w.cell? ⟨g, 1, none⟩ = some (.int .u64 (eW v.b)) ∧ w.cell? ⟨g, 2, none⟩ = some (.int .u64 (eW v.c)) ∧ w.cell? ⟨g, 3, none⟩ = some (.int .u64 (eW v.d)) ∧
    w.cell? ⟨g, 4, none⟩ = some (.int .u64 (eW v.e)) ∧ w.cell? ⟨g, 5, none⟩ = some (.int .u64 (eW v.f)) ∧ w.cell? ⟨g, 6, none⟩ = some (.int .u64 (eW v.g)) ∧ w.cell? ⟨g, 7, none⟩ = some (.int .u64 (eW v.h)) := by
  refine ⟨?_, ?_, ?_, ?_, ?_, ?_, ?_, ?_⟩ <;> (rw [cell_of_row _ _ _ _ _ _ h]; rfl)

/-- Eight cells are written. -/
def put64 (w : World) (g : Nat) (v : St 64) : World :=
  (((((((w.setCell ⟨g, 0, none⟩ (.int .u64 (eW v.a))).setCell ⟨g, 1, none⟩ (.int .u64 (eW v.b))).setCell ⟨g, 2, none⟩ (.int .u64 (eW v.c))).setCell ⟨g, 3, none⟩ (.int .u64 (eW v.d))).setCell ⟨g, 4, none⟩ (.int .u64 (eW v.e))).setCell
    ⟨g, 5, none⟩ (.int .u64 (eW v.f))).setCell ⟨g, 6, none⟩ (.int .u64 (eW v.g))).setCell ⟨g, 7, none⟩ (.int .u64 (eW v.h))
theorem put64_same {w : World} {g : Nat} {u : St 64} {t : TypeId} (v : St 64) (h : w.heap[g]? = some (.cells (st64 u) t (0, 0))) : (put64 w g v).heap[g]? = some (.cells (st64 v) t (0, 0)) := by
  unfold put64
  have e0 := heap_setCell_same _ _ 0 _ _ (.int .u64 (eW v.a)) h
  have e1 := heap_setCell_same _ _ 1 _ _ (.int .u64 (eW v.b)) e0
  have e2 := heap_setCell_same _ _ 2 _ _ (.int .u64 (eW v.c)) e1
  have e3 := heap_setCell_same _ _ 3 _ _ (.int .u64 (eW v.d)) e2
  have e4 := heap_setCell_same _ _ 4 _ _ (.int .u64 (eW v.e)) e3
  have e5 := heap_setCell_same _ _ 5 _ _ (.int .u64 (eW v.f)) e4
  have e6 := heap_setCell_same _ _ 6 _ _ (.int .u64 (eW v.g)) e5
  have e7 := heap_setCell_same _ _ 7 _ _ (.int .u64 (eW v.h)) e6
  rw [e7]; simp [st64]
theorem put64_other {w : World} {g k : Nat} (v : St 64) (h : k ≠ g) : (put64 w g v).heap[k]? = w.heap[k]? := by
  unfold put64
  rw [heap_setCell_other _ _ _ _ h, heap_setCell_other _ _ _ _ h, heap_setCell_other _ _ _ _ h, heap_setCell_other _ _ _ _ h, heap_setCell_other _ _ _ _ h, heap_setCell_other _ _ _ _ h, heap_setCell_other _ _ _ _ h, heap_setCell_other _ _ _ _ h]
theorem put64_below {B : Nat} {a w : World} {g : Nat} (v : St 64) (h : Below B a w) (hg : B ≤ g) : Below B a (put64 w g v) :=
  (((((((h.setCell hg _).setCell hg _).setCell hg _).setCell hg _).setCell hg _).setCell hg _).setCell hg _).setCell hg _

theorem Inv64.step {p : Way 64} {w wr w2 : World} {bp kb B2 : Nat} {s v : St 64} {ws : List (BitVec 64)} (h : Inv64 p w bp kb B2 s v ws wr) (hb : Below wr.heap.size wr w2) (v' : St 64) :
    Inv64 p w bp kb B2 s v' ws (put64 w2 (B2 + 1) v') := by
  have l0 : w.heap.size < wr.heap.size := (Array.getElem?_eq_some_iff.1 h.h0).1
  have l1 : w.heap.size + 1 < wr.heap.size := (Array.getElem?_eq_some_iff.1 h.h1).1
  have l2 : B2 < wr.heap.size := (Array.getElem?_eq_some_iff.1 h.h2).1
  have l3 : B2 + 1 < wr.heap.size := (Array.getElem?_eq_some_iff.1 h.h3).1
  have hb2 := h.b2
  have hbb : Below (B2 + 1) wr (put64 w2 (B2 + 1) v') := put64_below v' (hb.mono (by omega)) (Nat.le_refl _)
  have hsz := h.below.size
  have hbw : Below w.heap.size w (put64 w2 (B2 + 1) v') := h.below.trans (hbb.mono (by omega))
  refine ⟨h.plan0, ?_, ?_, ?_, put64_same v' (by rw [hb.block _ l3]; exact h.h3), hbw, hb2⟩
  · rw [put64_other _ (by omega), hb.block _ l0, h.h0]
  · rw [put64_other _ (by omega), hb.block _ l1, h.h1]
  · rw [put64_other _ (by omega), hb.block _ l2, h.h2]

set_option maxHeartbeats 400000 in
theorem block64 (bp kb : Nat) (s : St 64) (t : ByteArray) (w : World) (p : Way 64) (ht : t.size = 128) (hp : Plan64 p w bp kb) :
    Calls Try.prog 51 #[.pointer (some ⟨bp, 0, none⟩), .agg #[.int .u64 (eW s.a), .int .u64 (eW s.b), .int .u64 (eW s.c), .int .u64 (eW s.d), .int .u64 (eW s.e), .int .u64 (eW s.f), .int .u64 (eW s.g), .int .u64 (eW s.h)], .string t] w
      fun e w' => e = .returned (.agg (st64 (blockS p 8 s t.data.toList))) ∧ Below w.heap.size w w' := by
  have hlt := hp.lt
  have hltk := hp.ltk
  have HT : Hid (t.size = 128) := ht
  clear ht
  go_enter Try.func51, Try.ntmps51
  go_wp2_with fail
  have hp1 : Plan64 p _ bp kb := hp.up (bal (bal (brf w) (.cells #[.int .u64 (eW s.a), .int .u64 (eW s.b), .int .u64 (eW s.c), .int .u64 (eW s.d), .int .u64 (eW s.e), .int .u64 (eW s.f), .int .u64 (eW s.g), .int .u64 (eW s.h)] 43)) (.cells #[.int .u64 0, .int .u64 0, .int .u64 0, .int .u64 0, .int .u64 0, .int .u64 0, .int .u64 0, .int .u64 0] 43)) hlt hltk
  refine (spread64 bp t _ p HT.out hp1.hK hp1.hf hp1.hn hp1.c0 kb hp1.c9 hp1.c10 hp1.c11 hp1.c12 hp1.c13 hp1.c14 hp1.c15).mono ?_
  rintro e1 w1 ⟨rfl, hb1⟩
  have hB1 : Below w.heap.size w w1 := (bal (bal (brf w) _) _).trans (hb1.mono (by simp; omega))
  have h0 : w1.heap[w.heap.size]? = some (.cells (st64 s) 43 (0, 0)) := by
    rw [hb1.block _ (by simp; omega), heap_alloc2_old]; rfl
  have h1 : w1.heap[w.heap.size + 1]? = some (.cells (st64 ⟨0, 0, 0, 0, 0, 0, 0, 0⟩) 43 (0, 0)) := by
    rw [hb1.block _ (by simp), heap_alloc2_new]; rfl
  clear hb1 hp1
  have hsz : w.heap.size + 1 < w1.heap.size := (Array.getElem?_eq_some_iff.1 h1).1
  have hz := zero64
  have h0' : ∀ o, (w1.alloc o).heap[w.heap.size]? = some (.cells (st64 s) 43 (0, 0)) := fun o => by rw [heap_alloc_old _ _ (by omega), h0]
  have H0 : Hid _ := h0
  have H1 : Hid _ := h1
  have HB : Hid _ := hB1
  clear h0 h1 hB1
  generalize hws : sched p 8 t.data.toList = ws
  have HWS : Hid (sched p 8 t.data.toList = ws) := hws
  clear hws
  have h3 : ∀ A : Obj, ((w1.alloc A).alloc (.cells #[.int .u64 0, .int .u64 0, .int .u64 0, .int .u64 0, .int .u64 0, .int .u64 0, .int .u64 0, .int .u64 0] 43)).heap[w1.heap.size + 1]? = some (.cells #[.int .u64 0, .int .u64 0, .int .u64 0, .int .u64 0, .int .u64 0, .int .u64 0, .int .u64 0, .int .u64 0] 43 (0, 0)) := fun A => heap_alloc2_new _ _ _
  have H3 : Hid (∀ A : Obj, ((w1.alloc A).alloc (.cells #[.int .u64 0, .int .u64 0, .int .u64 0, .int .u64 0, .int .u64 0, .int .u64 0, .int .u64 0, .int .u64 0] 43)).heap[w1.heap.size + 1]? = some (.cells #[.int .u64 0, .int .u64 0, .int .u64 0, .int .u64 0, .int .u64 0, .int .u64 0, .int .u64 0, .int .u64 0] 43 (0, 0))) := h3
  clear h3
  go_wp2_with (first | (refine wpList_store_row rfl 75 (.tmp 7) (.tmp 14) rfl w1.heap.size _ rfl rfl _ _ (heap_alloc_new _ _) (row64_info _) (by simp only [row64_size]) (row64_one _) ?_; rw [World.setRow_alloc_new]) | (refine wpList_load_row rfl 43 (.tmp 4) rfl w.heap.size rfl _ _ _ _ (h0' _) Try.underlying43 rfl (st64_info _) ?_) | (refine wpList_store_row rfl 43 (.tmp 8) (.tmp 15) rfl (w1.heap.size + 1) (st64 s) rfl rfl _ _ (H3.out _) (st64_info _) rfl (st64_one _) ?_; generalize hW4 : World.setRow _ _ _ = W4; have hI := Inv64.start (p := p) (kb := kb) hp HB.out H0.out H1.out hW4; have k9 := hI.plan.c9; have HI : Hid _ := hI; clear hI hW4 h0'))
  go_loopw [21] (fun i wr => ∃ k : Nat, k ≤ 80 ∧ i = .int .i64 k ∧ Inv64 p w bp kb w1.heap.size s (roundsTo p s ws k) ws wr) (fun i _ => 80 - (intOf i).toNat)
  case atStart => exact ⟨0, by omega, rfl, HI.out⟩
  case round =>
    obtain ⟨k, hk, rfl, hI⟩ := hrel
    have hsz := hI.b2
    have HIr : Hid _ := hI
    clear HI H0 H1 HB H3
    by_cases hlt2 : k < 80
    · generalize hv : roundsTo p s ws k = v at hI
      have HV : Hid (roundsTo p s ws k = v) := hv
      clear hv HIr
      have HIr : Hid (Inv64 p w bp kb w1.heap.size s v ws wr) := hI
      obtain ⟨m0, m1, m2, m3, m4, m5, m6, m7⟩ := st64_cells hI.h3
      have mw : wr.cell? ⟨w1.heap.size, k, none⟩ = some (.int .u64 (eW (ws.getD k 0))) := by rw [cell_of_row _ _ _ _ _ _ hI.h2, row64_get _ _ (by omega)]
      have mk := hI.plan.ks k hlt2
      have hB2 : w1.heap.size + 1 < wr.heap.size := (Array.getElem?_eq_some_iff.1 hI.h3).1
      clear hI
      generalize hx : ws.getD k 0 = x at mw
      generalize hy : p.K.getD k 0 = y at mk
      have HXY : Hid (ws.getD k 0 = x ∧ p.K.getD k 0 = y) := ⟨hx, hy⟩
      clear hx hy
      have hi1 : (k : Int) < 80 := by omega
      have hi2 : (0 : Int) ≤ (k : Int) := by omega
      have hi3 : (k : Int) < 80 := by omega
      go_wp2_with fail
      go_region_with (go_at_call 57; refine (round64 bp v (y + x) wr.drew p HIr.out.plan.he HIr.out.plan.ha HIr.out.plan.c0 HIr.out.plan.c16 HIr.out.plan.c17 HIr.out.plan.c18 HIr.out.plan.c19 HIr.out.plan.c20 HIr.out.plan.c21).mono ?_; rintro e w2 ⟨rfl, hb2⟩; have h32 : w2.heap[w1.heap.size + 1]? = some (.cells (st64 v) 43 (0, 0)) := (hb2.block _ hB2).trans HIr.out.h3; obtain ⟨q0, q1, q2, q3, q4, q5, q6, q7⟩ := st64_cells h32; have qf : ∀ j, w2.frozen? ⟨w1.heap.size + 1, j, none⟩ = false := fun j => frozen_of_row _ _ j _ _ h32; clear h32)
      all_goals
        have hI2 : Inv64 p w bp kb w1.heap.size s (roundsTo p s ws (k + 1)) ws (put64 w2 (w1.heap.size + 1) (round p v (y + x))) := by
          have := HIr.out.step (w2 := w2) ⟨hb2.os, hb2.tape, hb2.output, hb2.size, hb2.block⟩ (round p v (y + x))
          rw [roundsTo, HV.out, HXY.out.1, HXY.out.2]; exact this
        have HI2 : Hid _ := hI2
        clear hI2 hb2
        go_wp2_with fail
        go_roundw
        case rel => first | exact ⟨k + 1, by omega, by go_num, HI2.out⟩ | ((repeat apply Exists.intro); exact ⟨⟨k + 1, by omega, by go_num, HI2.out⟩, rfl⟩)
        case measure => simp [intOf]; omega
    · obtain rfl : k = 80 := by omega
      clear hlt2 hk
      generalize hv : roundsTo p s ws 80 = v at hI
      have HV : Hid (roundsTo p s ws 80 = v) := hv
      clear hv HIr
      have HIr : Hid (Inv64 p w bp kb w1.heap.size s v ws wr) := hI
      clear hI
      go_wp2_with fail
      go_loopw [35] (fun i wx => ∃ k : Nat, k ≤ 8 ∧ i = .int .i64 k ∧ wx.heap[w.heap.size]? = some (.cells (mix64 s v k) 43 (0, 0)) ∧
          wx.heap[w.heap.size + 1]? = some (.cells (st64 ⟨0, 0, 0, 0, 0, 0, 0, 0⟩) 43 (0, 0)) ∧ wx.heap[w1.heap.size + 1]? = some (.cells (st64 v) 43 (0, 0)) ∧ Below w.heap.size w wx) (fun i _ => 8 - (intOf i).toNat)
      case atStart => exact ⟨0, by omega, rfl, by rw [mix64_0]; exact HIr.out.h0, HIr.out.h1, HIr.out.h3, HIr.out.below⟩
      case round =>
        clear HIr
        obtain ⟨k, hk, rfl, hh0, hh1, hh3, hbb⟩ := hrel
        by_cases hlt2 : k < 8
        · have mc0 : wr.cell? ⟨w.heap.size, k, none⟩ = some (.int .u64 (eW (at64 s k))) := by rw [cell_of_row _ _ _ _ _ _ hh0, mix64_get _ _ _ hlt2]
          have mc3 : wr.cell? ⟨w1.heap.size + 1, k, none⟩ = some (.int .u64 (eW (at64 v k))) := by rw [cell_of_row _ _ _ _ _ _ hh3, st64_get _ _ hlt2]
          have mf0 : wr.frozen? ⟨w.heap.size, k, none⟩ = false := frozen_of_row _ _ _ _ _ hh0
          have HH0 : Hid _ := hh0
          have HH1 : Hid _ := hh1
          have HH3 : Hid _ := hh3
          clear hh0 hh1 hh3
          have hi1 : (k : Int) < 8 := by omega
          have hi2 : (0 : Int) ≤ (k : Int) := by omega
          go_wp2_with fail
          go_region
          all_goals
            go_wp2_with fail
            go_roundw
            case rel =>
              refine ⟨k + 1, by omega, by go_num, ?_, ?_, ?_, (hbb.setCell (Nat.le_refl _) _).drew⟩
              · rw [heap_drew, heap_setCell_same _ _ _ _ _ _ HH0.out, mix64_set _ _ _ hlt2]
              · rw [heap_drew, heap_setCell_other _ _ _ _ (by show w.heap.size + 1 ≠ w.heap.size; omega)]; exact HH1.out
              · rw [heap_drew, heap_setCell_other _ _ _ _ (by show w1.heap.size + 1 ≠ w.heap.size; omega)]; exact HH3.out
            case measure => simp [intOf]; omega
        · obtain rfl : k = 8 := by omega
          rw [mix64_8] at hh0
          go_wp2_with (first | (refine wpList_load_row rfl 43 (.tmp 4) rfl w.heap.size rfl _ _ _ _ hh0 Try.underlying43 rfl (st64_info _) ?_) | (refine wpList_store_row rfl 43 (.tmp 6) (.tmp 47) rfl (w.heap.size + 1) _ rfl rfl _ _ hh1 (st64_info _) rfl (st64_one _) ?_))
          refine bodyPost_ret (v := .agg (st64 (plusS s v))) (results_cell_row rfl _ _ (w.heap.size + 1) _ _ _ _ rfl (setRow_heap _ _ _ _ _ _ hh1) Try.underlying43 rfl (st64_info _)) rfl ⟨?_, below_setRow hbb (Nat.le_succ _) _⟩
          rw [blockS, HWS.out, hp.hK, HV.out]
end
end Go.Proofs.Ytfihidnmgaiojaa
