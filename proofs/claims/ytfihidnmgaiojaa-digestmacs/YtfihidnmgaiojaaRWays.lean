/-
  The document's answer: way, the words at first and those of the turns.
-/
import Derived.Test.YtfihidnmgaiojaaRTurned32
import Derived.Test.YtfihidnmgaiojaaRTurned64
import Derived.Test.YtfihidnmgaiojaaPlans
namespace Go.Proofs.Ytfihidnmgaiojaa
open Go.RowKit
set_option linter.unusedVariables false

def kI32 : Array Value := (K32.map fun k => Value.int .i64 (eS (ex k))).toArray
def kI64 : Array Value := (K64.map fun k => Value.int .i64 (eS k)).toArray
def byA32 : Array Value := #[.int .i64 7, .int .i64 18, .int .i64 3, .int .i64 17, .int .i64 19, .int .i64 10, .int .i64 6, .int .i64 11, .int .i64 25, .int .i64 2, .int .i64 13, .int .i64 22]
def byA64 : Array Value := #[.int .i64 1, .int .i64 8, .int .i64 7, .int .i64 19, .int .i64 61, .int .i64 6, .int .i64 14, .int .i64 18, .int .i64 41, .int .i64 28, .int .i64 34, .int .i64 39]
def wayZ : Array Value := #[.int .i64 0, .int .i64 0, .slice none 0 0, .slice none 0 0, .slice none 0 0]
def wayA (bits n b hg kb : Nat) : Array Value := #[.int .i64 bits, .int .i64 n, .slice (some ⟨b, 0, none⟩) 12 12, .slice (some ⟨hg, 0, none⟩) 8 8, .slice (some ⟨kb, 0, none⟩) n n]
theorem zeroWay (w : World) : Sem.run Try.prog (zeroValue 50) w = .ok (.agg wayZ) w := by kernel_rfl
theorem way_info (x n b hg kb : Nat) : (Try.prog.info? 50).map (·.size) = some (wayA x n b hg kb).size := by
  rw [show (wayA x n b hg kb).size = 5 from rfl]; kernel_rfl
theorem way_one (x n b hg kb : Nat) : (wayA x n b hg kb).all (·.oneCell') = true := by simp [wayA, Value.oneCell']

theorem up {w w' : World} {g : Nat} {r : Obj} (hb : Below w.heap.size w w') (h : w.heap[g]? = some r) : w'.heap[g]? = some r := (hb.block g (Array.getElem?_eq_some_iff.1 h).1).trans h

/-- What way gives: the rows that it names. -/
structure Rows32 (w : World) (b hg kb : Nat) (s : St 32) : Prop where
  by_ : w.heap[b]? = some (.cells byA32 3 (0, 0))
  h : w.heap[hg]? = some (.cells (ist32 s) 3 (0, 0))
  k : w.heap[kb]? = some (.cells kI32 3 (0, 0))
structure Rows64 (w : World) (b hg kb : Nat) (s : St 64) : Prop where
  by_ : w.heap[b]? = some (.cells byA64 3 (0, 0))
  h : w.heap[hg]? = some (.cells (ist64 s) 3 (0, 0))
  k : w.heap[kb]? = some (.cells kI64 3 (0, 0))

theorem rows_ne {w : World} {i j : Nat} {c d : Array Value} {fr fs : Nat × Nat} (h1 : w.heap[i]? = some (.cells c 50 fr)) (h2 : w.heap[j]? = some (.cells d 3 fs)) : j ≠ i := by
  rintro rfl
  rw [h1] at h2
  injection h2 with h2
  injection h2 with _ h2 _
  revert h2; decide
theorem rows32_set {w : World} {z b hg kb : Nat} {s : St 32} {c d : Array Value} {fr : Nat × Nat} (h : Rows32 w b hg kb s) (h0 : w.heap[z]? = some (.cells c 50 fr)) : Rows32 (w.setRow z d) b hg kb s :=
  ⟨by rw [setRow_other _ _ _ _ (rows_ne h0 h.by_)]; exact h.by_, by rw [setRow_other _ _ _ _ (rows_ne h0 h.h)]; exact h.h, by rw [setRow_other _ _ _ _ (rows_ne h0 h.k)]; exact h.k⟩
theorem rows64_set {w : World} {z b hg kb : Nat} {s : St 64} {c d : Array Value} {fr : Nat × Nat} (h : Rows64 w b hg kb s) (h0 : w.heap[z]? = some (.cells c 50 fr)) : Rows64 (w.setRow z d) b hg kb s :=
  ⟨by rw [setRow_other _ _ _ _ (rows_ne h0 h.by_)]; exact h.by_, by rw [setRow_other _ _ _ _ (rows_ne h0 h.h)]; exact h.h, by rw [setRow_other _ _ _ _ (rows_ne h0 h.k)]; exact h.k⟩
theorem rows64_up {w w' : World} {b hg kb : Nat} {s : St 64} (h : Rows64 w b hg kb s) (hb : Below w.heap.size w w') : Rows64 w' b hg kb s := ⟨up hb h.by_, up hb h.h, up hb h.k⟩

theorem rows64_setCell {w : World} {z o b hg kb : Nat} {s : St 64} {c : Array Value} {v : Value} {fr : Nat × Nat} (h : Rows64 w b hg kb s) (h0 : w.heap[z]? = some (.cells c 50 fr)) : Rows64 (w.setCell ⟨z, o, none⟩ v) b hg kb s :=
  ⟨by rw [heap_setCell_other _ _ _ _ (rows_ne h0 h.by_)]; exact h.by_, by rw [heap_setCell_other _ _ _ _ (rows_ne h0 h.h)]; exact h.h, by rw [heap_setCell_other _ _ _ _ (rows_ne h0 h.k)]; exact h.k⟩

set_option maxRecDepth 100000 in
theorem rst256 (w : World) : Calls Try.prog 42 #[] w fun e w' => e = .returned (.slice (some ⟨w.heap.size, 0, none⟩) 8 8) ∧ w' = w.alloc (.cells (ist32 s256) 3) := by
  go_enter Try.func42, Try.ntmps42
  go_wp2_with (first | (refine wp_built rfl 48 8 _ rfl (ist32 s256) 3 ?hr ?_; (case hr => kernel_rfl)))
  go_ret
  exact ⟨rfl, rfl⟩
set_option maxRecDepth 100000 in
theorem rst512 (w : World) : Calls Try.prog 44 #[] w fun e w' => e = .returned (.slice (some ⟨w.heap.size, 0, none⟩) 8 8) ∧ w' = w.alloc (.cells (ist64 s512) 3) := by
  go_enter Try.func44, Try.ntmps44
  go_wp2_with (first | (refine wp_built rfl 48 8 _ rfl (ist64 s512) 3 ?hr ?_; (case hr => kernel_rfl)))
  go_ret
  exact ⟨rfl, rfl⟩
set_option maxRecDepth 100000 in
theorem rst384 (w : World) : Calls Try.prog 46 #[] w fun e w' => e = .returned (.slice (some ⟨w.heap.size, 0, none⟩) 8 8) ∧ w' = w.alloc (.cells (ist64 s384) 3) := by
  go_enter Try.func46, Try.ntmps46
  go_wp2_with (first | (refine wp_built rfl 48 8 _ rfl (ist64 s384) 3 ?hr ?_; (case hr => kernel_rfl)))
  go_ret
  exact ⟨rfl, rfl⟩
set_option maxRecDepth 100000 in
set_option maxHeartbeats 1000000 in
theorem rk256 (w : World) : Calls Try.prog 43 #[] w fun e w' => e = .returned (.slice (some ⟨w.heap.size, 0, none⟩) 64 64) ∧ w' = w.alloc (.cells kI32 3) := by
  go_enter Try.func43, Try.ntmps43
  go_wp2_with (first | (refine wp_built rfl 48 64 _ rfl kI32 3 ?hr ?_; (case hr => kernel_rfl)))
  go_ret
  exact ⟨rfl, rfl⟩
set_option maxRecDepth 100000 in
set_option maxHeartbeats 1000000 in
theorem rk512 (w : World) : Calls Try.prog 45 #[] w fun e w' => e = .returned (.slice (some ⟨w.heap.size, 0, none⟩) 80 80) ∧ w' = w.alloc (.cells kI64 3) := by
  go_enter Try.func45, Try.ntmps45
  go_wp2_with (first | (refine wp_built rfl 48 80 _ rfl kI64 3 ?hr ?_; (case hr => kernel_rfl)))
  go_ret
  exact ⟨rfl, rfl⟩

set_option maxRecDepth 100000 in
set_option maxHeartbeats 1000000 in
theorem way256 (w : World) : Calls Try.prog 25 #[.int .i64 256] w fun e w' => ∃ b hg kb, e = .returned (.agg (wayA 32 64 b hg kb)) ∧ Rows32 w' b hg kb s256 ∧ Below w.heap.size w w' := by
  have hz := zeroWay
  go_enter Try.func25, Try.ntmps25
  go_wp2_with (first | (refine wp_built rfl 48 12 _ rfl byA32 3 ?hr ?_; (case hr => kernel_rfl)))
  have z0 := heap_alloc2_old w (.cells wayZ 50) (.cells byA32 3)
  have z1 := heap_alloc2_new w (.cells wayZ 50) (.cells byA32 3)
  have hB : Below w.heap.size w ((w.alloc (.cells wayZ 50)).alloc (.cells byA32 3)) := bal (bal (brf w) _) _
  generalize hW : (w.alloc (.cells wayZ 50)).alloc (.cells byA32 3) = W1 at z0 z1 hB
  clear hW
  refine (rst256 W1).mono ?_
  rintro e1 w1 ⟨rfl, hw1⟩
  have hb1 : Below W1.heap.size W1 w1 := by rw [hw1]; exact bal (brf _) _
  have z2 : w1.heap[W1.heap.size]? = some (.cells (ist32 s256) 3 (0, 0)) := by rw [hw1]; exact heap_alloc_new _ _
  have y0 := up hb1 z0
  have y1 := up hb1 z1
  have hB1 := hB.trans (hb1.mono hB.size)
  generalize W1.heap.size = hg at z2
  clear hw1 hb1 z0 z1 hB
  have Y0 : Hid _ := y0
  have Y1 : Hid _ := y1
  have Y2 : Hid _ := z2
  have HB1 : Hid _ := hB1
  clear y0 y1 z2 hB1 W1
  go_wp2_with fail
  refine (rk256 w1).mono ?_
  rintro e2 w2 ⟨rfl, hw2⟩
  have hb2 : Below w1.heap.size w1 w2 := by rw [hw2]; exact bal (brf _) _
  have x3 : w2.heap[w1.heap.size]? = some (.cells kI32 3 (0, 0)) := by rw [hw2]; exact heap_alloc_new _ _
  have x0 := up hb2 Y0.out
  have x1 := up hb2 Y1.out
  have x2 := up hb2 Y2.out
  have hB2 := HB1.out.trans (hb2.mono HB1.out.size)
  generalize w1.heap.size = kb at x3
  clear hw2 hb2 Y0 Y1 Y2 HB1 w1
  have X0 : Hid _ := x0
  have X1 : Hid _ := x1
  have X2 : Hid _ := x2
  have X3 : Hid _ := x3
  have HB2 : Hid _ := hB2
  clear x0 x1 x2 x3 hB2
  obtain ⟨b, hb⟩ : ∃ b, b = w.heap.size + 1 := ⟨_, rfl⟩
  rw [← hb] at X1
  have hbw : w.heap.size ≠ b := by omega
  rw [← hb]
  clear hb
  go_wp2_with (first | (refine wp_build rfl 50 _ rfl (.agg (wayA 32 64 b hg kb)) ?hr ?_; (case hr => kernel_rfl)) | (refine wpList_store_row rfl 50 _ _ rfl w.heap.size _ rfl rfl _ _ X0.out (way_info _ _ _ _ _) rfl (way_one _ _ _ _ _) ?_))
  refine bodyPost_ret (v := .agg (wayA 32 64 b hg kb)) (results_cell_row rfl _ _ w.heap.size _ _ _ _ rfl (setRow_heap _ _ _ _ _ _ X0.out) Try.underlying50 rfl (way_info _ _ _ _ _)) rfl ⟨b, hg, kb, rfl, rows32_set ⟨X1.out, X2.out, X3.out⟩ X0.out, below_setRow HB2.out (Nat.le_refl _) _⟩

set_option maxRecDepth 100000 in
set_option maxHeartbeats 1000000 in
theorem way512 (w : World) : Calls Try.prog 25 #[.int .i64 512] w fun e w' => ∃ b hg kb, e = .returned (.agg (wayA 64 80 b hg kb)) ∧ Rows64 w' b hg kb s512 ∧ Below w.heap.size w w' := by
  have hz := zeroWay
  go_enter Try.func25, Try.ntmps25
  go_wp2_with (first | (refine wp_built rfl 48 12 _ rfl byA64 3 ?hr ?_; (case hr => kernel_rfl)))
  have z0 := heap_alloc2_old w (.cells wayZ 50) (.cells byA64 3)
  have z1 := heap_alloc2_new w (.cells wayZ 50) (.cells byA64 3)
  have hB : Below w.heap.size w ((w.alloc (.cells wayZ 50)).alloc (.cells byA64 3)) := bal (bal (brf w) _) _
  generalize hW : (w.alloc (.cells wayZ 50)).alloc (.cells byA64 3) = W1 at z0 z1 hB
  clear hW
  refine (rst512 W1).mono ?_
  rintro e1 w1 ⟨rfl, hw1⟩
  have hb1 : Below W1.heap.size W1 w1 := by rw [hw1]; exact bal (brf _) _
  have z2 : w1.heap[W1.heap.size]? = some (.cells (ist64 s512) 3 (0, 0)) := by rw [hw1]; exact heap_alloc_new _ _
  have y0 := up hb1 z0
  have y1 := up hb1 z1
  have hB1 := hB.trans (hb1.mono hB.size)
  generalize W1.heap.size = hg at z2
  clear hw1 hb1 z0 z1 hB
  have Y0 : Hid _ := y0
  have Y1 : Hid _ := y1
  have Y2 : Hid _ := z2
  have HB1 : Hid _ := hB1
  clear y0 y1 z2 hB1 W1
  go_wp2_with fail
  refine (rk512 w1).mono ?_
  rintro e2 w2 ⟨rfl, hw2⟩
  have hb2 : Below w1.heap.size w1 w2 := by rw [hw2]; exact bal (brf _) _
  have x3 : w2.heap[w1.heap.size]? = some (.cells kI64 3 (0, 0)) := by rw [hw2]; exact heap_alloc_new _ _
  have x0 := up hb2 Y0.out
  have x1 := up hb2 Y1.out
  have x2 := up hb2 Y2.out
  have hB2 := HB1.out.trans (hb2.mono HB1.out.size)
  generalize w1.heap.size = kb at x3
  clear hw2 hb2 Y0 Y1 Y2 HB1 w1
  have X0 : Hid _ := x0
  have X1 : Hid _ := x1
  have X2 : Hid _ := x2
  have X3 : Hid _ := x3
  have HB2 : Hid _ := hB2
  clear x0 x1 x2 x3 hB2
  obtain ⟨b, hb⟩ : ∃ b, b = w.heap.size + 1 := ⟨_, rfl⟩
  rw [← hb] at X1
  have hbw : w.heap.size ≠ b := by omega
  rw [← hb]
  clear hb
  go_wp2_with (first | (refine wp_build rfl 50 _ rfl (.agg (wayA 64 80 b hg kb)) ?hr ?_; (case hr => kernel_rfl)) | (refine wpList_store_row rfl 50 (.tmp 3) (.tmp 13) rfl w2.heap.size _ rfl rfl _ _ (heap_alloc_new _ _) (way_info _ _ _ _ _) rfl (way_one _ _ _ _ _) ?_; rw [World.setRow_alloc_new]) | (refine wpList_load_row rfl 50 (.tmp 3) rfl w2.heap.size rfl _ _ _ _ (heap_alloc_new _ _) Try.underlying50 rfl (way_info 64 80 b hg kb) ?_) | (refine wpList_store_row rfl 50 (.tmp 2) (.tmp 18) rfl w.heap.size _ rfl rfl _ _ (up (bal (brf _) _) X0.out) (way_info _ _ _ _ _) rfl (way_one _ _ _ _ _) ?_))
  refine bodyPost_ret (v := .agg (wayA 64 80 b hg kb)) (results_cell_row rfl _ _ w.heap.size _ _ _ _ rfl (setRow_heap _ _ _ _ _ _ (up (bal (brf _) _) X0.out)) Try.underlying50 rfl (way_info _ _ _ _ _)) rfl ⟨b, hg, kb, rfl, rows64_set (rows64_up ⟨X1.out, X2.out, X3.out⟩ (bal (brf _) _)) (up (bal (brf _) _) X0.out), below_setRow (bal HB2.out _) (Nat.le_refl _) _⟩

set_option maxRecDepth 100000 in
set_option maxHeartbeats 1000000 in
theorem way384 (w : World) : Calls Try.prog 25 #[.int .i64 384] w fun e w' => ∃ b hg kb, e = .returned (.agg (wayA 64 80 b hg kb)) ∧ Rows64 w' b hg kb s384 ∧ Below w.heap.size w w' := by
  have hz := zeroWay
  go_enter Try.func25, Try.ntmps25
  go_wp2_with (first | (refine wp_built rfl 48 12 _ rfl byA64 3 ?hr ?_; (case hr => kernel_rfl)))
  have z0 := heap_alloc2_old w (.cells wayZ 50) (.cells byA64 3)
  have z1 := heap_alloc2_new w (.cells wayZ 50) (.cells byA64 3)
  have hB : Below w.heap.size w ((w.alloc (.cells wayZ 50)).alloc (.cells byA64 3)) := bal (bal (brf w) _) _
  generalize hW : (w.alloc (.cells wayZ 50)).alloc (.cells byA64 3) = W1 at z0 z1 hB
  clear hW
  refine (rst512 W1).mono ?_
  rintro e1 w1 ⟨rfl, hw1⟩
  have hb1 : Below W1.heap.size W1 w1 := by rw [hw1]; exact bal (brf _) _
  have z2 : w1.heap[W1.heap.size]? = some (.cells (ist64 s512) 3 (0, 0)) := by rw [hw1]; exact heap_alloc_new _ _
  have y0 := up hb1 z0
  have y1 := up hb1 z1
  have hB1 := hB.trans (hb1.mono hB.size)
  generalize W1.heap.size = hg at z2
  clear hw1 hb1 z0 z1 hB
  have Y0 : Hid _ := y0
  have Y1 : Hid _ := y1
  have Y2 : Hid _ := z2
  have HB1 : Hid _ := hB1
  clear y0 y1 z2 hB1 W1
  go_wp2_with fail
  refine (rk512 w1).mono ?_
  rintro e2 w2 ⟨rfl, hw2⟩
  have hb2 : Below w1.heap.size w1 w2 := by rw [hw2]; exact bal (brf _) _
  have x3 : w2.heap[w1.heap.size]? = some (.cells kI64 3 (0, 0)) := by rw [hw2]; exact heap_alloc_new _ _
  have x0 := up hb2 Y0.out
  have x1 := up hb2 Y1.out
  have x2 := up hb2 Y2.out
  have hB2 := HB1.out.trans (hb2.mono HB1.out.size)
  generalize w1.heap.size = kb at x3
  clear hw2 hb2 Y0 Y1 Y2 HB1 w1
  have X0 : Hid _ := x0
  have X1 : Hid _ := x1
  have X2 : Hid _ := x2
  have X3 : Hid _ := x3
  have HB2 : Hid _ := hB2
  clear x0 x1 x2 x3 hB2
  obtain ⟨b, hb⟩ : ∃ b, b = w.heap.size + 1 := ⟨_, rfl⟩
  rw [← hb] at X1
  have hbw : w.heap.size ≠ b := by omega
  rw [← hb]
  clear hb
  go_wp2_with (first | (refine wp_build rfl 50 _ rfl (.agg (wayA 64 80 b hg kb)) ?hr ?_; (case hr => kernel_rfl)) | (refine wpList_store_row rfl 50 (.tmp 3) (.tmp 13) rfl w2.heap.size _ rfl rfl _ _ (heap_alloc_new _ _) (way_info _ _ _ _ _) rfl (way_one _ _ _ _ _) ?_; rw [World.setRow_alloc_new]))
  have r5 := heap_alloc_new w2 (.cells (wayA 64 80 b hg kb) 50)
  have hb5 : Below w2.heap.size w2 (w2.alloc (.cells (wayA 64 80 b hg kb) 50)) := bal (brf _) _
  generalize hW : w2.alloc (.cells (wayA 64 80 b hg kb) 50) = W5 at r5 hb5
  clear hW
  refine (rst384 W5).mono ?_
  rintro e6 w6 ⟨rfl, hw6⟩
  have hb6 : Below W5.heap.size W5 w6 := by rw [hw6]; exact bal (brf _) _
  have x7 : w6.heap[W5.heap.size]? = some (.cells (ist64 s384) 3 (0, 0)) := by rw [hw6]; exact heap_alloc_new _ _
  have hR : Rows64 w6 b W5.heap.size kb s384 := ⟨up hb6 (up hb5 X1.out), x7, up hb6 (up hb5 X3.out)⟩
  have h0 := up hb6 (up hb5 X0.out)
  have h5 := up hb6 r5
  have hB6 := HB2.out.trans ((hb5.trans (hb6.mono hb5.size)).mono HB2.out.size)
  have hle : w.heap.size < w2.heap.size := (Array.getElem?_eq_some_iff.1 X0.out).1
  generalize W5.heap.size = h2 at hR
  generalize w2.heap.size = g at hle h5
  have HR : Hid _ := hR
  have H0 : Hid _ := h0
  have H5 : Hid _ := h5
  have HB6 : Hid _ := hB6
  have c3 : w6.cell? ⟨g, 3, none⟩ = some (.slice (some ⟨hg, 0, none⟩) 8 8) := (cell_of_row _ _ _ _ _ _ h5).trans rfl
  have cf : w6.frozen? ⟨g, 3, none⟩ = false := frozen_of_row _ _ _ _ _ h5
  clear hw6 hb6 x7 hR h0 h5 hB6 r5 hb5 X0 X1 X2 X3 HB2 hbw
  have hs1 : (w6.setCell ⟨g, 3, none⟩ (.slice (some ⟨h2, 0, none⟩) 8 8)).heap[g]? = some (.cells (wayA 64 80 b h2 kb) 50 (0, 0)) := (heap_setCell_same _ _ _ _ _ _ H5.out).trans rfl
  have hs2 : (w6.setCell ⟨g, 3, none⟩ (.slice (some ⟨h2, 0, none⟩) 8 8)).heap[w.heap.size]? = some (.cells wayZ 50 (0, 0)) := by rw [heap_setCell_other _ _ _ _ (Nat.ne_of_lt hle)]; exact H0.out
  have HS1 : Hid _ := hs1
  have HS2 : Hid _ := hs2
  clear hs1 hs2
  go_wp2_with (first | (refine wpList_load_row rfl 50 (.tmp 3) rfl g rfl _ _ _ _ HS1.out Try.underlying50 rfl (way_info 64 80 b h2 kb) ?_) | (refine wpList_store_row rfl 50 (.tmp 2) (.tmp 18) rfl w.heap.size _ rfl rfl _ _ HS2.out (way_info _ _ _ _ _) rfl (way_one _ _ _ _ _) ?_))
  refine bodyPost_ret (v := .agg (wayA 64 80 b h2 kb)) (results_cell_row rfl _ _ w.heap.size _ _ _ _ rfl (setRow_heap _ _ _ _ _ _ HS2.out) Try.underlying50 rfl (way_info _ _ _ _ _)) rfl ⟨b, h2, kb, rfl, rows64_set (rows64_setCell HR.out H5.out) HS2.out, below_setRow (HB6.out.setCell (Nat.le_of_lt hle) _) (Nat.le_refl _) _⟩
end Go.Proofs.Ytfihidnmgaiojaa
