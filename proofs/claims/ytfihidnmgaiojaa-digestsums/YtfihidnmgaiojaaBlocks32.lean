/-
  blockSize and blocks, of words of 32 bits.
-/
import Derived.Test.YtfihidnmgaiojaaBlock32
namespace Go.Proofs.Ytfihidnmgaiojaa
open Go.RowKit
set_option linter.unusedVariables false
section
attribute [local go_sem] shr_eW shr_eW_min shl32 or32 xor32 and32 add32 not32 add32m add32m3 alloc_drewN

set_option maxHeartbeats 400000 in
theorem bsize32 (bp : Nat) (w : World) (hc : w.cell? ⟨bp, 0, none⟩ = some (.int .i64 4)) :
    Calls Try.prog 34 #[.pointer (some ⟨bp, 0, none⟩)] w fun e w' => e = .returned (.int .i64 64) ∧ w' = w := by
  go_enter Try.func34, Try.ntmps34
  go_wp2
  go_ret
  exact ⟨rfl, rfl⟩

theorem blockx32 (bp kb : Nat) (s : St 32) (t : ByteArray) (w : World) (p : Way 32) (ht : t.size = 64) (hp : Plan32 p w bp kb) :
    Calls Try.prog 50 #[.pointer (some ⟨bp, 0, none⟩), .agg #[.int .u32 (eW s.a), .int .u32 (eW s.b), .int .u32 (eW s.c), .int .u32 (eW s.d), .int .u32 (eW s.e), .int .u32 (eW s.f), .int .u32 (eW s.g), .int .u32 (eW s.h)], .string t] w
      fun e w' => (∃ u : St 32, u = blockS p 4 s t.data.toList ∧ e = .returned (.agg #[.int .u32 (eW u.a), .int .u32 (eW u.b), .int .u32 (eW u.c), .int .u32 (eW u.d), .int .u32 (eW u.e), .int .u32 (eW u.f), .int .u32 (eW u.g), .int .u32 (eW u.h)])) ∧ Below w.heap.size w w' :=
  (block32 bp kb s t w p ht hp).mono fun e w' ⟨he, hb⟩ => ⟨⟨_, rfl, he⟩, hb⟩

/-- What holds at each round's head. -/
structure InvB32 (p : Way 32) (w : World) (bp kb : Nat) (v : St 32) (wr : World) : Prop where
  plan0 : Plan32 p w bp kb
  h0 : wr.heap[w.heap.size]? = some (.cells (st32 v) 35 (0, 0))
  h1 : wr.heap[w.heap.size + 1]? = some (.cells (st32 ⟨0, 0, 0, 0, 0, 0, 0, 0⟩) 35 (0, 0))
  below : Below w.heap.size w wr

theorem InvB32.plan {p : Way 32} {w wr : World} {bp kb : Nat} {v : St 32} (h : InvB32 p w bp kb v wr) : Plan32 p wr bp kb := h.plan0.up h.below h.plan0.lt h.plan0.ltk

theorem InvB32.step {p : Way 32} {w wr w2 : World} {bp kb : Nat} {v : St 32} (h : InvB32 p w bp kb v wr) (hb : Below wr.heap.size wr w2) (v' : St 32) :
    InvB32 p w bp kb v' (put32 w2 w.heap.size v') := by
  have l0 : w.heap.size < wr.heap.size := (Array.getElem?_eq_some_iff.1 h.h0).1
  have l1 : w.heap.size + 1 < wr.heap.size := (Array.getElem?_eq_some_iff.1 h.h1).1
  refine ⟨h.plan0, put32_same v' (by rw [hb.block _ l0]; exact h.h0), ?_, h.below.trans (put32_below v' (hb.mono (by omega)) (Nat.le_refl _))⟩
  rw [put32_other _ (by omega), hb.block _ l1, h.h1]

set_option maxHeartbeats 400000 in
theorem blocks32 (bp kb : Nat) (s : St 32) (t : ByteArray) (m : Nat) (w : World) (p : Way 32) (ht : t.size = m * 64) (hm : t.size ≤ 4611686018427387904) (hp : Plan32 p w bp kb) :
    Calls Try.prog 35 #[.pointer (some ⟨bp, 0, none⟩), .agg #[.int .u32 (eW s.a), .int .u32 (eW s.b), .int .u32 (eW s.c), .int .u32 (eW s.d), .int .u32 (eW s.e), .int .u32 (eW s.f), .int .u32 (eW s.g), .int .u32 (eW s.h)], .string t] w
      fun e w' => e = .returned (.agg (st32 (blocksTo p 4 64 s t.data.toList m))) ∧ Below w.heap.size w w' := by
  have hlt := hp.lt
  have hltk := hp.ltk
  have HT : Hid (t.size = m * 64) := ht
  clear ht
  have c0 := hp.c0
  go_enter Try.func35, Try.ntmps35
  go_wp2_with (go_at_call 34; refine (bsize32 bp _ (cell2 c0 _ _)).mono ?_; rintro e1 w1 ⟨rfl, rfl⟩)
  go_loopw [8] (fun i wr => ∃ k : Nat, k ≤ m ∧ i = .int .i64 ((k * 64 : Nat) : Int) ∧ InvB32 p w bp kb (blocksTo p 4 64 s t.data.toList k) wr) (fun i _ => t.size - (intOf i).toNat)
  case atStart =>
    refine ⟨0, by omega, rfl, hp, ?_, ?_, bal (bal (brf _) _) _⟩
    · rw [heap_alloc2_old]; rfl
    · rw [heap_alloc2_new]; rfl
  case round =>
    obtain ⟨k, hk, rfl, hI⟩ := hrel
    generalize hv : blocksTo p 4 64 s t.data.toList k = v at hI
    have HV : Hid (blocksTo p 4 64 s t.data.toList k = v) := hv
    clear hv
    have HI : Hid (InvB32 p w bp kb v wr) := hI
    by_cases hlt2 : k < m
    · have hle : k * 64 + 64 ≤ t.size := by have := HT.out; have : (k + 1) * 64 ≤ m * 64 := Nat.mul_le_mul_right _ hlt2; omega
      obtain ⟨m0, m1, m2, m3, m4, m5, m6, m7⟩ := st32_cells hI.h0
      have hB0 : w.heap.size < wr.heap.size := (Array.getElem?_eq_some_iff.1 hI.h0).1
      clear hI
      generalize hn : k * 64 = n at hle
      have HN : Hid (k * 64 = n) := hn
      clear hn
      have hw1 := i64w ((n : Int) + 64) (by omega)
      have hi1 : (0 : Int) ≤ (n : Int) := by omega
      have hi2 : (n : Int) ≤ (n : Int) + 64 := by omega
      have hi3 : (n : Int) + 64 ≤ (t.size : Int) := by omega
      have hi4 : (0 : Int) ≤ (n : Int) + 64 := by omega
      have hi5 : (n : Int) < (t.size : Int) := by omega
      have ht1 : ((n : Int) + 64).toNat = n + 64 := by omega
      go_wp2_with fail
      go_region_with (go_at_call 50; refine (blockx32 bp kb v (t.extract n (n + 64)) wr.drew p (by simp; omega) (HI.out.plan.up (Below.refl wr.heap.size wr).drew HI.out.plan.lt HI.out.plan.ltk)).mono ?_; rintro e w2 ⟨⟨u, hu, rfl⟩, hb2⟩; have HU : Hid (u = blockS p 4 v (t.extract n (n + 64)).data.toList) := hu; clear hu; have h02 : w2.heap[w.heap.size]? = some (.cells (st32 v) 35 (0, 0)) := (hb2.block _ hB0).trans HI.out.h0; obtain ⟨q0, q1, q2, q3, q4, q5, q6, q7⟩ := st32_cells h02; have qf : ∀ j, w2.frozen? ⟨w.heap.size, j, none⟩ = false := fun j => frozen_of_row _ _ j _ _ h02; clear h02)
      all_goals
        have hI2 : InvB32 p w bp kb (blocksTo p 4 64 s t.data.toList (k + 1)) (put32 w2 w.heap.size u) := by
          have := HI.out.step (w2 := w2) ⟨hb2.os, hb2.tape, hb2.output, hb2.size, hb2.block⟩ u
          rw [blocksTo, HV.out, HN.out]
          rw [HU.out, extract_list, show n + 64 - n = 64 from by omega] at this ⊢
          exact this
        have HI2 : Hid _ := hI2
        clear hI2 hb2
        go_wp2_with fail
        have hks : (n : Int) + 64 = (((k + 1) * 64 : Nat) : Int) := by have := HN.out; omega
        have HKS : Hid ((n : Int) + 64 = (((k + 1) * 64 : Nat) : Int)) := hks
        clear hks
        refine ⟨⟨k + 1, by omega, by rw [HKS.out], HI2.out⟩, ?_⟩
        simp [intOf]; omega
    · obtain rfl : k = m := by omega
      have hz : (t.size : Int) = ((k * 64 : Nat) : Int) := by have := HT.out; omega
      have hi := hI.h0
      have hj := hI.h1
      clear hI
      go_wp2_with (first | (refine wpList_load_row rfl 35 (.tmp 4) rfl w.heap.size rfl _ _ _ _ hi Try.underlying35 rfl (st32_info _) ?_) | (refine wpList_store_row rfl 35 (.tmp 6) (.tmp 27) rfl (w.heap.size + 1) _ rfl rfl _ _ hj (st32_info _) rfl (st32_one _) ?_))
      refine bodyPost_ret (v := .agg (st32 v)) (results_cell_row rfl _ _ (w.heap.size + 1) _ _ _ _ rfl (setRow_heap _ _ _ _ _ _ hj) Try.underlying35 rfl (st32_info _)) rfl ⟨?_, below_setRow HI.out.below (Nat.le_succ _) _⟩
      rw [HV.out]
end
end Go.Proofs.Ytfihidnmgaiojaa
