/-
  blockSize and blocks, of words of 64 bits.
-/
import Derived.Test.YtfihidnmgaiojaaBlock64
namespace Go.Proofs.Ytfihidnmgaiojaa
open Go.RowKit
set_option linter.unusedVariables false
section
attribute [local go_sem] shr_eW shr_eW_min shl64 or64 xor64 and64 add64 not64 add64m add64m3 alloc_drewN

set_option maxHeartbeats 400000 in
theorem bsize64 (bp : Nat) (w : World) (hc : w.cell? ⟨bp, 0, none⟩ = some (.int .i64 8)) :
    Calls Try.prog 38 #[.pointer (some ⟨bp, 0, none⟩)] w fun e w' => e = .returned (.int .i64 128) ∧ w' = w := by
  go_enter Try.func38, Try.ntmps38
  go_wp2
  go_ret
  exact ⟨rfl, rfl⟩

theorem blockx64 (bp kb : Nat) (s : St 64) (t : ByteArray) (w : World) (p : Way 64) (ht : t.size = 128) (hp : Plan64 p w bp kb) :
    Calls Try.prog 51 #[.pointer (some ⟨bp, 0, none⟩), .agg #[.int .u64 (eW s.a), .int .u64 (eW s.b), .int .u64 (eW s.c), .int .u64 (eW s.d), .int .u64 (eW s.e), .int .u64 (eW s.f), .int .u64 (eW s.g), .int .u64 (eW s.h)], .string t] w
      fun e w' => (∃ u : St 64, u = blockS p 8 s t.data.toList ∧ e = .returned (.agg #[.int .u64 (eW u.a), .int .u64 (eW u.b), .int .u64 (eW u.c), .int .u64 (eW u.d), .int .u64 (eW u.e), .int .u64 (eW u.f), .int .u64 (eW u.g), .int .u64 (eW u.h)])) ∧ Below w.heap.size w w' :=
  (block64 bp kb s t w p ht hp).mono fun e w' ⟨he, hb⟩ => ⟨⟨_, rfl, he⟩, hb⟩

/-- What holds at each round's head. -/
structure InvB64 (p : Way 64) (w : World) (bp kb : Nat) (v : St 64) (wr : World) : Prop where
  plan0 : Plan64 p w bp kb
  h0 : wr.heap[w.heap.size]? = some (.cells (st64 v) 43 (0, 0))
  h1 : wr.heap[w.heap.size + 1]? = some (.cells (st64 ⟨0, 0, 0, 0, 0, 0, 0, 0⟩) 43 (0, 0))
  below : Below w.heap.size w wr

theorem InvB64.plan {p : Way 64} {w wr : World} {bp kb : Nat} {v : St 64} (h : InvB64 p w bp kb v wr) : Plan64 p wr bp kb := h.plan0.up h.below h.plan0.lt h.plan0.ltk

theorem InvB64.step {p : Way 64} {w wr w2 : World} {bp kb : Nat} {v : St 64} (h : InvB64 p w bp kb v wr) (hb : Below wr.heap.size wr w2) (v' : St 64) :
    InvB64 p w bp kb v' (put64 w2 w.heap.size v') := by
  have l0 : w.heap.size < wr.heap.size := (Array.getElem?_eq_some_iff.1 h.h0).1
  have l1 : w.heap.size + 1 < wr.heap.size := (Array.getElem?_eq_some_iff.1 h.h1).1
  refine ⟨h.plan0, put64_same v' (by rw [hb.block _ l0]; exact h.h0), ?_, h.below.trans (put64_below v' (hb.mono (by omega)) (Nat.le_refl _))⟩
  rw [put64_other _ (by omega), hb.block _ l1, h.h1]

set_option maxHeartbeats 400000 in
theorem blocks64 (bp kb : Nat) (s : St 64) (t : ByteArray) (m : Nat) (w : World) (p : Way 64) (ht : t.size = m * 128) (hm : t.size ≤ 4611686018427387904) (hp : Plan64 p w bp kb) :
    Calls Try.prog 39 #[.pointer (some ⟨bp, 0, none⟩), .agg #[.int .u64 (eW s.a), .int .u64 (eW s.b), .int .u64 (eW s.c), .int .u64 (eW s.d), .int .u64 (eW s.e), .int .u64 (eW s.f), .int .u64 (eW s.g), .int .u64 (eW s.h)], .string t] w
      fun e w' => e = .returned (.agg (st64 (blocksTo p 8 128 s t.data.toList m))) ∧ Below w.heap.size w w' := by
  have hlt := hp.lt
  have hltk := hp.ltk
  have HT : Hid (t.size = m * 128) := ht
  clear ht
  have c0 := hp.c0
  go_enter Try.func39, Try.ntmps39
  go_wp2_with (go_at_call 38; refine (bsize64 bp _ (cell2 c0 _ _)).mono ?_; rintro e1 w1 ⟨rfl, rfl⟩)
  go_loopw [8] (fun i wr => ∃ k : Nat, k ≤ m ∧ i = .int .i64 ((k * 128 : Nat) : Int) ∧ InvB64 p w bp kb (blocksTo p 8 128 s t.data.toList k) wr) (fun i _ => t.size - (intOf i).toNat)
  case atStart =>
    refine ⟨0, by omega, rfl, hp, ?_, ?_, bal (bal (brf _) _) _⟩
    · rw [heap_alloc2_old]; rfl
    · rw [heap_alloc2_new]; rfl
  case round =>
    obtain ⟨k, hk, rfl, hI⟩ := hrel
    generalize hv : blocksTo p 8 128 s t.data.toList k = v at hI
    have HV : Hid (blocksTo p 8 128 s t.data.toList k = v) := hv
    clear hv
    have HI : Hid (InvB64 p w bp kb v wr) := hI
    by_cases hlt2 : k < m
    · have hle : k * 128 + 128 ≤ t.size := by have := HT.out; have : (k + 1) * 128 ≤ m * 128 := Nat.mul_le_mul_right _ hlt2; omega
      obtain ⟨m0, m1, m2, m3, m4, m5, m6, m7⟩ := st64_cells hI.h0
      have hB0 : w.heap.size < wr.heap.size := (Array.getElem?_eq_some_iff.1 hI.h0).1
      clear hI
      generalize hn : k * 128 = n at hle
      have HN : Hid (k * 128 = n) := hn
      clear hn
      have hw1 := i64w ((n : Int) + 128) (by omega)
      have hi1 : (0 : Int) ≤ (n : Int) := by omega
      have hi2 : (n : Int) ≤ (n : Int) + 128 := by omega
      have hi3 : (n : Int) + 128 ≤ (t.size : Int) := by omega
      have hi4 : (0 : Int) ≤ (n : Int) + 128 := by omega
      have hi5 : (n : Int) < (t.size : Int) := by omega
      have ht1 : ((n : Int) + 128).toNat = n + 128 := by omega
      go_wp2_with fail
      go_region_with (go_at_call 51; refine (blockx64 bp kb v (t.extract n (n + 128)) wr.drew p (by simp; omega) (HI.out.plan.up (Below.refl wr.heap.size wr).drew HI.out.plan.lt HI.out.plan.ltk)).mono ?_; rintro e w2 ⟨⟨u, hu, rfl⟩, hb2⟩; have HU : Hid (u = blockS p 8 v (t.extract n (n + 128)).data.toList) := hu; clear hu; have h02 : w2.heap[w.heap.size]? = some (.cells (st64 v) 43 (0, 0)) := (hb2.block _ hB0).trans HI.out.h0; obtain ⟨q0, q1, q2, q3, q4, q5, q6, q7⟩ := st64_cells h02; have qf : ∀ j, w2.frozen? ⟨w.heap.size, j, none⟩ = false := fun j => frozen_of_row _ _ j _ _ h02; clear h02)
      all_goals
        have hI2 : InvB64 p w bp kb (blocksTo p 8 128 s t.data.toList (k + 1)) (put64 w2 w.heap.size u) := by
          have := HI.out.step (w2 := w2) ⟨hb2.os, hb2.tape, hb2.output, hb2.size, hb2.block⟩ u
          rw [blocksTo, HV.out, HN.out]
          rw [HU.out, extract_list, show n + 128 - n = 128 from by omega] at this ⊢
          exact this
        have HI2 : Hid _ := hI2
        clear hI2 hb2
        go_wp2_with fail
        have hks : (n : Int) + 128 = (((k + 1) * 128 : Nat) : Int) := by have := HN.out; omega
        have HKS : Hid ((n : Int) + 128 = (((k + 1) * 128 : Nat) : Int)) := hks
        clear hks
        refine ⟨⟨k + 1, by omega, by rw [HKS.out], HI2.out⟩, ?_⟩
        simp [intOf]; omega
    · obtain rfl : k = m := by omega
      have hz : (t.size : Int) = ((k * 128 : Nat) : Int) := by have := HT.out; omega
      have hi := hI.h0
      have hj := hI.h1
      clear hI
      go_wp2_with (first | (refine wpList_load_row rfl 43 (.tmp 4) rfl w.heap.size rfl _ _ _ _ hi Try.underlying43 rfl (st64_info _) ?_) | (refine wpList_store_row rfl 43 (.tmp 6) (.tmp 27) rfl (w.heap.size + 1) _ rfl rfl _ _ hj (st64_info _) rfl (st64_one _) ?_))
      refine bodyPost_ret (v := .agg (st64 v)) (results_cell_row rfl _ _ (w.heap.size + 1) _ _ _ _ rfl (setRow_heap _ _ _ _ _ _ hj) Try.underlying43 rfl (st64_info _)) rfl ⟨?_, below_setRow HI.out.below (Nat.le_succ _) _⟩
      rw [HV.out]
end
end Go.Proofs.Ytfihidnmgaiojaa
