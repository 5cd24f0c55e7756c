import Derived.Test.YtciehebcjfakaaaGreatDoorD1
import Derived.Test.YtciehebcjfakaaaGreatDoorQGrow
namespace Go.Proofs.YtciehebcjfakaaaGreatDoor
open Go.RowKit
set_option linter.unusedVariables false
theorem made_ints (n : Nat) : madeCells (Value.int .i64 0).cells (n * 1) = (upR [] n).toArray := by
 apply Array.ext'
 rw [Nat.mul_one]
 have := toList_madeCells_one (.int .i64 0) n
 rw [show (Value.int .i64 0).cells = #[.int .i64 0] from rfl, this, upR_nil]
set_option maxRecDepth 4000 in
set_option maxHeartbeats 2000000 in
theorem lgrown (x : Value) (ns : List Nd) (w : World) (hx : RR 43 x ns w) (hw : WFN ns) (h0 : 0 < ns.length) (hc : ∀ c, (allK ns).count c = if 0 < c ∧ c < ns.length then 1 else 0) :
  Calls Tryz.prog 14 #[x] w fun r w' => r = .returned (.bool true) ∧ Below w.heap.size w w' := by
 obtain ⟨i0, hi, hz0, hz1, hz2⟩ := info_parts intinfo
 have hlen := hw.len
 have hmk : ∀ W : World, (Instr.makeSlice 41 (.int .i64 (ns.length : Int)) (.int .i64 (ns.length : Int))).run Tryz.prog W = .ok (.slice (some ⟨W.heap.size, 0, none⟩) ns.length ns.length) (W.alloc (.cells (upR [] ns.length).toArray 3)) := fun W => by
  have := run_make (P := Tryz.prog) W 41 3 i0 (.int .i64 0) Tryz.underlying41 hi hz0 .i64 .i64 (ns.length : Int) (ns.length : Int) (by omega) (by omega) (by rw [hz2]; omega) (by omega)
  rw [hz1, Int.toNat_natCast, made_ints] at this
  exact this
 clear hi hz0 hz1 hz2
 have hne : ((ns.length : Int) == 0) = false := by
  have : ns ≠ [] := fun e => by rw [e] at h0; simp at h0
  simp [this]
 have HX : Hid (RR 43 x ns w) := hx
 have HC : Hid (∀ c, (allK ns).count c = if 0 < c ∧ c < ns.length then 1 else 0) := hc
 have HW : Hid (WFN ns) := hw
 obtain ⟨ad, cap, rfl⟩ := hx.shape
 clear hx hc hw
 go_enter Tryz.func14, Tryz.ntmps14
 go_wp2_with fail
 go_loopw [4] (fun iv wr => ∃ i : Nat, i ≤ ns.length ∧ iv = .int .i64 (i : Int) ∧ wr.heap[w.heap.size]? = some (.cells (upR (allK (ns.take i)) ns.length).toArray 3 (0, 0)) ∧ Below w.heap.size w wr) (fun iv _ => ns.length - (intOf iv).toNat)
 case atStart => exact ⟨0, by omega, rfl, by rw [heap_alloc_new]; rfl, bal (brf _) _⟩
 case round =>
  obtain ⟨i, hi, rfl, hg, hb⟩ := hrel
  by_cases hin : i < ns.length
  ·have k1 : (i : Int) < (ns.length : Int) := by omega
   have hib : (i : Int) ≤ 1000000 := by omega
   obtain ⟨n, hn⟩ : ∃ n, ns[i]? = some n := ⟨_, List.getElem?_eq_getElem hin⟩
   obtain ⟨g, kv, e1, ia, hkl, _, _, _, _, a4, _⟩ := HX.out.at' i n hn
   obtain rfl : ad = some ⟨g, 0, none⟩ := by injection e1
   obtain ⟨adk, capk, rfl, cc⟩ := ia
   have A4 : Hid (w.cell? ⟨g, i * 6 + 4, none⟩ = some (.slice adk n.kids.length capk)) := a4
   have CC : Hid (∀ j k : Nat, n.kids[j]? = some k → ∃ g, adk = some ⟨g, 0, none⟩ ∧ w.cell? ⟨g, j, none⟩ = some (.int .i64 (k : Int))) := cc
   clear a4 cc
   have HN : Hid (ns[i]? = some n) := hn
   have HG : Hid (wr.heap[w.heap.size]? = some (.cells (upR (allK (ns.take i)) ns.length).toArray 3 (0, 0)) ∧ Below w.heap.size w wr) := ⟨hg, hb⟩
   have hkn := HW.out.few i n hn
   clear hn hg hb e1
   go_wp2_with fail
   go_loopw [5] (fun kk wx => ∃ k : Nat, k ≤ n.kids.length ∧ kk = .int .i64 (k : Int) ∧ wx.heap[w.heap.size]? = some (.cells (upR (allK (ns.take i) ++ n.kids.take k) ns.length).toArray 3 (0, 0)) ∧ Below w.heap.size w wx) (fun kk _ => n.kids.length - (intOf kk).toNat)
   case atStart => exact ⟨0, by omega, rfl, by rw [List.take_zero, List.append_nil]; exact HG.out.1, HG.out.2⟩
   case round =>
    clear HG
    obtain ⟨k, hk, rfl, hg, hb⟩ := hrel
    have a4 : wr.cell? ⟨g, i * 6 + 4, none⟩ = some (.slice adk n.kids.length capk) := cell_kp hb A4.out
    by_cases hkk : k < n.kids.length
    ·have k2 : (k : Int) < (n.kids.length : Int) := by omega
     have hkb : (k : Int) ≤ 1000000 := by omega
     obtain ⟨c, hcc⟩ : ∃ c, n.kids[k]? = some c := ⟨_, List.getElem?_eq_getElem hkk⟩
     obtain ⟨gk, rfl, d0w⟩ := CC.out k c hcc
     have d0 : wr.cell? ⟨gk, k, none⟩ = some (.int .i64 (c : Int)) := cell_kp hb d0w
     clear d0w
     obtain ⟨b1, b2⟩ := HW.out.kids i n HN.out c (List.mem_of_getElem? hcc)
     have hcl : (c : Int) < (ns.length : Int) := by omega
     have k3 : ¬ (c : Int) ≤ (i : Int) := by omega
     have k4 : ¬ (ns.length : Int) ≤ (c : Int) := by omega
     have hcnt := pre_le ns i k n HN.out c
     have hc1 := HC.out c
     rw [if_pos (by omega)] at hc1
     have u0 : wr.cell? ⟨w.heap.size, c, none⟩ = some (.int .i64 ((allK (ns.take i) ++ n.kids.take k).count c : Int)) := by rw [cell_of_row _ _ _ _ _ _ hg]; exact upR_get _ _ _ b2
     have uf : wr.frozen? ⟨w.heap.size, c, none⟩ = false := frozen_of_row _ _ _ _ _ hg
     have hq : ((allK (ns.take i) ++ n.kids.take k).count c : Int) ≤ 1 := by omega
     have hset : (wr.setCell ⟨w.heap.size, c, none⟩ (.int .i64 (((allK (ns.take i) ++ n.kids.take k).count c : Int) + 1))).heap[w.heap.size]? = some (.cells (upR (allK (ns.take i) ++ n.kids.take (k + 1)) ns.length).toArray 3 (0, 0)) := by
      rw [heap_setCell_same _ _ _ _ _ _ hg, upR_set _ _ _ b2, List.take_add_one, hcc, ← List.append_assoc]; rfl
     have HS : Hid ((wr.setCell ⟨w.heap.size, c, none⟩ (.int .i64 (((allK (ns.take i) ++ n.kids.take k).count c : Int) + 1))).heap[w.heap.size]? = some (.cells (upR (allK (ns.take i) ++ n.kids.take (k + 1)) ns.length).toArray 3 (0, 0)) ∧ Below w.heap.size w (wr.setCell ⟨w.heap.size, c, none⟩ (.int .i64 (((allK (ns.take i) ++ n.kids.take k).count c : Int) + 1)))) := ⟨hset, hb.setCell (Nat.le_refl _) _⟩
     have hq0 : (0 : Int) ≤ ((allK (ns.take i) ++ n.kids.take k).count c : Int) := by omega
     clear hg hb hset hcnt hc1 hcc
     generalize ((allK (ns.take i) ++ n.kids.take k).count c : Int) = q at *
     go_wp2_with fail
     go_roundw
     case rel => exact ⟨k + 1, by omega, by go_num, HS.out⟩
     case measure => simp [intOf]; omega
    ·have k2 : ¬ (k : Int) < (n.kids.length : Int) := by omega
     obtain rfl : k = n.kids.length := by omega
     have HR : Hid (wr.heap[w.heap.size]? = some (.cells (upR (allK (ns.take (i + 1))) ns.length).toArray 3 (0, 0)) ∧ Below w.heap.size w wr) := ⟨by rw [hg, List.take_length, take_kids ns i n HN.out], hb⟩
     clear hg hb
     go_wp2_with fail
     refine ⟨⟨i + 1, by omega, by rw [show ((i + 1 : Nat) : Int) = (i : Int) + 1 by omega], HR.out⟩, ?_⟩
     simp only [intOf]; omega
  ·have k1 : ¬ (i : Int) < (ns.length : Int) := by omega
   rw [List.take_of_length_le (by omega)] at hg
   have HR : Hid (wr.heap[w.heap.size]? = some (.cells (upR (allK ns) ns.length).toArray 3 (0, 0)) ∧ Below w.heap.size w wr) := ⟨hg, hb⟩
   clear hg hb hi
   go_wp2_with fail
   go_loopw [7] (fun iv wx => ∃ i : Nat, 1 ≤ i ∧ i ≤ ns.length ∧ iv = .int .i64 (i : Int) ∧ wx = wr) (fun iv _ => ns.length - (intOf iv).toNat)
   case atStart => exact ⟨1, by omega, by omega, rfl, rfl⟩
   case round =>
    obtain ⟨j, hj0, hj, rfl, rfl⟩ := hrel
    by_cases hin : j < ns.length
    ·have k3 : (j : Int) < (ns.length : Int) := by omega
     have hjb : (j : Int) ≤ 1000000 := by omega
     have u0 : wr.cell? ⟨w.heap.size, j, none⟩ = some (.int .i64 1) := by
      rw [cell_of_row _ _ _ _ _ _ HR.out.1, upR_get _ _ _ hin, HC.out j, if_pos (by omega)]; rfl
     go_wp2_with fail
     go_roundw
     case rel => exact ⟨j + 1, by omega, by omega, by go_num, trivial⟩
     case measure => simp [intOf]; omega
    ·have k3 : ¬ (j : Int) < (ns.length : Int) := by omega
     have u0 : wr.cell? ⟨w.heap.size, 0, none⟩ = some (.int .i64 0) := by
      rw [cell_of_row _ _ _ _ _ _ HR.out.1, upR_get _ _ _ h0, HC.out 0, if_neg (by omega)]; rfl
     go_wp2
     go_ret
     exact ⟨rfl, HR.out.2⟩
end Go.Proofs.YtciehebcjfakaaaGreatDoor
