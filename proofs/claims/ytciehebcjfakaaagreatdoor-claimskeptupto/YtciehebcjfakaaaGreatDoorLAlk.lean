import Derived.Test.YtciehebcjfakaaaGreatDoorD1
import Derived.Test.YtciehebcjfakaaaGreatDoorQGrow
namespace Go.Proofs.YtciehebcjfakaaaGreatDoor
open Go.RowKit
set_option linter.unusedVariables false
def AlkAt (x y : Value) (w : World) (p q : Nat) : Prop := ∀ w', Below w.heap.size w w' → Calls Tryz.prog 15 #[x, .int .i64 (p : Int), y, .int .i64 (q : Int)] w' fun r w'' => r = .returned (.bool true) ∧ Below w'.heap.size w' w''
def KAB (w : World) (CA CB : Array Value) (wr : World) : Prop := wr.heap[w.heap.size]? = some (.cells CA 43 (0, 0)) ∧ wr.heap[w.heap.size + 1]? = some (.cells CB 43 (0, 0)) ∧ Below w.heap.size w wr
theorem KAB.below {w wr w' : World} {CA CB : Array Value} (h : KAB w CA CB wr) (hb : Below wr.heap.size wr w') : KAB w CA CB w' := by
 refine ⟨(hb.block _ (Array.getElem?_eq_some_iff.1 h.1).1).trans h.1, (hb.block _ (Array.getElem?_eq_some_iff.1 h.2.1).1).trans h.2.1, h.2.2.trans ⟨hb.os, hb.tape, hb.output, hb.size, fun k hk => hb.block k (by have := h.2.2.size; omega)⟩⟩
theorem KAB.drewN {w wr : World} {CA CB : Array Value} (h : KAB w CA CB wr) (n : Nat) : KAB w CA CB (wr.drewN n) := ⟨by simpa using h.1, by simpa using h.2.1, bdN h.2.2 n⟩
set_option maxRecDepth 4000 in
set_option maxHeartbeats 4000000 in
theorem lalike1 (x y : Value) (L M : List Nd) (w : World) (hx : RR 43 x L w) (hy : RR 43 y M w) (hwL : WFN L) (hwM : WFN M) (i k : Nat) (a b : Nd) (ha : L[i]? = some a) (hb : M[k]? = some b) (hp : Pair L M (AlkAt x y w) a b) :
  Calls Tryz.prog 15 #[x, .int .i64 (i : Int), y, .int .i64 (k : Int)] w fun r w' => r = .returned (.bool true) ∧ Below w.heap.size w w' := by
 have HL : Hid (RR 43 x L w ∧ RR 43 y M w) := ⟨hx, hy⟩
 have HP : Hid (Pair L M (AlkAt x y w) a b) := hp
 have HWL : Hid (WFN L ∧ WFN M) := ⟨hwL, hwM⟩
 have hlL := hwL.len
 have hlM := hwM.len
 have hil : i < L.length := (List.getElem?_eq_some_iff.1 ha).1
 have hkl : k < M.length := (List.getElem?_eq_some_iff.1 hb).1
 have hfa := hwL.few i a ha
 have hka := hwL.kids i a ha
 have hkb := hwM.kids k b hb
 obtain ⟨g1, ka, e1, ia, _, a0, a1, a2, a3, a4, a5⟩ := hx.at' i a ha
 obtain ⟨g2, kb, e2, ib, _, b0, b1, b2, b3, b4, b5⟩ := hy.at' k b hb
 obtain ⟨ad1, cap1, rfl⟩ := hx.shape
 obtain ⟨ad2, cap2, rfl⟩ := hy.shape
 obtain rfl : ad1 = some ⟨g1, 0, none⟩ := by injection e1
 obtain rfl : ad2 = some ⟨g2, 0, none⟩ := by injection e2
 have hg1 : g1 < w.heap.size := World.block_lt_of_cell? w _ a0
 have hg2 : g2 < w.heap.size := World.block_lt_of_cell? w _ b0
 rw [hp.kind] at b0
 rw [hp.key] at b1
 rw [hp.text] at b2
 rw [hp.num] at b3
 have IA : Hid (IR w ka a.kids) := ia
 have IB : Hid (IR w kb b.kids) := ib
 obtain ⟨ada, capa, rfl, _⟩ := ia
 obtain ⟨adb, capb, rfl, _⟩ := ib
 rw [hp.len] at b4
 have hil' : (i : Int) < (L.length : Int) := by omega
 have hkl' : (k : Int) < (M.length : Int) := by omega
 have HKA : Hid ((∀ c ∈ a.kids, i < c ∧ c < L.length) ∧ (∀ c ∈ b.kids, k < c ∧ c < M.length)) := ⟨hka, hkb⟩
 clear hx hy hp hwL hwM ha hb e1 e2 hka hkb
 go_enter Tryz.func15, Tryz.ntmps15
 go_wp2_with fail
 generalize hCA : #[Value.int .i64 (a.kind : Int), .string ⟨a.key.toArray⟩, .string ⟨a.text.toArray⟩, .int .i64 a.num, .slice ada a.kids.length capa, .int .i64 (a.at' : Int)] = CA
 generalize hCB : #[Value.int .i64 (a.kind : Int), .string ⟨a.key.toArray⟩, .string ⟨a.text.toArray⟩, .int .i64 a.num, .slice adb a.kids.length capb, .int .i64 (b.at' : Int)] = CB
 have hK0 : KAB w CA CB ((w.alloc (.cells CA 43)).alloc (.cells CB 43)) := by
  refine ⟨by rw [heap_alloc_old _ _ (by simp), heap_alloc_new], ?_, bal (bal (brf w) _) _⟩
  have := heap_alloc_new (w.alloc (.cells CA 43)) (.cells CB 43)
  simpa using this
 go_loopw [11] (fun xv wr => ∃ j : Nat, j ≤ a.kids.length ∧ xv = .int .i64 (j : Int) ∧ KAB w CA CB wr) (fun xv _ => a.kids.length - (intOf xv).toNat)
 case atStart => exact ⟨0, by omega, rfl, hK0⟩
 case round =>
  clear hK0
  obtain ⟨j, hj, rfl, hK⟩ := hrel
  have p0 : wr.cell? ⟨w.heap.size, 0, none⟩ = some (.int .i64 (a.kind : Int)) := by rw [cell_of_row wr _ 0 _ _ _ hK.1, ← hCA]; rfl
  have p4 : wr.cell? ⟨w.heap.size, 4, none⟩ = some (.slice ada a.kids.length capa) := by rw [cell_of_row wr _ 4 _ _ _ hK.1, ← hCA]; rfl
  have q4 : wr.cell? ⟨w.heap.size + 1, 4, none⟩ = some (.slice adb a.kids.length capb) := by rw [cell_of_row wr _ 4 _ _ _ hK.2.1, ← hCB]; rfl
  have HK : Hid (KAB w CA CB wr) := hK
  clear hK
  by_cases hlt : j < a.kids.length
  ·have k1 : (j : Int) < (a.kids.length : Int) := by omega
   have hjb : (j : Int) ≤ 1000000 := by omega
   obtain ⟨p, hp⟩ : ∃ p, a.kids[j]? = some p := ⟨_, List.getElem?_eq_getElem hlt⟩
   obtain ⟨y0, q, hq, hR, hn5, h5⟩ := HP.out.kid j p hp
   have hy0 : y0 < a.kids.length := by have := (List.getElem?_eq_some_iff.1 hq).1; rw [HP.out.len] at this; exact this
   have ky : (y0 : Int) < (a.kids.length : Int) := by omega
   obtain ⟨ga, rfl, cA⟩ : ∃ ga, ada = some ⟨ga, 0, none⟩ ∧ w.cell? ⟨ga, j, none⟩ = some (.int .i64 (p : Int)) := by
    obtain ⟨ad, cap, e, c⟩ := IA.out
    injection e with e _ _
    rw [e]; exact c j p hp
   obtain ⟨gb, rfl⟩ : ∃ gb, adb = some ⟨gb, 0, none⟩ := by
    obtain ⟨ad, cap, e, c⟩ := IB.out
    injection e with e _ _
    obtain ⟨gb, h, _⟩ := c y0 q hq
    exact ⟨gb, e.trans h⟩
   have cB : ∀ z q' : Nat, b.kids[z]? = some q' → w.cell? ⟨gb, z, none⟩ = some (.int .i64 (q' : Int)) := fun z q' hz => by
    obtain ⟨ad, cap, e, c⟩ := IB.out
    injection e with e _ _
    obtain ⟨gb', h, h'⟩ := c z q' hz
    have := e.trans h
    injection this with this; injection this with this _ _
    rw [this]; exact h'
   have hpb := HKA.out.1 p (List.mem_of_getElem? hp)
   have hqb := HKA.out.2 q (List.mem_of_getElem? hq)
   have dA : wr.cell? ⟨ga, j, none⟩ = some (.int .i64 (p : Int)) := cell_kp HK.out.2.2 cA
   have dB : wr.cell? ⟨gb, y0, none⟩ = some (.int .i64 (q : Int)) := cell_kp HK.out.2.2 (cB y0 q hq)
   have hy9 : ¬ (a.kids.length : Int) ≤ (y0 : Int) := by omega
   by_cases hk5 : a.kind = 5
   ·have k5 : ((a.kind : Int) == 5) = true := by simp [hk5]
    obtain ⟨hkey, hother⟩ := h5 hk5
    clear hn5 h5
    have hnp : p < L.length := hpb.2
    obtain ⟨np, hnp⟩ : ∃ np, L[p]? = some np := ⟨_, List.getElem?_eq_getElem hpb.2⟩
    have hcall := hR
    have kL : ∀ w', Below w.heap.size w w' → w'.cell? ⟨g1, p * 6 + 1, none⟩ = some (.string ⟨np.key.toArray⟩) := fun w' hb' => by
     obtain ⟨g', kv', e', _, _, _, z1, _⟩ := HL.out.1.at' p np hnp
     have : g1 = g' := by injection e' with e _ _; injection e with e; injection e with e _ _
     rw [this]; exact cell_kp hb' z1
    have kM : ∀ z q', b.kids[z]? = some q' → ∃ nq, M[q']? = some nq ∧ ∀ w', Below w.heap.size w w' → w'.cell? ⟨g2, q' * 6 + 1, none⟩ = some (.string ⟨nq.key.toArray⟩) := fun z q' hz => by
     have hqb' := HKA.out.2 q' (List.mem_of_getElem? hz)
     obtain ⟨nq, hnq⟩ : ∃ nq, M[q']? = some nq := ⟨_, List.getElem?_eq_getElem hqb'.2⟩
     refine ⟨nq, hnq, fun w' hb' => ?_⟩
     obtain ⟨g', kv', e', _, _, _, z1, _⟩ := HL.out.2.at' q' nq hnq
     have : g2 = g' := by injection e' with e _ _; injection e with e; injection e with e _ _
     rw [this]; exact cell_kp hb' z1
    have HH : Hid ((∀ y' q' : Nat, y' < y0 → b.kids[y']? = some q' → keyL M q' ≠ keyL L p) ∧ keyL M q = keyL L p ∧ b.kids[y0]? = some q ∧ L[p]? = some np ∧ (∀ w', Below w.heap.size w w' → w'.cell? ⟨g1, p * 6 + 1, none⟩ = some (.string ⟨np.key.toArray⟩)) ∧ (∀ z q', b.kids[z]? = some q' → ∃ nq, M[q']? = some nq ∧ ∀ w', Below w.heap.size w w' → w'.cell? ⟨g2, q' * 6 + 1, none⟩ = some (.string ⟨nq.key.toArray⟩)) ∧ (∀ z q' : Nat, b.kids[z]? = some q' → w.cell? ⟨gb, z, none⟩ = some (.int .i64 (q' : Int)))) := ⟨hother, hkey, hq, hnp, kL, kM, cB⟩
    have CA' : Hid (w.cell? ⟨ga, j, none⟩ = some (.int .i64 (p : Int))) := cA
    have HR : Hid (AlkAt (.slice (some ⟨g1, 0, none⟩) L.length cap1) (.slice (some ⟨g2, 0, none⟩) M.length cap2) w p q) := hR
    clear hother hkey hq hnp kL kM cB cA hcall dA dB hR hp
    go_wp2_with fail
    clear p0 p4 q4
    go_loopw [12] (fun yv wx => ∃ z : Nat, z ≤ y0 ∧ yv = .int .i64 (z : Int) ∧ KAB w CA CB wx) (fun yv _ => y0 - (intOf yv).toNat)
    case atStart => exact ⟨0, by omega, rfl, HK.out⟩
    case round =>
     clear HK
     obtain ⟨z, hz, rfl, hK⟩ := hrel
     have p0 : wr.cell? ⟨w.heap.size, 0, none⟩ = some (.int .i64 (a.kind : Int)) := by rw [cell_of_row wr _ 0 _ _ _ hK.1, ← hCA]; rfl
     have p4 : wr.cell? ⟨w.heap.size, 4, none⟩ = some (.slice (some ⟨ga, 0, none⟩) a.kids.length capa) := by rw [cell_of_row wr _ 4 _ _ _ hK.1, ← hCA]; rfl
     have q4 : wr.cell? ⟨w.heap.size + 1, 4, none⟩ = some (.slice (some ⟨gb, 0, none⟩) a.kids.length capb) := by rw [cell_of_row wr _ 4 _ _ _ hK.2.1, ← hCB]; rfl
     have dA : wr.cell? ⟨ga, j, none⟩ = some (.int .i64 (p : Int)) := cell_kp hK.2.2 CA'.out
     have c1 := HH.out.2.2.2.2.1 wr hK.2.2
     by_cases hzl : z < y0
     ·have hzk : z < b.kids.length := by rw [HP.out.len]; omega
      obtain ⟨q', hq'⟩ : ∃ q', b.kids[z]? = some q' := ⟨_, List.getElem?_eq_getElem hzk⟩
      have dZ : wr.cell? ⟨gb, z, none⟩ = some (.int .i64 (q' : Int)) := cell_kp hK.2.2 (HH.out.2.2.2.2.2.2 z q' hq')
      obtain ⟨mq, hmq, c2'⟩ := HH.out.2.2.2.2.2.1 z q' hq'
      have c2 := c2' wr hK.2.2
      have hqb' := HKA.out.2 q' (List.mem_of_getElem? hq')
      have hdiff : (mq.key == np.key) = false := by
       have := HH.out.1 z q' hzl hq'
       rw [keyL_of hmq, keyL_of HH.out.2.2.2.1] at this
       simp [this]
      have k3 : (z : Int) < (a.kids.length : Int) := by omega
      have hzb : (z : Int) ≤ 1000000 := by omega
      have k4 : (q' : Int) < (M.length : Int) := by omega
      have k5' : (p : Int) < (L.length : Int) := by omega
      have k6 : (p : Int) ≤ 1000000 := by omega
      have k7 : (q' : Int) ≤ 1000000 := by omega
      have HK : Hid (KAB w CA CB wr) := hK
      clear hK c2' hmq hq'
      go_wp2_with fail
      go_quiet (fail)
      go_wp2_with fail
      go_roundw
      case rel => exact ⟨z + 1, by omega, by go_num, HK.out.drewN nq⟩
      case measure => simp [intOf]; omega
     ·obtain rfl : z = y0 := by omega
      have dB : wr.cell? ⟨gb, z, none⟩ = some (.int .i64 (q : Int)) := cell_kp hK.2.2 (HH.out.2.2.2.2.2.2 z q HH.out.2.2.1)
      obtain ⟨mq, hmq, c2'⟩ := HH.out.2.2.2.2.2.1 z q HH.out.2.2.1
      have c2 := c2' wr hK.2.2
      have hsame : (mq.key == np.key) = true := by
       have := HH.out.2.1
       rw [keyL_of hmq, keyL_of HH.out.2.2.2.1] at this
       simp [this]
      have k3 : (z : Int) < (a.kids.length : Int) := by omega
      have hzb : (z : Int) ≤ 1000000 := by omega
      have k4 : (q : Int) < (M.length : Int) := by omega
      have k5' : (p : Int) < (L.length : Int) := by omega
      have k6 : (p : Int) ≤ 1000000 := by omega
      have k7 : (q : Int) ≤ 1000000 := by omega
      have HK : Hid (KAB w CA CB wr) := hK
      clear hK c2' hmq
      go_wp2_with fail
      go_quiet (fail)
      have hcall := HR.out (wr.drewN nq).drew (by have := ((HK.out.drewN nq).drewN 1).2.2; exact this)
      have HK2 : Hid (KAB w CA CB (wr.drewN nq)) := HK.out.drewN nq
      clear HK
      go_wp2_with fail
      go_region_with (go_at_call 15; refine hcall.mono ?_; rintro e w3 ⟨rfl, hb3⟩; have HK3 : Hid (KAB w CA CB w3) := (HK2.out.drewN 1).below hb3; clear hb3)
      all_goals go_wp2_with fail
      all_goals have hk6 : ((a.kind : Nat) : Int) = 5 := by omega
      all_goals rw [hk6]
      all_goals refine ⟨?_, by show a.kids.length - (intOf (.int .i64 ((j : Int) + 1))).toNat < a.kids.length - (intOf (.int .i64 (j : Int))).toNat; simp only [intOf]; omega⟩
      all_goals (repeat apply Exists.intro)
      all_goals refine ⟨?_, rfl⟩
      all_goals exact ⟨j + 1, by omega, by go_num, HK3.out⟩
   ·have k5 : ((a.kind : Int) == 5) = false := by simp; omega
    obtain rfl := hn5 hk5
    clear h5 cA cB
    have hcall := hR wr.drew (by have := (HK.out.drewN 1).2.2; exact this)
    go_wp2_with fail
    go_region_with (go_at_call 15; refine hcall.mono ?_; rintro e w3 ⟨rfl, hb3⟩; have HK3 : Hid (KAB w CA CB w3) := (HK.out.drewN 1).below hb3; clear hb3)
    all_goals go_wp2_with fail
    all_goals exact ⟨⟨y0 + 1, by omega, by go_num, HK3.out⟩, by simp only [intOf]; omega⟩
  ·have k1 : ¬ (j : Int) < (a.kids.length : Int) := by omega
   go_wp2
   go_ret
   exact ⟨rfl, HK.out.2.2⟩
end Go.Proofs.YtciehebcjfakaaaGreatDoor
