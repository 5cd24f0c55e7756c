import Derived.Test.YtaghclgookfmnaaDoorJNode
import Derived.Deep.RegionLaw
/-
  The document's reader: add.
-/
namespace Go.Proofs.YtaghclgookfmnaaDoor
open Go.RowKit
set_option linter.unusedVariables false

theorem ownsRow_shape {w : World} {B sz n : Nat} {e : TypeId} {v : Value} {xs : List Value} (h : w.ownsRow B e sz v (n + 1) xs) : ∃ g cap, v = .slice (some ⟨g, 0, none⟩) (n + 1) cap := by
  rcases h.2 with ⟨_, h⟩ | ⟨g, cap, cur, hv, _⟩
  · omega
  · exact ⟨g, cap, hv⟩
theorem keepers {wb w6 : World} {o : Obj} {row : Option Nat} (hg : ((wb.alloc o).drew).grownBy w6 row) {k : Nat} (hk : k < wb.heap.size) (hne : some k ≠ row) :
    w6.heap[k]? = wb.heap[k]? ∧ (∀ j, w6.cell? ⟨k, j, none⟩ = wb.cell? ⟨k, j, none⟩) ∧ (∀ j, w6.frozen? ⟨k, j, none⟩ = wb.frozen? ⟨k, j, none⟩) := by
  have e : w6.heap[k]? = wb.heap[k]? := (hg.block k (by show k < (wb.alloc o).heap.size; simp; omega) hne).trans (heap_alloc_old _ _ hk)
  exact ⟨e, fun j => World.cell?_of_block (a := ⟨k, j, none⟩) e, fun j => World.frozen?_of_block (a := ⟨k, j, none⟩) e⟩

set_option maxRecDepth 4000 in
set_option maxHeartbeats 1000000 in
theorem radd0 (bp : Nat) (s : ByteArray) (i : Nat) (ad : Option Addr) (cap : Nat) (er at0 dp : Nat) (ns : List Nd) (nd : Nd) (w : World) (h : RD bp s i (.slice ad ns.length cap) er at0 dp w)
    (hN : Nodes (bp + 1) 49 (.slice ad ns.length cap) ns w) (hk : nd.kids = []) (hl : ns.length ≤ 900000000) :
    Calls Tryd.prog 21 #[.pointer (some ⟨bp, 0, none⟩), .int .i64 (-1), ndV nd] w fun r w' => r = .returned (.int .i64 (ns.length : Int)) ∧ (∃ v', RD bp s i v' er at0 dp w' ∧ Nodes (bp + 1) 49 v' (ns ++ [nd]) w') ∧ Below bp w w' := by
  obtain ⟨i0, hi0, hz0, hz1, hz2⟩ := info_parts ndinfo
  have HI : Hid _ := hi0
  obtain ⟨kvs, k1, k2, k3, k4⟩ := hN
  have hlt := h.lt
  have hW : RD bp s i (.slice ad ns.length cap) er at0 dp (w.alloc (.cells #[.int .i64 (nd.kind : Int), .string ⟨nd.key.toArray⟩, .string ⟨nd.text.toArray⟩, .int .i64 nd.num, .slice none 0 0, .int .i64 (nd.at' : Int)] 49)) := h.alloc _
  obtain ⟨c0, c1, c2, c3, c4, c5, cf⟩ := hW.cell
  have f2 := cf 2
  have HK1 : Hid _ := k1
  have HK2 : Hid (w.ownsRow (bp + 1) 49 6 (.slice ad ns.length cap) ns.length (rowN ns kvs)) := k2
  have HK3 : Hid (∀ (k : Nat) (n : Nd) (kv : Value), ns[k]? = some n → kvs[k]? = some kv → w.ownsRow (bp + 1) 3 1 kv n.kids.length (n.kids.map iV)) := k3
  have HK4 : Hid _ := k4
  clear hi0 k1 k2 k3 k4
  unfold ndV
  go_enter Tryd.func21, Tryd.ntmps21
  go_wp2_with fail
  have hbx : ∀ k u, [Value.int .i64 (nd.kind : Int), .string ⟨nd.key.toArray⟩, .string ⟨nd.text.toArray⟩, .int .i64 nd.num, .slice none 0 0, .int .i64 (nd.at' : Int)][k]? = some u → (w.alloc (.cells #[.int .i64 (nd.kind : Int), .string ⟨nd.key.toArray⟩, .string ⟨nd.text.toArray⟩, .int .i64 nd.num, .slice none 0 0, .int .i64 (nd.at' : Int)] 49)).cell? ⟨w.heap.size, k, none⟩ = some u := by
    intro k u hu
    rw [cell_of_row _ _ k _ _ _ (heap_alloc_new w _)]
    simpa using hu
  have b0 := hbx 0 _ rfl
  have b1 := hbx 1 _ rfl
  have b2 := hbx 2 _ rfl
  have b3 := hbx 3 _ rfl
  have b4 := hbx 4 _ rfl
  have b5 := hbx 5 _ rfl
  have hbB : Below w.heap.size w (w.alloc (.cells #[.int .i64 (nd.kind : Int), .string ⟨nd.key.toArray⟩, .string ⟨nd.text.toArray⟩, .int .i64 nd.num, .slice none 0 0, .int .i64 (nd.at' : Int)] 49)) := bal (brf w) _
  have hsz : (w.alloc (.cells #[.int .i64 (nd.kind : Int), .string ⟨nd.key.toArray⟩, .string ⟨nd.text.toArray⟩, .int .i64 nd.num, .slice none 0 0, .int .i64 (nd.at' : Int)] 49)).heap.size = w.heap.size + 1 := by simp
  clear hbx
  generalize w.alloc (.cells #[.int .i64 (nd.kind : Int), .string ⟨nd.key.toArray⟩, .string ⟨nd.text.toArray⟩, .int .i64 nd.num, .slice none 0 0, .int .i64 (nd.at' : Int)] 49) = wb at *
  have HBB : Hid (Below w.heap.size w wb) := hbB
  have HSZ : Hid (wb.heap.size = w.heap.size + 1) := hsz
  have HW : Hid (RD bp s i (.slice ad ns.length cap) er at0 dp wb) := hW
  have HKb : Hid (wb.ownsRow (bp + 1) 49 6 (.slice ad ns.length cap) ns.length (rowN ns kvs)) := ownsRow_sub HK2.out (fun g _ hg => hbB.block g hg)
  clear hbB hsz hW c0 c1 c3 c4 c5 cf
  have hltb : bp < wb.heap.size := HW.out.lt
  have hfz1 : ∀ o : Obj, (wb.alloc o).frozen? ⟨bp, 2, none⟩ = false := fun o => (HW.out.alloc o).cell.2.2.2.2.2.2 2
  have hfz2 : ∀ o : Obj, (wb.alloc o).drew.frozen? ⟨bp, 2, none⟩ = false := fun o => (HW.out.alloc o).cell.2.2.2.2.2.2 2
  have HOw : Hid (∀ o, ((wb.alloc o).drew).ownsRow (bp + 1) 49 6 (.slice ad ns.length cap) ns.length (rowN ns kvs)) := fun o => HKb.out.alloc o
  have HBs : Hid (∀ o, bp + 1 ≤ ((wb.alloc o).drew).heap.size) := fun o => by show _ ≤ (wb.alloc o).heap.size; simp; omega
  have HOne : Hid (∀ j u, (ndCells nd (.slice none 0 0))[j]? = some u → ((wb.alloc (.cells #[.int .i64 (nd.kind : Int), .string ⟨nd.key.toArray⟩, .string ⟨nd.text.toArray⟩, .int .i64 nd.num, .slice none 0 0, .int .i64 (nd.at' : Int)] 49)).drew).cell? ((⟨wb.heap.size, 0, none⟩ : Addr).add j) = some u) := by
    intro j u hu
    have hadd : (⟨wb.heap.size, 0, none⟩ : Addr).add j = ⟨wb.heap.size, j, none⟩ := by unfold Addr.add; split <;> simp_all
    rw [hadd]
    show (wb.alloc _).cell? _ = _
    rw [cell_of_row _ _ j _ _ _ (heap_alloc_new wb _)]
    simpa [ndCells] using hu
  have HL : Hid (ns.length + 1 ≤ 1000000000) := by show ns.length + 1 ≤ 1000000000; omega
  have HLB : Hid (∀ g c, (Value.slice ad ns.length cap).ownBlock = some g → g = c → bp + 1 ≤ c ∧ c < w.heap.size) := by
    intro g c hg hc
    subst hc
    rcases HK2.out.2 with ⟨e, _⟩ | ⟨g', cap', cur, e, hb, hh, _⟩
    · rw [e] at hg; simp [Value.ownBlock] at hg
    · rw [e] at hg; simp [Value.ownBlock] at hg; subst hg; exact ⟨hb, (Array.getElem?_eq_some_iff.1 hh).1⟩
  have HNE : Hid (some bp ≠ (Value.slice ad ns.length cap).ownBlock ∧ some w.heap.size ≠ (Value.slice ad ns.length cap).ownBlock ∧ w.heap.size < wb.heap.size) := by
    refine ⟨fun e => ?_, fun e => ?_, by have := HSZ.out; omega⟩
    · have := HLB.out bp bp e.symm rfl; omega
    · have := HLB.out w.heap.size _ e.symm rfl; omega
  have HS : Hid (∀ o k, ((wb.alloc o).drew).cell? ⟨bp, k, none⟩ = wb.cell? ⟨bp, k, none⟩) := fun o k => World.cell?_alloc_lt _ _ _ hltb
  have hal2 : ∀ o : Obj, (wb.alloc o).cell? ⟨bp, 2, none⟩ = some (.slice ad ns.length cap) := fun o => (World.cell?_alloc_lt _ _ _ hltb).trans c2
  go_region_law ((refine stepN rfl (.tmp 17) (.tmp 19) 26 rfl 49 i0 _ 6 80 Tryd.underlying26 HI.out hz0 hz1 hz2 rfl (by decide) (bp + 1) _ ns.length (rowN ns kvs) (ndCells nd (.slice none 0 0)) ⟨wb.heap.size, 0, none⟩ rfl rfl rfl (by intro u hu; simp [ndCells] at hu; rcases hu with rfl | rfl | rfl | rfl | rfl | rfl <;> rfl) HL.out (by omega) (by exact HOw.out _) (by exact HBs.out _) (by exact HOne.out) ?_; intro v6 w6 ho6 hg6; obtain ⟨g6, cap6, rfl⟩ := ownsRow_shape ho6; have kA := keepers hg6 hltb HNE.out.1; have kB := keepers hg6 HNE.out.2.2 HNE.out.2.1; have s2 := (kA.2.1 2).trans c2; have s2f := (kA.2.2 2).trans f2; have t0 := (kB.2.1 0).trans b0; have t1 := (kB.2.1 1).trans b1; have t2 := (kB.2.1 2).trans b2; have t3 := (kB.2.1 3).trans b3; have t4 := (kB.2.1 4).trans b4; have t5 := (kB.2.1 5).trans b5; have HR6 : Hid (RD bp s i (.slice ad ns.length cap) er at0 dp w6) := kA.1.trans HW.out; clear kA kB; have W6 : Hid _ := ho6; have G6 : Hid _ := hg6; clear ho6 hg6))
  all_goals
    have h7 := HR6.out.setL (.slice (some ⟨g6, 0, none⟩) (ns.length + 1) cap6)
    have o7 : Onl bp w6 (w6.setCell ⟨bp, 2, none⟩ (.slice (some ⟨g6, 0, none⟩) (ns.length + 1) cap6)) := Onl.setCell (onl_refl bp w6) _ HR6.out
    have hkp : ∀ g, g < w.heap.size → some g ≠ (Value.slice ad ns.length cap).ownBlock → w6.heap[g]? = w.heap[g]? := fun g hg hne => (keepers G6.out (by have := HSZ.out; omega) hne).1.trans (HBB.out.block g hg)
    have hN7 : Nodes (bp + 1) 49 (.slice (some ⟨g6, 0, none⟩) (ns.length + 1) cap6) (ns ++ [nd]) (w6.setCell ⟨bp, 2, none⟩ (.slice (some ⟨g6, 0, none⟩) (ns.length + 1) cap6)) :=
      (Nodes.push HK1.out HK2.out HK3.out HK4.out W6.out hkp (by decide) hk).onl o7 (by omega)
    have hbl : Below bp w (w6.setCell ⟨bp, 2, none⟩ (.slice (some ⟨g6, 0, none⟩) (ns.length + 1) cap6)) := by
      refine ⟨o7.os.trans (G6.out.os.trans HBB.out.os), o7.tape.trans (G6.out.tape.trans HBB.out.tape), o7.output.trans (G6.out.output.trans HBB.out.output), ?_, ?_⟩
      · have a1 := o7.size
        have a2 : (wb.alloc _).heap.size ≤ w6.heap.size := G6.out.size
        have a3 := HSZ.out
        simp at a2; omega
      · intro k hk7
        have a2 : (wb.alloc _).heap.size ≤ w6.heap.size := G6.out.size
        have a3 := HSZ.out
        refine (o7.block k (by simp at a2; omega) (fun e => by injection e with e; omega)).trans (hkp k (by omega) ?_)
        intro e
        have := HLB.out k k e.symm rfl; omega
    have H7 : Hid _ := h7
    have N7 : Hid _ := hN7
    have B7 : Hid _ := hbl
    clear h7 o7 hkp hN7 hbl HOw HBs HOne HL HLB HNE HS hal2 hfz1 hfz2 s2 s2f t0 t1 t2 t3 t4 t5 b0 b1 b2 b3 b4 b5 HR6 W6 G6 HKb HBB
    generalize w6.setCell ⟨bp, 2, none⟩ (.slice (some ⟨g6, 0, none⟩) (ns.length + 1) cap6) = w7 at H7 N7 B7
    go_wp2
    go_ret
    exact ⟨rfl, ⟨_, H7.out, N7.out⟩, B7.out⟩
end Go.Proofs.YtaghclgookfmnaaDoor
