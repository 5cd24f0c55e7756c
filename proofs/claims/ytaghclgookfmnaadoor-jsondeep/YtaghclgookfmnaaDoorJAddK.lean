import Derived.Test.YtaghclgookfmnaaDoorJKid
import Derived.Deep.DeepCutAuto
/-
  The document's reader: add, of a kid.
-/
namespace Go.Proofs.YtaghclgookfmnaaDoor
open Go.RowKit
set_option linter.unusedVariables false

theorem rowN_get : ∀ (ns : List Nd) (vs : List Value) (u : Nat) (kv : Value), vs.length = ns.length → vs[u]? = some kv → (rowN ns vs)[u * 6 + 4]? = some kv := by
  intro ns
  induction ns with
  | nil => intro vs u kv h hk; match vs, h with | [], _ => simp at hk
  | cons n ns ih =>
    intro vs u kv h hk
    match vs, h with
    | v :: vs, h =>
      match u with
      | 0 => simp at hk; subst hk; simp [rowN, ndCells]
      | u + 1 =>
        have e : (u + 1) * 6 + 4 = (ndCells n v).length + (u * 6 + 4) := by simp [ndCells]; omega
        rw [rowN, e, List.getElem?_append_right (Nat.le_add_right _ _), Nat.add_sub_cancel_left]
        exact ih vs u kv (by simpa using h) (by simpa using hk)

theorem modify_app {α : Type} (ns : List α) (x : α) (u : Nat) (f : α → α) (h : u < ns.length) : (ns ++ [x]).modify u f = ns.modify u f ++ [x] := by
  induction ns generalizing u with
  | nil => simp at h
  | cons a r ih =>
    match u with
    | 0 => simp
    | u + 1 => simp only [List.cons_append, List.modify_succ_cons]; rw [ih u (by simpa using h)]

/-- Append of an int onto a list of kids, at a step of a region that draws its order. -/
theorem stepK {P : Program} {ops : Array Oper} {o : Oper} {a : Act} {w : World} {K : Act → World → Prop} {Q : Exit → Act → World → Prop} {E : Prop} (hgd : o.guard = none) (s x : Operand) (t : TypeId)
    (ho : o.op = .call { callee := .builtin .append, args := #[s, x], argTypes := #[t, t] })
    (e : TypeId) (i : TypeInfo) (ht : P.underlying t = some (.slice e)) (hi : P.info? e = some i) (hz : i.zero = some (.int .i64 0)) (hsize : i.size = 1) (hby : i.bytes = 8)
    (B : Nat) (v : Value) (n : Nat) (xs : List Value) (k : Nat) (ad : Addr) (H : Nat) (hs : a.eval s = v) (hx : a.eval x = .slice (some ad) 1 1) (h63 : n + 1 ≤ 1000000000)
    (hown : w.ownsRow B e 1 v n xs) (hB : B ≤ w.heap.size) (hH : w.heap.size = H) (hc : ∀ j u, [iV k][j]? = some u → w.cell? (ad.add j) = some u)
    (h : ∀ g cap w', w'.ownsRow B e 1 (.slice (some ⟨g, 0, none⟩) (n + 1) cap) (n + 1) (xs ++ [iV k]) → w.grownBy w' v.ownBlock → (v.ownBlock = some g ∨ g = H) → K (a.put o.dst (.slice (some ⟨g, 0, none⟩) (n + 1) cap)) w') :
    if Region.wanted o (yielded ops a.tmps) = true then Oper.wp P o a w K Q else E :=
  step_append_lies w hgd s x t ho B e i (.int .i64 0) 1 8 ht hi hz hsize hby rfl (by decide) v n xs hs hown ad 1 1 [iV k] hx rfl hc (by intro u hu; simp at hu; subst hu; rfl) (by decide) (by unfold maxLen; omega) (by omega) hB H hH
    fun g cap w' a b c _ => h g cap w' a b c

set_option maxRecDepth 4000 in
set_option maxHeartbeats 1000000 in
theorem radd1 (bp : Nat) (s : ByteArray) (i : Nat) (ad : Option Addr) (cap : Nat) (er at0 dp : Nat) (ns : List Nd) (nd : Nd) (w : World) (h : RD bp s i (.slice ad ns.length cap) er at0 dp w)
    (hN : Nodes (bp + 1) 49 (.slice ad ns.length cap) ns w) (hk : nd.kids = []) (hl : ns.length ≤ 900000000) (u : Nat) (hu : u < ns.length) (hkl : ∀ n ∈ ns, n.kids.length ≤ 900000000) :
    Calls Tryd.prog 21 #[.pointer (some ⟨bp, 0, none⟩), .int .i64 (u : Int), ndV nd] w fun r w' => r = .returned (.int .i64 (ns.length : Int)) ∧ (∃ v', RD bp s i v' er at0 dp w' ∧ Nodes (bp + 1) 49 v' (addKid ns (some u) ns.length ++ [nd]) w') ∧ Below bp w w' := by
  obtain ⟨i0, hi0, hz0, hz1, hz2⟩ := info_parts ndinfo
  have HI : Hid _ := hi0
  obtain ⟨kvs, k1, k2, k3, k4⟩ := hN
  have hlt := h.lt
  have hW : RD bp s i (.slice ad ns.length cap) er at0 dp (w.alloc (.cells #[.int .i64 (nd.kind : Int), .string ⟨nd.key.toArray⟩, .string ⟨nd.text.toArray⟩, .int .i64 nd.num, .slice none 0 0, .int .i64 (nd.at' : Int)] 49)) := h.alloc _
  obtain ⟨c0, c1, c2, c3, c4, c5, cf⟩ := hW.cell
  have f2 := cf 2
  have HK1 : Hid _ := k1
  have HK2 : Hid (w.ownsRow (bp + 1) 49 6 (.slice ad ns.length cap) ns.length (rowN ns kvs)) := k2
  have HK3 : Hid (∀ (k : Nat) (n : Nd) (kv : Value), ns[k]? = some n → kvs[k]? = some kv → w.ownsRow (bp + 1) 3 1 kv n.kids.length (n.kids.map iV)) := k3
  have HK4 : Hid _ := k4
  clear hi0 k1 k2 k3 k4
  unfold ndV
  go_enter Tryd.func21, Tryd.ntmps21
  go_upto_region 2 with fail
  go_cut [] (fun wx => ∃ g6 cap6, RD bp s i (.slice (some ⟨g6, 0, none⟩) (ns.length + 1) cap6) er at0 dp wx ∧ Nodes (bp + 1) 49 (.slice (some ⟨g6, 0, none⟩) (ns.length + 1) cap6) (ns ++ [nd]) wx ∧ Below bp w wx)
  case first =>
    have hbx : ∀ k u, [Value.int .i64 (nd.kind : Int), .string ⟨nd.key.toArray⟩, .string ⟨nd.text.toArray⟩, .int .i64 nd.num, .slice none 0 0, .int .i64 (nd.at' : Int)][k]? = some u → (w.alloc (.cells #[.int .i64 (nd.kind : Int), .string ⟨nd.key.toArray⟩, .string ⟨nd.text.toArray⟩, .int .i64 nd.num, .slice none 0 0, .int .i64 (nd.at' : Int)] 49)).cell? ⟨w.heap.size, k, none⟩ = some u := by
      intro k u hu
      rw [cell_of_row _ _ k _ _ _ (heap_alloc_new w _)]
      simpa using hu
    have b0 := hbx 0 _ rfl
    have b1 := hbx 1 _ rfl
    have b2 := hbx 2 _ rfl
    have b3 := hbx 3 _ rfl
    have b4 := hbx 4 _ rfl
    have b5 := hbx 5 _ rfl
    have hbB : Below w.heap.size w (w.alloc (.cells #[.int .i64 (nd.kind : Int), .string ⟨nd.key.toArray⟩, .string ⟨nd.text.toArray⟩, .int .i64 nd.num, .slice none 0 0, .int .i64 (nd.at' : Int)] 49)) := bal (brf w) _
    have hsz : (w.alloc (.cells #[.int .i64 (nd.kind : Int), .string ⟨nd.key.toArray⟩, .string ⟨nd.text.toArray⟩, .int .i64 nd.num, .slice none 0 0, .int .i64 (nd.at' : Int)] 49)).heap.size = w.heap.size + 1 := by simp
    clear hbx
    generalize w.alloc (.cells #[.int .i64 (nd.kind : Int), .string ⟨nd.key.toArray⟩, .string ⟨nd.text.toArray⟩, .int .i64 nd.num, .slice none 0 0, .int .i64 (nd.at' : Int)] 49) = wb at *
    have HBB : Hid (Below w.heap.size w wb) := hbB
    have HSZ : Hid (wb.heap.size = w.heap.size + 1) := hsz
    have HW : Hid (RD bp s i (.slice ad ns.length cap) er at0 dp wb) := hW
    have HKb : Hid (wb.ownsRow (bp + 1) 49 6 (.slice ad ns.length cap) ns.length (rowN ns kvs)) := ownsRow_sub HK2.out (fun g _ hg => hbB.block g hg)
    clear hbB hsz hW c0 c1 c3 c4 c5 cf
    have hltb : bp < wb.heap.size := HW.out.lt
    have hfz1 : ∀ o : Obj, (wb.alloc o).frozen? ⟨bp, 2, none⟩ = false := fun o => (HW.out.alloc o).cell.2.2.2.2.2.2 2
    have hfz2 : ∀ o : Obj, (wb.alloc o).drew.frozen? ⟨bp, 2, none⟩ = false := fun o => (HW.out.alloc o).cell.2.2.2.2.2.2 2
    have HOw : Hid (∀ o, ((wb.alloc o).drew).ownsRow (bp + 1) 49 6 (.slice ad ns.length cap) ns.length (rowN ns kvs)) := fun o => HKb.out.alloc o
    have HBs : Hid (∀ o, bp + 1 ≤ ((wb.alloc o).drew).heap.size) := fun o => by show _ ≤ (wb.alloc o).heap.size; simp; omega
    have HOne : Hid (∀ j u, (ndCells nd (.slice none 0 0))[j]? = some u → ((wb.alloc (.cells #[.int .i64 (nd.kind : Int), .string ⟨nd.key.toArray⟩, .string ⟨nd.text.toArray⟩, .int .i64 nd.num, .slice none 0 0, .int .i64 (nd.at' : Int)] 49)).drew).cell? ((⟨wb.heap.size, 0, none⟩ : Addr).add j) = some u) := by
      intro j u hu
      have hadd : (⟨wb.heap.size, 0, none⟩ : Addr).add j = ⟨wb.heap.size, j, none⟩ := by unfold Addr.add; split <;> simp_all
      rw [hadd]
      show (wb.alloc _).cell? _ = _
      rw [cell_of_row _ _ j _ _ _ (heap_alloc_new wb _)]
      simpa [ndCells] using hu
    have HL : Hid (ns.length + 1 ≤ 1000000000) := by show ns.length + 1 ≤ 1000000000; omega
    have HLB : Hid (∀ g c, (Value.slice ad ns.length cap).ownBlock = some g → g = c → bp + 1 ≤ c ∧ c < w.heap.size) := by
      intro g c hg hc
      subst hc
      rcases HK2.out.2 with ⟨e, _⟩ | ⟨g', cap', cur, e, hb, hh, _⟩
      · rw [e] at hg; simp [Value.ownBlock] at hg
      · rw [e] at hg; simp [Value.ownBlock] at hg; subst hg; exact ⟨hb, (Array.getElem?_eq_some_iff.1 hh).1⟩
    have HNE : Hid (some bp ≠ (Value.slice ad ns.length cap).ownBlock ∧ some w.heap.size ≠ (Value.slice ad ns.length cap).ownBlock ∧ w.heap.size < wb.heap.size) := by
      refine ⟨fun e => ?_, fun e => ?_, by have := HSZ.out; omega⟩
      · have := HLB.out bp bp e.symm rfl; omega
      · have := HLB.out w.heap.size _ e.symm rfl; omega
    have HS : Hid (∀ o k, ((wb.alloc o).drew).cell? ⟨bp, k, none⟩ = wb.cell? ⟨bp, k, none⟩) := fun o k => World.cell?_alloc_lt _ _ _ hltb
    have hal2 : ∀ o : Obj, (wb.alloc o).cell? ⟨bp, 2, none⟩ = some (.slice ad ns.length cap) := fun o => (World.cell?_alloc_lt _ _ _ hltb).trans c2
    go_region_law ((refine stepN rfl (.tmp 17) (.tmp 19) 26 rfl 49 i0 _ 6 80 Tryd.underlying26 HI.out hz0 hz1 hz2 rfl (by decide) (bp + 1) _ ns.length (rowN ns kvs) (ndCells nd (.slice none 0 0)) ⟨wb.heap.size, 0, none⟩ rfl rfl rfl (by intro u hu; simp [ndCells] at hu; rcases hu with rfl | rfl | rfl | rfl | rfl | rfl <;> rfl) HL.out (by omega) (by exact HOw.out _) (by exact HBs.out _) (by exact HOne.out) ?_; intro v6 w6 ho6 hg6; obtain ⟨g6, cap6, rfl⟩ := ownsRow_shape ho6; have kA := keepers hg6 hltb HNE.out.1; have kB := keepers hg6 HNE.out.2.2 HNE.out.2.1; have s2 := (kA.2.1 2).trans c2; have s2f := (kA.2.2 2).trans f2; have t0 := (kB.2.1 0).trans b0; have t1 := (kB.2.1 1).trans b1; have t2 := (kB.2.1 2).trans b2; have t3 := (kB.2.1 3).trans b3; have t4 := (kB.2.1 4).trans b4; have t5 := (kB.2.1 5).trans b5; have HR6 : Hid (RD bp s i (.slice ad ns.length cap) er at0 dp w6) := kA.1.trans HW.out; clear kA kB; have W6 : Hid _ := ho6; have G6 : Hid _ := hg6; clear ho6 hg6))
    all_goals
      have h7 := HR6.out.setL (.slice (some ⟨g6, 0, none⟩) (ns.length + 1) cap6)
      have o7 : Onl bp w6 (w6.setCell ⟨bp, 2, none⟩ (.slice (some ⟨g6, 0, none⟩) (ns.length + 1) cap6)) := Onl.setCell (onl_refl bp w6) _ HR6.out
      have hkp : ∀ g, g < w.heap.size → some g ≠ (Value.slice ad ns.length cap).ownBlock → w6.heap[g]? = w.heap[g]? := fun g hg hne => (keepers G6.out (by have := HSZ.out; omega) hne).1.trans (HBB.out.block g hg)
      have hN7 : Nodes (bp + 1) 49 (.slice (some ⟨g6, 0, none⟩) (ns.length + 1) cap6) (ns ++ [nd]) (w6.setCell ⟨bp, 2, none⟩ (.slice (some ⟨g6, 0, none⟩) (ns.length + 1) cap6)) :=
        (Nodes.push HK1.out HK2.out HK3.out HK4.out W6.out hkp (by decide) hk).onl o7 (by omega)
      have hbl : Below bp w (w6.setCell ⟨bp, 2, none⟩ (.slice (some ⟨g6, 0, none⟩) (ns.length + 1) cap6)) := by
        refine ⟨o7.os.trans (G6.out.os.trans HBB.out.os), o7.tape.trans (G6.out.tape.trans HBB.out.tape), o7.output.trans (G6.out.output.trans HBB.out.output), ?_, ?_⟩
        · have a1 := o7.size
          have a2 : (wb.alloc _).heap.size ≤ w6.heap.size := G6.out.size
          have a3 := HSZ.out
          simp at a2; omega
        · intro k hk7
          have a2 : (wb.alloc _).heap.size ≤ w6.heap.size := G6.out.size
          have a3 := HSZ.out
          refine (o7.block k (by simp at a2; omega) (fun e => by injection e with e; omega)).trans (hkp k (by omega) ?_)
          intro e
          have := HLB.out k k e.symm rfl; omega
      have HF : Hid _ := And.intro h7 (And.intro hN7 hbl)
      clear h7 o7 hkp hN7 hbl
      go_wp2_with fail
      go_meet
      case rel => exact ⟨g6, cap6, HF.out⟩
  case rest =>
    obtain ⟨g6, cap6, h7, hN7, hb7⟩ := hcut
    obtain ⟨c0, c1, c2, c3, c4, c5, cf⟩ := h7.cell
    obtain ⟨kv7, q1, q2, q3, q4⟩ := hN7
    have hu2 : u < (ns ++ [nd]).length := by simp; omega
    obtain ⟨n, hn⟩ : ∃ n, (ns ++ [nd])[u]? = some n := ⟨_, List.getElem?_eq_getElem hu2⟩
    obtain ⟨kv, hkv⟩ : ∃ kv, kv7[u]? = some kv := ⟨_, List.getElem?_eq_getElem (by omega)⟩
    have hrow := q3 u n kv hn hkv
    obtain ⟨adk, capk, hkf⟩ : ∃ adk capk, kv = .slice adk n.kids.length capk := by
      rcases hrow.2 with ⟨a, b⟩ | ⟨g, c, cu, a, _⟩
      · exact ⟨none, 0, by rw [a, b]⟩
      · exact ⟨_, _, a⟩
    subst hkf
    have hcu : wc.cell? ⟨g6, u * 6 + 4, none⟩ = some (.slice adk n.kids.length capk) := by
      have := q2.cells (g := g6) rfl (u * 6 + 4) _ (rowN_get _ _ u _ q1 hkv)
      have hadd : (⟨g6, 0, none⟩ : Addr).add (u * 6 + 4) = ⟨g6, u * 6 + 4, none⟩ := by unfold Addr.add; split <;> simp_all
      rwa [hadd] at this
    have hgl : g6 < wc.heap.size ∧ bp + 1 ≤ g6 := by have := ownBlock_lt q2 (g := g6) rfl; exact ⟨this.2.1, this.1⟩
    have hfu : wc.frozen? ⟨g6, u * 6 + 4, none⟩ = false := by
      obtain ⟨_, _, cur, hc⟩ := ownBlock_lt q2 (g := g6) rfl
      simp [World.frozen?, hc]
    have HQ1 : Hid _ := q1
    have HQ2 : Hid (wc.ownsRow (bp + 1) 49 6 (.slice (some ⟨g6, 0, none⟩) (ns.length + 1) cap6) (ns ++ [nd]).length (rowN (ns ++ [nd]) kv7)) := q2
    have HQ3 : Hid _ := q3
    have HQ4 : Hid _ := q4
    have HN : Hid _ := hn
    have HKV : Hid _ := hkv
    have HRO : Hid (wc.ownsRow (bp + 1) 3 1 (.slice adk n.kids.length capk) n.kids.length (n.kids.map iV)) := hrow
    have HRD : Hid (RD bp s i (.slice (some ⟨g6, 0, none⟩) (ns.length + 1) cap6) er at0 dp wc) := h7
    have HB7 : Hid (Below bp w wc) := hb7
    have HGL : Hid (g6 < wc.heap.size) := hgl.1
    have hu1 : (u : Int) < (ns.length : Int) + 1 := by omega
    have hu0 : decide ((0 : Int) ≤ (u : Int)) = true := by simp
    clear q1 q2 q3 q4 hn hkv hrow hb7 hu2 HK1 HK2 HK3 HK4 h hk hlt HI
    obtain ⟨i1, hi1, hy0, hy1, hy2⟩ := info_parts intinfo
    have HI1 : Hid _ := hi1
    have hltb : bp < wc.heap.size := HRD.out.lt
    have hal2 : ∀ o : Obj, (wc.alloc o).cell? ⟨bp, 2, none⟩ = some (.slice (some ⟨g6, 0, none⟩) (ns.length + 1) cap6) := fun o => (World.cell?_alloc_lt _ _ _ hltb).trans c2
    have hal3 : ∀ o : Obj, (wc.alloc o).cell? ⟨g6, u * 6 + 4, none⟩ = some (.slice adk n.kids.length capk) := fun o => (World.cell?_alloc_lt _ _ _ hgl.1).trans hcu
    have HOw : Hid (∀ o, ((wc.alloc o).drew).ownsRow (bp + 1) 3 1 (.slice adk n.kids.length capk) n.kids.length (n.kids.map iV)) := fun o => HRO.out.alloc o
    have HBs : Hid (∀ o, bp + 1 ≤ ((wc.alloc o).drew).heap.size) := fun o => by show _ ≤ (wc.alloc o).heap.size; simp; omega
    have HSs : Hid (∀ o, ((wc.alloc o).drew).heap.size = wc.heap.size + 1) := fun o => by show (wc.alloc o).heap.size = _; simp
    have HOne : Hid (∀ j v, [iV ns.length][j]? = some v → ((wc.alloc (.cells #[.int .i64 (ns.length : Int)] 3)).drew).cell? ((⟨wc.heap.size, 0, none⟩ : Addr).add j) = some v) := one_cell wc (iV ns.length) 3
    have HL : Hid (n.kids.length + 1 ≤ 1000000000) := by
      show n.kids.length + 1 ≤ 1000000000
      have hmem : n ∈ ns := by
        have hn2 := HN.out
        rw [List.getElem?_append_left hu] at hn2
        exact List.mem_of_getElem? hn2
      have := hkl n hmem
      omega
    have HNE : Hid (some bp ≠ (Value.slice adk n.kids.length capk).ownBlock ∧ some g6 ≠ (Value.slice adk n.kids.length capk).ownBlock) := by
      refine ⟨fun e => ?_, fun e => ?_⟩
      · have := (ownBlock_lt HRO.out e.symm).1; omega
      · exact blocks_ne (by decide) HQ2.out HRO.out (g := g6) rfl e.symm
    clear hi1 hgl
    go_wp2_with fail
    go_region_law ((refine stepK rfl (.tmp 37) (.tmp 39) 31 rfl 3 i1 Tryd.underlying31 HI1.out hy0 hy1 hy2 (bp + 1) _ n.kids.length (n.kids.map iV) ns.length ⟨wc.heap.size, 0, none⟩ (wc.heap.size + 1) rfl rfl HL.out (by exact HOw.out _) (by exact HBs.out _) (by exact HSs.out _) (by exact HOne.out) ?_; intro g8 cap8 w8 ho8 hg8 hgg8; have kA := keepers hg8 hltb HNE.out.1; have kB := keepers hg8 HGL.out HNE.out.2; have s2 := (kA.2.1 2).trans c2; have t0 := (kB.2.1 (u * 6 + 4)).trans hcu; have t1 := (kB.2.2 (u * 6 + 4)).trans hfu; have HR8 : Hid (RD bp s i (.slice (some ⟨g6, 0, none⟩) (ns.length + 1) cap6) er at0 dp w8) := kA.1.trans HRD.out; clear kA kB; have W8 : Hid (w8.ownsRow (bp + 1) 3 1 (.slice (some ⟨g8, 0, none⟩) (n.kids.length + 1) cap8) (n.kids.length + 1) (n.kids.map iV ++ [iV ns.length])) := ho8; have G8 : Hid (((wc.alloc (.cells #[.int .i64 (ns.length : Int)] 3)).drew).grownBy w8 (Value.slice adk n.kids.length capk).ownBlock) := hg8; have GG8 : Hid ((Value.slice adk n.kids.length capk).ownBlock = some g8 ∨ g8 = wc.heap.size + 1) := hgg8; clear ho8 hg8 hgg8))
    all_goals
      have hk9 := Nodes.kid HQ1.out HQ2.out HQ3.out HQ4.out u ns.length g8 cap8 g6 n _ HN.out HKV.out W8.out (fun g' hg' hne => (keepers G8.out hg' hne).1) (GG8.out.elim .inl fun e => .inr (by omega)) rfl (by decide)
      rw [modify_app ns nd u _ hu] at hk9
      have hcL := (keepers G8.out HGL.out HNE.out.2).1
      obtain ⟨_, _, cur, hcc⟩ := ownBlock_lt HQ2.out (g := g6) rfl
      have hw9 := setCell_eq_setRow w8 g6 (u * 6 + 4) cur _ _ (.slice (some ⟨g8, 0, none⟩) (n.kids.length + 1) cap8) (hcL.trans hcc)
      have hg6b : bp + 1 ≤ g6 := (ownBlock_lt HQ2.out (g := g6) rfl).1
      have h9 : RD bp s i (.slice (some ⟨g6, 0, none⟩) (ns.length + 1) cap6) er at0 dp (w8.setCell ⟨g6, u * 6 + 4, none⟩ (.slice (some ⟨g8, 0, none⟩) (n.kids.length + 1) cap8)) := by
        rw [hw9]; exact (setRow_other w8 g6 bp _ (by omega)).trans HR8.out
      have hb9 : Below bp w (w8.setCell ⟨g6, u * 6 + 4, none⟩ (.slice (some ⟨g8, 0, none⟩) (n.kids.length + 1) cap8)) := by
        rw [hw9]
        refine below_setRow (HB7.out.trans ?_) (by omega) _
        have a2 : (wc.alloc (.cells #[.int .i64 (ns.length : Int)] 3)).heap.size ≤ w8.heap.size := G8.out.size
        refine ⟨G8.out.os, G8.out.tape, G8.out.output, by simp at a2; omega, fun k hk => (keepers G8.out (by omega) (fun e => ?_)).1⟩
        have := (ownBlock_lt HRO.out e.symm).1; omega
      have H9 : Hid _ := And.intro h9 (And.intro hk9 hb9)
      clear hk9 hcL hcc hw9 hg6b h9 hb9 s2 t0 t1 W8 G8 GG8 HR8 HOw HBs HSs HOne HL HNE hal2 hal3 hcu hfu c0 c1 c2 c3 c4 c5 cf
      generalize w8.setCell ⟨g6, u * 6 + 4, none⟩ (.slice (some ⟨g8, 0, none⟩) (n.kids.length + 1) cap8) = w9 at H9
      go_wp2
      go_ret
      exact ⟨rfl, ⟨_, H9.out.1, H9.out.2.1⟩, H9.out.2.2⟩
end Go.Proofs.YtaghclgookfmnaaDoor
