/-
  Joined by program: JNode, JAdd, JKid.
-/
import Derived.Test.YtgiaflcbiipafabGreatDoorG6
import Derived.Deep.RegionLaw
import Derived.Deep.AppendLies
/-
  The document's reader: the nodes that it has.
-/
namespace Go.Proofs.YtgiaflcbiipafabGreatDoor
open Go.RowKit
set_option linter.unusedVariables false

def iV (n : Nat) : Value := .int .i64 (n : Int)
def ndCells (n : Nd) (kv : Value) : List Value := [.int .i64 (n.kind : Int), .string ⟨n.key.toArray⟩, .string ⟨n.text.toArray⟩, .int .i64 n.num, kv, .int .i64 (n.at' : Int)]
def rowN : List Nd → List Value → List Value
  | n :: ns, v :: vs => ndCells n v ++ rowN ns vs
  | _, _ => []
theorem rowN_length : ∀ (ns : List Nd) (vs : List Value), vs.length = ns.length → (rowN ns vs).length = ns.length * 6 := by
  intro ns
  induction ns with
  | nil => intro vs h; rfl
  | cons n ns ih =>
    intro vs h
    match vs, h with
    | v :: vs, h => rw [rowN, List.length_append, ih vs (by simpa using h)]; simp [ndCells]; omega
theorem rowN_append : ∀ (ns : List Nd) (vs : List Value) (ms : List Nd) (us : List Value), vs.length = ns.length → rowN (ns ++ ms) (vs ++ us) = rowN ns vs ++ rowN ms us := by
  intro ns
  induction ns with
  | nil => intro vs ms us h; match vs, h with | [], _ => rfl
  | cons n ns ih =>
    intro vs ms us h
    match vs, h with
    | v :: vs, h => simp only [List.cons_append, rowN]; rw [ih vs ms us (by simpa using h), List.append_assoc]

/-- The slice v holds the nodes ns, in blocks from B on; the lists of kids lie apart from each other. tN: the nodes' type. -/
def Nodes (B : Nat) (tN : TypeId) (v : Value) (ns : List Nd) (w : World) : Prop :=
  ∃ kvs : List Value, kvs.length = ns.length ∧ w.ownsRow B tN 6 v ns.length (rowN ns kvs) ∧
    (∀ (k : Nat) (n : Nd) (kv : Value), ns[k]? = some n → kvs[k]? = some kv → w.ownsRow B 3 1 kv n.kids.length (n.kids.map iV)) ∧
    (∀ (j k : Nat) (a b : Value), j ≠ k → kvs[j]? = some a → kvs[k]? = some b → a.ownBlock ≠ none → a.ownBlock ≠ b.ownBlock)

theorem ownsRow_sub {w w' : World} {B sz n : Nat} {e : TypeId} {v : Value} {xs : List Value} (h : w.ownsRow B e sz v n xs) (hk : ∀ g, B ≤ g → g < w.heap.size → w'.heap[g]? = w.heap[g]?) : w'.ownsRow B e sz v n xs := by
  refine ⟨h.1, ?_⟩
  rcases h.2 with h | ⟨g, cap, cur, a, b, c, d⟩
  · exact .inl h
  · exact .inr ⟨g, cap, cur, a, b, (hk g b (Array.getElem?_eq_some_iff.1 c).1).trans c, d⟩
theorem Nodes.kept {B : Nat} {tN : TypeId} {v : Value} {ns : List Nd} {w w' : World} (h : Nodes B tN v ns w) (hk : ∀ g, B ≤ g → g < w.heap.size → w'.heap[g]? = w.heap[g]?) : Nodes B tN v ns w' := by
  obtain ⟨kvs, h1, h2, h3, h4⟩ := h
  exact ⟨kvs, h1, ownsRow_sub h2 hk, fun k n kv a b => ownsRow_sub (h3 k n kv a b) hk, h4⟩
theorem Nodes.onl {B bp : Nat} {tN : TypeId} {v : Value} {ns : List Nd} {w w' : World} (h : Nodes B tN v ns w) (ho : Onl bp w w') (hb : bp < B) : Nodes B tN v ns w' :=
  h.kept fun g hg hl => ho.block g hl (fun e => by injection e with e; omega)
theorem Nodes.nil (B : Nat) (tN : TypeId) (w : World) : Nodes B tN (.slice none 0 0) [] w :=
  ⟨[], rfl, ⟨rfl, .inl ⟨rfl, rfl⟩⟩, fun k n kv a b => (by simp at a), fun j k a b _ h _ _ => (by simp at h)⟩

/-- The kids of a node (of none) and one more. -/
def addKid (ns : List Nd) (up : Option Nat) (k : Nat) : List Nd :=
  match up with
  | none => ns
  | some u => ns.modify u (fun n => { n with kids := n.kids ++ [k] })
theorem addKid_length (ns : List Nd) (up : Option Nat) (k : Nat) : (addKid ns up k).length = ns.length := by
  unfold addKid; cases up <;> simp

def upV : Option Nat → Int | none => -1 | some u => (u : Int)
def ndV (n : Nd) : Value := .agg #[.int .i64 (n.kind : Int), .string ⟨n.key.toArray⟩, .string ⟨n.text.toArray⟩, .int .i64 n.num, .slice none 0 0, .int .i64 (n.at' : Int)]

theorem ndinfo : (Tryz.prog.info? 64).map (fun i => (i.zero, i.size, i.bytes)) = some (some (.agg #[.int .i64 0, .string ⟨#[]⟩, .string ⟨#[]⟩, .int .i64 0, .slice none 0 0, .int .i64 0]), 6, 80) := by kernel_rfl
theorem intinfo : (Tryz.prog.info? 3).map (fun i => (i.zero, i.size, i.bytes)) = some (some (.int .i64 0), 1, 8) := by kernel_rfl

/-- Append of a node's cells, at a step of a region that draws its order. -/
theorem stepN {P : Program} {ops : Array Oper} {o : Oper} {a : Act} {w : World} {K : Act → World → Prop} {Q : Exit → Act → World → Prop} {E : Prop} (hgd : o.guard = none) (s x : Operand) (t : TypeId)
    (ho : o.op = .call { callee := .builtin .append, args := #[s, x], argTypes := #[t, t] })
    (e : TypeId) (i : TypeInfo) (z : Value) (size bytes : Nat) (ht : P.underlying t = some (.slice e)) (hi : P.info? e = some i) (hz : i.zero = some z) (hsize : i.size = size) (hby : i.bytes = bytes) (hzs : z.cells.size = size) (hsz : 0 < size)
    (B : Nat) (v : Value) (n : Nat) (xs news : List Value) (ad : Addr) (hs : a.eval s = v) (hx : a.eval x = .slice (some ad) 1 1) (hl : news.length = 1 * size) (h1 : ∀ u ∈ news, u.oneCell' = true) (h63 : n + 1 ≤ 1000000000) (hb80 : bytes ≤ 80)
    (hown : w.ownsRow B e size v n xs) (hB : B ≤ w.heap.size) (hc : ∀ j u, news[j]? = some u → w.cell? (ad.add j) = some u)
    (h : ∀ v' w', w'.ownsRow B e size v' (n + 1) (xs ++ news) → w.grownBy w' v.ownBlock → K (a.put o.dst v') w') :
    if Region.wanted o (yielded ops a.tmps) = true then Oper.wp P o a w K Q else E := by
  have hw : Region.wanted o (yielded ops a.tmps) = true := by simp [Region.wanted, hgd]
  rw [if_pos hw]
  obtain ⟨v', w', r1, r2, r3, _⟩ := run_append_own (P := P) w B t o.type e i z size bytes ht hi hz hsize hby hzs hsz v n xs hown ad 1 1 news hl hc h1 (by unfold maxLen; omega) (by
    have : (n + 1) * bytes ≤ 1000000000 * 80 := Nat.mul_le_mul h63 hb80
    omega) hB
  unfold Oper.wp execOp
  simp only [ho, resolve, invoke, builtin, Sem.run_bind, Sem.run_pure, Result.andThen_ok, List.map_toArray, List.map_cons, List.map_nil, hs, hx, r1]
  exact h v' w' r2 r3

theorem ownsRow_other {w w6 : World} {B n m sz : Nat} {e e' : TypeId} {v kv : Value} {xs ys : List Value} (he : e ≠ e') (hv : w.ownsRow B e sz v n xs) (hk : w.ownsRow B e' 1 kv m ys)
    (hkeep : ∀ g, g < w.heap.size → some g ≠ v.ownBlock → w6.heap[g]? = w.heap[g]?) : w6.ownsRow B e' 1 kv m ys := by
  refine ⟨hk.1, ?_⟩
  rcases hk.2 with h | ⟨g, cap, cur, a, b, c, d⟩
  · exact .inl h
  · refine .inr ⟨g, cap, cur, a, b, (hkeep g (Array.getElem?_eq_some_iff.1 c).1 ?_).trans c, d⟩
    intro hg
    rcases hv.2 with ⟨rfl, _⟩ | ⟨g', cap', cur', rfl, _, c', _⟩
    · simp [Value.ownBlock] at hg
    · simp [Value.ownBlock] at hg
      subst hg
      rw [c] at c'
      injection c' with c'
      injection c' with _ c' _
      exact he c'.symm

/-- A node more. -/
theorem Nodes.push {B : Nat} {tN : TypeId} {v v6 : Value} {ns : List Nd} {nd : Nd} {kvs : List Value} {w w6 : World} (k1 : kvs.length = ns.length) (k2 : w.ownsRow B tN 6 v ns.length (rowN ns kvs))
    (k3 : ∀ (k : Nat) (n : Nd) (kv : Value), ns[k]? = some n → kvs[k]? = some kv → w.ownsRow B 3 1 kv n.kids.length (n.kids.map iV))
    (k4 : ∀ (j k : Nat) (a b : Value), j ≠ k → kvs[j]? = some a → kvs[k]? = some b → a.ownBlock ≠ none → a.ownBlock ≠ b.ownBlock)
    (hrow : w6.ownsRow B tN 6 v6 (ns.length + 1) (rowN ns kvs ++ ndCells nd (.slice none 0 0))) (hkeep : ∀ g, g < w.heap.size → some g ≠ v.ownBlock → w6.heap[g]? = w.heap[g]?) (ht : tN ≠ 3) (hk : nd.kids = []) :
    Nodes B tN v6 (ns ++ [nd]) w6 := by
  refine ⟨kvs ++ [.slice none 0 0], by simp [k1], ?_, ?_, ?_⟩
  · rw [rowN_append ns kvs [nd] [.slice none 0 0] k1, List.length_append]
    have e : rowN [nd] [.slice none 0 0] = ndCells nd (.slice none 0 0) := by simp [rowN]
    rw [e]; exact hrow
  · intro k n kv hn hkv
    by_cases hlt : k < ns.length
    · rw [List.getElem?_append_left hlt] at hn
      rw [List.getElem?_append_left (by omega)] at hkv
      exact ownsRow_other ht k2 (k3 k n kv hn hkv) hkeep
    · have hke : k = ns.length := by
        have := (List.getElem?_eq_some_iff.1 hn).1
        simp at this; omega
      subst hke
      rw [List.getElem?_append_right (Nat.le_refl _)] at hn
      rw [← k1, List.getElem?_append_right (Nat.le_refl _)] at hkv
      simp at hn hkv
      subst hn; subst hkv
      rw [hk]
      exact ⟨rfl, .inl ⟨rfl, rfl⟩⟩
  · intro j k a b hjk ha hb hne
    have hbd : ∀ {m : Nat} {x : Value}, (kvs ++ [Value.slice none 0 0])[m]? = some x → (m < kvs.length ∧ kvs[m]? = some x) ∨ x = .slice none 0 0 := by
      intro m x hx
      by_cases hm : m < kvs.length
      · left; rw [List.getElem?_append_left hm] at hx; exact ⟨hm, hx⟩
      · right
        rw [List.getElem?_append_right (by omega)] at hx
        have := (List.getElem?_eq_some_iff.1 hx).1
        have h0 : m - kvs.length = 0 := by simp at this; omega
        rw [h0] at hx; simpa using hx.symm
    rcases hbd ha with ⟨_, ha⟩ | rfl
    · rcases hbd hb with ⟨_, hb⟩ | rfl
      · exact k4 j k a b hjk ha hb hne
      · simpa [Value.ownBlock] using hne
    · exact absurd rfl hne
end Go.Proofs.YtgiaflcbiipafabGreatDoor
/-
  The document's reader: add.
-/
namespace Go.Proofs.YtgiaflcbiipafabGreatDoor
open Go.RowKit
set_option linter.unusedVariables false

theorem ownsRow_shape {w : World} {B sz n : Nat} {e : TypeId} {v : Value} {xs : List Value} (h : w.ownsRow B e sz v (n + 1) xs) : ∃ g cap, v = .slice (some ⟨g, 0, none⟩) (n + 1) cap := by
  rcases h.2 with ⟨_, h⟩ | ⟨g, cap, cur, hv, _⟩
  · omega
  · exact ⟨g, cap, hv⟩
theorem keepers {wb w6 : World} {o : Obj} {row : Option Nat} (hg : ((wb.alloc o).drew).grownBy w6 row) {k : Nat} (hk : k < wb.heap.size) (hne : some k ≠ row) :
    w6.heap[k]? = wb.heap[k]? ∧ (∀ j, w6.cell? ⟨k, j, none⟩ = wb.cell? ⟨k, j, none⟩) ∧ (∀ j, w6.frozen? ⟨k, j, none⟩ = wb.frozen? ⟨k, j, none⟩) := by
  have e : w6.heap[k]? = wb.heap[k]? := (hg.block k (by show k < (wb.alloc o).heap.size; simp; omega) hne).trans (heap_alloc_old _ _ hk)
  exact ⟨e, fun j => World.cell?_of_block (a := ⟨k, j, none⟩) e, fun j => World.frozen?_of_block (a := ⟨k, j, none⟩) e⟩

set_option maxRecDepth 4000 in
set_option maxHeartbeats 1000000 in
theorem radd0 (bp : Nat) (s : ByteArray) (i : Nat) (ad : Option Addr) (cap : Nat) (er at0 dp : Nat) (ns : List Nd) (nd : Nd) (w : World) (h : RD bp s i (.slice ad ns.length cap) er at0 dp w)
    (hN : Nodes (bp + 1) 64 (.slice ad ns.length cap) ns w) (hk : nd.kids = []) (hl : ns.length ≤ 900000000) :
    Calls Tryz.prog 34 #[.pointer (some ⟨bp, 0, none⟩), .int .i64 (-1), ndV nd] w fun r w' => r = .returned (.int .i64 (ns.length : Int)) ∧ (∃ v', RD bp s i v' er at0 dp w' ∧ Nodes (bp + 1) 64 v' (ns ++ [nd]) w') ∧ Below bp w w' := by
  obtain ⟨i0, hi0, hz0, hz1, hz2⟩ := info_parts ndinfo
  have HI : Hid _ := hi0
  obtain ⟨kvs, k1, k2, k3, k4⟩ := hN
  have hlt := h.lt
  have hW : RD bp s i (.slice ad ns.length cap) er at0 dp (w.alloc (.cells #[.int .i64 (nd.kind : Int), .string ⟨nd.key.toArray⟩, .string ⟨nd.text.toArray⟩, .int .i64 nd.num, .slice none 0 0, .int .i64 (nd.at' : Int)] 64)) := h.alloc _
  obtain ⟨c0, c1, c2, c3, c4, c5, cf⟩ := hW.cell
  have f2 := cf 2
  have HK1 : Hid _ := k1
  have HK2 : Hid (w.ownsRow (bp + 1) 64 6 (.slice ad ns.length cap) ns.length (rowN ns kvs)) := k2
  have HK3 : Hid (∀ (k : Nat) (n : Nd) (kv : Value), ns[k]? = some n → kvs[k]? = some kv → w.ownsRow (bp + 1) 3 1 kv n.kids.length (n.kids.map iV)) := k3
  have HK4 : Hid _ := k4
  clear hi0 k1 k2 k3 k4
  unfold ndV
  go_enter Tryz.func34, Tryz.ntmps34
  go_wp2_with fail
  have hbx : ∀ k u, [Value.int .i64 (nd.kind : Int), .string ⟨nd.key.toArray⟩, .string ⟨nd.text.toArray⟩, .int .i64 nd.num, .slice none 0 0, .int .i64 (nd.at' : Int)][k]? = some u → (w.alloc (.cells #[.int .i64 (nd.kind : Int), .string ⟨nd.key.toArray⟩, .string ⟨nd.text.toArray⟩, .int .i64 nd.num, .slice none 0 0, .int .i64 (nd.at' : Int)] 64)).cell? ⟨w.heap.size, k, none⟩ = some u := by
    intro k u hu
    rw [cell_of_row _ _ k _ _ _ (heap_alloc_new w _)]
    simpa using hu
  have b0 := hbx 0 _ rfl
  have b1 := hbx 1 _ rfl
  have b2 := hbx 2 _ rfl
  have b3 := hbx 3 _ rfl
  have b4 := hbx 4 _ rfl
  have b5 := hbx 5 _ rfl
  have hbB : Below w.heap.size w (w.alloc (.cells #[.int .i64 (nd.kind : Int), .string ⟨nd.key.toArray⟩, .string ⟨nd.text.toArray⟩, .int .i64 nd.num, .slice none 0 0, .int .i64 (nd.at' : Int)] 64)) := bal (brf w) _
  have hsz : (w.alloc (.cells #[.int .i64 (nd.kind : Int), .string ⟨nd.key.toArray⟩, .string ⟨nd.text.toArray⟩, .int .i64 nd.num, .slice none 0 0, .int .i64 (nd.at' : Int)] 64)).heap.size = w.heap.size + 1 := by simp
  clear hbx
  generalize w.alloc (.cells #[.int .i64 (nd.kind : Int), .string ⟨nd.key.toArray⟩, .string ⟨nd.text.toArray⟩, .int .i64 nd.num, .slice none 0 0, .int .i64 (nd.at' : Int)] 64) = wb at *
  have HBB : Hid (Below w.heap.size w wb) := hbB
  have HSZ : Hid (wb.heap.size = w.heap.size + 1) := hsz
  have HW : Hid (RD bp s i (.slice ad ns.length cap) er at0 dp wb) := hW
  have HKb : Hid (wb.ownsRow (bp + 1) 64 6 (.slice ad ns.length cap) ns.length (rowN ns kvs)) := ownsRow_sub HK2.out (fun g _ hg => hbB.block g hg)
  clear hbB hsz hW c0 c1 c3 c4 c5 cf
  have hltb : bp < wb.heap.size := HW.out.lt
  have hfz1 : ∀ o : Obj, (wb.alloc o).frozen? ⟨bp, 2, none⟩ = false := fun o => (HW.out.alloc o).cell.2.2.2.2.2.2 2
  have hfz2 : ∀ o : Obj, (wb.alloc o).drew.frozen? ⟨bp, 2, none⟩ = false := fun o => (HW.out.alloc o).cell.2.2.2.2.2.2 2
  have HOw : Hid (∀ o, ((wb.alloc o).drew).ownsRow (bp + 1) 64 6 (.slice ad ns.length cap) ns.length (rowN ns kvs)) := fun o => HKb.out.alloc o
  have HBs : Hid (∀ o, bp + 1 ≤ ((wb.alloc o).drew).heap.size) := fun o => by show _ ≤ (wb.alloc o).heap.size; simp; omega
  have HOne : Hid (∀ j u, (ndCells nd (.slice none 0 0))[j]? = some u → ((wb.alloc (.cells #[.int .i64 (nd.kind : Int), .string ⟨nd.key.toArray⟩, .string ⟨nd.text.toArray⟩, .int .i64 nd.num, .slice none 0 0, .int .i64 (nd.at' : Int)] 64)).drew).cell? ((⟨wb.heap.size, 0, none⟩ : Addr).add j) = some u) := by
    intro j u hu
    have hadd : (⟨wb.heap.size, 0, none⟩ : Addr).add j = ⟨wb.heap.size, j, none⟩ := by unfold Addr.add; split <;> simp_all
    rw [hadd]
    show (wb.alloc _).cell? _ = _
    rw [cell_of_row _ _ j _ _ _ (heap_alloc_new wb _)]
    simpa [ndCells] using hu
  have HL : Hid (ns.length + 1 ≤ 1000000000) := by show ns.length + 1 ≤ 1000000000; omega
  have HLB : Hid (∀ g c, (Value.slice ad ns.length cap).ownBlock = some g → g = c → bp + 1 ≤ c ∧ c < w.heap.size) := by
    intro g c hg hc
    subst hc
    rcases HK2.out.2 with ⟨e, _⟩ | ⟨g', cap', cur, e, hb, hh, _⟩
    · rw [e] at hg; simp [Value.ownBlock] at hg
    · rw [e] at hg; simp [Value.ownBlock] at hg; subst hg; exact ⟨hb, (Array.getElem?_eq_some_iff.1 hh).1⟩
  have HNE : Hid (some bp ≠ (Value.slice ad ns.length cap).ownBlock ∧ some w.heap.size ≠ (Value.slice ad ns.length cap).ownBlock ∧ w.heap.size < wb.heap.size) := by
    refine ⟨fun e => ?_, fun e => ?_, by have := HSZ.out; omega⟩
    · have := HLB.out bp bp e.symm rfl; omega
    · have := HLB.out w.heap.size _ e.symm rfl; omega
  have HS : Hid (∀ o k, ((wb.alloc o).drew).cell? ⟨bp, k, none⟩ = wb.cell? ⟨bp, k, none⟩) := fun o k => World.cell?_alloc_lt _ _ _ hltb
  have hal2 : ∀ o : Obj, (wb.alloc o).cell? ⟨bp, 2, none⟩ = some (.slice ad ns.length cap) := fun o => (World.cell?_alloc_lt _ _ _ hltb).trans c2
  go_region_law ((refine stepN rfl (.tmp 17) (.tmp 19) 32 rfl 64 i0 _ 6 80 Tryz.underlying32 HI.out hz0 hz1 hz2 rfl (by decide) (bp + 1) _ ns.length (rowN ns kvs) (ndCells nd (.slice none 0 0)) ⟨wb.heap.size, 0, none⟩ rfl rfl rfl (by intro u hu; simp [ndCells] at hu; rcases hu with rfl | rfl | rfl | rfl | rfl | rfl <;> rfl) HL.out (by omega) (by exact HOw.out _) (by exact HBs.out _) (by exact HOne.out) ?_; intro v6 w6 ho6 hg6; obtain ⟨g6, cap6, rfl⟩ := ownsRow_shape ho6; have kA := keepers hg6 hltb HNE.out.1; have kB := keepers hg6 HNE.out.2.2 HNE.out.2.1; have s2 := (kA.2.1 2).trans c2; have s2f := (kA.2.2 2).trans f2; have t0 := (kB.2.1 0).trans b0; have t1 := (kB.2.1 1).trans b1; have t2 := (kB.2.1 2).trans b2; have t3 := (kB.2.1 3).trans b3; have t4 := (kB.2.1 4).trans b4; have t5 := (kB.2.1 5).trans b5; have HR6 : Hid (RD bp s i (.slice ad ns.length cap) er at0 dp w6) := kA.1.trans HW.out; clear kA kB; have W6 : Hid _ := ho6; have G6 : Hid _ := hg6; clear ho6 hg6))
  all_goals
    have h7 := HR6.out.setL (.slice (some ⟨g6, 0, none⟩) (ns.length + 1) cap6)
    have o7 : Onl bp w6 (w6.setCell ⟨bp, 2, none⟩ (.slice (some ⟨g6, 0, none⟩) (ns.length + 1) cap6)) := Onl.setCell (onl_refl bp w6) _ HR6.out
    have hkp : ∀ g, g < w.heap.size → some g ≠ (Value.slice ad ns.length cap).ownBlock → w6.heap[g]? = w.heap[g]? := fun g hg hne => (keepers G6.out (by have := HSZ.out; omega) hne).1.trans (HBB.out.block g hg)
    have hN7 : Nodes (bp + 1) 64 (.slice (some ⟨g6, 0, none⟩) (ns.length + 1) cap6) (ns ++ [nd]) (w6.setCell ⟨bp, 2, none⟩ (.slice (some ⟨g6, 0, none⟩) (ns.length + 1) cap6)) :=
      (Nodes.push HK1.out HK2.out HK3.out HK4.out W6.out hkp (by decide) hk).onl o7 (by omega)
    have hbl : Below bp w (w6.setCell ⟨bp, 2, none⟩ (.slice (some ⟨g6, 0, none⟩) (ns.length + 1) cap6)) := by
      refine ⟨o7.os.trans (G6.out.os.trans HBB.out.os), o7.tape.trans (G6.out.tape.trans HBB.out.tape), o7.output.trans (G6.out.output.trans HBB.out.output), ?_, ?_⟩
      · have a1 := o7.size
        have a2 : (wb.alloc _).heap.size ≤ w6.heap.size := G6.out.size
        have a3 := HSZ.out
        simp at a2; omega
      · intro k hk7
        have a2 : (wb.alloc _).heap.size ≤ w6.heap.size := G6.out.size
        have a3 := HSZ.out
        refine (o7.block k (by simp at a2; omega) (fun e => by injection e with e; omega)).trans (hkp k (by omega) ?_)
        intro e
        have := HLB.out k k e.symm rfl; omega
    have H7 : Hid _ := h7
    have N7 : Hid _ := hN7
    have B7 : Hid _ := hbl
    clear h7 o7 hkp hN7 hbl HOw HBs HOne HL HLB HNE HS hal2 hfz1 hfz2 s2 s2f t0 t1 t2 t3 t4 t5 b0 b1 b2 b3 b4 b5 HR6 W6 G6 HKb HBB
    generalize w6.setCell ⟨bp, 2, none⟩ (.slice (some ⟨g6, 0, none⟩) (ns.length + 1) cap6) = w7 at H7 N7 B7
    go_wp2
    go_ret
    exact ⟨rfl, ⟨_, H7.out, N7.out⟩, B7.out⟩
end Go.Proofs.YtgiaflcbiipafabGreatDoor
/-
  A kid more, of a node that is there.
-/
namespace Go.Proofs.YtgiaflcbiipafabGreatDoor
open Go.RowKit
set_option linter.unusedVariables false

theorem rowN_set : ∀ (ns : List Nd) (vs : List Value) (u k : Nat) (n : Nd) (kv' : Value), vs.length = ns.length → ns[u]? = some n →
    rowN (ns.modify u (fun n => { n with kids := n.kids ++ [k] })) (vs.set u kv') = (rowN ns vs).set (u * 6 + 4) kv' := by
  intro ns
  induction ns with
  | nil => intro vs u k n kv' h hn; simp at hn
  | cons m ns ih =>
    intro vs u k n kv' h hn
    match vs, h with
    | v :: vs, h =>
      match u with
      | 0 => simp [rowN, ndCells]
      | u + 1 =>
        have h' : vs.length = ns.length := by simpa using h
        have := ih vs u k n kv' h' (by simpa using hn)
        simp only [List.modify_succ_cons, List.set_cons_succ, rowN]
        rw [this]
        have e : (u + 1) * 6 + 4 = (ndCells m v).length + (u * 6 + 4) := by simp [ndCells]; omega
        rw [e, List.set_append_right _ _ (Nat.le_add_right _ _), Nat.add_sub_cancel_left]

theorem ownBlock_lt {w : World} {B sz n g : Nat} {e : TypeId} {v : Value} {xs : List Value} (h : w.ownsRow B e sz v n xs) (hg : v.ownBlock = some g) : B ≤ g ∧ g < w.heap.size ∧ ∃ cur, w.heap[g]? = some (.cells cur e (0, 0)) := by
  rcases h.2 with ⟨rfl, _⟩ | ⟨g', cap, cur, rfl, b, c, d⟩
  · simp [Value.ownBlock] at hg
  · simp [Value.ownBlock] at hg; subst hg; exact ⟨b, (Array.getElem?_eq_some_iff.1 c).1, cur, c⟩
theorem blocks_ne {w : World} {B n m sz sz' g : Nat} {e e' : TypeId} {v v' : Value} {xs ys : List Value} (he : e ≠ e') (h : w.ownsRow B e sz v n xs) (h' : w.ownsRow B e' sz' v' m ys) (hg : v.ownBlock = some g) : v'.ownBlock ≠ some g := by
  intro hg'
  obtain ⟨_, _, cur, c⟩ := ownBlock_lt h hg
  obtain ⟨_, _, cur', c'⟩ := ownBlock_lt h' hg'
  rw [c] at c'
  injection c' with c'
  injection c' with _ c' _
  exact he c'

theorem Nodes.kid {B : Nat} {tN : TypeId} {v : Value} {ns : List Nd} {kvs : List Value} {w w8 : World} (k1 : kvs.length = ns.length) (k2 : w.ownsRow B tN 6 v ns.length (rowN ns kvs))
    (k3 : ∀ (k : Nat) (n : Nd) (kv : Value), ns[k]? = some n → kvs[k]? = some kv → w.ownsRow B 3 1 kv n.kids.length (n.kids.map iV))
    (k4 : ∀ (j k : Nat) (a b : Value), j ≠ k → kvs[j]? = some a → kvs[k]? = some b → a.ownBlock ≠ none → a.ownBlock ≠ b.ownBlock)
    (u k g capk gL : Nat) (n : Nd) (kv : Value) (hn : ns[u]? = some n) (hkv : kvs[u]? = some kv)
    (hrow8 : w8.ownsRow B 3 1 (.slice (some ⟨g, 0, none⟩) (n.kids.length + 1) capk) (n.kids.length + 1) (n.kids.map iV ++ [iV k]))
    (hkeep : ∀ g', g' < w.heap.size → some g' ≠ kv.ownBlock → w8.heap[g']? = w.heap[g']?) (hg : kv.ownBlock = some g ∨ w.heap.size ≤ g) (hgL : v.ownBlock = some gL) (ht : tN ≠ 3) :
    Nodes B tN v (ns.modify u (fun n => { n with kids := n.kids ++ [k] })) (w8.setCell ⟨gL, u * 6 + 4, none⟩ (.slice (some ⟨g, 0, none⟩) (n.kids.length + 1) capk)) := by
  have hun : u < ns.length := (List.getElem?_eq_some_iff.1 hn).1
  have hku := k3 u n kv hn hkv
  have hLk : kv.ownBlock ≠ some gL := blocks_ne ht k2 hku hgL
  have k2' : w8.ownsRow B tN 6 v ns.length (rowN ns kvs) := by
    refine ⟨k2.1, ?_⟩
    rcases k2.2 with h | ⟨g', cap, cur, a, b, c, d⟩
    · exact .inl h
    · refine .inr ⟨g', cap, cur, a, b, (hkeep g' (Array.getElem?_eq_some_iff.1 c).1 (fun e => ?_)).trans c, d⟩
      rw [a] at hgL
      simp [Value.ownBlock] at hgL
      exact hLk (by rw [← hgL]; exact e.symm)
  obtain ⟨cap, cur, hv, hB, hcell, hnc, hcm, hcs, htk⟩ : ∃ cap cur, v = .slice (some ⟨gL, 0, none⟩) ns.length cap ∧ B ≤ gL ∧ w8.heap[gL]? = some (.cells cur tN (0, 0)) ∧ ns.length ≤ cap ∧ cap ≤ maxLen ∧ cur.size = cap * 6 ∧ cur.toList.take (ns.length * 6) = rowN ns kvs := by
    rcases k2'.2 with ⟨h, _⟩ | ⟨g', cap, cur, a, b, c, d⟩
    · rw [h] at hgL; simp [Value.ownBlock] at hgL
    · rw [a] at hgL
      simp [Value.ownBlock] at hgL
      subst hgL
      exact ⟨cap, cur, a, b, c, d⟩
  have hset := setCell_eq_setRow w8 gL (u * 6 + 4) cur tN (0, 0) (.slice (some ⟨g, 0, none⟩) (n.kids.length + 1) capk) hcell
  rw [hset]
  have hoth : ∀ g', g' ≠ gL → (w8.setRow gL (cur.setIfInBounds (u * 6 + 4) (.slice (some ⟨g, 0, none⟩) (n.kids.length + 1) capk))).heap[g']? = w8.heap[g']? := fun g' h => setRow_other w8 gL g' _ h
  have hkid9 : ∀ {kv2 : Value} {m : Nat} {ys : List Value}, w8.ownsRow B 3 1 kv2 m ys → (w8.setRow gL (cur.setIfInBounds (u * 6 + 4) (.slice (some ⟨g, 0, none⟩) (n.kids.length + 1) capk))).ownsRow B 3 1 kv2 m ys := by
    intro kv2 m ys h
    refine ⟨h.1, ?_⟩
    rcases h.2 with h' | ⟨g', c1, c2, a, b, c, d⟩
    · exact .inl h'
    · refine .inr ⟨g', c1, c2, a, b, (hoth g' ?_).trans c, d⟩
      intro e
      subst e
      rw [c] at hcell
      injection hcell with hcell
      injection hcell with _ e2 _
      exact ht e2.symm
  refine ⟨kvs.set u (.slice (some ⟨g, 0, none⟩) (n.kids.length + 1) capk), by simp [k1], ?_, ?_, ?_⟩
  · rw [rowN_set ns kvs u k n _ k1 hn, List.length_modify]
    refine ⟨by rw [List.length_set, rowN_length ns kvs k1], .inr ⟨gL, cap, _, hv, hB, setRow_heap w8 gL _ _ _ _ hcell, hnc, hcm, by simpa using hcs, ?_⟩⟩
    rw [Array.toList_setIfInBounds, ← htk, List.take_set]
  · intro j m kv2 hj hkv2
    by_cases hju : j = u
    · subst hju
      rw [List.getElem?_modify_eq, hn] at hj
      simp at hj
      subst hj
      rw [List.getElem?_set_self (by omega)] at hkv2
      injection hkv2 with hkv2
      subst hkv2
      simp only [List.length_append, List.length_singleton, List.map_append, List.map_cons, List.map_nil]
      exact hkid9 hrow8
    · rw [List.getElem?_modify_ne _ _ (Ne.symm hju)] at hj
      rw [List.getElem?_set_ne (Ne.symm hju)] at hkv2
      have h0 := k3 j m kv2 hj hkv2
      refine hkid9 ⟨h0.1, ?_⟩
      rcases h0.2 with h' | ⟨g', c1, c2, a, b, c, d⟩
      · exact .inl h'
      · refine .inr ⟨g', c1, c2, a, b, (hkeep g' (Array.getElem?_eq_some_iff.1 c).1 ?_).trans c, d⟩
        intro e
        refine k4 j u kv2 kv hju hkv2 hkv (by rw [a]; simp [Value.ownBlock]) ?_
        rw [a, ← e]; rfl
  · intro j m a b hjm ha hb hne
    have hlt : ∀ {q : Nat} {x : Value} {gg : Nat}, kvs[q]? = some x → x.ownBlock = some gg → gg < w.heap.size := by
      intro q x gg hq hx
      have hql : q < ns.length := by have := (List.getElem?_eq_some_iff.1 hq).1; omega
      exact (ownBlock_lt (k3 q ns[q] x (List.getElem?_eq_getElem hql) hq) hx).2.1
    by_cases hju : j = u
    · subst hju
      rw [List.getElem?_set_self (by omega)] at ha
      rw [List.getElem?_set_ne hjm] at hb
      injection ha with ha
      subst ha
      intro e
      have hbg : b.ownBlock = some g := by rw [← e]; rfl
      rcases hg with hg | hg
      · exact k4 m j b kv (Ne.symm hjm) hb hkv (by rw [hbg]; simp) (by rw [hbg, hg])
      · have := hlt hb hbg; omega
    · rw [List.getElem?_set_ne (Ne.symm hju)] at ha
      by_cases hmu : m = u
      · subst hmu
        rw [List.getElem?_set_self (by omega)] at hb
        injection hb with hb
        subst hb
        intro e
        have hag : a.ownBlock = some g := by rw [e]; rfl
        rcases hg with hg | hg
        · exact k4 j m a kv hjm ha hkv hne (by rw [hag, hg])
        · have := hlt ha hag; omega
      · rw [List.getElem?_set_ne (Ne.symm hmu)] at hb
        exact k4 j m a b hjm ha hb hne
end Go.Proofs.YtgiaflcbiipafabGreatDoor
