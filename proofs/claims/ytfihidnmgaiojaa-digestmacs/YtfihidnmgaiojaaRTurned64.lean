/-
  The document's answer: turned, of words of 64 bits.
-/
import Derived.Test.YtfihidnmgaiojaaRSched64
import Derived.Test.YtfihidnmgaiojaaBlock64
import Derived.Deep.WholeRow
namespace Go.Proofs.Ytfihidnmgaiojaa
open Go.RowKit
set_option linter.unusedVariables false
section
attribute [local go_sem] andS orS xorS notS addS addSw shlS shlSw sarS wordSx ex_xor ex_and ex_or sarX set_not set_ex set_add alloc_drewN

/-- Eight words, as the document's answer holds them. -/
def ist64 (s : St 64) : Array Value := #[.int .i64 (eS (s.a)), .int .i64 (eS (s.b)), .int .i64 (eS (s.c)), .int .i64 (eS (s.d)), .int .i64 (eS (s.e)), .int .i64 (eS (s.f)), .int .i64 (eS (s.g)), .int .i64 (eS (s.h))]

theorem ist64_cells {w : World} {g : Nat} {v : St 64} {t : TypeId} {fr : Nat × Nat} (h : w.heap[g]? = some (.cells (ist64 v) t fr)) :
    w.cell? ⟨g, 0, none⟩ = some (.int .i64 (eS (v.a))) ∧ w.cell? ⟨g, 1, none⟩ = some (.int .i64 (eS (v.b))) ∧ w.cell? ⟨g, 2, none⟩ = some (.int .i64 (eS (v.c))) ∧ w.cell? ⟨g, 3, none⟩ = some (.int .i64 (eS (v.d))) ∧
    w.cell? ⟨g, 4, none⟩ = some (.int .i64 (eS (v.e))) ∧ w.cell? ⟨g, 5, none⟩ = some (.int .i64 (eS (v.f))) ∧ w.cell? ⟨g, 6, none⟩ = some (.int .i64 (eS (v.g))) ∧ w.cell? ⟨g, 7, none⟩ = some (.int .i64 (eS (v.h))) := by
  refine ⟨?_, ?_, ?_, ?_, ?_, ?_, ?_, ?_⟩ <;> (rw [cell_of_row _ _ _ _ _ _ h]; rfl)

theorem RWay64.up {w w' : World} {p : Way 64} {b B : Nat} (h : RWay64 w p b) (hb : Below B w w') (h1 : b < B) : RWay64 w' p b :=
  ⟨h.len, b_cell hb h1 h.f1, b_cell hb h1 h.f2, b_cell hb h1 h.f3, b_cell hb h1 h.n1, b_cell hb h1 h.n2, b_cell hb h1 h.n3, b_cell hb h1 h.e1, b_cell hb h1 h.e2, b_cell hb h1 h.e3, b_cell hb h1 h.a1, b_cell hb h1 h.a2, b_cell hb h1 h.a3, h.hf, h.hn, h.he, h.ha⟩

/-- What a round reads. -/
structure RC64 (wx : World) (p : Way 64) (B0 b kb g g1 k : Nat) (v3 : Value) (v : St 64) (y x : BitVec 64) : Prop where
  c0 : wx.cell? ⟨B0, 0, none⟩ = some (.int .i64 64)
  c1 : wx.cell? ⟨B0, 1, none⟩ = some (.int .i64 80)
  c2 : wx.cell? ⟨B0, 2, none⟩ = some (.slice (some ⟨b, 0, none⟩) 12 12)
  c3 : wx.cell? ⟨B0, 3, none⟩ = some v3
  c4 : wx.cell? ⟨B0, 4, none⟩ = some (.slice (some ⟨kb, 0, none⟩) 80 80)
  way : RWay64 wx p b
  m0 : wx.cell? ⟨g, 0, none⟩ = some (.int .i64 (eS (v.a)))
  m1 : wx.cell? ⟨g, 1, none⟩ = some (.int .i64 (eS (v.b)))
  m2 : wx.cell? ⟨g, 2, none⟩ = some (.int .i64 (eS (v.c)))
  m3 : wx.cell? ⟨g, 3, none⟩ = some (.int .i64 (eS (v.d)))
  m4 : wx.cell? ⟨g, 4, none⟩ = some (.int .i64 (eS (v.e)))
  m5 : wx.cell? ⟨g, 5, none⟩ = some (.int .i64 (eS (v.f)))
  m6 : wx.cell? ⟨g, 6, none⟩ = some (.int .i64 (eS (v.g)))
  m7 : wx.cell? ⟨g, 7, none⟩ = some (.int .i64 (eS (v.h)))
  ky : wx.cell? ⟨kb, k, none⟩ = some (.int .i64 (eS (y)))
  lx : wx.cell? ⟨g1, k, none⟩ = some (.int .i64 (eS (x)))

theorem RC64.up {wx wy : World} {p : Way 64} {B0 b kb g g1 k : Nat} {v3 : Value} {v : St 64} {y x : BitVec 64} (h : RC64 wx p B0 b kb g g1 k v3 v y x) (hb : Below wx.heap.size wx wy) : RC64 wy p B0 b kb g g1 k v3 v y x :=
  ⟨b_self hb h.c0, b_self hb h.c1, b_self hb h.c2, b_self hb h.c3, b_self hb h.c4, h.way.up hb (World.block_lt_of_cell? _ _ h.way.f1), b_self hb h.m0, b_self hb h.m1, b_self hb h.m2, b_self hb h.m3, b_self hb h.m4, b_self hb h.m5, b_self hb h.m6, b_self hb h.m7, b_self hb h.ky, b_self hb h.lx⟩

theorem wp_copy864 {P : Program} {ops : Array Oper} {rest : List Oper} {o : Oper} {a : Act} {Q : Exit → Act → World → Prop} {w : World} (hgd : o.guard = none) (d s : Operand) (dT sT : TypeId)
    (ho : o.op = .call { callee := .builtin .copy, args := #[d, s], argTypes := #[dT, sT] }) (e : TypeId) (hu : P.underlying dT = some (.slice e)) (hs1 : (P.info? e).map (·.size) = some 1)
    (g hg : Nat) (t : TypeId) (c : Array Value) (st : St 64) (hd : a.eval d = .slice (some ⟨g, 0, none⟩) 8 8) (hs : a.eval s = .slice (some ⟨hg, 0, none⟩) 8 8) (hc : c.size = 8)
    (h1 : w.heap[g]? = some (.cells c t (0, 0))) (h2 : w.heap[hg]? = some (.cells (ist64 st) t (0, 0)))
    (h : ∀ v, wpList P ops Q rest (a.put o.dst v) (w.setRow g (ist64 st))) : wpList P ops Q (o :: rest) a w := by
  refine wpList_plain hgd fun K hK => ?_
  have hf := run_firstCells_some (P := P) w 1 8 ⟨hg, 0, none⟩ 8 8 (ist64 st).toList rfl (fun j u hj => by
    have hadd : (⟨hg, 0, none⟩ : Addr).add j = ⟨hg, j, none⟩ := by unfold Addr.add; split <;> simp_all
    rw [hadd, cell_of_row w hg j _ _ _ h2]; simpa using hj)
  have hst := run_storeCells_at P g 0 t (ist64 st).toList 0 c w h1 (by rw [hc]; simp [ist64]) (by intro v hv; simp [ist64] at hv; rcases hv with rfl | rfl | rfl | rfl | rfl | rfl | rfl | rfl <;> rfl)
  have e2 : (List.take (0 + 0) c.toList ++ (ist64 st).toList ++ List.drop (0 + 0 + (ist64 st).toList.length) c.toList).toArray = ist64 st := by
    rw [List.drop_of_length_le (by simp [ist64, hc])]; simp
  rw [e2] at hst
  have hr : (Builtin.copy_ #[dT, sT] o.type #[.slice (some ⟨g, 0, none⟩) 8 8, .slice (some ⟨hg, 0, none⟩) 8 8]).run P w = .ok (goInt 8) (w.setRow g (ist64 st)) := by
    cases hi : P.info? e with
    | none => simp [hi] at hs1
    | some i =>
      have hsz : i.size = 1 := by simpa [hi] using hs1
      have hm : Nat.min 8 8 = 8 := rfl
      simp [Builtin.copy_, run_underlying hu, Builtin.lenOf, sizeOf, typeInfo, hi, hsz, hm, hf, hst]
  unfold Oper.wp execOp
  simp only [ho, resolve, invoke, builtin, Sem.run_bind, Sem.run_pure, Result.andThen_ok, List.map_toArray, List.map_cons, List.map_nil, hd, hs, hr]
  exact hK _ _ (h _)

/-- The eight cells while v is put to s: i of them are done. -/
def imix64 (s v : St 64) (i : Nat) : Array Value := ((List.range 8).map fun j => if j < i then Value.int .i64 (eS (at64 s j + at64 v j)) else Value.int .i64 0).toArray
theorem imix64_0 (s v : St 64) : imix64 s v 0 = #[.int .i64 0, .int .i64 0, .int .i64 0, .int .i64 0, .int .i64 0, .int .i64 0, .int .i64 0, .int .i64 0] := by simp [imix64, List.range, List.range.loop]
theorem imix64_8 (s v : St 64) : imix64 s v 8 = ist64 (plusS s v) := by simp [imix64, ist64, at64, plusS, List.range, List.range.loop]
theorem imix64_get (s v : St 64) (i : Nat) (h : i < 8) : (imix64 s v i)[i]? = some (.int .i64 0) := by simp [imix64, h]
theorem imix64_set (s v : St 64) (i : Nat) (h : i < 8) : (imix64 s v i).setIfInBounds i (.int .i64 (eS (at64 s i + at64 v i))) = imix64 s v (i + 1) := by
  apply Array.ext_getElem?
  intro j
  by_cases hj : j < 8
  · rw [Array.getElem?_setIfInBounds]
    by_cases he : i = j
    · subst he; rw [if_pos rfl, if_pos (by simp [imix64, h])]; simp [imix64, h]
    · rw [if_neg he]
      simp only [imix64, List.getElem?_toArray, List.getElem?_map, List.getElem?_range hj, Option.map_some]
      by_cases h1 : j < i
      · rw [if_pos h1, if_pos (by omega)]
      · rw [if_neg h1, if_neg (by omega)]
  · rw [Array.getElem?_eq_none (by simp [imix64]; omega), Array.getElem?_eq_none (by simp [imix64]; omega)]
theorem ist64_get (s : St 64) (i : Nat) (h : i < 8) : (ist64 s)[i]? = some (.int .i64 (eS (at64 s i))) := by
  match i, h with
  | 0, _ => rfl
  | 1, _ => rfl
  | 2, _ => rfl
  | 3, _ => rfl
  | 4, _ => rfl
  | 5, _ => rfl
  | 6, _ => rfl
  | 7, _ => rfl

theorem make8_64 (W : World) : Sem.run Try.prog (Instr.makeSlice 48 (.int .i64 8) (.int .i64 8)) W = .ok (.slice (some ⟨W.heap.size, 0, none⟩) 8 8) (W.alloc (.cells #[.int .i64 0, .int .i64 0, .int .i64 0, .int .i64 0, .int .i64 0, .int .i64 0, .int .i64 0, .int .i64 0] 3)) := by kernel_rfl


set_option maxRecDepth 100000 in
set_option maxHeartbeats 1000000 in
theorem rturned64 (b kb hg : Nat) (st : St 64) (s : ByteArray) (w : World) (p : Way 64) (hs : s.size = 128) (hR : RWay64 w p b) (hK : ∀ i, i < 80 → w.cell? ⟨kb, i, none⟩ = some (.int .i64 (eS (p.K.getD i 0))))
    (hh : w.heap[hg]? = some (.cells (ist64 st) 3 (0, 0))) (v3 : Value) :
    Calls Try.prog 27 #[.agg #[.int .i64 64, .int .i64 80, .slice (some ⟨b, 0, none⟩) 12 12, v3, .slice (some ⟨kb, 0, none⟩) 80 80], .slice (some ⟨hg, 0, none⟩) 8 8, .string s] w
      fun e w' => ∃ g, e = .returned (.slice (some ⟨g, 0, none⟩) 8 8) ∧ w'.heap[g]? = some (.cells (ist64 (blockS p 8 st s.data.toList)) 3 (0, 0)) ∧ w.heap.size ≤ g ∧ Below w.heap.size w w' := by
  have hlt : b < w.heap.size := World.block_lt_of_cell? w _ hR.f1
  have hltk : kb < w.heap.size := World.block_lt_of_cell? w _ (hK 0 (by omega))
  have hlth : hg < w.heap.size := (Array.getElem?_eq_some_iff.1 hh).1
  have HS1 : Hid ((Try.prog.info? 3).map (·.size) = some 1) := by show (Try.prog.info? 3).map (·.size) = some 1; kernel_rfl
  have hmk := make8_64
  go_enter Try.func27, Try.ntmps27
  go_wp2_with fail
  refine (rsched64 b s _ p hs (hR.up (bal (brf w) _) hlt) v3 _).mono ?_
  rintro e1 w1 ⟨g1, cap1, rfl, ho1, hb1⟩
  have hg1 : g1 < w1.heap.size := (ho1.lt g1 rfl).2
  have hg1w : w.heap.size + 1 ≤ g1 := by have := (ho1.lt g1 rfl).1; simpa using this
  have hB1 : Below w.heap.size w w1 := (bal (brf w) _).trans (hb1.mono (by simp))
  have hz1 := hb1.size
  generalize hws : sched p 8 s.data.toList = ws at ho1
  have HWS : Hid (sched p 8 s.data.toList = ws) := hws
  have hwl : ws.length = 80 := by have := ho1.1; simpa using this
  have sc : ∀ i, i < 80 → w1.cell? ⟨g1, i, none⟩ = some (.int .i64 (eS (ws.getD i 0))) := fun i hi => by
    rw [ho1.cellAt i (by omega), List.getElem?_map, List.getElem?_eq_getElem (by omega)]
    simp [iv64, List.getD, List.getElem?_eq_getElem (show i < ws.length by omega)]
  have wc : ∀ o v, (w.alloc (.cells #[.int .i64 64, .int .i64 80, .slice (some ⟨b, 0, none⟩) 12 12, v3, .slice (some ⟨kb, 0, none⟩) 80 80] 50)).cell? ⟨w.heap.size, o, none⟩ = some v → w1.cell? ⟨w.heap.size, o, none⟩ = some v := fun o v h => b_cell hb1 (by simp) h
  have a0 := wc 0 _ (by simp; rfl)
  have a1 := wc 1 _ (by simp; rfl)
  have a2 := wc 2 _ (by simp; rfl)
  have a3 := wc 3 _ (by simp; rfl)
  have a4 := wc 4 _ (by simp; rfl)
  have H0 : Hid (w1.cell? ⟨w.heap.size, 0, none⟩ = some (.int .i64 64) ∧ w1.cell? ⟨w.heap.size, 1, none⟩ = some (.int .i64 80) ∧ w1.cell? ⟨w.heap.size, 2, none⟩ = some (.slice (some ⟨b, 0, none⟩) 12 12) ∧ w1.cell? ⟨w.heap.size, 3, none⟩ = some v3 ∧ w1.cell? ⟨w.heap.size, 4, none⟩ = some (.slice (some ⟨kb, 0, none⟩) 80 80)) := ⟨a0, a1, a2, a3, a4⟩
  have hh1 : w1.heap[hg]? = some (.cells (ist64 st) 3 (0, 0)) := by rw [hB1.block _ hlth]; exact hh
  have HH1 : Hid (∀ o, (w1.alloc o).heap[hg]? = some (.cells (ist64 st) 3 (0, 0))) := fun o => by rw [heap_alloc_old _ _ (Array.getElem?_eq_some_iff.1 hh1).1]; exact hh1
  have SC : Hid _ := sc
  have HB1 : Hid _ := hB1
  have HK1 : Hid (∀ i, i < 80 → w1.cell? ⟨kb, i, none⟩ = some (.int .i64 (eS (p.K.getD i 0)))) := fun i hi => b_cell hB1 hltk (hK i hi)
  have HR1 : Hid (RWay64 w1 p b) := hR.up hB1 hlt
  clear hws ho1 hb1 wc a0 a1 a2 a3 a4 sc hB1 hK hwl hh1
  go_wp2_with (refine wp_copy864 rfl _ _ 48 48 rfl 3 Try.underlying48 HS1.out w1.heap.size hg 3 _ st rfl rfl rfl (heap_alloc_new _ _) (HH1.out _) ?_; intro vc; rw [World.setRow_alloc_new])
  go_loopw [8, 9] (fun v i wr => ∃ (k g : Nat), k ≤ 80 ∧ i = .int .i64 k ∧ v = .slice (some ⟨g, 0, none⟩) 8 8 ∧ wr.heap[g]? = some (.cells (ist64 (roundsTo p st ws k)) 3 (0, 0)) ∧ w1.heap.size ≤ g ∧ Below w1.heap.size w1 wr) (fun _ i _ => 80 - (intOf i).toNat)
  case atStart => exact ⟨0, w1.heap.size, by omega, rfl, rfl, heap_alloc_new _ _, Nat.le_refl _, bal (brf _) _⟩
  case round =>
    obtain ⟨k, g, hk, rfl, rfl, hgv, hgl, hb⟩ := hrel
    have hc1 : wr.cell? ⟨w.heap.size, 1, none⟩ = some (.int .i64 80) := b_self hb H0.out.2.1
    by_cases hlt2 : k < 80
    · generalize hv : roundsTo p st ws k = v at hgv
      have HV : Hid (roundsTo p st ws k = v) := hv
      clear hv
      generalize hy : p.K.getD k 0 = y
      generalize hx : ws.getD k 0 = x
      have HYX : Hid (p.K.getD k 0 = y ∧ ws.getD k 0 = x) := ⟨hy, hx⟩
      obtain ⟨m0, m1, m2, m3, m4, m5, m6, m7⟩ := ist64_cells hgv
      have rc : RC64 wr p w.heap.size b kb g g1 k v3 v y x := ⟨b_self hb H0.out.1, hc1, b_self hb H0.out.2.2.1, b_self hb H0.out.2.2.2.1, b_self hb H0.out.2.2.2.2, HR1.out.up hb (World.block_lt_of_cell? _ _ HR1.out.f1), m0, m1, m2, m3, m4, m5, m6, m7,
        by have := b_self hb (HK1.out k hlt2); rw [hy] at this; exact this, by have := b_self hb (SC.out k hlt2); rw [hx] at this; exact this⟩
      have HB : Hid _ := hb
      have c0 := rc.c0
      have c2 := rc.c2
      have c3 := rc.c3
      have c4 := rc.c4
      clear hy hx hgv hb m1 m2 m3 m5 m6 m7
      have hi1 : (k : Int) < 80 := by omega
      have hi2 : (0 : Int) ≤ (k : Int) := by omega
      have hd : decide ((k : Int) < 80) = true := by simp; omega
      go_wp2_with fail
      refine (rmixE64 v.e b wr p rc.way v3 _).mono ?_
      rintro e2 w2 ⟨rfl, k2, hw2⟩
      have hb2 : Below wr.heap.size wr w2 := by rw [hw2]; exact bdN (bal (brf _) _) _
      have rc2 := rc.up hb2
      have HB2 : Hid _ := hb2
      clear hw2 hb2 c0 hc1 c2 c3 c4 m0 m4 rc
      have c0 := rc2.c0
      have c1 := rc2.c1
      have c2 := rc2.c2
      have c3 := rc2.c3
      have c4 := rc2.c4
      go_wp2_with fail
      refine (rmixA64 v.a b w2 p rc2.way v3 _).mono ?_
      rintro e3 w3 ⟨rfl, k3, hw3⟩
      have hb3 : Below w2.heap.size w2 w3 := by rw [hw3]; exact bdN (bal (brf _) _) _
      have rc3 := rc2.up hb3
      have HB3 : Hid _ := hb3
      clear hw3 hb3 c0 c1 c2 c3 c4 rc2
      have c0 := rc3.c0
      have c4 := rc3.c4
      have m5 := rc3.m5
      have m6 := rc3.m6
      have m7 := rc3.m7
      have ky := rc3.ky
      have lx := rc3.lx
      have hsg : IntKind.i64.signed = true := rfl
      go_wp2_with fail
      go_quiet ((go_at_call 49; exact Calls.quiet_of_same (rword64 (~~~(v.e)) _)))
      go_wp2_with fail
      generalize hw4 : w3.drewN nq = w4
      have hb4 : Below w3.heap.size w3 w4 := by rw [← hw4]; exact bdN (brf _) _
      have rc4 := rc3.up hb4
      have HB4 : Hid _ := hb4
      clear hw4 hb4 c0 c4 m5 m6 m7 ky lx rc3
      have m1 := rc4.m1
      have m2 := rc4.m2
      go_quiet (fail)
      go_wp2_with fail
      generalize hw5 : w4.drewN nq = w5
      have hb5 : Below w4.heap.size w4 w5 := by rw [← hw5]; exact bdN (brf _) _
      have rc5 := rc4.up hb5
      have HB5 : Hid _ := hb5
      clear hw5 hb5 m1 m2 rc4
      have c0 := rc5.c0
      have m1 := rc5.m1
      have m2 := rc5.m2
      have m3 := rc5.m3
      have m5 := rc5.m5
      have m6 := rc5.m6
      clear rc5
      go_region_held3 (fun w' => w'.cell? ⟨w.heap.size, 0, none⟩ = some (.int .i64 64) ∧ w'.cell? ⟨g, 1, none⟩ = some (.int .i64 (eS (v.b))) ∧ w'.cell? ⟨g, 2, none⟩ = some (.int .i64 (eS (v.c))) ∧ w'.cell? ⟨g, 3, none⟩ = some (.int .i64 (eS (v.d))) ∧ w'.cell? ⟨g, 5, none⟩ = some (.int .i64 (eS (v.f))) ∧ w'.cell? ⟨g, 6, none⟩ = some (.int .i64 (eS (v.g)))) (go_keep) (first | (go_at_call 49; refine (rword64 _ _).mono ?_; rintro e6 w6 ⟨rfl, hw6⟩; rw [hw6]; clear hw6 w6))
      all_goals
        have hB5 : Below w1.heap.size w1 w5 := by
          have t1 := HB.out.trans (HB2.out.mono HB.out.size)
          have t2 := t1.trans (HB3.out.mono t1.size)
          have t3 := t2.trans (HB4.out.mono t2.size)
          exact t3.trans (HB5.out.mono t3.size)
        have hrt : ist64 (roundsTo p st ws (k + 1)) = #[.int .i64 (eS (v.h + sig v.e p.e1 p.e2 p.e3 + (v.e &&& v.f ^^^ ~~~v.e &&& v.g) + y + x + (sig v.a p.a1 p.a2 p.a3 + (v.a &&& v.b ^^^ v.a &&& v.c ^^^ v.b &&& v.c)))), .int .i64 (eS (v.a)), .int .i64 (eS (v.b)), .int .i64 (eS (v.c)),
            .int .i64 (eS (v.d + (v.h + sig v.e p.e1 p.e2 p.e3 + (v.e &&& v.f ^^^ ~~~v.e &&& v.g) + y + x))), .int .i64 (eS (v.e)), .int .i64 (eS (v.f)), .int .i64 (eS (v.g))] := by
          rw [roundsTo, HV.out, HYX.out.1, HYX.out.2]
          unfold ist64 round tee you
          rw [BitVec.add_assoc _ y x]
        have HB6 : Hid _ := hB5
        have HRT : Hid _ := hrt
        clear hB5 hrt
        go_wp2_with fail
        refine ⟨⟨k + 1, w5.heap.size, by omega, by go_num, rfl, ?_, HB6.out.size, (bal HB6.out _).drew⟩, ?_⟩
        · rw [heap_drew, heap_alloc_new, HRT.out]
        · simp [intOf]; omega
    · obtain rfl : k = 80 := by omega
      clear hlt2 hk
      generalize hv : roundsTo p st ws 80 = v at hgv
      have HV : Hid (roundsTo p st ws 80 = v) := hv
      have HG : Hid _ := hgv
      have HB : Hid _ := hb
      clear hv hgv hb
      have hgl2 : g < wr.heap.size := (Array.getElem?_eq_some_iff.1 HG.out).1
      have hw1r := HB.out.size
      obtain ⟨wA, hwA⟩ : ∃ x, x = wr := ⟨wr, rfl⟩
      subst hwA
      go_wp2_with fail
      go_loopw [17] (fun i wx => ∃ j : Nat, j ≤ 8 ∧ i = .int .i64 j ∧ wx.heap[wA.heap.size]? = some (.cells (imix64 st v j) 3 (0, 0)) ∧ Below wA.heap.size wA wx) (fun i _ => 8 - (intOf i).toNat)
      case atStart => exact ⟨0, by omega, rfl, by rw [imix64_0, heap_alloc_new], bal (brf _) _⟩
      case round =>
        obtain ⟨j, hj, rfl, ho, hbx⟩ := hrel
        by_cases hlt3 : j < 8
        · have hB0 : w.heap.size < w1.heap.size := by omega
          have t1 : Below w.heap.size w wA := HB1.out.trans (HB.out.mono HB1.out.size)
          have hhx : wr.heap[hg]? = some (.cells (ist64 st) 3 (0, 0)) := by rw [hbx.block _ (by have := t1.size; omega), t1.block _ hlth]; exact hh
          have hvx : wr.heap[g]? = some (.cells (ist64 v) 3 (0, 0)) := by rw [hbx.block _ hgl2]; exact HG.out
          have c0 : wr.cell? ⟨w.heap.size, 0, none⟩ = some (.int .i64 64) := b_self hbx (b_self HB.out H0.out.1)
          have ch : wr.cell? ⟨hg, j, none⟩ = some (.int .i64 (eS (at64 st j))) := by rw [cell_of_row _ _ _ _ _ _ hhx, ist64_get _ _ hlt3]
          have cv : wr.cell? ⟨g, j, none⟩ = some (.int .i64 (eS (at64 v j))) := by rw [cell_of_row _ _ _ _ _ _ hvx, ist64_get _ _ hlt3]
          have co : wr.cell? ⟨wA.heap.size, j, none⟩ = some (.int .i64 0) := by rw [cell_of_row _ _ _ _ _ _ ho, imix64_get _ _ _ hlt3]
          have cf : wr.frozen? ⟨wA.heap.size, j, none⟩ = false := frozen_of_row _ _ _ _ _ ho
          have n1 : wA.heap.size ≠ hg := by have := t1.size; omega
          have n2 : wA.heap.size ≠ g := by omega
          have n3 : wA.heap.size ≠ w.heap.size := by omega
          have HO : Hid _ := ho
          have HBX : Hid _ := hbx
          clear ho hbx hhx hvx t1
          generalize hp1 : at64 st j = q1 at ch
          generalize hp2 : at64 v j = q2 at cv
          have HQ : Hid (at64 st j = q1 ∧ at64 v j = q2) := ⟨hp1, hp2⟩
          clear hp1 hp2
          have hi1 : (j : Int) < 8 := by omega
          have hi2 : (0 : Int) ≤ (j : Int) := by omega
          go_wp2_with fail
          go_region_held3 (fun w' => w'.cell? ⟨w.heap.size, 0, none⟩ = some (.int .i64 64) ∧ w'.cell? ⟨hg, j, none⟩ = some (.int .i64 (eS (q1))) ∧ w'.cell? ⟨g, j, none⟩ = some (.int .i64 (eS (q2)))) (go_keep) (first | (go_at_call 49; refine (rword64 _ _).mono ?_; rintro e6 w6 ⟨rfl, hw6⟩; rw [hw6]; clear hw6 w6))
          all_goals
            go_wp2_with fail
            refine ⟨?_, by simp [intOf]; omega⟩
            repeat apply Exists.intro
            refine ⟨?_, rfl⟩
            refine ⟨j + 1, by omega, by go_num, ?_, (HBX.out.setCell (Nat.le_refl _) _).drew⟩
            rw [heap_drew, heap_setCell_same _ _ _ _ _ _ HO.out, ← imix64_set _ _ _ hlt3, HQ.out.1, HQ.out.2]
        · obtain rfl : j = 8 := by omega
          rw [imix64_8] at ho
          have HO : Hid _ := ho
          have HBX : Hid _ := hbx
          clear ho hbx
          go_wp2_with fail
          go_ret
          have t1 := HB1.out.trans (HB.out.mono HB1.out.size)
          have t2 := t1.trans (HBX.out.mono t1.size)
          refine ⟨_, rfl, ?_, t1.size, t2⟩
          rw [blockS, HWS.out, hR.len, HV.out]; exact HO.out
end
end Go.Proofs.Ytfihidnmgaiojaa
