import Derived.Test.YtoijppmkkhgkdacGreatDoorX5
/-
  The code's writer: truth and integers.
-/
namespace Go.Proofs.YtoijppmkkhgkdacGreatDoor
open Go.Shelf Go.RowKit
set_option linter.unusedVariables false
section
variable {P : Program} {ρ : Ren}
theorem AQ.front {e : TypeId} {B g1 cap1 : Nat} {sv : Value} {l ds : List UInt8} {b : UInt8} {w w1 w2 : World} {r : Ending} (o : Obj) (hg1 : (w.alloc o).grownBy w1 sv.ownBlock) (hgg : sv.ownBlock = some g1 ∨ g1 = w.heap.size + 1)
    (h : AQ e B (.slice (some ⟨g1, 0, none⟩) (l ++ [b]).length cap1) (l ++ [b]) ds w1 r w2) : AQ e B sv l (b :: ds) w r w2 := by
  obtain ⟨g, cap, e1, e2, e3, e4⟩ := h
  have hl : (l ++ [b]).length + ds.length = l.length + (b :: ds).length := by simp; omega
  have hm : (l ++ [b]).map byteV ++ ds.map byteV = l.map byteV ++ (b :: ds).map byteV := by simp
  rw [hl] at e1 e2
  rw [hm] at e2
  have hs1 := hg1.size
  have hs3 := e3.size
  simp only [World.alloc] at hs1
  simp only [Array.size_push] at hs1
  refine ⟨g, cap, e1, e2, ?_, ?_⟩
  · refine ⟨e3.os.trans hg1.os, e3.tape.trans hg1.tape, e3.output.trans hg1.output, by omega, fun k hk hn => ?_⟩
    have h1 := hg1.block k (by simp; omega) hn
    rw [heap_alloc_old _ _ hk] at h1
    refine (e3.block k (by omega) (fun ek => ?_)).trans h1
    simp only [Value.ownBlock, Option.some.injEq] at ek
    subst ek
    rcases hgg with h | h
    · exact hn h.symm
    · omega
  · simp only [Value.ownBlock, Option.some.injEq] at e4
    rcases e4 with rfl | e4
    · rcases hgg with h | h
      · exact .inl h
      · exact .inr (by omega)
    · exact .inr (by omega)
set_option maxHeartbeats 6400000 in
set_option maxRecDepth 100000 in
theorem intAny (L : LaysM.n249 P ρ) (B : Nat) (i : Int) (h0 : -9223372036854775808 ≤ i) (h1 : i ≤ 9223372036854775807) (sv : Value) (l : List UInt8) (w : World) (hown : w.ownsRow B (ρ.t 5) 1 sv l.length (l.map byteV)) (hBw : B ≤ w.heap.size) (hlim : l.length ≤ 4000000000)
    (htab : Lib.TabBelow P B w "internal/strconv.uint64pow10" .u64 Lib.pow10Tab) :
    Calls P (ρ.f 249) #[sv, .int .i64 i, .int .i64 10] w fun e w' => AQ (ρ.t 5) B sv l (Lib.itoa i) w e w' := by
  have mixed := L.mixed
  have t5 := L.t5; have a5 := L.a5; have z5 := L.z5; have v5 := L.v5
  have t37 := L.t37; have u37 := run_underlying L.t37; have a37 := L.a37; have z37 := L.z37; have v37 := L.v37
  have t2 := L.t2; have a2 := L.a2; have z2 := L.z2; have v2 := L.v2
  have t3 := L.t3; have a3 := L.a3; have z3 := L.z3; have v3 := L.v3
  have t53 := L.t53; have a53 := L.a53; have z53 := L.z53; have v53 := L.v53
  have t4 := L.t4; have a4 := L.a4; have z4 := L.z4; have v4 := L.v4
  have e288 : ∀ args w, (callFunc (ρ.f 288) args).run P w = .ok (.enter (ρ.f 288) args) w := enters_of L.f288 (by kernel_rfl) rfl
  obtain ⟨i0, hi, hz0, hz1, hz2⟩ := info_parts L.i5
  have H : Hid (w.ownsRow B (ρ.t 5) 1 sv l.length (l.map byteV)) := hown
  have HO : Hid (∀ o, (w.alloc o).ownsRow B (ρ.t 5) 1 sv l.length (l.map byteV)) := fun o => hown.alloc o
  have HLT : Hid (∀ k, sv.ownBlock = some k → B ≤ k) := fun k hk => (ownBlock_lt hown hk).1
  obtain ⟨ad, cap, rfl⟩ : ∃ ad cap, sv = .slice ad l.length cap := by
    rcases hown.2 with ⟨a, b⟩ | ⟨g, c, cu, a, _⟩
    · exact ⟨none, 0, by rw [a, b]⟩
    · exact ⟨_, _, a⟩
  clear hown
  by_cases hneg : i < 0
  · obtain ⟨u, rfl⟩ : ∃ u : Nat, i = -(u : Int) := ⟨i.natAbs, by omega⟩
    have hu1 : 1 ≤ u := by omega
    have hu64 : u < 18446744073709551616 := by omega
    have hwr : IntKind.u64.wrap (-IntKind.u64.wrap (-(u : Int))) = (u : Int) := by rw [IntKind.wrap_u64, IntKind.wrap_u64]; omega
    rw [Lib.itoa_neg u hu1]
    go_enter L.f249, Body.n249_ntmps ρ
    go_wp2_with (at_builtin; refine wpList_append_lies _ rfl _ _ (ρ.t 37) rfl B (ρ.t 5) i0 (.int .u8 0) 1 1 L.t37 hi hz0 hz1 hz2 rfl (by decide) _ l.length (l.map byteV) rfl (HO.out _) ⟨w.heap.size, 0, none⟩ 1 1 [Value.int .u8 45] rfl rfl (by intro j u' hj; match j, hj with | 0, hj => simp at hj; subst hj; simp [Addr.add]) (by intro u' hu'; simp at hu'; subst hu'; rfl) (by decide) (by unfold maxLen; omega) (by omega) (by simp; omega) (w.heap.size + 1) (by simp) ?_)
    intro g1 cap1 w1 ho1 hg1 hgg1 _
    have ho1' : w1.ownsRow B (ρ.t 5) 1 (.slice (some ⟨g1, 0, none⟩) (l ++ [45]).length cap1) (l ++ [45]).length ((l ++ [45]).map byteV) := by
      have e45 : (l ++ [45]).map byteV = l.map byteV ++ [Value.int .u8 45] := by simp [byteV]
      rw [e45, List.length_append]; exact ho1
    have hb1 : Below B w w1 := ((Below.refl B w).alloc hBw _).grown hg1 (by simp; omega) HLT.out
    have hc := uintAny { L with } B u hu64 _ (l ++ [45]) w1 ho1' (by have := hb1.size; omega) (by simp; omega) (htab w1 hb1)
    have HF : Hid (∀ {r : Ending} {w2 : World}, AQ (ρ.t 5) B (.slice (some ⟨g1, 0, none⟩) (l ++ [45]).length cap1) (l ++ [45]) (Lib.decDigits u) w1 r w2 → AQ (ρ.t 5) B (.slice ad l.length cap) l (45 :: Lib.decDigits u) w r w2) := fun h => AQ.front _ hg1 hgg1 h
    have hll : (l ++ [45]).length = l.length + 1 := by simp
    rw [hll] at hc HF
    clear ho1 ho1' hg1 hgg1 hb1
    go_wp2_with (go_at_fn (ρ.f 288); refine hc.mono ?_; rintro e w2 hq; have HQ := Lib.hid (HF.out hq); obtain ⟨g2, cap2, rfl, _, _, _⟩ := hq)
    go_wp2
    go_ret
    have h9 := HQ.out
    rw [List.length_append] at h9
    exact h9
  · obtain ⟨u, rfl⟩ : ∃ u : Nat, i = u := ⟨i.toNat, by omega⟩
    have hu64 : u < 18446744073709551616 := by omega
    rw [Lib.itoa_nonneg]
    have hc := uintAny { L with } B u hu64 _ l w H.out hBw (by omega) htab.here
    go_enter L.f249, Body.n249_ntmps ρ
    go_wp2_with (go_at_fn (ρ.f 288); refine hc.mono ?_; rintro e w2 hq; have HQ := Lib.hid hq; obtain ⟨g2, cap2, rfl, _, _, _⟩ := hq)
    go_wp2
    first | go_ret | go_ret2
    exact HQ.out
set_option maxRecDepth 100000 in
theorem intPub (L : LaysM.n176 P ρ) (B : Nat) (i : Int) (h0 : -9223372036854775808 ≤ i) (h1 : i ≤ 9223372036854775807) (sv : Value) (l : List UInt8) (w : World) (hown : w.ownsRow B (ρ.t 5) 1 sv l.length (l.map byteV)) (hBw : B ≤ w.heap.size) (hlim : l.length ≤ 4000000000)
    (htab : Lib.TabBelow P B w "internal/strconv.uint64pow10" .u64 Lib.pow10Tab) :
    Calls P (ρ.f 176) #[sv, .int .i64 i, .int .i64 10] w fun e w' => AQ (ρ.t 5) B sv l (Lib.itoa i) w e w' := by
  have mixed := L.mixed
  have t5 := L.t5; have a5 := L.a5; have z5 := L.z5; have v5 := L.v5
  have t37 := L.t37; have u37 := run_underlying L.t37; have a37 := L.a37; have z37 := L.z37; have v37 := L.v37
  have t2 := L.t2; have a2 := L.a2; have z2 := L.z2; have v2 := L.v2
  have t3 := L.t3; have a3 := L.a3; have z3 := L.z3; have v3 := L.v3
  have e249 : ∀ args w, (callFunc (ρ.f 249) args).run P w = .ok (.enter (ρ.f 249) args) w := enters_of L.f249 (by kernel_rfl) rfl
  have hc := intAny { L with } B i h0 h1 sv l w hown hBw hlim htab
  clear hown
  go_enter L.f176, Body.n176_ntmps ρ
  go_wp2_with (go_at_fn (ρ.f 249); refine hc.mono ?_; rintro e w2 hq; have HQ := Lib.hid hq; obtain ⟨g2, cap2, rfl, _, _, _⟩ := hq)
  go_wp2
  go_ret
  exact HQ.out
end
theorem appInt (B : Nat) (i : Int) (h0 : -9223372036854775808 ≤ i) (h1 : i ≤ 9223372036854775807) (sv : Value) (l : List UInt8) (w : World) (hown : w.ownsRow B 5 1 sv l.length (l.map byteV)) (hBw : B ≤ w.heap.size) (hlim : l.length ≤ 4000000000)
    (htab : Lib.TabBelow Tryz.prog B w "internal/strconv.uint64pow10" .u64 Lib.pow10Tab) :
    Calls Tryz.prog 26 #[sv, .int .i64 i, .int .i64 10] w fun e w' => AQ 5 B sv l (decI i) w e w' := by
  rw [decI_eq]
  exact intPub Tryz.laysM176 B i h0 h1 sv l w hown hBw hlim htab
set_option maxRecDepth 4000 in
theorem appBool (b : Bool) (B : Nat) (v : Value) (l : List UInt8) (w : World) (hown : w.ownsRow B 5 1 v l.length (l.map byteV)) (hB : B ≤ w.heap.size) (hl : l.length ≤ 4000000000) :
    Calls Tryz.prog 25 #[v, .bool b] w fun r w' => AQ 5 B v l (boolS b).data.toList w r w' := by
  have hc : Calls Tryz.prog 44 #[v, .bool b] w fun r w' => AQ 5 B v l (boolS b).data.toList w r w' := by
    refine (appBoolI b B v l w hown hB hl).mono ?_
    rintro r w' ⟨g, cap, e1, e2, e3, e4⟩
    exact ⟨g, cap, e1, e2, e3, e4.imp id (fun e => Nat.le_of_eq e.symm)⟩
  clear hown
  go_enter Tryz.func25, Tryz.ntmps25
  go_wp2_with (go_at_call 44; refine hc.mono ?_; rintro e w2 hq; have HQ := Lib.hid hq; obtain ⟨g2, cap2, rfl, _, _, _⟩ := hq)
  go_wp2
  go_ret
  exact HQ.out
/-- What was appended is laid in the writer. -/
theorem AQ.put {bp : Nat} {vN vO : Value} {l ds : List UInt8} {w w8 : World} {r : Ending} (h : WZ bp vN vO l w) (hq : AQ 5 (bp + 1) vO l ds w r w8) :
    ∃ g9 n9 c9, r = .returned (.slice (some ⟨g9, 0, none⟩) n9 c9) ∧ w8.cell? ⟨bp, 1, none⟩ = some vO ∧ w8.frozen? ⟨bp, 1, none⟩ = false ∧ WZ bp vN (.slice (some ⟨g9, 0, none⟩) n9 c9) (l ++ ds) (w8.setCell ⟨bp, 1, none⟩ (.slice (some ⟨g9, 0, none⟩) n9 c9)) ∧ Chg bp (own vO []) w (own (.slice (some ⟨g9, 0, none⟩) n9 c9) []) (w8.setCell ⟨bp, 1, none⟩ (.slice (some ⟨g9, 0, none⟩) n9 c9)) := by
  obtain ⟨g, cap, rfl, ho, hg, hgg⟩ := hq
  have hne : some bp ≠ vO.ownBlock := fun e => by have := (ownBlock_lt h.row e.symm).1; omega
  have hd8 : WD bp vN vO w8 := (hg.block bp h.wd.lt hne).trans h.wd
  have P := h.putG ho hg hgg
  exact ⟨_, _, _, rfl, hd8.cell.2.1, hd8.cell.2.2 1, P.1, P.2⟩
section
variable (bp : Nat) (vN vO : Value) (l : List UInt8) (w : World)
theorem WZ.drew {bp : Nat} {vN vO : Value} {l : List UInt8} {w : World} (h : WZ bp vN vO l w) : WZ bp vN vO l w.drew := ⟨h.wd, h.row⟩
theorem chg_drew {bp : Nat} {O O' : Nat → Prop} {w w1 : World} (h : Chg bp O w.drew O' w1) : Chg bp O w O' w1 := ⟨h.os, h.tape, h.output, h.size, h.block, h.own⟩
set_option maxRecDepth 4000 in
set_option maxHeartbeats 2000000 in
theorem wnode_truth (L : List Nd) (k : Nat) (n : Nd) (hn : L[k]? = some n) (hkl : k ≤ 1000000000) (hN : NR bp (own vO []) vN L w) (h : WZ bp vN vO l w) (hl : l.length ≤ 4000000000) (hkd : n.kind = 1) :
    Calls Tryz.prog 16 #[.pointer (some ⟨bp, 0, none⟩), .int .i64 (k : Int)] w fun r w' => WQ bp vN (own vO []) w (l ++ (if n.num = 1 then [116, 114, 117, 101] else [102, 97, 108, 115, 101])) r w' := by
  have hkL : k < L.length := (List.getElem?_eq_some_iff.1 hn).1
  obtain ⟨g, cap, kv, rfl, g1, g2, g3, hK, b0, b1, b2, b3, b4, b5⟩ := hN.at' k n hn
  obtain ⟨adk, capk, rfl⟩ := hK.shape
  rw [hkd] at b0
  obtain ⟨ad, capo, rfl⟩ := h.shape
  obtain ⟨c0, c1, cf⟩ := h.wd.cell
  have hlt := h.wd.lt
  have hk1 : (k : Int) < (L.length : Int) := by omega
  have hbs : (boolS (decide (n.num = 1))).data.toList = (if n.num = 1 then [116, 114, 117, 101] else [102, 97, 108, 115, 101]) := by
    by_cases hq : n.num = 1 <;> simp [hq, boolS]
  generalize (if n.num = 1 then [116, 114, 117, 101] else [102, 97, 108, 115, 101] : List UInt8) = T at *
  have HA : Hid (∀ o, Calls Tryz.prog 25 #[.slice ad l.length capo, .bool (decide (n.num = 1))] (w.alloc o).drew fun r w8 => ∃ g9 n9 c9, r = .returned (.slice (some ⟨g9, 0, none⟩) n9 c9) ∧ w8.cell? ⟨bp, 1, none⟩ = some (.slice ad l.length capo) ∧ w8.frozen? ⟨bp, 1, none⟩ = false ∧ WQ bp (.slice (some ⟨g, 0, none⟩) L.length cap) (own (.slice ad l.length capo) []) w (l ++ T) (.returned (.tuple #[])) (w8.setCell ⟨bp, 1, none⟩ (.slice (some ⟨g9, 0, none⟩) n9 c9))) := fun o => by
    refine (appBool _ (bp + 1) _ l (w.alloc o).drew (h.alloc o).drew.row (by simp; omega) hl).mono ?_
    intro r w8 hq
    obtain ⟨g9, n9, c9, e1, e2, e3, e4, e5⟩ := AQ.put (h.alloc o).drew hq
    rw [hbs] at e4
    exact ⟨g9, n9, c9, e1, e2, e3, rfl, _, e4, (chgW_alloc _ _ _ o).trans (chg_drew e5)⟩
  clear h cf hN hn hkd hK
  go_enter Tryz.func16, Tryz.ntmps16
  go_wp2_with fail
  go_region_with (go_at_call 25; refine (HA.out _).mono ?_; rintro e w8 ⟨g9, n9, c9, rfl, s1, t1, hq⟩; have HQ := Lib.hid hq; clear hq)
  all_goals
    go_wp2
    go_end0
    exact HQ.out
set_option maxRecDepth 4000 in
set_option maxHeartbeats 2000000 in
theorem wnode_int (L : List Nd) (k : Nat) (n : Nd) (hn : L[k]? = some n) (hkl : k ≤ 1000000000) (hN : NR bp (own vO []) vN L w) (h : WZ bp vN vO l w) (hl : l.length ≤ 4000000000) (hkd : n.kind = 2) (h0 : -9223372036854775808 ≤ n.num) (h1 : n.num ≤ 9223372036854775807)
    (htab : Lib.TabBelow Tryz.prog bp w "internal/strconv.uint64pow10" .u64 Lib.pow10Tab) :
    Calls Tryz.prog 16 #[.pointer (some ⟨bp, 0, none⟩), .int .i64 (k : Int)] w fun r w' => WQ bp vN (own vO []) w (l ++ decI n.num) r w' := by
  have hkL : k < L.length := (List.getElem?_eq_some_iff.1 hn).1
  obtain ⟨g, cap, kv, rfl, g1, g2, g3, hK, b0, b1, b2, b3, b4, b5⟩ := hN.at' k n hn
  obtain ⟨adk, capk, rfl⟩ := hK.shape
  rw [hkd] at b0
  obtain ⟨ad, capo, rfl⟩ := h.shape
  obtain ⟨c0, c1, cf⟩ := h.wd.cell
  have hlt := h.wd.lt
  have hk1 : (k : Int) < (L.length : Int) := by omega
  have HA : Hid (∀ o, Calls Tryz.prog 26 #[.slice ad l.length capo, .int .i64 n.num, .int .i64 10] (w.alloc o).drew fun r w8 => ∃ g9 n9 c9, r = .returned (.slice (some ⟨g9, 0, none⟩) n9 c9) ∧ w8.cell? ⟨bp, 1, none⟩ = some (.slice ad l.length capo) ∧ w8.frozen? ⟨bp, 1, none⟩ = false ∧ WQ bp (.slice (some ⟨g, 0, none⟩) L.length cap) (own (.slice ad l.length capo) []) w (l ++ decI n.num) (.returned (.tuple #[])) (w8.setCell ⟨bp, 1, none⟩ (.slice (some ⟨g9, 0, none⟩) n9 c9))) := fun o => by
    refine (appInt (bp + 1) n.num h0 h1 _ l (w.alloc o).drew (h.alloc o).drew.row (by simp; omega) hl ?_).mono ?_
    · intro w' hb
      refine htab w' ⟨hb.os, hb.tape, hb.output, by have := hb.size; simp at this; omega, fun j hj => ?_⟩
      have := hb.block j (by omega)
      rw [heap_drew, heap_alloc_old _ _ (by omega)] at this
      exact this
    intro r w8 hq
    obtain ⟨g9, n9, c9, e1, e2, e3, e4, e5⟩ := AQ.put (h.alloc o).drew hq
    exact ⟨g9, n9, c9, e1, e2, e3, rfl, _, e4, (chgW_alloc _ _ _ o).trans (chg_drew e5)⟩
  clear h cf hN hn hkd hK htab
  go_enter Tryz.func16, Tryz.ntmps16
  go_wp2_with fail
  go_region_with (go_at_call 26; refine (HA.out _).mono ?_; rintro e w8 ⟨g9, n9, c9, rfl, s1, t1, hq⟩; have HQ := Lib.hid hq; clear hq)
  all_goals
    go_wp2
    go_end0
    exact HQ.out
end
end Go.Proofs.YtoijppmkkhgkdacGreatDoor
