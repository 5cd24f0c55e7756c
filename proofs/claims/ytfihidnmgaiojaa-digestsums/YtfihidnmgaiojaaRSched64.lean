/-
  The document's answer: schedule, of words of 64 bits.
-/
import Derived.Test.YtfihidnmgaiojaaRTurn64
import Derived.Test.YtfihidnmgaiojaaBuf
import Derived.Test.YtfihidnmgaiojaaRRead
import Derived.Test.YtfihidnmgaiojaaSame
import Derived.Test.YtfihidnmgaiojaaAppI
import Derived.Deep.RegionHeld3
namespace Go.Proofs.Ytfihidnmgaiojaa
open Go.RowKit
set_option linter.unusedVariables false
section
attribute [local go_sem] andS orS xorS notS addS addSw shlS shlSw sarS wordSx ex_xor ex_and ex_or sarX

/-- A word, as the document's answer holds it. -/
def iv64 (x : BitVec 64) : Value := .int .i64 (eS (x))

theorem one_iv64 {x : BitVec 64} : ∀ u ∈ [iv64 x], u.oneCell' = true := by intro u hu; simp at hu; subst hu; rfl
theorem i64info64 : (Try.prog.info? 3).map (fun i => (i.zero, i.size, i.bytes)) = some (some (.int .i64 0), 1, 8) := by kernel_rfl

theorem iv64_rd (l : List UInt8) (h : l.length ≤ 8) : Value.int .i64 (eS (rd 64 l)) = iv64 (rd 64 l) := by
  unfold iv64
  first
    | rw [rd_ex l h]
    | rfl

/-- Append of one int. -/
theorem wp_appI64 {P : Program} {ops : Array Oper} {rest : List Oper} {o : Oper} {a : Act} {Q : Exit → Act → World → Prop} (hgd : o.guard = none) (s x : Operand) (t : TypeId)
    (ho : o.op = .call { callee := .builtin .append, args := #[s, x], argTypes := #[t, t] })
    (e : TypeId) (i : TypeInfo) (ht : P.underlying t = some (.slice e)) (hi : P.info? e = some i) (hz : i.zero = some (.int .i64 0)) (hsize : i.size = 1) (hby : i.bytes = 8)
    (B : Nat) (v : Value) (n : Nat) (xs : List Value) (y : Value) (hy : y.oneCell' = true) (w0 : World) (hs : a.eval s = v) (hown : w0.ownsRow B e 1 v n xs) (hB : B ≤ w0.heap.size) (hlen : n ≤ 1000)
    (hx : a.eval x = .slice (some ⟨w0.heap.size, 0, none⟩) 1 1)
    (h : ∀ v' w', w'.ownsRow B e 1 v' (n + 1) (xs ++ [y]) → Below B w0 w' → wpList P ops Q rest (a.put o.dst v') w') : wpList P ops Q (o :: rest) a (w0.alloc (.cells #[y] e)) := by
  refine wpList_append_own _ hgd s x t ho B e i (.int .i64 0) 1 8 ht hi hz hsize hby rfl (by decide) v n xs hs (hown.alloc _) ⟨w0.heap.size, 0, none⟩ 1 1 [y] hx rfl (one_cell w0 y e) (by intro u hu; simp at hu; subst hu; exact hy) (by unfold maxLen; omega) (by omega) (by simp; omega) ?_
  intro v' w' h1 h2 _
  refine h v' w' h1 (((Below.refl B w0).alloc hB _).grown h2 (by simp; omega) ?_)
  intro k hk
  exact (hown.lt k hk).1

set_option maxRecDepth 100000 in
set_option maxHeartbeats 1000000 in
theorem rsched64 (b : Nat) (s : ByteArray) (w : World) (p : Way 64) (hs : s.size = 128) (hR : RWay64 w p b) (v3 v4 : Value) :
    Calls Try.prog 47 #[.agg #[.int .i64 64, .int .i64 80, .slice (some ⟨b, 0, none⟩) 12 12, v3, v4], .string s] w
      fun e w' => ∃ g cap, e = .returned (.slice (some ⟨g, 0, none⟩) 80 cap) ∧ w'.ownsRow w.heap.size 3 1 (.slice (some ⟨g, 0, none⟩) 80 cap) 80 ((sched p 8 s.data.toList).map iv64) ∧ Below w.heap.size w w' := by
  have hlt : b < w.heap.size := World.block_lt_of_cell? w _ hR.f1
  obtain ⟨i0, hi, hz0, hz1, hz2⟩ := info_parts i64info64
  have HI : Hid _ := hi
  have HS : Hid (s.size = 128) := hs
  clear hi
  have hs1 : 128 ≤ s.size := by omega
  have hs2 : s.size ≤ 128 := by omega
  clear hs
  go_enter Try.func47, Try.ntmps47
  go_wp2_with fail
  go_loopw [5, 7] (fun v i wr => ∃ k : Nat, k ≤ 16 ∧ i = .int .i64 k ∧ wr.ownsRow (w.heap.size + 1) 3 1 v k ((wordsTo 64 8 s.data.toList k).map iv64) ∧ Below (w.heap.size + 1) (w.alloc (.cells #[.int .i64 64, .int .i64 80, .slice (some ⟨b, 0, none⟩) 12 12, v3, v4] 50)) wr) (fun _ i _ => 16 - (intOf i).toNat)
  case atStart => exact ⟨0, by omega, rfl, World.ownsRow_nil _ _ _ _, Below.refl _ _⟩
  case round =>
    obtain ⟨k, hk, rfl, ho, hb⟩ := hrel
    by_cases hlt2 : k < 16
    · have hd : decide ((k : Int) < 16) = true := by simp; omega
      have HO := ho
      clear ho
      have hbs := hb.size
      go_wp2_with fail
      go_loop [8, 9] (fun x i => ∃ m : Nat, m ≤ 8 ∧ i = .int .i64 m ∧ x = .int .i64 (eS (rd 64 (((s.data.toList.drop (k * 8)).take 8).take m)))) (fun _ i => 8 - (intOf i).toNat)
      case atStart => exact ⟨0, by omega, rfl, rfl⟩
      case round =>
        obtain ⟨m, hm, rfl, rfl⟩ := hrel
        by_cases hlt3 : m < 8
        · have hi1 : (0 : Int) ≤ 8 * (k : Int) + m := by omega
          have hi2 : 8 * (k : Int) + m < (s.size : Int) := by omega
          have ht : (8 * (k : Int) + (m : Int)).toNat = 8 * k + m := by omega
          have hx : 8 * k + m < s.size := by omega
          go_wp2_with fail
          go_round
          case rel => exact ⟨m + 1, by omega, by go_num, by rw [rdS_step, ← rd_snoc, ← take_piece s k m 8 hlt3 (by omega) hx]⟩
          case measure => simp [intOf]; omega
        · obtain rfl : m = 8 := by omega
          have hrl : (List.take 8 (List.take 8 (List.drop (k * 8) s.data.toList))) = List.take 8 (List.drop (k * 8) s.data.toList) := by rw [List.take_take, Nat.min_self]
          rw [hrl]
          have hbs2 : w.heap.size + 1 ≤ wr.heap.size := by simpa using hbs
          generalize hX : eS (rd 64 (List.take 8 (List.drop (k * 8) s.data.toList))) = X
          have HX : Hid (eS (rd 64 (List.take 8 (List.drop (k * 8) s.data.toList))) = X) := hX
          clear hX
          go_wp2_with (refine wp_appI64 rfl (.tmp 38) (.tmp 40) 48 rfl 3 i0 Try.underlying48 HI.out hz0 hz1 hz2 (w.heap.size + 1) _ k ((wordsTo 64 8 s.data.toList k).map iv64) (.int .i64 X) rfl wr rfl HO hbs2 (by omega) rfl ?_; intro v5 w5 ho5 hb5; have HO5 := ho5; clear ho5)
          have hb6 := hb.trans hb5
          have HO6 : w5.ownsRow (w.heap.size + 1) 3 1 v5 (k + 1) ((wordsTo 64 8 s.data.toList (k + 1)).map iv64) := by
            rw [wordsTo, List.map_append, List.map_singleton, ← iv64_rd _ (List.length_take_le _ _), HX.out]; exact HO5
          clear HO5 hb5
          go_wp2_with fail
          go_roundw
          case rel => first | exact ⟨k + 1, by omega, by go_num, HO6, hb6⟩ | ((repeat apply Exists.intro); exact ⟨⟨k + 1, by omega, by go_num, HO6, hb6⟩, rfl⟩)
          case measure => simp [intOf]; omega
    · obtain rfl : k = 16 := by omega
      have hc0 : wr.cell? ⟨w.heap.size, 0, none⟩ = some (.int .i64 64) := b_cell hb (by omega) (by simp)
      have hc1 : wr.cell? ⟨w.heap.size, 1, none⟩ = some (.int .i64 80) := b_cell hb (by omega) (by simp)
      have hc2 : wr.cell? ⟨w.heap.size, 2, none⟩ = some (.slice (some ⟨b, 0, none⟩) 12 12) := b_cell hb (by omega) (by simp)
      go_wp2_with fail
      go_loopw [5, 10] (fun v i wx => ∃ j : Nat, 16 ≤ j ∧ j ≤ 80 ∧ i = .int .i64 j ∧ wx.ownsRow (w.heap.size + 1) 3 1 v j ((spreadTo p (wordsTo 64 8 s.data.toList 16) (j - 16)).map iv64) ∧ Below (w.heap.size + 1) (w.alloc (.cells #[.int .i64 64, .int .i64 80, .slice (some ⟨b, 0, none⟩) 12 12, v3, v4] 50)) wx) (fun _ i _ => 80 - (intOf i).toNat)
      case atStart => exact ⟨16, by omega, by omega, rfl, ho, hb⟩
      case round =>
        clear ho hb hc0 hc1 hc2 hlt2 hk
        obtain ⟨j, hj0, hj1, rfl, ho, hb⟩ := hrel
        have hc0 : wr.cell? ⟨w.heap.size, 0, none⟩ = some (.int .i64 64) := b_cell hb (by omega) (by simp)
        have hc1 : wr.cell? ⟨w.heap.size, 1, none⟩ = some (.int .i64 80) := b_cell hb (by omega) (by simp)
        have hc2 : wr.cell? ⟨w.heap.size, 2, none⟩ = some (.slice (some ⟨b, 0, none⟩) 12 12) := b_cell hb (by omega) (by simp)
        obtain ⟨g, cap, rfl, hgB⟩ : ∃ g cap, u5 = .slice (some ⟨g, 0, none⟩) j cap ∧ w.heap.size + 1 ≤ g := by
          rcases ho.2 with ⟨_, h0⟩ | ⟨g, cap, cur, hv, hB, _⟩
          · omega
          · exact ⟨g, cap, hv, hB⟩
        by_cases hlt2 : j < 80
        · generalize hL : spreadTo p (wordsTo 64 8 s.data.toList 16) (j - 16) = L at ho
          have HL : Hid (spreadTo p (wordsTo 64 8 s.data.toList 16) (j - 16) = L) := hL
          have hLn : L.length = j := by rw [← hL, spreadTo_length, wordsTo_length]; omega
          have HLn : Hid (L.length = j) := hLn
          clear hL
          have cel : ∀ i, i < j → wr.cell? ⟨g, i, none⟩ = some (.int .i64 (eS (L.getD i 0))) := fun i hi => by
            rw [ho.cellAt i (by omega)]
            rw [List.getElem?_map, List.getElem?_eq_getElem (by omega)]
            simp [iv64, List.getD, List.getElem?_eq_getElem (show i < L.length by omega)]
          have d15 := cel (j - 15) (by omega)
          have d2 := cel (j - 2) (by omega)
          have d16 := cel (j - 16) (by omega)
          have d7 := cel (j - 7) (by omega)
          clear cel hLn
          generalize hx15 : L.getD (j - 15) 0 = x15 at d15
          generalize hx2 : L.getD (j - 2) 0 = x2 at d2
          generalize hx16 : L.getD (j - 16) 0 = x16 at d16
          generalize hx7 : L.getD (j - 7) 0 = x7 at d7
          have HX : Hid (L.getD (j - 15) 0 = x15 ∧ L.getD (j - 2) 0 = x2 ∧ L.getD (j - 16) 0 = x16 ∧ L.getD (j - 7) 0 = x7) := ⟨hx15, hx2, hx16, hx7⟩
          clear hx15 hx2 hx16 hx7
          have bc : ∀ i v, w.cell? ⟨b, i, none⟩ = some v → wr.cell? ⟨b, i, none⟩ = some v := fun i v h => b_cell hb (by omega) ((World.cell?_alloc_lt _ _ _ hlt).trans h)
          have g1 := bc _ _ hR.f1
          have g2 := bc _ _ hR.f2
          have g3 := bc _ _ hR.f3
          have g4 := bc _ _ hR.n1
          have g5 := bc _ _ hR.n2
          have g6 := bc _ _ hR.n3
          clear bc
          have hbs : w.heap.size + 1 ≤ wr.heap.size := by have := hb.size; simpa using this
          have HO := ho
          have HB : Hid _ := hb
          clear ho hb
          have hw1 := i64w ((j : Int) - 15) (by omega)
          have hw2 := i64w ((j : Int) - 2) (by omega)
          have hw3 := i64w ((j : Int) - 16) (by omega)
          have hw4 := i64w ((j : Int) - 7) (by omega)
          have hi6 : (0 : Int) ≤ (j : Int) - 15 := by omega
          have hi7 : (j : Int) - 15 < (j : Int) := by omega
          have hi8 : (0 : Int) ≤ (j : Int) - 2 := by omega
          have hi9 : (j : Int) - 2 < (j : Int) := by omega
          have hj1' : (0 : Int) ≤ (j : Int) - 16 := by omega
          have hj2 : (j : Int) - 16 < (j : Int) := by omega
          have hj3 : (0 : Int) ≤ (j : Int) - 7 := by omega
          have hj4 : (j : Int) - 7 < (j : Int) := by omega
          have k15 : (15 : Int) ≤ (j : Int) := by omega
          have k2 : (2 : Int) ≤ (j : Int) := by omega
          have k16 : (16 : Int) ≤ (j : Int) := by omega
          have k7 : (7 : Int) ≤ (j : Int) := by omega
          have ht1 : ((j : Int) - 15).toNat = j - 15 := by omega
          have ht2 : ((j : Int) - 2).toNat = j - 2 := by omega
          have ht3 : ((j : Int) - 16).toNat = j - 16 := by omega
          have ht4 : ((j : Int) - 7).toNat = j - 7 := by omega
          go_wp2_with fail
          go_quiet (first | (go_at_call_of 52 (Value.int IntKind.i64 1); exact Calls.quiet_of (rrotr64 x15 1 _ (by omega) (by omega))) | (go_at_call_of 52 (Value.int IntKind.i64 8); exact Calls.quiet_of (rrotr64 x15 8 _ (by omega) (by omega))) | (go_at_call 53; exact Calls.quiet_of (rshr64 x15 7 _ (by omega) (by omega))))
          go_wp2_with fail
          generalize hwq : wr.drewN nq = wq
          have hc0q : wq.cell? ⟨w.heap.size, 0, none⟩ = some (.int .i64 64) := by rw [← hwq]; exact hc0
          have hc2q : wq.cell? ⟨w.heap.size, 2, none⟩ = some (.slice (some ⟨b, 0, none⟩) 12 12) := by rw [← hwq]; exact hc2
          have g4q : wq.cell? ⟨b, 3, none⟩ = some (.int .i64 19) := by rw [← hwq]; exact g4
          have g5q : wq.cell? ⟨b, 4, none⟩ = some (.int .i64 61) := by rw [← hwq]; exact g5
          have g6q : wq.cell? ⟨b, 5, none⟩ = some (.int .i64 6) := by rw [← hwq]; exact g6
          have d16q : wq.cell? ⟨g, j - 16, none⟩ = some (.int .i64 (eS (x16))) := by rw [← hwq]; exact d16
          have d7q : wq.cell? ⟨g, j - 7, none⟩ = some (.int .i64 (eS (x7))) := by rw [← hwq]; exact d7
          have HOq : wq.ownsRow (w.heap.size + 1) 3 1 (.slice (some ⟨g, 0, none⟩) j cap) j (L.map iv64) := by rw [← hwq]; exact HO
          have hbq := bdN HB.out nq
          rw [hwq] at hbq
          have HBq : Hid _ := hbq
          clear hwq hbq HO HB hc0 hc1 hc2 g1 g2 g3 g4 g5 g6 d15 d2 d16 d7
          have hbsq : w.heap.size + 1 ≤ wq.heap.size := by have := HBq.out.size; simpa using this
          go_quiet (first | (go_at_call_of 52 (Value.int IntKind.i64 19); exact Calls.quiet_of (rrotr64 x2 19 _ (by omega) (by omega))) | (go_at_call_of 52 (Value.int IntKind.i64 61); exact Calls.quiet_of (rrotr64 x2 61 _ (by omega) (by omega))) | (go_at_call 53; exact Calls.quiet_of (rshr64 x2 6 _ (by omega) (by omega))))
          go_wp2_with fail
          generalize hwr : wq.drewN nq = wz
          have hc0z : wz.cell? ⟨w.heap.size, 0, none⟩ = some (.int .i64 64) := by rw [← hwr]; exact hc0q
          have d16z : wz.cell? ⟨g, j - 16, none⟩ = some (.int .i64 (eS (x16))) := by rw [← hwr]; exact d16q
          have d7z : wz.cell? ⟨g, j - 7, none⟩ = some (.int .i64 (eS (x7))) := by rw [← hwr]; exact d7q
          have HOz : wz.ownsRow (w.heap.size + 1) 3 1 (.slice (some ⟨g, 0, none⟩) j cap) j (L.map iv64) := by rw [← hwr]; exact HOq
          have hbz := bdN HBq.out nq
          rw [hwr] at hbz
          have HBz : Hid _ := hbz
          clear hwr hbz HOq HBq hc0q hc2q g4q g5q g6q d16q d7q hbsq
          have hbsz : w.heap.size + 1 ≤ wz.heap.size := by have := HBz.out.size; simpa using this
          have HOw : Hid (∀ o, ((wz.alloc o).drew).ownsRow (w.heap.size + 1) 3 1 (.slice (some ⟨g, 0, none⟩) j cap) j (L.map iv64)) := fun o => HOz.alloc o
          have HOne : Hid (∀ y j u, [y][j]? = some u → ((wz.alloc (.cells #[y] 3)).drew).cell? ((⟨wz.heap.size, 0, none⟩ : Addr).add j) = some u) := fun y => one_cell wz y 3
          have HBs : Hid (∀ o, w.heap.size + 1 ≤ ((wz.alloc o).drew).heap.size) := fun o => by show _ ≤ (wz.alloc o).heap.size; simp; omega
          have hgl : g < wz.heap.size := (HOz.lt g rfl).2
          have HA0 : Hid (∀ o, ((wz.alloc o).drew).cell? ⟨w.heap.size, 0, none⟩ = some (.int .i64 64)) := fun o => (World.cell?_alloc_lt _ _ _ (by show w.heap.size < wz.heap.size; omega)).trans hc0z
          have HA16 : Hid (∀ o, ((wz.alloc o).drew).cell? ⟨g, j - 16, none⟩ = some (.int .i64 (eS (x16)))) := fun o => (World.cell?_alloc_lt _ _ _ hgl).trans d16z
          have HA7 : Hid (∀ o, ((wz.alloc o).drew).cell? ⟨g, j - 7, none⟩ = some (.int .i64 (eS (x7)))) := fun o => (World.cell?_alloc_lt _ _ _ hgl).trans d7z
          have HJ : Hid (j ≤ 1000 ∧ j - 16 < j ∧ j - 7 < j ∧ w.heap.size ≠ g) := ⟨by omega, by omega, by omega, by omega⟩
          go_region_held3 (fun w' => w'.cell? ⟨w.heap.size, 0, none⟩ = some (.int .i64 64) ∧ w'.cell? ⟨g, j - 16, none⟩ = some (.int .i64 (eS (x16))) ∧ w'.cell? ⟨g, j - 7, none⟩ = some (.int .i64 (eS (x7)))) (go_keep) (first | (refine stepI rfl (.tmp 110) (.tmp 129) 48 rfl 3 i0 Try.underlying48 HI.out hz0 hz1 hz2 (w.heap.size + 1) g j cap (L.map iv64) ⟨wz.heap.size, 0, none⟩ _ rfl HJ.out.1 rfl rfl (HOw.out _) (HBs.out _) (HOne.out _) ?_; intro v5 w5 ho5 hg5 hc5; have s1 := hg5.cell (HA0.out _) (by simpa using HJ.out.2.2.2); have s2 := (hc5 _ HJ.out.2.1).trans (HA16.out _); have s3 := (hc5 _ HJ.out.2.2.1).trans (HA7.out _); have HO5 := ho5; have HG5 : Hid _ := hg5; clear ho5 hg5 hc5) | (go_at_call 49; refine (rword64 _ _).mono ?_; rintro e6 w6 ⟨rfl, hw6⟩; rw [hw6]; clear hw6 w6; try rw [show ((x16) + (rotr x15 1 ^^^ rotr x15 8 ^^^ x15 >>> 7) + (x7) + (rotr x2 19 ^^^ rotr x2 61 ^^^ x2 >>> 6)) = (x16 + (rotr x15 1 ^^^ rotr x15 8 ^^^ x15 >>> 7) + x7 + (rotr x2 19 ^^^ rotr x2 61 ^^^ x2 >>> 6)) from by first | rfl | simp only [set_add, set_ex]]))
          have hb6 : Below (w.heap.size + 1) (w.alloc (.cells #[.int .i64 64, .int .i64 80, .slice (some ⟨b, 0, none⟩) 12 12, v3, v4] 50)) w5 := by
            refine Below.grown ((HBz.out.alloc hbsz _).drew) HG5.out (HBs.out _) ?_
            intro k hk; injection hk with hk; omega
          have HO6 : w5.ownsRow (w.heap.size + 1) 3 1 v5 (j + 1) ((spreadTo p (wordsTo 64 8 s.data.toList 16) (j + 1 - 16)).map iv64) := by
            have e : j + 1 - 16 = (j - 16) + 1 := by omega
            rw [e, spreadTo, HL.out, List.map_append, List.map_singleton, nextW, sigS, sigS, HLn.out, HX.out.1, HX.out.2.1, HX.out.2.2.1, HX.out.2.2.2, hR.hf.1, hR.hf.2.1, hR.hf.2.2, hR.hn.1, hR.hn.2.1, hR.hn.2.2]
            exact HO5
          have HB6 : Hid _ := hb6
          clear HO5 HG5 hb6 HBz HOz HOw HOne HBs HA0 HA16 HA7 s1 s2 s3
          go_wp2_with fail
          go_roundw
          case rel => first | exact ⟨j + 1, by omega, by omega, by go_num, HO6, HB6.out⟩ | ((repeat apply Exists.intro); exact ⟨⟨j + 1, by omega, by omega, by go_num, HO6, HB6.out⟩, rfl⟩)
          case measure => simp [intOf]; omega
        · obtain rfl : j = 80 := by omega
          have HO := ho
          have HB : Hid _ := hb
          clear ho hb
          go_wp2_with fail
          go_ret
          refine ⟨g, cap, rfl, ?_, (bal (brf w) _).trans (HB.out.mono (Nat.le_succ _))⟩
          rw [sched, hR.len]
          refine ⟨HO.1, ?_⟩
          rcases HO.2 with ⟨h0, _⟩ | ⟨g', cap', cur, hv, hB, rest⟩
          · cases h0
          · exact .inr ⟨g', cap', cur, hv, by omega, rest⟩
end
end Go.Proofs.Ytfihidnmgaiojaa
