/-
  spread, of words of 32 bits.
-/
import Derived.Test.YtfihidnmgaiojaaRound32
import Derived.Laws.Rows
import Derived.Laws.Tables
import Derived.Laws.CopyOwn
import Derived.Deep.RegionHeld3
namespace Go.Proofs.Ytfihidnmgaiojaa
open Go.RowKit
set_option linter.unusedVariables false
section
attribute [local go_sem] shr_eW shr_eW_min shl32 or32 xor32 and32 add32 not32 add32m add32m3 alloc_drewN

/-- 80 cells: the words of L, then zeros. -/
def row32 (L : List (BitVec 32)) : Array Value := ((List.range 80).map fun j => Value.int .u32 (eW (L.getD j 0))).toArray

theorem row32_get (L : List (BitVec 32)) (j : Nat) (h : j < 80) : (row32 L)[j]? = some (.int .u32 (eW (L.getD j 0))) := by
  simp [row32, h]

theorem row32_set (L : List (BitVec 32)) (x : BitVec 32) (h : L.length < 80) : (row32 L).setIfInBounds L.length (.int .u32 (eW x)) = row32 (L ++ [x]) := by
  apply Array.ext_getElem?
  intro i
  by_cases hi : i < 80
  · rw [Array.getElem?_setIfInBounds]
    by_cases he : L.length = i
    · subst he; rw [if_pos rfl, if_pos (by simp [row32, h]), row32_get _ _ hi]; simp
    · rw [if_neg he, row32_get _ _ hi, row32_get _ _ hi]
      congr 3
      by_cases hl : i < L.length
      · simp [List.getElem?_append_left hl]
      · simp only [List.getD_eq_getElem?_getD]; rw [List.getElem?_eq_none (by omega), List.getElem?_eq_none (by simp; omega)]
  · rw [Array.getElem?_eq_none (by simp [row32]; omega), Array.getElem?_eq_none (by simp [row32]; omega)]

theorem rel1_32 {w wr : World} {t : TypeId} {s : ByteArray} {k : Nat} (hk : k < 16) (h : wr.heap[w.heap.size + 1]? = some (.cells (row32 (wordsTo 32 4 s.data.toList k)) t (0, 0))) :
    (wr.setCell ⟨w.heap.size + 1, k, none⟩ (.int .u32 (eW (rd 32 (List.take ((k + 1) * 4 - k * 4) (List.drop (k * 4) s.data.toList)))))).drew.heap[w.heap.size + 1]? = some (.cells (row32 (wordsTo 32 4 s.data.toList (k + 1))) t (0, 0)) := by
  rw [heap_drew, heap_setCell_same _ _ _ _ _ _ h, show (k + 1) * 4 - k * 4 = 4 from by omega]
  have := row32_set (wordsTo 32 4 s.data.toList k) (rd 32 (List.take 4 (List.drop (k * 4) s.data.toList))) (by rw [wordsTo_length]; omega)
  rw [wordsTo_length] at this
  rw [this]; rfl

theorem rel2_32 {w wr : World} {t : TypeId} {p : Way 32} {ws L : List (BitVec 32)} {j : Nat} {x15 x2 x16 x7 : BitVec 32} (A B : Obj) (n : Nat) (hj : 16 ≤ j) (hj2 : j < 80)
    (h : wr.heap[w.heap.size + 1]? = some (.cells (row32 L) t (0, 0))) (hL : spreadTo p ws (j - 16) = L) (hl : L.length = j)
    (hx : L.getD (j - 15) 0 = x15 ∧ L.getD (j - 2) 0 = x2 ∧ L.getD (j - 16) 0 = x16 ∧ L.getD (j - 7) 0 = x7)
    (hf : p.f1 = 7 ∧ p.f2 = 18 ∧ p.f3 = 3) (hn : p.n1 = 17 ∧ p.n2 = 19 ∧ p.n3 = 10) :
    ((((wr.alloc A).alloc B).drewN n).setCell ⟨w.heap.size + 1, j, none⟩ (.int .u32 (eW (x16 + (rotr x15 7 ^^^ rotr x15 18 ^^^ x15 >>> 3) + x7 + (rotr x2 17 ^^^ rotr x2 19 ^^^ x2 >>> 10))))).heap[w.heap.size + 1]?
      = some (.cells (row32 (spreadTo p ws (j + 1 - 16))) t (0, 0)) := by
  have h2 : (((wr.alloc A).alloc B).drewN n).heap[w.heap.size + 1]? = some (.cells (row32 L) t (0, 0)) := heap2 h A B
  rw [heap_setCell_same _ _ _ _ _ _ h2]
  obtain ⟨rfl, rfl, rfl, rfl⟩ := hx
  have e : j + 1 - 16 = (j - 16) + 1 := by omega
  rw [e, spreadTo, hL]
  have e2 := row32_set L (nextW p L) (by omega)
  rw [hl] at e2
  rw [← e2, nextW, sigS, sigS, hl, hf.1, hf.2.1, hf.2.2, hn.1, hn.2.1, hn.2.2]

theorem row32_size (L : List (BitVec 32)) : (row32 L).size = 80 := by simp [row32]
theorem row32_one (L : List (BitVec 32)) : (row32 L).all (·.oneCell') = true := by
  rw [Array.all_eq_true_iff_forall_mem]; intro v hv
  simp [row32] at hv
  obtain ⟨j, _, rfl⟩ := hv
  rfl
theorem row32_info (L : List (BitVec 32)) : (Try.prog.info? 72).map (·.size) = some (row32 L).size := by
  rw [row32_size]; kernel_rfl

theorem zero32 (w : World) : Sem.run Try.prog (zeroValue 72) w = .ok (.agg (row32 [])) w := by kernel_rfl

set_option maxHeartbeats 400000 in
theorem spread32 (bp : Nat) (s : ByteArray) (w : World) (p : Way 32) (hs : s.size = 64) (hK : p.K.length = 64)
    (hf : p.f1 = 7 ∧ p.f2 = 18 ∧ p.f3 = 3) (hn : p.n1 = 17 ∧ p.n2 = 19 ∧ p.n3 = 10)
    (hp : w.cell? ⟨bp, 0, none⟩ = some (.int .i64 4)) (kb : Nat) (c9 : w.cell? ⟨bp, 9, none⟩ = some (.slice (some ⟨kb, 0, none⟩) 64 64))
    (c10 : w.cell? ⟨bp, 10, none⟩ = some (.int .i64 7)) (c11 : w.cell? ⟨bp, 11, none⟩ = some (.int .i64 18)) (c12 : w.cell? ⟨bp, 12, none⟩ = some (.int .i64 3))
    (c13 : w.cell? ⟨bp, 13, none⟩ = some (.int .i64 17)) (c14 : w.cell? ⟨bp, 14, none⟩ = some (.int .i64 19)) (c15 : w.cell? ⟨bp, 15, none⟩ = some (.int .i64 10)) :
    Calls Try.prog 54 #[.pointer (some ⟨bp, 0, none⟩), .string s] w
      fun e w' => e = .returned (.agg (row32 (sched p 4 s.data.toList))) ∧ Below w.heap.size w w' := by
  have hlt : bp < w.heap.size := World.block_lt_of_cell? w _ hp
  have HF : Hid (p.f1 = 7 ∧ p.f2 = 18 ∧ p.f3 = 3) := hf
  have HN : Hid (p.n1 = 17 ∧ p.n2 = 19 ∧ p.n3 = 10) := hn
  have HK : Hid (p.K.length = 64) := hK
  have HS : Hid (s.size = 64) := hs
  clear hf hn hK hs
  have hs1 : 64 ≤ s.size := by have := HS.out; omega
  have hs2 : s.size ≤ 64 := by have := HS.out; omega
  have hz := zero32
  go_enter Try.func54, Try.ntmps54
  go_wp2
  go_loopw [10] (fun i wr => ∃ k : Nat, k ≤ 16 ∧ i = .int .i64 k ∧ wr.heap[w.heap.size + 1]? = some (.cells (row32 (wordsTo 32 4 s.data.toList k)) 72 (0, 0)) ∧
      wr.heap[w.heap.size]? = some (.cells (row32 []) 72 (0, 0)) ∧ Below w.heap.size w wr) (fun i _ => 16 - (intOf i).toNat)
  case atStart =>
    refine ⟨0, by omega, rfl, ?_, ?_, bal (bal (brf _) _) _⟩
    · rw [heap_alloc2_new]; rfl
    · rw [heap_alloc2_old]
  case round =>
    obtain ⟨k, hk, rfl, hr1, hr0, hb⟩ := hrel
    by_cases hlt2 : k < 16
    · have hcp : wr.cell? ⟨bp, 0, none⟩ = some (.int .i64 4) := b_cell hb hlt hp
      have hck : wr.cell? ⟨w.heap.size + 1, k, none⟩ = some (.int .u32 (eW ((wordsTo 32 4 s.data.toList k).getD k 0))) := by rw [cell_of_row _ _ _ _ _ _ hr1, row32_get _ _ (by omega)]
      have hfk : wr.frozen? ⟨w.heap.size + 1, k, none⟩ = false := frozen_of_row _ _ _ _ _ hr1
      have hw1 := i64w ((k : Int) * 4) (by omega)
      have hw2 := i64w ((k : Int) + 1) (by omega)
      have hw3 := i64w (((k : Int) + 1) * 4) (by omega)
      have hi4 : (0 : Int) ≤ (k : Int) + 1 := by omega
      have hi5 : (k : Int) ≤ (k : Int) + 1 := by omega
      have hi6 : (k : Int) < 80 := by omega
      have hi7 : (0 : Int) ≤ (k : Int) := by omega
      have hne : w.heap.size + 1 ≠ bp := by omega
      have hi0 : (0 : Int) ≤ (k : Int) * 4 := by omega
      have hi1 : (k : Int) * 4 ≤ ((k : Int) + 1) * 4 := by omega
      have hi2 : ((k : Int) + 1) * 4 ≤ (s.size : Int) := by omega
      have hi3 : (0 : Int) ≤ ((k : Int) + 1) * 4 := by omega
      have HR1 : Hid _ := hr1
      have HR0 : Hid _ := hr0
      clear hr1 hr0
      go_wp2_with fail
      go_region_held3 (fun w' => w'.cell? ⟨bp, 0, none⟩ = some (.int .i64 4)) (go_keep) (first | (go_at_call 58; refine (read32 _ _ _ (by simp [maxLen]; omega)).mono ?_; rintro e w1 ⟨rfl, rfl⟩))
      go_wp2_with fail
      go_roundw
      case rel =>
        refine ⟨k + 1, by omega, by go_num, rel1_32 hlt2 HR1.out, ?_, (hb.setCell (Nat.le_succ _) _).drew⟩
        rw [heap_drew, heap_setCell_other _ _ _ _ (by simp)]; exact HR0.out
      case measure => simp [intOf]; omega
    · obtain rfl : k = 16 := by omega
      clear hlt2 hk
      go_wp2_with fail
      go_loopw [7] (fun i wx => ∃ j : Nat, 16 ≤ j ∧ j ≤ 64 ∧ i = .int .i64 j ∧ wx.heap[w.heap.size + 1]? = some (.cells (row32 (spreadTo p (wordsTo 32 4 s.data.toList 16) (j - 16))) 72 (0, 0)) ∧
          wx.heap[w.heap.size]? = some (.cells (row32 []) 72 (0, 0)) ∧ Below w.heap.size w wx) (fun i _ => 64 - (intOf i).toNat)
      case atStart => exact ⟨16, by omega, by omega, rfl, hr1, hr0, hb⟩
      case round =>
        clear hr1 hr0 hb
        obtain ⟨j, hj0, hj1, rfl, hr1, hr0, hb⟩ := hrel
        have hcp : wr.cell? ⟨bp, 0, none⟩ = some (.int .i64 4) := b_cell hb hlt hp
        have g9 := b_cell hb hlt c9
        by_cases hlt2 : j < 64
        · generalize hL : spreadTo p (wordsTo 32 4 s.data.toList 16) (j - 16) = L at hr1
          have HL : Hid (spreadTo p (wordsTo 32 4 s.data.toList 16) (j - 16) = L) := hL
          have HLn : Hid (L.length = j) := by
            show L.length = j
            rw [← hL, spreadTo_length, wordsTo_length]; omega
          clear hL
          have g10 := b_cell hb hlt c10
          have g11 := b_cell hb hlt c11
          have g12 := b_cell hb hlt c12
          have g13 := b_cell hb hlt c13
          have g14 := b_cell hb hlt c14
          have g15 := b_cell hb hlt c15
          have cel : ∀ i, i < 80 → wr.cell? ⟨w.heap.size + 1, i, none⟩ = some (.int .u32 (eW (L.getD i 0))) := fun i hi => by rw [cell_of_row _ _ _ _ _ _ hr1, row32_get _ _ hi]
          have hB1 : w.heap.size + 1 < wr.heap.size := (Array.getElem?_eq_some_iff.1 hr1).1
          have d15 := cel (j - 15) (by omega)
          have d2 := cel (j - 2) (by omega)
          have d16 := cel (j - 16) (by omega)
          have d7 := cel (j - 7) (by omega)
          have d0 := cel j (by omega)
          generalize hx15 : L.getD (j - 15) 0 = x15 at d15
          generalize hx2 : L.getD (j - 2) 0 = x2 at d2
          generalize hx16 : L.getD (j - 16) 0 = x16 at d16
          generalize hx7 : L.getD (j - 7) 0 = x7 at d7
          generalize L.getD j 0 = x0 at d0
          have HX : Hid (L.getD (j - 15) 0 = x15 ∧ L.getD (j - 2) 0 = x2 ∧ L.getD (j - 16) 0 = x16 ∧ L.getD (j - 7) 0 = x7) := ⟨hx15, hx2, hx16, hx7⟩
          clear hx15 hx2 hx16 hx7
          have fr0 : wr.frozen? ⟨w.heap.size + 1, j, none⟩ = false := frozen_of_row _ _ _ _ _ hr1
          clear cel
          have HR1 : Hid _ := hr1
          have HR0 : Hid _ := hr0
          have HB : Hid _ := hb
          clear hr1 hr0 hb c10 c11 c12 c13 c14 c15 c9 hp
          have hw1 := i64w ((j : Int) - 15) (by omega)
          have hw2 := i64w ((j : Int) - 2) (by omega)
          have hw3 := i64w ((j : Int) - 16) (by omega)
          have hw4 := i64w ((j : Int) - 7) (by omega)
          have hi1 : (15 : Int) ≤ (j : Int) := by omega
          have hi2 : (j : Int) < 80 := by omega
          have hi3 : (2 : Int) ≤ (j : Int) := by omega
          have hi4 : (16 : Int) ≤ (j : Int) := by omega
          have hi5 : (7 : Int) ≤ (j : Int) := by omega
          have hi6 : (0 : Int) ≤ (j : Int) - 15 := by omega
          have hi7 : (j : Int) - 15 < 80 := by omega
          have hi8 : (0 : Int) ≤ (j : Int) - 2 := by omega
          have hi9 : (j : Int) - 2 < 80 := by omega
          have hj1 : (0 : Int) ≤ (j : Int) - 16 := by omega
          have hj2 : (j : Int) - 16 < 80 := by omega
          have hj3 : (0 : Int) ≤ (j : Int) - 7 := by omega
          have hj4 : (j : Int) - 7 < 80 := by omega
          have hj5 : (0 : Int) ≤ (j : Int) := by omega
          have ht1 : ((j : Int) - 15).toNat = j - 15 := by omega
          have ht2 : ((j : Int) - 2).toNat = j - 2 := by omega
          have ht3 : ((j : Int) - 16).toNat = j - 16 := by omega
          have ht4 : ((j : Int) - 7).toNat = j - 7 := by omega
          have hne : w.heap.size + 1 ≠ bp := by omega
          go_wp2_with fail
          go_region_held3 (fun w' => w'.cell? ⟨bp, 0, none⟩ = some (.int .i64 4) ∧ w'.cell? ⟨bp, 10, none⟩ = some (.int .i64 7) ∧ w'.cell? ⟨bp, 11, none⟩ = some (.int .i64 18) ∧ w'.cell? ⟨bp, 12, none⟩ = some (.int .i64 3) ∧ w'.cell? ⟨w.heap.size + 1, j - 15, none⟩ = some (.int .u32 (eW x15))) (go_keep) (first | (go_at_call 59; refine (andShift32 _ _ _ _ _ _ (by omega) (by omega) (by omega) (by simp [*])).mono ?_; rintro e1 w1 ⟨rfl, k1, rfl⟩))
          go_wp2_with fail
          go_region_held3 (fun w' => w'.cell? ⟨bp, 0, none⟩ = some (.int .i64 4) ∧ w'.cell? ⟨bp, 13, none⟩ = some (.int .i64 17) ∧ w'.cell? ⟨bp, 14, none⟩ = some (.int .i64 19) ∧ w'.cell? ⟨bp, 15, none⟩ = some (.int .i64 10) ∧ w'.cell? ⟨w.heap.size + 1, j - 2, none⟩ = some (.int .u32 (eW x2))) (go_keep) (first | (go_at_call 59; refine (andShift32 _ _ _ _ _ _ (by omega) (by omega) (by omega) (by simp [*, World.cell?_alloc_some])).mono ?_; rintro e1 w1 ⟨rfl, k2, rfl⟩))
          have m16 := cell2 d16
          have m7 := cell2 d7
          have m0 := cell2 d0
          have mf := frozen2 hB1 fr0
          clear d16 d7 d0 fr0 d15 d2 g10 g11 g12 g13 g14 g15 g9 hcp
          have hs16 : ∀ (W : World) (v : Value), (W.setCell ⟨w.heap.size + 1, j, none⟩ v).cell? ⟨w.heap.size + 1, j - 16, none⟩ = W.cell? ⟨w.heap.size + 1, j - 16, none⟩ := fun W v => World.cell?_setCell_other _ _ _ _ (by intro h; injection h; omega)
          have hs7 : ∀ (W : World) (v : Value), (W.setCell ⟨w.heap.size + 1, j, none⟩ v).cell? ⟨w.heap.size + 1, j - 7, none⟩ = W.cell? ⟨w.heap.size + 1, j - 7, none⟩ := fun W v => World.cell?_setCell_other _ _ _ _ (by intro h; injection h; omega)
          go_wp2_with fail
          go_region_held3 (fun w' => w'.cell? ⟨w.heap.size + 1, j - 16, none⟩ = some (.int .u32 (eW x16)) ∧ w'.cell? ⟨w.heap.size + 1, j - 7, none⟩ = some (.int .u32 (eW x7))) (simp [*]) (fail)
          go_wp2_with fail
          go_roundw
          case rel =>
            (repeat apply Exists.intro)
            refine ⟨?_, rfl⟩
            refine ⟨j + 1, by omega, by omega, by go_num, rel2_32 _ _ _ (by omega) (by omega) HR1.out HL.out HLn.out HX.out HF.out HN.out, ?_, ((bdN (bal (bal HB.out _) _) _).setCell (Nat.le_succ _) _)⟩
            rw [heap_setCell_other _ _ _ _ (by simp)]
            exact heap2 HR0.out _ _
          case measure => simp [intOf]; omega
        · obtain rfl : j = 64 := by omega
          go_wp2_with (first | (refine wpList_load_row rfl 72 _ rfl (w.heap.size + 1) rfl _ _ _ _ hr1 Try.underlying72 rfl (row32_info _) ?_) | (refine wpList_store_row rfl 72 _ _ rfl w.heap.size _ rfl rfl _ _ hr0 (row32_info _) (by rw [row32_size, row32_size]) (row32_one _) ?_))
          refine bodyPost_ret (v := .agg (row32 (spreadTo p (wordsTo 32 4 s.data.toList 16) (64 - 16)))) (results_cell_row rfl _ _ w.heap.size _ _ _ _ rfl (setRow_heap _ _ _ _ _ _ hr0) Try.underlying72 rfl (row32_info _)) rfl ⟨?_, below_setRow hb (Nat.le_refl _) _⟩
          rw [sched, HK.out]
end
end Go.Proofs.Ytfihidnmgaiojaa
