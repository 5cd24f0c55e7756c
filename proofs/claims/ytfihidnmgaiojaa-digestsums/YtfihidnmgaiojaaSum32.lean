/-
  sum, of words of 32 bits.
-/
import Derived.Test.YtfihidnmgaiojaaWrite32
import Derived.Deep.DeepCutAuto
import Derived.BigRegion
namespace Go.Proofs.Ytfihidnmgaiojaa
open Go.RowKit
set_option linter.unusedVariables false
section
attribute [local go_sem] alloc_drewN

/-- The state behind a whole text: its whole blocks, then what is filled up. -/
def sumS32 (p : Way 32) (s0 : St 32) (l : List UInt8) : St 32 :=
  let m := l.length / 64
  let t := endL 64 8 (l.drop (m * 64)) l.length
  blocksTo p 4 64 (blocksTo p 4 64 s0 (l.take (m * 64)) m) t (t.length / 64)

theorem endL32_length (r : List UInt8) (size : Nat) : (endL 64 8 r size).length = (endL 64 8 r size).length / 64 * 64 := by
  have h := padZ_hit 64 8 r.length (by omega) (by omega) (by omega)
  have e : (endL 64 8 r size).length = r.length + 1 + padZ 64 8 r.length + 8 := by simp [endL, beTo_length]; omega
  rw [e]; omega

theorem endL32_le (r : List UInt8) (size : Nat) (hr : r.length < 64) : (endL 64 8 r size).length ≤ 4611686018427387904 := by
  have e : (endL 64 8 r size).length = r.length + 1 + padZ 64 8 r.length + 8 := by simp [endL, beTo_length]; omega
  have hp : padZ 64 8 r.length < 64 := Nat.mod_lt _ (by omega)
  omega

theorem blocksx32 (bp kb : Nat) (s : St 32) (t : ByteArray) (m : Nat) (w : World) (p : Way 32) (ht : t.size = m * 64) (hm : t.size ≤ 4611686018427387904) (hp : Plan32 p w bp kb) :
    Calls Try.prog 35 #[.pointer (some ⟨bp, 0, none⟩), .agg #[.int .u32 (eW s.a), .int .u32 (eW s.b), .int .u32 (eW s.c), .int .u32 (eW s.d), .int .u32 (eW s.e), .int .u32 (eW s.f), .int .u32 (eW s.g), .int .u32 (eW s.h)], .string t] w
      fun e w' => (∃ u : St 32, u = blocksTo p 4 64 s t.data.toList m ∧ e = .returned (.agg #[.int .u32 (eW u.a), .int .u32 (eW u.b), .int .u32 (eW u.c), .int .u32 (eW u.d), .int .u32 (eW u.e), .int .u32 (eW u.f), .int .u32 (eW u.g), .int .u32 (eW u.h)])) ∧ Below w.heap.size w w' :=
  (blocks32 bp kb s t m w p ht hm hp).mono fun e w' ⟨he, hb⟩ => ⟨⟨_, rfl, he⟩, hb⟩

theorem endingx32 (bp : Nat) (r : ByteArray) (size : Nat) (w : World) (hr : r.size < 64) (hsz : size ≤ 140737488355328) (c0 : w.cell? ⟨bp, 0, none⟩ = some (.int .i64 4)) :
    Calls Try.prog 36 #[.pointer (some ⟨bp, 0, none⟩), .string r, .int .i64 (size : Int)] w
      fun e w' => (∃ T : ByteArray, T.data.toList = endL 64 8 r.data.toList size ∧ T.size = T.size / 64 * 64 ∧ T.size ≤ 4611686018427387904 ∧ e = .returned (.string T)) ∧ Below w.heap.size w w' :=
  (ending32 bp r size w hr hsz c0).mono fun e w' ⟨he, hb⟩ => ⟨⟨⟨(endL 64 8 r.data.toList size).toArray⟩, rfl, endL32_length r.data.toList size, endL32_le r.data.toList size (by simpa using hr), he⟩, hb⟩

set_option maxHeartbeats 1000000 in
theorem sum32 (bp kb : Nat) (s0 : St 32) (d : ByteArray) (w : World) (p : Way 32) (hd : d.size ≤ 140737488355328) (hp : Plan32 p w bp kb)
    (b1 : w.cell? ⟨bp, 1, none⟩ = some (.int .u32 (eW s0.a))) (b2 : w.cell? ⟨bp, 2, none⟩ = some (.int .u32 (eW s0.b))) (b3 : w.cell? ⟨bp, 3, none⟩ = some (.int .u32 (eW s0.c))) (b4 : w.cell? ⟨bp, 4, none⟩ = some (.int .u32 (eW s0.d)))
    (b5 : w.cell? ⟨bp, 5, none⟩ = some (.int .u32 (eW s0.e))) (b6 : w.cell? ⟨bp, 6, none⟩ = some (.int .u32 (eW s0.f))) (b7 : w.cell? ⟨bp, 7, none⟩ = some (.int .u32 (eW s0.g))) (b8 : w.cell? ⟨bp, 8, none⟩ = some (.int .u32 (eW s0.h))) :
    Calls Try.prog 21 #[.pointer (some ⟨bp, 0, none⟩), .string d] w
      fun e w' => e = .returned (.string ⟨(writeTo32 (sumS32 p s0 d.data.toList) 8).toArray⟩) ∧ Below w.heap.size w w' := by
  have hlt := hp.lt
  have hltk := hp.ltk
  have c0 := hp.c0
  obtain ⟨m, hm⟩ : ∃ m, d.size / 64 = m := ⟨_, rfl⟩
  obtain ⟨q, hq⟩ : ∃ q, m * 64 = q := ⟨_, rfl⟩
  have hwh : (d.size : Int) - (d.size : Int) % 64 = (q : Int) := by omega
  have hq1 : q ≤ d.size := by omega
  have hq2 : d.size - q < 64 := by omega
  have HM : Hid (d.size / 64 = m ∧ m * 64 = q) := ⟨hm, hq⟩
  clear hm hq
  go_enter Try.func21, Try.ntmps21
  go_wp2_with (go_at_call 34; refine (bsize32 bp _ c0).mono ?_; rintro e1 w1 ⟨rfl, hw1⟩; rw [hw1]; clear hw1 w1)
  have hi1 : (0 : Int) ≤ (q : Int) := by omega
  have hi2 : (q : Int) ≤ (d.size : Int) := by omega
  go_cut [7] from 17 (fun v wx => ∃ (g : Nat) (u : St 32), v = .pointer (some ⟨g, 0, none⟩) ∧ wx.heap[g]? = some (.cells (st32 u) 35 (0, 0)) ∧ w.heap.size ≤ g ∧ Below w.heap.size w wx ∧ u = blocksTo p 4 64 s0 (d.data.toList.take q) m)
  case first =>
    go_region_with (go_at_call 35; refine (blocksx32 bp kb s0 (d.extract 0 q) m _ p (by simp; have := HM.out; omega) (by simp; omega) (by exact hp.up (by first | exact (brf _).drew | exact (bal (brf _) _).drew) hlt hltk)).mono ?_; rintro e2 w2 ⟨⟨u, hu, rfl⟩, hb2⟩; have HU : Hid (u = blocksTo p 4 64 s0 (d.extract 0 q).data.toList m) := hu; clear hu; try (have h02 : w2.heap[w.heap.size]? = some (.cells (st32 ⟨0, 0, 0, 0, 0, 0, 0, 0⟩) 35 (0, 0)) := (hb2.block _ (by simp)).trans (heap_alloc_new _ _); obtain ⟨q0, q1, q2, q3, q4, q5, q6, q7⟩ := st32_cells h02; have qf : ∀ j, w2.frozen? ⟨w.heap.size, j, none⟩ = false := fun j => frozen_of_row _ _ j _ _ h02; have HH : Hid _ := h02; clear h02))
    all_goals go_wp2_with fail
    all_goals
      have hB : Below w.heap.size w w2 := by first | exact ((brf w).drew).trans (hb2.mono (by simp)) | exact ((bal (brf w) _).drew).trans (hb2.mono (by simp))
      have hu : u = blocksTo p 4 64 s0 (d.data.toList.take q) m := by rw [HU.out, extract_list]; simp
      have HB : Hid _ := hB
      have HU2 : Hid _ := hu
      clear hB hu hb2
      go_meet
      case rel =>
        first
          | (refine ⟨w2.heap.size, u, rfl, ?_, ?_, ?_, HU2.out⟩
             · exact heap_alloc_new _ _
             · exact HB.out.size
             · exact bal HB.out _)
          | (refine ⟨w.heap.size, u, rfl, ?_, ?_, ?_, HU2.out⟩
             · exact put32_same u HH.out
             · exact Nat.le_refl _
             · exact put32_below u HB.out (Nat.le_refl _))
  case rest =>
    obtain ⟨g, u, rfl, hg, hgw, hb, hu⟩ := hcut
    have HU : Hid _ := hu
    clear hu
    obtain ⟨m0, m1, m2, m3, m4, m5, m6, m7⟩ := st32_cells hg
    have hgl : g < wc.heap.size := (Array.getElem?_eq_some_iff.1 hg).1
    have HG : Hid _ := hg
    have HB : Hid (Below w.heap.size w wc) := hb
    have hpc := hp.up hb hlt hltk
    clear hg hb b1 b2 b3 b4 b5 b6 b7 b8
    go_wp2_with fail
    go_cut [7] from 17 (fun v wx => ∃ (u2 : St 32), v = .pointer (some ⟨g, 0, none⟩) ∧ wx.heap[g]? = some (.cells (st32 u2) 35 (0, 0)) ∧ Below w.heap.size w wx ∧ u2 = sumS32 p s0 d.data.toList)
    case first =>
      go_region_with (first | (go_at_call 36; refine (endingx32 bp (d.extract q d.size) d.size wc.drew (by simp; omega) hd hpc.c0).mono ?_; rintro e3 w3 ⟨⟨T, hT1, hT2, hT3, rfl⟩, hb3⟩; have HT : Hid (T.data.toList = endL 64 8 (d.extract q d.size).data.toList d.size ∧ T.size = T.size / 64 * 64 ∧ T.size ≤ 4611686018427387904) := ⟨hT1, hT2, hT3⟩; clear hT1 hT2 hT3; have h03 : w3.heap[g]? = some (.cells (st32 u) 35 (0, 0)) := (hb3.block _ hgl).trans HG.out; obtain ⟨q0, q1, q2, q3, q4, q5, q6, q7⟩ := st32_cells h03; have H03 : Hid _ := h03; clear h03) | (go_at_call 35; refine (blocksx32 bp kb u T (T.size / 64) w3 p HT.out.2.1 HT.out.2.2 (hpc.up (B := wc.heap.size) ⟨hb3.os, hb3.tape, hb3.output, hb3.size, hb3.block⟩ hpc.lt hpc.ltk)).mono ?_; rintro e4 w4 ⟨⟨u2, hu2, rfl⟩, hb4⟩; have HU2 : Hid (u2 = blocksTo p 4 64 u T.data.toList (T.size / 64)) := hu2; clear hu2; have hg3 : g < w3.heap.size := (Array.getElem?_eq_some_iff.1 H03.out).1; have h04 : w4.heap[g]? = some (.cells (st32 u) 35 (0, 0)) := (hb4.block _ hg3).trans H03.out; obtain ⟨r0, r1, r2, r3, r4, r5, r6, r7⟩ := st32_cells h04; have rf : ∀ j, w4.frozen? ⟨g, j, none⟩ = false := fun j => frozen_of_row _ _ j _ _ h04; have H04 : Hid _ := h04; clear h04))
      all_goals go_wp2_with fail
      all_goals
        have hB3 : Below w.heap.size w w3 := HB.out.trans (Below.mono (B := wc.heap.size) ⟨hb3.os, hb3.tape, hb3.output, hb3.size, hb3.block⟩ HB.out.size)
        have hB4 : Below w.heap.size w w4 := hB3.trans (hb4.mono hB3.size)
        have HB4 : Hid _ := hB4
        have hs : u2 = sumS32 p s0 d.data.toList := by
          have e1 := HM.out
          rw [HU2.out, sumS32, HU.out]
          have e2 : d.data.toList.length = d.size := by simp
          rw [e2, e1.1, e1.2]
          have e3 : (d.extract q d.size).data.toList = d.data.toList.drop q := by rw [extract_list]; rw [List.take_of_length_le (by simp)]
          have e4 := HT.out.1
          rw [e3] at e4
          rw [← e4, show T.data.toList.length = T.size from by simp]
        have HS : Hid _ := hs
        clear hB3 hB4 hs hb3 hb4
        go_meet
        case rel =>
          refine ⟨u2, rfl, ?_, ?_, HS.out⟩
          · exact put32_same u2 H04.out
          · exact put32_below u2 HB4.out hgw
    case rest =>
      clear m0 m1 m2 m3 m4 m5 m6 m7 hpc HU HG HB
      obtain ⟨u2, rfl, hg2, hb2, hu2⟩ := hcut
      obtain ⟨m0, m1, m2, m3, m4, m5, m6, m7⟩ := st32_cells hg2
      have HU : Hid _ := hu2
      have HB : Hid (Below w.heap.size w wc) := hb2
      have hcp := b_cell hb2 hlt c0
      clear hg2 hb2 hu2
      go_wp2_with (go_at_call 37; refine (write32 bp u2 _ hcp).mono ?_; rintro e5 w5 ⟨rfl, hb5⟩)
      have hB5 : Below w.heap.size w w5 := HB.out.trans (hb5.mono HB.out.size)
      go_ret
      refine ⟨?_, hB5⟩
      rw [HU.out]; rfl
end
end Go.Proofs.Ytfihidnmgaiojaa
