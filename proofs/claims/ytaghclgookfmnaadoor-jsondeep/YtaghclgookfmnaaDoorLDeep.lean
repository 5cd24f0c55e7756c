import Derived.Test.YtaghclgookfmnaaDoorCText
import Derived.Test.YtaghclgookfmnaaDoorDeep
/-
  The law JsonDeep, walked.
-/
namespace Go.Proofs.YtaghclgookfmnaaDoor
open Go.RowKit
set_option linter.unusedVariables false

theorem dnum (e : Int) (w : World) : Calls Tryd.prog 8 #[.int .i64 e] w fun r w' => r = .returned (.int .i64 e) ∧ w' = w := by
  go_enter Tryd.func8, Tryd.ntmps8
  go_wp2
  go_ret
  exact ⟨rfl, rfl⟩

theorem cparse_brk_ok (m : Nat) (h0 : 1 ≤ m) (h1 : m ≤ 32) (T : ByteArray) (hT : T.data.toList = brk m) (w : World) (hg : 8 ≤ w.heap.size) (hG : GV w) :
    Calls Tryd.prog 5 #[.string T] w fun r w' => (∃ ad cap, r = .returned (.tuple #[.slice ad m cap, .int .i64 0, .int .i64 0])) ∧ Below w.heap.size w w' := by
  obtain ⟨t, ht, hs⟩ := read_brk_ok m h0 h1
  have h := cparse T w hg hG
  rw [hT, ht] at h
  refine h.mono ?_
  rintro r w' ⟨⟨v, kvs, rfl, hN⟩, hb⟩
  obtain ⟨ad, cap, rfl⟩ := hN.shape
  rw [flat_length, hs]
  exact ⟨⟨ad, cap, rfl⟩, hb⟩
theorem cparse_brk_er (m : Nat) (h0 : 32 < m) (h1 : m ≤ 1000) (T : ByteArray) (hT : T.data.toList = brk m) (w : World) (hg : 8 ≤ w.heap.size) (hG : GV w) :
    Calls Tryd.prog 5 #[.string T] w fun r w' => r = .returned (.tuple #[.slice none 0 0, .int .i64 5, .int .i64 32]) ∧ Below w.heap.size w w' := by
  have h := cparse T w hg hG
  rw [hT, read_brk_er m h0 h1] at h
  exact h.mono (fun r w' ⟨⟨a, _⟩, hb⟩ => ⟨a, hb⟩)

set_option maxRecDepth 4000 in
set_option maxHeartbeats 2000000 in
theorem ldeep (n : Int) (w : World) (hg : 8 ≤ w.heap.size) (hG : GV w) :
    Calls Tryd.prog 4 #[.int .i64 n] w fun r w' => r = .returned (.bool true) ∧ Below w.heap.size w w' := by
  by_cases h1 : n < 1
  · go_enter Tryd.func4, Tryd.ntmps4
    go_wp2
    go_ret
    exact ⟨rfl, brf w⟩
  by_cases h2 : 1000 < n
  · have h3 : 1000 < n := h2
    go_enter Tryd.func4, Tryd.ntmps4
    go_wp2
    go_ret
    exact ⟨rfl, brf w⟩
  obtain ⟨m, rfl⟩ : ∃ m : Nat, n = m := ⟨n.toNat, by omega⟩
  have hm0 : 1 ≤ m := by omega
  have hm1 : m ≤ 1000 := by omega
  have HP : Hid _ := fun T hT w' h1 h2 (h : m ≤ 32) => cparse_brk_ok m hm0 h T hT w' h1 h2
  have HE : Hid _ := fun T hT w' h1 h2 (h : 32 < m) => cparse_brk_er m h hm1 T hT w' h1 h2
  have HG : Hid (8 ≤ w.heap.size ∧ GV w) := ⟨hg, hG⟩
  clear hg hG
  go_enter Tryd.func4, Tryd.ntmps4
  go_wp2_with fail
  go_loopw [3, 4] (fun sv iv wr => ∃ (T : ByteArray) (j : Nat), j ≤ m ∧ sv = .string T ∧ iv = .int .i64 (j : Int) ∧ T.data.toList = brk j ∧ Below w.heap.size w wr) (fun _ iv _ => m - (intOf iv).toNat)
  case atStart => exact ⟨⟨#[]⟩, 0, by omega, rfl, rfl, rfl, brf w⟩
  case round =>
    obtain ⟨T, j, hj, rfl, rfl, hT, hb⟩ := hrel
    have hTs : T.size ≤ 2000 := by
      have h2 : T.size = T.data.toList.length := by simp
      rw [h2, hT, brk_length]; omega
    have HT : Hid (T.data.toList = brk j) := hT
    have HB : Hid (Below w.heap.size w wr) := hb
    clear hT hb
    by_cases hlt : j < m
    · have k1 : (j : Int) < (m : Int) := by omega
      go_wp2_with fail
      go_roundw
      case rel =>
        refine ⟨⟨#[91]⟩ ++ T ++ ⟨#[93]⟩, j + 1, by omega, rfl, by go_num, ?_, HB.out⟩
        rw [ByteArray.data_append, ByteArray.data_append, Array.toList_append, Array.toList_append, HT.out, brk]; simp
      case measure => simp [intOf]; omega
    · obtain rfl : j = m := by omega
      have k1 : ¬ (j : Int) < (j : Int) := by omega
      have hz := HB.out.size
      have hgr : 8 ≤ wr.heap.size := by have := HG.out.1; omega
      have hGr : GV wr := HG.out.2.kept fun k hk => HB.out.block k (by have := HG.out.1; omega)
      by_cases h32 : j ≤ 32
      · have hp := HP.out T HT.out wr hgr hGr h32
        have k2 : ¬ (32 : Int) < (j : Int) := by omega
        clear HP HE hGr
        go_wp2_with fail
        refine hp.mono ?_
        rintro r w2 ⟨⟨ad, cap, rfl⟩, b2⟩
        have B2 : Hid (Below w.heap.size w w2) := HB.out.trans ⟨b2.os, b2.tape, b2.output, b2.size, fun k hk => b2.block k (by omega)⟩
        have hn := dnum 0 w2
        clear hp b2
        go_wp2_with fail
        refine hn.mono ?_
        rintro r w3 ⟨rfl, rfl⟩
        clear hn
        go_wp2
        go_ret
        exact ⟨rfl, B2.out⟩
      · have h33 : 32 < j := by omega
        have hp := HE.out T HT.out wr hgr hGr h33
        have k2 : (32 : Int) < (j : Int) := by omega
        clear HP HE hGr
        go_wp2_with fail
        refine hp.mono ?_
        rintro r w2 ⟨rfl, b2⟩
        have B2 : Hid (Below w.heap.size w w2) := HB.out.trans ⟨b2.os, b2.tape, b2.output, b2.size, fun k hk => b2.block k (by omega)⟩
        have hn := dnum 5 w2
        clear hp b2
        go_wp2_with fail
        refine hn.mono ?_
        rintro r w3 ⟨rfl, rfl⟩
        clear hn
        go_wp2
        go_ret
        exact ⟨rfl, B2.out⟩
end Go.Proofs.YtaghclgookfmnaaDoor
