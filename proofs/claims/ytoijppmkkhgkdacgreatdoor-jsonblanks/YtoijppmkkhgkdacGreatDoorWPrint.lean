import Derived.Test.YtoijppmkkhgkdacGreatDoorX7
import Derived.Test.YtoijppmkkhgkdacGreatDoorCText
/-
  The code's Print.
-/
namespace Go.Proofs.YtoijppmkkhgkdacGreatDoor
open Go.RowKit
set_option linter.unusedVariables false

/-- Nodes that the reader has made, as the writer reads them. -/
theorem NR.of_nk {B bp : Nat} {v : Value} {kvs : List Value} {L : List Nd} {w w2 : World} (h : NK B 38 v kvs L w) (hbp : w.heap.size ≤ bp) (hk : ∀ g, g < w.heap.size → w2.heap[g]? = w.heap[g]?) (hsz : w.heap.size ≤ w2.heap.size) : NR bp (own (.slice none 0 0) []) v L w2 := by
  have hno : ∀ x, ¬ own (.slice none 0 0) [] x := fun x hx => by
    rcases hx with hx | ⟨_, hm, _⟩
    · simp [Value.ownBlock] at hx
    · simp at hm
  have hadd : ∀ (g j : Nat), (⟨g, 0, none⟩ : Addr).add j = ⟨g, j, none⟩ := fun g j => by unfold Addr.add; split <;> simp_all
  refine ⟨fun k n hn => ?_⟩
  have hkL : k < L.length := (List.getElem?_eq_some_iff.1 hn).1
  obtain ⟨kv, hkv⟩ : ∃ kv, kvs[k]? = some kv := ⟨_, List.getElem?_eq_getElem (by have := h.1; omega)⟩
  have hrow := h.2.2.1 k n kv hn hkv
  rcases h.2.1.2 with ⟨_, b⟩ | ⟨g, cap, cur, a, b, c, _⟩
  · omega
  · have hglt : g < w.heap.size := (Array.getElem?_eq_some_iff.1 c).1
    have hg : v.ownBlock = some g := by rw [a]; rfl
    have hcell : ∀ j x, j < 6 → (ndCells n kv)[j]? = some x → w2.cell? ⟨g, k * 6 + j, none⟩ = some x := fun j x hj hx => by
      rw [World.cell?_of_block (a := ⟨g, k * 6 + j, none⟩) (hk g hglt)]
      exact (h.at hg hn hkv hj hx).1
    refine ⟨g, cap, kv, a, by omega, by omega, hno g, ?_, hcell 0 _ (by omega) rfl, hcell 1 _ (by omega) rfl, hcell 2 _ (by omega) rfl, hcell 3 _ (by omega) rfl, hcell 4 _ (by omega) rfl, hcell 5 _ (by omega) rfl⟩
    refine ⟨?_, fun j x hx => ?_⟩
    · rcases hrow.2 with ⟨e, h0⟩ | ⟨g', c', cu, e, _⟩
      · exact ⟨none, 0, by rw [e, h0]⟩
      · exact ⟨_, _, e⟩
    · rcases hrow.2 with ⟨e, h0⟩ | ⟨g', c', cu, e, b', c1, _⟩
      · have := (List.getElem?_eq_some_iff.1 hx).1; omega
      · have hlt' : g' < w.heap.size := (Array.getElem?_eq_some_iff.1 c1).1
        refine ⟨g', c', e, by omega, by omega, hno g', ?_⟩
        rw [World.cell?_of_block (a := ⟨g', j, none⟩) (hk g' hlt')]
        have := hrow.cells (g := g') (by rw [e]; rfl) j (iV x) (by rw [List.getElem?_map, hx]; rfl)
        rwa [hadd] at this
set_option maxRecDepth 4000 in
set_option maxHeartbeats 4000000 in
theorem cprint (s : ByteArray) (w : World) (hg : 8 ≤ w.heap.size) (hG : GV w) (htab : Lib.TabBelow Tryz.prog w.heap.size w "internal/strconv.uint64pow10" .u64 Lib.pow10Tab) :
    Calls Tryz.prog 8 #[.string s] w fun r w' => r = .returned (.tuple #[.string ⟨(prF (readL s.data.toList)).1.toArray⟩, .int .i64 ((prF (readL s.data.toList)).2.1 : Int), .int .i64 ((prF (readL s.data.toList)).2.2 : Int)]) ∧ Below w.heap.size w w' := by
  have hp := cparse s w hg hG
  have hfit : ∀ t, readL s.data.toList = .ok t → (WFN (flat 0 [] t) ∧ Short (flat 0 [] t)) ∧ TK (flat 0 [] t) := fun t h => ⟨read_fit h, tk_read h⟩
  generalize hR : readL s.data.toList = R at hp hfit ⊢
  clear hR
  match R, hp, hfit with
  | .error (e, a), hp, hfit =>
    clear hfit
    go_enter Tryz.func8, Tryz.ntmps8
    go_wp2_with fail
    refine hp.mono ?_
    rintro r w1 ⟨⟨rfl, he⟩, hb⟩
    have HB := Lib.hid hb
    have k1 : ¬ ((e : Int) = 0) := by omega
    have k2 : ((e : Int) != 0) = true := by simp; omega
    clear hb hp
    go_wp2
    go_ret3
    exact ⟨rfl, HB.out⟩
  | .ok t, hp, hfit =>
    obtain ⟨⟨hW, hS⟩, hT⟩ := hfit t rfl
    have hpos : 0 < (flat 0 [] t).length := by rw [flat_length]; have := size_pos t; omega
    have hlen1 := hS.one (flat 0 [] t).length 0
    have HT : Hid (TK (flat 0 [] t)) := hT
    have HW : Hid (WFN (flat 0 [] t)) := hW
    have HTAB : Hid (Lib.TabBelow Tryz.prog w.heap.size w "internal/strconv.uint64pow10" .u64 Lib.pow10Tab) := htab
    show Calls _ _ _ _ fun r w' => r = .returned (.tuple #[.string ⟨(formN (flat 0 [] t) (flat 0 [] t).length 0).toArray⟩, .int .i64 ((0 : Nat) : Int), .int .i64 ((0 : Nat) : Int)]) ∧ Below w.heap.size w w'
    have hp2 : Calls Tryz.prog 15 #[.string s] w fun r w' => (∃ v kvs, r = .returned (.tuple #[v, .int .i64 0, .int .i64 0]) ∧ NK (w.heap.size + 1) 38 v kvs (flat 0 [] t) w') ∧ Below w.heap.size w w' := hp
    clear hfit hW hS hT htab hp
    generalize flat 0 [] t = L at *
    obtain ⟨F, hF⟩ : ∃ F, F = formN L L.length 0 := ⟨_, rfl⟩
    rw [← hF]
    have HF := Lib.hid hF
    clear hF
    go_enter Tryz.func8, Tryz.ntmps8
    go_wp2_with fail
    refine hp2.mono ?_
    rintro r w1 ⟨⟨v, kvs, rfl, hK⟩, hb⟩
    have hz1 := hb.size
    obtain ⟨ad, cap, rfl⟩ := hK.shape
    have HN : Hid (∀ o, NR w1.heap.size (own (.slice none 0 0) []) (.slice ad L.length cap) L (w1.alloc o)) := fun o => NR.of_nk hK (Nat.le_refl _) (fun g hg => heap_alloc_old _ _ hg) (by simp)
    have HB := Lib.hid hb
    clear hb hK hp2
    have hZ : WZ w1.heap.size (.slice ad L.length cap) (.slice none 0 0) [] (w1.alloc (.cells #[.slice ad L.length cap, .slice none 0 0] 44)) := ⟨heap_alloc_new w1 _, ⟨rfl, .inl ⟨rfl, rfl⟩⟩⟩
    have hwf := wform L HW.out HT.out w1.heap.size (.slice ad L.length cap) L.length 0 hpos (by omega) (.slice none 0 0) [] (w1.alloc (.cells #[.slice ad L.length cap, .slice none 0 0] 44)) (HN.out _) hZ (by simp only [List.length_nil]; omega) (fun w' hb' => by
      refine HTAB.out w' (HB.out.trans ⟨hb'.os, hb'.tape, hb'.output, by have := hb'.size; simp at this; omega, fun k hk => ?_⟩)
      rw [hb'.block k (by omega), heap_alloc_old _ _ (by omega)])
    rw [List.nil_append, ← HF.out] at hwf
    clear hZ HN
    go_wp2_with fail
    refine hwf.mono ?_
    rintro r w3 ⟨rfl, v3, z3, ch3⟩
    have q1 := z3.wd.cell.2.1
    have hs3 := (OwnZ.of rfl z3.row).b.str (P := Tryz.prog) (t := 42) (d := 9) Tryz.underlying42 Tryz.underlying5 Tryz.underlying9
    have HB3 : Hid (Below w.heap.size w w3) := by
      have hs4 := ch3.size
      simp at hs4
      refine HB.out.trans ⟨ch3.os, ch3.tape, ch3.output, by omega, fun k hk => ?_⟩
      rw [ch3.block k (by simp; omega) (by omega) (fun hx => by
        rcases hx with hx | ⟨_, hm, _⟩
        · simp [Value.ownBlock] at hx
        · simp at hm), heap_alloc_old _ _ (by omega)]
    obtain ⟨ad3, cap3, rfl⟩ := z3.shape
    clear z3 ch3 hwf
    go_wp2
    go_ret3
    exact ⟨rfl, HB3.out⟩
set_option maxHeartbeats 400000 in
theorem lnumN (e : Int) (w : World) : Calls Tryz.prog 10 #[.int .i64 e] w fun r w' => r = .returned (.int .i64 e) ∧ w' = w := by
  go_enter Tryz.func10, Tryz.ntmps10
  go_wp2
  go_ret
  exact ⟨rfl, rfl⟩
end Go.Proofs.YtoijppmkkhgkdacGreatDoor
