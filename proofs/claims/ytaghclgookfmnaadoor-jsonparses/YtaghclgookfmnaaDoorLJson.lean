/-
  The law JsonParses, walked.
-/
import Derived.Test.YtaghclgookfmnaaDoorLSpoil
namespace Go.Proofs.YtaghclgookfmnaaDoor
open Go.RowKit
set_option linter.unusedVariables false

set_option maxRecDepth 4000 in
set_option maxHeartbeats 4000000 in
theorem ljson (s : ByteArray) (w : World) (hg : 8 ≤ w.heap.size) (hG : GV w) (hs : s.size ≤ 140737488351232) :
    Calls Tryd.prog 3 #[.string s] w fun r w' => r = .returned (.bool true) ∧ Below w.heap.size w w' := by
  have hp := fun w' h1 h2 => cparse_uni s w' h1 h2
  have hr := fun w' => rread_uni s w' hs
  have hp2 := fun w' h1 h2 => cparse_any ⟨#[123, 34, 97, 34, 58, 91, 49, 44, 50, 93, 44, 34, 98, 34, 58, 34, 99, 34, 125]⟩ w' h1 h2
  have hNl := ndO_len s
  have hNk := ndO_kids s
  generalize ndO (readL s.data.toList) = N at hp hr hNl hNk
  generalize erO (readL s.data.toList) = E at hp hr
  generalize atO (readL s.data.toList) = A at hp hr
  go_enter Tryd.func3, Tryd.ntmps3
  go_wp2_with fail
  refine (hp w hg hG).mono ?_
  rintro r w1 ⟨⟨v, kvs, rfl, hK1⟩, b1⟩
  have hz1 := b1.size
  have hG1 : GV w1 := hG.kept fun k hk => b1.block k (by omega)
  have hown := fun k (h : own v kvs k) => hK1.own_lt h
  obtain ⟨ad, cap, rfl⟩ := hK1.shape
  have H1 : Hid (NK (w.heap.size + 1) 33 (.slice ad N.length cap) kvs N w1 ∧ Below w.heap.size w w1 ∧ (∀ k, own (.slice ad N.length cap) kvs k → w.heap.size + 1 ≤ k ∧ k < w1.heap.size)) := ⟨hK1, b1, hown⟩
  clear hK1 b1 hown
  go_wp2_with fail
  refine (hp2 w1 (by omega) hG1).mono ?_
  rintro r w2 ⟨⟨x1, x2, x3, rfl⟩, b2⟩
  have hz2 := b2.size
  have B2 : Hid (Below w1.heap.size w1 w2) := b2
  clear b2 hp2
  go_wp2_with fail
  refine (hr w2).mono ?_
  rintro r w3 ⟨⟨y, kys, rfl, hK3⟩, b3⟩
  have hz3 := b3.size
  obtain ⟨ad3, cap3, rfl⟩ := hK3.shape
  have b13 : Below w1.heap.size w1 w3 := B2.out.trans ⟨b3.os, b3.tape, b3.output, b3.size, fun k hk => b3.block k (by omega)⟩
  have hK13 : NK (w.heap.size + 1) 33 (.slice ad N.length cap) kvs N w3 := H1.out.1.kept fun g hg' => b13.block g (H1.out.2.2 g hg').2
  have hG3 : GV w3 := hG1.kept fun k hk => b13.block k (by omega)
  have hln := lnodes (.slice ad N.length cap) (.slice ad3 N.length cap3) N w3 (RR.of hK13 hNk) (RR.of hK3 hNk) (by omega)
  have H3 : Hid (NK (w.heap.size + 1) 33 (.slice ad N.length cap) kvs N w3 ∧ NK (w2.heap.size + 1) 49 (.slice ad3 N.length cap3) kys N w3 ∧ Below w.heap.size w w3 ∧ GV w3) := ⟨hK13, hK3, H1.out.2.1.trans ⟨b13.os, b13.tape, b13.output, b13.size, fun k hk => b13.block k (by omega)⟩, hG3⟩
  clear hK3 b3 hK13 hG3 b13 hr
  go_wp2_with fail
  refine hln.mono ?_
  rintro r w4 ⟨rfl, b4⟩
  have hz4 := b4.size
  have H4 : Hid (NK (w.heap.size + 1) 33 (.slice ad N.length cap) kvs N w4 ∧ NK (w2.heap.size + 1) 49 (.slice ad3 N.length cap3) kys N w4 ∧ Below w.heap.size w w4 ∧ GV w4) := by
    obtain ⟨a1, a2, a3, a4⟩ := H3.out
    exact ⟨a1.kept fun g hg' => b4.block g (a1.own_lt hg').2, a2.kept fun g hg' => b4.block g (a2.own_lt hg').2, a3.trans ⟨b4.os, b4.tape, b4.output, b4.size, fun k hk => b4.block k (by omega)⟩, a4.kept fun k hk => b4.block k (by omega)⟩
  have hnm := fun w' => lnum (E : Int) w'
  clear b4 hln H3 B2
  go_wp2_with fail
  refine (hnm w4).mono ?_
  rintro r w5 ⟨rfl, rfl⟩
  clear hnm
  go_wp2_with fail
  have HS5 : Hid (SPL (.slice ad N.length cap) kvs N w5 0 w5) := SPL.start H4.out.1
  go_loopw [10] (fun iv wr => ∃ i : Nat, i ≤ N.length ∧ iv = .int .i64 (i : Int) ∧ SPL (.slice ad N.length cap) kvs N w5 i wr) (fun iv _ => N.length - (intOf iv).toNat)
  case atStart => exact ⟨0, by omega, rfl, HS5.out⟩
  case round =>
    clear HS5
    obtain ⟨i, hi, rfl, hS⟩ := hrel
    by_cases hin : i < N.length
    · have k1 : (i : Int) < (N.length : Int) := by omega
      have hib : (i : Int) ≤ 65536 := by omega
      obtain ⟨n, hn⟩ : ∃ n, N[i]? = some n := ⟨_, List.getElem?_eq_getElem hin⟩
      have hkl := H4.out.1.1
      obtain ⟨kv, hkv⟩ : ∃ kv, kvs[i]? = some kv := ⟨_, List.getElem?_eq_getElem (by omega)⟩
      obtain ⟨g, rfl⟩ : ∃ g, ad = some ⟨g, 0, none⟩ := by
        rcases H4.out.1.2.1.2 with ⟨e, h0⟩ | ⟨g, c, cu, e, _⟩
        · omega
        · injection e with e _ _; exact ⟨g, e⟩
      have hrow := H4.out.1.2.2.1 i n kv hn hkv
      have hnk := hNk n (List.mem_of_getElem? hn)
      obtain ⟨adk, capk, rfl⟩ : ∃ adk capk, kv = .slice adk n.kids.length capk := by
        rcases hrow.2 with ⟨e, h0⟩ | ⟨g, c, cu, e, _⟩
        · exact ⟨none, 0, by rw [e, h0]⟩
        · exact ⟨_, _, e⟩
      have hgk : 0 < n.kids.length → ∃ gk, adk = some ⟨gk, 0, none⟩ := fun h => by
        rcases hrow.2 with ⟨e, h0⟩ | ⟨gk, c, cu, e, _⟩
        · omega
        · injection e with e _ _; exact ⟨gk, e⟩
      have HN : Hid (N[i]? = some n ∧ kvs[i]? = some (.slice adk n.kids.length capk)) := ⟨hn, hkv⟩
      have HSi : Hid (SPL (.slice (some ⟨g, 0, none⟩) N.length cap) kvs N w5 i wr) := hS
      clear hn hkv hrow hS hkl
      go_wp2_with fail
      go_loopw [11] (fun kk wx => ∃ k : Nat, k ≤ n.kids.length ∧ kk = .int .i64 (k : Int) ∧ SPL (.slice (some ⟨g, 0, none⟩) N.length cap) kvs N w5 i wx) (fun kk _ => n.kids.length - (intOf kk).toNat)
      case atStart => exact ⟨0, by omega, rfl, HSi.out⟩
      case round =>
        clear HSi
        obtain ⟨k, hk, rfl, hS⟩ := hrel
        obtain ⟨cur, hc, hcl, hcr⟩ := hS.row g rfl
        have hcz : ∀ m x, cur[m]? = some x → wr.cell? ⟨g, m, none⟩ = some x := fun m x h => by rw [cell_of_row wr g m _ _ _ hc]; exact h
        have c4 := hcz _ _ (hcr i _ (Nat.le_refl _) HN.out.2)
        by_cases hkk : k < n.kids.length
        · have k2 : (k : Int) < (n.kids.length : Int) := by omega
          have hkb : (k : Int) ≤ 1000000000 := by omega
          obtain ⟨gk, rfl⟩ := hgk (by omega)
          obtain ⟨cu, hcu, hcul⟩ := hS.kid i n _ gk HN.out.1 HN.out.2 rfl
          have d0 : ∃ x, wr.cell? ⟨gk, k, none⟩ = some x := ⟨cu[k], by rw [cell_of_row wr gk k _ _ _ hcu]; exact Array.getElem?_eq_getElem (by omega)⟩
          obtain ⟨x, d0⟩ := d0
          have df : wr.frozen? ⟨gk, k, none⟩ = false := by simp [World.frozen?, hcu]
          have HK : Hid (SPL (.slice (some ⟨g, 0, none⟩) N.length cap) kvs N w5 i (wr.setCell ⟨gk, k, none⟩ (.int .i64 (-7)))) := hS.setK HN.out.1 HN.out.2 rfl k _
          clear hcu hcul hc hcl hcr hcz hS
          go_wp2_with fail
          go_roundw
          case rel => exact ⟨k + 1, by omega, by go_num, HK.out⟩
          case measure => simp [intOf]; omega
        · have k2 : ¬ (k : Int) < (n.kids.length : Int) := by omega
          have hf : ∀ m, wr.frozen? ⟨g, m, none⟩ = false := fun m => by simp [World.frozen?, hc]
          have hx : ∀ m, m < N.length * 6 → ∃ x, wr.cell? ⟨g, m, none⟩ = some x := fun m hm => ⟨cur[m]'(by omega), hcz m _ (Array.getElem?_eq_getElem (by omega))⟩
          obtain ⟨z0, e0⟩ := hx (i * 6) (by omega)
          obtain ⟨z1, e1⟩ := hx (i * 6 + 1) (by omega)
          obtain ⟨z2, e2⟩ := hx (i * 6 + 2) (by omega)
          obtain ⟨z3, e3⟩ := hx (i * 6 + 3) (by omega)
          obtain ⟨z5, e5⟩ := hx (i * 6 + 5) (by omega)
          have f0 := hf (i * 6)
          have f1 := hf (i * 6 + 1)
          have f2 := hf (i * 6 + 2)
          have f3 := hf (i * 6 + 3)
          have f4 := hf (i * 6 + 4)
          have f5 := hf (i * 6 + 5)
          have HS6 : Hid (SPL (.slice (some ⟨g, 0, none⟩) N.length cap) kvs N w5 (i + 1) ((((((wr.setCell ⟨g, i * 6, none⟩ (.int .i64 9)).setCell ⟨g, i * 6 + 1, none⟩ (.string ⟨#[]⟩)).setCell ⟨g, i * 6 + 2, none⟩ (.string ⟨#[]⟩)).setCell ⟨g, i * 6 + 3, none⟩ (.int .i64 0)).setCell ⟨g, i * 6 + 4, none⟩ (.slice none 0 0)).setCell ⟨g, i * 6 + 5, none⟩ (.int .i64 0))) :=
            (((((hS.next.setN rfl (i * 6) (by omega) _).setN rfl (i * 6 + 1) (by omega) _).setN rfl (i * 6 + 2) (by omega) _).setN rfl (i * 6 + 3) (by omega) _).setN rfl (i * 6 + 4) (by omega) _).setN rfl (i * 6 + 5) (by omega) _
          clear hf hx hcz hcr hcl hc hS hgk
          go_wp2_with fail
          refine ⟨⟨i + 1, by omega, by rw [show ((i + 1 : Nat) : Int) = (i : Int) + 1 by omega], HS6.out⟩, ?_⟩
          simp only [intOf]; omega
    · have k1 : ¬ (i : Int) < (N.length : Int) := by omega
      have hG5 : GV wr := hS.gv (B := w.heap.size) H4.out.2.2.2 (fun k hk => by have := (H1.out.2.2 k hk).1; omega) hg (by omega)
      have hz5 := hS.size
      have hpp := hp wr (by omega) hG5
      have HSi : Hid (SPL (.slice ad N.length cap) kvs N w5 i wr) := hS
      clear hp hS
      go_wp2_with fail
      refine hpp.mono ?_
      rintro r w6 ⟨⟨v6, k6, rfl, hK6⟩, b6⟩
      obtain ⟨ad6, cap6, rfl⟩ := hK6.shape
      have hz6 := b6.size
      have hKy : NK (w2.heap.size + 1) 49 (.slice ad3 N.length cap3) kys N w6 := by
        refine H4.out.2.1.kept fun gg hgg => ?_
        have h1 := H4.out.2.1.own_lt hgg
        rw [b6.block gg (by omega)]
        exact HSi.out.block gg h1.2 (fun h' => by have := (H1.out.2.2 gg h').2; omega)
      have hBl : Below w.heap.size w w6 := by
        have a := H4.out.2.2.1
        have c := HSi.out
        refine ⟨b6.os.trans (c.os.trans a.os), b6.tape.trans (c.tape.trans a.tape), b6.output.trans (c.output.trans a.output), by have := a.size; omega, fun k hk => ?_⟩
        rw [b6.block k (by omega), c.block k (by omega) (fun h' => by have := (H1.out.2.2 k h').1; omega)]
        exact a.block k hk
      have hln := lnodes (.slice ad6 N.length cap6) (.slice ad3 N.length cap3) N w6 (RR.of hK6 hNk) (RR.of hKy hNk) (by omega)
      have HB6 : Hid (Below w.heap.size w w6) := hBl
      clear hpp hK6 hKy b6 hBl
      go_wp2_with fail
      refine hln.mono ?_
      rintro r w7 ⟨rfl, b7⟩
      have HB7 : Hid (Below w.heap.size w w7) := HB6.out.trans ⟨b7.os, b7.tape, b7.output, b7.size, fun k hk => b7.block k (by omega)⟩
      clear hln b7
      go_wp2
      go_ret
      exact ⟨rfl, HB7.out⟩
end Go.Proofs.YtaghclgookfmnaaDoor
