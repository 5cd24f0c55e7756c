/-
  The law's own: retire.
-/
import Derived.Test.YtbllepoagnfjnaaDoorIKid
namespace Go.Proofs.YtbllepoagnfjnaaDoor.Dg
set_option maxRecDepth 4000
open Go.RowKit Go.Deep
set_option linter.unusedVariables false
set_option linter.unusedSimpArgs false

theorem ownsRow_leI {w : World} {B B' sz n : Nat} {e : TypeId} {v : Value} {xs : List Value} (h : w.ownsRow B e sz v n xs) (hB : B' ≤ B) : w.ownsRow B' e sz v n xs := by
  refine ⟨h.1, ?_⟩
  rcases h.2 with h | ⟨g, cap, cur, a, b, c⟩
  · exact .inl h
  · exact .inr ⟨g, cap, cur, a, by omega, c⟩
/-- The keys of another kid. -/
def notK (kid : ByteArray) (ks : List Ky) : List Ky := ks.filter fun k => decide (¬ k.kid.data.toList = kid.data.toList)
theorem notK_snoc (kid : ByteArray) (l : List Ky) (k : Ky) : notK kid (l ++ [k]) = notK kid l ++ if k.kid.data.toList = kid.data.toList then [] else [k] := by
  unfold notK
  rw [List.filter_append]
  by_cases h : k.kid.data.toList = kid.data.toList
  · rw [if_pos h, List.filter_cons_of_neg (by rw [decide_eq_true_iff]; exact fun hh => hh h)]; rfl
  · rw [if_neg h, List.filter_cons_of_pos (by rw [decide_eq_true_iff]; exact h)]; rfl
theorem findK_none (kid : ByteArray) : ∀ (ks : List Ky) (m : Nat), findK kid ks m < 0 → notK kid ks = ks
  | [], m, h => rfl
  | k :: ks, m, h => by
    rw [findK] at h
    by_cases hk : k.kid.data.toList = kid.data.toList
    · rw [if_pos hk] at h; omega
    · rw [if_neg hk] at h
      unfold notK
      rw [List.filter_cons_of_pos (by simp [hk])]
      have := findK_none kid ks (m + 1) h
      unfold notK at this
      rw [this]
theorem notK_all (kid : ByteArray) (ks : List Ky) (h : ∀ k ∈ ks, ¬ k.kid.data.toList = kid.data.toList) : notK kid ks = ks := by
  unfold notK
  rw [List.filter_eq_self]
  intro k hk
  simp [h k hk]
theorem findK_ge (kid : ByteArray) : ∀ (ks : List Ky) (m : Nat), findK kid ks m = -1 ∨ (m : Int) ≤ findK kid ks m
  | [], m => .inl rfl
  | k :: ks, m => by
    rw [findK]
    split
    · exact .inr (Int.le_refl _)
    · rcases findK_ge kid ks (m + 1) with h | h
      · exact .inl h
      · exact .inr (by omega)
theorem findK_some (kid : ByteArray) : ∀ (ks : List Ky) (m i : Nat), ks.Pairwise (fun a b => a.kid ≠ b.kid) → findK kid ks m = ((m + i : Nat) : Int) → i < ks.length → notK kid ks = ks.eraseIdx i
  | [], m, i, _, _, hi => by simp at hi
  | k :: ks, m, i, hd, h, hi => by
    rw [findK] at h
    rw [List.pairwise_cons] at hd
    by_cases hk : k.kid.data.toList = kid.data.toList
    · rw [if_pos hk] at h
      obtain rfl : i = 0 := by omega
      unfold notK
      rw [List.filter_cons_of_neg (by simp [hk]), List.eraseIdx_cons_zero]
      exact notK_all kid ks (fun x hx e => hd.1 x hx (teq (hk.trans e.symm)))
    · rw [if_neg hk] at h
      have hb := findK_bd kid ks (m + 1)
      cases i with
      | zero => exact absurd h (by have := findK_ge kid ks (m + 1); omega)
      | succ i =>
        have := findK_some kid ks (m + 1) i hd.2 (by rw [h]; congr 1; omega) (by simpa using hi)
        unfold notK at this ⊢
        rw [List.filter_cons_of_pos (by simp [hk]), this, List.eraseIdx_cons_succ]
set_option maxRecDepth 8000 in
set_option maxHeartbeats 4000000 in
theorem kretire (B kb b : Nat) (iss : ByteArray) (ttl now : Int) (n : Nat) (kv : Value) (ks : List Ky) (tv lv : Value) (kid : ByteArray) (w : World) (h : Inv B kb b iss ttl now n kv ks tv lv w) :
    Calls Tryd.prog 8 #[.pointer (some ⟨kb, 0, none⟩), .string kid] w fun r w' => r = .returned (.bool true) ∧ (∃ kv' ks' tv' lv', Inv B kb b iss ttl now n kv' ks' tv' lv' w') ∧ Below B w w' ∧ KeptK b kb kv tv lv w w' := by
  have hr := cretire b iss ttl now n kv ks B kid w h.isr h.row h.s1.1 h.bB h.few
  have c0 : w.cell? ⟨kb, 0, none⟩ = some (.pointer (some ⟨b, 0, none⟩)) := by simp [World.cell?, h.obj]
  have HR := ihid hr
  have H := ihid h
  have hkbw : kb < w.heap.size := (Array.getElem?_eq_some_iff.1 h.obj).1
  have hbw : b < w.heap.size := (Array.getElem?_eq_some_iff.1 h.isr.obj).1
  clear hr h
  go_enter Tryd.func8, Tryd.ntmps8
  go_wp2_with fail
  refine HR.out.mono ?_
  rintro r w1 hq
  obtain ⟨E, kv1, ks1, rfl, hI1, hK1, hO1, hC1, hns, hE⟩ : ∃ (E : Int) (kv1 : Value) (ks1 : List Ky), r = .returned (.int .i64 E) ∧ IS b iss ttl now kv1 (n : Int) w1 ∧ w1.ownsRow B 72 3 kv1 ks1.length (flatK ks1) ∧ (∀ g, kv1.ownBlock = some g → kv.ownBlock = some g ∨ w.heap.size ≤ g) ∧ Ch b kv w w1 ∧ notK kid ks = ks1 ∧ ((E = 7 ∧ ks1.length = ks.length) ∨ (E = 0 ∧ ks1.length < ks.length)) := by
    rcases hq with ⟨e1, rfl, hb1⟩ | ⟨i, e1, hi, rfl, kv1, hI1, hK1, hO1, hC1⟩
    · exact ⟨7, kv, ks, rfl, ⟨(hb1.block b hbw).trans H.out.isr.obj⟩, row_kpT H.out.row hb1, fun g hg => .inl hg, ⟨hb1.os, hb1.tape, hb1.output, hb1.size, fun g hg _ _ => hb1.block g hg⟩, findK_none kid ks 0 e1, .inl ⟨rfl, rfl⟩⟩
    · exact ⟨0, kv1, ks.eraseIdx i, rfl, hI1, hK1, hO1, hC1, findK_some kid ks 0 i H.out.diff (by rw [e1, Nat.zero_add]) hi, .inr ⟨rfl, by rw [List.length_eraseIdx, if_pos hi]; omega⟩⟩
  have hkb1 : w1.heap[kb]? = some (.cells #[.pointer (some ⟨b, 0, none⟩), tv, lv] 34 (0, 0)) := (hC1.block kb hkbw (Ne.symm H.out.bk) H.out.s1.2).trans H.out.obj
  have hT1 : w1.ownsRow B 9 1 tv n ((toldL n).map Value.string) := row_same H.out.told (fun g hg => hC1.block g ((H.out.told.lt g hg).2) (fun e => H.out.s2.1 (by rw [hg, e])) (fun e => (H.out.s4 g e).1 hg))
  have hL1 : w1.ownsRow B 9 1 lv ks.length ((ks.map Ky.kid).map Value.string) := by
    have := row_same H.out.left (fun g hg => hC1.block g ((H.out.left.lt g hg).2) (fun e => H.out.s3.1 (by rw [hg, e])) (fun e => (H.out.s4 g e).2 hg))
    rw [List.map_map]; exact this
  obtain ⟨adl, capl, hlv⟩ := own_shape hL1
  subst hlv
  have hcell := own_str hL1
  have c2 : w1.cell? ⟨kb, 2, none⟩ = some (.slice adl ks.length capl) := by simp [World.cell?, hkb1]
  have c2f : w1.frozen? ⟨kb, 2, none⟩ = false := by simp [World.frozen?, hkb1]
  have hkb1l : kb < w1.heap.size := (Array.getElem?_eq_some_iff.1 hkb1).1
  have hfew := H.out.few
  obtain ⟨i0, hi0, hz0, hz1, hz2⟩ := kinfo_partsI strinfoI
  have HCE := ihid hcell
  have HKB := ihid hkb1
  have HT1 := ihid hT1
  have HI1 := ihid hI1
  have HK1 := ihid hK1
  have HO1 := ihid hO1
  have HC1 := ihid hC1
  have HNS := ihid hns
  have HE := ihid hE
  have HII := ihid hi0
  clear hcell hkb1 hT1 hL1 hI1 hK1 hO1 hC1 hns hE hi0 HR hq
  go_wp2_with fail
  go_loopw [6, 7] (fun nv iv wr => ∃ j : Nat, j ≤ ks.length ∧ iv = .int .i64 (j : Int) ∧ wr.ownsRow w1.heap.size 9 1 nv ((notK kid (ks.take j)).map Ky.kid).length (((notK kid (ks.take j)).map Ky.kid).map Value.string) ∧ Below w1.heap.size w1 wr) (fun _ iv _ => ks.length - (intOf iv).toNat)
  case atStart => exact ⟨0, by omega, rfl, World.ownsRow_nil _ _ _ _, Below.refl _ _⟩
  case round =>
    obtain ⟨j, hj, rfl, ho, hb⟩ := hrel
    have e2 := tcell_kp hb c2
    have e2f : wr.frozen? ⟨kb, 2, none⟩ = false := (hb.frozen (p := ⟨kb, 2, none⟩) hkb1l).trans c2f
    by_cases hlt : j < ks.length
    · have k1 : (j : Int) < (ks.length : Int) := by omega
      have k2 : (j : Int) ≤ 20 := by omega
      obtain ⟨k, hk⟩ : ∃ k, ks[j]? = some k := ⟨_, List.getElem?_eq_getElem hlt⟩
      obtain ⟨g, rfl, cz0⟩ := HCE.out j k.kid (by rw [List.getElem?_map, hk]; rfl)
      have cz := tcell_kp hb cz0
      have ht : ks.take (j + 1) = ks.take j ++ [k] := by rw [List.take_add_one, hk]; rfl
      have HO := ihid ho
      have HB := ihid hb
      by_cases hq : k.kid.data.toList = kid.data.toList
      · have hnk : notK kid (ks.take (j + 1)) = notK kid (ks.take j) := by rw [ht, notK_snoc, if_pos hq, List.append_nil]
        obtain rfl : k.kid = kid := teq hq
        have HN := ihid hnk
        clear ho hb hk cz0 ht hnk hq
        go_wp2_with fail
        exact ⟨⟨j + 1, by omega, by go_num, by rw [HN.out]; exact HO.out, HB.out⟩, by simp [intOf]; omega⟩
      · have hnk : notK kid (ks.take (j + 1)) = notK kid (ks.take j) ++ [k] := by rw [ht, notK_snoc, if_neg hq]
        have hne := tne hq
        have hll : ((notK kid (ks.take j)).map Ky.kid).length ≤ 8796093022208 := by
          rw [List.length_map]
          have : (notK kid (ks.take j)).length ≤ (ks.take j).length := List.length_filter_le _ _
          rw [List.length_take] at this
          omega
        have HN := ihid hnk
        have HLL := ihid hll
        have hwz : w1.heap.size ≤ wr.heap.size := HB.out.size
        clear ho hb hk cz0 ht hnk hq hll
        go_wp2_with (refine wp_appT rfl (.tmp 33) (.tmp 41) 32 rfl 9 i0 Tryd.underlying32 HII.out hz0 hz1 hz2 w1.heap.size _ ((notK kid (ks.take j)).map Ky.kid) k.kid wr rfl HO.out hwz HLL.out rfl ?_; intro y w3 ho3 hb3; have HO3 := ihid ho3; have HB3 := ihid (HB.out.trans hb3); clear ho3 hb3)
        exact ⟨⟨j + 1, by omega, by go_num, by rw [HN.out, List.map_append]; exact HO3.out, HB3.out⟩, by simp [intOf]; omega⟩
    · have k1 : ¬ (j : Int) < (ks.length : Int) := by omega
      rw [List.take_of_length_le (by omega), HNS.out] at ho
      rw [List.length_map] at ho
      obtain ⟨adn, capn, rfl⟩ := own_shape ho
      have HO := ihid ho
      have HB := ihid hb
      have hok : (E == 0) = decide ((ks1.length : Int) < (ks.length : Int)) := by
        rcases HE.out with ⟨rfl, h⟩ | ⟨rfl, h⟩
        · rw [h]; simp
        · simp; omega
      obtain ⟨D, hD⟩ : ∃ D, D = decide ((ks1.length : Int) < (ks.length : Int)) := ⟨_, rfl⟩
      have hok2 : (E == 0) = D := hok.trans hD.symm
      have hD2 : decide ((ks1.length : Int) < (ks.length : Int)) = D := hD.symm
      have HD : Hid (D = decide (ks1.length < ks.length)) := by rw [hD]; exact decide_eq_decide.2 (by omega)
      clear ho hb hok hD
      go_wp2_with fail
      go_region_with (go_at_call 6; refine (lnumI E _).mono ?_; rintro r w5 ⟨rfl, hw5⟩; rw [hw5]; clear hw5 w5)
      all_goals go_wp2_with fail
      all_goals go_ret
      all_goals (
        have hsz := HC1.out.size
        have klt : ∀ g, kv1.ownBlock = some g → g < w1.heap.size ∧ B ≤ g := fun g hg => ⟨(HK1.out.lt g hg).2, (HK1.out.lt g hg).1⟩
        have tlt : ∀ g, tv.ownBlock = some g → g < w1.heap.size ∧ B ≤ g := fun g hg => ⟨(HT1.out.lt g hg).2, (HT1.out.lt g hg).1⟩
        have nlt : ∀ g, (Value.slice adn ks1.length capn).ownBlock = some g → w1.heap.size ≤ g := fun g hg => (HO.out.lt g hg).1
        have kne : ∀ g, kv1.ownBlock = some g → tv.ownBlock ≠ some g ∧ g ≠ b ∧ g ≠ kb := fun g hg => by
          rcases HO1.out g hg with h | h
          · exact ⟨(H.out.s4 g h).1, fun e => H.out.s1.1 (by rw [h, e]), fun e => H.out.s1.2 (by rw [h, e])⟩
          · exact ⟨fun e => by have := (H.out.told.lt g e).2; omega, by omega, by omega⟩
        have y9 : ∀ k, k ≠ kb → ((wr.setCell ⟨kb, 2, none⟩ (.slice adn ks1.length capn)).drew).heap[k]? = wr.heap[k]? := fun k hk => blk_setCell_other wr ⟨kb, 2, none⟩ _ k hk
        have y1 : ∀ k, k < w1.heap.size → k ≠ kb → ((wr.setCell ⟨kb, 2, none⟩ (.slice adn ks1.length capn)).drew).heap[k]? = w1.heap[k]? := fun k hk h => (y9 k h).trans (HB.out.block k hk)
        have hwkb : wr.heap[kb]? = some (.cells #[.pointer (some ⟨b, 0, none⟩), tv, .slice adl ks.length capl] 34 (0, 0)) := (HB.out.block kb hkb1l).trans HKB.out
        have hmem : ∀ k ∈ ks1, k ∈ ks := fun k hk => by
          rw [← HNS.out] at hk
          exact (List.mem_filter.1 hk).1
        refine ⟨?_, ⟨kv1, ks1, tv, .slice adn ks1.length capn, ?_⟩, ?_, fun k hk h1 h2 h3 h4 h5 => (y1 k (by omega) h2).trans (HC1.out.block k hk h1 h3)⟩
        · show Ending.returned (.bool (D == decide (ks1.length < ks.length))) = _
          rw [HD.out, beq_self_eq_true]
        · refine { isr := ⟨?_⟩, row := ?_, obj := ?_, told := ?_, left := ?_, bB := H.out.bB, kB := H.out.kB, bk := H.out.bk, s1 := ?_, s2 := H.out.s2, s3 := ?_, s4 := ?_, s5 := ?_, keys := ?_, diff := ?_, from' := ?_, few := ?_ }
          · rw [y1 b (by omega) H.out.bk, HI1.out.obj]
          · exact row_same HK1.out (fun g hg => y1 g (klt g hg).1 (kne g hg).2.2)
          · show (wr.setCell _ _).heap[kb]? = _
            rw [setCell_eq_setRow wr kb 2 _ _ _ _ hwkb, setRow_heap wr kb _ _ _ _ hwkb]; rfl
          · exact row_same HT1.out (fun g hg => y1 g (tlt g hg).1 (fun e => H.out.s2.2 (by rw [hg, e])))
          · have e1 : (ks1.map fun k => Value.string k.kid) = (ks1.map Ky.kid).map Value.string := by rw [List.map_map]; rfl
            rw [e1]
            exact row_same (ownsRow_leI HO.out (by have := H.out.kB; omega)) (fun g hg => y9 g (by have := nlt g hg; omega))
          · exact ⟨fun e => (kne b e).2.1 rfl, fun e => (kne kb e).2.2 rfl⟩
          · exact ⟨fun e => by have := nlt b e; omega, fun e => by have := nlt kb e; omega⟩
          · exact fun g hg => ⟨(kne g hg).1, fun e => by have := nlt g e; have := (klt g hg).1; omega⟩
          · exact fun g hg e => by have := nlt g e; have := (tlt g hg).1; omega
          · exact fun k hk => H.out.keys k (hmem k hk)
          · rw [← HNS.out]; exact H.out.diff.filter _
          · exact fun k hk => H.out.from' k (hmem k hk)
          · rw [← HNS.out]
            have : (notK kid ks).length ≤ ks.length := List.length_filter_le _ _
            omega
        · have bw := HC1.out.below H.out.bB (fun g hg => (H.out.row.lt g hg).1) (by have := H.out.kB; omega)
          refine ⟨HB.out.os.trans bw.os, HB.out.tape.trans bw.tape, HB.out.output.trans bw.output, ?_, fun k hk => ?_⟩
          · show _ ≤ (wr.setCell _ _).heap.size
            rw [nblk_setCell]
            have := HB.out.size
            omega
          · have := H.out.kB
            rw [y1 k (by omega) (by omega)]
            exact bw.block k hk)
end Go.Proofs.YtbllepoagnfjnaaDoor.Dg
