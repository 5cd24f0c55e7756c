import Derived.Test.YtaghclgookfmnaaDoorJVal
/-
  The document's reader: a word.
-/
namespace Go.Proofs.YtaghclgookfmnaaDoor
open Go.RowKit
set_option linter.unusedVariables false

theorem isL_iff (c : UInt8) : isL c = true ↔ 97 ≤ c.toNat ∧ c.toNat ≤ 122 := by simp [isL]
theorem nl_cons (s : ByteArray) (p : Nat) (h : p < s.size) (hd : isL s[p] = true) : nl (sfx s p) = nl (sfx s (p + 1)) + 1 := by rw [sfx_cons s p h, nl, if_pos hd]
theorem nl_stop (s : ByteArray) (p : Nat) (h : p < s.size) (hd : isL s[p] = false) : nl (sfx s p) = 0 := by rw [sfx_cons s p h, nl, if_neg (by rw [hd]; simp)]
theorem nl_end (s : ByteArray) (p : Nat) (h : s.size ≤ p) : nl (sfx s p) = 0 := by rw [sfx_nil s p h]; rfl

theorem RD.setNew {bp : Nat} {s : ByteArray} {i : Nat} {vL : Value} {er at' dp b : Nat} {w : World} {cur : Array Value} {t : TypeId} {fz : Nat × Nat} (h : RD bp s i vL er at' dp w) (hc : w.heap[b]? = some (.cells cur t fz)) (hb : bp < b) (k : Nat) (v : Value) : RD bp s i vL er at' dp (w.setCell ⟨b, k, none⟩ v) := by
  rw [setCell_eq_setRow w b k _ _ _ _ hc]; exact (setRow_other w b bp _ (by omega)).trans h
theorem Onl.setNew {bp b : Nat} {w w' : World} {cur : Array Value} {t : TypeId} {fz : Nat × Nat} (h : Onl bp w w') (hc : w'.heap[b]? = some (.cells cur t fz)) (hb : w.heap.size ≤ b) (k : Nat) (v : Value) : Onl bp w (w'.setCell ⟨b, k, none⟩ v) := by
  rw [setCell_eq_setRow w' b k _ _ _ _ hc]
  exact ⟨h.os, h.tape, h.output, Nat.le_trans h.size (by simp [World.setRow]), fun j hj hn => (setRow_other w' b j _ (by omega)).trans (h.block j hj hn)⟩

theorem word_list {s : ByteArray} {i p : Nat} (hE : i + nl (sfx s i) = p) : (s.extract i p).toList = (sfx s i).take (nl (sfx s i)) := by
  rw [ByteArray.toList_eq, extract_list, show p - i = nl (sfx s i) by omega]; rfl
theorem word_len {s : ByteArray} {i p : Nat} (hp : i ≤ p ∧ p ≤ s.size) : (s.extract i p).toList.length = p - i := by
  rw [ByteArray.toList_eq, extract_list]; simp; omega
theorem word_T {s : ByteArray} {i p : Nat} (hE : i + nl (sfx s i) = p) (hp : i ≤ p ∧ p ≤ s.size) (h : (s.extract i p).toList = [116, 114, 117, 101]) : wordL (sfx s i) i = .ok (.truth true i, 4) ∧ p - i = 4 := by
  have h1 := word_list hE
  have h2 := word_len hp
  rw [h] at h1 h2
  exact ⟨by unfold wordL; rw [← h1]; rfl, h2.symm⟩
theorem word_F {s : ByteArray} {i p : Nat} (hE : i + nl (sfx s i) = p) (hp : i ≤ p ∧ p ≤ s.size) (h : (s.extract i p).toList = [102, 97, 108, 115, 101]) : wordL (sfx s i) i = .ok (.truth false i, 5) ∧ p - i = 5 := by
  have h1 := word_list hE
  have h2 := word_len hp
  rw [h] at h1 h2
  exact ⟨by unfold wordL; rw [← h1]; rfl, h2.symm⟩
theorem word_N {s : ByteArray} {i p : Nat} (hE : i + nl (sfx s i) = p) (hp : i ≤ p ∧ p ≤ s.size) (h : (s.extract i p).toList = [110, 117, 108, 108]) : wordL (sfx s i) i = .ok (.null i, 4) ∧ p - i = 4 := by
  have h1 := word_list hE
  have h2 := word_len hp
  rw [h] at h1 h2
  exact ⟨by unfold wordL; rw [← h1]; rfl, h2.symm⟩
theorem word_X {s : ByteArray} {i p : Nat} (hE : i + nl (sfx s i) = p) (hp : i ≤ p ∧ p ≤ s.size) (hT : (s.extract i p).toList ≠ [116, 114, 117, 101]) (hF : (s.extract i p).toList ≠ [102, 97, 108, 115, 101]) (hN : (s.extract i p).toList ≠ [110, 117, 108, 108]) : wordL (sfx s i) i = .error (2, i) := by
  have h1 := word_list hE
  rw [h1] at hT hF hN
  unfold wordL
  rw [if_neg hT, if_neg hF, if_neg hN]

section
variable (bp : Nat) (s : ByteArray) (i : Nat) (ns : List Nd) (up : Option Nat) (key : List UInt8) (at0 dp : Nat) (w : World)

set_option maxRecDepth 4000 in
set_option maxHeartbeats 1000000 in
theorem rword (hs : s.size ≤ 65536) (h : RN bp s i ns 0 at0 dp w) (hi : i < s.size) (hl : ns.length ≤ 1000000) (hw : WFk ns) (hup : ∀ u, up = some u → u < ns.length) (E : Nat) (hE : i + nl (sfx s i) = E) :
    Calls Tryd.prog 24 #[.pointer (some ⟨bp, 0, none⟩), .int .i64 (upV up), .string ⟨key.toArray⟩] w fun r w' => r = .returned (.tuple #[]) ∧ VP bp s i ns up key at0 dp (wordL (sfx s i) i) w' ∧ Below bp w w' := by
  obtain ⟨vL, h1, h2⟩ := h
  have hlt := h1.lt
  have HN : Hid (Nodes (bp + 1) 49 vL ns w) := h2
  have H1 : Hid (RD bp s i vL 0 at0 dp w) := h1
  have HE : Hid (i + nl (sfx s i) = E) := hE
  clear h2 hE
  obtain ⟨c0, c1, c2, c3, c4, c5, cf⟩ := h1.cell
  go_enter Tryd.func24, Tryd.ntmps24
  go_wp2_with fail
  go_loopw [12] (fun v wr => ∃ p, i ≤ p ∧ p ≤ s.size ∧ p + nl (sfx s p) = E ∧ RD bp s p vL 0 at0 dp wr ∧ Onl bp w wr) (fun _ wr => s.size - posOf (wr.cell? ⟨bp, 1, none⟩))
  case atStart => exact ⟨i, Nat.le_refl _, by omega, HE.out, H1.out, onl_refl bp w⟩
  case round =>
    clear H1 c0 c1 c2 c3 c4 c5 cf h1
    have HE0 := HE
    clear HE
    obtain ⟨p, hip, hps, hE, hrd, ho⟩ := hrel
    have HO : Hid (Onl bp w wr) := ho
    have HM : Hid (posOf (wr.cell? ⟨bp, 1, none⟩) = p) := pos_rd hrd
    obtain ⟨c0, c1, c2, c3, c4, c5, cf⟩ := hrd.cell
    have hpb : (p : Int) ≤ 65536 := by omega
    clear ho
    by_cases hL : p < s.size ∧ ∃ h : p < s.size, isL s[p] = true
    · obtain ⟨hp, _, hL⟩ := hL
      obtain ⟨a1, a2⟩ := (isL_iff _).1 hL
      have HE : Hid (p + 1 + nl (sfx s (p + 1)) = E) := by rw [nl_cons s p hp hL] at hE; show p + 1 + nl (sfx s (p + 1)) = E; omega
      have HB : Hid (i ≤ p ∧ p < s.size) := ⟨hip, hp⟩
      have hp1 : (p : Int) < (s.size : Int) := by omega
      have b1 : (97 : Int) ≤ (s[p].toNat : Int) := by omega
      have b2 : (s[p].toNat : Int) ≤ 122 := by omega
      clear hE hL hip hps a1 a2
      go_wp2_with fail
      go_quiet (fail)
      have h3 := hrd.drewN nq
      have O3 : Hid (Onl bp w (wr.drewN nq)) := Onl.drewN HO.out nq
      generalize wr.drewN nq = w3 at h3 O3
      clear c0 c1 c2 c3 c4 c5 cf hrd HO nq
      obtain ⟨c0, c1, c2, c3, c4, c5, cf⟩ := h3.cell
      have f1 := cf 1
      go_wp2_with fail
      obtain ⟨q1, q2⟩ := HB.out
      refine ⟨⟨p + 1, by omega, by omega, HE.out, h3.setI (p + 1), Onl.setCell O3.out _ h3⟩, ?_⟩
      rw [HM.out, pos_set h3 p]; omega
    · have hz : nl (sfx s p) = 0 := by
        by_cases hp : p < s.size
        · exact nl_stop s p hp (by cases e : isL s[p]; rfl; exact absurd ⟨hp, hp, e⟩ hL)
        · exact nl_end s p (by omega)
      have hpE : p = E := by omega
      subst hpE
      have HB : Hid (i ≤ p ∧ p ≤ s.size) := ⟨hip, hps⟩
      have hcase : (decide ((p : Int) < (s.size : Int)) = false ∧ decide (p < s.size) = false) ∨ ∃ hp : p < s.size, (p : Int) < (s.size : Int) ∧ (decide ((97 : Int) ≤ (s[p].toNat : Int)) = false ∨ ((97 : Int) ≤ (s[p].toNat : Int) ∧ decide ((s[p].toNat : Int) ≤ 122) = false)) := by
        by_cases hp : p < s.size
        · right
          refine ⟨hp, by omega, ?_⟩
          have hn : ¬ (97 ≤ s[p].toNat ∧ s[p].toNat ≤ 122) := fun e => hL ⟨hp, hp, (isL_iff _).2 e⟩
          by_cases h97 : 97 ≤ s[p].toNat
          · right; exact ⟨by omega, by simp; omega⟩
          · left; simp; omega
        · left; exact ⟨by simp; omega, by simp; omega⟩
      have hip' : (i : Int) ≤ (p : Int) := by omega
      have hps' : (p : Int) ≤ (s.size : Int) := by omega
      clear hE hL hz hip hps
      rcases hcase with ⟨e1, e0⟩ | ⟨hp, e1, e2 | ⟨e2, e3⟩⟩
      · go_wp2_with fail
        go_quiet (fail)
        have h3 := hrd.drewN nq
        have O3 : Hid (Onl bp w (wr.drewN nq)) := Onl.drewN HO.out nq
        generalize wr.drewN nq = w3 at h3 O3
        clear c0 c1 c2 c3 c4 c5 cf hrd HO nq
        obtain ⟨c0, c1, c2, c3, c4, c5, cf⟩ := h3.cell
        go_wp2_with fail
        have hA := h3.alloc (.cells #[.int .i64 1, .string ⟨key.toArray⟩, .string ⟨#[]⟩, .int .i64 0, .slice none 0 0, .int .i64 (i : Int)] 49)
        have hbx := heap_alloc_new w3 (.cells #[.int .i64 1, .string ⟨key.toArray⟩, .string ⟨#[]⟩, .int .i64 0, .slice none 0 0, .int .i64 (i : Int)] 49 (0, 0))
        have OA : Hid (Onl bp w (w3.alloc (.cells #[.int .i64 1, .string ⟨key.toArray⟩, .string ⟨#[]⟩, .int .i64 0, .slice none 0 0, .int .i64 (i : Int)] 49))) := Onl.alloc O3.out _
        have hbl : bp < w3.heap.size := h3.lt
        have hb3 : w.heap.size ≤ w3.heap.size := O3.out.size
        generalize w3.alloc (.cells #[.int .i64 1, .string ⟨key.toArray⟩, .string ⟨#[]⟩, .int .i64 0, .slice none 0 0, .int .i64 (i : Int)] 49) = wA at hA hbx OA
        generalize hB3 : w3.heap.size = b3 at hbx hbl hb3
        clear c0 c1 c2 c3 c4 c5 cf h3 O3 hB3 w3 e1 e0
        obtain ⟨c0, c1, c2, c3, c4, c5, cf⟩ := hA.cell
        go_quiet (fail)
        have h4 := hA.drewN nq
        have O4 : Hid (Onl bp w (wA.drewN nq)) := Onl.drewN OA.out nq
        have hx4 : (wA.drewN nq).heap[b3]? = some (.cells #[.int .i64 1, .string ⟨key.toArray⟩, .string ⟨#[]⟩, .int .i64 0, .slice none 0 0, .int .i64 (i : Int)] 49 (0, 0)) := hbx
        generalize wA.drewN nq = w4 at h4 O4 hx4
        clear c0 c1 c2 c3 c4 c5 cf hA OA hbx nq wA
        obtain ⟨c0, c1, c2, c3, c4, c5, cf⟩ := h4.cell
        have x0 := cell_of_row w4 b3 0 _ _ _ hx4
        have x1 := cell_of_row w4 b3 1 _ _ _ hx4
        have x2 := cell_of_row w4 b3 2 _ _ _ hx4
        have x3 := cell_of_row w4 b3 3 _ _ _ hx4
        have x4 := cell_of_row w4 b3 4 _ _ _ hx4
        have x5 := cell_of_row w4 b3 5 _ _ _ hx4
        have xf : ∀ k, w4.frozen? ⟨b3, k, none⟩ = false := fun k => by simp [World.frozen?, hx4]
        simp only [List.getElem?_toArray, List.getElem?_cons_zero, List.getElem?_cons_succ] at x0 x1 x2 x3 x4 x5
        by_cases hT : (s.extract i p).toList = [116, 114, 117, 101]
        · have eT : ((s.extract i p).toList == [116, 114, 117, 101]) = true := by rw [hT]; rfl
          have HW : Hid (wordL (sfx s i) i = .ok (.truth true i, 4) ∧ p - i = 4) := word_T HE0.out HB.out hT
          clear hT
          have f3 := xf 3
          have HF5 : Hid (RD bp s p vL 0 at0 dp (w4.setCell ⟨b3, 3, none⟩ (.int .i64 1)) ∧ Onl bp w (w4.setCell ⟨b3, 3, none⟩ (.int .i64 1)) ∧ (w4.setCell ⟨b3, 3, none⟩ (.int .i64 1)).heap[b3]? = some (.cells #[.int .i64 1, .string ⟨key.toArray⟩, .string ⟨#[]⟩, .int .i64 1, .slice none 0 0, .int .i64 (i : Int)] 49 (0, 0))) := ⟨RD.setNew h4 hx4 (by omega) 3 _, Onl.setNew O4.out hx4 hb3 3 _, by rw [setCell_eq_setRow w4 b3 3 _ _ _ _ hx4]; exact setRow_heap w4 b3 _ _ _ _ hx4⟩
          go_upto_region 11 with fail
          generalize w4.setCell ⟨b3, 3, none⟩ (.int .i64 1) = w5 at HF5
          obtain ⟨h5, o5, y5⟩ := HF5.out
          have z0 := cell_of_row w5 b3 0 _ _ _ y5
          have z1 := cell_of_row w5 b3 1 _ _ _ y5
          have z2 := cell_of_row w5 b3 2 _ _ _ y5
          have z3 := cell_of_row w5 b3 3 _ _ _ y5
          have z4 := cell_of_row w5 b3 4 _ _ _ y5
          have z5 := cell_of_row w5 b3 5 _ _ _ y5
          simp only [List.getElem?_toArray, List.getElem?_cons_zero, List.getElem?_cons_succ] at z0 z1 z2 z3 z4 z5
          have ha := radd bp s p 0 at0 dp ns up ⟨1, key, [], 1, [], i⟩ w5 ⟨vL, h5, HN.out.onl o5 (by omega)⟩ rfl hl hw hup
          unfold ndV at ha
          have O5 : Hid (Onl bp w w5) := o5
          clear h5 o5 y5 c0 c1 c2 c3 c4 c5 cf x0 x1 x2 x3 x4 x5 xf h4 O4 hx4
          go_wp2_with fail
          refine ha.mono ?_
          rintro e w6 ⟨rfl, h6, hb6⟩
          have H6 : Hid (RN bp s p (addKid ns up ns.length ++ [⟨1, key, [], 1, [], i⟩]) 0 at0 dp w6) := h6
          have B6 : Hid (Below bp w w6) := (onl_bel O5.out hlt).trans hb6
          clear h6 hb6 ha
          go_wp2
          go_end0
          refine ⟨rfl, ?_, B6.out⟩
          rw [HW.out.1]
          show RN bp s (i + 4) _ 0 at0 dp w6
          rw [show i + 4 = p by have := HW.out.2; omega]
          exact H6.out
        · have eT : ((s.extract i p).toList == [116, 114, 117, 101]) = false := by rw [beq_eq_false_iff_ne]; exact hT
          by_cases hF : (s.extract i p).toList = [102, 97, 108, 115, 101]
          · have eF : ((s.extract i p).toList == [102, 97, 108, 115, 101]) = true := by rw [hF]; rfl
            have HW : Hid (wordL (sfx s i) i = .ok (.truth false i, 5) ∧ p - i = 5) := word_F HE0.out HB.out hF
            clear hT hF
            have HF5 : Hid (RD bp s p vL 0 at0 dp w4 ∧ Onl bp w w4 ∧ w4.heap[b3]? = some (.cells #[.int .i64 1, .string ⟨key.toArray⟩, .string ⟨#[]⟩, .int .i64 0, .slice none 0 0, .int .i64 (i : Int)] 49 (0, 0))) := ⟨h4, O4.out, hx4⟩
            go_upto_region 11 with fail
            obtain ⟨h5, o5, y5⟩ := HF5.out
            have ha := radd bp s p 0 at0 dp ns up ⟨1, key, [], 0, [], i⟩ w4 ⟨vL, h5, HN.out.onl o5 (by omega)⟩ rfl hl hw hup
            unfold ndV at ha
            have O5 : Hid (Onl bp w w4) := o5
            clear h5 o5 y5 c0 c1 c2 c3 c4 c5 cf xf h4 O4 hx4
            go_wp2_with fail
            refine ha.mono ?_
            rintro e w6 ⟨rfl, h6, hb6⟩
            have H6 : Hid (RN bp s p (addKid ns up ns.length ++ [⟨1, key, [], 0, [], i⟩]) 0 at0 dp w6) := h6
            have B6 : Hid (Below bp w w6) := (onl_bel O5.out hlt).trans hb6
            clear h6 hb6 ha
            go_wp2
            go_end0
            refine ⟨rfl, ?_, B6.out⟩
            rw [HW.out.1]
            show RN bp s (i + 5) _ 0 at0 dp w6
            rw [show i + 5 = p by have := HW.out.2; omega]
            exact H6.out
          · have eF : ((s.extract i p).toList == [102, 97, 108, 115, 101]) = false := by rw [beq_eq_false_iff_ne]; exact hF
            by_cases hN : (s.extract i p).toList = [110, 117, 108, 108]
            · have eN : ((s.extract i p).toList == [110, 117, 108, 108]) = true := by rw [hN]; rfl
              have HW : Hid (wordL (sfx s i) i = .ok (.null i, 4) ∧ p - i = 4) := word_N HE0.out HB.out hN
              clear hT hF hN
              have f3 := xf 0
              have HF5 : Hid (RD bp s p vL 0 at0 dp (w4.setCell ⟨b3, 0, none⟩ (.int .i64 0)) ∧ Onl bp w (w4.setCell ⟨b3, 0, none⟩ (.int .i64 0)) ∧ (w4.setCell ⟨b3, 0, none⟩ (.int .i64 0)).heap[b3]? = some (.cells #[.int .i64 0, .string ⟨key.toArray⟩, .string ⟨#[]⟩, .int .i64 0, .slice none 0 0, .int .i64 (i : Int)] 49 (0, 0))) := ⟨RD.setNew h4 hx4 (by omega) 0 _, Onl.setNew O4.out hx4 hb3 0 _, by rw [setCell_eq_setRow w4 b3 0 _ _ _ _ hx4]; exact setRow_heap w4 b3 _ _ _ _ hx4⟩
              go_upto_region 11 with fail
              generalize w4.setCell ⟨b3, 0, none⟩ (.int .i64 0) = w5 at HF5
              obtain ⟨h5, o5, y5⟩ := HF5.out
              have z0 := cell_of_row w5 b3 0 _ _ _ y5
              have z1 := cell_of_row w5 b3 1 _ _ _ y5
              have z2 := cell_of_row w5 b3 2 _ _ _ y5
              have z3 := cell_of_row w5 b3 3 _ _ _ y5
              have z4 := cell_of_row w5 b3 4 _ _ _ y5
              have z5 := cell_of_row w5 b3 5 _ _ _ y5
              simp only [List.getElem?_toArray, List.getElem?_cons_zero, List.getElem?_cons_succ] at z0 z1 z2 z3 z4 z5
              have ha := radd bp s p 0 at0 dp ns up ⟨0, key, [], 0, [], i⟩ w5 ⟨vL, h5, HN.out.onl o5 (by omega)⟩ rfl hl hw hup
              unfold ndV at ha
              have O5 : Hid (Onl bp w w5) := o5
              clear h5 o5 y5 c0 c1 c2 c3 c4 c5 cf x0 x1 x2 x3 x4 x5 xf h4 O4 hx4
              go_wp2_with fail
              refine ha.mono ?_
              rintro e w6 ⟨rfl, h6, hb6⟩
              have H6 : Hid (RN bp s p (addKid ns up ns.length ++ [⟨0, key, [], 0, [], i⟩]) 0 at0 dp w6) := h6
              have B6 : Hid (Below bp w w6) := (onl_bel O5.out hlt).trans hb6
              clear h6 hb6 ha
              go_wp2
              go_end0
              refine ⟨rfl, ?_, B6.out⟩
              rw [HW.out.1]
              show RN bp s (i + 4) _ 0 at0 dp w6
              rw [show i + 4 = p by have := HW.out.2; omega]
              exact H6.out
            · have eN : ((s.extract i p).toList == [110, 117, 108, 108]) = false := by rw [beq_eq_false_iff_ne]; exact hN
              have HW : Hid (wordL (sfx s i) i = .error (2, i)) := word_X HE0.out HB.out hT hF hN
              clear hT hF hN
              have hfa : Calls Tryd.prog 13 #[.pointer (some ⟨bp, 0, none⟩), .int .i64 2, .int .i64 (i : Int)] w4 fun r w' => r = .returned (.tuple #[]) ∧ RD bp s p vL 2 i dp w' ∧ Onl bp w4 w' := rfail0 bp s p vL at0 dp 2 i _ h4
              go_wp2_with fail
              refine hfa.mono ?_
              rintro e w5 ⟨rfl, h5, o5x⟩
              have o5 : Onl bp w w5 := Onl.trans O4.out o5x
              have y5 : w5.heap[b3]? = some (.cells #[.int .i64 1, .string ⟨key.toArray⟩, .string ⟨#[]⟩, .int .i64 0, .slice none 0 0, .int .i64 (i : Int)] 49 (0, 0)) := (o5x.block b3 (Array.getElem?_eq_some_iff.1 hx4).1 (fun e => by injection e with e; omega)).trans hx4
              clear hfa o5x
              have z0 := cell_of_row w5 b3 0 _ _ _ y5
              have z1 := cell_of_row w5 b3 1 _ _ _ y5
              have z2 := cell_of_row w5 b3 2 _ _ _ y5
              have z3 := cell_of_row w5 b3 3 _ _ _ y5
              have z4 := cell_of_row w5 b3 4 _ _ _ y5
              have z5 := cell_of_row w5 b3 5 _ _ _ y5
              simp only [List.getElem?_toArray, List.getElem?_cons_zero, List.getElem?_cons_succ] at z0 z1 z2 z3 z4 z5
              have ha := radd bp s p 2 i dp ns up ⟨1, key, [], 0, [], i⟩ w5 ⟨vL, h5, HN.out.onl o5 (by omega)⟩ rfl hl hw hup
              unfold ndV at ha
              have O5 : Hid (Onl bp w w5) := o5
              clear h5 o5 y5 c0 c1 c2 c3 c4 c5 cf x0 x1 x2 x3 x4 x5 xf h4 O4 hx4
              go_wp2_with fail
              refine ha.mono ?_
              rintro e w6 ⟨rfl, h6, hb6⟩
              have H6 : Hid (RN bp s p (addKid ns up ns.length ++ [⟨1, key, [], 0, [], i⟩]) 2 i dp w6) := h6
              have B6 : Hid (Below bp w w6) := (onl_bel O5.out hlt).trans hb6
              clear h6 hb6 ha
              go_wp2
              go_end0
              refine ⟨rfl, ?_, B6.out⟩
              rw [HW.out]
              obtain ⟨v6, h6, _⟩ := H6.out
              exact ⟨by omega, _, _, h6⟩
      · go_wp2_with fail
        go_quiet (fail)
        have h3 := hrd.drewN nq
        have O3 : Hid (Onl bp w (wr.drewN nq)) := Onl.drewN HO.out nq
        generalize wr.drewN nq = w3 at h3 O3
        clear c0 c1 c2 c3 c4 c5 cf hrd HO nq
        obtain ⟨c0, c1, c2, c3, c4, c5, cf⟩ := h3.cell
        go_wp2_with fail
        have hA := h3.alloc (.cells #[.int .i64 1, .string ⟨key.toArray⟩, .string ⟨#[]⟩, .int .i64 0, .slice none 0 0, .int .i64 (i : Int)] 49)
        have hbx := heap_alloc_new w3 (.cells #[.int .i64 1, .string ⟨key.toArray⟩, .string ⟨#[]⟩, .int .i64 0, .slice none 0 0, .int .i64 (i : Int)] 49 (0, 0))
        have OA : Hid (Onl bp w (w3.alloc (.cells #[.int .i64 1, .string ⟨key.toArray⟩, .string ⟨#[]⟩, .int .i64 0, .slice none 0 0, .int .i64 (i : Int)] 49))) := Onl.alloc O3.out _
        have hbl : bp < w3.heap.size := h3.lt
        have hb3 : w.heap.size ≤ w3.heap.size := O3.out.size
        generalize w3.alloc (.cells #[.int .i64 1, .string ⟨key.toArray⟩, .string ⟨#[]⟩, .int .i64 0, .slice none 0 0, .int .i64 (i : Int)] 49) = wA at hA hbx OA
        generalize hB3 : w3.heap.size = b3 at hbx hbl hb3
        clear c0 c1 c2 c3 c4 c5 cf h3 O3 hB3 w3 e2
        obtain ⟨c0, c1, c2, c3, c4, c5, cf⟩ := hA.cell
        go_quiet (fail)
        have h4 := hA.drewN nq
        have O4 : Hid (Onl bp w (wA.drewN nq)) := Onl.drewN OA.out nq
        have hx4 : (wA.drewN nq).heap[b3]? = some (.cells #[.int .i64 1, .string ⟨key.toArray⟩, .string ⟨#[]⟩, .int .i64 0, .slice none 0 0, .int .i64 (i : Int)] 49 (0, 0)) := hbx
        generalize wA.drewN nq = w4 at h4 O4 hx4
        clear c0 c1 c2 c3 c4 c5 cf hA OA hbx nq wA
        obtain ⟨c0, c1, c2, c3, c4, c5, cf⟩ := h4.cell
        have x0 := cell_of_row w4 b3 0 _ _ _ hx4
        have x1 := cell_of_row w4 b3 1 _ _ _ hx4
        have x2 := cell_of_row w4 b3 2 _ _ _ hx4
        have x3 := cell_of_row w4 b3 3 _ _ _ hx4
        have x4 := cell_of_row w4 b3 4 _ _ _ hx4
        have x5 := cell_of_row w4 b3 5 _ _ _ hx4
        have xf : ∀ k, w4.frozen? ⟨b3, k, none⟩ = false := fun k => by simp [World.frozen?, hx4]
        simp only [List.getElem?_toArray, List.getElem?_cons_zero, List.getElem?_cons_succ] at x0 x1 x2 x3 x4 x5
        by_cases hT : (s.extract i p).toList = [116, 114, 117, 101]
        · have eT : ((s.extract i p).toList == [116, 114, 117, 101]) = true := by rw [hT]; rfl
          have HW : Hid (wordL (sfx s i) i = .ok (.truth true i, 4) ∧ p - i = 4) := word_T HE0.out HB.out hT
          clear hT
          have f3 := xf 3
          have HF5 : Hid (RD bp s p vL 0 at0 dp (w4.setCell ⟨b3, 3, none⟩ (.int .i64 1)) ∧ Onl bp w (w4.setCell ⟨b3, 3, none⟩ (.int .i64 1)) ∧ (w4.setCell ⟨b3, 3, none⟩ (.int .i64 1)).heap[b3]? = some (.cells #[.int .i64 1, .string ⟨key.toArray⟩, .string ⟨#[]⟩, .int .i64 1, .slice none 0 0, .int .i64 (i : Int)] 49 (0, 0))) := ⟨RD.setNew h4 hx4 (by omega) 3 _, Onl.setNew O4.out hx4 hb3 3 _, by rw [setCell_eq_setRow w4 b3 3 _ _ _ _ hx4]; exact setRow_heap w4 b3 _ _ _ _ hx4⟩
          go_upto_region 11 with fail
          generalize w4.setCell ⟨b3, 3, none⟩ (.int .i64 1) = w5 at HF5
          obtain ⟨h5, o5, y5⟩ := HF5.out
          have z0 := cell_of_row w5 b3 0 _ _ _ y5
          have z1 := cell_of_row w5 b3 1 _ _ _ y5
          have z2 := cell_of_row w5 b3 2 _ _ _ y5
          have z3 := cell_of_row w5 b3 3 _ _ _ y5
          have z4 := cell_of_row w5 b3 4 _ _ _ y5
          have z5 := cell_of_row w5 b3 5 _ _ _ y5
          simp only [List.getElem?_toArray, List.getElem?_cons_zero, List.getElem?_cons_succ] at z0 z1 z2 z3 z4 z5
          have ha := radd bp s p 0 at0 dp ns up ⟨1, key, [], 1, [], i⟩ w5 ⟨vL, h5, HN.out.onl o5 (by omega)⟩ rfl hl hw hup
          unfold ndV at ha
          have O5 : Hid (Onl bp w w5) := o5
          clear h5 o5 y5 c0 c1 c2 c3 c4 c5 cf x0 x1 x2 x3 x4 x5 xf h4 O4 hx4
          go_wp2_with fail
          refine ha.mono ?_
          rintro e w6 ⟨rfl, h6, hb6⟩
          have H6 : Hid (RN bp s p (addKid ns up ns.length ++ [⟨1, key, [], 1, [], i⟩]) 0 at0 dp w6) := h6
          have B6 : Hid (Below bp w w6) := (onl_bel O5.out hlt).trans hb6
          clear h6 hb6 ha
          go_wp2
          go_end0
          refine ⟨rfl, ?_, B6.out⟩
          rw [HW.out.1]
          show RN bp s (i + 4) _ 0 at0 dp w6
          rw [show i + 4 = p by have := HW.out.2; omega]
          exact H6.out
        · have eT : ((s.extract i p).toList == [116, 114, 117, 101]) = false := by rw [beq_eq_false_iff_ne]; exact hT
          by_cases hF : (s.extract i p).toList = [102, 97, 108, 115, 101]
          · have eF : ((s.extract i p).toList == [102, 97, 108, 115, 101]) = true := by rw [hF]; rfl
            have HW : Hid (wordL (sfx s i) i = .ok (.truth false i, 5) ∧ p - i = 5) := word_F HE0.out HB.out hF
            clear hT hF
            have HF5 : Hid (RD bp s p vL 0 at0 dp w4 ∧ Onl bp w w4 ∧ w4.heap[b3]? = some (.cells #[.int .i64 1, .string ⟨key.toArray⟩, .string ⟨#[]⟩, .int .i64 0, .slice none 0 0, .int .i64 (i : Int)] 49 (0, 0))) := ⟨h4, O4.out, hx4⟩
            go_upto_region 11 with fail
            obtain ⟨h5, o5, y5⟩ := HF5.out
            have ha := radd bp s p 0 at0 dp ns up ⟨1, key, [], 0, [], i⟩ w4 ⟨vL, h5, HN.out.onl o5 (by omega)⟩ rfl hl hw hup
            unfold ndV at ha
            have O5 : Hid (Onl bp w w4) := o5
            clear h5 o5 y5 c0 c1 c2 c3 c4 c5 cf xf h4 O4 hx4
            go_wp2_with fail
            refine ha.mono ?_
            rintro e w6 ⟨rfl, h6, hb6⟩
            have H6 : Hid (RN bp s p (addKid ns up ns.length ++ [⟨1, key, [], 0, [], i⟩]) 0 at0 dp w6) := h6
            have B6 : Hid (Below bp w w6) := (onl_bel O5.out hlt).trans hb6
            clear h6 hb6 ha
            go_wp2
            go_end0
            refine ⟨rfl, ?_, B6.out⟩
            rw [HW.out.1]
            show RN bp s (i + 5) _ 0 at0 dp w6
            rw [show i + 5 = p by have := HW.out.2; omega]
            exact H6.out
          · have eF : ((s.extract i p).toList == [102, 97, 108, 115, 101]) = false := by rw [beq_eq_false_iff_ne]; exact hF
            by_cases hN : (s.extract i p).toList = [110, 117, 108, 108]
            · have eN : ((s.extract i p).toList == [110, 117, 108, 108]) = true := by rw [hN]; rfl
              have HW : Hid (wordL (sfx s i) i = .ok (.null i, 4) ∧ p - i = 4) := word_N HE0.out HB.out hN
              clear hT hF hN
              have f3 := xf 0
              have HF5 : Hid (RD bp s p vL 0 at0 dp (w4.setCell ⟨b3, 0, none⟩ (.int .i64 0)) ∧ Onl bp w (w4.setCell ⟨b3, 0, none⟩ (.int .i64 0)) ∧ (w4.setCell ⟨b3, 0, none⟩ (.int .i64 0)).heap[b3]? = some (.cells #[.int .i64 0, .string ⟨key.toArray⟩, .string ⟨#[]⟩, .int .i64 0, .slice none 0 0, .int .i64 (i : Int)] 49 (0, 0))) := ⟨RD.setNew h4 hx4 (by omega) 0 _, Onl.setNew O4.out hx4 hb3 0 _, by rw [setCell_eq_setRow w4 b3 0 _ _ _ _ hx4]; exact setRow_heap w4 b3 _ _ _ _ hx4⟩
              go_upto_region 11 with fail
              generalize w4.setCell ⟨b3, 0, none⟩ (.int .i64 0) = w5 at HF5
              obtain ⟨h5, o5, y5⟩ := HF5.out
              have z0 := cell_of_row w5 b3 0 _ _ _ y5
              have z1 := cell_of_row w5 b3 1 _ _ _ y5
              have z2 := cell_of_row w5 b3 2 _ _ _ y5
              have z3 := cell_of_row w5 b3 3 _ _ _ y5
              have z4 := cell_of_row w5 b3 4 _ _ _ y5
              have z5 := cell_of_row w5 b3 5 _ _ _ y5
              simp only [List.getElem?_toArray, List.getElem?_cons_zero, List.getElem?_cons_succ] at z0 z1 z2 z3 z4 z5
              have ha := radd bp s p 0 at0 dp ns up ⟨0, key, [], 0, [], i⟩ w5 ⟨vL, h5, HN.out.onl o5 (by omega)⟩ rfl hl hw hup
              unfold ndV at ha
              have O5 : Hid (Onl bp w w5) := o5
              clear h5 o5 y5 c0 c1 c2 c3 c4 c5 cf x0 x1 x2 x3 x4 x5 xf h4 O4 hx4
              go_wp2_with fail
              refine ha.mono ?_
              rintro e w6 ⟨rfl, h6, hb6⟩
              have H6 : Hid (RN bp s p (addKid ns up ns.length ++ [⟨0, key, [], 0, [], i⟩]) 0 at0 dp w6) := h6
              have B6 : Hid (Below bp w w6) := (onl_bel O5.out hlt).trans hb6
              clear h6 hb6 ha
              go_wp2
              go_end0
              refine ⟨rfl, ?_, B6.out⟩
              rw [HW.out.1]
              show RN bp s (i + 4) _ 0 at0 dp w6
              rw [show i + 4 = p by have := HW.out.2; omega]
              exact H6.out
            · have eN : ((s.extract i p).toList == [110, 117, 108, 108]) = false := by rw [beq_eq_false_iff_ne]; exact hN
              have HW : Hid (wordL (sfx s i) i = .error (2, i)) := word_X HE0.out HB.out hT hF hN
              clear hT hF hN
              have hfa : Calls Tryd.prog 13 #[.pointer (some ⟨bp, 0, none⟩), .int .i64 2, .int .i64 (i : Int)] w4 fun r w' => r = .returned (.tuple #[]) ∧ RD bp s p vL 2 i dp w' ∧ Onl bp w4 w' := rfail0 bp s p vL at0 dp 2 i _ h4
              go_wp2_with fail
              refine hfa.mono ?_
              rintro e w5 ⟨rfl, h5, o5x⟩
              have o5 : Onl bp w w5 := Onl.trans O4.out o5x
              have y5 : w5.heap[b3]? = some (.cells #[.int .i64 1, .string ⟨key.toArray⟩, .string ⟨#[]⟩, .int .i64 0, .slice none 0 0, .int .i64 (i : Int)] 49 (0, 0)) := (o5x.block b3 (Array.getElem?_eq_some_iff.1 hx4).1 (fun e => by injection e with e; omega)).trans hx4
              clear hfa o5x
              have z0 := cell_of_row w5 b3 0 _ _ _ y5
              have z1 := cell_of_row w5 b3 1 _ _ _ y5
              have z2 := cell_of_row w5 b3 2 _ _ _ y5
              have z3 := cell_of_row w5 b3 3 _ _ _ y5
              have z4 := cell_of_row w5 b3 4 _ _ _ y5
              have z5 := cell_of_row w5 b3 5 _ _ _ y5
              simp only [List.getElem?_toArray, List.getElem?_cons_zero, List.getElem?_cons_succ] at z0 z1 z2 z3 z4 z5
              have ha := radd bp s p 2 i dp ns up ⟨1, key, [], 0, [], i⟩ w5 ⟨vL, h5, HN.out.onl o5 (by omega)⟩ rfl hl hw hup
              unfold ndV at ha
              have O5 : Hid (Onl bp w w5) := o5
              clear h5 o5 y5 c0 c1 c2 c3 c4 c5 cf x0 x1 x2 x3 x4 x5 xf h4 O4 hx4
              go_wp2_with fail
              refine ha.mono ?_
              rintro e w6 ⟨rfl, h6, hb6⟩
              have H6 : Hid (RN bp s p (addKid ns up ns.length ++ [⟨1, key, [], 0, [], i⟩]) 2 i dp w6) := h6
              have B6 : Hid (Below bp w w6) := (onl_bel O5.out hlt).trans hb6
              clear h6 hb6 ha
              go_wp2
              go_end0
              refine ⟨rfl, ?_, B6.out⟩
              rw [HW.out]
              obtain ⟨v6, h6, _⟩ := H6.out
              exact ⟨by omega, _, _, h6⟩
      · go_wp2_with fail
        go_quiet (fail)
        have h3 := hrd.drewN nq
        have O3 : Hid (Onl bp w (wr.drewN nq)) := Onl.drewN HO.out nq
        generalize wr.drewN nq = w3 at h3 O3
        clear c0 c1 c2 c3 c4 c5 cf hrd HO nq
        obtain ⟨c0, c1, c2, c3, c4, c5, cf⟩ := h3.cell
        go_wp2_with fail
        have hA := h3.alloc (.cells #[.int .i64 1, .string ⟨key.toArray⟩, .string ⟨#[]⟩, .int .i64 0, .slice none 0 0, .int .i64 (i : Int)] 49)
        have hbx := heap_alloc_new w3 (.cells #[.int .i64 1, .string ⟨key.toArray⟩, .string ⟨#[]⟩, .int .i64 0, .slice none 0 0, .int .i64 (i : Int)] 49 (0, 0))
        have OA : Hid (Onl bp w (w3.alloc (.cells #[.int .i64 1, .string ⟨key.toArray⟩, .string ⟨#[]⟩, .int .i64 0, .slice none 0 0, .int .i64 (i : Int)] 49))) := Onl.alloc O3.out _
        have hbl : bp < w3.heap.size := h3.lt
        have hb3 : w.heap.size ≤ w3.heap.size := O3.out.size
        generalize w3.alloc (.cells #[.int .i64 1, .string ⟨key.toArray⟩, .string ⟨#[]⟩, .int .i64 0, .slice none 0 0, .int .i64 (i : Int)] 49) = wA at hA hbx OA
        generalize hB3 : w3.heap.size = b3 at hbx hbl hb3
        clear c0 c1 c2 c3 c4 c5 cf h3 O3 hB3 w3 e2 e3
        obtain ⟨c0, c1, c2, c3, c4, c5, cf⟩ := hA.cell
        go_quiet (fail)
        have h4 := hA.drewN nq
        have O4 : Hid (Onl bp w (wA.drewN nq)) := Onl.drewN OA.out nq
        have hx4 : (wA.drewN nq).heap[b3]? = some (.cells #[.int .i64 1, .string ⟨key.toArray⟩, .string ⟨#[]⟩, .int .i64 0, .slice none 0 0, .int .i64 (i : Int)] 49 (0, 0)) := hbx
        generalize wA.drewN nq = w4 at h4 O4 hx4
        clear c0 c1 c2 c3 c4 c5 cf hA OA hbx nq wA
        obtain ⟨c0, c1, c2, c3, c4, c5, cf⟩ := h4.cell
        have x0 := cell_of_row w4 b3 0 _ _ _ hx4
        have x1 := cell_of_row w4 b3 1 _ _ _ hx4
        have x2 := cell_of_row w4 b3 2 _ _ _ hx4
        have x3 := cell_of_row w4 b3 3 _ _ _ hx4
        have x4 := cell_of_row w4 b3 4 _ _ _ hx4
        have x5 := cell_of_row w4 b3 5 _ _ _ hx4
        have xf : ∀ k, w4.frozen? ⟨b3, k, none⟩ = false := fun k => by simp [World.frozen?, hx4]
        simp only [List.getElem?_toArray, List.getElem?_cons_zero, List.getElem?_cons_succ] at x0 x1 x2 x3 x4 x5
        by_cases hT : (s.extract i p).toList = [116, 114, 117, 101]
        · have eT : ((s.extract i p).toList == [116, 114, 117, 101]) = true := by rw [hT]; rfl
          have HW : Hid (wordL (sfx s i) i = .ok (.truth true i, 4) ∧ p - i = 4) := word_T HE0.out HB.out hT
          clear hT
          have f3 := xf 3
          have HF5 : Hid (RD bp s p vL 0 at0 dp (w4.setCell ⟨b3, 3, none⟩ (.int .i64 1)) ∧ Onl bp w (w4.setCell ⟨b3, 3, none⟩ (.int .i64 1)) ∧ (w4.setCell ⟨b3, 3, none⟩ (.int .i64 1)).heap[b3]? = some (.cells #[.int .i64 1, .string ⟨key.toArray⟩, .string ⟨#[]⟩, .int .i64 1, .slice none 0 0, .int .i64 (i : Int)] 49 (0, 0))) := ⟨RD.setNew h4 hx4 (by omega) 3 _, Onl.setNew O4.out hx4 hb3 3 _, by rw [setCell_eq_setRow w4 b3 3 _ _ _ _ hx4]; exact setRow_heap w4 b3 _ _ _ _ hx4⟩
          go_upto_region 11 with fail
          generalize w4.setCell ⟨b3, 3, none⟩ (.int .i64 1) = w5 at HF5
          obtain ⟨h5, o5, y5⟩ := HF5.out
          have z0 := cell_of_row w5 b3 0 _ _ _ y5
          have z1 := cell_of_row w5 b3 1 _ _ _ y5
          have z2 := cell_of_row w5 b3 2 _ _ _ y5
          have z3 := cell_of_row w5 b3 3 _ _ _ y5
          have z4 := cell_of_row w5 b3 4 _ _ _ y5
          have z5 := cell_of_row w5 b3 5 _ _ _ y5
          simp only [List.getElem?_toArray, List.getElem?_cons_zero, List.getElem?_cons_succ] at z0 z1 z2 z3 z4 z5
          have ha := radd bp s p 0 at0 dp ns up ⟨1, key, [], 1, [], i⟩ w5 ⟨vL, h5, HN.out.onl o5 (by omega)⟩ rfl hl hw hup
          unfold ndV at ha
          have O5 : Hid (Onl bp w w5) := o5
          clear h5 o5 y5 c0 c1 c2 c3 c4 c5 cf x0 x1 x2 x3 x4 x5 xf h4 O4 hx4
          go_wp2_with fail
          refine ha.mono ?_
          rintro e w6 ⟨rfl, h6, hb6⟩
          have H6 : Hid (RN bp s p (addKid ns up ns.length ++ [⟨1, key, [], 1, [], i⟩]) 0 at0 dp w6) := h6
          have B6 : Hid (Below bp w w6) := (onl_bel O5.out hlt).trans hb6
          clear h6 hb6 ha
          go_wp2
          go_end0
          refine ⟨rfl, ?_, B6.out⟩
          rw [HW.out.1]
          show RN bp s (i + 4) _ 0 at0 dp w6
          rw [show i + 4 = p by have := HW.out.2; omega]
          exact H6.out
        · have eT : ((s.extract i p).toList == [116, 114, 117, 101]) = false := by rw [beq_eq_false_iff_ne]; exact hT
          by_cases hF : (s.extract i p).toList = [102, 97, 108, 115, 101]
          · have eF : ((s.extract i p).toList == [102, 97, 108, 115, 101]) = true := by rw [hF]; rfl
            have HW : Hid (wordL (sfx s i) i = .ok (.truth false i, 5) ∧ p - i = 5) := word_F HE0.out HB.out hF
            clear hT hF
            have HF5 : Hid (RD bp s p vL 0 at0 dp w4 ∧ Onl bp w w4 ∧ w4.heap[b3]? = some (.cells #[.int .i64 1, .string ⟨key.toArray⟩, .string ⟨#[]⟩, .int .i64 0, .slice none 0 0, .int .i64 (i : Int)] 49 (0, 0))) := ⟨h4, O4.out, hx4⟩
            go_upto_region 11 with fail
            obtain ⟨h5, o5, y5⟩ := HF5.out
            have ha := radd bp s p 0 at0 dp ns up ⟨1, key, [], 0, [], i⟩ w4 ⟨vL, h5, HN.out.onl o5 (by omega)⟩ rfl hl hw hup
            unfold ndV at ha
            have O5 : Hid (Onl bp w w4) := o5
            clear h5 o5 y5 c0 c1 c2 c3 c4 c5 cf xf h4 O4 hx4
            go_wp2_with fail
            refine ha.mono ?_
            rintro e w6 ⟨rfl, h6, hb6⟩
            have H6 : Hid (RN bp s p (addKid ns up ns.length ++ [⟨1, key, [], 0, [], i⟩]) 0 at0 dp w6) := h6
            have B6 : Hid (Below bp w w6) := (onl_bel O5.out hlt).trans hb6
            clear h6 hb6 ha
            go_wp2
            go_end0
            refine ⟨rfl, ?_, B6.out⟩
            rw [HW.out.1]
            show RN bp s (i + 5) _ 0 at0 dp w6
            rw [show i + 5 = p by have := HW.out.2; omega]
            exact H6.out
          · have eF : ((s.extract i p).toList == [102, 97, 108, 115, 101]) = false := by rw [beq_eq_false_iff_ne]; exact hF
            by_cases hN : (s.extract i p).toList = [110, 117, 108, 108]
            · have eN : ((s.extract i p).toList == [110, 117, 108, 108]) = true := by rw [hN]; rfl
              have HW : Hid (wordL (sfx s i) i = .ok (.null i, 4) ∧ p - i = 4) := word_N HE0.out HB.out hN
              clear hT hF hN
              have f3 := xf 0
              have HF5 : Hid (RD bp s p vL 0 at0 dp (w4.setCell ⟨b3, 0, none⟩ (.int .i64 0)) ∧ Onl bp w (w4.setCell ⟨b3, 0, none⟩ (.int .i64 0)) ∧ (w4.setCell ⟨b3, 0, none⟩ (.int .i64 0)).heap[b3]? = some (.cells #[.int .i64 0, .string ⟨key.toArray⟩, .string ⟨#[]⟩, .int .i64 0, .slice none 0 0, .int .i64 (i : Int)] 49 (0, 0))) := ⟨RD.setNew h4 hx4 (by omega) 0 _, Onl.setNew O4.out hx4 hb3 0 _, by rw [setCell_eq_setRow w4 b3 0 _ _ _ _ hx4]; exact setRow_heap w4 b3 _ _ _ _ hx4⟩
              go_upto_region 11 with fail
              generalize w4.setCell ⟨b3, 0, none⟩ (.int .i64 0) = w5 at HF5
              obtain ⟨h5, o5, y5⟩ := HF5.out
              have z0 := cell_of_row w5 b3 0 _ _ _ y5
              have z1 := cell_of_row w5 b3 1 _ _ _ y5
              have z2 := cell_of_row w5 b3 2 _ _ _ y5
              have z3 := cell_of_row w5 b3 3 _ _ _ y5
              have z4 := cell_of_row w5 b3 4 _ _ _ y5
              have z5 := cell_of_row w5 b3 5 _ _ _ y5
              simp only [List.getElem?_toArray, List.getElem?_cons_zero, List.getElem?_cons_succ] at z0 z1 z2 z3 z4 z5
              have ha := radd bp s p 0 at0 dp ns up ⟨0, key, [], 0, [], i⟩ w5 ⟨vL, h5, HN.out.onl o5 (by omega)⟩ rfl hl hw hup
              unfold ndV at ha
              have O5 : Hid (Onl bp w w5) := o5
              clear h5 o5 y5 c0 c1 c2 c3 c4 c5 cf x0 x1 x2 x3 x4 x5 xf h4 O4 hx4
              go_wp2_with fail
              refine ha.mono ?_
              rintro e w6 ⟨rfl, h6, hb6⟩
              have H6 : Hid (RN bp s p (addKid ns up ns.length ++ [⟨0, key, [], 0, [], i⟩]) 0 at0 dp w6) := h6
              have B6 : Hid (Below bp w w6) := (onl_bel O5.out hlt).trans hb6
              clear h6 hb6 ha
              go_wp2
              go_end0
              refine ⟨rfl, ?_, B6.out⟩
              rw [HW.out.1]
              show RN bp s (i + 4) _ 0 at0 dp w6
              rw [show i + 4 = p by have := HW.out.2; omega]
              exact H6.out
            · have eN : ((s.extract i p).toList == [110, 117, 108, 108]) = false := by rw [beq_eq_false_iff_ne]; exact hN
              have HW : Hid (wordL (sfx s i) i = .error (2, i)) := word_X HE0.out HB.out hT hF hN
              clear hT hF hN
              have hfa : Calls Tryd.prog 13 #[.pointer (some ⟨bp, 0, none⟩), .int .i64 2, .int .i64 (i : Int)] w4 fun r w' => r = .returned (.tuple #[]) ∧ RD bp s p vL 2 i dp w' ∧ Onl bp w4 w' := rfail0 bp s p vL at0 dp 2 i _ h4
              go_wp2_with fail
              refine hfa.mono ?_
              rintro e w5 ⟨rfl, h5, o5x⟩
              have o5 : Onl bp w w5 := Onl.trans O4.out o5x
              have y5 : w5.heap[b3]? = some (.cells #[.int .i64 1, .string ⟨key.toArray⟩, .string ⟨#[]⟩, .int .i64 0, .slice none 0 0, .int .i64 (i : Int)] 49 (0, 0)) := (o5x.block b3 (Array.getElem?_eq_some_iff.1 hx4).1 (fun e => by injection e with e; omega)).trans hx4
              clear hfa o5x
              have z0 := cell_of_row w5 b3 0 _ _ _ y5
              have z1 := cell_of_row w5 b3 1 _ _ _ y5
              have z2 := cell_of_row w5 b3 2 _ _ _ y5
              have z3 := cell_of_row w5 b3 3 _ _ _ y5
              have z4 := cell_of_row w5 b3 4 _ _ _ y5
              have z5 := cell_of_row w5 b3 5 _ _ _ y5
              simp only [List.getElem?_toArray, List.getElem?_cons_zero, List.getElem?_cons_succ] at z0 z1 z2 z3 z4 z5
              have ha := radd bp s p 2 i dp ns up ⟨1, key, [], 0, [], i⟩ w5 ⟨vL, h5, HN.out.onl o5 (by omega)⟩ rfl hl hw hup
              unfold ndV at ha
              have O5 : Hid (Onl bp w w5) := o5
              clear h5 o5 y5 c0 c1 c2 c3 c4 c5 cf x0 x1 x2 x3 x4 x5 xf h4 O4 hx4
              go_wp2_with fail
              refine ha.mono ?_
              rintro e w6 ⟨rfl, h6, hb6⟩
              have H6 : Hid (RN bp s p (addKid ns up ns.length ++ [⟨1, key, [], 0, [], i⟩]) 2 i dp w6) := h6
              have B6 : Hid (Below bp w w6) := (onl_bel O5.out hlt).trans hb6
              clear h6 hb6 ha
              go_wp2
              go_end0
              refine ⟨rfl, ?_, B6.out⟩
              rw [HW.out]
              obtain ⟨v6, h6, _⟩ := H6.out
              exact ⟨by omega, _, _, h6⟩
end
end Go.Proofs.YtaghclgookfmnaaDoor
