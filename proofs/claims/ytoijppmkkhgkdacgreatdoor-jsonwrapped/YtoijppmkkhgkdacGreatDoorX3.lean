/-
  Joined by program: WList, WListM.
-/
import Derived.Test.YtoijppmkkhgkdacGreatDoorX2
/-
  The code's writer: a list, whatever writes its kids.
-/
namespace Go.Proofs.YtoijppmkkhgkdacGreatDoor
open Go.RowKit
set_option linter.unusedVariables false

/-- A slice of ints that lies apart from the writer. -/
structure KR (bp : Nat) (O : Nat → Prop) (kv : Value) (ks : List Nat) (w : World) : Prop where
  shape : ∃ ad cap, kv = .slice ad ks.length cap
  at' : ∀ (j k : Nat), ks[j]? = some k → ∃ g cap, kv = .slice (some ⟨g, 0, none⟩) ks.length cap ∧ g < w.heap.size ∧ g ≠ bp ∧ ¬ O g ∧ w.cell? ⟨g, j, none⟩ = some (.int .i64 (k : Int))
theorem KR.chg {bp : Nat} {O O' : Nat → Prop} {kv : Value} {ks : List Nat} {w w' : World} (h : KR bp O kv ks w) (hc : Chg bp O w O' w') : KR bp O' kv ks w' := by
  refine ⟨h.shape, fun j k hk => ?_⟩
  obtain ⟨g, cap, e, h1, h2, h3, h4⟩ := h.at' j k hk
  refine ⟨g, cap, e, Nat.lt_of_lt_of_le h1 hc.size, h2, fun ho => ?_, ?_⟩
  · rcases hc.own g ho with a | a
    · exact h3 a
    · omega
  · rw [World.cell?_of_block (a := ⟨g, j, none⟩) (hc.block g h1 h2 h3)]; exact h4
theorem bodyTo_mono (F : Nat → List UInt8) (ks : List Nat) : ∀ j, j ≤ ks.length → (bodyTo F ks j).length ≤ (bodyTo F ks ks.length).length := by
  have h : ∀ d j, (bodyTo F ks j).length ≤ (bodyTo F ks (j + d)).length := by
    intro d
    induction d with
    | zero => intro j; exact Nat.le_refl _
    | succ d ih =>
      intro j
      have := ih j
      rw [← Nat.add_assoc, bodyTo]
      simp only [List.length_append]; omega
  intro j hj
  have := h (ks.length - j) j
  rwa [show j + (ks.length - j) = ks.length by omega] at this
section
variable (bp : Nat) (vN vO : Value) (l : List UInt8) (w : World)
set_option maxRecDepth 4000 in
set_option maxHeartbeats 4000000 in
theorem wlistN (a0 a1 : UInt8) (F : Nat → List UInt8) (ks : List Nat) (kv : Value) (hks : ks.length ≤ 1000000) (hK : KR bp (own vO []) kv ks w) (h : WZ bp vN vO l w) (hl : l.length + (bodyTo F ks ks.length).length + 2 ≤ 4000000000)
    (hf : ∀ k ∈ ks, ∀ (v' : Value) (l' : List UInt8) (w' : World), WZ bp vN v' l' w' → Chg bp (own vO []) w (own v' []) w' → l'.length + (F k).length ≤ 4000000000 → Calls Tryz.prog 16 #[.pointer (some ⟨bp, 0, none⟩), .int .i64 (k : Int)] w' fun r w'' => WQ bp vN (own v' []) w' (l' ++ F k) r w'') :
    Calls Tryz.prog 28 #[.pointer (some ⟨bp, 0, none⟩), .int .u8 (a0.toNat : Int), kv, .func (.func 16) #[.pointer (some ⟨bp, 0, none⟩)] #[], .int .u8 (a1.toNat : Int)] w fun r w' => WQ bp vN (own vO []) w (l ++ (a0 :: bodyTo F ks ks.length ++ [a1])) r w' := by
  obtain ⟨i0, hi0, hz0, hz1, hz2⟩ := info_parts u8infoJ
  have HI : Hid _ := hi0
  have H : Hid (WZ bp vN vO l w) := h
  have HK : Hid (KR bp (own vO []) kv ks w) := hK
  have HF : Hid _ := bodyTo_mono F ks
  have HFF : Hid _ := hf
  have hlt := h.wd.lt
  have HNE : Hid (some bp ≠ vO.ownBlock) := fun e => by have := (ownBlock_lt h.row e.symm).1; omega
  obtain ⟨ad, cap, rfl⟩ := h.shape
  obtain ⟨adk, capk, rfl⟩ := hK.shape
  obtain ⟨c0, c1, cf⟩ := h.wd.cell
  have f1 := cf 1
  clear hi0 h cf hK hf
  go_enter Tryz.func28, Tryz.ntmps28
  go_wp2_with (refine wp_appO rfl (.tmp 16) (.tmp 18) 42 rfl 5 i0 Tryz.underlying42 HI.out hz0 hz1 hz2 (bp + 1) _ l.length (l.map byteV) [a0] w rfl H.out.row (by omega) (by omega) (Nat.zero_lt_succ _) (by simp) rfl ?_; intro g8 cap8 w8 ho8 hg8 hgg8; have kA := keepersA hg8 hlt HNE.out; have s1 := (kA.2.1 1).trans c1; have t1 := (kA.2.2 1).trans f1; have P8 : Hid _ := H.out.put (by simp) (fun k hk => heap_alloc_old _ _ hk) rfl rfl rfl ho8 hg8 hgg8; clear kA ho8 hg8 hgg8)
  have P9 : Hid (∃ v, WZ bp vN v (l ++ a0 :: bodyTo F ks 0) (w8.setCell ⟨bp, 1, none⟩ (.slice (some ⟨g8, 0, none⟩) (l.length + 1) cap8)) ∧ Chg bp (own (.slice ad l.length cap) []) w (own v []) (w8.setCell ⟨bp, 1, none⟩ (.slice (some ⟨g8, 0, none⟩) (l.length + 1) cap8))) := ⟨_, P8.out.1, P8.out.2⟩
  clear P8 s1 t1
  generalize w8.setCell ⟨bp, 1, none⟩ (.slice (some ⟨g8, 0, none⟩) (l.length + 1) cap8) = W at P9 ⊢
  clear c0 c1 f1 hlt HNE
  go_loopw [24] (fun iv wr => ∃ (j : Nat) (v : Value), j ≤ ks.length ∧ iv = .int .i64 (j : Int) ∧ WZ bp vN v (l ++ a0 :: bodyTo F ks j) wr ∧ Chg bp (own (.slice ad l.length cap) []) w (own v []) wr) (fun iv _ => ks.length - (intOf iv).toNat)
  case atStart => obtain ⟨v, a, b⟩ := P9.out; exact ⟨0, v, by omega, rfl, a, b⟩
  case round =>
    clear P9
    obtain ⟨j, v, hj, rfl, hZ, hC⟩ := hrel
    have hlen : (l ++ a0 :: bodyTo F ks j).length ≤ 4000000000 := by
      have h1 := HF.out j hj
      rw [List.length_append, List.length_cons]; omega
    have HZ : Hid _ := hZ
    have HC : Hid _ := hC
    have HLEN : Hid _ := hlen
    have hlt2 := hZ.wd.lt
    have HNE : Hid (some bp ≠ v.ownBlock) := fun e => by have := (ownBlock_lt hZ.row e.symm).1; omega
    by_cases hlt : j < ks.length
    · have k1 : (j : Int) < (ks.length : Int) := by omega
      obtain ⟨k, hk⟩ : ∃ k, ks[j]? = some k := ⟨_, List.getElem?_eq_getElem hlt⟩
      obtain ⟨g, capg, e, g1, g2, g3, g4⟩ := (HK.out.chg hC).at' j k hk
      obtain rfl : adk = some ⟨g, 0, none⟩ := by injection e
      have hkm : k ∈ ks := List.mem_of_getElem? hk
      have HB : Hid (bodyTo F ks (j + 1) = bodyTo F ks j ++ (if j = 0 then [] else [44]) ++ F k) := by
        show _ = _
        rw [bodyTo, List.getD_eq_getElem?_getD, hk]; rfl
      have HLK : Hid ((l ++ a0 :: bodyTo F ks j).length + (if j = 0 then 0 else 1) + (F k).length ≤ 4000000000) := by
        show _ ≤ _
        have h1 := HF.out (j + 1) hlt
        rw [HB.out] at h1
        simp only [List.length_append, List.length_cons] at h1 ⊢
        by_cases h0 : j = 0
        · rw [if_pos h0] at h1 ⊢; simp only [List.length_nil] at h1; omega
        · rw [if_neg h0] at h1 ⊢; simp only [List.length_cons, List.length_nil] at h1; omega
      have hff := HFF.out k hkm
      have G : Hid _ := And.intro g1 (And.intro g2 g3)
      clear hk hkm e g1 g2 g3
      rcases Nat.eq_zero_or_pos j with hj0 | hj0
      · have hj1 : decide (0 < j) = false := by simp; omega
        have hj2 : decide ((0 : Int) < (j : Int)) = false := by simp; omega
        have hcall := hff v _ wr hZ hC (by have := HLK.out; rw [if_pos hj0] at this; exact this)
        have HJ0 : Hid (j = 0) := hj0
        clear hj0 hZ hC hlen hff
        go_wp2_with fail
        refine hcall.mono ?_
        rintro r w2 ⟨rfl, v2, z2, ch2⟩
        have Z2 : Hid _ := And.intro z2 (HC.out.trans ch2)
        clear hcall z2 ch2
        go_wp2_with fail
        go_roundw
        case rel =>
          refine ⟨j + 1, v2, by omega, by go_num, ?_, Z2.out.2⟩
          rw [HB.out, if_pos HJ0.out]
          have := Z2.out.1
          rw [List.append_assoc, List.cons_append] at this
          simpa using this
        case measure => simp [intOf]; omega
      · have hj1 : decide (0 < j) = true := by simp; omega
        have hj2 : (0 : Int) < (j : Int) := by omega
        have HJ0 : Hid (¬ j = 0) := by show ¬ j = 0; omega
        obtain ⟨ad2, cap2, hv2⟩ := hZ.shape
        obtain ⟨c0, c1, cf⟩ := hZ.wd.cell
        have f1 := cf 1
        generalize hl2 : l ++ a0 :: bodyTo F ks j = l2 at *
        have HL2 : Hid (l ++ a0 :: bodyTo F ks j = l2) := hl2
        subst hv2
        clear hj0 hZ hC cf hl2
        go_wp2_with (refine wp_appO rfl (.tmp 35) (.tmp 36) 42 rfl 5 i0 Tryz.underlying42 HI.out hz0 hz1 hz2 (bp + 1) _ l2.length (l2.map byteV) [44] wr rfl HZ.out.row (by omega) (by omega) (by decide) (by decide) rfl ?_; intro g9 cap9 w9 ho8 hg8 hgg8; have kA := keepersA hg8 hlt2 HNE.out; have s1 := (kA.2.1 1).trans c1; have t1 := (kA.2.2 1).trans f1; have P8 : Hid _ := HZ.out.put (by simp) (fun k hk => heap_alloc_old _ _ hk) rfl rfl rfl ho8 hg8 hgg8; clear kA ho8 hg8 hgg8)
        have P10 : Hid (WZ bp vN (.slice (some ⟨g9, 0, none⟩) (l2.length + 1) cap9) (l2 ++ [44]) (w9.setCell ⟨bp, 1, none⟩ (.slice (some ⟨g9, 0, none⟩) (l2.length + 1) cap9)) ∧ Chg bp (own (.slice ad l.length cap) []) w (own (.slice (some ⟨g9, 0, none⟩) (l2.length + 1) cap9) []) (w9.setCell ⟨bp, 1, none⟩ (.slice (some ⟨g9, 0, none⟩) (l2.length + 1) cap9))) := ⟨P8.out.1, HC.out.trans P8.out.2⟩
        clear P8 s1 t1 c0 c1 f1 g4
        generalize w9.setCell ⟨bp, 1, none⟩ (.slice (some ⟨g9, 0, none⟩) (l2.length + 1) cap9) = w10 at P10 ⊢
        have hcall := hff _ _ w10 P10.out.1 P10.out.2 (by have := HLK.out; rw [if_neg HJ0.out] at this; rw [List.length_append]; exact this)
        clear hff
        go_wp2_with fail
        refine hcall.mono ?_
        rintro r w2 ⟨rfl, v2, z2, ch2⟩
        have Z2 : Hid _ := And.intro z2 (P10.out.2.trans ch2)
        clear hcall z2 ch2
        go_wp2_with fail
        go_roundw
        case rel =>
          refine ⟨j + 1, v2, by omega, by go_num, ?_, Z2.out.2⟩
          rw [HB.out, if_neg HJ0.out]
          have := Z2.out.1
          rw [← HL2.out] at this
          simpa using this
        case measure => simp [intOf]; omega
    · obtain rfl : j = ks.length := by omega
      have k1 : ¬ (ks.length : Int) < (ks.length : Int) := by omega
      have HE : Hid (l ++ a0 :: (bodyTo F ks ks.length ++ [a1]) = (l ++ a0 :: bodyTo F ks ks.length) ++ [a1]) := by
        show _ = _
        simp
      obtain ⟨ad2, cap2, rfl⟩ := hZ.shape
      obtain ⟨c0, c1, cf⟩ := hZ.wd.cell
      have f1 := cf 1
      generalize l ++ a0 :: bodyTo F ks ks.length = l2 at *
      clear hZ hC cf
      go_wp2_with (refine wp_appO rfl (.tmp 48) (.tmp 50) 42 rfl 5 i0 Tryz.underlying42 HI.out hz0 hz1 hz2 (bp + 1) _ l2.length (l2.map byteV) [a1] wr rfl HZ.out.row (by omega) (by omega) (Nat.zero_lt_succ _) (by simp) rfl ?_; intro g9 cap9 w9 ho8 hg8 hgg8; have kA := keepersA hg8 hlt2 HNE.out; have s1 := (kA.2.1 1).trans c1; have t1 := (kA.2.2 1).trans f1; have P8 : Hid _ := HZ.out.put (by simp) (fun k hk => heap_alloc_old _ _ hk) rfl rfl rfl ho8 hg8 hgg8; clear kA ho8 hg8 hgg8)
      go_wp2
      go_end0
      rw [HE.out]
      exact ⟨rfl, _, P8.out.1, HC.out.trans P8.out.2⟩
end
end Go.Proofs.YtoijppmkkhgkdacGreatDoor
/-
  The code's writer: a list of members (as WList).
-/
namespace Go.Proofs.YtoijppmkkhgkdacGreatDoor
open Go.RowKit
set_option linter.unusedVariables false
section
variable (bp : Nat) (vN vO : Value) (l : List UInt8) (w : World)
set_option maxRecDepth 4000 in
set_option maxHeartbeats 4000000 in
theorem wlistM (a0 a1 : UInt8) (F : Nat → List UInt8) (ks : List Nat) (kv : Value) (hks : ks.length ≤ 1000000) (hK : KR bp (own vO []) kv ks w) (h : WZ bp vN vO l w) (hl : l.length + (bodyTo F ks ks.length).length + 2 ≤ 4000000000)
    (hf : ∀ k ∈ ks, ∀ (v' : Value) (l' : List UInt8) (w' : World), WZ bp vN v' l' w' → Chg bp (own vO []) w (own v' []) w' → l'.length + (F k).length ≤ 4000000000 → Calls Tryz.prog 30 #[.pointer (some ⟨bp, 0, none⟩), .int .i64 (k : Int)] w' fun r w'' => WQ bp vN (own v' []) w' (l' ++ F k) r w'') :
    Calls Tryz.prog 28 #[.pointer (some ⟨bp, 0, none⟩), .int .u8 (a0.toNat : Int), kv, .func (.func 30) #[.pointer (some ⟨bp, 0, none⟩)] #[], .int .u8 (a1.toNat : Int)] w fun r w' => WQ bp vN (own vO []) w (l ++ (a0 :: bodyTo F ks ks.length ++ [a1])) r w' := by
  obtain ⟨i0, hi0, hz0, hz1, hz2⟩ := info_parts u8infoJ
  have HI : Hid _ := hi0
  have H : Hid (WZ bp vN vO l w) := h
  have HK : Hid (KR bp (own vO []) kv ks w) := hK
  have HF : Hid _ := bodyTo_mono F ks
  have HFF : Hid _ := hf
  have hlt := h.wd.lt
  have HNE : Hid (some bp ≠ vO.ownBlock) := fun e => by have := (ownBlock_lt h.row e.symm).1; omega
  obtain ⟨ad, cap, rfl⟩ := h.shape
  obtain ⟨adk, capk, rfl⟩ := hK.shape
  obtain ⟨c0, c1, cf⟩ := h.wd.cell
  have f1 := cf 1
  clear hi0 h cf hK hf
  go_enter Tryz.func28, Tryz.ntmps28
  go_wp2_with (refine wp_appO rfl (.tmp 16) (.tmp 18) 42 rfl 5 i0 Tryz.underlying42 HI.out hz0 hz1 hz2 (bp + 1) _ l.length (l.map byteV) [a0] w rfl H.out.row (by omega) (by omega) (Nat.zero_lt_succ _) (by simp) rfl ?_; intro g8 cap8 w8 ho8 hg8 hgg8; have kA := keepersA hg8 hlt HNE.out; have s1 := (kA.2.1 1).trans c1; have t1 := (kA.2.2 1).trans f1; have P8 : Hid _ := H.out.put (by simp) (fun k hk => heap_alloc_old _ _ hk) rfl rfl rfl ho8 hg8 hgg8; clear kA ho8 hg8 hgg8)
  have P9 : Hid (∃ v, WZ bp vN v (l ++ a0 :: bodyTo F ks 0) (w8.setCell ⟨bp, 1, none⟩ (.slice (some ⟨g8, 0, none⟩) (l.length + 1) cap8)) ∧ Chg bp (own (.slice ad l.length cap) []) w (own v []) (w8.setCell ⟨bp, 1, none⟩ (.slice (some ⟨g8, 0, none⟩) (l.length + 1) cap8))) := ⟨_, P8.out.1, P8.out.2⟩
  clear P8 s1 t1
  generalize w8.setCell ⟨bp, 1, none⟩ (.slice (some ⟨g8, 0, none⟩) (l.length + 1) cap8) = W at P9 ⊢
  clear c0 c1 f1 hlt HNE
  go_loopw [24] (fun iv wr => ∃ (j : Nat) (v : Value), j ≤ ks.length ∧ iv = .int .i64 (j : Int) ∧ WZ bp vN v (l ++ a0 :: bodyTo F ks j) wr ∧ Chg bp (own (.slice ad l.length cap) []) w (own v []) wr) (fun iv _ => ks.length - (intOf iv).toNat)
  case atStart => obtain ⟨v, a, b⟩ := P9.out; exact ⟨0, v, by omega, rfl, a, b⟩
  case round =>
    clear P9
    obtain ⟨j, v, hj, rfl, hZ, hC⟩ := hrel
    have hlen : (l ++ a0 :: bodyTo F ks j).length ≤ 4000000000 := by
      have h1 := HF.out j hj
      rw [List.length_append, List.length_cons]; omega
    have HZ : Hid _ := hZ
    have HC : Hid _ := hC
    have HLEN : Hid _ := hlen
    have hlt2 := hZ.wd.lt
    have HNE : Hid (some bp ≠ v.ownBlock) := fun e => by have := (ownBlock_lt hZ.row e.symm).1; omega
    by_cases hlt : j < ks.length
    · have k1 : (j : Int) < (ks.length : Int) := by omega
      obtain ⟨k, hk⟩ : ∃ k, ks[j]? = some k := ⟨_, List.getElem?_eq_getElem hlt⟩
      obtain ⟨g, capg, e, g1, g2, g3, g4⟩ := (HK.out.chg hC).at' j k hk
      obtain rfl : adk = some ⟨g, 0, none⟩ := by injection e
      have hkm : k ∈ ks := List.mem_of_getElem? hk
      have HB : Hid (bodyTo F ks (j + 1) = bodyTo F ks j ++ (if j = 0 then [] else [44]) ++ F k) := by
        show _ = _
        rw [bodyTo, List.getD_eq_getElem?_getD, hk]; rfl
      have HLK : Hid ((l ++ a0 :: bodyTo F ks j).length + (if j = 0 then 0 else 1) + (F k).length ≤ 4000000000) := by
        show _ ≤ _
        have h1 := HF.out (j + 1) hlt
        rw [HB.out] at h1
        simp only [List.length_append, List.length_cons] at h1 ⊢
        by_cases h0 : j = 0
        · rw [if_pos h0] at h1 ⊢; simp only [List.length_nil] at h1; omega
        · rw [if_neg h0] at h1 ⊢; simp only [List.length_cons, List.length_nil] at h1; omega
      have hff := HFF.out k hkm
      have G : Hid _ := And.intro g1 (And.intro g2 g3)
      clear hk hkm e g1 g2 g3
      rcases Nat.eq_zero_or_pos j with hj0 | hj0
      · have hj1 : decide (0 < j) = false := by simp; omega
        have hj2 : decide ((0 : Int) < (j : Int)) = false := by simp; omega
        have hcall := hff v _ wr hZ hC (by have := HLK.out; rw [if_pos hj0] at this; exact this)
        have HJ0 : Hid (j = 0) := hj0
        clear hj0 hZ hC hlen hff
        go_wp2_with fail
        refine hcall.mono ?_
        rintro r w2 ⟨rfl, v2, z2, ch2⟩
        have Z2 : Hid _ := And.intro z2 (HC.out.trans ch2)
        clear hcall z2 ch2
        go_wp2_with fail
        go_roundw
        case rel =>
          refine ⟨j + 1, v2, by omega, by go_num, ?_, Z2.out.2⟩
          rw [HB.out, if_pos HJ0.out]
          have := Z2.out.1
          rw [List.append_assoc, List.cons_append] at this
          simpa using this
        case measure => simp [intOf]; omega
      · have hj1 : decide (0 < j) = true := by simp; omega
        have hj2 : (0 : Int) < (j : Int) := by omega
        have HJ0 : Hid (¬ j = 0) := by show ¬ j = 0; omega
        obtain ⟨ad2, cap2, hv2⟩ := hZ.shape
        obtain ⟨c0, c1, cf⟩ := hZ.wd.cell
        have f1 := cf 1
        generalize hl2 : l ++ a0 :: bodyTo F ks j = l2 at *
        have HL2 : Hid (l ++ a0 :: bodyTo F ks j = l2) := hl2
        subst hv2
        clear hj0 hZ hC cf hl2
        go_wp2_with (refine wp_appO rfl (.tmp 35) (.tmp 36) 42 rfl 5 i0 Tryz.underlying42 HI.out hz0 hz1 hz2 (bp + 1) _ l2.length (l2.map byteV) [44] wr rfl HZ.out.row (by omega) (by omega) (by decide) (by decide) rfl ?_; intro g9 cap9 w9 ho8 hg8 hgg8; have kA := keepersA hg8 hlt2 HNE.out; have s1 := (kA.2.1 1).trans c1; have t1 := (kA.2.2 1).trans f1; have P8 : Hid _ := HZ.out.put (by simp) (fun k hk => heap_alloc_old _ _ hk) rfl rfl rfl ho8 hg8 hgg8; clear kA ho8 hg8 hgg8)
        have P10 : Hid (WZ bp vN (.slice (some ⟨g9, 0, none⟩) (l2.length + 1) cap9) (l2 ++ [44]) (w9.setCell ⟨bp, 1, none⟩ (.slice (some ⟨g9, 0, none⟩) (l2.length + 1) cap9)) ∧ Chg bp (own (.slice ad l.length cap) []) w (own (.slice (some ⟨g9, 0, none⟩) (l2.length + 1) cap9) []) (w9.setCell ⟨bp, 1, none⟩ (.slice (some ⟨g9, 0, none⟩) (l2.length + 1) cap9))) := ⟨P8.out.1, HC.out.trans P8.out.2⟩
        clear P8 s1 t1 c0 c1 f1 g4
        generalize w9.setCell ⟨bp, 1, none⟩ (.slice (some ⟨g9, 0, none⟩) (l2.length + 1) cap9) = w10 at P10 ⊢
        have hcall := hff _ _ w10 P10.out.1 P10.out.2 (by have := HLK.out; rw [if_neg HJ0.out] at this; rw [List.length_append]; exact this)
        clear hff
        go_wp2_with fail
        refine hcall.mono ?_
        rintro r w2 ⟨rfl, v2, z2, ch2⟩
        have Z2 : Hid _ := And.intro z2 (P10.out.2.trans ch2)
        clear hcall z2 ch2
        go_wp2_with fail
        go_roundw
        case rel =>
          refine ⟨j + 1, v2, by omega, by go_num, ?_, Z2.out.2⟩
          rw [HB.out, if_neg HJ0.out]
          have := Z2.out.1
          rw [← HL2.out] at this
          simpa using this
        case measure => simp [intOf]; omega
    · obtain rfl : j = ks.length := by omega
      have k1 : ¬ (ks.length : Int) < (ks.length : Int) := by omega
      have HE : Hid (l ++ a0 :: (bodyTo F ks ks.length ++ [a1]) = (l ++ a0 :: bodyTo F ks ks.length) ++ [a1]) := by
        show _ = _
        simp
      obtain ⟨ad2, cap2, rfl⟩ := hZ.shape
      obtain ⟨c0, c1, cf⟩ := hZ.wd.cell
      have f1 := cf 1
      generalize l ++ a0 :: bodyTo F ks ks.length = l2 at *
      clear hZ hC cf
      go_wp2_with (refine wp_appO rfl (.tmp 48) (.tmp 50) 42 rfl 5 i0 Tryz.underlying42 HI.out hz0 hz1 hz2 (bp + 1) _ l2.length (l2.map byteV) [a1] wr rfl HZ.out.row (by omega) (by omega) (Nat.zero_lt_succ _) (by simp) rfl ?_; intro g9 cap9 w9 ho8 hg8 hgg8; have kA := keepersA hg8 hlt2 HNE.out; have s1 := (kA.2.1 1).trans c1; have t1 := (kA.2.2 1).trans f1; have P8 : Hid _ := HZ.out.put (by simp) (fun k hk => heap_alloc_old _ _ hk) rfl rfl rfl ho8 hg8 hgg8; clear kA ho8 hg8 hgg8)
      go_wp2
      go_end0
      rw [HE.out]
      exact ⟨rfl, _, P8.out.1, HC.out.trans P8.out.2⟩
end
end Go.Proofs.YtoijppmkkhgkdacGreatDoor
