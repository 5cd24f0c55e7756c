/-
  Joined by program: WByteA, WStr.
-/
import Derived.Test.YtoijppmkkhgkdacGreatDoorWByteS
/-
  The code's writer: whatever byte of a string.
-/
namespace Go.Proofs.YtoijppmkkhgkdacGreatDoor
open Go.RowKit
set_option linter.unusedVariables false
section
variable (bp : Nat) (vN vO : Value) (l : List UInt8) (w : World)
theorem sb_plain : ∀ n, n < 256 → 32 ≤ n → n ≠ 34 → n ≠ 92 → sbX (UInt8.ofNat n) = -1 ∧ sgnL (UInt8.ofNat n) = [UInt8.ofNat n] := by decide +kernel
theorem sb_hex0 : ∀ n, n < 32 → (n = 8 ∨ n = 9 ∨ n = 10 ∨ n = 12 ∨ n = 13) ∨ (sbX (UInt8.ofNat n) = -1 ∧ sgnL (UInt8.ofNat n) = [92, 117, 48, 48, lowC (n / 16), lowC (n % 16)]) := by decide +kernel
theorem sb_hex (n : Nat) (h : n < 32) (h8 : n ≠ 8) (h9 : n ≠ 9) (h10 : n ≠ 10) (h12 : n ≠ 12) (h13 : n ≠ 13) : sbX (UInt8.ofNat n) = -1 ∧ sgnL (UInt8.ofNat n) = [92, 117, 48, 48, lowC (n / 16), lowC (n % 16)] := by
  rcases sb_hex0 n h with h | h
  · omega
  · exact h
theorem wbyte (b : UInt8) (hl : l.length ≤ 1000000000000) (h : WZ bp vN vO l w) :
    Calls Tryz.prog 46 #[.pointer (some ⟨bp, 0, none⟩), .int .u8 (b.toNat : Int)] w fun r w' => WQ bp vN (own vO []) w (l ++ sgnL b) r w' := by
  by_cases e8 : b = 8
  · subst e8; exact wb_8 bp vN vO l w hl h
  by_cases e9 : b = 9
  · subst e9; exact wb_9 bp vN vO l w hl h
  by_cases e10 : b = 10
  · subst e10; exact wb_10 bp vN vO l w hl h
  by_cases e12 : b = 12
  · subst e12; exact wb_12 bp vN vO l w hl h
  by_cases e13 : b = 13
  · subst e13; exact wb_13 bp vN vO l w hl h
  by_cases e34 : b = 34
  · subst e34; exact wb_34 bp vN vO l w hl h
  by_cases e92 : b = 92
  · subst e92; exact wb_92 bp vN vO l w hl h
  have hne : ∀ n : Nat, b ≠ UInt8.ofNat n → b.toNat ≠ n := fun n hb e => hb (by rw [← e, UInt8.ofNat_toNat])
  by_cases h32 : b.toNat < 32
  · obtain ⟨h1, h2⟩ := sb_hex b.toNat h32 (hne 8 e8) (hne 9 e9) (hne 10 e10) (hne 12 e12) (hne 13 e13)
    rw [UInt8.ofNat_toNat] at h1 h2
    rw [h2]
    exact wbyte_hex bp vN vO l w b _ _ _ rfl h32 h1 rfl rfl hl h
  · obtain ⟨h1, h2⟩ := sb_plain b.toNat b.toNat_lt (by omega) (hne 34 e34) (hne 92 e92)
    rw [UInt8.ofNat_toNat] at h1 h2
    rw [h2]
    exact wbyte_plain bp vN vO l b w hl h h1 h32
end
end Go.Proofs.YtoijppmkkhgkdacGreatDoor
/-
  The code's writer: a string.
-/
namespace Go.Proofs.YtoijppmkkhgkdacGreatDoor
open Go.RowKit
set_option linter.unusedVariables false
section
variable (bp : Nat) (vN vO : Value) (l : List UInt8) (w : World)
set_option maxRecDepth 4000 in
set_option maxHeartbeats 2000000 in
theorem wstring (s : ByteArray) (hs : s.size ≤ 100000000) (hl : l.length ≤ 10000000000) (h : WZ bp vN vO l w) :
    Calls Tryz.prog 27 #[.pointer (some ⟨bp, 0, none⟩), .string s] w fun r w' => WQ bp vN (own vO []) w (l ++ strT s.data.toList) r w' := by
  obtain ⟨i0, hi0, hz0, hz1, hz2⟩ := info_parts u8infoJ
  have HI : Hid _ := hi0
  have H : Hid (WZ bp vN vO l w) := h
  have hlt := h.wd.lt
  have HNE : Hid (some bp ≠ vO.ownBlock) := fun e => by have := (ownBlock_lt h.row e.symm).1; omega
  obtain ⟨ad, cap, rfl⟩ := h.shape
  obtain ⟨c0, c1, cf⟩ := h.wd.cell
  have f1 := cf 1
  clear hi0 h cf
  go_enter Tryz.func27, Tryz.ntmps27
  go_wp2_with (refine wp_appO rfl (.tmp 9) (.tmp 10) 42 rfl 5 i0 Tryz.underlying42 HI.out hz0 hz1 hz2 (bp + 1) _ l.length (l.map byteV) [34] w rfl H.out.row (by omega) (by omega) (by decide) (by decide) rfl ?_; intro g8 cap8 w8 ho8 hg8 hgg8; have kA := keepersA hg8 hlt HNE.out; have s1 := (kA.2.1 1).trans c1; have t1 := (kA.2.2 1).trans f1; have P8 : Hid _ := H.out.put (by simp) (fun k hk => heap_alloc_old _ _ hk) rfl rfl rfl ho8 hg8 hgg8; clear kA ho8 hg8 hgg8)
  have P9 : Hid (∃ v, WZ bp vN v (l ++ 34 :: sgnsL (s.data.toList.take 0)) (w8.setCell ⟨bp, 1, none⟩ (.slice (some ⟨g8, 0, none⟩) (l.length + 1) cap8)) ∧ Chg bp (own (.slice ad l.length cap) []) w (own v []) (w8.setCell ⟨bp, 1, none⟩ (.slice (some ⟨g8, 0, none⟩) (l.length + 1) cap8))) := ⟨_, P8.out.1, P8.out.2⟩
  clear P8 s1 t1
  generalize w8.setCell ⟨bp, 1, none⟩ (.slice (some ⟨g8, 0, none⟩) (l.length + 1) cap8) = W at P9 ⊢
  clear c0 c1 f1 hlt HNE
  go_loopw [16] (fun iv wr => ∃ (j : Nat) (v : Value), j ≤ s.size ∧ iv = .int .i64 (j : Int) ∧ WZ bp vN v (l ++ 34 :: sgnsL (s.data.toList.take j)) wr ∧ Chg bp (own (.slice ad l.length cap) []) w (own v []) wr) (fun iv _ => s.size - (intOf iv).toNat)
  case atStart => obtain ⟨v, a, b⟩ := P9.out; exact ⟨0, v, by omega, rfl, a, b⟩
  case round =>
    clear P9
    obtain ⟨j, v, hj, rfl, hZ, hC⟩ := hrel
    have hlen : (l ++ 34 :: sgnsL (s.data.toList.take j)).length ≤ 20000000000 := by
      have h1 := sgnsL_len (s.data.toList.take j)
      have h2 : (s.data.toList.take j).length ≤ s.size := by rw [List.length_take]; simp; omega
      rw [List.length_append, List.length_cons]; omega
    have HZ : Hid _ := hZ
    have HC : Hid _ := hC
    by_cases hlt : j < s.size
    · have k1 : (j : Int) < (s.size : Int) := by omega
      have hwb := wbyte bp vN v (l ++ 34 :: sgnsL (s.data.toList.take j)) wr s[j] (by omega) hZ
      have HT : Hid (s.data.toList.take (j + 1) = s.data.toList.take j ++ [s[j]]) := by
        show _ = _
        have h' : j < s.data.toList.length := by simpa using hlt
        rw [List.take_add_one, List.getElem?_eq_getElem h']; rfl
      have hlen' : Hid _ := hlen
      clear hZ hC hlen
      go_wp2_with fail
      refine hwb.mono ?_
      rintro r w2 ⟨rfl, v2, z2, ch2⟩
      have Z2 : Hid _ := And.intro z2 (HC.out.trans ch2)
      clear hwb z2 ch2
      go_wp2_with fail
      go_roundw
      case rel =>
        refine ⟨j + 1, v2, by omega, by go_num, ?_, Z2.out.2⟩
        rw [HT.out, sgnsL_append]
        have := Z2.out.1
        rw [List.append_assoc, List.cons_append] at this
        simpa [sgnsL] using this
      case measure => simp [intOf]; omega
    · obtain rfl : j = s.size := by omega
      have k1 : ¬ (s.size : Int) < (s.size : Int) := by omega
      have hlt2 := hZ.wd.lt
      have HNE : Hid (some bp ≠ v.ownBlock) := fun e => by have := (ownBlock_lt hZ.row e.symm).1; omega
      have HE : Hid (l ++ strT s.data.toList = (l ++ 34 :: sgnsL (s.data.toList.take s.size)) ++ [34]) := by
        show _ = _
        rw [List.take_of_length_le (by simp), strT]; simp
      obtain ⟨ad2, cap2, rfl⟩ := hZ.shape
      obtain ⟨c0, c1, cf⟩ := hZ.wd.cell
      have f1 := cf 1
      generalize l ++ 34 :: sgnsL (s.data.toList.take s.size) = l2 at *
      clear hZ hC cf
      go_wp2_with (refine wp_appO rfl (.tmp 29) (.tmp 30) 42 rfl 5 i0 Tryz.underlying42 HI.out hz0 hz1 hz2 (bp + 1) _ l2.length (l2.map byteV) [34] wr rfl HZ.out.row (by omega) (by omega) (by decide) (by decide) rfl ?_; intro g9 cap9 w9 ho8 hg8 hgg8; have kA := keepersA hg8 hlt2 HNE.out; have s1 := (kA.2.1 1).trans c1; have t1 := (kA.2.2 1).trans f1; have P8 : Hid _ := HZ.out.put (by simp) (fun k hk => heap_alloc_old _ _ hk) rfl rfl rfl ho8 hg8 hgg8; clear kA ho8 hg8 hgg8)
      go_wp2
      go_end0
      rw [HE.out]
      exact ⟨rfl, _, P8.out.1, HC.out.trans P8.out.2⟩
end
end Go.Proofs.YtoijppmkkhgkdacGreatDoor
