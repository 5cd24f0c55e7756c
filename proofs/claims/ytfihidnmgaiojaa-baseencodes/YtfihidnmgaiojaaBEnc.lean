/-
  base.Encode.
-/
import Derived.Test.YtfihidnmgaiojaaBSign
import Derived.Laws.MakeOwn
namespace Go.Proofs.Ytfihidnmgaiojaa
open Go.RowKit
set_option linter.unusedVariables false
section
theorem or_b (x : BitVec 32) (b : UInt8) : bits .or .u32 (eW x * 256 % 4294967296) ((b.toNat : Int) % 4294967296) = eW (x <<< 8 ||| BitVec.ofNat 32 b.toNat) := by
  have e : (b.toNat : Int) % 4294967296 = eW (BitVec.ofNat 32 b.toNat) := by
    unfold eW; rw [BitVec.toNat_ofNat]; have := b.toNat_lt; omega
  have e2 : eW x * (256 : Int) % (4294967296 : Int) = eW (x <<< 8) := by have := shl32 x 8; rw [IntKind.wrap_u32'] at this; exact this
  rw [e, e2, or32]
theorem shl_m (x : BitVec 32) (n : Nat) : eW x * (2 : Int) ^ n % (4294967296 : Int) = eW (x <<< n) := by have := shl32 x n; rw [IntKind.wrap_u32'] at this; exact this
attribute [local go_sem] shr_eW shr_eW_min or_b shl32 shl_m

theorem u8infoB : (Try.prog.info? 5).map (fun i => (i.zero, i.size, i.bytes)) = some (some (.int .u8 0), 1, 1) := by kernel_rfl

theorem own_made (w : World) (e : TypeId) (c : Nat) (hc : c ≤ maxLen) (cur : Array Value) (hs : cur.size = c) :
    OwnB w.heap.size e (.slice (some ⟨w.heap.size, 0, none⟩) 0 c) [] (w.alloc (.cells cur e)) :=
  .inr ⟨w.heap.size, c, cur, (0, 0), rfl, Nat.le_refl _, heap_alloc_new _ _, .inl (Nat.zero_le _), Nat.zero_le _, hc, hs, by simp⟩

theorem OwnB.alloc_own {B : Nat} {e : TypeId} {v : Value} {l : List UInt8} {w : World} (h : OwnB B e v l w) (o : Obj) : OwnB B e v l (w.alloc o) :=
  h.below (bal (brf w) o) (Nat.le_refl _)

set_option maxHeartbeats 1000000 in
theorem encode_any (s : ByteArray) (w : World) (hs : s.size ≤ 140737488351232) :
    Calls Try.prog 17 #[.string s] w
      fun e w' => e = .returned (.string ⟨(enc (dB s) s.size).toArray⟩) ∧ Below w.heap.size w w' := by
  obtain ⟨i0, hi, hz0, hz1, hz2⟩ := info_parts u8infoB
  have hmk : ∀ W : World, (Instr.makeSlice 56 (.int .i64 0) (.int .i64 ((s.size : Int) / 3 * 4 + 4))).run Try.prog W = .ok (.slice (some ⟨W.heap.size, 0, none⟩) 0 (s.size / 3 * 4 + 4)) (W.alloc (.cells (madeCells (Value.int .u8 0).cells (s.size / 3 * 4 + 4)) 5)) := fun W => by
    have := run_make (P := Try.prog) W 56 5 i0 (.int .u8 0) Try.underlying56 hi hz0 .i64 .i64 0 ((s.size : Int) / 3 * 4 + 4) (by omega) (by omega) (by rw [hz2]; omega) (by omega)
    rw [hz1, Nat.mul_one, show ((s.size : Int) / 3 * 4 + 4).toNat = s.size / 3 * 4 + 4 by omega] at this
    exact this
  have HI : Hid _ := hi
  clear hi
  go_enter Try.func17, Try.ntmps17
  go_wp2_with fail
  go_loopw [3, 4, 5, 15] (fun o bt h i wr => ∃ (k : Nat) (X : BitVec 32), k ≤ s.size ∧ i = .int .i64 k ∧ bt = .int .u32 (eW X) ∧ h = .int .i64 ((2 * (k % 3) : Nat) : Int) ∧ (0 < k → X.toNat % 256 = dB s (k - 1)) ∧ OwnB w.heap.size 5 o (pre (dB s) k) wr ∧ Below w.heap.size w wr) (fun _ _ _ i _ => s.size - (intOf i).toNat)
  case atStart => exact ⟨0, 0#32, by omega, rfl, rfl, rfl, by omega, own_made w _ _ (by unfold maxLen; omega) _ (size_madeCells _ _), bal (brf _) _⟩
  case round =>
    obtain ⟨k, X, hk, rfl, rfl, rfl, hX, ho, hb⟩ := hrel
    have HX : Hid (0 < k → X.toNat % 256 = dB s (k - 1)) := hX
    have HO : Hid (OwnB w.heap.size 5 _ (pre (dB s) k) wr) := ho
    clear hX ho hmk
    have hm2 : 2 * (k % 3) ≤ 4 := by omega
    generalize hm : 2 * (k % 3) = m at hm2
    have HM : Hid (2 * (k % 3) = m) := hm
    clear hm
    by_cases hlt : k < s.size
    · have ht : (k : Int) < (s.size : Int) := by omega
      have hd := dB_at s k hlt
      have HD : Hid (dB s k = s[k].toNat) := hd
      clear hd
      go_wp2_with fail
      go_loopw [3, 5] (fun o h wx => ∃ j q : Nat, 6 * j + q = m + 8 ∧ h = .int .i64 (q : Int) ∧ OwnB w.heap.size 5 o (pre (dB s) k ++ (stp k (dB s (k - 1)) (dB s k)).take j) wx ∧ Below w.heap.size w wx) (fun _ h _ => (intOf h).toNat)
      case atStart => exact ⟨0, m + 8, by omega, by go_num, by rw [List.take_zero, List.append_nil]; exact HO.out, hb⟩
      case round =>
        clear HO hb
        obtain ⟨j, q, hq, rfl, ho, hb⟩ := hrel
        have hq12 : q ≤ 12 := by omega
        have HO : Hid (OwnB w.heap.size 5 _ (pre (dB s) k ++ (stp k (dB s (k - 1)) (dB s k)).take j) wr) := ho
        have HQ : Hid (6 * j + q = m + 8) := hq
        clear ho hq
        by_cases h6 : 6 ≤ q
        · have h60 : (0 : Int) ≤ (q : Int) - 6 := by omega
          have h6' : (6 : Int) ≤ (q : Int) := by omega
          have ht6 : ((q : Int) - 6).toNat = q - 6 := by omega
          have hbs := hb.size
          have hl : (pre (dB s) k ++ (stp k (dB s (k - 1)) (dB s k)).take j).length + 1 ≤ 220000000000000 := by
            rw [List.length_append, pre_length, List.length_take]; have := stp_length k (dB s (k - 1)) (dB s k); split at this <;> omega
          go_wp2_with (first | (go_at_call 32; refine (sign_any _ _).mono ?_; rintro e w1 ⟨rfl, hw1⟩; rw [hw1]; clear hw1 w1) | (refine wp_appW rfl (.tmp 31) (.tmp 37) 56 rfl 5 i0 Try.underlying56 HI.out hz0 hz1 hz2 w.heap.size _ _ _ ⟨wr.heap.size, 0, none⟩ rfl rfl hl (HO.out.alloc_own _) (by simp; omega) (one_cell _ _ _) ?_; intro v3 w3 ho3 hb3; have HO3 : Hid _ := ho3; clear ho3))
          have hb4 : Below w.heap.size w w3 := (bal hb _).trans hb3
          have hg : (stp k (dB s (k - 1)) (dB s k)).take (j + 1) = (stp k (dB s (k - 1)) (dB s k)).take j ++ [sg (lo6 ((X <<< 8 ||| BitVec.ofNat 32 s[k].toNat) >>> (q - 6)))] := by
            have := take_grp X k (dB s (k - 1)) (dB s k) j q (dB_lt s k) HX.out (by rw [HM.out]; exact HQ.out) h6
            rw [this, HD.out]; rfl
          go_roundw
          case rel => exact ⟨j + 1, q - 6, by have := HQ.out; omega, by go_num, by rw [hg, ← List.append_assoc]; exact HO3.out, hb4⟩
          case measure => simp [intOf]; omega
        · have h6' : (q : Int) < 6 := by omega
          have he := take_end k (dB s (k - 1)) (dB s k) j q (by rw [HM.out]; exact HQ.out) (by omega)
          have HE : Hid _ := he
          clear he
          go_wp2_with fail
          refine ⟨⟨k + 1, X <<< 8 ||| BitVec.ofNat 32 s[k].toNat, by omega, by go_num, rfl, by rw [HE.out.2], fun _ => ?_, ?_, hb⟩, by simp [intOf]; omega⟩
          · have e0 := or_byte X s[k].toNat s[k].toNat_lt
            rw [e0, Nat.add_sub_cancel, HD.out]; have := s[k].toNat_lt; omega
          · rw [pre, ← HE.out.1]; exact HO.out
    · obtain rfl : k = s.size := by omega
      by_cases h0 : m = 0
      · have hs := HO.out.str (P := Try.prog) (t := 56) (d := 9) Try.underlying56 Try.underlying5 Try.underlying9
        subst h0
        have ht : tl (dB s) s.size = [] := by unfold tl; rw [if_pos (by have := HM.out; omega)]
        have HT : Hid _ := ht
        clear ht
        go_wp2
        go_ret
        refine ⟨?_, hb⟩
        rw [enc, HT.out, List.append_nil]; rfl
      · have h0' : (0 : Int) < (m : Int) := by omega
        have h61 : (0 : Int) ≤ 6 - (m : Int) := by omega
        have ht6 : (6 - (m : Int)).toNat = 6 - m := by omega
        have hbs := hb.size
        have hl : (pre (dB s) s.size).length + 1 ≤ 220000000000000 := by rw [pre_length]; omega
        have ht : tl (dB s) s.size = [sg (lo6 (X <<< (6 - m)))] := by
          have := tl_grp X (dB s) s.size HX.out (by rw [HM.out]; exact h0)
          rw [HM.out] at this; exact this
        have HT : Hid _ := ht
        clear ht
        go_wp2_with (first | (go_at_call 32; refine (sign_any _ _).mono ?_; rintro e w1 ⟨rfl, hw1⟩; rw [hw1]; clear hw1 w1) | (refine wp_appW rfl (.tmp 42) (.tmp 48) 56 rfl 5 i0 Try.underlying56 HI.out hz0 hz1 hz2 w.heap.size _ _ _ ⟨wr.heap.size, 0, none⟩ rfl rfl hl (HO.out.alloc_own _) (by simp; omega) (one_cell _ _ _) ?_; intro v3 w3 ho3 hb3; have hs3 := ho3.str (P := Try.prog) (t := 56) (d := 9) Try.underlying56 Try.underlying5 Try.underlying9; clear ho3))
        go_ret
        refine ⟨?_, (bal hb _).trans hb3⟩
        rw [enc, HT.out]; rfl
end
end Go.Proofs.Ytfihidnmgaiojaa
