/-
  ending, of words of 64 bits.
-/
import Derived.Test.YtfihidnmgaiojaaBlocks64
import Derived.Test.YtfihidnmgaiojaaBuf
namespace Go.Proofs.Ytfihidnmgaiojaa
open Go.RowKit
set_option linter.unusedVariables false
section
attribute [local go_sem] shr_eW shr_eW_min ushr_min64 alloc_drewN eW_byte eW_bytew

theorem u8info64 : (Try.prog.info? 5).map (fun i => (i.zero, i.size, i.bytes)) = some (some (.int .u8 0), 1, 1) := by kernel_rfl

set_option maxHeartbeats 400000 in
theorem ending64 (bp : Nat) (r : ByteArray) (size : Nat) (w : World) (hr : r.size < 128) (hsz : size ≤ 140737488355328) (c0 : w.cell? ⟨bp, 0, none⟩ = some (.int .i64 8)) :
    Calls Try.prog 40 #[.pointer (some ⟨bp, 0, none⟩), .string r, .int .i64 (size : Int)] w
      fun e w' => e = .returned (.string ⟨(endL 128 16 r.data.toList size).toArray⟩) ∧ Below w.heap.size w w' := by
  have hlt : bp < w.heap.size := World.block_lt_of_cell? w _ c0
  obtain ⟨i0, hi, hz0, hz1, hz2⟩ := info_parts u8info64
  have HI : Hid _ := hi
  clear hi
  obtain ⟨X, hX, hX2⟩ : ∃ X : BitVec 64, (size : Int) * 8 = eW X ∧ BitVec.ofNat 64 (size * 8) = X := ⟨_, eW_bits size hsz, rfl⟩
  have HX : Hid (BitVec.ofNat 64 (size * 8) = X) := hX2
  clear hX2
  go_enter Try.func40, Try.ntmps40
  go_wp2_with (first | (refine wp_bytes rfl _ 9 56 rfl 5 Try.underlying9 Try.underlying56 Try.underlying5 w.heap.size r rfl (Nat.le_refl _) (by unfold maxLen; omega) ?_; intro v1 w1 ho1 hb1; have HO1 := ho1; clear ho1) | (refine wp_app1 rfl (.tmp 17) (.tmp 18) 56 rfl 5 i0 Try.underlying56 HI.out hz0 hz1 hz2 w.heap.size _ r.data.toList 128 w1 rfl HO1 hb1.size (by simp; omega) rfl ?_; intro v2 w2 ho2 hb2; have HO2 := ho2; clear ho2 HO1))
  have hB2 : Below w.heap.size w w2 := hb1.trans hb2
  have HB2 : Hid _ := hB2
  clear hB2 hb2 hb1
  go_loopw [8] (fun v wr => ∃ k : Nat, k ≤ padZ 128 16 r.size ∧ OwnB w.heap.size 5 v (r.data.toList ++ [128] ++ List.replicate k 0) wr ∧ Below w.heap.size w wr) (fun v _ => r.size + 1 + padZ 128 16 r.size - slen v)
  case atStart => exact ⟨0, by omega, by simpa using HO2, HB2.out⟩
  case round =>
    clear HO2 HB2
    obtain ⟨k, hk, ho, hb⟩ := hrel
    have hl : (r.data.toList ++ [128] ++ List.replicate k 0).length = r.size + 1 + k := by simp; omega
    obtain ⟨g, cap, hv⟩ := ho.shape (by simp)
    rw [hl] at hv
    subst hv
    have HO := ho
    have hpz : padZ 128 16 r.size < 128 := Nat.mod_lt _ (by omega)
    have hcp : wr.cell? ⟨bp, 0, none⟩ = some (.int .i64 8) := b_cell hb hlt c0
    generalize hn : r.size + 1 + k = n at ho HO
    have HN : Hid (r.size + 1 + k = n) := hn
    have hn1 : n ≤ 2 * 128 := by omega
    clear ho
    by_cases hlt2 : k < padZ 128 16 r.size
    · have hm := padZ_miss 128 16 r.size k (by omega) (by omega) (by omega) hlt2
      rw [hn] at hm
      have hq : ((n : Int) % 128 != 112) = true := by rw [bne_iff_ne]; omega
      clear hm hn hl
      go_wp2_with fail
      go_quiet ((go_at_call 38; exact Calls.quiet_of_same (bsize64 bp _ hcp)))
      have hbs := hb.size
      go_wp2_with (refine wp_app1 rfl (.tmp 30) (.tmp 31) 56 rfl 5 i0 Try.underlying56 HI.out hz0 hz1 hz2 w.heap.size _ (r.data.toList ++ [128] ++ List.replicate k 0) 0 (wr.drewN nq) rfl HO hbs (by simp; omega) rfl ?_; intro v3 w3 ho3 hb3; have HO3 := ho3; clear ho3)
      have hb4 : Below w.heap.size w w3 := (bdN hb nq).trans hb3
      have e1 : r.data.toList ++ [128] ++ List.replicate k 0 ++ [0] = r.data.toList ++ [128] ++ List.replicate (k + 1) 0 := by simp [List.replicate_succ']
      have e2 := HO3.slen
      rw [e1] at HO3 e2
      go_roundw
      case rel => exact ⟨k + 1, by omega, HO3, hb4⟩
      case measure =>
        rw [e2]; simp [slen]
        have := HN.out
        omega
    · obtain rfl : k = padZ 128 16 r.size := by omega
      have hm := padZ_hit 128 16 r.size (by omega) (by omega) (by omega)
      rw [hn] at hm
      have hq : ((n : Int) % 128 != 112) = false := by rw [bne_eq_false_iff_eq]; omega
      clear hm hn hl
      go_wp2_with fail
      go_quiet ((go_at_call 38; exact Calls.quiet_of_same (bsize64 bp _ hcp)))
      go_wp2_with fail
      go_loopw [8, 10] (fun v i wx => ∃ k : Nat, k ≤ 16 ∧ i = .int .i64 ((15 : Int) - k) ∧ OwnB w.heap.size 5 v (r.data.toList ++ [128] ++ List.replicate (padZ 128 16 r.size) 0 ++ beTo 16 X k) wx ∧ Below w.heap.size w wx) (fun _ i _ => (intOf i + 1).toNat)
      case atStart => exact ⟨0, by omega, rfl, by rw [beTo, List.append_nil]; exact HO, bdN hb nq⟩
      case round =>
        clear HO hb HN hcp hq
        obtain ⟨k, hk, rfl, ho, hb⟩ := hrel
        by_cases hlt3 : k < 16
        · have HO := ho
          clear ho
          have hi0 : (0 : Int) ≤ (15 : Int) - k := by omega
          have hi1 : (k : Int) ≤ 15 := by omega
          have hi2 : (0 : Int) ≤ 8 * ((15 : Int) - k) := by omega
          have ht : (8 * ((15 : Int) - k)).toNat = 8 * (15 - k) := by omega
          have hbs := hb.size
          have hl : (r.data.toList ++ [128] ++ List.replicate (padZ 128 16 r.size) 0 ++ beTo 16 X k).length + 1 ≤ 140737488355328 := by simp [beTo_length]; omega
          go_wp2_with (refine wp_app1 rfl (.tmp 42) (.tmp 48) 56 rfl 5 i0 Try.underlying56 HI.out hz0 hz1 hz2 w.heap.size _ (r.data.toList ++ [128] ++ List.replicate (padZ 128 16 r.size) 0 ++ beTo 16 X k) (byteOf (X >>> (8 * (15 - k)))) wr rfl HO hbs hl rfl ?_; intro v3 w3 ho3 hb3; have HO3 := ho3; clear ho3)
          have hb4 : Below w.heap.size w w3 := hb.trans hb3
          have HO4 : OwnB w.heap.size 5 v3 (r.data.toList ++ [128] ++ List.replicate (padZ 128 16 r.size) 0 ++ beTo 16 X (k + 1)) w3 := by rw [beTo, ← List.append_assoc]; exact HO3
          clear HO3 hb3
          go_wp2_with fail
          go_roundw
          case rel => exact ⟨k + 1, by omega, by go_num, HO4, hb4⟩
          case measure => simp [intOf]; omega
        · obtain rfl : k = 16 := by omega
          have hs := ho.str (P := Try.prog) (t := 56) (d := 9) Try.underlying56 Try.underlying5 Try.underlying9
          generalize hl : r.data.toList ++ [128] ++ List.replicate (padZ 128 16 r.size) 0 ++ beTo 16 X 16 = L at ho hs
          have HL : Hid _ := hl
          clear hl ho
          go_wp2
          go_ret
          refine ⟨?_, hb⟩
          rw [← HL.out, endL, HX.out]
          simp
end
end Go.Proofs.Ytfihidnmgaiojaa
