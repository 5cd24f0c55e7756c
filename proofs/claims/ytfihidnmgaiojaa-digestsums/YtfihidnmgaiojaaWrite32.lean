/-
  write, of words of 32 bits.
-/
import Derived.Test.YtfihidnmgaiojaaEnding32
namespace Go.Proofs.Ytfihidnmgaiojaa
open Go.RowKit
set_option linter.unusedVariables false
section
attribute [local go_sem] shr_eW shr_eW_min ushr_min64 alloc_drewN eW_byte eW_bytew

theorem index32 (s : St 32) (w : World) : ∀ k : Nat, k < 8 → Sem.run Try.prog (Instr.index 35 (.agg #[.int .u32 (eW s.a), .int .u32 (eW s.b), .int .u32 (eW s.c), .int .u32 (eW s.d), .int .u32 (eW s.e), .int .u32 (eW s.f), .int .u32 (eW s.g), .int .u32 (eW s.h)]) (.int .i64 (k : Int))) w = .ok (.int .u32 (eW (at32 s k))) w
  | 0, _ => by kernel_rfl
  | 1, _ => by kernel_rfl
  | 2, _ => by kernel_rfl
  | 3, _ => by kernel_rfl
  | 4, _ => by kernel_rfl
  | 5, _ => by kernel_rfl
  | 6, _ => by kernel_rfl
  | 7, _ => by kernel_rfl
  | (k + 8), h => by omega

/-- The bytes of the first k words. -/
def writeTo32 (s : St 32) : Nat → List UInt8
  | 0 => []
  | k + 1 => writeTo32 s k ++ beTo 4 (at32 s k) 4
theorem writeTo32_length (s : St 32) (k : Nat) : (writeTo32 s k).length = k * 4 := by
  induction k with
  | zero => rfl
  | succ k ih => simp [writeTo32, ih, beTo_length]; omega

set_option maxHeartbeats 400000 in
theorem write32 (bp : Nat) (s : St 32) (w : World) (c0 : w.cell? ⟨bp, 0, none⟩ = some (.int .i64 4)) :
    Calls Try.prog 37 #[.pointer (some ⟨bp, 0, none⟩), .agg #[.int .u32 (eW s.a), .int .u32 (eW s.b), .int .u32 (eW s.c), .int .u32 (eW s.d), .int .u32 (eW s.e), .int .u32 (eW s.f), .int .u32 (eW s.g), .int .u32 (eW s.h)]] w
      fun e w' => e = .returned (.string ⟨(writeTo32 s 8).toArray⟩) ∧ Below w.heap.size w w' := by
  have hlt : bp < w.heap.size := World.block_lt_of_cell? w _ c0
  obtain ⟨i0, hi, hz0, hz1, hz2⟩ := info_parts u8info32
  have HI : Hid _ := hi
  clear hi
  go_enter Try.func37, Try.ntmps37
  go_wp2_with fail
  go_loopw [5, 10] (fun v i wr => ∃ k : Nat, k ≤ 8 ∧ i = .int .i64 k ∧ OwnB w.heap.size 5 v (writeTo32 s k) wr ∧ Below w.heap.size w wr) (fun _ i _ => 8 - (intOf i).toNat)
  case atStart => exact ⟨0, by omega, rfl, .inl ⟨rfl, rfl⟩, bal (brf _) _⟩
  case round =>
    obtain ⟨k, hk, rfl, ho, hb⟩ := hrel
    by_cases hlt2 : k < 8
    · have hix := fun w => index32 s w k hlt2
      have hcp : wr.cell? ⟨bp, 0, none⟩ = some (.int .i64 4) := b_cell hb hlt c0
      have HO := ho
      clear ho
      have hd : decide ((k : Int) < 8) = true := by simp; omega
      generalize hx : at32 s k = x at hix
      have HX : Hid (at32 s k = x) := hx
      clear hx
      go_wp2_with fail
      go_loopw [5, 8] (fun v i wx => ∃ m : Nat, m ≤ 4 ∧ i = .int .i64 ((3 : Int) - m) ∧ OwnB w.heap.size 5 v (writeTo32 s k ++ beTo 4 x m) wx ∧ Below w.heap.size w wx) (fun _ i _ => (intOf i + 1).toNat)
      case atStart => exact ⟨0, by omega, rfl, by rw [beTo, List.append_nil]; exact HO, hb⟩
      case round =>
        clear HO hb hcp
        obtain ⟨m, hm, rfl, ho, hb⟩ := hrel
        by_cases hlt3 : m < 4
        · have HO := ho
          clear ho
          have hi0 : (0 : Int) ≤ (3 : Int) - m := by omega
          have ht : (8 * ((3 : Int) - m)).toNat = 8 * (3 - m) := by omega
          have hi1 : (m : Int) ≤ 3 := by omega
          have hi2 : (0 : Int) ≤ 8 * ((3 : Int) - m) := by omega
          have hl : (writeTo32 s k ++ beTo 4 x m).length + 1 ≤ 140737488355328 := by simp [beTo_length, writeTo32_length]; omega
          have hbs := hb.size
          go_wp2_with (refine wp_app1 rfl (.tmp 22) (.tmp 28) 56 rfl 5 i0 Try.underlying56 HI.out hz0 hz1 hz2 w.heap.size _ (writeTo32 s k ++ beTo 4 x m) (byteOf (x >>> (8 * (3 - m)))) wr rfl HO hbs hl rfl ?_; intro v3 w3 ho3 hb3; have HO3 := ho3; clear ho3)
          have hb4 : Below w.heap.size w w3 := hb.trans hb3
          have HO4 : OwnB w.heap.size 5 v3 (writeTo32 s k ++ beTo 4 x (m + 1)) w3 := by rw [beTo, ← List.append_assoc]; exact HO3
          clear HO3 hb3
          go_wp2_with fail
          go_roundw
          case rel => first | exact ⟨m + 1, by omega, by go_num, HO4, hb4⟩ | ((repeat apply Exists.intro); exact ⟨⟨m + 1, by omega, by go_num, HO4, hb4⟩, rfl⟩)
          case measure => simp [intOf]; omega
        · obtain rfl : m = 4 := by omega
          rw [show writeTo32 s k ++ beTo 4 x 4 = writeTo32 s (k + 1) from by rw [writeTo32, HX.out]] at ho
          have HO4 := ho
          clear ho
          go_wp2_with fail
          go_roundw
          case rel => first | exact ⟨k + 1, by omega, by go_num, HO4, hb⟩ | ((repeat apply Exists.intro); exact ⟨⟨k + 1, by omega, by go_num, HO4, hb⟩, rfl⟩)
          case measure => simp [intOf]; omega
    · obtain rfl : k = 8 := by omega
      have hs := ho.str (P := Try.prog) (t := 56) (d := 9) Try.underlying56 Try.underlying5 Try.underlying9
      generalize hl : writeTo32 s 8 = L at ho hs
      have HL : Hid _ := hl
      clear hl ho
      go_wp2
      go_ret
      refine ⟨?_, hb⟩
      rw [HL.out]; rfl
end
end Go.Proofs.Ytfihidnmgaiojaa
