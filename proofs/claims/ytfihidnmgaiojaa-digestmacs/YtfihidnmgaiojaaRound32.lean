/-
  read and round, of words of 32 bits.
-/
import Derived.Test.YtfihidnmgaiojaaTurn32
import Derived.Test.YtfihidnmgaiojaaSpec
import Derived.Test.YtfihidnmgaiojaaSame
import Derived.Laws.ResultCell
namespace Go.Proofs.Ytfihidnmgaiojaa
open Go.RowKit
set_option linter.unusedVariables false
section
attribute [local go_sem] shr_eW shr_eW_min shl32 or32 xor32 and32 add32 not32 add32m add32m3 alloc_drewN

theorem rd_step32 (x : BitVec 32) (c : UInt8) : bits .or .u32 (eW x * (256 : Int) % (4294967296 : Int)) ((c.toNat : Int) % (4294967296 : Int)) = eW (x <<< 8 ||| BitVec.ofNat 32 c.toNat) := by
  have h1 : eW x * (256 : Int) % (4294967296 : Int) = eW (x <<< 8) := by
    have := shl32 x 8
    rw [← this, IntKind.wrap_u32]; rfl
  have h2 : (c.toNat : Int) % (4294967296 : Int) = eW (BitVec.ofNat 32 c.toNat) := by
    unfold eW; rw [BitVec.toNat_ofNat]; omega
  rw [h1, h2, or32]

theorem rd_stepw32 (x : BitVec 32) (c : UInt8) : bits .or .u32 (IntKind.u32.wrap (eW x * 256)) (IntKind.u32.wrap (c.toNat : Int)) = eW (x <<< 8 ||| BitVec.ofNat 32 c.toNat) := by
  rw [← rd_step32, IntKind.wrap_u32, IntKind.wrap_u32]

set_option maxHeartbeats 400000 in
theorem read32 (v : Value) (s : ByteArray) (w : World) (hs : s.size ≤ maxLen) :
    Calls Try.prog 58 #[v, .string s] w fun e w' => e = .returned (.int .u32 (eW (rd 32 s.data.toList))) ∧ w' = w := by
  unfold maxLen at hs
  go_enter Try.func58, Try.ntmps58
  go_wp2
  go_loop [5, 9] (fun x i => ∃ k : Nat, k ≤ s.size ∧ i = .int .i64 k ∧ x = .int .u32 (eW (rd 32 (s.data.toList.take k)))) (fun _ i => s.size - (intOf i).toNat)
  case atStart => exact ⟨0, Nat.zero_le _, rfl, rfl⟩
  case round =>
    obtain ⟨k, hk, rfl, rfl⟩ := hrel
    by_cases hlt : k < s.size
    · go_wp2
      go_round
      case rel => exact ⟨k + 1, by omega, by go_num, by (first | rw [rd_step32] | rw [rd_stepw32]); rw [← rd_snoc, ← take_snoc s k hlt]⟩
      case measure => simp [intOf]; omega
    · go_wp2
      go_ret
      exact ⟨ret_int (by rw [List.take_of_length_le (by simp; omega)]), rfl⟩

set_option maxHeartbeats 400000 in
theorem round32 (bp : Nat) (s : St 32) (x : BitVec 32) (w : World) (p : Way 32)
    (he : p.e1 = 6 ∧ p.e2 = 11 ∧ p.e3 = 25) (ha : p.a1 = 2 ∧ p.a2 = 13 ∧ p.a3 = 22)
    (hp : w.cell? ⟨bp, 0, none⟩ = some (.int .i64 4))
    (c16 : w.cell? ⟨bp, 16, none⟩ = some (.int .i64 6)) (c17 : w.cell? ⟨bp, 17, none⟩ = some (.int .i64 11)) (c18 : w.cell? ⟨bp, 18, none⟩ = some (.int .i64 25))
    (c19 : w.cell? ⟨bp, 19, none⟩ = some (.int .i64 2)) (c20 : w.cell? ⟨bp, 20, none⟩ = some (.int .i64 13)) (c21 : w.cell? ⟨bp, 21, none⟩ = some (.int .i64 22)) :
    Calls Try.prog 55 #[.pointer (some ⟨bp, 0, none⟩), .agg #[.int .u32 (eW s.a), .int .u32 (eW s.b), .int .u32 (eW s.c), .int .u32 (eW s.d), .int .u32 (eW s.e), .int .u32 (eW s.f), .int .u32 (eW s.g), .int .u32 (eW s.h)], .int .u32 (eW x)] w
      fun e w' => e = .returned (.agg #[.int .u32 (eW (round p s x).a), .int .u32 (eW (round p s x).b), .int .u32 (eW (round p s x).c), .int .u32 (eW (round p s x).d), .int .u32 (eW (round p s x).e), .int .u32 (eW (round p s x).f), .int .u32 (eW (round p s x).g), .int .u32 (eW (round p s x).h)]) ∧ Below w.heap.size w w' := by
  have hlt : bp < w.heap.size := World.block_lt_of_cell? w _ hp
  have HE : Hid (p.e1 = 6 ∧ p.e2 = 11 ∧ p.e3 = 25) := he
  have HA : Hid (p.a1 = 2 ∧ p.a2 = 13 ∧ p.a3 = 22) := ha
  clear he ha
  obtain ⟨a, b, c, d, e, f, g, h⟩ := s
  have hsg : IntKind.u32.signed = false := rfl
  go_enter Try.func55, Try.ntmps55
  go_wp2_with fail
  go_quiet (fail)
  go_wp2_with fail
  go_quiet (fail)
  go_wp2_with fail
  refine (thrice32 bp e 6 11 25 _ (by omega) (by omega) (by omega) ?_).mono ?_
  · exact b_cell (bdN (bal (bal (brf _) _) _) _) hlt hp
  rintro r1 w1 ⟨rfl, k1, rfl⟩
  have d19 := cell3 c19
  have d20 := cell3 c20
  have d21 := cell3 c21
  go_wp2_with fail
  refine (thrice32 bp a 2 13 22 _ (by omega) (by omega) (by omega) ?_).mono ?_
  · exact b_cell (bdN (bal (bal (bal (brf _) _) _) _) _) hlt hp
  rintro r2 w2 ⟨rfl, k2, rfl⟩
  go_wp2_with fail
  obtain ⟨q1, q2, q3⟩ := HE.out
  obtain ⟨q4, q5, q6⟩ := HA.out
  refine bodyPost_ret (v := .agg #[.int .u32 (eW (round p ⟨a, b, c, d, e, f, g, h⟩ x).a), .int .u32 (eW a), .int .u32 (eW b), .int .u32 (eW c), .int .u32 (eW (round p ⟨a, b, c, d, e, f, g, h⟩ x).e), .int .u32 (eW e), .int .u32 (eW f), .int .u32 (eW g)]) (by simp [results, Try.results55, go_sem, round, tee, you, sig, q1, q2, q3, q4, q5, q6]) rfl ⟨rfl, ?_⟩
  refine Below.setCell ?_ (Nat.le_succ _) _
  refine Below.setCell ?_ (Nat.le_succ _) _
  refine Below.setCell ?_ (Nat.le_succ _) _
  refine Below.setCell ?_ (Nat.le_succ _) _
  refine Below.setCell ?_ (Nat.le_succ _) _
  refine Below.setCell ?_ (Nat.le_succ _) _
  refine Below.setCell ?_ (Nat.le_succ _) _
  refine Below.setCell ?_ (Nat.le_succ _) _
  exact bdN (bal (bal (bal (bal (brf _) _) _) _) _) _
end
end Go.Proofs.Ytfihidnmgaiojaa
