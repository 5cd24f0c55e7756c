/-
  read and round, of words of 64 bits.
-/
import Derived.Test.YtfihidnmgaiojaaTurn64
import Derived.Test.YtfihidnmgaiojaaSpec
import Derived.Test.YtfihidnmgaiojaaSame
import Derived.Laws.ResultCell
namespace Go.Proofs.Ytfihidnmgaiojaa
open Go.RowKit
set_option linter.unusedVariables false
section
attribute [local go_sem] shr_eW shr_eW_min shl64 or64 xor64 and64 add64 not64 add64m add64m3 alloc_drewN

theorem rd_step64 (x : BitVec 64) (c : UInt8) : bits .or .u64 (eW x * (256 : Int) % (18446744073709551616 : Int)) ((c.toNat : Int) % (18446744073709551616 : Int)) = eW (x <<< 8 ||| BitVec.ofNat 64 c.toNat) := by
  have h1 : eW x * (256 : Int) % (18446744073709551616 : Int) = eW (x <<< 8) := by
    have := shl64 x 8
    rw [← this, IntKind.wrap_u64]; rfl
  have h2 : (c.toNat : Int) % (18446744073709551616 : Int) = eW (BitVec.ofNat 64 c.toNat) := by
    unfold eW; rw [BitVec.toNat_ofNat]; omega
  rw [h1, h2, or64]

theorem rd_stepw64 (x : BitVec 64) (c : UInt8) : bits .or .u64 (IntKind.u64.wrap (eW x * 256)) (IntKind.u64.wrap (c.toNat : Int)) = eW (x <<< 8 ||| BitVec.ofNat 64 c.toNat) := by
  rw [← rd_step64, IntKind.wrap_u64, IntKind.wrap_u64]

set_option maxHeartbeats 400000 in
theorem read64 (v : Value) (s : ByteArray) (w : World) (hs : s.size ≤ maxLen) :
    Calls Try.prog 61 #[v, .string s] w fun e w' => e = .returned (.int .u64 (eW (rd 64 s.data.toList))) ∧ w' = w := by
  unfold maxLen at hs
  go_enter Try.func61, Try.ntmps61
  go_wp2
  go_loop [5, 9] (fun x i => ∃ k : Nat, k ≤ s.size ∧ i = .int .i64 k ∧ x = .int .u64 (eW (rd 64 (s.data.toList.take k)))) (fun _ i => s.size - (intOf i).toNat)
  case atStart => exact ⟨0, Nat.zero_le _, rfl, rfl⟩
  case round =>
    obtain ⟨k, hk, rfl, rfl⟩ := hrel
    by_cases hlt : k < s.size
    · go_wp2
      go_round
      case rel => exact ⟨k + 1, by omega, by go_num, by (first | rw [rd_step64] | rw [rd_stepw64]); rw [← rd_snoc, ← take_snoc s k hlt]⟩
      case measure => simp [intOf]; omega
    · go_wp2
      go_ret
      exact ⟨ret_int (by rw [List.take_of_length_le (by simp; omega)]), rfl⟩

set_option maxHeartbeats 400000 in
theorem round64 (bp : Nat) (s : St 64) (x : BitVec 64) (w : World) (p : Way 64)
    (he : p.e1 = 14 ∧ p.e2 = 18 ∧ p.e3 = 41) (ha : p.a1 = 28 ∧ p.a2 = 34 ∧ p.a3 = 39)
    (hp : w.cell? ⟨bp, 0, none⟩ = some (.int .i64 8))
    (c16 : w.cell? ⟨bp, 16, none⟩ = some (.int .i64 14)) (c17 : w.cell? ⟨bp, 17, none⟩ = some (.int .i64 18)) (c18 : w.cell? ⟨bp, 18, none⟩ = some (.int .i64 41))
    (c19 : w.cell? ⟨bp, 19, none⟩ = some (.int .i64 28)) (c20 : w.cell? ⟨bp, 20, none⟩ = some (.int .i64 34)) (c21 : w.cell? ⟨bp, 21, none⟩ = some (.int .i64 39)) :
    Calls Try.prog 57 #[.pointer (some ⟨bp, 0, none⟩), .agg #[.int .u64 (eW s.a), .int .u64 (eW s.b), .int .u64 (eW s.c), .int .u64 (eW s.d), .int .u64 (eW s.e), .int .u64 (eW s.f), .int .u64 (eW s.g), .int .u64 (eW s.h)], .int .u64 (eW x)] w
      fun e w' => e = .returned (.agg #[.int .u64 (eW (round p s x).a), .int .u64 (eW (round p s x).b), .int .u64 (eW (round p s x).c), .int .u64 (eW (round p s x).d), .int .u64 (eW (round p s x).e), .int .u64 (eW (round p s x).f), .int .u64 (eW (round p s x).g), .int .u64 (eW (round p s x).h)]) ∧ Below w.heap.size w w' := by
  have hlt : bp < w.heap.size := World.block_lt_of_cell? w _ hp
  have HE : Hid (p.e1 = 14 ∧ p.e2 = 18 ∧ p.e3 = 41) := he
  have HA : Hid (p.a1 = 28 ∧ p.a2 = 34 ∧ p.a3 = 39) := ha
  clear he ha
  obtain ⟨a, b, c, d, e, f, g, h⟩ := s
  have hsg : IntKind.u64.signed = false := rfl
  go_enter Try.func57, Try.ntmps57
  go_wp2_with fail
  go_quiet (fail)
  go_wp2_with fail
  go_quiet (fail)
  go_wp2_with fail
  refine (thrice64 bp e 14 18 41 _ (by omega) (by omega) (by omega) ?_).mono ?_
  · exact b_cell (bdN (bal (bal (brf _) _) _) _) hlt hp
  rintro r1 w1 ⟨rfl, k1, rfl⟩
  have d19 := cell3 c19
  have d20 := cell3 c20
  have d21 := cell3 c21
  go_wp2_with fail
  refine (thrice64 bp a 28 34 39 _ (by omega) (by omega) (by omega) ?_).mono ?_
  · exact b_cell (bdN (bal (bal (bal (brf _) _) _) _) _) hlt hp
  rintro r2 w2 ⟨rfl, k2, rfl⟩
  go_wp2_with fail
  obtain ⟨q1, q2, q3⟩ := HE.out
  obtain ⟨q4, q5, q6⟩ := HA.out
  refine bodyPost_ret (v := .agg #[.int .u64 (eW (round p ⟨a, b, c, d, e, f, g, h⟩ x).a), .int .u64 (eW a), .int .u64 (eW b), .int .u64 (eW c), .int .u64 (eW (round p ⟨a, b, c, d, e, f, g, h⟩ x).e), .int .u64 (eW e), .int .u64 (eW f), .int .u64 (eW g)]) (by simp [results, Try.results57, go_sem, round, tee, you, sig, q1, q2, q3, q4, q5, q6]) rfl ⟨rfl, ?_⟩
  refine Below.setCell ?_ (Nat.le_succ _) _
  refine Below.setCell ?_ (Nat.le_succ _) _
  refine Below.setCell ?_ (Nat.le_succ _) _
  refine Below.setCell ?_ (Nat.le_succ _) _
  refine Below.setCell ?_ (Nat.le_succ _) _
  refine Below.setCell ?_ (Nat.le_succ _) _
  refine Below.setCell ?_ (Nat.le_succ _) _
  refine Below.setCell ?_ (Nat.le_succ _) _
  exact bdN (bal (bal (bal (bal (brf _) _) _) _) _) _
end
end Go.Proofs.Ytfihidnmgaiojaa
