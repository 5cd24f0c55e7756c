/-
  The document's answer: Sum, whatever the way; the law DigestSums.
-/
import Derived.Test.YtfihidnmgaiojaaRSum32
import Derived.Test.YtfihidnmgaiojaaRSum64
import Derived.Test.YtfihidnmgaiojaaKeys
namespace Go.Proofs.Ytfihidnmgaiojaa
open Go.RowKit
set_option linter.unusedVariables false

set_option maxHeartbeats 400000 in
theorem rsum_none (a : Int) (d : ByteArray) (w : World) (h : sizeL a = 0) :
    Calls Try.prog 12 #[.int .i64 a, .string d] w fun e w' => e = .returned (.string ⟨#[]⟩) ∧ Below w.heap.size w w' := by
  go_enter Try.func12, Try.ntmps12
  go_wp2_with (go_at_call 13; refine (rsize_any a _).mono ?_; rintro e1 w1 ⟨rfl, hw1⟩; rw [hw1, h]; clear hw1 w1)
  go_ret
  exact ⟨rfl, brf w⟩

theorem rsum_any (a : Int) (d : ByteArray) (w : World) (hd : d.size ≤ 140737488355328) :
    Calls Try.prog 12 #[.int .i64 a, .string d] w fun e w' => e = .returned (.string ⟨(codeSum a d.data.toList).toArray⟩) ∧ Below w.heap.size w w' := by
  unfold codeSum
  by_cases h1 : a = 256
  · subst h1
    rw [if_pos rfl]
    refine (rsum32 256 32 s256 (rsize_any 256) (by omega) (by omega) way256 d w hd).mono ?_
    rintro e w' ⟨rfl, hb⟩
    refine ⟨?_, hb⟩
    rw [refS32_eq, List.take_of_length_le (by rw [writeTo32_length]; omega)]
  · rw [if_neg h1]
    by_cases h2 : a = 384
    · subst h2
      rw [if_pos rfl]
      refine (rsum64 384 48 s384 (rsize_any 384) (by omega) (by omega) way384 d w hd).mono ?_
      rintro e w' ⟨rfl, hb⟩
      refine ⟨?_, hb⟩
      rw [refS64_eq]
    · rw [if_neg h2]
      by_cases h3 : a = 512
      · subst h3
        rw [if_pos rfl]
        refine (rsum64 512 64 s512 (rsize_any 512) (by omega) (by omega) way512 d w hd).mono ?_
        rintro e w' ⟨rfl, hb⟩
        refine ⟨?_, hb⟩
        rw [refS64_eq, List.take_of_length_le (by rw [writeTo64_length]; omega)]
      · rw [if_neg h3]
        exact rsum_none a d w (by simp [sizeL, h1, h2, h3])

set_option maxHeartbeats 400000 in
theorem sumsLaw (a : Int) (d : ByteArray) (w : World) (hd : d.size ≤ 140737488351232) :
    Calls Try.prog 3 #[.int .i64 a, .string d] w fun e w' => e = .returned (.bool true) ∧ Below w.heap.size w w' := by
  have hl := codeSum_length a d.data.toList
  go_enter Try.func3, Try.ntmps3
  go_wp2_with (first | (go_at_call 10; refine (sum_any a d _ (by omega)).mono ?_; rintro e1 w1 ⟨rfl, hb1⟩; have HB1 : Hid _ := hb1; clear hb1; generalize hL : codeSum a d.data.toList = L at hl; have HL : Hid (codeSum a d.data.toList = L) := hL; clear hL) | (go_at_call 11; refine (size_any a _).mono ?_; rintro e2 w2 ⟨rfl, hw2⟩; rw [hw2]; clear hw2 w2))
  refine (rsum_any a d w1 (by omega)).mono ?_
  rintro e3 w3 ⟨rfl, hb3⟩
  rw [HL.out]
  have HB3 : Hid _ := hb3
  clear hb3
  go_wp2_with (go_at_call 13; refine (rsize_any a _).mono ?_; rintro e4 w4 ⟨rfl, hw4⟩; rw [hw4]; clear hw4 w4)
  go_ret
  exact ⟨rfl, HB1.out.trans (HB3.out.mono HB1.out.size)⟩
end Go.Proofs.Ytfihidnmgaiojaa
