/-
  notaryref.value at a sign; notaryref.Decode at four signs.
-/
import Derived.Test.YtfihidnmgaiojaaBEnc
namespace Go.Proofs.Ytfihidnmgaiojaa
open Go.RowKit
set_option linter.unusedVariables false
section

theorem sg_inj : ∀ i, i < 64 → ∀ x, x < 64 → (sg i).toNat = (sg x).toNat → i = x := by decide +kernel

set_option maxHeartbeats 400000 in
theorem value_sg (c : UInt8) (x : Nat) (w : World) (hx : x < 64) (hc : c = sg x) :
    Calls Try.prog 33 #[.int .u8 (c.toNat : Int)] w fun e w' => e = .returned (.int .i64 (x : Int)) ∧ w' = w := by
  have HC : Hid (c = sg x) := hc
  clear hc
  go_enter Try.func33, Try.ntmps33
  go_wp2_with fail
  go_loopw [3] (fun i wr => ∃ k : Nat, k ≤ x ∧ i = .int .i64 (k : Int) ∧ wr = w) (fun i _ => 64 - (intOf i).toNat)
  case atStart => exact ⟨0, by omega, rfl, rfl⟩
  case round =>
    obtain ⟨k, hk, rfl, rfl⟩ := hrel
    have hk64 : k < 64 := by omega
    have hk64' : (k : Int) < 64 := by omega
    by_cases hkx : k = x
    · subst hkx
      have he : (((signsB[k]'hk64).toNat : Int) == (c.toNat : Int)) = true := by rw [HC.out, sg_at k hk64]; simp
      delta signsB at he
      go_wp2
      go_ret
      exact ⟨rfl, rfl⟩
    · have he : (((signsB[k]'hk64).toNat : Int) == (c.toNat : Int)) = false := by
        rw [beq_eq_false_iff_ne, HC.out, ← sg_at k hk64]
        intro h; exact hkx (sg_inj k hk64 x hx (by exact_mod_cast h))
      delta signsB at he
      go_wp2
      exact ⟨⟨k + 1, by omega, by go_num, trivial⟩, by simp [intOf]; omega⟩

theorem i64_and_mask (n : Int) (k : Nat) (hk : k ≤ 8) : bits .and .i64 n (2 ^ k - 1) = n % 2 ^ k := by
  have h63 : (BitVec.ofInt 64 (2 ^ k - 1)).toNat = 2 ^ k - 1 := by
    have : k = 0 ∨ k = 1 ∨ k = 2 ∨ k = 3 ∨ k = 4 ∨ k = 5 ∨ k = 6 ∨ k = 7 ∨ k = 8 := by omega
    rcases this with rfl | rfl | rfl | rfl | rfl | rfl | rfl | rfl | rfl <;> decide
  have key : (BitVec.ofInt 64 n &&& BitVec.ofInt 64 (2 ^ k - 1)).toNat = (n % ((2 ^ 64 : Nat) : Int)).toNat % 2 ^ k := by
    rw [BitVec.toNat_and, BitVec.toNat_ofInt, h63, Nat.and_two_pow_sub_one_eq_mod]
  show IntKind.i64.wrap ((BitVec.ofInt 64 n &&& BitVec.ofInt 64 (2 ^ k - 1)).toNat : Nat) = n % 2 ^ k
  rw [key, IntKind.wrap_i64]
  have : k = 0 ∨ k = 1 ∨ k = 2 ∨ k = 3 ∨ k = 4 ∨ k = 5 ∨ k = 6 ∨ k = 7 ∨ k = 8 := by omega
  rcases this with rfl | rfl | rfl | rfl | rfl | rfl | rfl | rfl | rfl <;> omega
theorem i64_and15 (n : Int) : bits .and .i64 n 15 = n % 16 := i64_and_mask n 4 (by omega)
theorem i64_and3 (n : Int) : bits .and .i64 n 3 = n % 4 := i64_and_mask n 2 (by omega)
theorem i64_and0 (n : Int) : bits .and .i64 n 0 = 0 := by have := i64_and_mask n 0 (by omega); simpa using this
theorem nat_byte (n : Nat) : (n : Int) % 256 = ((UInt8.ofNat n).toNat : Int) := by simp
theorem div_cast (n m : Nat) : (n : Int) / (m : Int) = ((n / m : Nat) : Int) := rfl

attribute [local go_sem] i64_and15 i64_and3 i64_and0

set_option maxHeartbeats 1000000 in
theorem rdecode4 (t : ByteArray) (v : Nat → Nat) (w : World) (ht : t.size = 4) (hv : ∀ i (h : i < t.size), v i < 64 ∧ t[i] = sg (v i)) :
    Calls Try.prog 19 #[.string t] w
      fun e w' => (∃ r, e = .returned (.tuple #[.string r, .int .i64 0, .int .i64 0])) ∧ Below w.heap.size w w' := by
  obtain ⟨i0, hi, hz0, hz1, hz2⟩ := info_parts u8infoB
  have HI : Hid _ := hi
  have HV : Hid (∀ i (h : i < t.size), v i < 64 ∧ t[i] = sg (v i)) := hv
  have HT : Hid (t.size = 4) := ht
  have ht1 : t.size ≤ 4 := by omega
  have ht2 : 4 ≤ t.size := by omega
  have hr4 : ((t.size : Int) % 4 == 1) = false := by rw [HT.out]; rfl
  clear hi hv ht
  go_enter Try.func19, Try.ntmps19
  go_wp2_with fail
  go_loopw [5] (fun i wr => ∃ k : Nat, k ≤ t.size ∧ i = .int .i64 (k : Int) ∧ wr = w) (fun i _ => t.size - (intOf i).toNat)
  case atStart => exact ⟨0, by omega, rfl, rfl⟩
  case round =>
    obtain ⟨k, hk, rfl, hwr⟩ := hrel
    rw [hwr]
    clear hwr wr
    by_cases hlt : k < t.size
    · have hlt' : (k : Int) < (t.size : Int) := by omega
      have hv0 : (0 : Int) ≤ (v k : Int) := by omega
      go_wp2_with (go_at_call 33; refine (value_sg _ (v k) _ (HV.out k hlt).1 (HV.out k hlt).2).mono ?_; rintro e w1 ⟨rfl, hw1⟩; rw [hw1]; clear hw1 w1)
      exact ⟨⟨k + 1, by omega, by go_num, trivial⟩, by simp [intOf]; omega⟩
    · have hlt' : (t.size : Int) ≤ (k : Int) := by omega
      go_wp2_with fail
      go_loopw [6, 7, 8, 9] (fun o x bt i wr => ∃ (j X : Nat) (L : List UInt8), j ≤ t.size ∧ i = .int .i64 (j : Int) ∧ x = .int .i64 (X : Int) ∧ bt = .int .i64 ((6 * j % 8 : Nat) : Int) ∧ X < 2 ^ (6 * j % 8) ∧ L.length ≤ j ∧ OwnB w.heap.size 5 o L wr ∧ Below w.heap.size w wr) (fun _ _ _ i _ => t.size - (intOf i).toNat)
      case atStart => exact ⟨0, 0, [], by omega, rfl, rfl, rfl, by decide, by simp, .inl ⟨rfl, rfl⟩, brf _⟩
      case round =>
        obtain ⟨j, X, L, hj, rfl, rfl, rfl, hX, hLl, ho, hb⟩ := hrel
        have HO : Hid (OwnB w.heap.size 5 _ L wr) := ho
        clear ho
        generalize hq : 6 * j % 8 = q at hX
        have HQ : Hid (6 * j % 8 = q) := hq
        by_cases hlt2 : j < t.size
        · have hlt2' : (j : Int) < (t.size : Int) := by omega
          have hv64 := (HV.out j hlt2).1
          have hqc : q = 0 ∨ q = 6 ∨ q = 4 ∨ q = 2 := by omega
          clear hq
          rcases hqc with rfl | rfl | rfl | rfl
          · obtain rfl : X = 0 := by simpa using hX
            go_wp2_with (go_at_call 33; refine (value_sg _ (v j) _ (HV.out j hlt2).1 (HV.out j hlt2).2).mono ?_; rintro e w1 ⟨rfl, hw1⟩; rw [hw1]; clear hw1 w1)
            have hq6 : 6 * (j + 1) % 8 = 6 := by have := HQ.out; omega
            exact ⟨⟨j + 1, v j, L, by omega, by go_num, by simp, by rw [hq6]; rfl, by rw [hq6]; exact hv64, by omega, HO.out, hb⟩, by simp [intOf]; omega⟩
          · have hY0 : X * 64 + v j < 4096 := by omega
            obtain ⟨Y, hY, hYe⟩ : ∃ Y : Nat, (X : Int) * 64 + (v j : Int) = (Y : Int) ∧ X * 64 + v j = Y := ⟨X * 64 + v j, by omega, rfl⟩
            rw [hYe] at hY0
            have HYe : Hid (X * 64 + v j = Y) := hYe
            clear hYe
            obtain ⟨c, hbt⟩ : ∃ c : UInt8, (Y : Int) / 16 = (c.toNat : Int) := ⟨UInt8.ofNat (Y / 16), by simp; omega⟩
            have hbs := hb.size
            have hl : L.length + 1 ≤ 220000000000000 := by omega
            go_wp2_with (first | (go_at_call 33; refine (value_sg _ (v j) _ (HV.out j hlt2).1 (HV.out j hlt2).2).mono ?_; rintro e w1 ⟨rfl, hw1⟩; rw [hw1]; clear hw1 w1) | (refine wp_appW rfl (.tmp 47) (.tmp 52) 56 rfl 5 i0 Try.underlying56 HI.out hz0 hz1 hz2 w.heap.size _ _ c ⟨wr.heap.size, 0, none⟩ rfl rfl hl (HO.out.alloc_own _) (by simp; omega) (one_cell _ _ _) ?_; intro v3 w3 ho3 hb3; have HO3 : Hid _ := ho3; clear ho3))
            have hq6 : 6 * (j + 1) % 8 = 4 := by have := HQ.out; omega
            exact ⟨⟨j + 1, Y % 16, L ++ [c], by omega, by go_num, congrArg (Value.int .i64) (by omega), by rw [hq6]; rfl, by rw [hq6]; omega, by simp; omega, HO3.out, (bal hb _).trans hb3⟩, by simp [intOf]; omega⟩
          · have hY0 : X * 64 + v j < 1024 := by omega
            obtain ⟨Y, hY, hYe⟩ : ∃ Y : Nat, (X : Int) * 64 + (v j : Int) = (Y : Int) ∧ X * 64 + v j = Y := ⟨X * 64 + v j, by omega, rfl⟩
            rw [hYe] at hY0
            have HYe : Hid (X * 64 + v j = Y) := hYe
            clear hYe
            obtain ⟨c, hbt⟩ : ∃ c : UInt8, (Y : Int) / 4 = (c.toNat : Int) := ⟨UInt8.ofNat (Y / 4), by simp; omega⟩
            have hbs := hb.size
            have hl : L.length + 1 ≤ 220000000000000 := by omega
            go_wp2_with (first | (go_at_call 33; refine (value_sg _ (v j) _ (HV.out j hlt2).1 (HV.out j hlt2).2).mono ?_; rintro e w1 ⟨rfl, hw1⟩; rw [hw1]; clear hw1 w1) | (refine wp_appW rfl (.tmp 47) (.tmp 52) 56 rfl 5 i0 Try.underlying56 HI.out hz0 hz1 hz2 w.heap.size _ _ c ⟨wr.heap.size, 0, none⟩ rfl rfl hl (HO.out.alloc_own _) (by simp; omega) (one_cell _ _ _) ?_; intro v3 w3 ho3 hb3; have HO3 : Hid _ := ho3; clear ho3))
            have hq6 : 6 * (j + 1) % 8 = 2 := by have := HQ.out; omega
            exact ⟨⟨j + 1, Y % 4, L ++ [c], by omega, by go_num, congrArg (Value.int .i64) (by omega), by rw [hq6]; rfl, by rw [hq6]; omega, by simp; omega, HO3.out, (bal hb _).trans hb3⟩, by simp [intOf]; omega⟩
          · have hY0 : X * 64 + v j < 256 := by omega
            obtain ⟨c, hY⟩ : ∃ c : UInt8, (X : Int) * 64 + (v j : Int) = (c.toNat : Int) := ⟨UInt8.ofNat (X * 64 + v j), by simp; omega⟩
            have hc256 : c.toNat < 256 := c.toNat_lt
            have hbs := hb.size
            have hl : L.length + 1 ≤ 220000000000000 := by omega
            go_wp2_with (first | (go_at_call 33; refine (value_sg _ (v j) _ (HV.out j hlt2).1 (HV.out j hlt2).2).mono ?_; rintro e w1 ⟨rfl, hw1⟩; rw [hw1]; clear hw1 w1) | (refine wp_appW rfl (.tmp 47) (.tmp 52) 56 rfl 5 i0 Try.underlying56 HI.out hz0 hz1 hz2 w.heap.size _ _ c ⟨wr.heap.size, 0, none⟩ rfl rfl hl (HO.out.alloc_own _) (by simp; omega) (one_cell _ _ _) ?_; intro v3 w3 ho3 hb3; have HO3 : Hid _ := ho3; clear ho3))
            have hq6 : 6 * (j + 1) % 8 = 0 := by have := HQ.out; omega
            exact ⟨⟨j + 1, 0, L ++ [c], by omega, by go_num, congrArg (Value.int .i64) (by omega), by rw [hq6]; rfl, by rw [hq6]; omega, by simp; omega, HO3.out, (bal hb _).trans hb3⟩, by simp [intOf]; omega⟩
        · have hlt2' : (t.size : Int) ≤ (j : Int) := by omega
          have hq0 : q = 0 := by omega
          subst hq0
          obtain rfl : X = 0 := by simpa using hX
          have hs := HO.out.str (P := Try.prog) (t := 56) (d := 9) Try.underlying56 Try.underlying5 Try.underlying9
          clear hq
          go_wp2
          go_ret3
          exact ⟨⟨⟨L.toArray⟩, rfl⟩, hb⟩
end
end Go.Proofs.Ytfihidnmgaiojaa
