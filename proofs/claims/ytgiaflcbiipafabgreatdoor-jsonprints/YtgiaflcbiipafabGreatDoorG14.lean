/-
  Joined by program: JPrint, JDec.
-/
import Derived.Test.YtgiaflcbiipafabGreatDoorG13
/-
  The document's way of writing strings.
-/
namespace Go.Proofs.YtgiaflcbiipafabGreatDoor
open Go.RowKit
set_option linter.unusedVariables false

def lowC (n : Nat) : UInt8 := if n < 10 then UInt8.ofNat (48 + n) else UInt8.ofNat (87 + n)
/-- A byte of a string, as it is written. -/
def sgnL (c : UInt8) : List UInt8 :=
  if c = 34 ∨ c = 92 then [92, c] else if c = 8 then [92, 98] else if c = 9 then [92, 116] else if c = 10 then [92, 110] else if c = 12 then [92, 102] else if c = 13 then [92, 114]
  else if c.toNat < 32 then [92, 117, 48, 48, lowC (c.toNat / 16), lowC (c.toNat % 16)] else [c]
def sgnsL : List UInt8 → List UInt8 | [] => [] | c :: r => sgnL c ++ sgnsL r
def strT (t : List UInt8) : List UInt8 := 34 :: sgnsL t ++ [34]
theorem sgnL_len (c : UInt8) : (sgnL c).length ≤ 6 := by
  unfold sgnL
  repeat' split
  all_goals simp
theorem sgnsL_append (a b : List UInt8) : sgnsL (a ++ b) = sgnsL a ++ sgnsL b := by
  induction a with
  | nil => rfl
  | cons c r ih => simp only [List.cons_append, sgnsL, ih, List.append_assoc]
theorem sgnsL_len (l : List UInt8) : (sgnsL l).length ≤ 6 * l.length := by
  induction l with
  | nil => simp [sgnsL]
  | cons c r ih => have := sgnL_len c; simp only [sgnsL, List.length_append, List.length_cons]; omega

section
attribute [local go_sem] conv1 conv2

set_option maxHeartbeats 400000 in
theorem rsg_34 (w : World) : Calls Tryz.prog 47 #[.int .u8 34] w fun e w' => e = .returned (.string ⟨#[92, 34]⟩) ∧ Below w.heap.size w w' := by
  have hcv : ∀ W : World, Sem.run Tryz.prog (convert 38 9 (.slice (some ⟨W.heap.size, 0, none⟩) 2 2)) (W.alloc (.cells #[.int .u8 92, .int .u8 34] 5)) = .ok (.string ⟨#[92, 34]⟩) (W.alloc (.cells #[.int .u8 92, .int .u8 34] 5)) := fun W => conv2 W 92 34
  go_enter Tryz.func47, Tryz.ntmps47
  go_wp2
  go_ret
  exact ⟨rfl, bal (brf _) _⟩

set_option maxHeartbeats 400000 in
theorem rsg_92 (w : World) : Calls Tryz.prog 47 #[.int .u8 92] w fun e w' => e = .returned (.string ⟨#[92, 92]⟩) ∧ Below w.heap.size w w' := by
  have hcv : ∀ W : World, Sem.run Tryz.prog (convert 38 9 (.slice (some ⟨W.heap.size, 0, none⟩) 2 2)) (W.alloc (.cells #[.int .u8 92, .int .u8 92] 5)) = .ok (.string ⟨#[92, 92]⟩) (W.alloc (.cells #[.int .u8 92, .int .u8 92] 5)) := fun W => conv2 W 92 92
  go_enter Tryz.func47, Tryz.ntmps47
  go_wp2
  go_ret
  exact ⟨rfl, bal (brf _) _⟩

set_option maxHeartbeats 400000 in
theorem rsg_0 (w : World) : Calls Tryz.prog 47 #[.int .u8 0] w fun e w' => e = .returned (.string ⟨#[92, 117, 48, 48, 48, 48]⟩) ∧ Below w.heap.size w w' := by
  go_enter Tryz.func47, Tryz.ntmps47
  go_wp2_with fail
  go_quiet (fail)
  go_wp2
  go_ret
  exact ⟨rfl, bdN (brf _) nq⟩

set_option maxHeartbeats 400000 in
theorem rsg_1 (w : World) : Calls Tryz.prog 47 #[.int .u8 1] w fun e w' => e = .returned (.string ⟨#[92, 117, 48, 48, 48, 49]⟩) ∧ Below w.heap.size w w' := by
  go_enter Tryz.func47, Tryz.ntmps47
  go_wp2_with fail
  go_quiet (fail)
  go_wp2
  go_ret
  exact ⟨rfl, bdN (brf _) nq⟩

set_option maxHeartbeats 400000 in
theorem rsg_2 (w : World) : Calls Tryz.prog 47 #[.int .u8 2] w fun e w' => e = .returned (.string ⟨#[92, 117, 48, 48, 48, 50]⟩) ∧ Below w.heap.size w w' := by
  go_enter Tryz.func47, Tryz.ntmps47
  go_wp2_with fail
  go_quiet (fail)
  go_wp2
  go_ret
  exact ⟨rfl, bdN (brf _) nq⟩

set_option maxHeartbeats 400000 in
theorem rsg_3 (w : World) : Calls Tryz.prog 47 #[.int .u8 3] w fun e w' => e = .returned (.string ⟨#[92, 117, 48, 48, 48, 51]⟩) ∧ Below w.heap.size w w' := by
  go_enter Tryz.func47, Tryz.ntmps47
  go_wp2_with fail
  go_quiet (fail)
  go_wp2
  go_ret
  exact ⟨rfl, bdN (brf _) nq⟩

set_option maxHeartbeats 400000 in
theorem rsg_4 (w : World) : Calls Tryz.prog 47 #[.int .u8 4] w fun e w' => e = .returned (.string ⟨#[92, 117, 48, 48, 48, 52]⟩) ∧ Below w.heap.size w w' := by
  go_enter Tryz.func47, Tryz.ntmps47
  go_wp2_with fail
  go_quiet (fail)
  go_wp2
  go_ret
  exact ⟨rfl, bdN (brf _) nq⟩

set_option maxHeartbeats 400000 in
theorem rsg_5 (w : World) : Calls Tryz.prog 47 #[.int .u8 5] w fun e w' => e = .returned (.string ⟨#[92, 117, 48, 48, 48, 53]⟩) ∧ Below w.heap.size w w' := by
  go_enter Tryz.func47, Tryz.ntmps47
  go_wp2_with fail
  go_quiet (fail)
  go_wp2
  go_ret
  exact ⟨rfl, bdN (brf _) nq⟩

set_option maxHeartbeats 400000 in
theorem rsg_6 (w : World) : Calls Tryz.prog 47 #[.int .u8 6] w fun e w' => e = .returned (.string ⟨#[92, 117, 48, 48, 48, 54]⟩) ∧ Below w.heap.size w w' := by
  go_enter Tryz.func47, Tryz.ntmps47
  go_wp2_with fail
  go_quiet (fail)
  go_wp2
  go_ret
  exact ⟨rfl, bdN (brf _) nq⟩

set_option maxHeartbeats 400000 in
theorem rsg_7 (w : World) : Calls Tryz.prog 47 #[.int .u8 7] w fun e w' => e = .returned (.string ⟨#[92, 117, 48, 48, 48, 55]⟩) ∧ Below w.heap.size w w' := by
  go_enter Tryz.func47, Tryz.ntmps47
  go_wp2_with fail
  go_quiet (fail)
  go_wp2
  go_ret
  exact ⟨rfl, bdN (brf _) nq⟩

set_option maxHeartbeats 400000 in
theorem rsg_8 (w : World) : Calls Tryz.prog 47 #[.int .u8 8] w fun e w' => e = .returned (.string ⟨#[92, 98]⟩) ∧ Below w.heap.size w w' := by
  go_enter Tryz.func47, Tryz.ntmps47
  go_wp2
  go_ret
  exact ⟨rfl, brf _⟩

set_option maxHeartbeats 400000 in
theorem rsg_9 (w : World) : Calls Tryz.prog 47 #[.int .u8 9] w fun e w' => e = .returned (.string ⟨#[92, 116]⟩) ∧ Below w.heap.size w w' := by
  go_enter Tryz.func47, Tryz.ntmps47
  go_wp2
  go_ret
  exact ⟨rfl, brf _⟩

set_option maxHeartbeats 400000 in
theorem rsg_10 (w : World) : Calls Tryz.prog 47 #[.int .u8 10] w fun e w' => e = .returned (.string ⟨#[92, 110]⟩) ∧ Below w.heap.size w w' := by
  go_enter Tryz.func47, Tryz.ntmps47
  go_wp2
  go_ret
  exact ⟨rfl, brf _⟩

set_option maxHeartbeats 400000 in
theorem rsg_11 (w : World) : Calls Tryz.prog 47 #[.int .u8 11] w fun e w' => e = .returned (.string ⟨#[92, 117, 48, 48, 48, 98]⟩) ∧ Below w.heap.size w w' := by
  go_enter Tryz.func47, Tryz.ntmps47
  go_wp2_with fail
  go_quiet (fail)
  go_wp2
  go_ret
  exact ⟨rfl, bdN (brf _) nq⟩

set_option maxHeartbeats 400000 in
theorem rsg_12 (w : World) : Calls Tryz.prog 47 #[.int .u8 12] w fun e w' => e = .returned (.string ⟨#[92, 102]⟩) ∧ Below w.heap.size w w' := by
  go_enter Tryz.func47, Tryz.ntmps47
  go_wp2
  go_ret
  exact ⟨rfl, brf _⟩

set_option maxHeartbeats 400000 in
theorem rsg_13 (w : World) : Calls Tryz.prog 47 #[.int .u8 13] w fun e w' => e = .returned (.string ⟨#[92, 114]⟩) ∧ Below w.heap.size w w' := by
  go_enter Tryz.func47, Tryz.ntmps47
  go_wp2
  go_ret
  exact ⟨rfl, brf _⟩

set_option maxHeartbeats 400000 in
theorem rsg_14 (w : World) : Calls Tryz.prog 47 #[.int .u8 14] w fun e w' => e = .returned (.string ⟨#[92, 117, 48, 48, 48, 101]⟩) ∧ Below w.heap.size w w' := by
  go_enter Tryz.func47, Tryz.ntmps47
  go_wp2_with fail
  go_quiet (fail)
  go_wp2
  go_ret
  exact ⟨rfl, bdN (brf _) nq⟩

set_option maxHeartbeats 400000 in
theorem rsg_15 (w : World) : Calls Tryz.prog 47 #[.int .u8 15] w fun e w' => e = .returned (.string ⟨#[92, 117, 48, 48, 48, 102]⟩) ∧ Below w.heap.size w w' := by
  go_enter Tryz.func47, Tryz.ntmps47
  go_wp2_with fail
  go_quiet (fail)
  go_wp2
  go_ret
  exact ⟨rfl, bdN (brf _) nq⟩

set_option maxHeartbeats 400000 in
theorem rsg_16 (w : World) : Calls Tryz.prog 47 #[.int .u8 16] w fun e w' => e = .returned (.string ⟨#[92, 117, 48, 48, 49, 48]⟩) ∧ Below w.heap.size w w' := by
  go_enter Tryz.func47, Tryz.ntmps47
  go_wp2_with fail
  go_quiet (fail)
  go_wp2
  go_ret
  exact ⟨rfl, bdN (brf _) nq⟩

set_option maxHeartbeats 400000 in
theorem rsg_17 (w : World) : Calls Tryz.prog 47 #[.int .u8 17] w fun e w' => e = .returned (.string ⟨#[92, 117, 48, 48, 49, 49]⟩) ∧ Below w.heap.size w w' := by
  go_enter Tryz.func47, Tryz.ntmps47
  go_wp2_with fail
  go_quiet (fail)
  go_wp2
  go_ret
  exact ⟨rfl, bdN (brf _) nq⟩

set_option maxHeartbeats 400000 in
theorem rsg_18 (w : World) : Calls Tryz.prog 47 #[.int .u8 18] w fun e w' => e = .returned (.string ⟨#[92, 117, 48, 48, 49, 50]⟩) ∧ Below w.heap.size w w' := by
  go_enter Tryz.func47, Tryz.ntmps47
  go_wp2_with fail
  go_quiet (fail)
  go_wp2
  go_ret
  exact ⟨rfl, bdN (brf _) nq⟩

set_option maxHeartbeats 400000 in
theorem rsg_19 (w : World) : Calls Tryz.prog 47 #[.int .u8 19] w fun e w' => e = .returned (.string ⟨#[92, 117, 48, 48, 49, 51]⟩) ∧ Below w.heap.size w w' := by
  go_enter Tryz.func47, Tryz.ntmps47
  go_wp2_with fail
  go_quiet (fail)
  go_wp2
  go_ret
  exact ⟨rfl, bdN (brf _) nq⟩

set_option maxHeartbeats 400000 in
theorem rsg_20 (w : World) : Calls Tryz.prog 47 #[.int .u8 20] w fun e w' => e = .returned (.string ⟨#[92, 117, 48, 48, 49, 52]⟩) ∧ Below w.heap.size w w' := by
  go_enter Tryz.func47, Tryz.ntmps47
  go_wp2_with fail
  go_quiet (fail)
  go_wp2
  go_ret
  exact ⟨rfl, bdN (brf _) nq⟩

set_option maxHeartbeats 400000 in
theorem rsg_21 (w : World) : Calls Tryz.prog 47 #[.int .u8 21] w fun e w' => e = .returned (.string ⟨#[92, 117, 48, 48, 49, 53]⟩) ∧ Below w.heap.size w w' := by
  go_enter Tryz.func47, Tryz.ntmps47
  go_wp2_with fail
  go_quiet (fail)
  go_wp2
  go_ret
  exact ⟨rfl, bdN (brf _) nq⟩

set_option maxHeartbeats 400000 in
theorem rsg_22 (w : World) : Calls Tryz.prog 47 #[.int .u8 22] w fun e w' => e = .returned (.string ⟨#[92, 117, 48, 48, 49, 54]⟩) ∧ Below w.heap.size w w' := by
  go_enter Tryz.func47, Tryz.ntmps47
  go_wp2_with fail
  go_quiet (fail)
  go_wp2
  go_ret
  exact ⟨rfl, bdN (brf _) nq⟩

set_option maxHeartbeats 400000 in
theorem rsg_23 (w : World) : Calls Tryz.prog 47 #[.int .u8 23] w fun e w' => e = .returned (.string ⟨#[92, 117, 48, 48, 49, 55]⟩) ∧ Below w.heap.size w w' := by
  go_enter Tryz.func47, Tryz.ntmps47
  go_wp2_with fail
  go_quiet (fail)
  go_wp2
  go_ret
  exact ⟨rfl, bdN (brf _) nq⟩

set_option maxHeartbeats 400000 in
theorem rsg_24 (w : World) : Calls Tryz.prog 47 #[.int .u8 24] w fun e w' => e = .returned (.string ⟨#[92, 117, 48, 48, 49, 56]⟩) ∧ Below w.heap.size w w' := by
  go_enter Tryz.func47, Tryz.ntmps47
  go_wp2_with fail
  go_quiet (fail)
  go_wp2
  go_ret
  exact ⟨rfl, bdN (brf _) nq⟩

set_option maxHeartbeats 400000 in
theorem rsg_25 (w : World) : Calls Tryz.prog 47 #[.int .u8 25] w fun e w' => e = .returned (.string ⟨#[92, 117, 48, 48, 49, 57]⟩) ∧ Below w.heap.size w w' := by
  go_enter Tryz.func47, Tryz.ntmps47
  go_wp2_with fail
  go_quiet (fail)
  go_wp2
  go_ret
  exact ⟨rfl, bdN (brf _) nq⟩

set_option maxHeartbeats 400000 in
theorem rsg_26 (w : World) : Calls Tryz.prog 47 #[.int .u8 26] w fun e w' => e = .returned (.string ⟨#[92, 117, 48, 48, 49, 97]⟩) ∧ Below w.heap.size w w' := by
  go_enter Tryz.func47, Tryz.ntmps47
  go_wp2_with fail
  go_quiet (fail)
  go_wp2
  go_ret
  exact ⟨rfl, bdN (brf _) nq⟩

set_option maxHeartbeats 400000 in
theorem rsg_27 (w : World) : Calls Tryz.prog 47 #[.int .u8 27] w fun e w' => e = .returned (.string ⟨#[92, 117, 48, 48, 49, 98]⟩) ∧ Below w.heap.size w w' := by
  go_enter Tryz.func47, Tryz.ntmps47
  go_wp2_with fail
  go_quiet (fail)
  go_wp2
  go_ret
  exact ⟨rfl, bdN (brf _) nq⟩

set_option maxHeartbeats 400000 in
theorem rsg_28 (w : World) : Calls Tryz.prog 47 #[.int .u8 28] w fun e w' => e = .returned (.string ⟨#[92, 117, 48, 48, 49, 99]⟩) ∧ Below w.heap.size w w' := by
  go_enter Tryz.func47, Tryz.ntmps47
  go_wp2_with fail
  go_quiet (fail)
  go_wp2
  go_ret
  exact ⟨rfl, bdN (brf _) nq⟩

set_option maxHeartbeats 400000 in
theorem rsg_29 (w : World) : Calls Tryz.prog 47 #[.int .u8 29] w fun e w' => e = .returned (.string ⟨#[92, 117, 48, 48, 49, 100]⟩) ∧ Below w.heap.size w w' := by
  go_enter Tryz.func47, Tryz.ntmps47
  go_wp2_with fail
  go_quiet (fail)
  go_wp2
  go_ret
  exact ⟨rfl, bdN (brf _) nq⟩

set_option maxHeartbeats 400000 in
theorem rsg_30 (w : World) : Calls Tryz.prog 47 #[.int .u8 30] w fun e w' => e = .returned (.string ⟨#[92, 117, 48, 48, 49, 101]⟩) ∧ Below w.heap.size w w' := by
  go_enter Tryz.func47, Tryz.ntmps47
  go_wp2_with fail
  go_quiet (fail)
  go_wp2
  go_ret
  exact ⟨rfl, bdN (brf _) nq⟩

set_option maxHeartbeats 400000 in
theorem rsg_31 (w : World) : Calls Tryz.prog 47 #[.int .u8 31] w fun e w' => e = .returned (.string ⟨#[92, 117, 48, 48, 49, 102]⟩) ∧ Below w.heap.size w w' := by
  go_enter Tryz.func47, Tryz.ntmps47
  go_wp2_with fail
  go_quiet (fail)
  go_wp2
  go_ret
  exact ⟨rfl, bdN (brf _) nq⟩

set_option maxHeartbeats 400000 in
theorem rsg_else (c : UInt8) (w : World) (h34 : c ≠ 34) (h92 : c ≠ 92) (h32 : 32 ≤ c.toNat) : Calls Tryz.prog 47 #[.int .u8 (c.toNat : Int)] w fun e w' => e = .returned (.string ⟨#[c]⟩) ∧ Below w.heap.size w w' := by
  have d34 : ((c.toNat : Int) == 34) = false := u8_ne (k := 34) (by omega) h34
  have d92 : ((c.toNat : Int) == 92) = false := u8_ne (k := 92) (by omega) h92
  have d8 : ((c.toNat : Int) == 8) = false := by simp; omega
  have d9 : ((c.toNat : Int) == 9) = false := by simp; omega
  have d10 : ((c.toNat : Int) == 10) = false := by simp; omega
  have d12 : ((c.toNat : Int) == 12) = false := by simp; omega
  have d13 : ((c.toNat : Int) == 13) = false := by simp; omega
  have dl : decide ((c.toNat : Int) < 32) = false := by simp; omega
  clear h34 h92 h32
  go_enter Tryz.func47, Tryz.ntmps47
  go_wp2
  go_ret
  exact ⟨rfl, bal (brf _) _⟩
end

theorem rsign (c : UInt8) (w : World) : Calls Tryz.prog 47 #[.int .u8 (c.toNat : Int)] w fun e w' => e = .returned (.string ⟨(sgnL c).toArray⟩) ∧ Below w.heap.size w w' := by
  by_cases h32 : c.toNat < 32
  · have hc : c = UInt8.ofNat c.toNat := by simp
    have hk : c.toNat = 0 ∨ c.toNat = 1 ∨ c.toNat = 2 ∨ c.toNat = 3 ∨ c.toNat = 4 ∨ c.toNat = 5 ∨ c.toNat = 6 ∨ c.toNat = 7 ∨ c.toNat = 8 ∨ c.toNat = 9 ∨ c.toNat = 10 ∨ c.toNat = 11 ∨ c.toNat = 12 ∨ c.toNat = 13 ∨ c.toNat = 14 ∨ c.toNat = 15 ∨ c.toNat = 16 ∨ c.toNat = 17 ∨ c.toNat = 18 ∨ c.toNat = 19 ∨ c.toNat = 20 ∨ c.toNat = 21 ∨ c.toNat = 22 ∨ c.toNat = 23 ∨ c.toNat = 24 ∨ c.toNat = 25 ∨ c.toNat = 26 ∨ c.toNat = 27 ∨ c.toNat = 28 ∨ c.toNat = 29 ∨ c.toNat = 30 ∨ c.toNat = 31 := by omega
    rcases hk with h | h | h | h | h | h | h | h | h | h | h | h | h | h | h | h | h | h | h | h | h | h | h | h | h | h | h | h | h | h | h | h
    · rw [h] at hc; subst hc; exact rsg_0 w
    · rw [h] at hc; subst hc; exact rsg_1 w
    · rw [h] at hc; subst hc; exact rsg_2 w
    · rw [h] at hc; subst hc; exact rsg_3 w
    · rw [h] at hc; subst hc; exact rsg_4 w
    · rw [h] at hc; subst hc; exact rsg_5 w
    · rw [h] at hc; subst hc; exact rsg_6 w
    · rw [h] at hc; subst hc; exact rsg_7 w
    · rw [h] at hc; subst hc; exact rsg_8 w
    · rw [h] at hc; subst hc; exact rsg_9 w
    · rw [h] at hc; subst hc; exact rsg_10 w
    · rw [h] at hc; subst hc; exact rsg_11 w
    · rw [h] at hc; subst hc; exact rsg_12 w
    · rw [h] at hc; subst hc; exact rsg_13 w
    · rw [h] at hc; subst hc; exact rsg_14 w
    · rw [h] at hc; subst hc; exact rsg_15 w
    · rw [h] at hc; subst hc; exact rsg_16 w
    · rw [h] at hc; subst hc; exact rsg_17 w
    · rw [h] at hc; subst hc; exact rsg_18 w
    · rw [h] at hc; subst hc; exact rsg_19 w
    · rw [h] at hc; subst hc; exact rsg_20 w
    · rw [h] at hc; subst hc; exact rsg_21 w
    · rw [h] at hc; subst hc; exact rsg_22 w
    · rw [h] at hc; subst hc; exact rsg_23 w
    · rw [h] at hc; subst hc; exact rsg_24 w
    · rw [h] at hc; subst hc; exact rsg_25 w
    · rw [h] at hc; subst hc; exact rsg_26 w
    · rw [h] at hc; subst hc; exact rsg_27 w
    · rw [h] at hc; subst hc; exact rsg_28 w
    · rw [h] at hc; subst hc; exact rsg_29 w
    · rw [h] at hc; subst hc; exact rsg_30 w
    · rw [h] at hc; subst hc; exact rsg_31 w
  · by_cases h34 : c = 34
    · subst h34; exact rsg_34 w
    · by_cases h92 : c = 92
      · subst h92; exact rsg_92 w
      · have e : sgnL c = [c] := by
          have hne : ∀ k : Nat, k < 32 → c ≠ UInt8.ofNat k := fun k hk e => by rw [e] at h32; simp at h32; omega
          unfold sgnL
          rw [if_neg (by simp [h34, h92]), if_neg (show c ≠ 8 from hne 8 (by omega)), if_neg (show c ≠ 9 from hne 9 (by omega)), if_neg (show c ≠ 10 from hne 10 (by omega)), if_neg (show c ≠ 12 from hne 12 (by omega)), if_neg (show c ≠ 13 from hne 13 (by omega)), if_neg h32]
        rw [e]
        exact rsg_else c w h34 h92 (by omega)

set_option maxRecDepth 4000 in
set_option maxHeartbeats 1000000 in
theorem rstrT (s : ByteArray) (w : World) (hs : s.size ≤ 1000000000) : Calls Tryz.prog 26 #[.string s] w fun e w' => e = .returned (.string ⟨(strT s.data.toList).toArray⟩) ∧ Below w.heap.size w w' := by
  obtain ⟨i0, hi0, hz0, hz1, hz2⟩ := info_parts u8infoJ
  have HI : Hid _ := hi0
  clear hi0
  go_enter Tryz.func26, Tryz.ntmps26
  go_wp2_with (refine wp_app1 rfl (.tmp 6) (.tmp 7) 38 rfl 5 i0 Tryz.underlying38 HI.out hz0 hz1 hz2 w.heap.size _ [] 34 w rfl (.inl ⟨rfl, rfl⟩) (Nat.le_refl _) (by simp) rfl ?_; intro v1 w1 ho1 hb1; have W1 : Hid (OwnB w.heap.size 5 v1 [34] w1) := ho1; have B1 : Hid _ := hb1; clear ho1 hb1)
  go_loopw [3, 4] (fun v i wr => ∃ j : Nat, j ≤ s.size ∧ i = .int .i64 (j : Int) ∧ OwnB w.heap.size 5 v (34 :: sgnsL (s.data.toList.take j)) wr ∧ Below w.heap.size w wr) (fun _ i _ => s.size - (intOf i).toNat)
  case atStart => exact ⟨0, by omega, rfl, by simpa [sgnsL] using W1.out, B1.out⟩
  case round =>
    clear W1 B1
    obtain ⟨j, hj, rfl, ho, hb⟩ := hrel
    have HO : Hid (OwnB w.heap.size 5 _ (34 :: sgnsL (s.data.toList.take j)) wr) := ho
    have HB : Hid (Below w.heap.size w wr) := hb
    have hlen : (sgnsL (s.data.toList.take j)).length ≤ 6 * j := Nat.le_trans (sgnsL_len _) (by simp; omega)
    have HLEN : Hid _ := hlen
    clear ho hb hlen
    by_cases hlt : j < s.size
    · have hlt' : (j : Int) < (s.size : Int) := by omega
      have hsg := rsign s[j]
      have HT : Hid (sgnsL (s.data.toList.take (j + 1)) = sgnsL (s.data.toList.take j) ++ sgnL s[j]) := by
        show sgnsL (s.data.toList.take (j + 1)) = sgnsL (s.data.toList.take j) ++ sgnL s[j]
        rw [List.take_succ_eq_append_getElem (by simpa using hlt), sgnsL_append]; simp [sgnsL]; rfl
      have HL6 : Hid _ := sgnL_len s[j]
      go_wp2_with fail
      refine (hsg _).mono ?_
      rintro e w2 ⟨rfl, b2⟩
      have hz2' : w.heap.size ≤ w2.heap.size := Nat.le_trans HB.out.size b2.size
      have B2 : Hid (Below w.heap.size w w2) := HB.out.trans ⟨b2.os, b2.tape, b2.output, b2.size, fun k hk => b2.block k (by have := HB.out.size; omega)⟩
      have W2 : Hid (OwnB w.heap.size 5 u3 (34 :: sgnsL (s.data.toList.take j)) w2) := HO.out.below b2 (Nat.le_refl _)
      clear hsg b2 HO HB
      go_wp2_with (refine wp_appS rfl (.tmp 19) (.tmp 20) 38 9 rfl 5 i0 Tryz.underlying38 Tryz.underlying9 HI.out hz0 hz1 hz2 w.heap.size _ (34 :: sgnsL (s.data.toList.take j)) ⟨(sgnL s[j]).toArray⟩ rfl rfl (by have := HLEN.out; have := HL6.out; show (34 :: sgnsL (s.data.toList.take j)).length + (sgnL s[j]).toArray.size ≤ 140737488355328; simp; omega) W2.out hz2' ?_; intro v3 w3 ho3 hb3; have W3 : Hid _ := ho3; have B3 : Hid _ := hb3; clear ho3 hb3)
      refine ⟨⟨j + 1, by omega, by go_num, ?_, B2.out.trans B3.out⟩, by simp [intOf]; omega⟩
      rw [HT.out]
      exact W3.out
    · obtain rfl : j = s.size := by omega
      have hbs := HB.out.size
      go_wp2_with (refine wp_app1 rfl (.tmp 22) (.tmp 23) 38 rfl 5 i0 Tryz.underlying38 HI.out hz0 hz1 hz2 w.heap.size _ (34 :: sgnsL (s.data.toList.take s.size)) 34 wr rfl HO.out hbs (by have := HLEN.out; simp; omega) rfl ?_; intro v3 w3 ho3 hb3; have hs3 := ho3.str (P := Tryz.prog) (t := 38) (d := 9) Tryz.underlying38 Tryz.underlying5 Tryz.underlying9; have B3 : Hid _ := hb3; clear ho3 hb3)
      go_ret
      refine ⟨?_, HB.out.trans B3.out⟩
      have e : s.data.toList.take s.size = s.data.toList := List.take_of_length_le (by simp)
      rw [e]; rfl
end Go.Proofs.YtgiaflcbiipafabGreatDoor
/-
  The document's way of writing numbers.
-/
namespace Go.Proofs.YtgiaflcbiipafabGreatDoor
open Go.RowKit
set_option linter.unusedVariables false

/-- A number's digits. -/
def decN (n : Nat) : List UInt8 := if h : n < 10 then [UInt8.ofNat (48 + n)] else decN (n / 10) ++ [UInt8.ofNat (48 + n % 10)]
termination_by n
decreasing_by omega
theorem decN_small (n : Nat) (h : n < 10) : decN n = [UInt8.ofNat (48 + n)] := by rw [decN, dif_pos h]
theorem decN_big (n : Nat) (h : 10 ≤ n) : decN n = decN (n / 10) ++ [UInt8.ofNat (48 + n % 10)] := by rw [decN, dif_neg (by omega)]
def decI (n : Int) : List UInt8 := if n < 0 then 45 :: decN (-n).toNat else decN n.toNat
theorem decN_len : ∀ (n k : Nat), n < 10 ^ k → (decN n).length ≤ k + 1 := by
  intro n k
  induction k generalizing n with
  | zero => intro h; rw [decN_small n (by simp at h; omega)]; simp
  | succ k ih =>
    intro h
    by_cases hn : n < 10
    · rw [decN_small n hn]; simp
    · rw [decN_big n (by omega), List.length_append]
      have := ih (n / 10) (by rw [Nat.pow_succ] at h; omega)
      simp; omega

section
attribute [local go_sem] conv1
set_option maxHeartbeats 400000 in
theorem rdecP (x : Int) (w : World) (c : UInt8) (h0 : 0 ≤ x) (h1 : x < 10) (hc : 48 + x = (c.toNat : Int)) : Calls Tryz.prog 25 #[.int .i64 x] w fun e w' => e = .returned (.string ⟨#[c]⟩) ∧ Below w.heap.size w w' := by
  have d0 : decide (x < 0) = false := by simp; omega
  go_enter Tryz.func25, Tryz.ntmps25
  go_wp2
  go_ret
  exact ⟨rfl, bal (brf _) _⟩

set_option maxHeartbeats 400000 in
theorem rdecPP (x y : Int) (w : World) (c : UInt8) (T : ByteArray) (h0 : 10 ≤ x) (h1 : x ≤ 9223372036854775807) (hy : x / 10 = y) (hc : 48 + x % 10 = (c.toNat : Int)) (hT : T.size ≤ 1000)
    (hr : ∀ w, Calls Tryz.prog 25 #[.int .i64 y] w fun e w' => e = .returned (.string T) ∧ Below w.heap.size w w') :
    Calls Tryz.prog 25 #[.int .i64 x] w fun e w' => e = .returned (.string (T ++ ⟨#[c]⟩)) ∧ Below w.heap.size w w' := by
  have d0 : decide (x < 0) = false := by simp; omega
  have d1 : decide (x < 10) = false := by simp; omega
  go_enter Tryz.func25, Tryz.ntmps25
  go_wp2_with fail
  refine (hr _).mono ?_
  rintro e w1 ⟨rfl, b1⟩
  have B1 : Hid (Below w.heap.size w w1) := b1
  clear b1 hr
  go_wp2
  go_ret
  exact ⟨rfl, (B1.out).alloc B1.out.size _⟩

set_option maxHeartbeats 400000 in
theorem rdecM (x : Int) (w : World) (c : UInt8) (h0 : -10 < x) (h1 : x < 0) (hc : 48 - x = (c.toNat : Int)) : Calls Tryz.prog 25 #[.int .i64 x] w fun e w' => e = .returned (.string ⟨#[45, c]⟩) ∧ Below w.heap.size w w' := by
  go_enter Tryz.func25, Tryz.ntmps25
  go_wp2
  go_ret
  exact ⟨rfl, bal (brf _) _⟩

set_option maxHeartbeats 400000 in
theorem rdecMM (x y : Int) (w : World) (c : UInt8) (T : ByteArray) (h0 : x ≤ -10) (h1 : -9223372036854775808 ≤ x) (hy : x.tdiv 10 = y) (hyb : -922337203685477580 ≤ y ∧ y ≤ 0) (z : Int) (hz : x.tmod 10 = z) (hzb : -10 < z ∧ z ≤ 0) (hc : 48 - z = (c.toNat : Int)) (hT : T.size ≤ 1000)
    (hr : ∀ w, Calls Tryz.prog 25 #[.int .i64 y] w fun e w' => e = .returned (.string T) ∧ Below w.heap.size w w') :
    Calls Tryz.prog 25 #[.int .i64 x] w fun e w' => e = .returned (.string (T ++ ⟨#[c]⟩)) ∧ Below w.heap.size w w' := by
  have d0 : x < 0 := by omega
  have d1 : decide (-10 < x) = false := by simp; omega
  obtain ⟨y1, y2⟩ := hyb
  obtain ⟨z1, z2⟩ := hzb
  go_enter Tryz.func25, Tryz.ntmps25
  go_wp2_with fail
  refine (hr _).mono ?_
  rintro e w1 ⟨rfl, b1⟩
  have B1 : Hid (Below w.heap.size w w1) := b1
  clear b1 hr
  go_wp2
  go_ret
  exact ⟨rfl, (B1.out).alloc B1.out.size _⟩
end

theorem arr_snoc (l : List UInt8) (c : UInt8) : (⟨l.toArray⟩ : ByteArray) ++ ⟨#[c]⟩ = ⟨(l ++ [c]).toArray⟩ := by
  apply ByteArray.ext
  rw [ByteArray.data_append]; simp
theorem decN_le {n : Nat} (h : n ≤ 9223372036854775808) : (decN n).length ≤ 20 := decN_len n 19 (by omega)

theorem rdec_nat : ∀ (m : Nat), m ≤ 9223372036854775807 → ∀ w, Calls Tryz.prog 25 #[.int .i64 (m : Int)] w fun e w' => e = .returned (.string ⟨(decN m).toArray⟩) ∧ Below w.heap.size w w' := by
  intro m
  induction m using Nat.strongRecOn with
  | ind m ih =>
    intro hm w
    by_cases h : m < 10
    · rw [decN_small m h]
      exact rdecP m w _ (by omega) (by omega) (byte_of _ (48 + m) (by omega) (by omega))
    · rw [decN_big m (by omega), ← arr_snoc]
      refine rdecPP m ((m / 10 : Nat) : Int) w _ _ (by omega) (by omega) (by omega) (byte_of _ (48 + m % 10) (by omega) (by omega)) ?_ (ih (m / 10) (by omega) (by omega))
      have := decN_le (n := m / 10) (by omega)
      show (decN (m / 10)).toArray.size ≤ 1000
      simp; omega
theorem rdec_neg : ∀ (m : Nat), 1 ≤ m → m ≤ 9223372036854775808 → ∀ w, Calls Tryz.prog 25 #[.int .i64 (-(m : Int))] w fun e w' => e = .returned (.string ⟨(45 :: decN m).toArray⟩) ∧ Below w.heap.size w w' := by
  intro m
  induction m using Nat.strongRecOn with
  | ind m ih =>
    intro h1 hm w
    by_cases h : m < 10
    · rw [decN_small m h]
      exact rdecM (-(m : Int)) w _ (by omega) (by omega) (byte_of _ (48 + m) (by omega) (by omega))
    · rw [decN_big m (by omega), ← List.cons_append, ← arr_snoc]
      have e1 : (-(m : Int)).tdiv 10 = -((m / 10 : Nat) : Int) := by rw [Int.neg_tdiv]; rfl
      have e2 : (-(m : Int)).tmod 10 = -((m % 10 : Nat) : Int) := by rw [Int.neg_tmod]; rfl
      refine rdecMM (-(m : Int)) (-((m / 10 : Nat) : Int)) w _ _ (by omega) (by omega) e1 (by omega) (-((m % 10 : Nat) : Int)) e2 (by omega) (byte_of _ (48 + m % 10) (by omega) (by omega)) ?_ (ih (m / 10) (by omega) (by omega) (by omega))
      have := decN_le (n := m / 10) (by omega)
      show (45 :: decN (m / 10)).toArray.size ≤ 1000
      simp; omega
/-- Decimal. -/
theorem rdecimal (n : Int) (h1 : -9223372036854775808 ≤ n) (h2 : n ≤ 9223372036854775807) (w : World) : Calls Tryz.prog 25 #[.int .i64 n] w fun e w' => e = .returned (.string ⟨(decI n).toArray⟩) ∧ Below w.heap.size w w' := by
  unfold decI
  by_cases h : n < 0
  · rw [if_pos h]
    have := rdec_neg (-n).toNat (by omega) (by omega) w
    rwa [show (-(((-n).toNat : Nat) : Int)) = n by omega] at this
  · rw [if_neg h]
    have := rdec_nat n.toNat (by omega) w
    rwa [show ((n.toNat : Nat) : Int) = n by omega] at this
end Go.Proofs.YtgiaflcbiipafabGreatDoor
