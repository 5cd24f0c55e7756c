/-
  The walk of digest.Same and of the law DigestSame.
-/
import Derived.Test.YtfihidnmgaiojaaProg
import Derived.WalkKit
import Derived.WalkSpells
import Derived.WalkLawsBesides
import Derived.Deep.QuietTactic
import Derived.BigQuiet
namespace Go.Proofs.Ytfihidnmgaiojaa
open Go.RowKit
set_option linter.unusedVariables false

theorem ret_bool {a b : Bool} (h : a = b) : Ending.returned (.bool a) = .returned (.bool b) := by rw [h]

theorem xor_zero_iff (c d : Nat) : c ^^^ d = 0 ↔ c = d :=
  ⟨fun h => by have h2 := congrArg (fun x => x ^^^ d) h; simpa [Nat.xor_assoc] using h2, fun h => by simp [h]⟩

theorem orx (q : Int) (c d : UInt8) (h0 : 0 ≤ q) (h1 : q ≤ 255) :
    0 ≤ bits .or .u8 q (bits .xor .u8 (c.toNat : Int) (d.toNat : Int)) ∧ bits .or .u8 q (bits .xor .u8 (c.toNat : Int) (d.toNat : Int)) ≤ 255 ∧
    (bits .or .u8 q (bits .xor .u8 (c.toNat : Int) (d.toNat : Int)) = 0 ↔ q = 0 ∧ c = d) := by
  obtain ⟨m, rfl⟩ := Int.eq_ofNat_of_zero_le h0
  have hc : c.toNat < 256 := c.toNat_lt
  have hd : d.toNat < 256 := d.toNat_lt
  have hx : c.toNat ^^^ d.toNat < 256 := Nat.xor_lt_two_pow (n := 8) hc hd
  rw [u8_xor_nat _ _ hc hd, u8_or_nat _ _ (by omega) hx]
  have ho : m ||| (c.toNat ^^^ d.toNat) < 256 := Nat.or_lt_two_pow (n := 8) (by omega) hx
  refine ⟨by omega, by omega, ?_⟩
  have e1 : ((m ||| (c.toNat ^^^ d.toNat) : Nat) : Int) = 0 ↔ m ||| (c.toNat ^^^ d.toNat) = 0 := by omega
  rw [e1, Nat.or_eq_zero_iff, xor_zero_iff]
  have e2 : (c.toNat = d.toNat) ↔ c = d := UInt8.toNat_inj
  rw [e2]
  have e3 : ((m : Int) = 0) ↔ m = 0 := by omega
  rw [e3]

theorem take_snoc (s : ByteArray) (k : Nat) (h : k < s.size) : s.data.toList.take (k + 1) = s.data.toList.take k ++ [s[k]] := by
  rw [List.take_succ_eq_append_getElem (by simpa using h)]; rfl

theorem snoc_inj (l m : List UInt8) (x y : UInt8) : l ++ [x] = m ++ [y] ↔ l = m ∧ x = y :=
  ⟨fun h => by have h2 := List.append_inj' h rfl; exact ⟨h2.1, by simpa using h2.2⟩, fun h => by rw [h.1, h.2]⟩

theorem eq_of_all (a b : ByteArray) (q : Int) (hs : a.size = b.size) (hq : q = 0 ↔ a.data.toList.take b.size = b.data.toList.take b.size) : (q == 0) = decide (a = b) := by
  rw [List.take_of_length_le (by simp; omega), List.take_of_length_le (by simp)] at hq
  have h1 : a.data.toList = b.data.toList ↔ a = b := ⟨fun h => by cases a; cases b; simp at h; simp [h], fun h => by rw [h]⟩
  rw [h1] at hq
  rw [Bool.eq_iff_iff]; simp [hq]

set_option maxHeartbeats 400000 in
theorem same_any (a b : ByteArray) (w : World) (ha : a.size ≤ maxLen) (hb : b.size ≤ maxLen) :
    Calls Try.prog 16 #[.string a, .string b] w fun e w' => e = .returned (.bool (decide (a = b))) ∧ ∃ n, w' = w.drewN n := by
  unfold maxLen at ha hb
  by_cases hs : a.size = b.size
  · go_enter Try.func16, Try.ntmps16
    go_wp2
    go_loopw [5, 14] (fun x i wr => ∃ (k n : Nat) (q : Int), k ≤ b.size ∧ i = .int .i64 k ∧ x = .int .u8 q ∧ 0 ≤ q ∧ q ≤ 255 ∧ (q = 0 ↔ a.data.toList.take k = b.data.toList.take k) ∧ wr = w.drewN n) (fun _ i _ => b.size - (intOf i).toNat)
    case atStart => exact ⟨0, 0, 0, Nat.zero_le _, rfl, rfl, by omega, by omega, by simp, rfl⟩
    case round =>
      obtain ⟨k, n, q, hk, rfl, rfl, hq0, hq1, hq, rfl⟩ := hrel
      by_cases hlt : k < b.size
      · have hlt' : k < a.size := by omega
        have HQ : Hid (q = 0 ↔ a.data.toList.take k = b.data.toList.take k) := hq
        have HS : Hid (a.size = b.size) := hs
        clear hq hs
        have ht : (k : Int) < (b.size : Int) := by omega
        have ht' : (k : Int) < (a.size : Int) := by omega
        go_wp2_with fail
        go_quiet (fail)
        go_wp2
        have hx := orx q a[k] b[k] hq0 hq1
        go_roundw
        case rel => exact ⟨k + 1, n + nq, _, by omega, by go_num, rfl, hx.1, hx.2.1, by rw [hx.2.2, take_snoc a k hlt', take_snoc b k hlt, HQ.out, snoc_inj], by simp⟩
        case measure => simp [intOf]; omega
      · have HQ : Hid (q = 0 ↔ a.data.toList.take k = b.data.toList.take k) := hq
        have HS : Hid (a.size = b.size) := hs
        clear hq hs
        go_wp2
        go_ret
        have hkb : k = b.size := by omega
        refine ⟨ret_bool (eq_of_all a b q HS.out (hkb ▸ HQ.out)), n, rfl⟩
  · have hne : a ≠ b := fun h => hs (by rw [h])
    go_enter Try.func16, Try.ntmps16
    go_wp2
    go_ret
    exact ⟨ret_bool (by simp [hne]), 0, rfl⟩

theorem same_yes (a : ByteArray) (w : World) (ha : a.size ≤ maxLen) :
    Calls Try.prog 16 #[.string a, .string a] w fun e w' => e = .returned (.bool true) ∧ ∃ n, w' = w.drewN n :=
  (same_any a a w ha ha).mono fun e w' ⟨he, hn⟩ => ⟨by rw [he]; simp, hn⟩

theorem same_no (a b : ByteArray) (w : World) (ha : a.size ≤ maxLen) (hb : b.size ≤ maxLen) (hne : a ≠ b) :
    Calls Try.prog 16 #[.string a, .string b] w fun e w' => e = .returned (.bool false) ∧ ∃ n, w' = w.drewN n :=
  (same_any a b w ha hb).mono fun e w' ⟨he, hn⟩ => ⟨by rw [he]; simp [hne], hn⟩
set_option maxHeartbeats 400000 in
theorem law_same (a b : ByteArray) (w : World) (ha : a.size ≤ maxLen) (hb : b.size ≤ maxLen) :
    Calls Try.prog 5 #[.string a, .string b] w fun e w' => e = .returned (.bool true) ∧ ∃ n, w' = w.drewN n := by
  by_cases hab : a = b
  · subst hab
    go_enter Try.func5, Try.ntmps5
    go_wp2_with fail
    refine (same_yes _ _ ha).mono ?_
    rintro e w1 ⟨rfl, n1, rfl⟩
    go_wp2_with fail
    refine (same_yes _ _ ha).mono ?_
    rintro e w1 ⟨rfl, n2, rfl⟩
    go_wp2_with fail
    refine (same_yes _ _ ha).mono ?_
    rintro e w1 ⟨rfl, n3, rfl⟩
    go_wp2_with fail
    go_ret
    exact ⟨rfl, n1 + n2 + n3, by simp⟩
  · have hl : (a.toList == b.toList) = false := by
      rw [beq_eq_false_iff_ne, ByteArray.toList_eq, ByteArray.toList_eq]
      intro h; exact hab (Go.WideShapes.bytes_inj h)
    go_enter Try.func5, Try.ntmps5
    go_wp2_with fail
    refine (same_no _ _ _ ha hb hab).mono ?_
    rintro e w1 ⟨rfl, n1, rfl⟩
    go_wp2_with fail
    refine (same_no _ _ _ hb ha (Ne.symm hab)).mono ?_
    rintro e w1 ⟨rfl, n2, rfl⟩
    go_wp2_with fail
    refine (same_yes _ _ ha).mono ?_
    rintro e w1 ⟨rfl, n3, rfl⟩
    go_wp2_with fail
    go_ret
    exact ⟨rfl, n1 + n2 + n3, by simp⟩
end Go.Proofs.Ytfihidnmgaiojaa
