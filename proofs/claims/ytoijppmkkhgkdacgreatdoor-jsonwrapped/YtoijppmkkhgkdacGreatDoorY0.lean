/-
  Joined by program: NSeq, NStr.
-/
import Derived.Test.YtoijppmkkhgkdacGreatDoorG21
import Derived.WalkSpells
/-
  Of the texts Bits, Buf, JSpec, JLex, JSeq what speaks of functions (walk.py).
-/
/-
  Words as bit vectors: 'eW x' is the number that a word is. What Go's operations on uint32 and uint64 do to it.
-/
namespace Go.Proofs.YtoijppmkkhgkdacGreatDoor
open Go.RowKit

end Go.Proofs.YtoijppmkkhgkdacGreatDoor

/-
  Bytes that a call gathers: a slice of its own, whatever lies behind its last byte; append of one byte; []byte of a string; string of such a slice.
-/
namespace Go.Proofs.YtoijppmkkhgkdacGreatDoor
open Go.RowKit
set_option linter.unusedVariables false

end Go.Proofs.YtoijppmkkhgkdacGreatDoor

/-
  JSON as the document says it, on lists of bytes: what a text is read as, or the first fault and its place.
-/
namespace Go.Proofs.YtoijppmkkhgkdacGreatDoor
set_option linter.unusedVariables false

end Go.Proofs.YtoijppmkkhgkdacGreatDoor

/-
  The document's reader of JSON: what looks at bytes alone.
-/
namespace Go.Proofs.YtoijppmkkhgkdacGreatDoor
open Go.RowKit
set_option linter.unusedVariables false

set_option maxHeartbeats 400000 in
theorem rdigit (c : UInt8) (w : World) : Calls Tryz.prog 34 #[.int .u8 (c.toNat : Int)] w fun e w' => e = .returned (.bool (isD c)) ∧ w' = w := by
  by_cases h1 : 48 ≤ c.toNat
  · have h1' : (48 : Int) ≤ (c.toNat : Int) := by omega
    by_cases h2 : c.toNat ≤ 57
    · have h2' : (c.toNat : Int) ≤ 57 := by omega
      go_enter Tryz.func34, Tryz.ntmps34
      go_wp2
      go_ret
      exact ⟨by simp [isD, h1, h2], rfl⟩
    · have h2' : (57 : Int) < (c.toNat : Int) := by omega
      go_enter Tryz.func34, Tryz.ntmps34
      go_wp2
      go_ret
      exact ⟨by simp [isD, h2]; omega, rfl⟩
  · have h1' : (c.toNat : Int) < 48 := by omega
    go_enter Tryz.func34, Tryz.ntmps34
    go_wp2
    go_ret
    exact ⟨by simp [isD, h1], rfl⟩

set_option maxHeartbeats 400000 in
theorem rgoes (s : ByteArray) (i k lo hi : Nat) (w : World) : Calls Tryz.prog 39 #[.string s, .int .i64 ((i : Int) + (k : Int)), .int .u8 (lo : Int), .int .u8 (hi : Int)] w
    fun e w' => e = .returned (.bool (goesL (sfx s i) k lo hi)) ∧ w' = w := by
  by_cases h : i + k < s.size
  · have h' : (i : Int) + (k : Int) < (s.size : Int) := by omega
    have hg := sfx_get s i k h
    have HG : Hid _ := hg
    clear hg
    by_cases h1 : lo ≤ s[i + k].toNat
    · have h1' : (lo : Int) ≤ (s[i + k].toNat : Int) := by omega
      by_cases h2 : s[i + k].toNat ≤ hi
      · have h2' : (s[i + k].toNat : Int) ≤ (hi : Int) := by omega
        go_enter Tryz.func39, Tryz.ntmps39
        go_wp2
        go_ret
        exact ⟨by rw [goesL, HG.out]; simp [h1, h2], rfl⟩
      · have h2' : (hi : Int) < (s[i + k].toNat : Int) := by omega
        go_enter Tryz.func39, Tryz.ntmps39
        go_wp2
        go_ret
        exact ⟨by rw [goesL, HG.out]; simp [h2], rfl⟩
    · have h1' : (s[i + k].toNat : Int) < (lo : Int) := by omega
      go_enter Tryz.func39, Tryz.ntmps39
      go_wp2
      go_ret
      exact ⟨by rw [goesL, HG.out]; simp [h1], rfl⟩
  · have h' : (s.size : Int) ≤ (i : Int) + (k : Int) := by omega
    have hg := sfx_get_none s i k (by omega)
    have HG : Hid _ := hg
    clear hg
    go_enter Tryz.func39, Tryz.ntmps39
    go_wp2
    go_ret
    exact ⟨by rw [goesL, HG.out]; simp, rfl⟩

set_option maxHeartbeats 400000 in
theorem rhex (c : UInt8) (w : World) : Calls Tryz.prog 94 #[.int .u8 (c.toNat : Int)] w
    fun e w' => e = .returned (.int .i64 (optI (hexv c))) ∧ w' = w := by
  have hd := rdigit c
  by_cases h0 : 48 ≤ c.toNat ∧ c.toNat ≤ 57
  · have e0 : isD c = true := by simp [isD, h0]
    have ev : hexv c = some (c.toNat - 48) := by simp [hexv, h0]
    rw [e0] at hd
    rw [ev, optI_some]
    obtain ⟨h1, h2⟩ := h0
    clear e0 ev
    go_enter Tryz.func94, Tryz.ntmps94
    go_wp2_with fail
    refine (hd _).mono ?_
    rintro e w1 ⟨rfl, hw1⟩
    rw [hw1]; clear hw1 w1
    go_wp2
    go_ret
    exact ⟨ret_int (by omega), rfl⟩
  · have e0 : isD c = false := by simp [isD]; omega
    rw [e0] at hd
    clear e0
    by_cases h1 : 65 ≤ c.toNat ∧ c.toNat ≤ 70
    · have ev : hexv c = some (c.toNat - 55) := by simp [hexv, h0, h1]
      rw [ev, optI_some]
      obtain ⟨h1, h2⟩ := h1
      have h1' : (65 : Int) ≤ (c.toNat : Int) := by omega
      have h2' : (c.toNat : Int) ≤ 70 := by omega
      clear ev h0
      go_enter Tryz.func94, Tryz.ntmps94
      go_wp2_with fail
      refine (hd _).mono ?_
      rintro e w1 ⟨rfl, hw1⟩
      rw [hw1]; clear hw1 w1
      go_wp2
      go_ret
      exact ⟨ret_int (by omega), rfl⟩
    · by_cases h2 : 97 ≤ c.toNat ∧ c.toNat ≤ 102
      · have ev : hexv c = some (c.toNat - 87) := by simp [hexv, h0, h1, h2]
        rw [ev, optI_some]
        obtain ⟨h3, h4⟩ := h2
        have h1' : (97 : Int) ≤ (c.toNat : Int) := by omega
        have h2' : (c.toNat : Int) ≤ 102 := by omega
        have h5' : (70 : Int) < (c.toNat : Int) := by omega
        have h6' : (65 : Int) ≤ (c.toNat : Int) := by omega
        clear ev h0 h1
        go_enter Tryz.func94, Tryz.ntmps94
        go_wp2_with fail
        refine (hd _).mono ?_
        rintro e w1 ⟨rfl, hw1⟩
        rw [hw1]; clear hw1 w1
        go_wp2
        go_ret
        exact ⟨ret_int (by omega), rfl⟩
      · have ev : hexv c = none := by simp [hexv, h0, h1, h2]
        rw [ev, optI_none]
        clear ev
        have hq : c.toNat < 65 ∨ (70 < c.toNat ∧ c.toNat < 97) ∨ 102 < c.toNat := by omega
        clear h0 h1 h2
        rcases hq with h | ⟨h, h'⟩ | h
        all_goals
          go_enter Tryz.func94, Tryz.ntmps94
          go_wp2_with fail
          refine (hd _).mono ?_
          rintro e w1 ⟨rfl, hw1⟩
          rw [hw1]; clear hw1 w1
          go_wp2
          all_goals go_ret
          all_goals exact ⟨rfl, rfl⟩

set_option maxHeartbeats 400000 in
theorem rfour (s : ByteArray) (i : Nat) (w : World) (hi : i ≤ 140737488355328) : Calls Tryz.prog 66 #[.string s, .int .i64 (i : Int)] w
    fun e w' => e = .returned (.tuple #[.int .i64 (optI (four4 (sfx s i)).1), .int .i64 ((i + (four4 (sfx s i)).2 : Nat) : Int)]) ∧ w' = w := by
  go_enter Tryz.func66, Tryz.ntmps66
  go_wp2_with fail
  go_loopw [6, 7] (fun n k wr => ∃ j m : Nat, j ≤ 4 ∧ n = .int .i64 (m : Int) ∧ m < 16 ^ j ∧ k = .int .i64 ((i + j : Nat) : Int) ∧ four4 (sfx s i) = fourG (4 - j) m (sfx s (i + j)) j ∧ wr = w) (fun _ k _ => i + 4 - (intOf k).toNat)
  case atStart => exact ⟨0, 0, by omega, rfl, by decide, rfl, rfl, rfl⟩
  case round =>
    obtain ⟨j, m, hj, rfl, hm, rfl, hf, hwr⟩ := hrel
    rw [hwr]
    clear hwr wr
    have HF : Hid (four4 (sfx s i) = fourG (4 - j) m (sfx s (i + j)) j) := hf
    clear hf
    have hm4 : m < 65536 := Nat.lt_of_lt_of_le hm (show 16 ^ j ≤ 16 ^ 4 from Nat.pow_le_pow_right (by omega) hj)
    generalize hk : i + j = k
    have HK : Hid (i + j = k) := hk
    by_cases hj4 : j < 4
    · have hj4' : (k : Int) < (i : Int) + 4 := by omega
      by_cases hs : k < s.size
      · have hs' : (k : Int) < (s.size : Int) := by omega
        have hx := rhex s[k]
        have hc := sfx_cons s k hs
        have e4 : 4 - j = (3 - j) + 1 := by omega
        have hf2 := HF.out
        rw [hk, hc, e4, fourG] at hf2
        cases hv : hexv s[k] with
        | none =>
          rw [hv, optI_none] at hx
          rw [hv] at hf2
          have HF2 : Hid _ := hf2
          clear hf2 hv hc hk e4
          go_wp2_with fail
          refine (hx _).mono ?_
          rintro e w1 ⟨rfl, hw1⟩
          rw [hw1]; clear hw1 w1 hx
          go_wp2
          go_ret2
          exact ⟨by rw [HF2.out, HK.out]; rfl, rfl⟩
        | some d =>
          rw [hv, optI_some] at hx
          rw [hv] at hf2
          have hd16 : d < 16 := by
            unfold hexv at hv
            split at hv
            · injection hv with hv; omega
            · split at hv
              · injection hv with hv; omega
              · split at hv
                · injection hv with hv; omega
                · cases hv
          have HF2 : Hid _ := hf2
          clear hf2 hv hc hk e4
          go_wp2_with fail
          refine (hx _).mono ?_
          rintro e w1 ⟨rfl, hw1⟩
          rw [hw1]; clear hw1 w1 hx
          go_wp2
          refine ⟨⟨j + 1, 16 * m + d, by omega, by go_num, ?_, congrArg (Value.int .i64) (by have := HK.out; omega), ?_, trivial⟩, by simp [intOf]; omega⟩
          · rw [Nat.pow_succ]; omega
          · rw [HF2.out, ← Nat.add_assoc, HK.out, show 4 - (j + 1) = 3 - j by omega]
      · have hs' : (s.size : Int) ≤ (k : Int) := by omega
        have hf2 := HF.out
        rw [hk, sfx_nil s k (by omega), show 4 - j = (3 - j) + 1 by omega, fourG] at hf2
        have HF2 : Hid _ := hf2
        clear hf2 hk
        go_wp2
        go_ret2
        exact ⟨by rw [HF2.out, HK.out]; rfl, rfl⟩
    · have hj4' : (i : Int) + 4 ≤ (k : Int) := by omega
      have hf2 := HF.out
      rw [show 4 - j = 0 by omega, fourG] at hf2
      have HF2 : Hid _ := hf2
      clear hf2 hk
      go_wp2
      go_ret2
      refine ⟨?_, rfl⟩
      rw [HF2.out]
      have : i + j = i + 4 := by have := HK.out; omega
      rw [this]; rfl

set_option maxHeartbeats 400000 in
theorem rlow (s : ByteArray) (i : Nat) (w : World) (hi : i ≤ 140737488355000) : Calls Tryz.prog 96 #[.string s, .int .i64 (i : Int)] w
    fun e w' => e = .returned (.int .i64 (optI (lowL (sfx s i)))) ∧ w' = w := by
  by_cases h0 : i + 1 < s.size
  · have h0' : (i : Int) + 1 < (s.size : Int) := by omega
    have h1' : (i : Int) < (s.size : Int) := by omega
    have h0b : decide ((s.size : Int) ≤ (i : Int) + 1) = false := by simp; omega
    have hi0 : i < s.size := by omega
    have hc : sfx s i = s[i] :: s[i + 1] :: sfx s (i + 2) := by rw [sfx_cons s i hi0, sfx_cons s (i + 1) h0]
    by_cases ha : s[i] = 92
    · have hA : ((s[i].toNat : Int) != 92) = false := by rw [ha]; rfl
      by_cases hb : s[i + 1] = 117
      · have hl : lowL (sfx s i) = lowN (four4 (sfx s (i + 2))).1 := by rw [hc, lowL, if_pos ⟨ha, hb⟩]; rfl
        have hB : ((s[i + 1].toNat : Int) != 117) = false := by rw [hb]; rfl
        have hf := fun w => rfour s (i + 2) w (by omega)
        rw [hl]
        generalize (four4 (sfx s (i + 2))).1 = F1 at hf
        generalize i + 2 + (four4 (sfx s (i + 2))).2 = F2 at hf
        have hX : (optI F1 < 56320 ∧ optI (lowN F1) = -1) ∨ (57343 < optI F1 ∧ optI (lowN F1) = -1) ∨ (56320 ≤ optI F1 ∧ optI F1 ≤ 57343 ∧ optI (lowN F1) = optI F1) := by
          match F1 with
          | none => left; exact ⟨by rw [optI_none]; omega, rfl⟩
          | some n =>
            rw [optI_some]
            by_cases h5 : 56320 ≤ n
            · by_cases h6 : n ≤ 57343
              · right; right; exact ⟨by omega, by omega, by simp [lowN, h5, h6, optI]⟩
              · right; left; exact ⟨by omega, by simp [lowN, h6, optI]⟩
            · left; exact ⟨by omega, by simp [lowN, h5, optI]⟩
        generalize optI F1 = X at hX hf
        clear hl hc ha hb
        rcases hX with ⟨hX, he⟩ | ⟨hX, he⟩ | ⟨hX, hX2, he⟩
        all_goals
          rw [he]
          clear he
          go_enter Tryz.func96, Tryz.ntmps96
          go_wp2_with fail
          refine (hf _).mono ?_
          rintro e w1 ⟨rfl, hw1⟩
          rw [hw1]; clear hw1 w1 hf
          go_wp2
          all_goals go_ret
          all_goals exact ⟨rfl, rfl⟩
      · have hl : lowL (sfx s i) = none := by rw [hc, lowL, if_neg (fun h => hb h.2)]
        have hB : ((s[i + 1].toNat : Int) != 117) = true := u8_bne (k := 117) (by omega) hb
        rw [hl, optI_none]
        clear hl hc ha hb
        go_enter Tryz.func96, Tryz.ntmps96
        go_wp2
        go_ret
        exact ⟨rfl, rfl⟩
    · have hl : lowL (sfx s i) = none := by rw [hc, lowL, if_neg (fun h => ha h.1)]
      have hA : ((s[i].toNat : Int) != 92) = true := u8_bne (k := 92) (by omega) ha
      rw [hl, optI_none]
      clear hl hc ha
      go_enter Tryz.func96, Tryz.ntmps96
      go_wp2
      go_ret
      exact ⟨rfl, rfl⟩
  · have h0' : (s.size : Int) ≤ (i : Int) + 1 := by omega
    have hl : lowL (sfx s i) = none := by
      have := sfx_length s i
      match hs : sfx s i with
      | [] => rfl
      | [_] => rfl
      | _ :: _ :: _ => rw [hs] at this; simp at this; omega
    rw [hl, optI_none]
    clear hl
    go_enter Tryz.func96, Tryz.ntmps96
    go_wp2
    go_ret
    exact ⟨rfl, rfl⟩

section
attribute [local go_sem] conv1 conv2 conv3 conv4
set_option maxHeartbeats 400000 in
theorem rwr1 (x : Int) (w : World) (c1 : UInt8) (h0 : 0 ≤ x) (h1 : x < 128) (e1 : x = (c1.toNat : Int)) : Calls Tryz.prog 95 #[.int .i64 x] w
    fun e w' => e = .returned (.string ⟨#[c1]⟩) ∧ Below w.heap.size w w' := by
  subst e1
  go_enter Tryz.func95, Tryz.ntmps95
  go_wp2
  go_ret
  exact ⟨rfl, bal (brf _) _⟩
set_option maxHeartbeats 400000 in
theorem rwr2 (x : Int) (w : World) (c1 c2 : UInt8) (h0 : 128 ≤ x) (h1 : x < 2048) (e1 : 192 + x / 64 = (c1.toNat : Int)) (e2 : 128 + x % 64 = (c2.toNat : Int)) : Calls Tryz.prog 95 #[.int .i64 x] w
    fun e w' => e = .returned (.string ⟨#[c1, c2]⟩) ∧ Below w.heap.size w w' := by
  have a0 : decide (x < 128) = false := by simp; omega
  go_enter Tryz.func95, Tryz.ntmps95
  go_wp2
  go_ret
  exact ⟨rfl, bal (brf _) _⟩
set_option maxHeartbeats 400000 in
theorem rwr3 (x : Int) (w : World) (c1 c2 c3 : UInt8) (h0 : 2048 ≤ x) (h1 : x < 65536) (e1 : 224 + x / 4096 = (c1.toNat : Int)) (e2 : 128 + x / 64 % 64 = (c2.toNat : Int)) (e3 : 128 + x % 64 = (c3.toNat : Int)) : Calls Tryz.prog 95 #[.int .i64 x] w
    fun e w' => e = .returned (.string ⟨#[c1, c2, c3]⟩) ∧ Below w.heap.size w w' := by
  have a0 : decide (x < 128) = false := by simp; omega
  have a1 : decide (x < 2048) = false := by simp; omega
  go_enter Tryz.func95, Tryz.ntmps95
  go_wp2
  go_ret
  exact ⟨rfl, bal (brf _) _⟩
set_option maxHeartbeats 400000 in
theorem rwr4 (x : Int) (w : World) (c1 c2 c3 c4 : UInt8) (h0 : 65536 ≤ x) (h1 : x < 1114112) (e1 : 240 + x / 262144 = (c1.toNat : Int)) (e2 : 128 + x / 4096 % 64 = (c2.toNat : Int)) (e3 : 128 + x / 64 % 64 = (c3.toNat : Int)) (e4 : 128 + x % 64 = (c4.toNat : Int)) :
    Calls Tryz.prog 95 #[.int .i64 x] w
    fun e w' => e = .returned (.string ⟨#[c1, c2, c3, c4]⟩) ∧ Below w.heap.size w w' := by
  have a0 : decide (x < 128) = false := by simp; omega
  have a1 : decide (x < 2048) = false := by simp; omega
  have a2 : decide (x < 65536) = false := by simp; omega
  go_enter Tryz.func95, Tryz.ntmps95
  go_wp2
  go_ret
  exact ⟨rfl, bal (brf _) _⟩

theorem rwritten (n : Nat) (w : World) (hn : n < 1114112) : Calls Tryz.prog 95 #[.int .i64 (n : Int)] w
    fun e w' => e = .returned (.string ⟨(wr8 n).toArray⟩) ∧ Below w.heap.size w w' := by
  by_cases h1 : n < 128
  · have hw : wr8 n = [UInt8.ofNat n] := by simp [wr8, h1]
    rw [hw]
    exact rwr1 n w _ (by omega) (by omega) (byte_of _ n rfl (by omega))
  · by_cases h2 : n < 2048
    · have hw : wr8 n = [UInt8.ofNat (192 + n / 64), UInt8.ofNat (128 + n % 64)] := by simp [wr8, h1, h2]
      rw [hw]
      exact rwr2 n w _ _ (by omega) (by omega) (byte_of _ (192 + n / 64) (by omega) (by omega)) (byte_of _ (128 + n % 64) (by omega) (by omega))
    · by_cases h3 : n < 65536
      · have hw : wr8 n = [UInt8.ofNat (224 + n / 4096), UInt8.ofNat (128 + n / 64 % 64), UInt8.ofNat (128 + n % 64)] := by simp [wr8, h1, h2, h3]
        rw [hw]
        exact rwr3 n w _ _ _ (by omega) (by omega) (byte_of _ (224 + n / 4096) (by omega) (by omega)) (byte_of _ (128 + n / 64 % 64) (by omega) (by omega)) (byte_of _ (128 + n % 64) (by omega) (by omega))
      · have hw : wr8 n = [UInt8.ofNat (240 + n / 262144), UInt8.ofNat (128 + n / 4096 % 64), UInt8.ofNat (128 + n / 64 % 64), UInt8.ofNat (128 + n % 64)] := by simp [wr8, h1, h2, h3]
        rw [hw]
        exact rwr4 n w _ _ _ _ (by omega) (by omega) (byte_of _ (240 + n / 262144) (by omega) (by omega)) (byte_of _ (128 + n / 4096 % 64) (by omega) (by omega)) (byte_of _ (128 + n / 64 % 64) (by omega) (by omega)) (byte_of _ (128 + n % 64) (by omega) (by omega))
end
end Go.Proofs.YtoijppmkkhgkdacGreatDoor

/-
  notaryref.sequence, RightText.
-/
namespace Go.Proofs.YtoijppmkkhgkdacGreatDoor
open Go.RowKit
set_option linter.unusedVariables false

set_option maxHeartbeats 1000000 in
theorem rsequence (s : ByteArray) (i : Nat) (w : World) (hi : i < s.size) (hs : s.size ≤ 140737488351232) : Calls Tryz.prog 20 #[.string s, .int .i64 (i : Int)] w
    fun e w' => e = .returned (.int .i64 (seqLen (sfx s i) : Int)) ∧ w' = w := by
  have hi' : (i : Int) < (s.size : Int) := by omega
  have hl : seqLen (sfx s i) = if s[i].toNat < 128 then 1 else if s[i].toNat < 194 ∨ 244 < s[i].toNat then 0 else if okS (sfx s i) (seqLo s[i].toNat) (seqHi s[i].toNat) (seqN s[i].toNat) = true then seqN s[i].toNat else 0 := by
    rw [sfx_cons s i hi]; rfl
  by_cases h1 : s[i].toNat < 128
  · rw [hl, if_pos h1]
    have h1' : (s[i].toNat : Int) < 128 := by omega
    clear hl h1
    go_enter Tryz.func20, Tryz.ntmps20
    go_wp2
    go_ret
    exact ⟨rfl, rfl⟩
  · have a1 : decide ((s[i].toNat : Int) < 128) = false := by simp; omega
    by_cases h2 : s[i].toNat < 194 ∨ 244 < s[i].toNat
    · rw [hl, if_neg h1, if_pos h2]
      clear hl
      by_cases h3 : s[i].toNat < 194
      · have h3' : (s[i].toNat : Int) < 194 := by omega
        clear h1 h2 h3
        go_enter Tryz.func20, Tryz.ntmps20
        go_wp2
        go_ret
        exact ⟨rfl, rfl⟩
      · have h3' : (244 : Int) < (s[i].toNat : Int) := by omega
        have a2 : decide ((s[i].toNat : Int) < 194) = false := by simp; omega
        clear h1 h2 h3
        go_enter Tryz.func20, Tryz.ntmps20
        go_wp2
        go_ret
        exact ⟨rfl, rfl⟩
    · rw [hl, if_neg h1, if_neg h2]
      have a2 : decide ((s[i].toNat : Int) < 194) = false := by simp; omega
      have a3 : decide ((244 : Int) < (s[i].toNat : Int)) = false := by simp; omega
      have hg := fun k lo hi w => rgoes s i k lo hi w
      have hk := seq_kinds s[i].toNat (by omega) (by omega)
      clear hl h1 h2
      rcases hk with ⟨h, n1, n2, n3⟩ | ⟨h, n1, n2, n3⟩ | ⟨h, n1, n2, n3⟩ | ⟨h, h', h'', n1, n2, n3⟩ | ⟨h, n1, n2, n3⟩ | ⟨h, n1, n2, n3⟩ | ⟨h, h', n1, n2, n3⟩
      · rw [n1, n2, n3]
        have b1 : decide ((224 : Int) ≤ (s[i].toNat : Int)) = false := by simp; omega
        have b2 : decide ((240 : Int) ≤ (s[i].toNat : Int)) = false := by simp; omega
        have c1 : ((s[i].toNat : Int) == 224) = false := by simp; omega
        have c2 : ((s[i].toNat : Int) == 237) = false := by simp; omega
        have c3 : ((s[i].toNat : Int) == 240) = false := by simp; omega
        have c4 : ((s[i].toNat : Int) == 244) = false := by simp; omega
        clear h
        clear n1 n2 n3
        generalize hR : (if okS (sfx s i) 128 191 2 = true then 2 else 0) = R
        have HR : Hid _ := hR
        clear hR
        go_enter Tryz.func20, Tryz.ntmps20
        go_wp2_with fail
        refine (hg 1 128 191 _).mono ?_
        rintro e w1 ⟨rfl, hw1⟩
        rw [hw1]; clear hw1 w1
        rw [← okS2]
        go_wp2_with fail
        go_loopw [9, 10] (fun ok k wr => ∃ j : Nat, 2 ≤ j ∧ j ≤ 2 ∧ k = .int .i64 (j : Int) ∧ ok = .bool (okS (sfx s i) 128 191 j) ∧ wr = w) (fun _ k _ => 4 - (intOf k).toNat)
        case atStart => exact ⟨2, by omega, by omega, rfl, rfl, rfl⟩
        case round =>
          obtain ⟨j, hj2, hjn, rfl, rfl, hwr⟩ := hrel
          rw [hwr]; clear hwr wr
          by_cases hlt : j < 2
          · have hlt' : (j : Int) < 2 := by omega
            have e1 := okS_succ (sfx s i) 128 191 j hj2 (by omega)
            generalize hb : okS (sfx s i) 128 191 j = b at e1
            have HE : Hid _ := e1
            clear e1 hb
            cases b
            all_goals
              go_wp2_with fail
              refine (hg j 128 191 _).mono ?_
              rintro e w1 ⟨rfl, hw1⟩
              rw [hw1]; clear hw1 w1
              go_wp2
              exact ⟨⟨j + 1, by omega, by omega, by go_num, by rw [HE.out]; simp, trivial⟩, by simp [intOf]; omega⟩
          · have hlt' : (2 : Int) ≤ (j : Int) := by omega
            have hjN : j = 2 := by omega
            have HJ : Hid (j = 2) := hjN
            clear hjN
            generalize hb : okS (sfx s i) 128 191 j = b
            have HB : Hid (okS (sfx s i) 128 191 j = b) := hb
            clear hb
            clear hj2 hjn hlt hg a1 a2 a3 b1 b2 c1 c2 c3 c4
            cases b
            · go_wp2
              go_ret
              refine ⟨ret_int ?_, rfl⟩
              have e := HB.out
              rw [HJ.out] at e
              rw [← HR.out, e]; rfl
            · go_wp2
              go_ret
              refine ⟨ret_int ?_, rfl⟩
              have e := HB.out
              rw [HJ.out] at e
              rw [← HR.out, e]; rfl
      · rw [n1, n2, n3]
        have b1 : decide ((224 : Int) ≤ (s[i].toNat : Int)) = true := by simp; omega
        have b2 : decide ((240 : Int) ≤ (s[i].toNat : Int)) = false := by simp; omega
        have c1 : ((s[i].toNat : Int) == 224) = true := by simp; omega
        have c2 : ((s[i].toNat : Int) == 237) = false := by simp; omega
        have c3 : ((s[i].toNat : Int) == 240) = false := by simp; omega
        have c4 : ((s[i].toNat : Int) == 244) = false := by simp; omega
        clear h
        clear n1 n2 n3
        generalize hR : (if okS (sfx s i) 160 191 3 = true then 3 else 0) = R
        have HR : Hid _ := hR
        clear hR
        go_enter Tryz.func20, Tryz.ntmps20
        go_wp2_with fail
        refine (hg 1 160 191 _).mono ?_
        rintro e w1 ⟨rfl, hw1⟩
        rw [hw1]; clear hw1 w1
        rw [← okS2]
        go_wp2_with fail
        go_loopw [9, 10] (fun ok k wr => ∃ j : Nat, 2 ≤ j ∧ j ≤ 3 ∧ k = .int .i64 (j : Int) ∧ ok = .bool (okS (sfx s i) 160 191 j) ∧ wr = w) (fun _ k _ => 4 - (intOf k).toNat)
        case atStart => exact ⟨2, by omega, by omega, rfl, rfl, rfl⟩
        case round =>
          obtain ⟨j, hj2, hjn, rfl, rfl, hwr⟩ := hrel
          rw [hwr]; clear hwr wr
          by_cases hlt : j < 3
          · have hlt' : (j : Int) < 3 := by omega
            have e1 := okS_succ (sfx s i) 160 191 j hj2 (by omega)
            generalize hb : okS (sfx s i) 160 191 j = b at e1
            have HE : Hid _ := e1
            clear e1 hb
            cases b
            all_goals
              go_wp2_with fail
              refine (hg j 128 191 _).mono ?_
              rintro e w1 ⟨rfl, hw1⟩
              rw [hw1]; clear hw1 w1
              go_wp2
              exact ⟨⟨j + 1, by omega, by omega, by go_num, by rw [HE.out]; simp, trivial⟩, by simp [intOf]; omega⟩
          · have hlt' : (3 : Int) ≤ (j : Int) := by omega
            have hjN : j = 3 := by omega
            have HJ : Hid (j = 3) := hjN
            clear hjN
            generalize hb : okS (sfx s i) 160 191 j = b
            have HB : Hid (okS (sfx s i) 160 191 j = b) := hb
            clear hb
            clear hj2 hjn hlt hg a1 a2 a3 b1 b2 c1 c2 c3 c4
            cases b
            · go_wp2
              go_ret
              refine ⟨ret_int ?_, rfl⟩
              have e := HB.out
              rw [HJ.out] at e
              rw [← HR.out, e]; rfl
            · go_wp2
              go_ret
              refine ⟨ret_int ?_, rfl⟩
              have e := HB.out
              rw [HJ.out] at e
              rw [← HR.out, e]; rfl
      · rw [n1, n2, n3]
        have b1 : decide ((224 : Int) ≤ (s[i].toNat : Int)) = true := by simp; omega
        have b2 : decide ((240 : Int) ≤ (s[i].toNat : Int)) = false := by simp; omega
        have c1 : ((s[i].toNat : Int) == 224) = false := by simp; omega
        have c2 : ((s[i].toNat : Int) == 237) = true := by simp; omega
        have c3 : ((s[i].toNat : Int) == 240) = false := by simp; omega
        have c4 : ((s[i].toNat : Int) == 244) = false := by simp; omega
        clear h
        clear n1 n2 n3
        generalize hR : (if okS (sfx s i) 128 159 3 = true then 3 else 0) = R
        have HR : Hid _ := hR
        clear hR
        go_enter Tryz.func20, Tryz.ntmps20
        go_wp2_with fail
        refine (hg 1 128 159 _).mono ?_
        rintro e w1 ⟨rfl, hw1⟩
        rw [hw1]; clear hw1 w1
        rw [← okS2]
        go_wp2_with fail
        go_loopw [9, 10] (fun ok k wr => ∃ j : Nat, 2 ≤ j ∧ j ≤ 3 ∧ k = .int .i64 (j : Int) ∧ ok = .bool (okS (sfx s i) 128 159 j) ∧ wr = w) (fun _ k _ => 4 - (intOf k).toNat)
        case atStart => exact ⟨2, by omega, by omega, rfl, rfl, rfl⟩
        case round =>
          obtain ⟨j, hj2, hjn, rfl, rfl, hwr⟩ := hrel
          rw [hwr]; clear hwr wr
          by_cases hlt : j < 3
          · have hlt' : (j : Int) < 3 := by omega
            have e1 := okS_succ (sfx s i) 128 159 j hj2 (by omega)
            generalize hb : okS (sfx s i) 128 159 j = b at e1
            have HE : Hid _ := e1
            clear e1 hb
            cases b
            all_goals
              go_wp2_with fail
              refine (hg j 128 191 _).mono ?_
              rintro e w1 ⟨rfl, hw1⟩
              rw [hw1]; clear hw1 w1
              go_wp2
              exact ⟨⟨j + 1, by omega, by omega, by go_num, by rw [HE.out]; simp, trivial⟩, by simp [intOf]; omega⟩
          · have hlt' : (3 : Int) ≤ (j : Int) := by omega
            have hjN : j = 3 := by omega
            have HJ : Hid (j = 3) := hjN
            clear hjN
            generalize hb : okS (sfx s i) 128 159 j = b
            have HB : Hid (okS (sfx s i) 128 159 j = b) := hb
            clear hb
            clear hj2 hjn hlt hg a1 a2 a3 b1 b2 c1 c2 c3 c4
            cases b
            · go_wp2
              go_ret
              refine ⟨ret_int ?_, rfl⟩
              have e := HB.out
              rw [HJ.out] at e
              rw [← HR.out, e]; rfl
            · go_wp2
              go_ret
              refine ⟨ret_int ?_, rfl⟩
              have e := HB.out
              rw [HJ.out] at e
              rw [← HR.out, e]; rfl
      · rw [n1, n2, n3]
        have b1 : decide ((224 : Int) ≤ (s[i].toNat : Int)) = true := by simp; omega
        have b2 : decide ((240 : Int) ≤ (s[i].toNat : Int)) = false := by simp; omega
        have c1 : ((s[i].toNat : Int) == 224) = false := by simp; omega
        have c2 : ((s[i].toNat : Int) == 237) = false := by simp; omega
        have c3 : ((s[i].toNat : Int) == 240) = false := by simp; omega
        have c4 : ((s[i].toNat : Int) == 244) = false := by simp; omega
        clear h h' h''
        clear n1 n2 n3
        generalize hR : (if okS (sfx s i) 128 191 3 = true then 3 else 0) = R
        have HR : Hid _ := hR
        clear hR
        go_enter Tryz.func20, Tryz.ntmps20
        go_wp2_with fail
        refine (hg 1 128 191 _).mono ?_
        rintro e w1 ⟨rfl, hw1⟩
        rw [hw1]; clear hw1 w1
        rw [← okS2]
        go_wp2_with fail
        go_loopw [9, 10] (fun ok k wr => ∃ j : Nat, 2 ≤ j ∧ j ≤ 3 ∧ k = .int .i64 (j : Int) ∧ ok = .bool (okS (sfx s i) 128 191 j) ∧ wr = w) (fun _ k _ => 4 - (intOf k).toNat)
        case atStart => exact ⟨2, by omega, by omega, rfl, rfl, rfl⟩
        case round =>
          obtain ⟨j, hj2, hjn, rfl, rfl, hwr⟩ := hrel
          rw [hwr]; clear hwr wr
          by_cases hlt : j < 3
          · have hlt' : (j : Int) < 3 := by omega
            have e1 := okS_succ (sfx s i) 128 191 j hj2 (by omega)
            generalize hb : okS (sfx s i) 128 191 j = b at e1
            have HE : Hid _ := e1
            clear e1 hb
            cases b
            all_goals
              go_wp2_with fail
              refine (hg j 128 191 _).mono ?_
              rintro e w1 ⟨rfl, hw1⟩
              rw [hw1]; clear hw1 w1
              go_wp2
              exact ⟨⟨j + 1, by omega, by omega, by go_num, by rw [HE.out]; simp, trivial⟩, by simp [intOf]; omega⟩
          · have hlt' : (3 : Int) ≤ (j : Int) := by omega
            have hjN : j = 3 := by omega
            have HJ : Hid (j = 3) := hjN
            clear hjN
            generalize hb : okS (sfx s i) 128 191 j = b
            have HB : Hid (okS (sfx s i) 128 191 j = b) := hb
            clear hb
            clear hj2 hjn hlt hg a1 a2 a3 b1 b2 c1 c2 c3 c4
            cases b
            · go_wp2
              go_ret
              refine ⟨ret_int ?_, rfl⟩
              have e := HB.out
              rw [HJ.out] at e
              rw [← HR.out, e]; rfl
            · go_wp2
              go_ret
              refine ⟨ret_int ?_, rfl⟩
              have e := HB.out
              rw [HJ.out] at e
              rw [← HR.out, e]; rfl
      · rw [n1, n2, n3]
        have b1 : decide ((224 : Int) ≤ (s[i].toNat : Int)) = true := by simp; omega
        have b2 : decide ((240 : Int) ≤ (s[i].toNat : Int)) = true := by simp; omega
        have c1 : ((s[i].toNat : Int) == 224) = false := by simp; omega
        have c2 : ((s[i].toNat : Int) == 237) = false := by simp; omega
        have c3 : ((s[i].toNat : Int) == 240) = true := by simp; omega
        have c4 : ((s[i].toNat : Int) == 244) = false := by simp; omega
        clear h
        clear n1 n2 n3
        generalize hR : (if okS (sfx s i) 144 191 4 = true then 4 else 0) = R
        have HR : Hid _ := hR
        clear hR
        go_enter Tryz.func20, Tryz.ntmps20
        go_wp2_with fail
        refine (hg 1 144 191 _).mono ?_
        rintro e w1 ⟨rfl, hw1⟩
        rw [hw1]; clear hw1 w1
        rw [← okS2]
        go_wp2_with fail
        go_loopw [9, 10] (fun ok k wr => ∃ j : Nat, 2 ≤ j ∧ j ≤ 4 ∧ k = .int .i64 (j : Int) ∧ ok = .bool (okS (sfx s i) 144 191 j) ∧ wr = w) (fun _ k _ => 4 - (intOf k).toNat)
        case atStart => exact ⟨2, by omega, by omega, rfl, rfl, rfl⟩
        case round =>
          obtain ⟨j, hj2, hjn, rfl, rfl, hwr⟩ := hrel
          rw [hwr]; clear hwr wr
          by_cases hlt : j < 4
          · have hlt' : (j : Int) < 4 := by omega
            have e1 := okS_succ (sfx s i) 144 191 j hj2 (by omega)
            generalize hb : okS (sfx s i) 144 191 j = b at e1
            have HE : Hid _ := e1
            clear e1 hb
            cases b
            all_goals
              go_wp2_with fail
              refine (hg j 128 191 _).mono ?_
              rintro e w1 ⟨rfl, hw1⟩
              rw [hw1]; clear hw1 w1
              go_wp2
              exact ⟨⟨j + 1, by omega, by omega, by go_num, by rw [HE.out]; simp, trivial⟩, by simp [intOf]; omega⟩
          · have hlt' : (4 : Int) ≤ (j : Int) := by omega
            have hjN : j = 4 := by omega
            have HJ : Hid (j = 4) := hjN
            clear hjN
            generalize hb : okS (sfx s i) 144 191 j = b
            have HB : Hid (okS (sfx s i) 144 191 j = b) := hb
            clear hb
            clear hj2 hjn hlt hg a1 a2 a3 b1 b2 c1 c2 c3 c4
            cases b
            · go_wp2
              go_ret
              refine ⟨ret_int ?_, rfl⟩
              have e := HB.out
              rw [HJ.out] at e
              rw [← HR.out, e]; rfl
            · go_wp2
              go_ret
              refine ⟨ret_int ?_, rfl⟩
              have e := HB.out
              rw [HJ.out] at e
              rw [← HR.out, e]; rfl
      · rw [n1, n2, n3]
        have b1 : decide ((224 : Int) ≤ (s[i].toNat : Int)) = true := by simp; omega
        have b2 : decide ((240 : Int) ≤ (s[i].toNat : Int)) = true := by simp; omega
        have c1 : ((s[i].toNat : Int) == 224) = false := by simp; omega
        have c2 : ((s[i].toNat : Int) == 237) = false := by simp; omega
        have c3 : ((s[i].toNat : Int) == 240) = false := by simp; omega
        have c4 : ((s[i].toNat : Int) == 244) = true := by simp; omega
        clear h
        clear n1 n2 n3
        generalize hR : (if okS (sfx s i) 128 143 4 = true then 4 else 0) = R
        have HR : Hid _ := hR
        clear hR
        go_enter Tryz.func20, Tryz.ntmps20
        go_wp2_with fail
        refine (hg 1 128 143 _).mono ?_
        rintro e w1 ⟨rfl, hw1⟩
        rw [hw1]; clear hw1 w1
        rw [← okS2]
        go_wp2_with fail
        go_loopw [9, 10] (fun ok k wr => ∃ j : Nat, 2 ≤ j ∧ j ≤ 4 ∧ k = .int .i64 (j : Int) ∧ ok = .bool (okS (sfx s i) 128 143 j) ∧ wr = w) (fun _ k _ => 4 - (intOf k).toNat)
        case atStart => exact ⟨2, by omega, by omega, rfl, rfl, rfl⟩
        case round =>
          obtain ⟨j, hj2, hjn, rfl, rfl, hwr⟩ := hrel
          rw [hwr]; clear hwr wr
          by_cases hlt : j < 4
          · have hlt' : (j : Int) < 4 := by omega
            have e1 := okS_succ (sfx s i) 128 143 j hj2 (by omega)
            generalize hb : okS (sfx s i) 128 143 j = b at e1
            have HE : Hid _ := e1
            clear e1 hb
            cases b
            all_goals
              go_wp2_with fail
              refine (hg j 128 191 _).mono ?_
              rintro e w1 ⟨rfl, hw1⟩
              rw [hw1]; clear hw1 w1
              go_wp2
              exact ⟨⟨j + 1, by omega, by omega, by go_num, by rw [HE.out]; simp, trivial⟩, by simp [intOf]; omega⟩
          · have hlt' : (4 : Int) ≤ (j : Int) := by omega
            have hjN : j = 4 := by omega
            have HJ : Hid (j = 4) := hjN
            clear hjN
            generalize hb : okS (sfx s i) 128 143 j = b
            have HB : Hid (okS (sfx s i) 128 143 j = b) := hb
            clear hb
            clear hj2 hjn hlt hg a1 a2 a3 b1 b2 c1 c2 c3 c4
            cases b
            · go_wp2
              go_ret
              refine ⟨ret_int ?_, rfl⟩
              have e := HB.out
              rw [HJ.out] at e
              rw [← HR.out, e]; rfl
            · go_wp2
              go_ret
              refine ⟨ret_int ?_, rfl⟩
              have e := HB.out
              rw [HJ.out] at e
              rw [← HR.out, e]; rfl
      · rw [n1, n2, n3]
        have b1 : decide ((224 : Int) ≤ (s[i].toNat : Int)) = true := by simp; omega
        have b2 : decide ((240 : Int) ≤ (s[i].toNat : Int)) = true := by simp; omega
        have c1 : ((s[i].toNat : Int) == 224) = false := by simp; omega
        have c2 : ((s[i].toNat : Int) == 237) = false := by simp; omega
        have c3 : ((s[i].toNat : Int) == 240) = false := by simp; omega
        have c4 : ((s[i].toNat : Int) == 244) = false := by simp; omega
        clear h h'
        clear n1 n2 n3
        generalize hR : (if okS (sfx s i) 128 191 4 = true then 4 else 0) = R
        have HR : Hid _ := hR
        clear hR
        go_enter Tryz.func20, Tryz.ntmps20
        go_wp2_with fail
        refine (hg 1 128 191 _).mono ?_
        rintro e w1 ⟨rfl, hw1⟩
        rw [hw1]; clear hw1 w1
        rw [← okS2]
        go_wp2_with fail
        go_loopw [9, 10] (fun ok k wr => ∃ j : Nat, 2 ≤ j ∧ j ≤ 4 ∧ k = .int .i64 (j : Int) ∧ ok = .bool (okS (sfx s i) 128 191 j) ∧ wr = w) (fun _ k _ => 4 - (intOf k).toNat)
        case atStart => exact ⟨2, by omega, by omega, rfl, rfl, rfl⟩
        case round =>
          obtain ⟨j, hj2, hjn, rfl, rfl, hwr⟩ := hrel
          rw [hwr]; clear hwr wr
          by_cases hlt : j < 4
          · have hlt' : (j : Int) < 4 := by omega
            have e1 := okS_succ (sfx s i) 128 191 j hj2 (by omega)
            generalize hb : okS (sfx s i) 128 191 j = b at e1
            have HE : Hid _ := e1
            clear e1 hb
            cases b
            all_goals
              go_wp2_with fail
              refine (hg j 128 191 _).mono ?_
              rintro e w1 ⟨rfl, hw1⟩
              rw [hw1]; clear hw1 w1
              go_wp2
              exact ⟨⟨j + 1, by omega, by omega, by go_num, by rw [HE.out]; simp, trivial⟩, by simp [intOf]; omega⟩
          · have hlt' : (4 : Int) ≤ (j : Int) := by omega
            have hjN : j = 4 := by omega
            have HJ : Hid (j = 4) := hjN
            clear hjN
            generalize hb : okS (sfx s i) 128 191 j = b
            have HB : Hid (okS (sfx s i) 128 191 j = b) := hb
            clear hb
            clear hj2 hjn hlt hg a1 a2 a3 b1 b2 c1 c2 c3 c4
            cases b
            · go_wp2
              go_ret
              refine ⟨ret_int ?_, rfl⟩
              have e := HB.out
              rw [HJ.out] at e
              rw [← HR.out, e]; rfl
            · go_wp2
              go_ret
              refine ⟨ret_int ?_, rfl⟩
              have e := HB.out
              rw [HJ.out] at e
              rw [← HR.out, e]; rfl
end Go.Proofs.YtoijppmkkhgkdacGreatDoor
/-
  Of the texts JPrint what speaks of functions (walk.py).
-/
/-
  The document's way of writing strings.
-/
namespace Go.Proofs.YtoijppmkkhgkdacGreatDoor
open Go.RowKit
set_option linter.unusedVariables false

section
attribute [local go_sem] conv1 conv2

set_option maxHeartbeats 400000 in
theorem rsg_34 (w : World) : Calls Tryz.prog 21 #[.int .u8 34] w fun e w' => e = .returned (.string ⟨#[92, 34]⟩) ∧ Below w.heap.size w w' := by
  have hcv : ∀ W : World, Sem.run Tryz.prog (convert 42 9 (.slice (some ⟨W.heap.size, 0, none⟩) 2 2)) (W.alloc (.cells #[.int .u8 92, .int .u8 34] 5)) = .ok (.string ⟨#[92, 34]⟩) (W.alloc (.cells #[.int .u8 92, .int .u8 34] 5)) := fun W => conv2 W 92 34
  go_enter Tryz.func21, Tryz.ntmps21
  go_wp2
  go_ret
  exact ⟨rfl, bal (brf _) _⟩

set_option maxHeartbeats 400000 in
theorem rsg_92 (w : World) : Calls Tryz.prog 21 #[.int .u8 92] w fun e w' => e = .returned (.string ⟨#[92, 92]⟩) ∧ Below w.heap.size w w' := by
  have hcv : ∀ W : World, Sem.run Tryz.prog (convert 42 9 (.slice (some ⟨W.heap.size, 0, none⟩) 2 2)) (W.alloc (.cells #[.int .u8 92, .int .u8 92] 5)) = .ok (.string ⟨#[92, 92]⟩) (W.alloc (.cells #[.int .u8 92, .int .u8 92] 5)) := fun W => conv2 W 92 92
  go_enter Tryz.func21, Tryz.ntmps21
  go_wp2
  go_ret
  exact ⟨rfl, bal (brf _) _⟩

set_option maxHeartbeats 400000 in
theorem rsg_0 (w : World) : Calls Tryz.prog 21 #[.int .u8 0] w fun e w' => e = .returned (.string ⟨#[92, 117, 48, 48, 48, 48]⟩) ∧ Below w.heap.size w w' := by
  go_enter Tryz.func21, Tryz.ntmps21
  go_wp2_with fail
  go_quiet (fail)
  go_wp2
  go_ret
  exact ⟨rfl, bdN (brf _) nq⟩

set_option maxHeartbeats 400000 in
theorem rsg_1 (w : World) : Calls Tryz.prog 21 #[.int .u8 1] w fun e w' => e = .returned (.string ⟨#[92, 117, 48, 48, 48, 49]⟩) ∧ Below w.heap.size w w' := by
  go_enter Tryz.func21, Tryz.ntmps21
  go_wp2_with fail
  go_quiet (fail)
  go_wp2
  go_ret
  exact ⟨rfl, bdN (brf _) nq⟩

set_option maxHeartbeats 400000 in
theorem rsg_2 (w : World) : Calls Tryz.prog 21 #[.int .u8 2] w fun e w' => e = .returned (.string ⟨#[92, 117, 48, 48, 48, 50]⟩) ∧ Below w.heap.size w w' := by
  go_enter Tryz.func21, Tryz.ntmps21
  go_wp2_with fail
  go_quiet (fail)
  go_wp2
  go_ret
  exact ⟨rfl, bdN (brf _) nq⟩

set_option maxHeartbeats 400000 in
theorem rsg_3 (w : World) : Calls Tryz.prog 21 #[.int .u8 3] w fun e w' => e = .returned (.string ⟨#[92, 117, 48, 48, 48, 51]⟩) ∧ Below w.heap.size w w' := by
  go_enter Tryz.func21, Tryz.ntmps21
  go_wp2_with fail
  go_quiet (fail)
  go_wp2
  go_ret
  exact ⟨rfl, bdN (brf _) nq⟩

set_option maxHeartbeats 400000 in
theorem rsg_4 (w : World) : Calls Tryz.prog 21 #[.int .u8 4] w fun e w' => e = .returned (.string ⟨#[92, 117, 48, 48, 48, 52]⟩) ∧ Below w.heap.size w w' := by
  go_enter Tryz.func21, Tryz.ntmps21
  go_wp2_with fail
  go_quiet (fail)
  go_wp2
  go_ret
  exact ⟨rfl, bdN (brf _) nq⟩

set_option maxHeartbeats 400000 in
theorem rsg_5 (w : World) : Calls Tryz.prog 21 #[.int .u8 5] w fun e w' => e = .returned (.string ⟨#[92, 117, 48, 48, 48, 53]⟩) ∧ Below w.heap.size w w' := by
  go_enter Tryz.func21, Tryz.ntmps21
  go_wp2_with fail
  go_quiet (fail)
  go_wp2
  go_ret
  exact ⟨rfl, bdN (brf _) nq⟩

set_option maxHeartbeats 400000 in
theorem rsg_6 (w : World) : Calls Tryz.prog 21 #[.int .u8 6] w fun e w' => e = .returned (.string ⟨#[92, 117, 48, 48, 48, 54]⟩) ∧ Below w.heap.size w w' := by
  go_enter Tryz.func21, Tryz.ntmps21
  go_wp2_with fail
  go_quiet (fail)
  go_wp2
  go_ret
  exact ⟨rfl, bdN (brf _) nq⟩

set_option maxHeartbeats 400000 in
theorem rsg_7 (w : World) : Calls Tryz.prog 21 #[.int .u8 7] w fun e w' => e = .returned (.string ⟨#[92, 117, 48, 48, 48, 55]⟩) ∧ Below w.heap.size w w' := by
  go_enter Tryz.func21, Tryz.ntmps21
  go_wp2_with fail
  go_quiet (fail)
  go_wp2
  go_ret
  exact ⟨rfl, bdN (brf _) nq⟩

set_option maxHeartbeats 400000 in
theorem rsg_8 (w : World) : Calls Tryz.prog 21 #[.int .u8 8] w fun e w' => e = .returned (.string ⟨#[92, 98]⟩) ∧ Below w.heap.size w w' := by
  go_enter Tryz.func21, Tryz.ntmps21
  go_wp2
  go_ret
  exact ⟨rfl, brf _⟩

set_option maxHeartbeats 400000 in
theorem rsg_9 (w : World) : Calls Tryz.prog 21 #[.int .u8 9] w fun e w' => e = .returned (.string ⟨#[92, 116]⟩) ∧ Below w.heap.size w w' := by
  go_enter Tryz.func21, Tryz.ntmps21
  go_wp2
  go_ret
  exact ⟨rfl, brf _⟩

set_option maxHeartbeats 400000 in
theorem rsg_10 (w : World) : Calls Tryz.prog 21 #[.int .u8 10] w fun e w' => e = .returned (.string ⟨#[92, 110]⟩) ∧ Below w.heap.size w w' := by
  go_enter Tryz.func21, Tryz.ntmps21
  go_wp2
  go_ret
  exact ⟨rfl, brf _⟩

set_option maxHeartbeats 400000 in
theorem rsg_11 (w : World) : Calls Tryz.prog 21 #[.int .u8 11] w fun e w' => e = .returned (.string ⟨#[92, 117, 48, 48, 48, 98]⟩) ∧ Below w.heap.size w w' := by
  go_enter Tryz.func21, Tryz.ntmps21
  go_wp2_with fail
  go_quiet (fail)
  go_wp2
  go_ret
  exact ⟨rfl, bdN (brf _) nq⟩

set_option maxHeartbeats 400000 in
theorem rsg_12 (w : World) : Calls Tryz.prog 21 #[.int .u8 12] w fun e w' => e = .returned (.string ⟨#[92, 102]⟩) ∧ Below w.heap.size w w' := by
  go_enter Tryz.func21, Tryz.ntmps21
  go_wp2
  go_ret
  exact ⟨rfl, brf _⟩

set_option maxHeartbeats 400000 in
theorem rsg_13 (w : World) : Calls Tryz.prog 21 #[.int .u8 13] w fun e w' => e = .returned (.string ⟨#[92, 114]⟩) ∧ Below w.heap.size w w' := by
  go_enter Tryz.func21, Tryz.ntmps21
  go_wp2
  go_ret
  exact ⟨rfl, brf _⟩

set_option maxHeartbeats 400000 in
theorem rsg_14 (w : World) : Calls Tryz.prog 21 #[.int .u8 14] w fun e w' => e = .returned (.string ⟨#[92, 117, 48, 48, 48, 101]⟩) ∧ Below w.heap.size w w' := by
  go_enter Tryz.func21, Tryz.ntmps21
  go_wp2_with fail
  go_quiet (fail)
  go_wp2
  go_ret
  exact ⟨rfl, bdN (brf _) nq⟩

set_option maxHeartbeats 400000 in
theorem rsg_15 (w : World) : Calls Tryz.prog 21 #[.int .u8 15] w fun e w' => e = .returned (.string ⟨#[92, 117, 48, 48, 48, 102]⟩) ∧ Below w.heap.size w w' := by
  go_enter Tryz.func21, Tryz.ntmps21
  go_wp2_with fail
  go_quiet (fail)
  go_wp2
  go_ret
  exact ⟨rfl, bdN (brf _) nq⟩

set_option maxHeartbeats 400000 in
theorem rsg_16 (w : World) : Calls Tryz.prog 21 #[.int .u8 16] w fun e w' => e = .returned (.string ⟨#[92, 117, 48, 48, 49, 48]⟩) ∧ Below w.heap.size w w' := by
  go_enter Tryz.func21, Tryz.ntmps21
  go_wp2_with fail
  go_quiet (fail)
  go_wp2
  go_ret
  exact ⟨rfl, bdN (brf _) nq⟩

set_option maxHeartbeats 400000 in
theorem rsg_17 (w : World) : Calls Tryz.prog 21 #[.int .u8 17] w fun e w' => e = .returned (.string ⟨#[92, 117, 48, 48, 49, 49]⟩) ∧ Below w.heap.size w w' := by
  go_enter Tryz.func21, Tryz.ntmps21
  go_wp2_with fail
  go_quiet (fail)
  go_wp2
  go_ret
  exact ⟨rfl, bdN (brf _) nq⟩

set_option maxHeartbeats 400000 in
theorem rsg_18 (w : World) : Calls Tryz.prog 21 #[.int .u8 18] w fun e w' => e = .returned (.string ⟨#[92, 117, 48, 48, 49, 50]⟩) ∧ Below w.heap.size w w' := by
  go_enter Tryz.func21, Tryz.ntmps21
  go_wp2_with fail
  go_quiet (fail)
  go_wp2
  go_ret
  exact ⟨rfl, bdN (brf _) nq⟩

set_option maxHeartbeats 400000 in
theorem rsg_19 (w : World) : Calls Tryz.prog 21 #[.int .u8 19] w fun e w' => e = .returned (.string ⟨#[92, 117, 48, 48, 49, 51]⟩) ∧ Below w.heap.size w w' := by
  go_enter Tryz.func21, Tryz.ntmps21
  go_wp2_with fail
  go_quiet (fail)
  go_wp2
  go_ret
  exact ⟨rfl, bdN (brf _) nq⟩

set_option maxHeartbeats 400000 in
theorem rsg_20 (w : World) : Calls Tryz.prog 21 #[.int .u8 20] w fun e w' => e = .returned (.string ⟨#[92, 117, 48, 48, 49, 52]⟩) ∧ Below w.heap.size w w' := by
  go_enter Tryz.func21, Tryz.ntmps21
  go_wp2_with fail
  go_quiet (fail)
  go_wp2
  go_ret
  exact ⟨rfl, bdN (brf _) nq⟩

set_option maxHeartbeats 400000 in
theorem rsg_21 (w : World) : Calls Tryz.prog 21 #[.int .u8 21] w fun e w' => e = .returned (.string ⟨#[92, 117, 48, 48, 49, 53]⟩) ∧ Below w.heap.size w w' := by
  go_enter Tryz.func21, Tryz.ntmps21
  go_wp2_with fail
  go_quiet (fail)
  go_wp2
  go_ret
  exact ⟨rfl, bdN (brf _) nq⟩

set_option maxHeartbeats 400000 in
theorem rsg_22 (w : World) : Calls Tryz.prog 21 #[.int .u8 22] w fun e w' => e = .returned (.string ⟨#[92, 117, 48, 48, 49, 54]⟩) ∧ Below w.heap.size w w' := by
  go_enter Tryz.func21, Tryz.ntmps21
  go_wp2_with fail
  go_quiet (fail)
  go_wp2
  go_ret
  exact ⟨rfl, bdN (brf _) nq⟩

set_option maxHeartbeats 400000 in
theorem rsg_23 (w : World) : Calls Tryz.prog 21 #[.int .u8 23] w fun e w' => e = .returned (.string ⟨#[92, 117, 48, 48, 49, 55]⟩) ∧ Below w.heap.size w w' := by
  go_enter Tryz.func21, Tryz.ntmps21
  go_wp2_with fail
  go_quiet (fail)
  go_wp2
  go_ret
  exact ⟨rfl, bdN (brf _) nq⟩

set_option maxHeartbeats 400000 in
theorem rsg_24 (w : World) : Calls Tryz.prog 21 #[.int .u8 24] w fun e w' => e = .returned (.string ⟨#[92, 117, 48, 48, 49, 56]⟩) ∧ Below w.heap.size w w' := by
  go_enter Tryz.func21, Tryz.ntmps21
  go_wp2_with fail
  go_quiet (fail)
  go_wp2
  go_ret
  exact ⟨rfl, bdN (brf _) nq⟩

set_option maxHeartbeats 400000 in
theorem rsg_25 (w : World) : Calls Tryz.prog 21 #[.int .u8 25] w fun e w' => e = .returned (.string ⟨#[92, 117, 48, 48, 49, 57]⟩) ∧ Below w.heap.size w w' := by
  go_enter Tryz.func21, Tryz.ntmps21
  go_wp2_with fail
  go_quiet (fail)
  go_wp2
  go_ret
  exact ⟨rfl, bdN (brf _) nq⟩

set_option maxHeartbeats 400000 in
theorem rsg_26 (w : World) : Calls Tryz.prog 21 #[.int .u8 26] w fun e w' => e = .returned (.string ⟨#[92, 117, 48, 48, 49, 97]⟩) ∧ Below w.heap.size w w' := by
  go_enter Tryz.func21, Tryz.ntmps21
  go_wp2_with fail
  go_quiet (fail)
  go_wp2
  go_ret
  exact ⟨rfl, bdN (brf _) nq⟩

set_option maxHeartbeats 400000 in
theorem rsg_27 (w : World) : Calls Tryz.prog 21 #[.int .u8 27] w fun e w' => e = .returned (.string ⟨#[92, 117, 48, 48, 49, 98]⟩) ∧ Below w.heap.size w w' := by
  go_enter Tryz.func21, Tryz.ntmps21
  go_wp2_with fail
  go_quiet (fail)
  go_wp2
  go_ret
  exact ⟨rfl, bdN (brf _) nq⟩

set_option maxHeartbeats 400000 in
theorem rsg_28 (w : World) : Calls Tryz.prog 21 #[.int .u8 28] w fun e w' => e = .returned (.string ⟨#[92, 117, 48, 48, 49, 99]⟩) ∧ Below w.heap.size w w' := by
  go_enter Tryz.func21, Tryz.ntmps21
  go_wp2_with fail
  go_quiet (fail)
  go_wp2
  go_ret
  exact ⟨rfl, bdN (brf _) nq⟩

set_option maxHeartbeats 400000 in
theorem rsg_29 (w : World) : Calls Tryz.prog 21 #[.int .u8 29] w fun e w' => e = .returned (.string ⟨#[92, 117, 48, 48, 49, 100]⟩) ∧ Below w.heap.size w w' := by
  go_enter Tryz.func21, Tryz.ntmps21
  go_wp2_with fail
  go_quiet (fail)
  go_wp2
  go_ret
  exact ⟨rfl, bdN (brf _) nq⟩

set_option maxHeartbeats 400000 in
theorem rsg_30 (w : World) : Calls Tryz.prog 21 #[.int .u8 30] w fun e w' => e = .returned (.string ⟨#[92, 117, 48, 48, 49, 101]⟩) ∧ Below w.heap.size w w' := by
  go_enter Tryz.func21, Tryz.ntmps21
  go_wp2_with fail
  go_quiet (fail)
  go_wp2
  go_ret
  exact ⟨rfl, bdN (brf _) nq⟩

set_option maxHeartbeats 400000 in
theorem rsg_31 (w : World) : Calls Tryz.prog 21 #[.int .u8 31] w fun e w' => e = .returned (.string ⟨#[92, 117, 48, 48, 49, 102]⟩) ∧ Below w.heap.size w w' := by
  go_enter Tryz.func21, Tryz.ntmps21
  go_wp2_with fail
  go_quiet (fail)
  go_wp2
  go_ret
  exact ⟨rfl, bdN (brf _) nq⟩

set_option maxHeartbeats 400000 in
theorem rsg_else (c : UInt8) (w : World) (h34 : c ≠ 34) (h92 : c ≠ 92) (h32 : 32 ≤ c.toNat) : Calls Tryz.prog 21 #[.int .u8 (c.toNat : Int)] w fun e w' => e = .returned (.string ⟨#[c]⟩) ∧ Below w.heap.size w w' := by
  have d34 : ((c.toNat : Int) == 34) = false := u8_ne (k := 34) (by omega) h34
  have d92 : ((c.toNat : Int) == 92) = false := u8_ne (k := 92) (by omega) h92
  have d8 : ((c.toNat : Int) == 8) = false := by simp; omega
  have d9 : ((c.toNat : Int) == 9) = false := by simp; omega
  have d10 : ((c.toNat : Int) == 10) = false := by simp; omega
  have d12 : ((c.toNat : Int) == 12) = false := by simp; omega
  have d13 : ((c.toNat : Int) == 13) = false := by simp; omega
  have dl : decide ((c.toNat : Int) < 32) = false := by simp; omega
  clear h34 h92 h32
  go_enter Tryz.func21, Tryz.ntmps21
  go_wp2
  go_ret
  exact ⟨rfl, bal (brf _) _⟩
end

theorem rsign (c : UInt8) (w : World) : Calls Tryz.prog 21 #[.int .u8 (c.toNat : Int)] w fun e w' => e = .returned (.string ⟨(sgnL c).toArray⟩) ∧ Below w.heap.size w w' := by
  by_cases h32 : c.toNat < 32
  · have hc : c = UInt8.ofNat c.toNat := by simp
    have hk : c.toNat = 0 ∨ c.toNat = 1 ∨ c.toNat = 2 ∨ c.toNat = 3 ∨ c.toNat = 4 ∨ c.toNat = 5 ∨ c.toNat = 6 ∨ c.toNat = 7 ∨ c.toNat = 8 ∨ c.toNat = 9 ∨ c.toNat = 10 ∨ c.toNat = 11 ∨ c.toNat = 12 ∨ c.toNat = 13 ∨ c.toNat = 14 ∨ c.toNat = 15 ∨ c.toNat = 16 ∨ c.toNat = 17 ∨ c.toNat = 18 ∨ c.toNat = 19 ∨ c.toNat = 20 ∨ c.toNat = 21 ∨ c.toNat = 22 ∨ c.toNat = 23 ∨ c.toNat = 24 ∨ c.toNat = 25 ∨ c.toNat = 26 ∨ c.toNat = 27 ∨ c.toNat = 28 ∨ c.toNat = 29 ∨ c.toNat = 30 ∨ c.toNat = 31 := by omega
    rcases hk with h | h | h | h | h | h | h | h | h | h | h | h | h | h | h | h | h | h | h | h | h | h | h | h | h | h | h | h | h | h | h | h
    · rw [h] at hc; subst hc; exact rsg_0 w
    · rw [h] at hc; subst hc; exact rsg_1 w
    · rw [h] at hc; subst hc; exact rsg_2 w
    · rw [h] at hc; subst hc; exact rsg_3 w
    · rw [h] at hc; subst hc; exact rsg_4 w
    · rw [h] at hc; subst hc; exact rsg_5 w
    · rw [h] at hc; subst hc; exact rsg_6 w
    · rw [h] at hc; subst hc; exact rsg_7 w
    · rw [h] at hc; subst hc; exact rsg_8 w
    · rw [h] at hc; subst hc; exact rsg_9 w
    · rw [h] at hc; subst hc; exact rsg_10 w
    · rw [h] at hc; subst hc; exact rsg_11 w
    · rw [h] at hc; subst hc; exact rsg_12 w
    · rw [h] at hc; subst hc; exact rsg_13 w
    · rw [h] at hc; subst hc; exact rsg_14 w
    · rw [h] at hc; subst hc; exact rsg_15 w
    · rw [h] at hc; subst hc; exact rsg_16 w
    · rw [h] at hc; subst hc; exact rsg_17 w
    · rw [h] at hc; subst hc; exact rsg_18 w
    · rw [h] at hc; subst hc; exact rsg_19 w
    · rw [h] at hc; subst hc; exact rsg_20 w
    · rw [h] at hc; subst hc; exact rsg_21 w
    · rw [h] at hc; subst hc; exact rsg_22 w
    · rw [h] at hc; subst hc; exact rsg_23 w
    · rw [h] at hc; subst hc; exact rsg_24 w
    · rw [h] at hc; subst hc; exact rsg_25 w
    · rw [h] at hc; subst hc; exact rsg_26 w
    · rw [h] at hc; subst hc; exact rsg_27 w
    · rw [h] at hc; subst hc; exact rsg_28 w
    · rw [h] at hc; subst hc; exact rsg_29 w
    · rw [h] at hc; subst hc; exact rsg_30 w
    · rw [h] at hc; subst hc; exact rsg_31 w
  · by_cases h34 : c = 34
    · subst h34; exact rsg_34 w
    · by_cases h92 : c = 92
      · subst h92; exact rsg_92 w
      · have e : sgnL c = [c] := by
          have hne : ∀ k : Nat, k < 32 → c ≠ UInt8.ofNat k := fun k hk e => by rw [e] at h32; simp at h32; omega
          unfold sgnL
          rw [if_neg (by simp [h34, h92]), if_neg (show c ≠ 8 from hne 8 (by omega)), if_neg (show c ≠ 9 from hne 9 (by omega)), if_neg (show c ≠ 10 from hne 10 (by omega)), if_neg (show c ≠ 12 from hne 12 (by omega)), if_neg (show c ≠ 13 from hne 13 (by omega)), if_neg h32]
        rw [e]
        exact rsg_else c w h34 h92 (by omega)

set_option maxRecDepth 4000 in
set_option maxHeartbeats 1000000 in
theorem rstrT (s : ByteArray) (w : World) (hs : s.size ≤ 1000000000) : Calls Tryz.prog 12 #[.string s] w fun e w' => e = .returned (.string ⟨(strT s.data.toList).toArray⟩) ∧ Below w.heap.size w w' := by
  obtain ⟨i0, hi0, hz0, hz1, hz2⟩ := info_parts u8infoJ
  have HI : Hid _ := hi0
  clear hi0
  go_enter Tryz.func12, Tryz.ntmps12
  go_wp2_with (refine wp_app1 rfl (.tmp 6) (.tmp 7) 42 rfl 5 i0 Tryz.underlying42 HI.out hz0 hz1 hz2 w.heap.size _ [] 34 w rfl (.inl ⟨rfl, rfl⟩) (Nat.le_refl _) (by simp) rfl ?_; intro v1 w1 ho1 hb1; have W1 : Hid (OwnB w.heap.size 5 v1 [34] w1) := ho1; have B1 : Hid _ := hb1; clear ho1 hb1)
  go_loopw [3, 4] (fun v i wr => ∃ j : Nat, j ≤ s.size ∧ i = .int .i64 (j : Int) ∧ OwnB w.heap.size 5 v (34 :: sgnsL (s.data.toList.take j)) wr ∧ Below w.heap.size w wr) (fun _ i _ => s.size - (intOf i).toNat)
  case atStart => exact ⟨0, by omega, rfl, by simpa [sgnsL] using W1.out, B1.out⟩
  case round =>
    clear W1 B1
    obtain ⟨j, hj, rfl, ho, hb⟩ := hrel
    have HO : Hid (OwnB w.heap.size 5 _ (34 :: sgnsL (s.data.toList.take j)) wr) := ho
    have HB : Hid (Below w.heap.size w wr) := hb
    have hlen : (sgnsL (s.data.toList.take j)).length ≤ 6 * j := Nat.le_trans (sgnsL_len _) (by simp; omega)
    have HLEN : Hid _ := hlen
    clear ho hb hlen
    by_cases hlt : j < s.size
    · have hlt' : (j : Int) < (s.size : Int) := by omega
      have hsg := rsign s[j]
      have HT : Hid (sgnsL (s.data.toList.take (j + 1)) = sgnsL (s.data.toList.take j) ++ sgnL s[j]) := by
        show sgnsL (s.data.toList.take (j + 1)) = sgnsL (s.data.toList.take j) ++ sgnL s[j]
        rw [List.take_succ_eq_append_getElem (by simpa using hlt), sgnsL_append]; simp [sgnsL]; rfl
      have HL6 : Hid _ := sgnL_len s[j]
      go_wp2_with fail
      refine (hsg _).mono ?_
      rintro e w2 ⟨rfl, b2⟩
      have hz2' : w.heap.size ≤ w2.heap.size := Nat.le_trans HB.out.size b2.size
      have B2 : Hid (Below w.heap.size w w2) := HB.out.trans ⟨b2.os, b2.tape, b2.output, b2.size, fun k hk => b2.block k (by have := HB.out.size; omega)⟩
      have W2 : Hid (OwnB w.heap.size 5 u3 (34 :: sgnsL (s.data.toList.take j)) w2) := HO.out.below b2 (Nat.le_refl _)
      clear hsg b2 HO HB
      go_wp2_with (refine wp_appS rfl (.tmp 19) (.tmp 20) 42 9 rfl 5 i0 Tryz.underlying42 Tryz.underlying9 HI.out hz0 hz1 hz2 w.heap.size _ (34 :: sgnsL (s.data.toList.take j)) ⟨(sgnL s[j]).toArray⟩ rfl rfl (by have := HLEN.out; have := HL6.out; show (34 :: sgnsL (s.data.toList.take j)).length + (sgnL s[j]).toArray.size ≤ 140737488355328; simp; omega) W2.out hz2' ?_; intro v3 w3 ho3 hb3; have W3 : Hid _ := ho3; have B3 : Hid _ := hb3; clear ho3 hb3)
      refine ⟨⟨j + 1, by omega, by go_num, ?_, B2.out.trans B3.out⟩, by simp [intOf]; omega⟩
      rw [HT.out]
      exact W3.out
    · obtain rfl : j = s.size := by omega
      have hbs := HB.out.size
      go_wp2_with (refine wp_app1 rfl (.tmp 22) (.tmp 23) 42 rfl 5 i0 Tryz.underlying42 HI.out hz0 hz1 hz2 w.heap.size _ (34 :: sgnsL (s.data.toList.take s.size)) 34 wr rfl HO.out hbs (by have := HLEN.out; simp; omega) rfl ?_; intro v3 w3 ho3 hb3; have hs3 := ho3.str (P := Tryz.prog) (t := 42) (d := 9) Tryz.underlying42 Tryz.underlying5 Tryz.underlying9; have B3 : Hid _ := hb3; clear ho3 hb3)
      go_ret
      refine ⟨?_, HB.out.trans B3.out⟩
      have e : s.data.toList.take s.size = s.data.toList := List.take_of_length_le (by simp)
      rw [e]; rfl
end Go.Proofs.YtoijppmkkhgkdacGreatDoor
