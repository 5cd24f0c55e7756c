/-
  Joined by program: CRune, CEsc.
-/
import Derived.Test.YtaghclgookfmnaaDoorKTry
/-
  The code's reader: an escape.
-/
namespace Go.Proofs.YtaghclgookfmnaaDoor
open Go.RowKit
set_option linter.unusedVariables false

/-- The rune that a backslash-u of the number n stands for; r: what lies behind its four signs; how many bytes, the backslash among them. -/
def runeC (n : Nat) (r : List UInt8) : Option (Nat × Nat) :=
  if n < 55296 ∨ 57343 < n then some (n, 6)
  else match lowL r with
    | none => none
    | some m => if 56320 ≤ n then none else some (65536 + 1024 * (n - 55296) + (m - 56320), 12)

/-- What readRune answers, behind the backslash and the u. -/
def UP (bp : Nat) (s : ByteArray) (i : Nat) (vL : Value) (dp : Nat) (r : Ending) (w' : World) : Option Nat × Nat → Prop
  | (none, o) => r = .panicked (flt 2 (i + o)) ∧ ∃ j, CD bp s j vL dp w'
  | (some n, _) => match runeC n (sfx s (i + 4)) with
    | none => r = .panicked (flt 2 (i - 2)) ∧ ∃ j, CD bp s j vL dp w'
    | some (q, k) => r = .returned (.int .i32 (q : Int)) ∧ CD bp s (i + k - 2) vL dp w'

theorem UP_yes {bp : Nat} {s : ByteArray} {i : Nat} {vL : Value} {dp : Nat} {r : Ending} {w' : World} {n o q k : Nat} (h : runeC n (sfx s (i + 4)) = some (q, k)) (hr : r = .returned (.int .i32 (q : Int))) (g : CD bp s (i + k - 2) vL dp w') : UP bp s i vL dp r w' (some n, o) := by
  simp only [UP]; rw [h]; exact ⟨hr, g⟩
theorem UP_no {bp : Nat} {s : ByteArray} {i : Nat} {vL : Value} {dp : Nat} {r : Ending} {w' : World} {n o j : Nat} (h : runeC n (sfx s (i + 4)) = none) (hr : r = .panicked (flt 2 (i - 2))) (g : CD bp s j vL dp w') : UP bp s i vL dp r w' (some n, o) := by
  simp only [UP]; rw [h]; exact ⟨hr, j, g⟩
theorem lowL_n {l : List UInt8} {m : Nat} (h : lowL l = some m) : 56320 ≤ m ∧ m ≤ 57343 := by
  unfold lowL at h
  split at h
  · split at h
    · split at h
      · split at h
        · next hh => injection h with h; subst h; exact hh
        · cases h
      · cases h
    · cases h
  · cases h
theorem four_len {s : ByteArray} {i n o : Nat} (h : four4 (sfx s i) = (some n, o)) : i + 4 ≤ s.size := by
  have key : ∀ (k N i o n o' : Nat), fourG k N (sfx s i) o = (some n, o') → i ≤ s.size → i + k ≤ s.size := by
    intro k
    induction k with
    | zero => intro N i o n o' _ hi; omega
    | succ k ih =>
      intro N i o n o' h hi
      cases hq : hexv (pk (sfx s i)) with
      | none => rw [cfourG_none hq] at h; injection h with h1 _; cases h1
      | some d =>
        obtain ⟨h1, h2⟩ := cfourG_some (k := k) (n := N) (o := o) hq
        rw [h2] at h
        have := ih _ _ _ _ _ h (by omega)
        omega
  by_cases hi : i ≤ s.size
  · exact key 4 0 i 0 n o h hi
  · rw [sfx_nil s i (by omega)] at h; cases h

section
variable (bp : Nat) (s : ByteArray) (i : Nat) (vL : Value) (dp : Nat) (w : World)
set_option maxHeartbeats 1000000 in
theorem crune (hs : s.size ≤ 140737488355328) (h : CD bp s i vL dp w) (hi : i ≤ s.size) (hi2 : 2 ≤ i) :
    Calls Tryd.prog 62 #[.pointer (some ⟨bp, 0, none⟩)] w fun r w' => UP bp s i vL dp r w' (four4 (sfx s i)) ∧ Onl bp w w' := by
  have hmf : ∀ (fn : Fn) (first cap : Array Value) (w : World), (Instr.makeFunc fn first cap).run Tryd.prog w = .ok (.func fn first cap) w := fun _ _ _ _ => rfl
  have hf := cfour bp s i vL dp w hs h hi
  cases hq : four4 (sfx s i) with
  | mk q o =>
    rw [hq] at hf
    cases q with
    | none =>
      clear hq
      go_enter Tryd.func62, Tryd.ntmps62
      go_wp2_with fail
      refine hf.mono ?_
      rintro e w1 ⟨⟨rfl, g1⟩, o1⟩
      have O1 : Hid (Onl bp w w1) := o1
      clear o1 hf
      go_wp2
      exact ⟨rfl, ⟨rfl, _, g1⟩, O1.out⟩
    | some n =>
      have hn := four4_n hq
      have hl := four_len hq
      have hhi := fun w' => chi n w'
      have hlo := fun w' => clo n w'
      clear hq
      cases hb : isHi n with
      | true =>
        rw [hb] at hhi
        have hb2 : 55296 ≤ n ∧ n < 56320 := by simpa [isHi] using hb
        have ht := fun w' h' => ctry bp s (i + 4) vL dp w' hs h' (by omega)
        unfold secF at ht
        cases hL : lowL (sfx s (i + 4)) with
        | some m =>
          rw [hL] at ht
          have hm := lowL_n hL
          have HL : Hid (runeC n (sfx s (i + 4)) = some (65536 + 1024 * (n - 55296) + (m - 56320), 12)) := by
            show runeC n (sfx s (i + 4)) = _
            rw [runeC, if_neg (by omega), hL]; simp only; rw [if_neg (by omega)]
          clear hL hlo hb
          have n1 : (55296 : Int) ≤ (n : Int) := by omega
          have n2 : (n : Int) < 56320 := by omega
          have m1 : (56320 : Int) ≤ (m : Int) := by omega
          have m2 : (m : Int) ≤ 57343 := by omega
          go_enter Tryd.func62, Tryd.ntmps62
          go_wp2_with fail
          refine hf.mono ?_
          rintro e w1 ⟨⟨rfl, g1⟩, o1⟩
          have O1 : Hid (Onl bp w w1) := o1
          clear o1 hf
          go_wp2_with fail
          refine (hhi _).mono ?_
          rintro e w2 ⟨rfl, rfl⟩
          go_wp2_with fail
          refine (ht _ g1).mono ?_
          rintro e w3 ⟨⟨rfl, g3⟩, o3⟩
          have O3 : Hid (Onl bp w w3) := O1.out.trans o3
          clear o3 O1 ht hhi
          go_wp2
          go_ret
          refine ⟨UP_yes HL.out ?_ g3, O3.out⟩
          rw [show ((65536 + 1024 * (n - 55296) + (m - 56320) : Nat) : Int) = 65536 + ((n : Int) - 55296) * 1024 + (m : Int) - 56320 by omega]
          rfl
        | none =>
          rw [hL] at ht
          have HL : Hid (runeC n (sfx s (i + 4)) = none) := by
            show runeC n (sfx s (i + 4)) = _
            rw [runeC, if_neg (by omega), hL]
          have hth : ∀ w', Calls Tryd.prog 33 #[.int .i64 2, .int .i64 ((i : Int) + 4 - 6)] w' fun r w'' => r = .panicked (flt 2 (i - 2)) ∧ w'' = w' := fun w' => by
            rw [show ((i : Int) + 4 - 6) = ((i - 2 : Nat) : Int) by omega]; exact cthrow 2 (i - 2) w'
          have hib : (i : Int) ≤ 140737488355328 := by omega
          have hib2 : (2 : Int) ≤ (i : Int) := by omega
          clear hL hlo hb
          go_enter Tryd.func62, Tryd.ntmps62
          go_wp2_with fail
          refine hf.mono ?_
          rintro e w1 ⟨⟨rfl, g1⟩, o1⟩
          have O1 : Hid (Onl bp w w1) := o1
          clear o1 hf
          go_wp2_with fail
          refine (hhi _).mono ?_
          rintro e w2 ⟨rfl, rfl⟩
          go_wp2_with fail
          refine (ht _ g1).mono ?_
          rintro e w3 ⟨⟨rfl, g3⟩, o3⟩
          have O3 : Hid (Onl bp w w3) := O1.out.trans o3
          clear o3 O1 ht
          go_wp2_with fail
          refine (hhi _).mono ?_
          rintro e w4 ⟨rfl, rfl⟩
          clear hhi
          obtain ⟨c0, c1, c2, c3, cf⟩ := g3.cell
          go_wp2_with fail
          refine (hth _).mono ?_
          rintro e w5 ⟨rfl, rfl⟩
          clear hth
          go_wp2
          exact ⟨rfl, UP_no HL.out rfl g3, O3.out⟩
      | false =>
        rw [hb] at hhi
        cases hb2 : isLo n with
        | true =>
          rw [hb2] at hlo
          have hb3 : 56320 ≤ n ∧ n < 57344 := by simpa [isLo] using hb2
          have HL : Hid (runeC n (sfx s (i + 4)) = none) := by
            show runeC n (sfx s (i + 4)) = _
            rw [runeC, if_neg (by omega)]
            split
            · rfl
            · rw [if_pos hb3.1]
          have hth : ∀ w', Calls Tryd.prog 33 #[.int .i64 2, .int .i64 ((i : Int) + 4 - 6)] w' fun r w'' => r = .panicked (flt 2 (i - 2)) ∧ w'' = w' := fun w' => by
            rw [show ((i : Int) + 4 - 6) = ((i - 2 : Nat) : Int) by omega]; exact cthrow 2 (i - 2) w'
          have hib : (i : Int) ≤ 140737488355328 := by omega
          have hib2 : (2 : Int) ≤ (i : Int) := by omega
          clear hb hb2 hb3
          go_enter Tryd.func62, Tryd.ntmps62
          go_wp2_with fail
          refine hf.mono ?_
          rintro e w1 ⟨⟨rfl, g1⟩, o1⟩
          have O1 : Hid (Onl bp w w1) := o1
          clear o1 hf
          go_wp2_with fail
          refine (hhi _).mono ?_
          rintro e w2 ⟨rfl, rfl⟩
          go_wp2_with fail
          refine (hhi _).mono ?_
          rintro e w4 ⟨rfl, rfl⟩
          clear hhi
          go_wp2_with fail
          refine (hlo _).mono ?_
          rintro e w4 ⟨rfl, rfl⟩
          clear hlo
          obtain ⟨c0, c1, c2, c3, cf⟩ := g1.cell
          go_wp2_with fail
          refine (hth _).mono ?_
          rintro e w5 ⟨rfl, rfl⟩
          clear hth
          go_wp2
          exact ⟨rfl, UP_no HL.out rfl g1, O1.out⟩
        | false =>
          rw [hb2] at hlo
          have HL : Hid (runeC n (sfx s (i + 4)) = some (n, 6)) := by
            show runeC n (sfx s (i + 4)) = _
            rw [runeC, if_pos]
            simp [isHi] at hb; simp [isLo] at hb2; omega
          clear hb hb2
          go_enter Tryd.func62, Tryd.ntmps62
          go_wp2_with fail
          refine hf.mono ?_
          rintro e w1 ⟨⟨rfl, g1⟩, o1⟩
          have O1 : Hid (Onl bp w w1) := o1
          clear o1 hf
          go_wp2_with fail
          refine (hhi _).mono ?_
          rintro e w2 ⟨rfl, rfl⟩
          go_wp2_with fail
          refine (hhi _).mono ?_
          rintro e w4 ⟨rfl, rfl⟩
          clear hhi
          go_wp2_with fail
          refine (hlo _).mono ?_
          rintro e w4 ⟨rfl, rfl⟩
          clear hlo
          go_wp2
          go_ret
          exact ⟨UP_yes HL.out rfl g1, O1.out⟩
end
end Go.Proofs.YtaghclgookfmnaaDoor
/-
  The code's reader: an escape.
-/
namespace Go.Proofs.YtaghclgookfmnaaDoor
open Go.RowKit
set_option linter.unusedVariables false

/-- The rune that a backslash (the list's first byte) and what is behind it stand for, and how many bytes they are; or where the fault is. -/
def escR (l : List UInt8) : Except Nat (Nat × Nat) :=
  match l with
  | _ :: c :: r =>
    if c = 117 then (match four4 r with
      | (none, o) => .error (2 + o)
      | (some n, _) => match runeC n (r.drop 4) with | none => .error 0 | some (q, k) => .ok (q, k))
    else match esc1 c with
      | some b => .ok (b.toNat, 2)
      | none => .error 1
  | _ => .error 1

def mapE : Except Nat (Nat × Nat) → Except Nat (List UInt8 × Nat)
  | .ok (q, k) => .ok (wr8 q, k)
  | .error o => .error o

theorem esc1_117 : esc1 117 = none := by decide
theorem esc1_lt {c b : UInt8} (h : esc1 c = some b) : b.toNat < 128 := by
  unfold esc1 at h
  repeat' split at h
  all_goals first | (injection h with h; subst h) | cases h
  · next hc => rcases hc with rfl | rfl | rfl <;> decide
  all_goals decide
theorem escL_cons2 (a c : UInt8) (r : List UInt8) : escL (a :: c :: r) = match esc1 c with
    | some b => .ok ([b], 2)
    | none => if c = 117 then (match four4 r with | (none, o) => .error (2 + o) | (some n, _) => pairL n (r.drop 4)) else .error 1 := rfl
theorem escR_cons (a c : UInt8) (r : List UInt8) : escR (a :: c :: r) = if c = 117 then (match four4 r with
      | (none, o) => .error (2 + o)
      | (some n, _) => match runeC n (r.drop 4) with | none => .error 0 | some (q, k) => .ok (q, k))
    else match esc1 c with
      | some b => .ok (b.toNat, 2)
      | none => .error 1 := rfl
theorem escL_R (l : List UInt8) : escL l = mapE (escR l) := by
  match l with
  | [] => rfl
  | [_] => rfl
  | a :: c :: r =>
    rw [escL_cons2, escR_cons]
    by_cases hc : c = 117
    · subst hc
      rw [esc1_117, if_pos rfl]
      simp only [if_true]
      cases hq : four4 r with
      | mk q o =>
        cases q with
        | none => rfl
        | some n =>
          simp only
          unfold pairL runeC
          by_cases hn : n < 55296 ∨ 57343 < n
          · rw [if_pos hn, if_pos hn]; rfl
          · rw [if_neg hn, if_neg hn]
            cases hl : lowL (List.drop 4 r) with
            | none => rfl
            | some m =>
              simp only
              by_cases h5 : 56320 ≤ n
              · rw [if_pos h5, if_pos h5]; rfl
              · rw [if_neg h5, if_neg h5]; rfl
    · rw [if_neg hc, if_neg hc]
      cases he : esc1 c with
      | none => rfl
      | some b =>
        have hb := esc1_lt he
        simp only [mapE]
        rw [wr8, if_pos hb]
        simp

def shS : ByteArray := ⟨#[34, 92, 98, 102, 110, 114, 116]⟩
def shX (c : UInt8) : Int := Lib.indexByte shS.data.toList c
def shOk (c : UInt8) : Bool := decide (c = 47) || match esc1 c with
  | none => decide (shX c = -1)
  | some b => decide (0 ≤ shX c) && decide (shX c < 7) && decide ((#[34, 92, 8, 12, 10, 13, 9] : Array UInt8)[(shX c).toNat]? = some b)
theorem shOk_all : ∀ n, n < 256 → shOk (UInt8.ofNat n) = true := by decide +kernel
theorem shOk_c (c : UInt8) : shOk c = true := by have := shOk_all c.toNat c.toNat_lt; rwa [UInt8.ofNat_toNat] at this
theorem shX_none {c : UInt8} (hc : c ≠ 47) (h : esc1 c = none) : shX c = -1 := by have := shOk_c c; rw [shOk, h] at this; simpa [hc] using this
theorem shX_some {c b : UInt8} (hc : c ≠ 47) (h : esc1 c = some b) : ∃ k : Nat, shX c = (k : Int) ∧ k < 7 ∧ (#[34, 92, 8, 12, 10, 13, 9] : Array UInt8)[k]? = some b := by
  have := shOk_c c
  rw [shOk, h] at this
  simp only [hc, decide_false, Bool.false_or, Bool.and_eq_true, decide_eq_true_eq] at this
  exact ⟨(shX c).toNat, by omega, by omega, this.2⟩
theorem cidx2 (c : UInt8) (w : World) : Calls Tryd.prog 63 #[.string ⟨#[34, 92, 98, 102, 110, 114, 116]⟩, .int .u8 (c.toNat : Int)] w fun e w' => e = .returned (.int .i64 (shX c)) ∧ w' = w := by
  have h := Tryd.strings_IndexByte shS (c.toNat : Int) w
  rw [show ((c.toNat : Int).toNat.toUInt8) = c by simp] at h
  exact h

/-- What readEscape answers. -/
def EP (bp : Nat) (s : ByteArray) (i : Nat) (vL : Value) (dp : Nat) (r : Ending) (w' : World) : Except Nat (Nat × Nat) → Prop
  | .ok (q, k) => r = .returned (.int .i32 (q : Int)) ∧ CD bp s (i + k) vL dp w'
  | .error o => r = .panicked (flt 2 (i + o)) ∧ ∃ j, CD bp s j vL dp w'

theorem sfx_two {s : ByteArray} {i : Nat} (h : i + 1 < s.size) : sfx s i = s[i] :: s[i + 1] :: sfx s (i + 2) := by rw [sfx_cons s i (by omega), sfx_cons s (i + 1) h]
section
variable (bp : Nat) (s : ByteArray) (i : Nat) (vL : Value) (dp : Nat) (w : World)
set_option maxHeartbeats 1000000 in
theorem cesc (hs : s.size ≤ 140737488355328) (h : CD bp s i vL dp w) (h1 : (sfx s i).head? = some 92) :
    Calls Tryd.prog 54 #[.pointer (some ⟨bp, 0, none⟩)] w fun r w' => EP bp s i vL dp r w' (escR (sfx s i)) ∧ Onl bp w w' := by
  have hi := head_lt h1
  have hn := cneed_yes bp s i vL dp 92 w hs h h1
  rw [show ((92 : UInt8).toNat : Int) = 92 from rfl] at hn
  clear h1
  by_cases hu : (sfx s (i + 1)).head? = some 117
  · have hi1 := head_lt hu
    have hc : s[i + 1] = 117 := by rw [sfx_cons s (i + 1) hi1] at hu; simpa using hu
    have ht := fun w' h' => ctake_yes bp s (i + 1) vL dp 117 w' hs h' hu
    rw [show ((117 : UInt8).toNat : Int) = 117 from rfl] at ht
    have hr := fun w' h' => crune bp s (i + 2) vL dp w' hs h' (by omega) (by omega)
    have HE : Hid (escR (sfx s i) = (match four4 (sfx s (i + 2)) with
      | (none, o) => .error (2 + o)
      | (some n, _) => match runeC n (sfx s (i + 2 + 4)) with | none => .error 0 | some (q, k) => .ok (q, k))) := by
      show escR (sfx s i) = _
      rw [sfx_two hi1, escR, if_pos hc, sfx_drop]
    clear hu hc
    go_enter Tryd.func54, Tryd.ntmps54
    go_wp2_with fail
    refine hn.mono ?_
    rintro e w1 ⟨rfl, g1, o1⟩
    have O1 : Hid (Onl bp w w1) := o1
    clear o1 hn
    go_wp2_with fail
    refine (ht w1 g1).mono ?_
    rintro e w2 ⟨rfl, g2, o2⟩
    have O2 : Hid (Onl bp w w2) := O1.out.trans o2
    clear o2 O1 ht
    cases hq : four4 (sfx s (i + 2)) with
    | mk q o =>
      rw [hq] at hr
      cases q with
      | none =>
        have HE2 : Hid (escR (sfx s i) = .error (2 + o)) := by have := HE.out; rw [hq] at this; exact this
        clear hq HE
        go_wp2_with fail
        refine (hr w2 g2).mono ?_
        rintro e w3 ⟨⟨rfl, j, g3⟩, o3⟩
        have O3 : Hid (Onl bp w w3) := O2.out.trans o3
        clear o3 O2 hr
        go_wp2
        refine ⟨rfl, ?_, O3.out⟩
        rw [HE2.out]; exact ⟨by rw [Nat.add_assoc], j, g3⟩
      | some n =>
        cases hR : runeC n (sfx s (i + 2 + 4)) with
        | none =>
          have HE2 : Hid (escR (sfx s i) = .error 0) := by have := HE.out; rw [hq] at this; simp only [hR] at this; exact this
          have hr2 := fun w' h' => (hr w' h').mono (R' := fun r w'' => r = .panicked (flt 2 i) ∧ (∃ j, CD bp s j vL dp w'') ∧ Onl bp w' w'') (by
            rintro r w'' ⟨hU, o⟩
            simp only [UP, hR] at hU
            exact ⟨hU.1, hU.2, o⟩)
          clear hq HE hR hr
          go_wp2_with fail
          refine (hr2 w2 g2).mono ?_
          rintro e w3 ⟨rfl, ⟨j, g3⟩, o3⟩
          have O3 : Hid (Onl bp w w3) := O2.out.trans o3
          clear o3 O2 hr2
          go_wp2
          refine ⟨rfl, ?_, O3.out⟩
          rw [HE2.out]; exact ⟨rfl, j, g3⟩
        | some x =>
          obtain ⟨q, k⟩ := x
          have HE2 : Hid (escR (sfx s i) = .ok (q, k)) := by have := HE.out; rw [hq] at this; simp only [hR] at this; exact this
          have hr2 := fun w' h' => (hr w' h').mono (R' := fun r w'' => r = .returned (.int .i32 (q : Int)) ∧ CD bp s (i + k) vL dp w'' ∧ Onl bp w' w'') (by
            rintro r w'' ⟨hU, o⟩
            simp only [UP, hR] at hU
            rw [show i + 2 + k - 2 = i + k by omega] at hU
            exact ⟨hU.1, hU.2, o⟩)
          clear hq HE hR hr
          go_wp2_with fail
          refine (hr2 w2 g2).mono ?_
          rintro e w3 ⟨rfl, g3, o3⟩
          have O3 : Hid (Onl bp w w3) := O2.out.trans o3
          clear o3 O2 hr2
          go_wp2
          go_ret
          refine ⟨?_, O3.out⟩
          rw [HE2.out]; exact ⟨rfl, g3⟩
  · have ht := fun w' h' => ctake_no bp s (i + 1) vL dp 117 w' h' (by omega) (by decide) hu
    rw [show ((117 : UInt8).toNat : Int) = 117 from rfl] at ht
    by_cases hsl : (sfx s (i + 1)).head? = some 47
    · have hi1 := head_lt hsl
      have hc : s[i + 1] = 47 := by rw [sfx_cons s (i + 1) hi1] at hsl; simpa using hsl
      have ht2 := fun w' h' => ctake_yes bp s (i + 1) vL dp 47 w' hs h' hsl
      rw [show ((47 : UInt8).toNat : Int) = 47 from rfl] at ht2
      have HE : Hid (escR (sfx s i) = .ok (47, 2)) := by
        show escR (sfx s i) = _
        rw [sfx_two hi1, escR, hc, if_neg (by decide)]; rfl
      clear hu hsl hc
      go_enter Tryd.func54, Tryd.ntmps54
      go_wp2_with fail
      refine hn.mono ?_
      rintro e w1 ⟨rfl, g1, o1⟩
      have O1 : Hid (Onl bp w w1) := o1
      clear o1 hn
      go_wp2_with fail
      refine (ht w1 g1).mono ?_
      rintro e w2 ⟨rfl, g2, o2⟩
      have O2 : Hid (Onl bp w w2) := O1.out.trans o2
      clear o2 O1 ht
      go_wp2_with fail
      refine (ht2 w2 g2).mono ?_
      rintro e w3 ⟨rfl, g3, o3⟩
      have O3 : Hid (Onl bp w w3) := O2.out.trans o3
      clear o3 O2 ht2
      go_wp2
      go_ret
      refine ⟨?_, O3.out⟩
      rw [HE.out]; exact ⟨rfl, g3⟩
    · have ht2 := fun w' h' => ctake_no bp s (i + 1) vL dp 47 w' h' (by omega) (by decide) hsl
      rw [show ((47 : UInt8).toNat : Int) = 47 from rfl] at ht2
      have hp := fun w' h' => cpeek bp s (i + 1) vL dp w' h' (by omega)
      have hx := fun w' => cidx2 (pk (sfx s (i + 1))) w'
      have n47 : pk (sfx s (i + 1)) ≠ 47 := pk_ne (by decide) hsl
      have n117 : pk (sfx s (i + 1)) ≠ 117 := pk_ne (by decide) hu
      cases he : esc1 (pk (sfx s (i + 1))) with
      | none =>
        rw [shX_none n47 he] at hx
        have HE : Hid (escR (sfx s i) = .error 1) := by
          show escR (sfx s i) = _
          by_cases hi1 : i + 1 < s.size
          · rw [sfx_cons s (i + 1) hi1] at he n117
            rw [sfx_two hi1, escR, if_neg (by exact n117)]
            rw [show pk (s[i + 1] :: sfx s (i + 1 + 1)) = s[i + 1] from rfl] at he
            rw [he]
          · rw [sfx_cons s i hi, sfx_nil s (i + 1) (by omega)]; rfl
        clear he n47 n117 hu hsl
        go_enter Tryd.func54, Tryd.ntmps54
        go_wp2_with fail
        refine hn.mono ?_
        rintro e w1 ⟨rfl, g1, o1⟩
        have O1 : Hid (Onl bp w w1) := o1
        clear o1 hn
        go_wp2_with fail
        refine (ht w1 g1).mono ?_
        rintro e w2 ⟨rfl, g2, o2⟩
        have O2 : Hid (Onl bp w w2) := O1.out.trans o2
        clear o2 O1 ht
        go_wp2_with fail
        refine (ht2 w2 g2).mono ?_
        rintro e w3 ⟨rfl, g3, o3⟩
        have O3 : Hid (Onl bp w w3) := O2.out.trans o3
        clear o3 O2 ht2
        go_wp2_with fail
        refine (hp w3 g3).mono ?_
        rintro e w4 ⟨rfl, g4, o4⟩
        have O4 : Hid (Onl bp w w4) := O3.out.trans o4
        clear o4 O3 hp
        go_wp2_with fail
        refine (hx w4).mono ?_
        rintro e w5 ⟨rfl, rfl⟩
        clear hx
        have hf := cfail bp s (i + 1) vL dp w5 g4
        go_wp2_with fail
        refine hf.mono ?_
        rintro e w6 ⟨rfl, rfl⟩
        clear hf
        go_wp2
        refine ⟨rfl, ?_, O4.out⟩
        rw [HE.out]; exact ⟨rfl, _, g4⟩
      | some b =>
        obtain ⟨k, hk, hk7, hkb⟩ := shX_some n47 he
        rw [hk] at hx
        have hi1 : i + 1 < s.size := by
          by_cases hi1 : i + 1 < s.size
          · exact hi1
          · rw [sfx_nil s (i + 1) (by omega)] at he; cases he
        have HE : Hid (escR (sfx s i) = .ok (b.toNat, 2)) := by
          show escR (sfx s i) = _
          rw [sfx_cons s (i + 1) hi1] at he n117
          rw [sfx_two hi1, escR, if_neg (by exact n117)]
          rw [show pk (s[i + 1] :: sfx s (i + 1 + 1)) = s[i + 1] from rfl] at he
          rw [he]
        clear he n47 n117 hu hsl hk
        have hk7' : (k : Int) < 7 := by omega
        have hi1b : (i : Int) + 1 ≤ 140737488355328 := by omega
        go_enter Tryd.func54, Tryd.ntmps54
        go_wp2_with fail
        refine hn.mono ?_
        rintro e w1 ⟨rfl, g1, o1⟩
        have O1 : Hid (Onl bp w w1) := o1
        clear o1 hn
        go_wp2_with fail
        refine (ht w1 g1).mono ?_
        rintro e w2 ⟨rfl, g2, o2⟩
        have O2 : Hid (Onl bp w w2) := O1.out.trans o2
        clear o2 O1 ht
        go_wp2_with fail
        refine (ht2 w2 g2).mono ?_
        rintro e w3 ⟨rfl, g3, o3⟩
        have O3 : Hid (Onl bp w w3) := O2.out.trans o3
        clear o3 O2 ht2
        go_wp2_with fail
        refine (hp w3 g3).mono ?_
        rintro e w4 ⟨rfl, g4, o4⟩
        have O4 : Hid (Onl bp w w4) := O3.out.trans o4
        clear o4 O3 hp
        go_wp2_with fail
        refine (hx w4).mono ?_
        rintro e w5 ⟨rfl, rfl⟩
        clear hx
        obtain ⟨c0, c1, c2, c3, cf⟩ := g4.cell
        have f1 := cf 1
        have hk8 : k = 0 ∨ k = 1 ∨ k = 2 ∨ k = 3 ∨ k = 4 ∨ k = 5 ∨ k = 6 := by omega
        clear hk7 hk7'
        rcases hk8 with rfl | rfl | rfl | rfl | rfl | rfl | rfl
        all_goals
          injection hkb with hkb
          have HB : Hid _ := hkb
          clear hkb
          go_wp2
          go_ret
          refine ⟨?_, Onl.setCell O4.out _ g4⟩
          rw [HE.out]
          refine ⟨?_, g4.setI (i + 2)⟩
          rw [← HB.out]
          exact congrArg (fun z => Ending.returned (Value.int .i32 z)) (by decide +kernel)
end
end Go.Proofs.YtaghclgookfmnaaDoor
