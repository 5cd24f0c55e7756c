/-
  Joined by program: LOrdP, LOrd.
-/
import Derived.Test.YtoijppmkkhgkdacGreatDoorY2
import Derived.Test.YtoijppmkkhgkdacGreatDoorV1
/-
  Print of an object of two names.
-/
namespace Go.Proofs.YtoijppmkkhgkdacGreatDoor
open Go.RowKit
set_option linter.unusedVariables false

/-- The text of two members, as the law joins it. -/
def txt2 (p q : ByteArray) (m n : UInt8) : ByteArray := (⟨#[123]⟩ : ByteArray) ++ p ++ ⟨#[58, m, 44]⟩ ++ q ++ ⟨#[58, n, 125]⟩
theorem txt2_list (a b : List UInt8) (m n : Nat) : (txt2 ⟨(strT a).toArray⟩ ⟨(strT b).toArray⟩ (UInt8.ofNat (48 + m)) (UInt8.ofNat (48 + n))).data.toList = two a b m n := by
  unfold txt2 two; simp
theorem ba_ext {x y : ByteArray} (h : x.data.toList = y.data.toList) : x = y := by
  rw [← ba_eta x, ← ba_eta y, h]
theorem txt2_eq (a b : List UInt8) (m n : Nat) : (⟨(two a b m n).toArray⟩ : ByteArray) = txt2 ⟨(strT a).toArray⟩ ⟨(strT b).toArray⟩ (UInt8.ofNat (48 + m)) (UInt8.ofNat (48 + n)) :=
  ba_ext (by rw [txt2_list])
theorem two_len (a b : List UInt8) (m n : Nat) : (two a b m n).length ≤ 6 * a.length + 6 * b.length + 11 := by
  have h1 := strT_len a
  have h2 := strT_len b
  unfold two; simp; omega
/-- Print of such a text. -/
theorem print_two (a b : List UInt8) (ha : U8 a) (hb : U8 b) (hab : a ≠ b) (m n : Nat) (m1 : 1 ≤ m) (m2 : m ≤ 9) (n1 : 1 ≤ n) (n2 : n ≤ 9) (hl : 6 * a.length + 6 * b.length + 20 ≤ 65536) (w : World) (hg : 8 ≤ w.heap.size) (hG : GV w)
    (htab : Lib.TabBelow Tryz.prog w.heap.size w "internal/strconv.uint64pow10" .u64 Lib.pow10Tab) (P Q : ByteArray) (hP : P = ⟨(strT a).toArray⟩) (hQ : Q = ⟨(strT b).toArray⟩) :
    Calls Tryz.prog 8 #[.string (txt2 P Q (UInt8.ofNat (48 + m)) (UInt8.ofNat (48 + n)))] w fun r w' => r = .returned (.tuple #[.string (if aheadL b a = true then txt2 Q P (UInt8.ofNat (48 + n)) (UInt8.ofNat (48 + m)) else txt2 P Q (UInt8.ofNat (48 + m)) (UInt8.ofNat (48 + n))), .int .i64 0, .int .i64 0]) ∧ Below w.heap.size w w' := by
  have hc := cprint (txt2 P Q (UInt8.ofNat (48 + m)) (UInt8.ofNat (48 + n))) w hg hG htab
  have e : (txt2 P Q (UInt8.ofNat (48 + m)) (UInt8.ofNat (48 + n))).data.toList = two a b m n := by rw [hP, hQ]; exact txt2_list a b m n
  rw [e, prF_two ha hb hab m n m1 m2 n1 n2 (by have := two_len a b m n; omega)] at hc
  refine hc.mono ?_
  rintro r w' ⟨rfl, hb'⟩
  refine ⟨?_, hb'⟩
  by_cases h : aheadL b a = true
  · simp only [h, if_true]; rw [txt2_eq, ← hP, ← hQ]; rfl
  · simp only [h]; rw [if_neg (by simp), if_neg (by simp), txt2_eq, ← hP, ← hQ]; rfl
end Go.Proofs.YtoijppmkkhgkdacGreatDoor
/-
  The law JsonOrdered, walked.
-/
namespace Go.Proofs.YtoijppmkkhgkdacGreatDoor
open Go.RowKit
set_option linter.unusedVariables false
set_option maxRecDepth 100000 in
set_option maxHeartbeats 4000000 in
theorem lordered (a b : ByteArray) (w : World) (hg : 8 ≤ w.heap.size) (hG : GV w) (htab : Lib.TabBelow Tryz.prog w.heap.size w "internal/strconv.uint64pow10" .u64 Lib.pow10Tab) (hs : a.size ≤ 140737488351232) (hs' : b.size ≤ 140737488351232) :
    Calls Tryz.prog 4 #[.string a, .string b] w fun r w' => r = .returned (.bool true) ∧ Below w.heap.size w w' := by
  have hra := rright a w hs
  have hrb := rright b w hs'
  have hnm := fun e w' => lnumN e w'
  by_cases hu : U8 a.data.toList
  · by_cases hv : U8 b.data.toList
    · by_cases hab : a.toList = b.toList
      · have b1 : (a.toList == b.toList) = true := beq_iff_eq.2 hab
        clear hab
        have HU := Lib.hid hu
        have HV := Lib.hid hv
        clear hu hv
        go_enter Tryz.func4, Tryz.ntmps4
        go_wp2_with fail
        refine hra.mono ?_
        rintro r w' ⟨⟨x, rfl, hx⟩, rfl⟩
        obtain rfl : x = true := hx.2 HU.out
        clear hx hra
        go_wp2_with fail
        refine hrb.mono ?_
        rintro r w' ⟨⟨x, rfl, hx⟩, rfl⟩
        obtain rfl : x = true := hx.2 HV.out
        clear hx hrb
        go_wp2
        go_ret
        exact ⟨rfl, Below.refl _ _⟩
      · have b1 : (a.toList == b.toList) = false := beq_eq_false_iff_ne.2 hab
        by_cases hbig : 65536 < 6 * a.size + 6 * b.size + 20
        · have i1 : (65536 : Int) < 6 * (a.size : Int) + 6 * (b.size : Int) + 20 := by omega
          have HU := Lib.hid hu
          have HV := Lib.hid hv
          clear hu hv hab
          go_enter Tryz.func4, Tryz.ntmps4
          go_wp2_with fail
          refine hra.mono ?_
          rintro r w' ⟨⟨x, rfl, hx⟩, rfl⟩
          obtain rfl : x = true := hx.2 HU.out
          clear hx hra
          go_wp2_with fail
          refine hrb.mono ?_
          rintro r w' ⟨⟨x, rfl, hx⟩, rfl⟩
          obtain rfl : x = true := hx.2 HV.out
          clear hx hrb
          go_wp2
          go_ret
          exact ⟨rfl, Below.refl _ _⟩
        · have i1 : decide ((65536 : Int) < 6 * (a.size : Int) + 6 * (b.size : Int) + 20) = false := by simp; omega
          have hne : a.data.toList ≠ b.data.toList := fun e => hab (by rw [ba_ext e])
          have hla : a.data.toList.length = a.size := by simp
          have hlb : b.data.toList.length = b.size := by simp
          have hsa := rstrT a w (by omega)
          have hsb := fun w' => rstrT b w' (by omega)
          have hah := fun w' => rahead a b w' (by omega) (by omega)
          have hor := ahead_or hu hv hne
          have hor' := ahead_or hv hu (Ne.symm hne)
          have e49 : UInt8.ofNat (48 + 1) = 49 := by decide
          have e50 : UInt8.ofNat (48 + 2) = 50 := by decide
          have hp1 : ∀ P Q, P = (⟨(strT a.data.toList).toArray⟩ : ByteArray) → Q = (⟨(strT b.data.toList).toArray⟩ : ByteArray) → ∀ w1, Below w.heap.size w w1 → Calls Tryz.prog 8 #[.string (txt2 P Q 49 50)] w1 fun r w' => r = .returned (.tuple #[.string (if aheadL b.data.toList a.data.toList = true then txt2 Q P 50 49 else txt2 P Q 49 50), .int .i64 0, .int .i64 0]) ∧ Below w1.heap.size w1 w' := fun P Q hP hQ w1 b1 => by
            have hz := b1.size
            have := print_two a.data.toList b.data.toList hu hv hne 1 2 (by omega) (by omega) (by omega) (by omega) (by omega) w1 (by omega) (hG.kept fun k hk => b1.block k (by omega)) (fun w' hb => htab w' (b1.trans (hb.mono hz))) P Q hP hQ
            rw [e49, e50] at this
            exact this
          have hp2 : ∀ P Q, P = (⟨(strT a.data.toList).toArray⟩ : ByteArray) → Q = (⟨(strT b.data.toList).toArray⟩ : ByteArray) → ∀ w1, Below w.heap.size w w1 → Calls Tryz.prog 8 #[.string (txt2 Q P 50 49)] w1 fun r w' => r = .returned (.tuple #[.string (if aheadL a.data.toList b.data.toList = true then txt2 P Q 49 50 else txt2 Q P 50 49), .int .i64 0, .int .i64 0]) ∧ Below w1.heap.size w1 w' := fun P Q hP hQ w1 b1 => by
            have hz := b1.size
            have := print_two b.data.toList a.data.toList hv hu (Ne.symm hne) 2 1 (by omega) (by omega) (by omega) (by omega) (by omega) w1 (by omega) (hG.kept fun k hk => b1.block k (by omega)) (fun w' hb => htab w' (b1.trans (hb.mono hz))) Q P hQ hP
            rw [e49, e50] at this
            exact this
          have hta : (⟨(strT a.data.toList).toArray⟩ : ByteArray).size ≤ 65536 := by have := strT_len a.data.toList; show (strT a.data.toList).toArray.size ≤ _; simp only [List.size_toArray]; omega
          have htb : (⟨(strT b.data.toList).toArray⟩ : ByteArray).size ≤ 65536 := by have := strT_len b.data.toList; show (strT b.data.toList).toArray.size ≤ _; simp only [List.size_toArray]; omega
          have hq1 := hp1 _ _ rfl rfl
          have hq2 := hp2 _ _ rfl rfl
          rw [hor] at hq1
          generalize (⟨(strT a.data.toList).toArray⟩ : ByteArray) = TA at hsa hq1 hq2 hta
          generalize (⟨(strT b.data.toList).toArray⟩ : ByteArray) = TB at hsb hq1 hq2 htb
          generalize aheadL a.data.toList b.data.toList = AH at hq1 hq2 hah
          obtain ⟨R, hR1, hR2⟩ : ∃ R, (if AH = true then txt2 TA TB 49 50 else txt2 TB TA 50 49) = R ∧ (if (!AH) = true then txt2 TB TA 50 49 else txt2 TA TB 49 50) = R := ⟨_, rfl, by cases AH <;> rfl⟩
          rw [hR2] at hq1
          rw [hR1] at hq2
          unfold txt2 at hq1 hq2 hR1
          have HU := Lib.hid hu
          have HV := Lib.hid hv
          have HQ1 := Lib.hid hq1
          have HQ2 := Lib.hid hq2
          have HSB := Lib.hid hsb
          have HAH := Lib.hid hah
          have HR := Lib.hid hR1
          clear hR1 hR2
          clear hu hv hab hor hor' e49 e50 hp1 hp2 hq1 hq2 hla hlb hne hG htab hbig hsb hah
          go_enter Tryz.func4, Tryz.ntmps4
          go_wp2_with fail
          refine hra.mono ?_
          rintro r w' ⟨⟨x, rfl, hx⟩, rfl⟩
          obtain rfl : x = true := hx.2 HU.out
          clear hx hra
          go_wp2_with fail
          refine hrb.mono ?_
          rintro r w' ⟨⟨x, rfl, hx⟩, rfl⟩
          obtain rfl : x = true := hx.2 HV.out
          clear hx hrb
          go_wp2_with fail
          refine hsa.mono ?_
          rintro r w1 ⟨rfl, c1⟩
          have B1 := Lib.hid c1
          clear c1 hsa
          go_wp2_with fail
          refine (HSB.out w1).mono ?_
          rintro r w2 ⟨rfl, c2⟩
          have B2 := Lib.hid (B1.out.trans (c2.mono B1.out.size))
          clear c2
          go_wp2_with fail
          refine (HQ1.out w2 B2.out).mono ?_
          rintro r w3 ⟨rfl, c3⟩
          have B3 := Lib.hid (B2.out.trans (c3.mono B2.out.size))
          clear c3
          go_wp2_with fail
          refine (HQ2.out w3 B3.out).mono ?_
          rintro r w4 ⟨rfl, c4⟩
          have B4 := Lib.hid (B3.out.trans (c4.mono B3.out.size))
          clear c4
          go_wp2_with fail
          refine (HAH.out w4).mono ?_
          rintro r w5 ⟨rfl, c5⟩
          have B5 := Lib.hid (B4.out.trans (c5.mono B4.out.size))
          clear c5
          cases AH with
          | true =>
            have hR := HR.out
            rw [if_pos rfl] at hR
            subst hR
            go_wp2_with (go_at_call 10; refine (hnm _ _).mono ?_; rintro e w' ⟨rfl, rfl⟩)
            go_ret
            exact ⟨rfl, B5.out⟩
          | false =>
            have hR := HR.out
            rw [if_neg (by decide)] at hR
            subst hR
            go_wp2_with (go_at_call 10; refine (hnm _ _).mono ?_; rintro e w' ⟨rfl, rfl⟩)
            go_ret
            exact ⟨rfl, B5.out⟩
    · have HU := Lib.hid hu
      have HV := Lib.hid hv
      clear hu hv
      go_enter Tryz.func4, Tryz.ntmps4
      go_wp2_with fail
      refine hra.mono ?_
      rintro r w' ⟨⟨x, rfl, hx⟩, rfl⟩
      obtain rfl : x = true := hx.2 HU.out
      clear hx hra
      go_wp2_with fail
      refine hrb.mono ?_
      rintro r w' ⟨⟨x, rfl, hx⟩, rfl⟩
      obtain rfl : x = false := by
        cases x with
        | false => rfl
        | true => exact absurd (hx.1 rfl) HV.out
      clear hx hrb
      go_wp2
      go_ret
      exact ⟨rfl, Below.refl _ _⟩
  · have HU := Lib.hid hu
    clear hu
    go_enter Tryz.func4, Tryz.ntmps4
    go_wp2_with fail
    refine hra.mono ?_
    rintro r w' ⟨⟨x, rfl, hx⟩, rfl⟩
    obtain rfl : x = false := by
      cases x with
      | false => rfl
      | true => exact absurd (hx.1 rfl) HU.out
    clear hx hra
    go_wp2_with fail
    refine hrb.mono ?_
    rintro r w' ⟨⟨x, rfl, hx⟩, rfl⟩
    clear hx hrb
    go_wp2
    go_ret
    exact ⟨rfl, Below.refl _ _⟩
end Go.Proofs.YtoijppmkkhgkdacGreatDoor
