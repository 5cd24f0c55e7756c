import Derived.Test.YtoijppmkkhgkdacGreatDoorWPrint
import Derived.Test.YtoijppmkkhgkdacGreatDoorNR3
import Derived.Test.YtoijppmkkhgkdacGreatDoorQWrap
/-
  The law JsonWrapped, walked.
-/
namespace Go.Proofs.YtoijppmkkhgkdacGreatDoor
open Go.RowKit
set_option linter.unusedVariables false
def erR (R : Except (Nat × Nat) JT) : Nat := match R with | .ok _ => 0 | .error (e, _) => e
def plR (R : Except (Nat × Nat) JT) : Nat := match R with | .ok _ => 0 | .error (_, a) => a
theorem prF_er (R : Except (Nat × Nat) JT) : (prF R).2.1 = erR R ∧ (prF R).2.2 = plR R := by
  cases R with
  | ok t => exact ⟨rfl, rfl⟩
  | error e => obtain ⟨e, a⟩ := e; exact ⟨rfl, rfl⟩
set_option maxRecDepth 100000 in
set_option maxHeartbeats 1000000 in
theorem rread_long (s : ByteArray) (w : World) (hl : 65536 < s.size) (hs : s.size ≤ 4611686018427387904) :
    Calls Tryz.prog 9 #[.string s] w fun r w' => r = .returned (.tuple #[.slice none 0 0, .int .i64 1, .int .i64 0]) ∧ Below w.heap.size w w' := by
  have i1 : (65536 : Int) < (s.size : Int) := by omega
  go_enter Tryz.func9, Tryz.ntmps9
  go_wp2
  go_ret3
  exact ⟨rfl, Below.refl _ _⟩
/-- What ReadJson's number is, of any text. -/
theorem rread_num (s : ByteArray) (w : World) (hs : s.size ≤ 4611686018427387904) :
    Calls Tryz.prog 9 #[.string s] w fun r w' => ((∃ v, r = .returned (.tuple #[v, .int .i64 (erR (readL s.data.toList) : Int), .int .i64 (plR (readL s.data.toList) : Int)])) ∧ (erR (readL s.data.toList) = 0 → ∃ t, readL s.data.toList = .ok t)) ∧ Below w.heap.size w w' := by
  by_cases hl : 65536 < s.size
  · have e : readL s.data.toList = .error (1, 0) := by unfold readL; rw [if_pos (by simpa using hl)]
    rw [e]
    refine (rread_long s w hl hs).mono ?_
    rintro r w' ⟨rfl, hb⟩
    exact ⟨⟨⟨_, rfl⟩, fun h => by simp [erR] at h⟩, hb⟩
  · refine (rread s w (by omega)).mono ?_
    generalize readL s.data.toList = R
    rintro r w' ⟨h, hb⟩
    refine ⟨?_, hb⟩
    cases R with
    | ok t => obtain ⟨v, e, _⟩ := h; exact ⟨⟨v, e⟩, fun _ => ⟨t, rfl⟩⟩
    | error e => obtain ⟨e, a⟩ := e; exact ⟨⟨_, h.1⟩, fun h0 => by have := h.2; simp [erR] at h0; omega⟩
theorem print_num (s : ByteArray) (w : World) (hg : 8 ≤ w.heap.size) (hG : GV w) (htab : Lib.TabBelow Tryz.prog w.heap.size w "internal/strconv.uint64pow10" .u64 Lib.pow10Tab) :
    Calls Tryz.prog 8 #[.string s] w fun r w' => r = .returned (.tuple #[.string ⟨(prF (readL s.data.toList)).1.toArray⟩, .int .i64 (erR (readL s.data.toList) : Int), .int .i64 (plR (readL s.data.toList) : Int)]) ∧ Below w.heap.size w w' := by
  have := cprint s w hg hG htab
  rw [(prF_er _).1, (prF_er _).2] at this
  exact this
def txtB (s t : ByteArray) : ByteArray := (⟨#[91, 32]⟩ : ByteArray) ++ s ++ ⟨#[9, 44, 13, 10]⟩ ++ t ++ ⟨#[93]⟩
theorem txtB_list (s t : ByteArray) : (txtB s t).data.toList = both s.data.toList t.data.toList := by unfold txtB both; simp
def outB (a b : ByteArray) : ByteArray := (⟨#[91]⟩ : ByteArray) ++ a ++ ⟨#[44]⟩ ++ b ++ ⟨#[93]⟩
theorem outB_list (a b : List UInt8) : (⟨(91 :: (a ++ 44 :: b) ++ [93]).toArray⟩ : ByteArray) = outB ⟨a.toArray⟩ ⟨b.toArray⟩ := by
  unfold outB
  apply ByteArray.ext
  simp
set_option maxRecDepth 100000 in
set_option maxHeartbeats 4000000 in
theorem lwrapped (s t : ByteArray) (w : World) (hg : 8 ≤ w.heap.size) (hG : GV w) (htab : Lib.TabBelow Tryz.prog w.heap.size w "internal/strconv.uint64pow10" .u64 Lib.pow10Tab) (hs : s.size ≤ 140737488351232) (ht : t.size ≤ 140737488351232) :
    Calls Tryz.prog 3 #[.string s, .string t] w fun r w' => r = .returned (.bool true) ∧ Below w.heap.size w w' := by
  have hnm := fun e w' => lnumN e w'
  have hp : ∀ (x : ByteArray) (w1 : World), Below w.heap.size w w1 → Calls Tryz.prog 8 #[.string x] w1 fun r w' => r = .returned (.tuple #[.string ⟨(prF (readL x.data.toList)).1.toArray⟩, .int .i64 (erR (readL x.data.toList) : Int), .int .i64 (plR (readL x.data.toList) : Int)]) ∧ Below w1.heap.size w1 w' := fun x w1 b1 => by
    have hz := b1.size
    exact print_num x w1 (by omega) (hG.kept fun k hk => b1.block k (by omega)) (fun w' hb => htab w' (b1.trans (hb.mono hz)))
  have hp1 := hp s w (Below.refl _ _)
  have hp2 := fun w1 b1 => hp t w1 b1
  have hp3 := fun w1 b1 => hp (txtB s t) w1 b1
  have hr1 := fun w1 => rread_num s w1 (by omega)
  have hr2 := fun w1 => rread_num t w1 (by omega)
  have hr3 := fun w1 => rread_num (txtB s t) w1 (by unfold txtB; simp only [ByteArray.size_append]; show 2 + s.size + 4 + t.size + 1 ≤ _; omega)
  have hfin : (∃ x, readL s.data.toList = .ok x) → (∃ x, readL t.data.toList = .ok x) → (∃ x, readL (txtB s t).data.toList = .ok x) → (⟨(prF (readL (txtB s t).data.toList)).1.toArray⟩ : ByteArray) = outB ⟨(prF (readL s.data.toList)).1.toArray⟩ ⟨(prF (readL t.data.toList)).1.toArray⟩ := by
    rintro ⟨x1, h1⟩ ⟨x2, h2⟩ ⟨x3, h3⟩
    have h3' := h3
    rw [txtB_list] at h3'
    rw [h1, h2, h3, prF_both h1 h2 h3']
    exact outB_list _ _
  have hX : txtB s t = (⟨#[91, 32]⟩ : ByteArray) ++ s ++ ⟨#[9, 44, 13, 10]⟩ ++ t ++ ⟨#[93]⟩ := rfl
  have hO : ∀ a b, outB a b = (⟨#[91]⟩ : ByteArray) ++ a ++ ⟨#[44]⟩ ++ b ++ ⟨#[93]⟩ := fun a b => rfl
  have hsz1 : (⟨(prF (readL s.data.toList)).1.toArray⟩ : ByteArray).size ≤ 1000000000 := by
    cases hR : readL s.data.toList with
    | ok x => have := (read_fit hR).2.one (flat 0 [] x).length 0; show (prF (.ok x)).1.toArray.size ≤ _; simpa [prF] using this
    | error e => obtain ⟨e, a⟩ := e; show (prF (.error (e, a))).1.toArray.size ≤ _; simp [prF]
  have hsz2 : (⟨(prF (readL t.data.toList)).1.toArray⟩ : ByteArray).size ≤ 1000000000 := by
    cases hR : readL t.data.toList with
    | ok x => have := (read_fit hR).2.one (flat 0 [] x).length 0; show (prF (.ok x)).1.toArray.size ≤ _; simpa [prF] using this
    | error e => obtain ⟨e, a⟩ := e; show (prF (.error (e, a))).1.toArray.size ≤ _; simp [prF]
  generalize (⟨(prF (readL s.data.toList)).1.toArray⟩ : ByteArray) = SA at hp1 hfin hsz1
  generalize (⟨(prF (readL t.data.toList)).1.toArray⟩ : ByteArray) = SB at hp2 hfin hsz2
  generalize (⟨(prF (readL (txtB s t).data.toList)).1.toArray⟩ : ByteArray) = SC at hp3 hfin
  generalize readL s.data.toList = R1 at hp1 hr1 hfin
  generalize readL t.data.toList = R2 at hp2 hr2 hfin
  generalize readL (txtB s t).data.toList = R3 at hp3 hr3 hfin
  rw [hX] at hp3 hr3
  simp only [hO] at hfin
  have HP2 := Lib.hid hp2
  have HP3 := Lib.hid hp3
  have HR1 := Lib.hid hr1
  have HR2 := Lib.hid hr2
  have HR3 := Lib.hid hr3
  have HF := Lib.hid hfin
  clear hp hp2 hp3 hr1 hr2 hr3 hfin hX hO hG htab
  go_enter Tryz.func3, Tryz.ntmps3
  go_wp2_with fail
  refine hp1.mono ?_
  rintro r w1 ⟨rfl, c1⟩
  have B1 := Lib.hid c1
  clear c1 hp1
  go_wp2_with fail
  refine (HP2.out w1 B1.out).mono ?_
  rintro r w2 ⟨rfl, c2⟩
  have B2 := Lib.hid (B1.out.trans (c2.mono B1.out.size))
  clear c2
  go_wp2_with fail
  refine (HR1.out w2).mono ?_
  rintro r w3 ⟨⟨⟨v1, rfl⟩, o1⟩, c3⟩
  have B3 := Lib.hid (B2.out.trans (c3.mono B2.out.size))
  have O1 := Lib.hid o1
  clear c3 o1
  go_wp2_with fail
  refine (HR2.out w3).mono ?_
  rintro r w4 ⟨⟨⟨v2, rfl⟩, o2⟩, c4⟩
  have B4 := Lib.hid (B3.out.trans (c4.mono B3.out.size))
  have O2 := Lib.hid o2
  clear c4 o2
  generalize hE1 : erR R1 = E1 at *
  generalize hE2 : erR R2 = E2 at *
  generalize plR R1 = P1 at *
  generalize plR R2 = P2 at *
  clear HR1 HR2 HP2
  go_wp2_with (go_at_call 10; refine (hnm _ _).mono ?_; rintro e w' ⟨rfl, hw⟩; have hw2 := hw.symm; subst hw2)
  refine (HR3.out w4).mono ?_
  rintro r w5 ⟨⟨⟨v3, rfl⟩, o3⟩, c5⟩
  have B5 := Lib.hid (B4.out.trans (c5.mono B4.out.size))
  have O3 := Lib.hid o3
  clear c5 o3 HR3
  have hq := HP3.out w5 B5.out
  generalize hE3 : erR R3 = E3 at *
  generalize plR R3 = P3 at *
  clear HP3
  by_cases z1 : E1 = 0
  · by_cases z2 : E2 = 0
    · by_cases z3 : E3 = 0
      · have hf := HF.out (O1.out z1) (O2.out z2) (O3.out z3)
        subst hf
        subst z1; subst z2; subst z3
        clear O1 O2 O3 HF
        go_wp2_with fail
        refine hq.mono ?_
        rintro r w6 ⟨rfl, c6⟩
        have B6 := Lib.hid (B5.out.trans (c6.mono B5.out.size))
        clear c6 hq
        go_wp2_with (go_at_call 10; refine (hnm _ _).mono ?_; rintro e w' ⟨rfl, rfl⟩)
        go_ret
        exact ⟨rfl, B6.out⟩
      · have k3 : ((E3 : Int) != 0) = true := by simp; omega
        subst z1; subst z2
        clear O1 O2 O3 HF hq
        go_wp2
        go_ret
        exact ⟨rfl, B5.out⟩
    · have k3 : ((E2 : Int) != 0) = true := by simp; omega
      subst z1
      clear O1 O2 O3 HF hq
      go_wp2
      go_ret
      exact ⟨rfl, B5.out⟩
  · have k3 : ((E1 : Int) != 0) = true := by simp; omega
    clear O1 O2 O3 HF hq
    go_wp2
    go_ret
    exact ⟨rfl, B5.out⟩
end Go.Proofs.YtoijppmkkhgkdacGreatDoor
