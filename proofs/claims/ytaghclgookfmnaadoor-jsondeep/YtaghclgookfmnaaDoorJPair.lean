import Derived.Test.YtaghclgookfmnaaDoorJBl
/-
  The document's reader: what a backslash stands for.
-/
namespace Go.Proofs.YtaghclgookfmnaaDoor
open Go.RowKit
set_option linter.unusedVariables false

theorem pairL_plain (n : Nat) (r : List UInt8) (h : n < 55296 ∨ 57343 < n) : pairL n r = .ok (wr8 n, 6) := by unfold pairL; rw [if_pos h]

theorem lowL_bound {l : List UInt8} {m : Nat} (h : lowL l = some m) : 56320 ≤ m ∧ m ≤ 57343 := by
  unfold lowL at h
  split at h
  · split at h
    · split at h
      · split at h
        · injection h with h; subst h; assumption
        · cases h
      · cases h
    · cases h
  · cases h

section
variable (bp : Nat) (s : ByteArray) (i : Nat) (vL : Value) (at0 dp : Nat) (w : World)

set_option maxHeartbeats 400000 in
theorem rpair_plain (n : Int) (m a : Nat) (hm : n = (m : Int)) (hn : n < 55296 ∨ 57343 < n) (hn2 : m < 65536) (h : RD bp s i vL 0 at0 dp w) :
    Calls Tryd.prog 49 #[.pointer (some ⟨bp, 0, none⟩), .int .i64 n, .int .i64 (a : Int)] w fun r w' => r = .returned (.string ⟨(wr8 m).toArray⟩) ∧ RD bp s i vL 0 at0 dp w' ∧ Onl bp w w' := by
  have hw := rwritten m w (by omega)
  rw [← hm] at hw
  generalize (⟨(wr8 m).toArray⟩ : ByteArray) = T at hw
  clear hm hn2
  rcases hn with hn | hn
  · go_enter Tryd.func49, Tryd.ntmps49
    go_wp2_with fail
    refine hw.mono ?_
    rintro e w1 ⟨rfl, hb⟩
    have HB : Hid _ := hb
    clear hb hw
    go_wp2
    go_ret
    exact ⟨rfl, by unfold RD; rw [HB.out.block _ h.lt]; exact h, onl_below HB.out⟩
  · have hf : decide (n < 55296) = false := by simp; omega
    go_enter Tryd.func49, Tryd.ntmps49
    go_wp2_with fail
    refine hw.mono ?_
    rintro e w1 ⟨rfl, hb⟩
    have HB : Hid _ := hb
    clear hb hw
    go_wp2
    go_ret
    exact ⟨rfl, by unfold RD; rw [HB.out.block _ h.lt]; exact h, onl_below HB.out⟩

set_option maxHeartbeats 400000 in
theorem rpair_two (n : Int) (a : Nat) (m2 T : Nat) (hn : 55296 ≤ n) (hn2 : n < 56320) (hl : lowL (sfx s i) = some m2) (hT : 65536 + 1024 * (n - 55296) + (m2 : Int) - 56320 = (T : Int)) (hT2 : T < 1114112) (h : RD bp s i vL 0 at0 dp w) (hi : i ≤ 140737488350000) :
    Calls Tryd.prog 49 #[.pointer (some ⟨bp, 0, none⟩), .int .i64 n, .int .i64 (a : Int)] w fun r w' => r = .returned (.string ⟨(wr8 T).toArray⟩) ∧ RD bp s (i + 6) vL 0 at0 dp w' ∧ Onl bp w w' := by
  have hm2 : (m2 : Int) ≤ 57343 := by have := lowL_bound hl; omega
  have hf1 : decide (n < 55296) = false := by simp; omega
  have hf2 : decide (57343 < n) = false := by simp; omega
  have hf3 : decide (56320 ≤ n) = false := by simp; omega
  have hf4 : decide ((m2 : Int) < 0) = false := by simp
  have hlo := fun w => rlow s i w (by omega)
  rw [hl, optI_some] at hlo
  have hwr := fun w => rwritten T w hT2
  rw [← hT] at hwr
  generalize (⟨(wr8 T).toArray⟩ : ByteArray) = T8 at hwr
  obtain ⟨c0, c1, c2, c3, c4, c5, cf⟩ := h.cell
  clear hl hT hT2
  go_enter Tryd.func49, Tryd.ntmps49
  go_wp2_with fail
  go_quiet ((go_at_call 60; exact Calls.quiet_of_same (hlo _)))
  have h1 := h.drewN nq
  have o1 : Onl bp w (w.drewN nq) := (onl_refl bp w).drewN nq
  generalize w.drewN nq = w1 at h1 o1
  have HO1 : Hid (Onl bp w w1) := o1
  clear o1 c0 c1 c2 c3 c4 c5 cf
  obtain ⟨c0, c1, c2, c3, c4, c5, cf⟩ := h1.cell
  have f1 := cf 1
  go_wp2_with fail
  refine (hwr _).mono ?_
  rintro e w2 ⟨rfl, hb⟩
  have h2 := h1.setI (i + 6)
  have HO2 : Hid (Onl bp w w2) := (HO1.out.setCell _ h1).trans (onl_below hb)
  have H2 : Hid (RD bp s (i + 6) vL 0 at0 dp w2) := by unfold RD; rw [hb.block _ h2.lt]; exact h2
  clear hb h2 hwr hlo
  go_wp2
  go_ret
  exact ⟨rfl, H2.out, HO2.out⟩

set_option maxHeartbeats 400000 in
theorem rpair_er (n : Int) (a : Nat) (hn : 55296 ≤ n) (hn2 : n ≤ 57343) (hl : lowL (sfx s i) = none ∨ 56320 ≤ n) (h : RD bp s i vL 0 at0 dp w) (hi : i ≤ 140737488350000) :
    Calls Tryd.prog 49 #[.pointer (some ⟨bp, 0, none⟩), .int .i64 n, .int .i64 (a : Int)] w fun r w' => r = .returned (.string ⟨#[]⟩) ∧ RD bp s i vL 2 a dp w' ∧ Onl bp w w' := by
  have hf1 : decide (n < 55296) = false := by simp; omega
  have hf2 : decide (57343 < n) = false := by simp; omega
  have hlo := fun w => rlow s i w (by omega)
  have hq : (∃ x : Int, optI (lowL (sfx s i)) = x ∧ 56320 ≤ n) ∨ (optI (lowL (sfx s i)) = -1 ∧ n < 56320) := by
    by_cases h5 : 56320 ≤ n
    · left; exact ⟨_, rfl, h5⟩
    · right; rcases hl with hl | hl
      · exact ⟨by rw [hl]; rfl, by omega⟩
      · exact absurd hl h5
  clear hl
  obtain ⟨c0, c1, c2, c3, c4, c5, cf⟩ := h.cell
  rcases hq with ⟨x, hx, h5⟩ | ⟨hx, h5⟩
  all_goals
    rw [hx] at hlo
    clear hx
    go_enter Tryd.func49, Tryd.ntmps49
    go_wp2_with fail
    go_quiet ((go_at_call 60; exact Calls.quiet_of_same (hlo _)))
    have h1 := h.drewN nq
    have o1 : Onl bp w (w.drewN nq) := (onl_refl bp w).drewN nq
    generalize w.drewN nq = w1 at h1 o1
    have hfa := rfail0 bp s i vL at0 dp 2 a w1 h1
    have HO1 : Hid (Onl bp w w1) := o1
    clear o1 c0 c1 c2 c3 c4 c5 cf hlo
    go_wp2_with fail
    refine hfa.mono ?_
    rintro e w2 ⟨rfl, h2, o2⟩
    have HO2 : Hid (Onl bp w w2) := HO1.out.trans o2
    have H2 : Hid (RD bp s i vL 2 a dp w2) := h2
    clear h2 o2 hfa
    go_wp2
    go_ret
    exact ⟨rfl, H2.out, HO2.out⟩

theorem escL_cons (h : i + 1 < s.size) : escL (sfx s i) = (match esc1 s[i + 1] with
    | some b => .ok ([b], 2)
    | none => if s[i + 1] = 117 then (match four4 (sfx s (i + 2)) with | (none, o) => .error (2 + o) | (some n, _) => pairL n (sfx s (i + 6))) else .error 1) := by
  have hi : i < s.size := by omega
  rw [sfx_cons s i hi, sfx_cons s (i + 1) h, escL, sfx_drop]; rfl
end
end Go.Proofs.YtaghclgookfmnaaDoor
