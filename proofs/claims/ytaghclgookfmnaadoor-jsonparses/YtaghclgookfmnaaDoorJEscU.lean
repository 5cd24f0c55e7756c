import Derived.Test.YtaghclgookfmnaaDoorJEsc
/-
  The document's reader: escape, of four signs.
-/
namespace Go.Proofs.YtaghclgookfmnaaDoor
open Go.RowKit
set_option linter.unusedVariables false
section
variable (bp : Nat) (s : ByteArray) (i : Nat) (vL : Value) (at0 dp : Nat) (w : World)

set_option maxHeartbeats 400000 in
theorem resc_u0 (hs : s.size ≤ 140737488351232) (h : RD bp s i vL 0 at0 dp w) (hi1 : i + 1 < s.size) (hc : s[i + 1] = 117) (k : Nat) (hF : four4 (sfx s (i + 2)) = (none, k)) :
    Calls Tryd.prog 35 #[.pointer (some ⟨bp, 0, none⟩)] w fun r w' => r = .returned (.string ⟨#[]⟩) ∧ (∃ j, RD bp s j vL 2 (i + 2 + k) dp w') ∧ Onl bp w w' := by
  have d34 : ((s[i + 1].toNat : Int) == 34) = false := by rw [hc]; rfl
  have d92 : ((s[i + 1].toNat : Int) == 92) = false := by rw [hc]; rfl
  have d47 : ((s[i + 1].toNat : Int) == 47) = false := by rw [hc]; rfl
  have d98 : ((s[i + 1].toNat : Int) == 98) = false := by rw [hc]; rfl
  have d102 : ((s[i + 1].toNat : Int) == 102) = false := by rw [hc]; rfl
  have d110 : ((s[i + 1].toNat : Int) == 110) = false := by rw [hc]; rfl
  have d114 : ((s[i + 1].toNat : Int) == 114) = false := by rw [hc]; rfl
  have d116 : ((s[i + 1].toNat : Int) == 116) = false := by rw [hc]; rfl
  have d117 : ((s[i + 1].toNat : Int) == 117) = true := by rw [hc]; rfl
  have hi : i < s.size := by omega
  have hi1' : (i : Int) + 1 < (s.size : Int) := by omega
  have hi1f : decide ((s.size : Int) ≤ (i : Int) + 1) = false := by simp; omega
  obtain ⟨c0, c1, c2, c3, c4, c5, cf⟩ := h.cell
  have f1 := cf 1
  go_enter Tryd.func35, Tryd.ntmps35
  go_wp2_with fail
  have h1 : RD bp s (i + 1) vL 0 at0 dp (w.setCell ⟨bp, 1, none⟩ (.int .i64 ((i : Int) + 1))) := h.setI (i + 1)
  have o1 : Onl bp w (w.setCell ⟨bp, 1, none⟩ (.int .i64 ((i : Int) + 1))) := (onl_refl bp w).setCell _ h
  generalize w.setCell ⟨bp, 1, none⟩ (.int .i64 ((i : Int) + 1)) = w1 at h1 o1
  clear c0 c1 c2 c3 c4 c5 cf f1
  obtain ⟨c0, c1, c2, c3, c4, c5, cf⟩ := h1.cell
  rw [show ((i + 1 : Nat) : Int) = (i : Int) + 1 from rfl] at c1
  go_quiet (fail)
  have h2 := h1.drewN nq
  have o2 := o1.drewN nq
  generalize w1.drewN nq = w2 at h2 o2
  clear c0 c1 c2 c3 c4 c5 cf h1 o1 nq w1
  obtain ⟨c0, c1, c2, c3, c4, c5, cf⟩ := h2.cell
  have f1 := cf 1
  rw [show ((i + 1 : Nat) : Int) = (i : Int) + 1 from rfl] at c1
  go_wp2_with fail
  go_quiet (fail)
  have h3 := h2.drewN nq
  have o3 := o2.drewN nq
  generalize w2.drewN nq = w3 at h3 o3
  clear c0 c1 c2 c3 c4 c5 cf f1 h2 o2 nq w2
  obtain ⟨c0, c1, c2, c3, c4, c5, cf⟩ := h3.cell
  have f1 := cf 1
  rw [show ((i + 1 : Nat) : Int) = (i : Int) + 1 from rfl] at c1
  have hfo := fun w => rfour s (i + 2) w (by omega)
  rw [hF] at hfo
  clear hF
  rw [optI_none] at hfo
  go_wp2_with fail
  have h4 : RD bp s (i + 2) vL 0 at0 dp (w3.setCell ⟨bp, 1, none⟩ (.int .i64 ((i : Int) + 1 + 1))) := h3.setI (i + 2)
  have o4 : Onl bp w (w3.setCell ⟨bp, 1, none⟩ (.int .i64 ((i : Int) + 1 + 1))) := Onl.setCell o3 _ h3
  generalize w3.setCell ⟨bp, 1, none⟩ (.int .i64 ((i : Int) + 1 + 1)) = w4 at h4 o4
  clear c0 c1 c2 c3 c4 c5 cf f1 h3 o3 w3
  obtain ⟨c0, c1, c2, c3, c4, c5, cf⟩ := h4.cell
  go_quiet ((go_at_call 48; exact Calls.quiet_of_same (hfo _)))
  have h5 := h4.drewN nq
  have o5 := Onl.drewN o4 nq
  generalize w4.drewN nq = w5 at h5 o5
  clear c0 c1 c2 c3 c4 c5 cf h4 o4 nq w4 hfo
  obtain ⟨c0, c1, c2, c3, c4, c5, cf⟩ := h5.cell
  have f1 := cf 1
  have e : ((i + 2 + k : Nat) : Int) = (i : Int) + 2 + (k : Int) := by omega
  have h6 := h5.setI (i + 2 + k)
  have o6 : Onl bp w (w5.setCell ⟨bp, 1, none⟩ (.int .i64 ((i + 2 + k : Nat) : Int))) := Onl.setCell o5 _ h5
  have hfa := rfail0 bp s (i + 2 + k) vL at0 dp 2 (i + 2 + k) _ h6
  rw [e] at hfa o6
  have HO6 : Hid _ := o6
  clear h6 o6 o5 e
  go_wp2_with fail
  refine hfa.mono ?_
  rintro r w6 ⟨rfl, h7, o7⟩
  have H7 : Hid (RD bp s (i + 2 + k) vL 2 (i + 2 + k) dp w6) := h7
  have HO7 : Hid (Onl bp w w6) := Onl.trans HO6.out o7
  clear h7 o7 hfa HO6
  go_wp2
  go_ret
  exact ⟨rfl, ⟨_, H7.out⟩, HO7.out⟩

set_option maxHeartbeats 400000 in
theorem resc_u1 (hs : s.size ≤ 140737488351232) (h : RD bp s i vL 0 at0 dp w) (hi1 : i + 1 < s.size) (hc : s[i + 1] = 117) (k n : Nat) (hF : four4 (sfx s (i + 2)) = (some n, k)) (hk : k ≤ 4) (T : ByteArray) (X : World → Prop)
    (hp : ∀ w', RD bp s (i + 2 + k) vL 0 at0 dp w' → Calls Tryd.prog 49 #[.pointer (some ⟨bp, 0, none⟩), .int .i64 (n : Int), .int .i64 (i : Int)] w' fun r w'' => r = .returned (.string T) ∧ X w'' ∧ Onl bp w' w'') :
    Calls Tryd.prog 35 #[.pointer (some ⟨bp, 0, none⟩)] w fun r w' => r = .returned (.string T) ∧ X w' ∧ Onl bp w w' := by
  have hn0 : decide ((n : Int) < 0) = false := by simp
  have d34 : ((s[i + 1].toNat : Int) == 34) = false := by rw [hc]; rfl
  have d92 : ((s[i + 1].toNat : Int) == 92) = false := by rw [hc]; rfl
  have d47 : ((s[i + 1].toNat : Int) == 47) = false := by rw [hc]; rfl
  have d98 : ((s[i + 1].toNat : Int) == 98) = false := by rw [hc]; rfl
  have d102 : ((s[i + 1].toNat : Int) == 102) = false := by rw [hc]; rfl
  have d110 : ((s[i + 1].toNat : Int) == 110) = false := by rw [hc]; rfl
  have d114 : ((s[i + 1].toNat : Int) == 114) = false := by rw [hc]; rfl
  have d116 : ((s[i + 1].toNat : Int) == 116) = false := by rw [hc]; rfl
  have d117 : ((s[i + 1].toNat : Int) == 117) = true := by rw [hc]; rfl
  have hi : i < s.size := by omega
  have hi1' : (i : Int) + 1 < (s.size : Int) := by omega
  have hi1f : decide ((s.size : Int) ≤ (i : Int) + 1) = false := by simp; omega
  obtain ⟨c0, c1, c2, c3, c4, c5, cf⟩ := h.cell
  have f1 := cf 1
  go_enter Tryd.func35, Tryd.ntmps35
  go_wp2_with fail
  have h1 : RD bp s (i + 1) vL 0 at0 dp (w.setCell ⟨bp, 1, none⟩ (.int .i64 ((i : Int) + 1))) := h.setI (i + 1)
  have o1 : Onl bp w (w.setCell ⟨bp, 1, none⟩ (.int .i64 ((i : Int) + 1))) := (onl_refl bp w).setCell _ h
  generalize w.setCell ⟨bp, 1, none⟩ (.int .i64 ((i : Int) + 1)) = w1 at h1 o1
  clear c0 c1 c2 c3 c4 c5 cf f1
  obtain ⟨c0, c1, c2, c3, c4, c5, cf⟩ := h1.cell
  rw [show ((i + 1 : Nat) : Int) = (i : Int) + 1 from rfl] at c1
  go_quiet (fail)
  have h2 := h1.drewN nq
  have o2 := o1.drewN nq
  generalize w1.drewN nq = w2 at h2 o2
  clear c0 c1 c2 c3 c4 c5 cf h1 o1 nq w1
  obtain ⟨c0, c1, c2, c3, c4, c5, cf⟩ := h2.cell
  have f1 := cf 1
  rw [show ((i + 1 : Nat) : Int) = (i : Int) + 1 from rfl] at c1
  go_wp2_with fail
  go_quiet (fail)
  have h3 := h2.drewN nq
  have o3 := o2.drewN nq
  generalize w2.drewN nq = w3 at h3 o3
  clear c0 c1 c2 c3 c4 c5 cf f1 h2 o2 nq w2
  obtain ⟨c0, c1, c2, c3, c4, c5, cf⟩ := h3.cell
  have f1 := cf 1
  rw [show ((i + 1 : Nat) : Int) = (i : Int) + 1 from rfl] at c1
  have hfo := fun w => rfour s (i + 2) w (by omega)
  rw [hF] at hfo
  clear hF
  rw [optI_some] at hfo
  go_wp2_with fail
  have h4 : RD bp s (i + 2) vL 0 at0 dp (w3.setCell ⟨bp, 1, none⟩ (.int .i64 ((i : Int) + 1 + 1))) := h3.setI (i + 2)
  have o4 : Onl bp w (w3.setCell ⟨bp, 1, none⟩ (.int .i64 ((i : Int) + 1 + 1))) := Onl.setCell o3 _ h3
  generalize w3.setCell ⟨bp, 1, none⟩ (.int .i64 ((i : Int) + 1 + 1)) = w4 at h4 o4
  clear c0 c1 c2 c3 c4 c5 cf f1 h3 o3 w3
  obtain ⟨c0, c1, c2, c3, c4, c5, cf⟩ := h4.cell
  go_quiet ((go_at_call 48; exact Calls.quiet_of_same (hfo _)))
  have h5 := h4.drewN nq
  have o5 := Onl.drewN o4 nq
  generalize w4.drewN nq = w5 at h5 o5
  clear c0 c1 c2 c3 c4 c5 cf h4 o4 nq w4 hfo
  obtain ⟨c0, c1, c2, c3, c4, c5, cf⟩ := h5.cell
  have f1 := cf 1
  have e : ((i + 2 + k : Nat) : Int) = (i : Int) + 2 + (k : Int) := by omega
  have h6 := h5.setI (i + 2 + k)
  have o6 : Onl bp w (w5.setCell ⟨bp, 1, none⟩ (.int .i64 ((i + 2 + k : Nat) : Int))) := Onl.setCell o5 _ h5
  have hpa := hp _ h6
  rw [e] at hpa o6
  have HO6 : Hid _ := o6
  clear h6 o6 o5 e hp
  go_wp2_with fail
  refine hpa.mono ?_
  rintro r w6 ⟨rfl, h7, o7⟩
  have H7 : Hid (X w6) := h7
  have HO7 : Hid (Onl bp w w6) := Onl.trans HO6.out o7
  clear h7 o7 hpa HO6
  go_wp2
  go_ret
  exact ⟨rfl, H7.out, HO7.out⟩

set_option maxHeartbeats 400000 in
theorem resc_no (hs : s.size ≤ 140737488351232) (h : RD bp s i vL 0 at0 dp w) (p : Nat) (hp : i + 1 = p) (hi1 : p < s.size) (hc : ∀ c ∈ [34, 92, 47, 98, 102, 110, 114, 116, 117], s[p] ≠ UInt8.ofNat c) :
    Calls Tryd.prog 35 #[.pointer (some ⟨bp, 0, none⟩)] w fun r w' => r = .returned (.string ⟨#[]⟩) ∧ (∃ j, RD bp s j vL 2 p dp w') ∧ Onl bp w w' := by
  have d34 : ((s[p].toNat : Int) == 34) = false := by exact u8_ne (k := 34) (by omega) (fun e => hc 34 (by simp) e)
  have d92 : ((s[p].toNat : Int) == 92) = false := by exact u8_ne (k := 92) (by omega) (fun e => hc 92 (by simp) e)
  have d47 : ((s[p].toNat : Int) == 47) = false := by exact u8_ne (k := 47) (by omega) (fun e => hc 47 (by simp) e)
  have d98 : ((s[p].toNat : Int) == 98) = false := by exact u8_ne (k := 98) (by omega) (fun e => hc 98 (by simp) e)
  have d102 : ((s[p].toNat : Int) == 102) = false := by exact u8_ne (k := 102) (by omega) (fun e => hc 102 (by simp) e)
  have d110 : ((s[p].toNat : Int) == 110) = false := by exact u8_ne (k := 110) (by omega) (fun e => hc 110 (by simp) e)
  have d114 : ((s[p].toNat : Int) == 114) = false := by exact u8_ne (k := 114) (by omega) (fun e => hc 114 (by simp) e)
  have d116 : ((s[p].toNat : Int) == 116) = false := by exact u8_ne (k := 116) (by omega) (fun e => hc 116 (by simp) e)
  have d117 : ((s[p].toNat : Int) == 117) = false := by exact u8_ne (k := 117) (by omega) (fun e => hc 117 (by simp) e)
  have HD : Hid _ := And.intro d34 (And.intro d92 (And.intro d47 (And.intro d98 (And.intro d102 (And.intro d110 (And.intro d114 (And.intro d116 d117)))))))
  clear d34 d92 d47 d98 d102 d110 d114 d116 d117 hc
  have hpi : (i : Int) + 1 = (p : Int) := by omega
  have hi1' : (p : Int) < (s.size : Int) := by omega
  have hi1f : decide ((s.size : Int) ≤ (p : Int)) = false := by simp; omega
  obtain ⟨c0, c1, c2, c3, c4, c5, cf⟩ := h.cell
  have f1 := cf 1
  have h1 := h.setI p
  have o1 : Onl bp w (w.setCell ⟨bp, 1, none⟩ (.int .i64 (p : Int))) := (onl_refl bp w).setCell _ h
  go_enter Tryd.func35, Tryd.ntmps35
  go_wp2_with fail
  generalize w.setCell ⟨bp, 1, none⟩ (.int .i64 (p : Int)) = w1 at h1 o1
  clear c0 c1 c2 c3 c4 c5 cf f1
  obtain ⟨c0, c1, c2, c3, c4, c5, cf⟩ := h1.cell
  go_quiet (fail)
  have h2 := h1.drewN nq
  have o2 := o1.drewN nq
  generalize w1.drewN nq = w2 at h2 o2
  clear c0 c1 c2 c3 c4 c5 cf h1 o1 nq w1
  obtain ⟨c0, c1, c2, c3, c4, c5, cf⟩ := h2.cell
  have f1 := cf 1
  go_wp2_with fail
  go_quiet (fail)
  have h3 := h2.drewN nq
  have o3 := o2.drewN nq
  generalize w2.drewN nq = w3 at h3 o3
  clear c0 c1 c2 c3 c4 c5 cf f1 h2 o2 nq w2
  obtain ⟨c0, c1, c2, c3, c4, c5, cf⟩ := h3.cell
  have f1 := cf 1
  have hpj : (p : Int) + 1 - 1 = (p : Int) := by omega
  obtain ⟨d34, d92, d47, d98, d102, d110, d114, d116, d117⟩ := HD.out
  have h4 : RD bp s (p + 1) vL 0 at0 dp (w3.setCell ⟨bp, 1, none⟩ (.int .i64 ((p : Int) + 1))) := h3.setI (p + 1)
  have o4 : Onl bp w (w3.setCell ⟨bp, 1, none⟩ (.int .i64 ((p : Int) + 1))) := Onl.setCell o3 _ h3
  have hfa := rfail0 bp s (p + 1) vL at0 dp 2 p _ h4
  have HO4 : Hid _ := o4
  clear h4 o4 o3
  go_wp2_with fail
  refine hfa.mono ?_
  rintro r w6 ⟨rfl, h7, o7⟩
  have H7 : Hid (RD bp s (p + 1) vL 2 p dp w6) := h7
  have HO7 : Hid (Onl bp w w6) := Onl.trans HO4.out o7
  clear h7 o7 hfa HO4
  go_wp2
  go_ret
  exact ⟨rfl, ⟨_, H7.out⟩, HO7.out⟩

set_option maxHeartbeats 400000 in
theorem resc_end (hs : s.size ≤ 140737488351232) (h : RD bp s i vL 0 at0 dp w) (hi0 : i < s.size) (hi1 : s.size ≤ i + 1) :
    Calls Tryd.prog 35 #[.pointer (some ⟨bp, 0, none⟩)] w fun r w' => r = .returned (.string ⟨#[]⟩) ∧ (∃ j, RD bp s j vL 2 (i + 1) dp w') ∧ Onl bp w w' := by
  have hi1f : decide ((s.size : Int) ≤ (i : Int) + 1) = true := by simp; omega
  obtain ⟨c0, c1, c2, c3, c4, c5, cf⟩ := h.cell
  have f1 := cf 1
  go_enter Tryd.func35, Tryd.ntmps35
  go_wp2_with fail
  have h1 : RD bp s (i + 1) vL 0 at0 dp (w.setCell ⟨bp, 1, none⟩ (.int .i64 ((i : Int) + 1))) := h.setI (i + 1)
  have o1 : Onl bp w (w.setCell ⟨bp, 1, none⟩ (.int .i64 ((i : Int) + 1))) := (onl_refl bp w).setCell _ h
  generalize w.setCell ⟨bp, 1, none⟩ (.int .i64 ((i : Int) + 1)) = w1 at h1 o1
  clear c0 c1 c2 c3 c4 c5 cf f1
  obtain ⟨c0, c1, c2, c3, c4, c5, cf⟩ := h1.cell
  rw [show ((i + 1 : Nat) : Int) = (i : Int) + 1 from rfl] at c1
  go_quiet (fail)
  have h2 := h1.drewN nq
  have o2 := o1.drewN nq
  generalize w1.drewN nq = w2 at h2 o2
  clear c0 c1 c2 c3 c4 c5 cf h1 o1 nq w1
  obtain ⟨c0, c1, c2, c3, c4, c5, cf⟩ := h2.cell
  have hfa := rfail0 bp s (i + 1) vL at0 dp 2 (i + 1) _ h2
  go_wp2_with fail
  refine hfa.mono ?_
  rintro r w6 ⟨rfl, h7, o7⟩
  have H7 : Hid (RD bp s (i + 1) vL 2 (i + 1) dp w6) := h7
  have HO7 : Hid (Onl bp w w6) := Onl.trans o2 o7
  clear h7 o7 hfa o2
  go_wp2
  go_ret
  exact ⟨rfl, ⟨_, H7.out⟩, HO7.out⟩
end
end Go.Proofs.YtaghclgookfmnaaDoor
