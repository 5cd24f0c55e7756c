import Derived.Test.YtaghclgookfmnaaDoorJPair
/-
  The document's reader: escape.
-/
namespace Go.Proofs.YtaghclgookfmnaaDoor
open Go.RowKit
set_option linter.unusedVariables false
section
variable (bp : Nat) (s : ByteArray) (i : Nat) (vL : Value) (at0 dp : Nat) (w : World)
attribute [local go_sem] conv1

set_option maxHeartbeats 400000 in
theorem resc_34 (hs : s.size ≤ 140737488351232) (h : RD bp s i vL 0 at0 dp w) (hi1 : i + 1 < s.size) (hc : s[i + 1] = 34) :
    Calls Tryd.prog 35 #[.pointer (some ⟨bp, 0, none⟩)] w fun r w' => r = .returned (.string ⟨#[34]⟩) ∧ RD bp s (i + 2) vL 0 at0 dp w' ∧ Onl bp w w' := by
  have d34 : ((s[i + 1].toNat : Int) == 34) = true := by rw [hc]; rfl
  have hi : i < s.size := by omega
  have hi1' : (i : Int) + 1 < (s.size : Int) := by omega
  have hi1f : decide ((s.size : Int) ≤ (i : Int) + 1) = false := by simp; omega
  obtain ⟨c0, c1, c2, c3, c4, c5, cf⟩ := h.cell
  have f1 := cf 1
  go_enter Tryd.func35, Tryd.ntmps35
  go_wp2_with fail
  have h1 : RD bp s (i + 1) vL 0 at0 dp (w.setCell ⟨bp, 1, none⟩ (.int .i64 ((i : Int) + 1))) := h.setI (i + 1)
  have o1 : Onl bp w (w.setCell ⟨bp, 1, none⟩ (.int .i64 ((i : Int) + 1))) := (onl_refl bp w).setCell _ h
  generalize w.setCell ⟨bp, 1, none⟩ (.int .i64 ((i : Int) + 1)) = w1 at h1 o1
  clear c0 c1 c2 c3 c4 c5 cf f1
  obtain ⟨c0, c1, c2, c3, c4, c5, cf⟩ := h1.cell
  rw [show ((i + 1 : Nat) : Int) = (i : Int) + 1 from rfl] at c1
  go_quiet (fail)
  have h2 := h1.drewN nq
  have o2 := o1.drewN nq
  generalize w1.drewN nq = w2 at h2 o2
  clear c0 c1 c2 c3 c4 c5 cf h1 o1 nq w1
  obtain ⟨c0, c1, c2, c3, c4, c5, cf⟩ := h2.cell
  have f1 := cf 1
  rw [show ((i + 1 : Nat) : Int) = (i : Int) + 1 from rfl] at c1
  go_wp2_with fail
  go_quiet (fail)
  have h3 := h2.drewN nq
  have o3 := o2.drewN nq
  generalize w2.drewN nq = w3 at h3 o3
  clear c0 c1 c2 c3 c4 c5 cf f1 h2 o2 nq w2
  obtain ⟨c0, c1, c2, c3, c4, c5, cf⟩ := h3.cell
  have f1 := cf 1
  rw [show ((i + 1 : Nat) : Int) = (i : Int) + 1 from rfl] at c1
  have hcv : Sem.run Tryd.prog (convert 64 9 (.slice (some ⟨w3.heap.size, 0, none⟩) 1 1)) ((w3.setCell ⟨bp, 1, none⟩ (.int .i64 ((i : Int) + 1 + 1))).alloc (.cells #[.int .u8 34] 5)) = .ok (.string ⟨#[34]⟩) ((w3.setCell ⟨bp, 1, none⟩ (.int .i64 ((i : Int) + 1 + 1))).alloc (.cells #[.int .u8 34] 5)) := by
    have e : (w3.setCell ⟨bp, 1, none⟩ (.int .i64 ((i : Int) + 1 + 1))).heap.size = w3.heap.size := by simp
    have hq := conv1 (w3.setCell ⟨bp, 1, none⟩ (.int .i64 ((i : Int) + 1 + 1))) 34
    rw [e] at hq
    exact hq
  go_wp2
  go_ret
  exact ⟨rfl, (h3.setI (i + 2)).alloc _, (Onl.setCell o3 _ h3).alloc _⟩

set_option maxHeartbeats 400000 in
theorem resc_92 (hs : s.size ≤ 140737488351232) (h : RD bp s i vL 0 at0 dp w) (hi1 : i + 1 < s.size) (hc : s[i + 1] = 92) :
    Calls Tryd.prog 35 #[.pointer (some ⟨bp, 0, none⟩)] w fun r w' => r = .returned (.string ⟨#[92]⟩) ∧ RD bp s (i + 2) vL 0 at0 dp w' ∧ Onl bp w w' := by
  have d34 : ((s[i + 1].toNat : Int) == 34) = false := by rw [hc]; rfl
  have d92 : ((s[i + 1].toNat : Int) == 92) = true := by rw [hc]; rfl
  have hi : i < s.size := by omega
  have hi1' : (i : Int) + 1 < (s.size : Int) := by omega
  have hi1f : decide ((s.size : Int) ≤ (i : Int) + 1) = false := by simp; omega
  obtain ⟨c0, c1, c2, c3, c4, c5, cf⟩ := h.cell
  have f1 := cf 1
  go_enter Tryd.func35, Tryd.ntmps35
  go_wp2_with fail
  have h1 : RD bp s (i + 1) vL 0 at0 dp (w.setCell ⟨bp, 1, none⟩ (.int .i64 ((i : Int) + 1))) := h.setI (i + 1)
  have o1 : Onl bp w (w.setCell ⟨bp, 1, none⟩ (.int .i64 ((i : Int) + 1))) := (onl_refl bp w).setCell _ h
  generalize w.setCell ⟨bp, 1, none⟩ (.int .i64 ((i : Int) + 1)) = w1 at h1 o1
  clear c0 c1 c2 c3 c4 c5 cf f1
  obtain ⟨c0, c1, c2, c3, c4, c5, cf⟩ := h1.cell
  rw [show ((i + 1 : Nat) : Int) = (i : Int) + 1 from rfl] at c1
  go_quiet (fail)
  have h2 := h1.drewN nq
  have o2 := o1.drewN nq
  generalize w1.drewN nq = w2 at h2 o2
  clear c0 c1 c2 c3 c4 c5 cf h1 o1 nq w1
  obtain ⟨c0, c1, c2, c3, c4, c5, cf⟩ := h2.cell
  have f1 := cf 1
  rw [show ((i + 1 : Nat) : Int) = (i : Int) + 1 from rfl] at c1
  go_wp2_with fail
  go_quiet (fail)
  have h3 := h2.drewN nq
  have o3 := o2.drewN nq
  generalize w2.drewN nq = w3 at h3 o3
  clear c0 c1 c2 c3 c4 c5 cf f1 h2 o2 nq w2
  obtain ⟨c0, c1, c2, c3, c4, c5, cf⟩ := h3.cell
  have f1 := cf 1
  rw [show ((i + 1 : Nat) : Int) = (i : Int) + 1 from rfl] at c1
  have hcv : Sem.run Tryd.prog (convert 64 9 (.slice (some ⟨w3.heap.size, 0, none⟩) 1 1)) ((w3.setCell ⟨bp, 1, none⟩ (.int .i64 ((i : Int) + 1 + 1))).alloc (.cells #[.int .u8 92] 5)) = .ok (.string ⟨#[92]⟩) ((w3.setCell ⟨bp, 1, none⟩ (.int .i64 ((i : Int) + 1 + 1))).alloc (.cells #[.int .u8 92] 5)) := by
    have e : (w3.setCell ⟨bp, 1, none⟩ (.int .i64 ((i : Int) + 1 + 1))).heap.size = w3.heap.size := by simp
    have hq := conv1 (w3.setCell ⟨bp, 1, none⟩ (.int .i64 ((i : Int) + 1 + 1))) 92
    rw [e] at hq
    exact hq
  go_wp2
  go_ret
  exact ⟨rfl, (h3.setI (i + 2)).alloc _, (Onl.setCell o3 _ h3).alloc _⟩

set_option maxHeartbeats 400000 in
theorem resc_47 (hs : s.size ≤ 140737488351232) (h : RD bp s i vL 0 at0 dp w) (hi1 : i + 1 < s.size) (hc : s[i + 1] = 47) :
    Calls Tryd.prog 35 #[.pointer (some ⟨bp, 0, none⟩)] w fun r w' => r = .returned (.string ⟨#[47]⟩) ∧ RD bp s (i + 2) vL 0 at0 dp w' ∧ Onl bp w w' := by
  have d34 : ((s[i + 1].toNat : Int) == 34) = false := by rw [hc]; rfl
  have d92 : ((s[i + 1].toNat : Int) == 92) = false := by rw [hc]; rfl
  have d47 : ((s[i + 1].toNat : Int) == 47) = true := by rw [hc]; rfl
  have hi : i < s.size := by omega
  have hi1' : (i : Int) + 1 < (s.size : Int) := by omega
  have hi1f : decide ((s.size : Int) ≤ (i : Int) + 1) = false := by simp; omega
  obtain ⟨c0, c1, c2, c3, c4, c5, cf⟩ := h.cell
  have f1 := cf 1
  go_enter Tryd.func35, Tryd.ntmps35
  go_wp2_with fail
  have h1 : RD bp s (i + 1) vL 0 at0 dp (w.setCell ⟨bp, 1, none⟩ (.int .i64 ((i : Int) + 1))) := h.setI (i + 1)
  have o1 : Onl bp w (w.setCell ⟨bp, 1, none⟩ (.int .i64 ((i : Int) + 1))) := (onl_refl bp w).setCell _ h
  generalize w.setCell ⟨bp, 1, none⟩ (.int .i64 ((i : Int) + 1)) = w1 at h1 o1
  clear c0 c1 c2 c3 c4 c5 cf f1
  obtain ⟨c0, c1, c2, c3, c4, c5, cf⟩ := h1.cell
  rw [show ((i + 1 : Nat) : Int) = (i : Int) + 1 from rfl] at c1
  go_quiet (fail)
  have h2 := h1.drewN nq
  have o2 := o1.drewN nq
  generalize w1.drewN nq = w2 at h2 o2
  clear c0 c1 c2 c3 c4 c5 cf h1 o1 nq w1
  obtain ⟨c0, c1, c2, c3, c4, c5, cf⟩ := h2.cell
  have f1 := cf 1
  rw [show ((i + 1 : Nat) : Int) = (i : Int) + 1 from rfl] at c1
  go_wp2_with fail
  go_quiet (fail)
  have h3 := h2.drewN nq
  have o3 := o2.drewN nq
  generalize w2.drewN nq = w3 at h3 o3
  clear c0 c1 c2 c3 c4 c5 cf f1 h2 o2 nq w2
  obtain ⟨c0, c1, c2, c3, c4, c5, cf⟩ := h3.cell
  have f1 := cf 1
  rw [show ((i + 1 : Nat) : Int) = (i : Int) + 1 from rfl] at c1
  have hcv : Sem.run Tryd.prog (convert 64 9 (.slice (some ⟨w3.heap.size, 0, none⟩) 1 1)) ((w3.setCell ⟨bp, 1, none⟩ (.int .i64 ((i : Int) + 1 + 1))).alloc (.cells #[.int .u8 47] 5)) = .ok (.string ⟨#[47]⟩) ((w3.setCell ⟨bp, 1, none⟩ (.int .i64 ((i : Int) + 1 + 1))).alloc (.cells #[.int .u8 47] 5)) := by
    have e : (w3.setCell ⟨bp, 1, none⟩ (.int .i64 ((i : Int) + 1 + 1))).heap.size = w3.heap.size := by simp
    have hq := conv1 (w3.setCell ⟨bp, 1, none⟩ (.int .i64 ((i : Int) + 1 + 1))) 47
    rw [e] at hq
    exact hq
  go_wp2
  go_ret
  exact ⟨rfl, (h3.setI (i + 2)).alloc _, (Onl.setCell o3 _ h3).alloc _⟩

set_option maxHeartbeats 400000 in
theorem resc_98 (hs : s.size ≤ 140737488351232) (h : RD bp s i vL 0 at0 dp w) (hi1 : i + 1 < s.size) (hc : s[i + 1] = 98) :
    Calls Tryd.prog 35 #[.pointer (some ⟨bp, 0, none⟩)] w fun r w' => r = .returned (.string ⟨#[8]⟩) ∧ RD bp s (i + 2) vL 0 at0 dp w' ∧ Onl bp w w' := by
  have d34 : ((s[i + 1].toNat : Int) == 34) = false := by rw [hc]; rfl
  have d92 : ((s[i + 1].toNat : Int) == 92) = false := by rw [hc]; rfl
  have d47 : ((s[i + 1].toNat : Int) == 47) = false := by rw [hc]; rfl
  have d98 : ((s[i + 1].toNat : Int) == 98) = true := by rw [hc]; rfl
  have hi : i < s.size := by omega
  have hi1' : (i : Int) + 1 < (s.size : Int) := by omega
  have hi1f : decide ((s.size : Int) ≤ (i : Int) + 1) = false := by simp; omega
  obtain ⟨c0, c1, c2, c3, c4, c5, cf⟩ := h.cell
  have f1 := cf 1
  go_enter Tryd.func35, Tryd.ntmps35
  go_wp2_with fail
  have h1 : RD bp s (i + 1) vL 0 at0 dp (w.setCell ⟨bp, 1, none⟩ (.int .i64 ((i : Int) + 1))) := h.setI (i + 1)
  have o1 : Onl bp w (w.setCell ⟨bp, 1, none⟩ (.int .i64 ((i : Int) + 1))) := (onl_refl bp w).setCell _ h
  generalize w.setCell ⟨bp, 1, none⟩ (.int .i64 ((i : Int) + 1)) = w1 at h1 o1
  clear c0 c1 c2 c3 c4 c5 cf f1
  obtain ⟨c0, c1, c2, c3, c4, c5, cf⟩ := h1.cell
  rw [show ((i + 1 : Nat) : Int) = (i : Int) + 1 from rfl] at c1
  go_quiet (fail)
  have h2 := h1.drewN nq
  have o2 := o1.drewN nq
  generalize w1.drewN nq = w2 at h2 o2
  clear c0 c1 c2 c3 c4 c5 cf h1 o1 nq w1
  obtain ⟨c0, c1, c2, c3, c4, c5, cf⟩ := h2.cell
  have f1 := cf 1
  rw [show ((i + 1 : Nat) : Int) = (i : Int) + 1 from rfl] at c1
  go_wp2_with fail
  go_quiet (fail)
  have h3 := h2.drewN nq
  have o3 := o2.drewN nq
  generalize w2.drewN nq = w3 at h3 o3
  clear c0 c1 c2 c3 c4 c5 cf f1 h2 o2 nq w2
  obtain ⟨c0, c1, c2, c3, c4, c5, cf⟩ := h3.cell
  have f1 := cf 1
  rw [show ((i + 1 : Nat) : Int) = (i : Int) + 1 from rfl] at c1
  go_wp2
  go_ret
  exact ⟨rfl, h3.setI (i + 2), Onl.setCell o3 _ h3⟩

set_option maxHeartbeats 400000 in
theorem resc_102 (hs : s.size ≤ 140737488351232) (h : RD bp s i vL 0 at0 dp w) (hi1 : i + 1 < s.size) (hc : s[i + 1] = 102) :
    Calls Tryd.prog 35 #[.pointer (some ⟨bp, 0, none⟩)] w fun r w' => r = .returned (.string ⟨#[12]⟩) ∧ RD bp s (i + 2) vL 0 at0 dp w' ∧ Onl bp w w' := by
  have d34 : ((s[i + 1].toNat : Int) == 34) = false := by rw [hc]; rfl
  have d92 : ((s[i + 1].toNat : Int) == 92) = false := by rw [hc]; rfl
  have d47 : ((s[i + 1].toNat : Int) == 47) = false := by rw [hc]; rfl
  have d98 : ((s[i + 1].toNat : Int) == 98) = false := by rw [hc]; rfl
  have d102 : ((s[i + 1].toNat : Int) == 102) = true := by rw [hc]; rfl
  have hi : i < s.size := by omega
  have hi1' : (i : Int) + 1 < (s.size : Int) := by omega
  have hi1f : decide ((s.size : Int) ≤ (i : Int) + 1) = false := by simp; omega
  obtain ⟨c0, c1, c2, c3, c4, c5, cf⟩ := h.cell
  have f1 := cf 1
  go_enter Tryd.func35, Tryd.ntmps35
  go_wp2_with fail
  have h1 : RD bp s (i + 1) vL 0 at0 dp (w.setCell ⟨bp, 1, none⟩ (.int .i64 ((i : Int) + 1))) := h.setI (i + 1)
  have o1 : Onl bp w (w.setCell ⟨bp, 1, none⟩ (.int .i64 ((i : Int) + 1))) := (onl_refl bp w).setCell _ h
  generalize w.setCell ⟨bp, 1, none⟩ (.int .i64 ((i : Int) + 1)) = w1 at h1 o1
  clear c0 c1 c2 c3 c4 c5 cf f1
  obtain ⟨c0, c1, c2, c3, c4, c5, cf⟩ := h1.cell
  rw [show ((i + 1 : Nat) : Int) = (i : Int) + 1 from rfl] at c1
  go_quiet (fail)
  have h2 := h1.drewN nq
  have o2 := o1.drewN nq
  generalize w1.drewN nq = w2 at h2 o2
  clear c0 c1 c2 c3 c4 c5 cf h1 o1 nq w1
  obtain ⟨c0, c1, c2, c3, c4, c5, cf⟩ := h2.cell
  have f1 := cf 1
  rw [show ((i + 1 : Nat) : Int) = (i : Int) + 1 from rfl] at c1
  go_wp2_with fail
  go_quiet (fail)
  have h3 := h2.drewN nq
  have o3 := o2.drewN nq
  generalize w2.drewN nq = w3 at h3 o3
  clear c0 c1 c2 c3 c4 c5 cf f1 h2 o2 nq w2
  obtain ⟨c0, c1, c2, c3, c4, c5, cf⟩ := h3.cell
  have f1 := cf 1
  rw [show ((i + 1 : Nat) : Int) = (i : Int) + 1 from rfl] at c1
  go_wp2
  go_ret
  exact ⟨rfl, h3.setI (i + 2), Onl.setCell o3 _ h3⟩

set_option maxHeartbeats 400000 in
theorem resc_110 (hs : s.size ≤ 140737488351232) (h : RD bp s i vL 0 at0 dp w) (hi1 : i + 1 < s.size) (hc : s[i + 1] = 110) :
    Calls Tryd.prog 35 #[.pointer (some ⟨bp, 0, none⟩)] w fun r w' => r = .returned (.string ⟨#[10]⟩) ∧ RD bp s (i + 2) vL 0 at0 dp w' ∧ Onl bp w w' := by
  have d34 : ((s[i + 1].toNat : Int) == 34) = false := by rw [hc]; rfl
  have d92 : ((s[i + 1].toNat : Int) == 92) = false := by rw [hc]; rfl
  have d47 : ((s[i + 1].toNat : Int) == 47) = false := by rw [hc]; rfl
  have d98 : ((s[i + 1].toNat : Int) == 98) = false := by rw [hc]; rfl
  have d102 : ((s[i + 1].toNat : Int) == 102) = false := by rw [hc]; rfl
  have d110 : ((s[i + 1].toNat : Int) == 110) = true := by rw [hc]; rfl
  have hi : i < s.size := by omega
  have hi1' : (i : Int) + 1 < (s.size : Int) := by omega
  have hi1f : decide ((s.size : Int) ≤ (i : Int) + 1) = false := by simp; omega
  obtain ⟨c0, c1, c2, c3, c4, c5, cf⟩ := h.cell
  have f1 := cf 1
  go_enter Tryd.func35, Tryd.ntmps35
  go_wp2_with fail
  have h1 : RD bp s (i + 1) vL 0 at0 dp (w.setCell ⟨bp, 1, none⟩ (.int .i64 ((i : Int) + 1))) := h.setI (i + 1)
  have o1 : Onl bp w (w.setCell ⟨bp, 1, none⟩ (.int .i64 ((i : Int) + 1))) := (onl_refl bp w).setCell _ h
  generalize w.setCell ⟨bp, 1, none⟩ (.int .i64 ((i : Int) + 1)) = w1 at h1 o1
  clear c0 c1 c2 c3 c4 c5 cf f1
  obtain ⟨c0, c1, c2, c3, c4, c5, cf⟩ := h1.cell
  rw [show ((i + 1 : Nat) : Int) = (i : Int) + 1 from rfl] at c1
  go_quiet (fail)
  have h2 := h1.drewN nq
  have o2 := o1.drewN nq
  generalize w1.drewN nq = w2 at h2 o2
  clear c0 c1 c2 c3 c4 c5 cf h1 o1 nq w1
  obtain ⟨c0, c1, c2, c3, c4, c5, cf⟩ := h2.cell
  have f1 := cf 1
  rw [show ((i + 1 : Nat) : Int) = (i : Int) + 1 from rfl] at c1
  go_wp2_with fail
  go_quiet (fail)
  have h3 := h2.drewN nq
  have o3 := o2.drewN nq
  generalize w2.drewN nq = w3 at h3 o3
  clear c0 c1 c2 c3 c4 c5 cf f1 h2 o2 nq w2
  obtain ⟨c0, c1, c2, c3, c4, c5, cf⟩ := h3.cell
  have f1 := cf 1
  rw [show ((i + 1 : Nat) : Int) = (i : Int) + 1 from rfl] at c1
  go_wp2
  go_ret
  exact ⟨rfl, h3.setI (i + 2), Onl.setCell o3 _ h3⟩

set_option maxHeartbeats 400000 in
theorem resc_114 (hs : s.size ≤ 140737488351232) (h : RD bp s i vL 0 at0 dp w) (hi1 : i + 1 < s.size) (hc : s[i + 1] = 114) :
    Calls Tryd.prog 35 #[.pointer (some ⟨bp, 0, none⟩)] w fun r w' => r = .returned (.string ⟨#[13]⟩) ∧ RD bp s (i + 2) vL 0 at0 dp w' ∧ Onl bp w w' := by
  have d34 : ((s[i + 1].toNat : Int) == 34) = false := by rw [hc]; rfl
  have d92 : ((s[i + 1].toNat : Int) == 92) = false := by rw [hc]; rfl
  have d47 : ((s[i + 1].toNat : Int) == 47) = false := by rw [hc]; rfl
  have d98 : ((s[i + 1].toNat : Int) == 98) = false := by rw [hc]; rfl
  have d102 : ((s[i + 1].toNat : Int) == 102) = false := by rw [hc]; rfl
  have d110 : ((s[i + 1].toNat : Int) == 110) = false := by rw [hc]; rfl
  have d114 : ((s[i + 1].toNat : Int) == 114) = true := by rw [hc]; rfl
  have hi : i < s.size := by omega
  have hi1' : (i : Int) + 1 < (s.size : Int) := by omega
  have hi1f : decide ((s.size : Int) ≤ (i : Int) + 1) = false := by simp; omega
  obtain ⟨c0, c1, c2, c3, c4, c5, cf⟩ := h.cell
  have f1 := cf 1
  go_enter Tryd.func35, Tryd.ntmps35
  go_wp2_with fail
  have h1 : RD bp s (i + 1) vL 0 at0 dp (w.setCell ⟨bp, 1, none⟩ (.int .i64 ((i : Int) + 1))) := h.setI (i + 1)
  have o1 : Onl bp w (w.setCell ⟨bp, 1, none⟩ (.int .i64 ((i : Int) + 1))) := (onl_refl bp w).setCell _ h
  generalize w.setCell ⟨bp, 1, none⟩ (.int .i64 ((i : Int) + 1)) = w1 at h1 o1
  clear c0 c1 c2 c3 c4 c5 cf f1
  obtain ⟨c0, c1, c2, c3, c4, c5, cf⟩ := h1.cell
  rw [show ((i + 1 : Nat) : Int) = (i : Int) + 1 from rfl] at c1
  go_quiet (fail)
  have h2 := h1.drewN nq
  have o2 := o1.drewN nq
  generalize w1.drewN nq = w2 at h2 o2
  clear c0 c1 c2 c3 c4 c5 cf h1 o1 nq w1
  obtain ⟨c0, c1, c2, c3, c4, c5, cf⟩ := h2.cell
  have f1 := cf 1
  rw [show ((i + 1 : Nat) : Int) = (i : Int) + 1 from rfl] at c1
  go_wp2_with fail
  go_quiet (fail)
  have h3 := h2.drewN nq
  have o3 := o2.drewN nq
  generalize w2.drewN nq = w3 at h3 o3
  clear c0 c1 c2 c3 c4 c5 cf f1 h2 o2 nq w2
  obtain ⟨c0, c1, c2, c3, c4, c5, cf⟩ := h3.cell
  have f1 := cf 1
  rw [show ((i + 1 : Nat) : Int) = (i : Int) + 1 from rfl] at c1
  go_wp2
  go_ret
  exact ⟨rfl, h3.setI (i + 2), Onl.setCell o3 _ h3⟩

set_option maxHeartbeats 400000 in
theorem resc_116 (hs : s.size ≤ 140737488351232) (h : RD bp s i vL 0 at0 dp w) (hi1 : i + 1 < s.size) (hc : s[i + 1] = 116) :
    Calls Tryd.prog 35 #[.pointer (some ⟨bp, 0, none⟩)] w fun r w' => r = .returned (.string ⟨#[9]⟩) ∧ RD bp s (i + 2) vL 0 at0 dp w' ∧ Onl bp w w' := by
  have d34 : ((s[i + 1].toNat : Int) == 34) = false := by rw [hc]; rfl
  have d92 : ((s[i + 1].toNat : Int) == 92) = false := by rw [hc]; rfl
  have d47 : ((s[i + 1].toNat : Int) == 47) = false := by rw [hc]; rfl
  have d98 : ((s[i + 1].toNat : Int) == 98) = false := by rw [hc]; rfl
  have d102 : ((s[i + 1].toNat : Int) == 102) = false := by rw [hc]; rfl
  have d110 : ((s[i + 1].toNat : Int) == 110) = false := by rw [hc]; rfl
  have d114 : ((s[i + 1].toNat : Int) == 114) = false := by rw [hc]; rfl
  have d116 : ((s[i + 1].toNat : Int) == 116) = true := by rw [hc]; rfl
  have hi : i < s.size := by omega
  have hi1' : (i : Int) + 1 < (s.size : Int) := by omega
  have hi1f : decide ((s.size : Int) ≤ (i : Int) + 1) = false := by simp; omega
  obtain ⟨c0, c1, c2, c3, c4, c5, cf⟩ := h.cell
  have f1 := cf 1
  go_enter Tryd.func35, Tryd.ntmps35
  go_wp2_with fail
  have h1 : RD bp s (i + 1) vL 0 at0 dp (w.setCell ⟨bp, 1, none⟩ (.int .i64 ((i : Int) + 1))) := h.setI (i + 1)
  have o1 : Onl bp w (w.setCell ⟨bp, 1, none⟩ (.int .i64 ((i : Int) + 1))) := (onl_refl bp w).setCell _ h
  generalize w.setCell ⟨bp, 1, none⟩ (.int .i64 ((i : Int) + 1)) = w1 at h1 o1
  clear c0 c1 c2 c3 c4 c5 cf f1
  obtain ⟨c0, c1, c2, c3, c4, c5, cf⟩ := h1.cell
  rw [show ((i + 1 : Nat) : Int) = (i : Int) + 1 from rfl] at c1
  go_quiet (fail)
  have h2 := h1.drewN nq
  have o2 := o1.drewN nq
  generalize w1.drewN nq = w2 at h2 o2
  clear c0 c1 c2 c3 c4 c5 cf h1 o1 nq w1
  obtain ⟨c0, c1, c2, c3, c4, c5, cf⟩ := h2.cell
  have f1 := cf 1
  rw [show ((i + 1 : Nat) : Int) = (i : Int) + 1 from rfl] at c1
  go_wp2_with fail
  go_quiet (fail)
  have h3 := h2.drewN nq
  have o3 := o2.drewN nq
  generalize w2.drewN nq = w3 at h3 o3
  clear c0 c1 c2 c3 c4 c5 cf f1 h2 o2 nq w2
  obtain ⟨c0, c1, c2, c3, c4, c5, cf⟩ := h3.cell
  have f1 := cf 1
  rw [show ((i + 1 : Nat) : Int) = (i : Int) + 1 from rfl] at c1
  go_wp2
  go_ret
  exact ⟨rfl, h3.setI (i + 2), Onl.setCell o3 _ h3⟩
end
end Go.Proofs.YtaghclgookfmnaaDoor
