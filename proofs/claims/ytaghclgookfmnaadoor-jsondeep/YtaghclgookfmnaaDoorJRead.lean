import Derived.Test.YtaghclgookfmnaaDoorJValue
/-
  notaryref.ReadJson.
-/
namespace Go.Proofs.YtaghclgookfmnaaDoor
open Go.RowKit
set_option linter.unusedVariables false

/-- What ReadJson answers. -/
def JP (B : Nat) (R : Except (Nat × Nat) JT) (r : Ending) (w' : World) : Prop :=
  match R with
  | .ok t => ∃ v, r = .returned (.tuple #[v, .int .i64 0, .int .i64 0]) ∧ Nodes B 49 v (flat 0 [] t) w'
  | .error (e, a) => r = .returned (.tuple #[.slice none 0 0, .int .i64 (e : Int), .int .i64 (a : Int)]) ∧ 0 < e

theorem readL_eq (s : ByteArray) (hs : s.size ≤ 65536) (p : Nat) (hp : nb (sfx s 0) = p) : readL s.data.toList = (match valL 32 (sfx s p) p with
    | .error e => .error e
    | .ok (t, n) => if p + n + nb (sfx s (p + n)) < s.size then .error (2, p + n + nb (sfx s (p + n))) else .ok t) := by
  have e0 : s.data.toList = sfx s 0 := rfl
  unfold readL
  rw [if_neg (by simp; omega), e0, hp]
  dsimp only
  rw [sfx_drop, Nat.zero_add]
  cases valL 32 (sfx s p) p with
  | error e => rfl
  | ok q =>
    obtain ⟨t, n⟩ := q
    dsimp only
    rw [sfx_drop, Nat.zero_add, sfx_length, Nat.sub_zero]

set_option maxRecDepth 4000 in
set_option maxHeartbeats 1000000 in
theorem rread (s : ByteArray) (w : World) (hs2 : s.size ≤ 140737488351232) :
    Calls Tryd.prog 6 #[.string s] w fun r w' => JP (w.heap.size + 1) (readL s.data.toList) r w' ∧ Below w.heap.size w w' := by
  by_cases hs : s.size ≤ 65536
  · have hs' : decide ((65536 : Int) < (s.size : Int)) = false := by simp; omega
    have HS : Hid (s.size ≤ 65536) := hs
    clear hs
    go_enter Tryd.func6, Tryd.ntmps6
    go_wp2_with fail
    have hlt0 : w.heap.size < (w.alloc (.cells #[.string s, .int .i64 0, .slice none 0 0, .int .i64 0, .int .i64 0, .int .i64 0] 46)).heap.size := by simp
    have r0 : RD w.heap.size s 0 (.slice none 0 0) 0 0 0 (w.alloc (.cells #[.string s, .int .i64 0, .slice none 0 0, .int .i64 0, .int .i64 0, .int .i64 0] 46)) := heap_alloc_new w _
    have B0 : Hid (Below w.heap.size w (w.alloc (.cells #[.string s, .int .i64 0, .slice none 0 0, .int .i64 0, .int .i64 0, .int .i64 0] 46))) := bal (brf w) _
    generalize w.alloc (.cells #[.string s, .int .i64 0, .slice none 0 0, .int .i64 0, .int .i64 0, .int .i64 0] 46) = w0 at r0 B0 hlt0
    generalize hbp : w.heap.size = bp at r0 B0 hlt0
    have HBP : Hid (w.heap.size = bp) := hbp
    have hbk := rblanks bp s 0 (.slice none 0 0) 0 0 w0 (by have := HS.out; omega) r0
    rw [Nat.zero_add] at hbk
    generalize hp : nb (sfx s 0) = p at hbk
    have HRE : Hid _ := readL_eq s HS.out p hp
    clear hbp hp
    refine hbk.mono ?_
    rintro e w1 ⟨rfl, r1, o1⟩
    have B1 : Hid (Below bp w w1) := B0.out.trans (onl_bel o1 hlt0)
    have hva := rvalue 32 (Nat.le_refl _) bp s p [] none [] 0 w1 HS.out ⟨_, r1, Nodes.nil _ _ _⟩ (Nat.zero_le _) (fun n hn => by simp at hn) (fun u hu => by cases hu)
    clear hbk o1 B0 r0 hlt0 r1
    cases hR : valL 32 (sfx s p) p with
    | error q =>
      obtain ⟨e, a⟩ := q
      rw [hR] at hva
      have HR : Hid (readL s.data.toList = .error (e, a)) := by have := HRE.out; rw [hR] at this; exact this
      clear hR HRE
      go_wp2_with fail
      refine hva.mono ?_
      rintro e0 w2 ⟨rfl, ⟨he, j, v2, r2⟩, b2⟩
      have B2 : Hid (Below bp w w2) := B1.out.trans b2
      have hbk := rblanks_er bp s j v2 e a _ w2 r2 he
      have hlt2 := r2.lt
      clear hva b2 B1 r2
      go_wp2_with fail
      refine hbk.mono ?_
      rintro e0 w3 ⟨rfl, r3, o3⟩
      have B3 : Hid (Below bp w w3) := B2.out.trans (onl_bel o3 hlt2)
      clear hbk o3 B2
      obtain ⟨c0, c1, c2, c3, c4, c5, cf⟩ := r3.cell
      have heb : ((e : Int) != 0) = true := by simp; omega
      have hfa := rfail1 bp s j v2 e a _ 2 j w3 r3 he
      by_cases hj : j < s.size
      · have hj' : (j : Int) < (s.size : Int) := by omega
        go_wp2_with fail
        refine hfa.mono ?_
        rintro e0 w4 ⟨rfl, hw4⟩
        rw [hw4]; clear hw4 w4 hfa
        go_wp2_with fail
        go_quiet (fail)
        go_wp2
        go_ret3
        rw [HR.out]
        exact ⟨⟨rfl, he⟩, by rw [HBP.out]; exact bdN B3.out nq⟩
      · have hj' : decide ((j : Int) < (s.size : Int)) = false := by simp; omega
        go_wp2_with fail
        go_quiet (fail)
        go_wp2
        go_ret3
        rw [HR.out]
        exact ⟨⟨rfl, he⟩, by rw [HBP.out]; exact bdN B3.out nq⟩
    | ok q =>
      obtain ⟨tt, n⟩ := q
      rw [hR] at hva
      have HR : Hid (readL s.data.toList = if p + n + nb (sfx s (p + n)) < s.size then .error (2, p + n + nb (sfx s (p + n))) else .ok tt) := by have := HRE.out; rw [hR] at this; exact this
      clear hR HRE
      go_wp2_with fail
      refine hva.mono ?_
      rintro e0 w2 ⟨rfl, ⟨v2, r2, n2⟩, b2⟩
      have B2 : Hid (Below bp w w2) := B1.out.trans b2
      have hbk := rblanks bp s (p + n) v2 0 _ w2 (by have := HS.out; omega) r2
      generalize hp3 : p + n + nb (sfx s (p + n)) = p3 at hbk HR
      have hlt2 := r2.lt
      have N2 : Hid (Nodes (bp + 1) 49 v2 (flat 0 [] tt) w2) := n2
      clear hva b2 B1 r2 n2 hp3
      go_wp2_with fail
      refine hbk.mono ?_
      rintro e0 w3 ⟨rfl, r3, o3⟩
      have B3 : Hid (Below bp w w3) := B2.out.trans (onl_bel o3 hlt2)
      have N3 : Hid (Nodes (bp + 1) 49 v2 (flat 0 [] tt) w3) := N2.out.onl o3 (by omega)
      clear hbk o3 B2 N2
      obtain ⟨c0, c1, c2, c3, c4, c5, cf⟩ := r3.cell
      by_cases hj : p3 < s.size
      · have hj' : (p3 : Int) < (s.size : Int) := by omega
        have hfa : Calls Tryd.prog 13 #[.pointer (some ⟨bp, 0, none⟩), .int .i64 2, .int .i64 (p3 : Int)] w3 fun r w' => r = .returned (.tuple #[]) ∧ RD bp s p3 v2 2 p3 (32 - 32) w' ∧ Onl bp w3 w' := rfail0 bp s p3 v2 0 _ 2 p3 w3 r3
        have HJ : Hid (p3 < s.size) := hj
        go_wp2_with fail
        refine hfa.mono ?_
        rintro e0 w4 ⟨rfl, r4, o4⟩
        have B4 : Hid (Below bp w w4) := B3.out.trans (onl_bel o4 r3.lt)
        clear hfa o4 c0 c1 c2 c3 c4 c5 cf r3
        obtain ⟨c0, c1, c2, c3, c4, c5, cf⟩ := r4.cell
        go_wp2_with fail
        go_quiet (fail)
        go_wp2
        go_ret3
        rw [HR.out, if_pos HJ.out]
        exact ⟨⟨rfl, by omega⟩, by rw [HBP.out]; exact bdN B4.out nq⟩
      · have hj' : decide ((p3 : Int) < (s.size : Int)) = false := by simp; omega
        have HJ : Hid (¬ p3 < s.size) := hj
        go_wp2
        go_ret3
        rw [HR.out, if_neg HJ.out]
        exact ⟨⟨v2, rfl, by rw [HBP.out]; exact N3.out⟩, by rw [HBP.out]; exact B3.out⟩
  · have hs' : (65536 : Int) < (s.size : Int) := by omega
    have hR : readL s.data.toList = .error (1, 0) := by unfold readL; rw [if_pos (by simp; omega)]
    rw [hR]
    clear hR hs
    go_enter Tryd.func6, Tryd.ntmps6
    go_wp2
    go_ret3
    exact ⟨⟨rfl, by omega⟩, brf _⟩
end Go.Proofs.YtaghclgookfmnaaDoor
