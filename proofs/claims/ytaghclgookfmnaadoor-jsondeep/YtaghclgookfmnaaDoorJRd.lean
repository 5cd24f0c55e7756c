import Derived.Test.YtaghclgookfmnaaDoorJSeq
/-
  The document's reader: its cursor.
-/
namespace Go.Proofs.YtaghclgookfmnaaDoor
open Go.RowKit
set_option linter.unusedVariables false

def rdCells (s : ByteArray) (i : Nat) (vL : Value) (er at' dp : Nat) : Array Value := #[.string s, .int .i64 (i : Int), vL, .int .i64 (er : Int), .int .i64 (at' : Int), .int .i64 (dp : Int)]
/-- The reader that lies at bp. -/
def RD (bp : Nat) (s : ByteArray) (i : Nat) (vL : Value) (er at' dp : Nat) (w : World) : Prop := w.heap[bp]? = some (.cells (rdCells s i vL er at' dp) 46 (0, 0))

theorem RD.cell {bp : Nat} {s : ByteArray} {i : Nat} {vL : Value} {er at' dp : Nat} {w : World} (h : RD bp s i vL er at' dp w) :
    w.cell? ⟨bp, 0, none⟩ = some (.string s) ∧ w.cell? ⟨bp, 1, none⟩ = some (.int .i64 (i : Int)) ∧ w.cell? ⟨bp, 2, none⟩ = some vL ∧ w.cell? ⟨bp, 3, none⟩ = some (.int .i64 (er : Int)) ∧ w.cell? ⟨bp, 4, none⟩ = some (.int .i64 (at' : Int)) ∧ w.cell? ⟨bp, 5, none⟩ = some (.int .i64 (dp : Int)) ∧
    (∀ k, w.frozen? ⟨bp, k, none⟩ = false) := by
  refine ⟨?_, ?_, ?_, ?_, ?_, ?_, ?_⟩
  · rw [cell_of_row w bp 0 _ _ _ h]; rfl
  · rw [cell_of_row w bp 1 _ _ _ h]; rfl
  · rw [cell_of_row w bp 2 _ _ _ h]; rfl
  · rw [cell_of_row w bp 3 _ _ _ h]; rfl
  · rw [cell_of_row w bp 4 _ _ _ h]; rfl
  · rw [cell_of_row w bp 5 _ _ _ h]; rfl
  · intro k; unfold RD at h; simp [World.frozen?, h]
section
variable {bp : Nat} {s : ByteArray} {i : Nat} {vL : Value} {er at' dp : Nat} {w : World}
theorem RD.setI (h : RD bp s i vL er at' dp w) (j : Nat) : RD bp s j vL er at' dp (w.setCell ⟨bp, 1, none⟩ (.int .i64 (j : Int))) := by
  rw [setCell_eq_setRow w bp 1 _ _ _ _ h]; exact setRow_heap w bp _ _ _ _ h
theorem RD.setL (h : RD bp s i vL er at' dp w) (v : Value) : RD bp s i v er at' dp (w.setCell ⟨bp, 2, none⟩ v) := by
  rw [setCell_eq_setRow w bp 2 _ _ _ _ h]; exact setRow_heap w bp _ _ _ _ h
theorem RD.setE (h : RD bp s i vL er at' dp w) (j : Nat) : RD bp s i vL j at' dp (w.setCell ⟨bp, 3, none⟩ (.int .i64 (j : Int))) := by
  rw [setCell_eq_setRow w bp 3 _ _ _ _ h]; exact setRow_heap w bp _ _ _ _ h
theorem RD.setA (h : RD bp s i vL er at' dp w) (j : Nat) : RD bp s i vL er j dp (w.setCell ⟨bp, 4, none⟩ (.int .i64 (j : Int))) := by
  rw [setCell_eq_setRow w bp 4 _ _ _ _ h]; exact setRow_heap w bp _ _ _ _ h
theorem RD.setD (h : RD bp s i vL er at' dp w) (j : Nat) : RD bp s i vL er at' j (w.setCell ⟨bp, 5, none⟩ (.int .i64 (j : Int))) := by
  rw [setCell_eq_setRow w bp 5 _ _ _ _ h]; exact setRow_heap w bp _ _ _ _ h
theorem RD.lt (h : RD bp s i vL er at' dp w) : bp < w.heap.size := (Array.getElem?_eq_some_iff.1 h).1
theorem RD.drewN (h : RD bp s i vL er at' dp w) (n : Nat) : RD bp s i vL er at' dp (w.drewN n) := h
theorem RD.alloc (h : RD bp s i vL er at' dp w) (o : Obj) : RD bp s i vL er at' dp (w.alloc o) := by
  unfold RD; rw [heap_alloc_old _ _ h.lt]; exact h
end

/-- Of what was there, the block bp alone may have changed. -/
abbrev Onl (bp : Nat) (w w' : World) : Prop := w.grownBy w' (some bp)
theorem onl_refl (bp : Nat) (w : World) : Onl bp w w := ⟨rfl, rfl, rfl, Nat.le_refl _, fun _ _ _ => rfl⟩
theorem Onl.trans {bp : Nat} {a b c : World} (h : Onl bp a b) (g : Onl bp b c) : Onl bp a c :=
  ⟨g.os.trans h.os, g.tape.trans h.tape, g.output.trans h.output, Nat.le_trans h.size g.size, fun k hk hn => (g.block k (Nat.lt_of_lt_of_le hk h.size) hn).trans (h.block k hk hn)⟩
theorem Onl.drewN {bp : Nat} {a b : World} (h : Onl bp a b) (n : Nat) : Onl bp a (b.drewN n) := ⟨h.os, h.tape, h.output, h.size, h.block⟩
theorem Onl.setCell {bp k : Nat} {a b : World} (h : Onl bp a b) (v : Value) {cur : Array Value} {t : TypeId} {fz : Nat × Nat} (hg : b.heap[bp]? = some (.cells cur t fz)) : Onl bp a (b.setCell ⟨bp, k, none⟩ v) := by
  rw [setCell_eq_setRow b bp k _ _ _ _ hg]
  refine h.trans ⟨rfl, rfl, rfl, by simp [World.setRow], fun j hj hn => setRow_other b bp j _ ?_⟩
  intro e; exact hn (by rw [e])
theorem Onl.alloc {bp : Nat} {a b : World} (h : Onl bp a b) (o : Obj) : Onl bp a (b.alloc o) :=
  ⟨h.os, h.tape, h.output, Nat.le_trans h.size (by simp), fun k hk hn => by rw [heap_alloc_old _ _ (Nat.lt_of_lt_of_le hk h.size)]; exact h.block k hk hn⟩
theorem onl_below {bp : Nat} {a b : World} (h : Below a.heap.size a b) : Onl bp a b := ⟨h.os, h.tape, h.output, h.size, fun k hk _ => h.block k hk⟩

set_option maxHeartbeats 400000 in
theorem rfail0 (bp : Nat) (s : ByteArray) (i : Nat) (vL : Value) (at0 dp e a : Nat) (w : World) (h : RD bp s i vL 0 at0 dp w) :
    Calls Tryd.prog 13 #[.pointer (some ⟨bp, 0, none⟩), .int .i64 (e : Int), .int .i64 (a : Int)] w fun r w' => r = .returned (.tuple #[]) ∧ RD bp s i vL e a dp w' ∧ Onl bp w w' := by
  obtain ⟨c0, c1, c2, c3, c4, c5, cf⟩ := h.cell
  have f3 := cf 3
  have f4 := cf 4
  go_enter Tryd.func13, Tryd.ntmps13
  go_wp2
  go_end0
  exact ⟨rfl, (h.setE e).setA a, ((onl_refl bp w).setCell _ h).setCell _ (h.setE e)⟩
set_option maxHeartbeats 400000 in
theorem rfail1 (bp : Nat) (s : ByteArray) (i : Nat) (vL : Value) (er at0 dp e a : Nat) (w : World) (h : RD bp s i vL er at0 dp w) (he : 0 < er) :
    Calls Tryd.prog 13 #[.pointer (some ⟨bp, 0, none⟩), .int .i64 (e : Int), .int .i64 (a : Int)] w fun r w' => r = .returned (.tuple #[]) ∧ w' = w := by
  obtain ⟨c0, c1, c2, c3, c4, c5, cf⟩ := h.cell
  have hb : ((er : Int) == 0) = false := by simp; omega
  go_enter Tryd.func13, Tryd.ntmps13
  go_wp2
  go_end0
  exact ⟨rfl, rfl⟩

def isAt (er : Nat) (l : List UInt8) (c : UInt8) : Bool := decide (er = 0) && (l.head? == some c)
set_option maxHeartbeats 400000 in
theorem ris (bp : Nat) (s : ByteArray) (i : Nat) (vL : Value) (er at0 dp : Nat) (c : UInt8) (w : World) (h : RD bp s i vL er at0 dp w) :
    Calls Tryd.prog 19 #[.pointer (some ⟨bp, 0, none⟩), .int .u8 (c.toNat : Int)] w fun r w' => r = .returned (.bool (isAt er (sfx s i) c)) ∧ ∃ n, w' = w.drewN n := by
  obtain ⟨c0, c1, c2, c3, c4, c5, cf⟩ := h.cell
  by_cases he : er = 0
  · subst he
    by_cases hi : i < s.size
    · have hi' : (i : Int) < (s.size : Int) := by omega
      have hh : isAt 0 (sfx s i) c = (s[i] == c) := by rw [sfx_cons s i hi]; simp [isAt]
      rw [hh]
      clear hh
      by_cases hc : s[i] = c
      · have hb : ((s[i].toNat : Int) == (c.toNat : Int)) = true := by rw [hc]; simp
        rw [beq_iff_eq.2 hc]
        clear hc
        go_enter Tryd.func19, Tryd.ntmps19
        go_wp2_with fail
        go_quiet (fail)
        go_wp2
        go_ret
        exact ⟨rfl, _, rfl⟩
      · have hb : ((s[i].toNat : Int) == (c.toNat : Int)) = false := by
          rw [beq_eq_false_iff_ne]; intro e; exact hc (UInt8.toNat_inj.1 (by exact_mod_cast e))
        rw [beq_eq_false_iff_ne.2 hc]
        clear hc
        go_enter Tryd.func19, Tryd.ntmps19
        go_wp2_with fail
        go_quiet (fail)
        go_wp2
        go_ret
        exact ⟨rfl, _, rfl⟩
    · have hi' : decide ((i : Int) < (s.size : Int)) = false := by simp; omega
      have hh : isAt 0 (sfx s i) c = false := by rw [sfx_nil s i (by omega)]; simp [isAt]
      rw [hh]
      clear hh
      go_enter Tryd.func19, Tryd.ntmps19
      go_wp2_with fail
      go_quiet (fail)
      go_wp2
      go_ret
      exact ⟨rfl, _, rfl⟩
  · have hb : ((er : Int) == 0) = false := by simp; omega
    have hh : isAt er (sfx s i) c = false := by simp [isAt, he]
    rw [hh]
    clear hh
    go_enter Tryd.func19, Tryd.ntmps19
    go_wp2_with fail
    go_quiet (fail)
    go_wp2
    go_ret
    exact ⟨rfl, _, rfl⟩
end Go.Proofs.YtaghclgookfmnaaDoor
