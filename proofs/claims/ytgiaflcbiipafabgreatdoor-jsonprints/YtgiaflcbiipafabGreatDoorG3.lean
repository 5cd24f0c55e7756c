/-
  Joined by program: JRd, JBl, JPair.
-/
import Derived.Test.YtgiaflcbiipafabGreatDoorG2
/-
  The document's reader: its cursor.
-/
namespace Go.Proofs.YtgiaflcbiipafabGreatDoor
open Go.RowKit
set_option linter.unusedVariables false

def rdCells (s : ByteArray) (i : Nat) (vL : Value) (er at' dp : Nat) : Array Value := #[.string s, .int .i64 (i : Int), vL, .int .i64 (er : Int), .int .i64 (at' : Int), .int .i64 (dp : Int)]
/-- The reader that lies at bp. -/
def RD (bp : Nat) (s : ByteArray) (i : Nat) (vL : Value) (er at' dp : Nat) (w : World) : Prop := w.heap[bp]? = some (.cells (rdCells s i vL er at' dp) 53 (0, 0))

theorem RD.cell {bp : Nat} {s : ByteArray} {i : Nat} {vL : Value} {er at' dp : Nat} {w : World} (h : RD bp s i vL er at' dp w) :
    w.cell? ⟨bp, 0, none⟩ = some (.string s) ∧ w.cell? ⟨bp, 1, none⟩ = some (.int .i64 (i : Int)) ∧ w.cell? ⟨bp, 2, none⟩ = some vL ∧ w.cell? ⟨bp, 3, none⟩ = some (.int .i64 (er : Int)) ∧ w.cell? ⟨bp, 4, none⟩ = some (.int .i64 (at' : Int)) ∧ w.cell? ⟨bp, 5, none⟩ = some (.int .i64 (dp : Int)) ∧
    (∀ k, w.frozen? ⟨bp, k, none⟩ = false) := by
  refine ⟨?_, ?_, ?_, ?_, ?_, ?_, ?_⟩
  · rw [cell_of_row w bp 0 _ _ _ h]; rfl
  · rw [cell_of_row w bp 1 _ _ _ h]; rfl
  · rw [cell_of_row w bp 2 _ _ _ h]; rfl
  · rw [cell_of_row w bp 3 _ _ _ h]; rfl
  · rw [cell_of_row w bp 4 _ _ _ h]; rfl
  · rw [cell_of_row w bp 5 _ _ _ h]; rfl
  · intro k; unfold RD at h; simp [World.frozen?, h]
section
variable {bp : Nat} {s : ByteArray} {i : Nat} {vL : Value} {er at' dp : Nat} {w : World}
theorem RD.setI (h : RD bp s i vL er at' dp w) (j : Nat) : RD bp s j vL er at' dp (w.setCell ⟨bp, 1, none⟩ (.int .i64 (j : Int))) := by
  rw [setCell_eq_setRow w bp 1 _ _ _ _ h]; exact setRow_heap w bp _ _ _ _ h
theorem RD.setL (h : RD bp s i vL er at' dp w) (v : Value) : RD bp s i v er at' dp (w.setCell ⟨bp, 2, none⟩ v) := by
  rw [setCell_eq_setRow w bp 2 _ _ _ _ h]; exact setRow_heap w bp _ _ _ _ h
theorem RD.setE (h : RD bp s i vL er at' dp w) (j : Nat) : RD bp s i vL j at' dp (w.setCell ⟨bp, 3, none⟩ (.int .i64 (j : Int))) := by
  rw [setCell_eq_setRow w bp 3 _ _ _ _ h]; exact setRow_heap w bp _ _ _ _ h
theorem RD.setA (h : RD bp s i vL er at' dp w) (j : Nat) : RD bp s i vL er j dp (w.setCell ⟨bp, 4, none⟩ (.int .i64 (j : Int))) := by
  rw [setCell_eq_setRow w bp 4 _ _ _ _ h]; exact setRow_heap w bp _ _ _ _ h
theorem RD.setD (h : RD bp s i vL er at' dp w) (j : Nat) : RD bp s i vL er at' j (w.setCell ⟨bp, 5, none⟩ (.int .i64 (j : Int))) := by
  rw [setCell_eq_setRow w bp 5 _ _ _ _ h]; exact setRow_heap w bp _ _ _ _ h
theorem RD.lt (h : RD bp s i vL er at' dp w) : bp < w.heap.size := (Array.getElem?_eq_some_iff.1 h).1
theorem RD.drewN (h : RD bp s i vL er at' dp w) (n : Nat) : RD bp s i vL er at' dp (w.drewN n) := h
theorem RD.alloc (h : RD bp s i vL er at' dp w) (o : Obj) : RD bp s i vL er at' dp (w.alloc o) := by
  unfold RD; rw [heap_alloc_old _ _ h.lt]; exact h
end

/-- Of what was there, the block bp alone may have changed. -/
abbrev Onl (bp : Nat) (w w' : World) : Prop := w.grownBy w' (some bp)
theorem onl_refl (bp : Nat) (w : World) : Onl bp w w := ⟨rfl, rfl, rfl, Nat.le_refl _, fun _ _ _ => rfl⟩
theorem Onl.trans {bp : Nat} {a b c : World} (h : Onl bp a b) (g : Onl bp b c) : Onl bp a c :=
  ⟨g.os.trans h.os, g.tape.trans h.tape, g.output.trans h.output, Nat.le_trans h.size g.size, fun k hk hn => (g.block k (Nat.lt_of_lt_of_le hk h.size) hn).trans (h.block k hk hn)⟩
theorem Onl.drewN {bp : Nat} {a b : World} (h : Onl bp a b) (n : Nat) : Onl bp a (b.drewN n) := ⟨h.os, h.tape, h.output, h.size, h.block⟩
theorem Onl.setCell {bp k : Nat} {a b : World} (h : Onl bp a b) (v : Value) {cur : Array Value} {t : TypeId} {fz : Nat × Nat} (hg : b.heap[bp]? = some (.cells cur t fz)) : Onl bp a (b.setCell ⟨bp, k, none⟩ v) := by
  rw [setCell_eq_setRow b bp k _ _ _ _ hg]
  refine h.trans ⟨rfl, rfl, rfl, by simp [World.setRow], fun j hj hn => setRow_other b bp j _ ?_⟩
  intro e; exact hn (by rw [e])
theorem Onl.alloc {bp : Nat} {a b : World} (h : Onl bp a b) (o : Obj) : Onl bp a (b.alloc o) :=
  ⟨h.os, h.tape, h.output, Nat.le_trans h.size (by simp), fun k hk hn => by rw [heap_alloc_old _ _ (Nat.lt_of_lt_of_le hk h.size)]; exact h.block k hk hn⟩
theorem onl_below {bp : Nat} {a b : World} (h : Below a.heap.size a b) : Onl bp a b := ⟨h.os, h.tape, h.output, h.size, fun k hk _ => h.block k hk⟩

set_option maxHeartbeats 400000 in
theorem rfail0 (bp : Nat) (s : ByteArray) (i : Nat) (vL : Value) (at0 dp e a : Nat) (w : World) (h : RD bp s i vL 0 at0 dp w) :
    Calls Tryz.prog 18 #[.pointer (some ⟨bp, 0, none⟩), .int .i64 (e : Int), .int .i64 (a : Int)] w fun r w' => r = .returned (.tuple #[]) ∧ RD bp s i vL e a dp w' ∧ Onl bp w w' := by
  obtain ⟨c0, c1, c2, c3, c4, c5, cf⟩ := h.cell
  have f3 := cf 3
  have f4 := cf 4
  go_enter Tryz.func18, Tryz.ntmps18
  go_wp2
  go_end0
  exact ⟨rfl, (h.setE e).setA a, ((onl_refl bp w).setCell _ h).setCell _ (h.setE e)⟩
set_option maxHeartbeats 400000 in
theorem rfail1 (bp : Nat) (s : ByteArray) (i : Nat) (vL : Value) (er at0 dp e a : Nat) (w : World) (h : RD bp s i vL er at0 dp w) (he : 0 < er) :
    Calls Tryz.prog 18 #[.pointer (some ⟨bp, 0, none⟩), .int .i64 (e : Int), .int .i64 (a : Int)] w fun r w' => r = .returned (.tuple #[]) ∧ w' = w := by
  obtain ⟨c0, c1, c2, c3, c4, c5, cf⟩ := h.cell
  have hb : ((er : Int) == 0) = false := by simp; omega
  go_enter Tryz.func18, Tryz.ntmps18
  go_wp2
  go_end0
  exact ⟨rfl, rfl⟩

def isAt (er : Nat) (l : List UInt8) (c : UInt8) : Bool := decide (er = 0) && (l.head? == some c)
set_option maxHeartbeats 400000 in
theorem ris (bp : Nat) (s : ByteArray) (i : Nat) (vL : Value) (er at0 dp : Nat) (c : UInt8) (w : World) (h : RD bp s i vL er at0 dp w) :
    Calls Tryz.prog 32 #[.pointer (some ⟨bp, 0, none⟩), .int .u8 (c.toNat : Int)] w fun r w' => r = .returned (.bool (isAt er (sfx s i) c)) ∧ ∃ n, w' = w.drewN n := by
  obtain ⟨c0, c1, c2, c3, c4, c5, cf⟩ := h.cell
  by_cases he : er = 0
  · subst he
    by_cases hi : i < s.size
    · have hi' : (i : Int) < (s.size : Int) := by omega
      have hh : isAt 0 (sfx s i) c = (s[i] == c) := by rw [sfx_cons s i hi]; simp [isAt]
      rw [hh]
      clear hh
      by_cases hc : s[i] = c
      · have hb : ((s[i].toNat : Int) == (c.toNat : Int)) = true := by rw [hc]; simp
        rw [beq_iff_eq.2 hc]
        clear hc
        go_enter Tryz.func32, Tryz.ntmps32
        go_wp2_with fail
        go_quiet (fail)
        go_wp2
        go_ret
        exact ⟨rfl, _, rfl⟩
      · have hb : ((s[i].toNat : Int) == (c.toNat : Int)) = false := by
          rw [beq_eq_false_iff_ne]; intro e; exact hc (UInt8.toNat_inj.1 (by exact_mod_cast e))
        rw [beq_eq_false_iff_ne.2 hc]
        clear hc
        go_enter Tryz.func32, Tryz.ntmps32
        go_wp2_with fail
        go_quiet (fail)
        go_wp2
        go_ret
        exact ⟨rfl, _, rfl⟩
    · have hi' : decide ((i : Int) < (s.size : Int)) = false := by simp; omega
      have hh : isAt 0 (sfx s i) c = false := by rw [sfx_nil s i (by omega)]; simp [isAt]
      rw [hh]
      clear hh
      go_enter Tryz.func32, Tryz.ntmps32
      go_wp2_with fail
      go_quiet (fail)
      go_wp2
      go_ret
      exact ⟨rfl, _, rfl⟩
  · have hb : ((er : Int) == 0) = false := by simp; omega
    have hh : isAt er (sfx s i) c = false := by simp [isAt, he]
    rw [hh]
    clear hh
    go_enter Tryz.func32, Tryz.ntmps32
    go_wp2_with fail
    go_quiet (fail)
    go_wp2
    go_ret
    exact ⟨rfl, _, rfl⟩
end Go.Proofs.YtgiaflcbiipafabGreatDoor
/-
  The document's reader: must, blanks.
-/
namespace Go.Proofs.YtgiaflcbiipafabGreatDoor
open Go.RowKit
set_option linter.unusedVariables false

theorem isAt_yes {l : List UInt8} {c : UInt8} (h : l.head? = some c) : isAt 0 l c = true := by simp [isAt, h]
theorem isAt_no {l : List UInt8} {c : UInt8} (h : l.head? ≠ some c) : isAt 0 l c = false := by simp [isAt, h]
theorem isAt_er {er : Nat} {l : List UInt8} {c : UInt8} (h : 0 < er) : isAt er l c = false := by simp [isAt]; omega
theorem head_lt {s : ByteArray} {i : Nat} {c : UInt8} (h : (sfx s i).head? = some c) : i < s.size := by
  by_cases hi : i < s.size
  · exact hi
  · rw [sfx_nil s i (by omega)] at h; simp at h

section
variable (bp : Nat) (s : ByteArray) (i : Nat) (vL : Value) (er at0 dp : Nat) (c : UInt8) (w : World)
set_option maxHeartbeats 400000 in
theorem rmust_ok (hs : s.size ≤ 140737488355328) (h : RD bp s i vL 0 at0 dp w) (hc : (sfx s i).head? = some c) :
    Calls Tryz.prog 56 #[.pointer (some ⟨bp, 0, none⟩), .int .u8 (c.toNat : Int)] w fun r w' => r = .returned (.tuple #[]) ∧ RD bp s (i + 1) vL 0 at0 dp w' ∧ Onl bp w w' := by
  have hi := head_lt hc
  have hi2 : i ≤ 140737488355328 := by omega
  have hr := ris bp s i vL 0 at0 dp c w h
  rw [isAt_yes hc] at hr
  clear hc hi
  go_enter Tryz.func56, Tryz.ntmps56
  go_wp2_with fail
  refine hr.mono ?_
  rintro e w1 ⟨rfl, n, hw1⟩
  rw [hw1]; clear hw1 w1 hr
  have h1 := h.drewN n
  have ho : Onl bp w (w.drewN n) := (onl_refl bp w).drewN n
  generalize w.drewN n = w1 at h1 ho
  obtain ⟨c0, c1, c2, c3, c4, c5, cf⟩ := h1.cell
  have f1 := cf 1
  go_wp2
  go_end0
  exact ⟨rfl, h1.setI (i + 1), ho.setCell _ h1⟩
set_option maxHeartbeats 400000 in
theorem rmust_no (h : RD bp s i vL 0 at0 dp w) (hc : (sfx s i).head? ≠ some c) :
    Calls Tryz.prog 56 #[.pointer (some ⟨bp, 0, none⟩), .int .u8 (c.toNat : Int)] w fun r w' => r = .returned (.tuple #[]) ∧ RD bp s i vL 2 i dp w' ∧ Onl bp w w' := by
  have hr := ris bp s i vL 0 at0 dp c w h
  rw [isAt_no hc] at hr
  clear hc
  go_enter Tryz.func56, Tryz.ntmps56
  go_wp2_with fail
  refine hr.mono ?_
  rintro e w1 ⟨rfl, n, hw1⟩
  rw [hw1]; clear hw1 w1 hr
  have h1 := h.drewN n
  have ho : Onl bp w (w.drewN n) := (onl_refl bp w).drewN n
  generalize w.drewN n = w1 at h1 ho
  obtain ⟨c0, c1, c2, c3, c4, c5, cf⟩ := h1.cell
  have hf := rfail0 bp s i vL at0 dp 2 i w1 h1
  go_wp2_with fail
  refine hf.mono ?_
  rintro e w2 ⟨rfl, h2, ho2⟩
  clear hf
  have HO : Hid _ := ho.trans ho2
  clear ho ho2
  go_wp2
  refine bodyPost_ret (results_none rfl _ _ _) rfl ?_
  exact ⟨rfl, h2, HO.out⟩
set_option maxHeartbeats 400000 in
theorem rmust_er (h : RD bp s i vL er at0 dp w) (he : 0 < er) :
    Calls Tryz.prog 56 #[.pointer (some ⟨bp, 0, none⟩), .int .u8 (c.toNat : Int)] w fun r w' => r = .returned (.tuple #[]) ∧ ∃ n, w' = w.drewN n := by
  have hr := ris bp s i vL er at0 dp c w h
  rw [isAt_er he] at hr
  go_enter Tryz.func56, Tryz.ntmps56
  go_wp2_with fail
  refine hr.mono ?_
  rintro e w1 ⟨rfl, n, hw1⟩
  rw [hw1]; clear hw1 w1 hr
  obtain ⟨c0, c1, c2, c3, c4, c5, cf⟩ := (h.drewN n).cell
  have hf := rfail1 bp s i vL er at0 dp 2 i (w.drewN n) (h.drewN n) he
  go_wp2_with fail
  refine hf.mono ?_
  rintro e w2 ⟨rfl, hw2⟩
  rw [hw2]; clear hw2 w2 hf
  go_wp2
  refine bodyPost_ret (results_none rfl _ _ _) rfl ?_
  exact ⟨rfl, n, rfl⟩
end

theorem nb_cons (s : ByteArray) (i : Nat) (h : i < s.size) (hb : isB s[i] = true) : nb (sfx s i) = nb (sfx s (i + 1)) + 1 := by rw [sfx_cons s i h, nb, if_pos hb]
theorem nb_zero (s : ByteArray) (i : Nat) (h : ∀ c, (sfx s i).head? = some c → isB c = false) : nb (sfx s i) = 0 := by
  match hs : sfx s i with
  | [] => rfl
  | c :: r => rw [nb, if_neg (by rw [h c (by rw [hs]; rfl)]; simp)]

def posOf : Option Value → Nat | some (.int _ n) => n.toNat | _ => 0
theorem pos_rd {bp : Nat} {s : ByteArray} {i : Nat} {vL : Value} {er at' dp : Nat} {w : World} (h : RD bp s i vL er at' dp w) : posOf (w.cell? ⟨bp, 1, none⟩) = i := by rw [h.cell.2.1]; rfl
theorem pos_set {bp : Nat} {s : ByteArray} {i : Nat} {vL : Value} {er at' dp : Nat} {w : World} (h : RD bp s i vL er at' dp w) (k : Nat) : posOf ((w.setCell ⟨bp, 1, none⟩ (.int .i64 ((k : Int) + 1))).cell? ⟨bp, 1, none⟩) = k + 1 := pos_rd (h.setI (k + 1))

set_option maxHeartbeats 1000000 in
theorem rblanks (bp : Nat) (s : ByteArray) (i : Nat) (vL : Value) (at0 dp : Nat) (w : World) (hs : s.size ≤ 140737488355328) (h : RD bp s i vL 0 at0 dp w) :
    Calls Tryz.prog 16 #[.pointer (some ⟨bp, 0, none⟩)] w fun r w' => r = .returned (.tuple #[]) ∧ RD bp s (i + nb (sfx s i)) vL 0 at0 dp w' ∧ Onl bp w w' := by
  generalize hE : i + nb (sfx s i) = E
  have HE : Hid (i + nb (sfx s i) = E) := hE
  clear hE
  go_enter Tryz.func16, Tryz.ntmps16
  go_wp2_with fail
  go_loopw [2] (fun v wr => ∃ k : Nat, k + nb (sfx s k) = E ∧ RD bp s k vL 0 at0 dp wr ∧ Onl bp w wr) (fun _ wr => s.size - posOf (wr.cell? ⟨bp, 1, none⟩))
  case atStart => exact ⟨i, HE.out, h, onl_refl bp w⟩
  case round =>
    clear h
    obtain ⟨k, hE, h, ho⟩ := hrel
    have HK : Hid (k + nb (sfx s k) = E) := hE
    have HR : Hid (RD bp s k vL 0 at0 dp wr) := h
    have HO : Hid (Onl bp w wr) := ho
    clear hE h ho HE
    have hr : ∀ (c : UInt8) (b : Bool), isAt 0 (sfx s k) c = b → ∀ w', RD bp s k vL 0 at0 dp w' → Calls Tryz.prog 32 #[.pointer (some ⟨bp, 0, none⟩), .int .u8 (c.toNat : Int)] w' fun r w'' => r = .returned (.bool b) ∧ RD bp s k vL 0 at0 dp w'' ∧ Onl bp w' w'' :=
      fun c b hb w' h' => hb ▸ (ris bp s k vL 0 at0 dp c w' h').mono fun e w'' ⟨he, n, hw⟩ => ⟨he, hw ▸ h'.drewN n, hw ▸ (onl_refl bp w').drewN n⟩
    by_cases hB : k < s.size ∧ ∃ h : k < s.size, isB s[k] = true
    · obtain ⟨hks, _, hB⟩ := hB
      have hh : (sfx s k).head? = some s[k] := by rw [sfx_cons s k hks]; rfl
      have hE2 := HK.out
      rw [nb_cons s k hks hB] at hE2
      have HE2 : Hid (k + (nb (sfx s (k + 1)) + 1) = E) := hE2
      have hk2 : k ≤ 140737488355328 := by omega
      clear hE2 HK
      have hc : s[k] = 32 ∨ s[k] = 9 ∨ s[k] = 10 ∨ s[k] = 13 := by simpa [isB, or_assoc] using hB
      clear hB
      rcases hc with hc | hc | hc | hc
      · rw [hc] at hh
        have hr32 : ∀ w', RD bp s k vL 0 at0 dp w' → Calls Tryz.prog 32 #[.pointer (some ⟨bp, 0, none⟩), .int .u8 32] w' fun r w'' => r = .returned (.bool true) ∧ RD bp s k vL 0 at0 dp w'' ∧ Onl bp w' w'' := hr 32 true (isAt_yes hh)
        have hm : posOf (wr.cell? ⟨bp, 1, none⟩) = k := by rw [HR.out.cell.2.1]; rfl
        have HM : Hid (posOf (wr.cell? ⟨bp, 1, none⟩) = k) := hm
        clear hc hh hr hm
        go_wp2_with fail
        refine (hr32 _ HR.out).mono ?_
        rintro e w1 ⟨rfl, h1, o1⟩
        have HR1 : Hid (RD bp s k vL 0 at0 dp w1) := h1
        have HO1 : Hid (Onl bp w w1) := HO.out.trans o1
        clear h1 o1 HR HO
        obtain ⟨c0, c1, c2, c3, c4, c5, cf⟩ := HR1.out.cell
        have f1 := cf 1
        go_wp2
        refine ⟨⟨k + 1, by have := HE2.out; omega, HR1.out.setI (k + 1), HO1.out.setCell _ HR1.out⟩, ?_⟩
        rw [HM.out, pos_set HR1.out k]; omega
      · rw [hc] at hh
        have hr32 : ∀ w', RD bp s k vL 0 at0 dp w' → Calls Tryz.prog 32 #[.pointer (some ⟨bp, 0, none⟩), .int .u8 32] w' fun r w'' => r = .returned (.bool false) ∧ RD bp s k vL 0 at0 dp w'' ∧ Onl bp w' w'' := hr 32 false (isAt_no (by rw [hh]; decide))
        have hr9 : ∀ w', RD bp s k vL 0 at0 dp w' → Calls Tryz.prog 32 #[.pointer (some ⟨bp, 0, none⟩), .int .u8 9] w' fun r w'' => r = .returned (.bool true) ∧ RD bp s k vL 0 at0 dp w'' ∧ Onl bp w' w'' := hr 9 true (isAt_yes hh)
        have hm : posOf (wr.cell? ⟨bp, 1, none⟩) = k := by rw [HR.out.cell.2.1]; rfl
        have HM : Hid (posOf (wr.cell? ⟨bp, 1, none⟩) = k) := hm
        clear hc hh hr hm
        go_wp2_with fail
        refine (hr32 _ HR.out).mono ?_
        rintro e w1 ⟨rfl, h1, o1⟩
        have HR1 : Hid (RD bp s k vL 0 at0 dp w1) := h1
        have HO1 : Hid (Onl bp w w1) := HO.out.trans o1
        clear h1 o1 HR HO
        go_wp2_with fail
        refine (hr9 _ HR1.out).mono ?_
        rintro e w2 ⟨rfl, h2, o2⟩
        have HR2 : Hid (RD bp s k vL 0 at0 dp w2) := h2
        have HO2 : Hid (Onl bp w w2) := HO1.out.trans o2
        clear h2 o2 HR1 HO1
        obtain ⟨c0, c1, c2, c3, c4, c5, cf⟩ := HR2.out.cell
        have f1 := cf 1
        go_wp2
        refine ⟨⟨k + 1, by have := HE2.out; omega, HR2.out.setI (k + 1), HO2.out.setCell _ HR2.out⟩, ?_⟩
        rw [HM.out, pos_set HR2.out k]; omega
      · rw [hc] at hh
        have hr32 : ∀ w', RD bp s k vL 0 at0 dp w' → Calls Tryz.prog 32 #[.pointer (some ⟨bp, 0, none⟩), .int .u8 32] w' fun r w'' => r = .returned (.bool false) ∧ RD bp s k vL 0 at0 dp w'' ∧ Onl bp w' w'' := hr 32 false (isAt_no (by rw [hh]; decide))
        have hr9 : ∀ w', RD bp s k vL 0 at0 dp w' → Calls Tryz.prog 32 #[.pointer (some ⟨bp, 0, none⟩), .int .u8 9] w' fun r w'' => r = .returned (.bool false) ∧ RD bp s k vL 0 at0 dp w'' ∧ Onl bp w' w'' := hr 9 false (isAt_no (by rw [hh]; decide))
        have hr10 : ∀ w', RD bp s k vL 0 at0 dp w' → Calls Tryz.prog 32 #[.pointer (some ⟨bp, 0, none⟩), .int .u8 10] w' fun r w'' => r = .returned (.bool true) ∧ RD bp s k vL 0 at0 dp w'' ∧ Onl bp w' w'' := hr 10 true (isAt_yes hh)
        have hm : posOf (wr.cell? ⟨bp, 1, none⟩) = k := by rw [HR.out.cell.2.1]; rfl
        have HM : Hid (posOf (wr.cell? ⟨bp, 1, none⟩) = k) := hm
        clear hc hh hr hm
        go_wp2_with fail
        refine (hr32 _ HR.out).mono ?_
        rintro e w1 ⟨rfl, h1, o1⟩
        have HR1 : Hid (RD bp s k vL 0 at0 dp w1) := h1
        have HO1 : Hid (Onl bp w w1) := HO.out.trans o1
        clear h1 o1 HR HO
        go_wp2_with fail
        refine (hr9 _ HR1.out).mono ?_
        rintro e w2 ⟨rfl, h2, o2⟩
        have HR2 : Hid (RD bp s k vL 0 at0 dp w2) := h2
        have HO2 : Hid (Onl bp w w2) := HO1.out.trans o2
        clear h2 o2 HR1 HO1
        go_wp2_with fail
        refine (hr10 _ HR2.out).mono ?_
        rintro e w3 ⟨rfl, h3, o3⟩
        have HR3 : Hid (RD bp s k vL 0 at0 dp w3) := h3
        have HO3 : Hid (Onl bp w w3) := HO2.out.trans o3
        clear h3 o3 HR2 HO2
        obtain ⟨c0, c1, c2, c3, c4, c5, cf⟩ := HR3.out.cell
        have f1 := cf 1
        go_wp2
        refine ⟨⟨k + 1, by have := HE2.out; omega, HR3.out.setI (k + 1), HO3.out.setCell _ HR3.out⟩, ?_⟩
        rw [HM.out, pos_set HR3.out k]; omega
      · rw [hc] at hh
        have hr32 : ∀ w', RD bp s k vL 0 at0 dp w' → Calls Tryz.prog 32 #[.pointer (some ⟨bp, 0, none⟩), .int .u8 32] w' fun r w'' => r = .returned (.bool false) ∧ RD bp s k vL 0 at0 dp w'' ∧ Onl bp w' w'' := hr 32 false (isAt_no (by rw [hh]; decide))
        have hr9 : ∀ w', RD bp s k vL 0 at0 dp w' → Calls Tryz.prog 32 #[.pointer (some ⟨bp, 0, none⟩), .int .u8 9] w' fun r w'' => r = .returned (.bool false) ∧ RD bp s k vL 0 at0 dp w'' ∧ Onl bp w' w'' := hr 9 false (isAt_no (by rw [hh]; decide))
        have hr10 : ∀ w', RD bp s k vL 0 at0 dp w' → Calls Tryz.prog 32 #[.pointer (some ⟨bp, 0, none⟩), .int .u8 10] w' fun r w'' => r = .returned (.bool false) ∧ RD bp s k vL 0 at0 dp w'' ∧ Onl bp w' w'' := hr 10 false (isAt_no (by rw [hh]; decide))
        have hr13 : ∀ w', RD bp s k vL 0 at0 dp w' → Calls Tryz.prog 32 #[.pointer (some ⟨bp, 0, none⟩), .int .u8 13] w' fun r w'' => r = .returned (.bool true) ∧ RD bp s k vL 0 at0 dp w'' ∧ Onl bp w' w'' := hr 13 true (isAt_yes hh)
        have hm : posOf (wr.cell? ⟨bp, 1, none⟩) = k := by rw [HR.out.cell.2.1]; rfl
        have HM : Hid (posOf (wr.cell? ⟨bp, 1, none⟩) = k) := hm
        clear hc hh hr hm
        go_wp2_with fail
        refine (hr32 _ HR.out).mono ?_
        rintro e w1 ⟨rfl, h1, o1⟩
        have HR1 : Hid (RD bp s k vL 0 at0 dp w1) := h1
        have HO1 : Hid (Onl bp w w1) := HO.out.trans o1
        clear h1 o1 HR HO
        go_wp2_with fail
        refine (hr9 _ HR1.out).mono ?_
        rintro e w2 ⟨rfl, h2, o2⟩
        have HR2 : Hid (RD bp s k vL 0 at0 dp w2) := h2
        have HO2 : Hid (Onl bp w w2) := HO1.out.trans o2
        clear h2 o2 HR1 HO1
        go_wp2_with fail
        refine (hr10 _ HR2.out).mono ?_
        rintro e w3 ⟨rfl, h3, o3⟩
        have HR3 : Hid (RD bp s k vL 0 at0 dp w3) := h3
        have HO3 : Hid (Onl bp w w3) := HO2.out.trans o3
        clear h3 o3 HR2 HO2
        go_wp2_with fail
        refine (hr13 _ HR3.out).mono ?_
        rintro e w4 ⟨rfl, h4, o4⟩
        have HR4 : Hid (RD bp s k vL 0 at0 dp w4) := h4
        have HO4 : Hid (Onl bp w w4) := HO3.out.trans o4
        clear h4 o4 HR3 HO3
        obtain ⟨c0, c1, c2, c3, c4, c5, cf⟩ := HR4.out.cell
        have f1 := cf 1
        go_wp2
        refine ⟨⟨k + 1, by have := HE2.out; omega, HR4.out.setI (k + 1), HO4.out.setCell _ HR4.out⟩, ?_⟩
        rw [HM.out, pos_set HR4.out k]; omega
    · have hn : ∀ c, (sfx s k).head? = some c → isB c = false := by
        intro c hc
        have hks := head_lt hc
        rw [sfx_cons s k hks] at hc
        have hc : s[k] = c := by simpa using hc
        cases hb : isB c
        · rfl
        · exact absurd ⟨hks, hks, by rw [hc]; exact hb⟩ hB
      have hz := nb_zero s k hn
      have hr32 : ∀ w', RD bp s k vL 0 at0 dp w' → Calls Tryz.prog 32 #[.pointer (some ⟨bp, 0, none⟩), .int .u8 32] w' fun r w'' => r = .returned (.bool false) ∧ RD bp s k vL 0 at0 dp w'' ∧ Onl bp w' w'' := hr 32 false (isAt_no (fun h => by have := hn _ h; simp [isB] at this))
      have hr9 : ∀ w', RD bp s k vL 0 at0 dp w' → Calls Tryz.prog 32 #[.pointer (some ⟨bp, 0, none⟩), .int .u8 9] w' fun r w'' => r = .returned (.bool false) ∧ RD bp s k vL 0 at0 dp w'' ∧ Onl bp w' w'' := hr 9 false (isAt_no (fun h => by have := hn _ h; simp [isB] at this))
      have hr10 : ∀ w', RD bp s k vL 0 at0 dp w' → Calls Tryz.prog 32 #[.pointer (some ⟨bp, 0, none⟩), .int .u8 10] w' fun r w'' => r = .returned (.bool false) ∧ RD bp s k vL 0 at0 dp w'' ∧ Onl bp w' w'' := hr 10 false (isAt_no (fun h => by have := hn _ h; simp [isB] at this))
      have hr13 : ∀ w', RD bp s k vL 0 at0 dp w' → Calls Tryz.prog 32 #[.pointer (some ⟨bp, 0, none⟩), .int .u8 13] w' fun r w'' => r = .returned (.bool false) ∧ RD bp s k vL 0 at0 dp w'' ∧ Onl bp w' w'' := hr 13 false (isAt_no (fun h => by have := hn _ h; simp [isB] at this))
      have HZ : Hid (nb (sfx s k) = 0) := hz
      clear hz hn hB hr
      go_wp2_with fail
      refine (hr32 _ HR.out).mono ?_
      rintro e w1 ⟨rfl, h1, o1⟩
      have HR1 : Hid (RD bp s k vL 0 at0 dp w1) := h1
      have HO1 : Hid (Onl bp w w1) := HO.out.trans o1
      clear h1 o1 HR HO
      go_wp2_with fail
      refine (hr9 _ HR1.out).mono ?_
      rintro e w2 ⟨rfl, h2, o2⟩
      have HR2 : Hid (RD bp s k vL 0 at0 dp w2) := h2
      have HO2 : Hid (Onl bp w w2) := HO1.out.trans o2
      clear h2 o2 HR1 HO1
      go_wp2_with fail
      refine (hr10 _ HR2.out).mono ?_
      rintro e w3 ⟨rfl, h3, o3⟩
      have HR3 : Hid (RD bp s k vL 0 at0 dp w3) := h3
      have HO3 : Hid (Onl bp w w3) := HO2.out.trans o3
      clear h3 o3 HR2 HO2
      go_wp2_with fail
      refine (hr13 _ HR3.out).mono ?_
      rintro e w4 ⟨rfl, h4, o4⟩
      have HR4 : Hid (RD bp s k vL 0 at0 dp w4) := h4
      have HO4 : Hid (Onl bp w w4) := HO3.out.trans o4
      clear h4 o4 HR3 HO3
      go_wp2
      go_end0
      have hE : k = E := by have := HK.out; rw [HZ.out] at this; omega
      subst hE
      exact ⟨rfl, HR4.out, HO4.out⟩

set_option maxHeartbeats 400000 in
theorem rblanks_er (bp : Nat) (s : ByteArray) (i : Nat) (vL : Value) (er at0 dp : Nat) (w : World) (h : RD bp s i vL er at0 dp w) (he : 0 < er) :
    Calls Tryz.prog 16 #[.pointer (some ⟨bp, 0, none⟩)] w fun r w' => r = .returned (.tuple #[]) ∧ RD bp s i vL er at0 dp w' ∧ Onl bp w w' := by
  have hr : ∀ (c : UInt8), ∀ w', RD bp s i vL er at0 dp w' → Calls Tryz.prog 32 #[.pointer (some ⟨bp, 0, none⟩), .int .u8 (c.toNat : Int)] w' fun r w'' => r = .returned (.bool false) ∧ RD bp s i vL er at0 dp w'' ∧ Onl bp w' w'' :=
    fun c w' h' => (ris bp s i vL er at0 dp c w' h').mono fun e w'' ⟨he2, n, hw⟩ => ⟨by rw [he2, isAt_er he], hw ▸ h'.drewN n, hw ▸ (onl_refl bp w').drewN n⟩
  have hr32 : ∀ w', RD bp s i vL er at0 dp w' → Calls Tryz.prog 32 #[.pointer (some ⟨bp, 0, none⟩), .int .u8 32] w' fun r w'' => r = .returned (.bool false) ∧ RD bp s i vL er at0 dp w'' ∧ Onl bp w' w'' := hr 32
  have hr9 : ∀ w', RD bp s i vL er at0 dp w' → Calls Tryz.prog 32 #[.pointer (some ⟨bp, 0, none⟩), .int .u8 9] w' fun r w'' => r = .returned (.bool false) ∧ RD bp s i vL er at0 dp w'' ∧ Onl bp w' w'' := hr 9
  have hr10 : ∀ w', RD bp s i vL er at0 dp w' → Calls Tryz.prog 32 #[.pointer (some ⟨bp, 0, none⟩), .int .u8 10] w' fun r w'' => r = .returned (.bool false) ∧ RD bp s i vL er at0 dp w'' ∧ Onl bp w' w'' := hr 10
  have hr13 : ∀ w', RD bp s i vL er at0 dp w' → Calls Tryz.prog 32 #[.pointer (some ⟨bp, 0, none⟩), .int .u8 13] w' fun r w'' => r = .returned (.bool false) ∧ RD bp s i vL er at0 dp w'' ∧ Onl bp w' w'' := hr 13
  have HR : Hid (RD bp s i vL er at0 dp w) := h
  have HO : Hid (Onl bp w w) := onl_refl bp w
  clear hr h he
  go_enter Tryz.func16, Tryz.ntmps16
  go_wp2_with fail
  refine wp_loop_once ?_
  go_wp2_with fail
  refine (hr32 _ HR.out).mono ?_
  rintro e w1 ⟨rfl, h1, o1⟩
  have HR1 : Hid (RD bp s i vL er at0 dp w1) := h1
  have HO1 : Hid (Onl bp w w1) := HO.out.trans o1
  clear h1 o1 HR HO
  go_wp2_with fail
  refine (hr9 _ HR1.out).mono ?_
  rintro e w2 ⟨rfl, h2, o2⟩
  have HR2 : Hid (RD bp s i vL er at0 dp w2) := h2
  have HO2 : Hid (Onl bp w w2) := HO1.out.trans o2
  clear h2 o2 HR1 HO1
  go_wp2_with fail
  refine (hr10 _ HR2.out).mono ?_
  rintro e w3 ⟨rfl, h3, o3⟩
  have HR3 : Hid (RD bp s i vL er at0 dp w3) := h3
  have HO3 : Hid (Onl bp w w3) := HO2.out.trans o3
  clear h3 o3 HR2 HO2
  go_wp2_with fail
  refine (hr13 _ HR3.out).mono ?_
  rintro e w4 ⟨rfl, h4, o4⟩
  have HR4 : Hid (RD bp s i vL er at0 dp w4) := h4
  have HO4 : Hid (Onl bp w w4) := HO3.out.trans o4
  clear h4 o4 HR3 HO3
  go_wp2
  go_end0
  exact ⟨rfl, HR4.out, HO4.out⟩
end Go.Proofs.YtgiaflcbiipafabGreatDoor
/-
  The document's reader: what a backslash stands for.
-/
namespace Go.Proofs.YtgiaflcbiipafabGreatDoor
open Go.RowKit
set_option linter.unusedVariables false

theorem pairL_plain (n : Nat) (r : List UInt8) (h : n < 55296 ∨ 57343 < n) : pairL n r = .ok (wr8 n, 6) := by unfold pairL; rw [if_pos h]

theorem lowL_bound {l : List UInt8} {m : Nat} (h : lowL l = some m) : 56320 ≤ m ∧ m ≤ 57343 := by
  unfold lowL at h
  split at h
  · split at h
    · split at h
      · split at h
        · injection h with h; subst h; assumption
        · cases h
      · cases h
    · cases h
  · cases h

section
variable (bp : Nat) (s : ByteArray) (i : Nat) (vL : Value) (at0 dp : Nat) (w : World)

set_option maxHeartbeats 400000 in
theorem rpair_plain (n : Int) (m a : Nat) (hm : n = (m : Int)) (hn : n < 55296 ∨ 57343 < n) (hn2 : m < 65536) (h : RD bp s i vL 0 at0 dp w) :
    Calls Tryz.prog 77 #[.pointer (some ⟨bp, 0, none⟩), .int .i64 n, .int .i64 (a : Int)] w fun r w' => r = .returned (.string ⟨(wr8 m).toArray⟩) ∧ RD bp s i vL 0 at0 dp w' ∧ Onl bp w w' := by
  have hw := rwritten m w (by omega)
  rw [← hm] at hw
  generalize (⟨(wr8 m).toArray⟩ : ByteArray) = T at hw
  clear hm hn2
  rcases hn with hn | hn
  · go_enter Tryz.func77, Tryz.ntmps77
    go_wp2_with fail
    refine hw.mono ?_
    rintro e w1 ⟨rfl, hb⟩
    have HB : Hid _ := hb
    clear hb hw
    go_wp2
    go_ret
    exact ⟨rfl, by unfold RD; rw [HB.out.block _ h.lt]; exact h, onl_below HB.out⟩
  · have hf : decide (n < 55296) = false := by simp; omega
    go_enter Tryz.func77, Tryz.ntmps77
    go_wp2_with fail
    refine hw.mono ?_
    rintro e w1 ⟨rfl, hb⟩
    have HB : Hid _ := hb
    clear hb hw
    go_wp2
    go_ret
    exact ⟨rfl, by unfold RD; rw [HB.out.block _ h.lt]; exact h, onl_below HB.out⟩

set_option maxHeartbeats 400000 in
theorem rpair_two (n : Int) (a : Nat) (m2 T : Nat) (hn : 55296 ≤ n) (hn2 : n < 56320) (hl : lowL (sfx s i) = some m2) (hT : 65536 + 1024 * (n - 55296) + (m2 : Int) - 56320 = (T : Int)) (hT2 : T < 1114112) (h : RD bp s i vL 0 at0 dp w) (hi : i ≤ 140737488350000) :
    Calls Tryz.prog 77 #[.pointer (some ⟨bp, 0, none⟩), .int .i64 n, .int .i64 (a : Int)] w fun r w' => r = .returned (.string ⟨(wr8 T).toArray⟩) ∧ RD bp s (i + 6) vL 0 at0 dp w' ∧ Onl bp w w' := by
  have hm2 : (m2 : Int) ≤ 57343 := by have := lowL_bound hl; omega
  have hf1 : decide (n < 55296) = false := by simp; omega
  have hf2 : decide (57343 < n) = false := by simp; omega
  have hf3 : decide (56320 ≤ n) = false := by simp; omega
  have hf4 : decide ((m2 : Int) < 0) = false := by simp
  have hlo := fun w => rlow s i w (by omega)
  rw [hl, optI_some] at hlo
  have hwr := fun w => rwritten T w hT2
  rw [← hT] at hwr
  generalize (⟨(wr8 T).toArray⟩ : ByteArray) = T8 at hwr
  obtain ⟨c0, c1, c2, c3, c4, c5, cf⟩ := h.cell
  clear hl hT hT2
  go_enter Tryz.func77, Tryz.ntmps77
  go_wp2_with fail
  go_quiet ((go_at_call 104; exact Calls.quiet_of_same (hlo _)))
  have h1 := h.drewN nq
  have o1 : Onl bp w (w.drewN nq) := (onl_refl bp w).drewN nq
  generalize w.drewN nq = w1 at h1 o1
  have HO1 : Hid (Onl bp w w1) := o1
  clear o1 c0 c1 c2 c3 c4 c5 cf
  obtain ⟨c0, c1, c2, c3, c4, c5, cf⟩ := h1.cell
  have f1 := cf 1
  go_wp2_with fail
  refine (hwr _).mono ?_
  rintro e w2 ⟨rfl, hb⟩
  have h2 := h1.setI (i + 6)
  have HO2 : Hid (Onl bp w w2) := (HO1.out.setCell _ h1).trans (onl_below hb)
  have H2 : Hid (RD bp s (i + 6) vL 0 at0 dp w2) := by unfold RD; rw [hb.block _ h2.lt]; exact h2
  clear hb h2 hwr hlo
  go_wp2
  go_ret
  exact ⟨rfl, H2.out, HO2.out⟩

set_option maxHeartbeats 400000 in
theorem rpair_er (n : Int) (a : Nat) (hn : 55296 ≤ n) (hn2 : n ≤ 57343) (hl : lowL (sfx s i) = none ∨ 56320 ≤ n) (h : RD bp s i vL 0 at0 dp w) (hi : i ≤ 140737488350000) :
    Calls Tryz.prog 77 #[.pointer (some ⟨bp, 0, none⟩), .int .i64 n, .int .i64 (a : Int)] w fun r w' => r = .returned (.string ⟨#[]⟩) ∧ RD bp s i vL 2 a dp w' ∧ Onl bp w w' := by
  have hf1 : decide (n < 55296) = false := by simp; omega
  have hf2 : decide (57343 < n) = false := by simp; omega
  have hlo := fun w => rlow s i w (by omega)
  have hq : (∃ x : Int, optI (lowL (sfx s i)) = x ∧ 56320 ≤ n) ∨ (optI (lowL (sfx s i)) = -1 ∧ n < 56320) := by
    by_cases h5 : 56320 ≤ n
    · left; exact ⟨_, rfl, h5⟩
    · right; rcases hl with hl | hl
      · exact ⟨by rw [hl]; rfl, by omega⟩
      · exact absurd hl h5
  clear hl
  obtain ⟨c0, c1, c2, c3, c4, c5, cf⟩ := h.cell
  rcases hq with ⟨x, hx, h5⟩ | ⟨hx, h5⟩
  all_goals
    rw [hx] at hlo
    clear hx
    go_enter Tryz.func77, Tryz.ntmps77
    go_wp2_with fail
    go_quiet ((go_at_call 104; exact Calls.quiet_of_same (hlo _)))
    have h1 := h.drewN nq
    have o1 : Onl bp w (w.drewN nq) := (onl_refl bp w).drewN nq
    generalize w.drewN nq = w1 at h1 o1
    have hfa := rfail0 bp s i vL at0 dp 2 a w1 h1
    have HO1 : Hid (Onl bp w w1) := o1
    clear o1 c0 c1 c2 c3 c4 c5 cf hlo
    go_wp2_with fail
    refine hfa.mono ?_
    rintro e w2 ⟨rfl, h2, o2⟩
    have HO2 : Hid (Onl bp w w2) := HO1.out.trans o2
    have H2 : Hid (RD bp s i vL 2 a dp w2) := h2
    clear h2 o2 hfa
    go_wp2
    go_ret
    exact ⟨rfl, H2.out, HO2.out⟩

theorem escL_cons (h : i + 1 < s.size) : escL (sfx s i) = (match esc1 s[i + 1] with
    | some b => .ok ([b], 2)
    | none => if s[i + 1] = 117 then (match four4 (sfx s (i + 2)) with | (none, o) => .error (2 + o) | (some n, _) => pairL n (sfx s (i + 6))) else .error 1) := by
  have hi : i < s.size := by omega
  rw [sfx_cons s i hi, sfx_cons s (i + 1) h, escL, sfx_drop]; rfl
end
end Go.Proofs.YtgiaflcbiipafabGreatDoor
