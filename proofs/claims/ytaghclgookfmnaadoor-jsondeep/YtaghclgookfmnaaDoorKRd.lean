/-
  Joined by program: CRd, CTake.
-/
import Derived.Test.YtaghclgookfmnaaDoorJRead
/-
  The code's reader: its cursor, what it throws.
-/
namespace Go.Proofs.YtaghclgookfmnaaDoor
open Go.RowKit
set_option linter.unusedVariables false

def cdCells (s : ByteArray) (i : Nat) (vL : Value) (dp : Nat) : Array Value := #[.string s, .int .i64 (i : Int), vL, .int .i64 (dp : Int)]
/-- The code's reader that lies at bp. -/
def CD (bp : Nat) (s : ByteArray) (i : Nat) (vL : Value) (dp : Nat) (w : World) : Prop := w.heap[bp]? = some (.cells (cdCells s i vL dp) 40 (0, 0))
/-- What is thrown. -/
def fv (e a : Nat) : Value := .agg #[.int .i64 (e : Int), .int .i64 (a : Int)]
def flt (e a : Nat) : List PanicEntry := [{ v := .iface 42 (fv e a), recovered := false }]

theorem CD.cell {bp : Nat} {s : ByteArray} {i : Nat} {vL : Value} {dp : Nat} {w : World} (h : CD bp s i vL dp w) :
    w.cell? ⟨bp, 0, none⟩ = some (.string s) ∧ w.cell? ⟨bp, 1, none⟩ = some (.int .i64 (i : Int)) ∧ w.cell? ⟨bp, 2, none⟩ = some vL ∧ w.cell? ⟨bp, 3, none⟩ = some (.int .i64 (dp : Int)) ∧
    (∀ k, w.frozen? ⟨bp, k, none⟩ = false) := by
  refine ⟨?_, ?_, ?_, ?_, ?_⟩
  · rw [cell_of_row w bp 0 _ _ _ h]; rfl
  · rw [cell_of_row w bp 1 _ _ _ h]; rfl
  · rw [cell_of_row w bp 2 _ _ _ h]; rfl
  · rw [cell_of_row w bp 3 _ _ _ h]; rfl
  · intro k; unfold CD at h; simp [World.frozen?, h]
section
variable {bp : Nat} {s : ByteArray} {i : Nat} {vL : Value} {dp : Nat} {w : World}
theorem CD.setI (h : CD bp s i vL dp w) (j : Nat) : CD bp s j vL dp (w.setCell ⟨bp, 1, none⟩ (.int .i64 (j : Int))) := by
  rw [setCell_eq_setRow w bp 1 _ _ _ _ h]; exact setRow_heap w bp _ _ _ _ h
theorem CD.setL (h : CD bp s i vL dp w) (v : Value) : CD bp s i v dp (w.setCell ⟨bp, 2, none⟩ v) := by
  rw [setCell_eq_setRow w bp 2 _ _ _ _ h]; exact setRow_heap w bp _ _ _ _ h
theorem CD.setD (h : CD bp s i vL dp w) (j : Nat) : CD bp s i vL j (w.setCell ⟨bp, 3, none⟩ (.int .i64 (j : Int))) := by
  rw [setCell_eq_setRow w bp 3 _ _ _ _ h]; exact setRow_heap w bp _ _ _ _ h
theorem CD.lt (h : CD bp s i vL dp w) : bp < w.heap.size := (Array.getElem?_eq_some_iff.1 h).1
theorem CD.drewN (h : CD bp s i vL dp w) (n : Nat) : CD bp s i vL dp (w.drewN n) := h
theorem CD.alloc (h : CD bp s i vL dp w) (o : Obj) : CD bp s i vL dp (w.alloc o) := by
  unfold CD; rw [heap_alloc_old _ _ h.lt]; exact h
end

theorem cthrow (e a : Nat) (w : World) : Calls Tryd.prog 33 #[.int .i64 (e : Int), .int .i64 (a : Int)] w fun r w' => r = .panicked (flt e a) ∧ w' = w := by
  go_enter Tryd.func33, Tryd.ntmps33
  go_wp2
  exact ⟨rfl, rfl, rfl⟩

/-- The next byte, or 0. -/
def pk (l : List UInt8) : UInt8 := l.head?.getD 0

set_option maxHeartbeats 400000 in
theorem cpeek (bp : Nat) (s : ByteArray) (i : Nat) (vL : Value) (dp : Nat) (w : World) (h : CD bp s i vL dp w) (hi : i ≤ s.size) :
    Calls Tryd.prog 29 #[.pointer (some ⟨bp, 0, none⟩)] w fun r w' => r = .returned (.int .u8 ((pk (sfx s i)).toNat : Int)) ∧ CD bp s i vL dp w' ∧ Onl bp w w' := by
  obtain ⟨c0, c1, c2, c3, cf⟩ := h.cell
  by_cases hj : i = s.size
  · have hb : ((i : Int) == (s.size : Int)) = true := by simp [hj]
    have hp : pk (sfx s i) = 0 := by rw [sfx_nil s i (by omega)]; rfl
    rw [hp]
    clear hp hj
    go_enter Tryd.func29, Tryd.ntmps29
    go_wp2_with fail
    go_quiet (fail)
    go_wp2
    go_ret
    exact ⟨rfl, h.drewN _, (onl_refl bp w).drewN _⟩
  · have hb : ((i : Int) == (s.size : Int)) = false := by simp; omega
    have hi' : i < s.size := by omega
    have hi2 : (i : Int) < (s.size : Int) := by omega
    have hp : pk (sfx s i) = s[i] := by rw [sfx_cons s i hi']; rfl
    rw [hp]
    clear hp hj
    go_enter Tryd.func29, Tryd.ntmps29
    go_wp2_with fail
    go_quiet (fail)
    go_wp2_with fail
    go_quiet (fail)
    go_wp2
    go_ret
    exact ⟨rfl, (h.drewN _).drewN _, ((onl_refl bp w).drewN _).drewN _⟩

theorem cfail (bp : Nat) (s : ByteArray) (i : Nat) (vL : Value) (dp : Nat) (w : World) (h : CD bp s i vL dp w) :
    Calls Tryd.prog 18 #[.pointer (some ⟨bp, 0, none⟩)] w fun r w' => r = .panicked (flt 2 i) ∧ w' = w := by
  obtain ⟨c0, c1, c2, c3, cf⟩ := h.cell
  have ht : Calls Tryd.prog 33 #[.int .i64 2, .int .i64 (i : Int)] w fun r w' => r = .panicked (flt 2 i) ∧ w' = w := cthrow 2 i w
  go_enter Tryd.func18, Tryd.ntmps18
  go_wp2_with fail
  refine ht.mono ?_
  rintro e w1 ⟨rfl, rfl⟩
  clear ht
  go_wp2
  exact ⟨rfl, rfl, rfl⟩

theorem pk_head {l : List UInt8} {c : UInt8} (h : l.head? = some c) : pk l = c := by simp [pk, h]
theorem pk_ne {l : List UInt8} {c : UInt8} (hc : c ≠ 0) (h : l.head? ≠ some c) : pk l ≠ c := by
  match l with
  | [] => simpa [pk] using fun e => hc e.symm
  | a :: r => simpa [pk] using h
section
variable (bp : Nat) (s : ByteArray) (i : Nat) (vL : Value) (dp : Nat) (c : UInt8) (w : World)
set_option maxHeartbeats 400000 in
theorem ctake_yes (hs : s.size ≤ 140737488355328) (h : CD bp s i vL dp w) (hc : (sfx s i).head? = some c) :
    Calls Tryd.prog 51 #[.pointer (some ⟨bp, 0, none⟩), .int .u8 (c.toNat : Int)] w fun r w' => r = .returned (.bool true) ∧ CD bp s (i + 1) vL dp w' ∧ Onl bp w w' := by
  have hi := head_lt hc
  have hi2 : i ≤ 140737488355328 := by omega
  have hp := cpeek bp s i vL dp w h (by omega)
  rw [pk_head hc] at hp
  clear hc hi
  go_enter Tryd.func51, Tryd.ntmps51
  go_wp2_with fail
  refine hp.mono ?_
  rintro e w1 ⟨rfl, h1, o1⟩
  clear hp
  have HO : Hid _ := o1
  clear o1
  obtain ⟨c0, c1, c2, c3, cf⟩ := h1.cell
  have f1 := cf 1
  go_wp2
  go_ret
  exact ⟨rfl, h1.setI (i + 1), Onl.setCell HO.out _ h1⟩
set_option maxHeartbeats 400000 in
theorem ctake_no (h : CD bp s i vL dp w) (hi : i ≤ s.size) (hc0 : c ≠ 0) (hc : (sfx s i).head? ≠ some c) :
    Calls Tryd.prog 51 #[.pointer (some ⟨bp, 0, none⟩), .int .u8 (c.toNat : Int)] w fun r w' => r = .returned (.bool false) ∧ CD bp s i vL dp w' ∧ Onl bp w w' := by
  have hp := cpeek bp s i vL dp w h hi
  have hb : (((pk (sfx s i)).toNat : Int) == (c.toNat : Int)) = false := by
    rw [beq_eq_false_iff_ne]; intro e; exact pk_ne hc0 hc (UInt8.toNat_inj.1 (by exact_mod_cast e))
  clear hc hc0
  go_enter Tryd.func51, Tryd.ntmps51
  go_wp2_with fail
  refine hp.mono ?_
  rintro e w1 ⟨rfl, h1, o1⟩
  clear hp
  have HO : Hid _ := o1
  clear o1
  go_wp2
  go_ret
  exact ⟨rfl, h1, HO.out⟩
set_option maxHeartbeats 400000 in
theorem cneed_yes (hs : s.size ≤ 140737488355328) (h : CD bp s i vL dp w) (hc : (sfx s i).head? = some c) :
    Calls Tryd.prog 41 #[.pointer (some ⟨bp, 0, none⟩), .int .u8 (c.toNat : Int)] w fun r w' => r = .returned (.tuple #[]) ∧ CD bp s (i + 1) vL dp w' ∧ Onl bp w w' := by
  have hp := ctake_yes bp s i vL dp c w hs h hc
  clear hc
  go_enter Tryd.func41, Tryd.ntmps41
  go_wp2_with fail
  refine hp.mono ?_
  rintro e w1 ⟨rfl, h1, o1⟩
  clear hp
  have HO : Hid _ := o1
  clear o1
  go_wp2
  go_end0
  exact ⟨rfl, h1, HO.out⟩
set_option maxHeartbeats 400000 in
theorem cneed_no (h : CD bp s i vL dp w) (hi : i ≤ s.size) (hc0 : c ≠ 0) (hc : (sfx s i).head? ≠ some c) :
    Calls Tryd.prog 41 #[.pointer (some ⟨bp, 0, none⟩), .int .u8 (c.toNat : Int)] w fun r w' => r = .panicked (flt 2 i) ∧ CD bp s i vL dp w' ∧ Onl bp w w' := by
  have hp := ctake_no bp s i vL dp c w h hi hc0 hc
  clear hc
  go_enter Tryd.func41, Tryd.ntmps41
  go_wp2_with fail
  refine hp.mono ?_
  rintro e w1 ⟨rfl, h1, o1⟩
  clear hp
  have HO : Hid _ := o1
  clear o1
  have hf := cfail bp s i vL dp w1 h1
  go_wp2_with fail
  refine hf.mono ?_
  rintro e w2 ⟨rfl, rfl⟩
  clear hf
  go_wp2
  exact ⟨rfl, rfl, h1, HO.out⟩
end
end Go.Proofs.YtaghclgookfmnaaDoor
/-
  The code's reader: what stands here of a kind.
-/
namespace Go.Proofs.YtaghclgookfmnaaDoor
open Go.RowKit
set_option linter.unusedVariables false

/-- How many bytes of a kind stand ahead. -/
def run (p : UInt8 → Bool) : List UInt8 → Nat | [] => 0 | c :: r => if p c then run p r + 1 else 0
theorem run_le (p : UInt8 → Bool) (l : List UInt8) : run p l ≤ l.length := by
  induction l with
  | nil => simp [run]
  | cons c r ih => rw [run]; split <;> simp <;> omega
theorem run_cons (p : UInt8 → Bool) (s : ByteArray) (i : Nat) (h : i < s.size) (hb : p s[i] = true) : run p (sfx s i) = run p (sfx s (i + 1)) + 1 := by rw [sfx_cons s i h, run, if_pos hb]
theorem run_zero (p : UInt8 → Bool) (l : List UInt8) (h0 : p 0 = false) (h : p (pk l) = false) : run p l = 0 := by
  match l with
  | [] => rfl
  | c :: r => rw [run, if_neg (by simpa [pk] using h)]
theorem run_nb (l : List UInt8) : run isB l = nb l := by
  induction l with
  | nil => rfl
  | cons c r ih => rw [run, nb, ih]
theorem run_nd (l : List UInt8) : run isD l = nd l := by
  induction l with
  | nil => rfl
  | cons c r ih => rw [run, nd, ih]
theorem run_nl (l : List UInt8) : run isL l = nl l := by
  induction l with
  | nil => rfl
  | cons c r ih => rw [run, nl, ih]

/-- A kind of bytes, as the function K tells it. -/
def Kind (K : Nat) (p : UInt8 → Bool) : Prop := ∀ (c : UInt8) (w : World), Calls Tryd.prog K #[.int .u8 (c.toNat : Int)] w fun e w' => e = .returned (.bool (p c)) ∧ w' = w

set_option maxHeartbeats 400000 in
theorem kblank : Kind 28 isB := by
  intro c w
  by_cases h1 : c = 32
  · subst h1
    go_enter Tryd.func28, Tryd.ntmps28
    go_wp2
    go_ret
    exact ⟨rfl, rfl⟩
  · by_cases h2 : c = 9
    · subst h2
      go_enter Tryd.func28, Tryd.ntmps28
      go_wp2
      go_ret
      exact ⟨rfl, rfl⟩
    · by_cases h3 : c = 10
      · subst h3
        go_enter Tryd.func28, Tryd.ntmps28
        go_wp2
        go_ret
        exact ⟨rfl, rfl⟩
      · have e1 : ((c.toNat : Int) == 32) = false := by rw [beq_eq_false_iff_ne]; intro e; exact h1 (UInt8.toNat_inj.1 (by simpa using by omega))
        have e2 : ((c.toNat : Int) == 9) = false := by rw [beq_eq_false_iff_ne]; intro e; exact h2 (UInt8.toNat_inj.1 (by simpa using by omega))
        have e3 : ((c.toNat : Int) == 10) = false := by rw [beq_eq_false_iff_ne]; intro e; exact h3 (UInt8.toNat_inj.1 (by simpa using by omega))
        have e4 : isB c = ((c.toNat : Int) == 13) := by
          have b1 : (c == 32) = false := beq_eq_false_iff_ne.2 h1
          have b2 : (c == 9) = false := beq_eq_false_iff_ne.2 h2
          have b3 : (c == 10) = false := beq_eq_false_iff_ne.2 h3
          rw [isB, b1, b2, b3, Bool.false_or, Bool.false_or, Bool.false_or, Bool.eq_iff_iff, beq_iff_eq, beq_iff_eq]
          constructor
          · rintro rfl; rfl
          · intro e; exact UInt8.toNat_inj.1 (by simpa using by omega)
        rw [e4]
        clear e4 h1 h2 h3
        go_enter Tryd.func28, Tryd.ntmps28
        go_wp2
        go_ret
        exact ⟨rfl, rfl⟩
set_option maxHeartbeats 400000 in
theorem kdigit : Kind 45 isD := by
  intro c w
  by_cases h1 : 48 ≤ c.toNat
  · have h1' : (48 : Int) ≤ (c.toNat : Int) := by omega
    by_cases h2 : c.toNat ≤ 57
    · have h2' : (c.toNat : Int) ≤ 57 := by omega
      go_enter Tryd.func45, Tryd.ntmps45
      go_wp2
      go_ret
      exact ⟨by simp [isD, h1, h2], rfl⟩
    · have h2' : (57 : Int) < (c.toNat : Int) := by omega
      go_enter Tryd.func45, Tryd.ntmps45
      go_wp2
      go_ret
      exact ⟨by simp [isD, h2]; omega, rfl⟩
  · have h1' : (c.toNat : Int) < 48 := by omega
    go_enter Tryd.func45, Tryd.ntmps45
    go_wp2
    go_ret
    exact ⟨by simp [isD, h1], rfl⟩
set_option maxHeartbeats 400000 in
theorem ksmall : Kind 57 isL := by
  intro c w
  by_cases h1 : 97 ≤ c.toNat
  · have h1' : (97 : Int) ≤ (c.toNat : Int) := by omega
    by_cases h2 : c.toNat ≤ 122
    · have h2' : (c.toNat : Int) ≤ 122 := by omega
      go_enter Tryd.func57, Tryd.ntmps57
      go_wp2
      go_ret
      exact ⟨by simp [isL, h1, h2], rfl⟩
    · have h2' : (122 : Int) < (c.toNat : Int) := by omega
      go_enter Tryd.func57, Tryd.ntmps57
      go_wp2
      go_ret
      exact ⟨by simp [isL, h2]; omega, rfl⟩
  · have h1' : (c.toNat : Int) < 97 := by omega
    go_enter Tryd.func57, Tryd.ntmps57
    go_wp2
    go_ret
    exact ⟨by simp [isL, h1], rfl⟩

theorem cpos_rd {bp : Nat} {s : ByteArray} {i : Nat} {vL : Value} {dp : Nat} {w : World} (h : CD bp s i vL dp w) : posOf (w.cell? ⟨bp, 1, none⟩) = i := by rw [h.cell.2.1]; rfl
theorem cpos_set {bp : Nat} {s : ByteArray} {i : Nat} {vL : Value} {dp : Nat} {w : World} (h : CD bp s i vL dp w) (k : Nat) : posOf ((w.setCell ⟨bp, 1, none⟩ (.int .i64 ((k : Int) + 1))).cell? ⟨bp, 1, none⟩) = k + 1 := cpos_rd (h.setI (k + 1))

set_option maxHeartbeats 1000000 in
theorem ctakeAll_blank (bp : Nat) (s : ByteArray) (i : Nat) (vL : Value) (dp : Nat) (w : World) (hs : s.size ≤ 140737488355328) (h : CD bp s i vL dp w) (hi : i ≤ s.size) :
    Calls Tryd.prog 27 #[.pointer (some ⟨bp, 0, none⟩), .func (.func 28) #[] #[]] w fun r w' => r = .returned (.string (s.extract i (i + run isB (sfx s i)))) ∧ CD bp s (i + run isB (sfx s i)) vL dp w' ∧ Onl bp w w' := by
  generalize hE : i + run isB (sfx s i) = E
  have hEs : E ≤ s.size := by have := run_le isB (sfx s i); rw [sfx_length] at this; omega
  have HE : Hid (i + run isB (sfx s i) = E) := hE
  clear hE
  obtain ⟨c0, c1, c2, c3, cf⟩ := h.cell
  go_enter Tryd.func27, Tryd.ntmps27
  go_wp2_with fail
  clear c0 c1 c2 c3 cf
  go_loopw [10] (fun v wr => ∃ k : Nat, k ≤ s.size ∧ i ≤ k ∧ k + run isB (sfx s k) = E ∧ CD bp s k vL dp wr ∧ Onl bp w wr) (fun _ wr => s.size - posOf (wr.cell? ⟨bp, 1, none⟩))
  case atStart => exact ⟨i, hi, Nat.le_refl _, HE.out, h, onl_refl bp w⟩
  case round =>
    clear h HE
    obtain ⟨k, hk, hik, hE, h, ho⟩ := hrel
    have HK : Hid (k + run isB (sfx s k) = E) := hE
    have HO : Hid (Onl bp w wr) := ho
    have hm : posOf (wr.cell? ⟨bp, 1, none⟩) = k := cpos_rd h
    have HM : Hid (posOf (wr.cell? ⟨bp, 1, none⟩) = k) := hm
    clear hE ho hm
    have hp := cpeek bp s k vL dp wr h hk
    have hk2 : k ≤ 140737488355328 := by omega
    have hkk := fun w' => kblank (pk (sfx s k)) w'
    go_wp2_with fail
    refine hp.mono ?_
    rintro e w1 ⟨rfl, h1, o1⟩
    clear hp
    have HO1 : Hid (Onl bp w w1) := HO.out.trans o1
    clear o1 HO
    cases hq : isB (pk (sfx s k)) with
    | true =>
      rw [hq] at hkk
      have hks : k < s.size := by
        by_cases hx : k < s.size
        · exact hx
        · rw [sfx_nil s k (by omega)] at hq; cases hq
      have hE2 := HK.out
      rw [run_cons isB s k hks (by rw [sfx_cons s k hks] at hq; exact hq)] at hE2
      have HE2 : Hid (k + (run isB (sfx s (k + 1)) + 1) = E) := hE2
      clear hE2 HK hq
      go_wp2_with fail
      refine (hkk _).mono ?_
      rintro e w2 ⟨rfl, rfl⟩
      clear hkk
      obtain ⟨c0, c1, c2, c3, cf⟩ := h1.cell
      have f1 := cf 1
      go_wp2
      refine ⟨⟨k + 1, by omega, by omega, by have := HE2.out; omega, h1.setI (k + 1), Onl.setCell HO1.out _ h1⟩, ?_⟩
      rw [HM.out, cpos_set h1 k]; omega
    | false =>
      rw [hq] at hkk
      have hE2 := HK.out
      rw [run_zero isB _ rfl hq] at hE2
      have hE3 : k = E := by omega
      subst hE3
      clear hE2 HK hq HM
      go_wp2_with fail
      refine (hkk _).mono ?_
      rintro e w2 ⟨rfl, rfl⟩
      clear hkk
      obtain ⟨c0, c1, c2, c3, cf⟩ := h1.cell
      have hik' : (i : Int) ≤ (k : Int) := by omega
      have hks' : (k : Int) ≤ (s.size : Int) := by omega
      go_wp2_with fail
      go_quiet (fail)
      go_wp2
      go_ret
      exact ⟨rfl, h1.drewN _, Onl.drewN HO1.out _⟩
set_option maxHeartbeats 1000000 in
theorem ctakeAll_digit (bp : Nat) (s : ByteArray) (i : Nat) (vL : Value) (dp : Nat) (w : World) (hs : s.size ≤ 140737488355328) (h : CD bp s i vL dp w) (hi : i ≤ s.size) :
    Calls Tryd.prog 27 #[.pointer (some ⟨bp, 0, none⟩), .func (.func 45) #[] #[]] w fun r w' => r = .returned (.string (s.extract i (i + run isD (sfx s i)))) ∧ CD bp s (i + run isD (sfx s i)) vL dp w' ∧ Onl bp w w' := by
  generalize hE : i + run isD (sfx s i) = E
  have hEs : E ≤ s.size := by have := run_le isD (sfx s i); rw [sfx_length] at this; omega
  have HE : Hid (i + run isD (sfx s i) = E) := hE
  clear hE
  obtain ⟨c0, c1, c2, c3, cf⟩ := h.cell
  go_enter Tryd.func27, Tryd.ntmps27
  go_wp2_with fail
  clear c0 c1 c2 c3 cf
  go_loopw [10] (fun v wr => ∃ k : Nat, k ≤ s.size ∧ i ≤ k ∧ k + run isD (sfx s k) = E ∧ CD bp s k vL dp wr ∧ Onl bp w wr) (fun _ wr => s.size - posOf (wr.cell? ⟨bp, 1, none⟩))
  case atStart => exact ⟨i, hi, Nat.le_refl _, HE.out, h, onl_refl bp w⟩
  case round =>
    clear h HE
    obtain ⟨k, hk, hik, hE, h, ho⟩ := hrel
    have HK : Hid (k + run isD (sfx s k) = E) := hE
    have HO : Hid (Onl bp w wr) := ho
    have hm : posOf (wr.cell? ⟨bp, 1, none⟩) = k := cpos_rd h
    have HM : Hid (posOf (wr.cell? ⟨bp, 1, none⟩) = k) := hm
    clear hE ho hm
    have hp := cpeek bp s k vL dp wr h hk
    have hk2 : k ≤ 140737488355328 := by omega
    have hkk := fun w' => kdigit (pk (sfx s k)) w'
    go_wp2_with fail
    refine hp.mono ?_
    rintro e w1 ⟨rfl, h1, o1⟩
    clear hp
    have HO1 : Hid (Onl bp w w1) := HO.out.trans o1
    clear o1 HO
    cases hq : isD (pk (sfx s k)) with
    | true =>
      rw [hq] at hkk
      have hks : k < s.size := by
        by_cases hx : k < s.size
        · exact hx
        · rw [sfx_nil s k (by omega)] at hq; cases hq
      have hE2 := HK.out
      rw [run_cons isD s k hks (by rw [sfx_cons s k hks] at hq; exact hq)] at hE2
      have HE2 : Hid (k + (run isD (sfx s (k + 1)) + 1) = E) := hE2
      clear hE2 HK hq
      go_wp2_with fail
      refine (hkk _).mono ?_
      rintro e w2 ⟨rfl, rfl⟩
      clear hkk
      obtain ⟨c0, c1, c2, c3, cf⟩ := h1.cell
      have f1 := cf 1
      go_wp2
      refine ⟨⟨k + 1, by omega, by omega, by have := HE2.out; omega, h1.setI (k + 1), Onl.setCell HO1.out _ h1⟩, ?_⟩
      rw [HM.out, cpos_set h1 k]; omega
    | false =>
      rw [hq] at hkk
      have hE2 := HK.out
      rw [run_zero isD _ rfl hq] at hE2
      have hE3 : k = E := by omega
      subst hE3
      clear hE2 HK hq HM
      go_wp2_with fail
      refine (hkk _).mono ?_
      rintro e w2 ⟨rfl, rfl⟩
      clear hkk
      obtain ⟨c0, c1, c2, c3, cf⟩ := h1.cell
      have hik' : (i : Int) ≤ (k : Int) := by omega
      have hks' : (k : Int) ≤ (s.size : Int) := by omega
      go_wp2_with fail
      go_quiet (fail)
      go_wp2
      go_ret
      exact ⟨rfl, h1.drewN _, Onl.drewN HO1.out _⟩
set_option maxHeartbeats 1000000 in
theorem ctakeAll_small (bp : Nat) (s : ByteArray) (i : Nat) (vL : Value) (dp : Nat) (w : World) (hs : s.size ≤ 140737488355328) (h : CD bp s i vL dp w) (hi : i ≤ s.size) :
    Calls Tryd.prog 27 #[.pointer (some ⟨bp, 0, none⟩), .func (.func 57) #[] #[]] w fun r w' => r = .returned (.string (s.extract i (i + run isL (sfx s i)))) ∧ CD bp s (i + run isL (sfx s i)) vL dp w' ∧ Onl bp w w' := by
  generalize hE : i + run isL (sfx s i) = E
  have hEs : E ≤ s.size := by have := run_le isL (sfx s i); rw [sfx_length] at this; omega
  have HE : Hid (i + run isL (sfx s i) = E) := hE
  clear hE
  obtain ⟨c0, c1, c2, c3, cf⟩ := h.cell
  go_enter Tryd.func27, Tryd.ntmps27
  go_wp2_with fail
  clear c0 c1 c2 c3 cf
  go_loopw [10] (fun v wr => ∃ k : Nat, k ≤ s.size ∧ i ≤ k ∧ k + run isL (sfx s k) = E ∧ CD bp s k vL dp wr ∧ Onl bp w wr) (fun _ wr => s.size - posOf (wr.cell? ⟨bp, 1, none⟩))
  case atStart => exact ⟨i, hi, Nat.le_refl _, HE.out, h, onl_refl bp w⟩
  case round =>
    clear h HE
    obtain ⟨k, hk, hik, hE, h, ho⟩ := hrel
    have HK : Hid (k + run isL (sfx s k) = E) := hE
    have HO : Hid (Onl bp w wr) := ho
    have hm : posOf (wr.cell? ⟨bp, 1, none⟩) = k := cpos_rd h
    have HM : Hid (posOf (wr.cell? ⟨bp, 1, none⟩) = k) := hm
    clear hE ho hm
    have hp := cpeek bp s k vL dp wr h hk
    have hk2 : k ≤ 140737488355328 := by omega
    have hkk := fun w' => ksmall (pk (sfx s k)) w'
    go_wp2_with fail
    refine hp.mono ?_
    rintro e w1 ⟨rfl, h1, o1⟩
    clear hp
    have HO1 : Hid (Onl bp w w1) := HO.out.trans o1
    clear o1 HO
    cases hq : isL (pk (sfx s k)) with
    | true =>
      rw [hq] at hkk
      have hks : k < s.size := by
        by_cases hx : k < s.size
        · exact hx
        · rw [sfx_nil s k (by omega)] at hq; cases hq
      have hE2 := HK.out
      rw [run_cons isL s k hks (by rw [sfx_cons s k hks] at hq; exact hq)] at hE2
      have HE2 : Hid (k + (run isL (sfx s (k + 1)) + 1) = E) := hE2
      clear hE2 HK hq
      go_wp2_with fail
      refine (hkk _).mono ?_
      rintro e w2 ⟨rfl, rfl⟩
      clear hkk
      obtain ⟨c0, c1, c2, c3, cf⟩ := h1.cell
      have f1 := cf 1
      go_wp2
      refine ⟨⟨k + 1, by omega, by omega, by have := HE2.out; omega, h1.setI (k + 1), Onl.setCell HO1.out _ h1⟩, ?_⟩
      rw [HM.out, cpos_set h1 k]; omega
    | false =>
      rw [hq] at hkk
      have hE2 := HK.out
      rw [run_zero isL _ rfl hq] at hE2
      have hE3 : k = E := by omega
      subst hE3
      clear hE2 HK hq HM
      go_wp2_with fail
      refine (hkk _).mono ?_
      rintro e w2 ⟨rfl, rfl⟩
      clear hkk
      obtain ⟨c0, c1, c2, c3, cf⟩ := h1.cell
      have hik' : (i : Int) ≤ (k : Int) := by omega
      have hks' : (k : Int) ≤ (s.size : Int) := by omega
      go_wp2_with fail
      go_quiet (fail)
      go_wp2
      go_ret
      exact ⟨rfl, h1.drewN _, Onl.drewN HO1.out _⟩

set_option maxHeartbeats 400000 in
theorem cblanks (bp : Nat) (s : ByteArray) (i : Nat) (vL : Value) (dp : Nat) (w : World) (hs : s.size ≤ 140737488355328) (h : CD bp s i vL dp w) (hi : i ≤ s.size) :
    Calls Tryd.prog 16 #[.pointer (some ⟨bp, 0, none⟩)] w fun r w' => r = .returned (.tuple #[]) ∧ CD bp s (i + nb (sfx s i)) vL dp w' ∧ Onl bp w w' := by
  have ht := ctakeAll_blank bp s i vL dp w hs h hi
  rw [run_nb] at ht
  generalize i + nb (sfx s i) = E at ht ⊢
  go_enter Tryd.func16, Tryd.ntmps16
  go_wp2_with fail
  refine ht.mono ?_
  rintro e w1 ⟨rfl, h1, o1⟩
  clear ht
  have HO : Hid _ := o1
  clear o1
  go_wp2
  go_end0
  exact ⟨rfl, h1, HO.out⟩
end Go.Proofs.YtaghclgookfmnaaDoor
