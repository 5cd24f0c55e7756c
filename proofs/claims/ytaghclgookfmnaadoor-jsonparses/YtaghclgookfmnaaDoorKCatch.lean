/-
  Joined by program: CCatch, CFour.
-/
import Derived.Test.YtaghclgookfmnaaDoorKRd
import Derived.Defers
import Derived.Recover
import Derived.Test.YtaghclgookfmnaaDoorShelf
/-
  The code's reader: what is thrown is caught.
-/
namespace Go.Proofs.YtaghclgookfmnaaDoor
open Go.RowKit
set_option linter.unusedVariables false

theorem as_fault (v : Value) (w : World) : (Instr.typeAssert (.iface 42 v) 20 42 false).run Tryd.prog w = .ok v w := by kernel_rfl

theorem ccatch_pan (b : Nat) (x y : Value) (e a : Nat) (older : List PanicEntry) (w : World) (hc : w.heap[b]? = some (.cells #[x, y] 42 (0, 0))) :
    CallsD Tryd.prog 15 #[.pointer (some ⟨b, 0, none⟩)] (.panicking ({ v := .iface 42 (fv e a), recovered := false } :: older)) w fun r u' w' =>
      r = .returned (.tuple #[]) ∧ u' = .panicking ({ v := .iface 42 (fv e a), recovered := true } :: older) ∧ w' = (w.setCell ⟨b, 0, none⟩ (.int .i64 (e : Int))).setCell ⟨b, 1, none⟩ (.int .i64 (a : Int)) := by
  have c0 : w.cell? ⟨b, 0, none⟩ = some x := by rw [cell_of_row w b 0 _ _ _ hc]; rfl
  have c1 : w.cell? ⟨b, 1, none⟩ = some y := by rw [cell_of_row w b 1 _ _ _ hc]; rfl
  have cf : ∀ k, w.frozen? ⟨b, k, none⟩ = false := by intro k; simp [World.frozen?, hc]
  refine callsD_of_wpS Tryd.func15 rfl fun c₀ cs hu => ?_
  apply wpS_seq
  apply wpS_region
  simp [wpOpsS, go_sem, recoverD, hu, Tryd.ntmps15, Exit.thenS]
  apply wpS_seq
  apply wpS_region
  simp [wpOpsS, go_sem, Exit.thenS, fv]
  refine wpS_cond (t := true) (by simp [Act.eval, Array.replicate]) ?_
  simp only [if_true]
  have hta := as_fault
  have f0 := cf 0
  have f1 := cf 1
  refine wpS_of_wp ?_
  change Code.wp _ _ _ ⟨#[.pointer (some ⟨b, 0, none⟩), .iface 42 (.agg #[.int .i64 (e : Int), .int .i64 (a : Int)]), .iface 42 (.agg #[.int .i64 (e : Int), .int .i64 (a : Int)]), .iface 42 (.agg #[.int .i64 (e : Int), .int .i64 (a : Int)]), .bool true, undef, undef], []⟩ w
  go_wp2
  simp [bodyPostS, results, Tryd.results15]

theorem ccatch_idle (b : Nat) (w : World) :
    CallsD Tryd.prog 15 #[.pointer (some ⟨b, 0, none⟩)] .returning w fun r u' w' => r = .returned (.tuple #[]) ∧ u' = .returning ∧ w' = w := by
  refine callsD_of_wpS Tryd.func15 rfl fun c₀ cs hu => ?_
  apply wpS_seq
  apply wpS_region
  simp [wpOpsS, go_sem, recoverD, hu, Tryd.ntmps15, Exit.thenS]
  apply wpS_seq
  apply wpS_region
  simp [wpOpsS, go_sem, Exit.thenS]
  refine wpS_cond (t := false) (by simp [Act.eval, Array.replicate]) ?_
  simp only [Bool.false_eq_true, if_false]
  refine wpS_of_wp (wp_skip ?_)
  cases c₀
  simp_all [bodyPostS, results, Tryd.results15]

set_option maxHeartbeats 1000000 in
theorem ccatch_text_bad (bp : Nat) (w : World) (e : Nat) (S : Nat → World → Prop)
    (hr : Calls Tryd.prog 10 #[.pointer (some ⟨bp, 0, none⟩)] (w.alloc (.cells #[.int .i64 0, .int .i64 0] 42)) fun r w2 => ∃ a, r = .panicked (flt e a) ∧ w2.heap[w.heap.size]? = some (.cells #[.int .i64 0, .int .i64 0] 42 (0, 0)) ∧ S a w2) :
    Calls Tryd.prog 9 #[.func (.func 10) #[.pointer (some ⟨bp, 0, none⟩)] #[]] w fun r w' => ∃ a, r = .returned (fv e a) ∧ ∃ w2, S a w2 ∧ Onl w.heap.size w2 w' := by
  have hmf : ∀ (fn : Fn) (first cap : Array Value) (w : World), (Instr.makeFunc fn first cap).run Tryd.prog w = .ok (.func fn first cap) w := fun _ _ _ _ => rfl
  go_enter_defers Tryd.func9, Tryd.ntmps9
  go_wp2_with fail
  refine hr.mono ?_
  rintro r w2 ⟨a, rfl, hc, hS⟩
  go_wp2
  refine leaves_cons (f := 15) (args := #[.pointer (some ⟨w.heap.size, 0, none⟩)]) (by simp) (by simp [go_sem]) ?_
  refine (ccatch_pan w.heap.size _ _ e a [] _ hc).mono ?_
  rintro r u' w3 ⟨rfl, rfl, rfl⟩
  have c0 := cell_of_row w2 w.heap.size 0 _ _ _ hc
  have c1 := cell_of_row w2 w.heap.size 1 _ _ _ hc
  have O1 : Onl w.heap.size w2 ((w2.setCell ⟨w.heap.size, 0, none⟩ (.int .i64 (e : Int))).setCell ⟨w.heap.size, 1, none⟩ (.int .i64 (a : Int))) := Onl.setCell (Onl.setCell (onl_refl _ w2) _ hc) _ (by rw [setCell_eq_setRow w2 _ 0 _ _ _ _ hc]; exact setRow_heap w2 _ _ _ _ _ hc)
  simp [Leaves, settle, results, Tryd.results9, go_sem, c0, c1, fv]
  exact ⟨a, rfl, w2, hS, O1⟩
set_option maxHeartbeats 1000000 in
theorem ccatch_text_ok (bp : Nat) (w : World) (S : World → Prop)
    (hr : Calls Tryd.prog 10 #[.pointer (some ⟨bp, 0, none⟩)] (w.alloc (.cells #[.int .i64 0, .int .i64 0] 42)) fun r w2 => r = .returned (.tuple #[]) ∧ w2.heap[w.heap.size]? = some (.cells #[.int .i64 0, .int .i64 0] 42 (0, 0)) ∧ S w2) :
    Calls Tryd.prog 9 #[.func (.func 10) #[.pointer (some ⟨bp, 0, none⟩)] #[]] w fun r w' => r = .returned (fv 0 0) ∧ ∃ w2, S w2 ∧ Onl w.heap.size w2 w' := by
  have hmf : ∀ (fn : Fn) (first cap : Array Value) (w : World), (Instr.makeFunc fn first cap).run Tryd.prog w = .ok (.func fn first cap) w := fun _ _ _ _ => rfl
  go_enter_defers Tryd.func9, Tryd.ntmps9
  go_wp2_with fail
  refine hr.mono ?_
  rintro r w2 ⟨rfl, hc, hS⟩
  have c0 := cell_of_row w2 w.heap.size 0 _ _ _ hc
  have c1 := cell_of_row w2 w.heap.size 1 _ _ _ hc
  have f0 : w2.frozen? ⟨w.heap.size, 0, none⟩ = false := by simp [World.frozen?, hc]
  have f1 : w2.frozen? ⟨w.heap.size, 1, none⟩ = false := by simp [World.frozen?, hc]
  go_wp2
  refine leaves_cons (f := 15) (args := #[.pointer (some ⟨w.heap.size, 0, none⟩)]) (by simp) (by simp [go_sem]) ?_
  refine (ccatch_idle w.heap.size _).mono ?_
  rintro r u' w3 ⟨rfl, rfl, rfl⟩
  have O1 : Onl w.heap.size w2 ((w2.setCell ⟨w.heap.size, 0, none⟩ (.int .i64 0)).setCell ⟨w.heap.size, 1, none⟩ (.int .i64 0)) := Onl.setCell (Onl.setCell (onl_refl _ w2) _ hc) _ (by rw [setCell_eq_setRow w2 _ 0 _ _ _ _ hc]; exact setRow_heap w2 _ _ _ _ _ hc)
  simp [Leaves, settle, results, Tryd.results9, go_sem, c0, c1, fv]
  exact ⟨w2, hS, O1⟩
set_option maxHeartbeats 1000000 in
theorem ccatch_try_bad (a1 a2 : Nat) (w : World) (e : Nat) (S : Nat → World → Prop)
    (hr : Calls Tryd.prog 79 #[.pointer (some ⟨a1, 0, none⟩), .pointer (some ⟨a2, 0, none⟩)] (w.alloc (.cells #[.int .i64 0, .int .i64 0] 42)) fun r w2 => ∃ a, r = .panicked (flt e a) ∧ w2.heap[w.heap.size]? = some (.cells #[.int .i64 0, .int .i64 0] 42 (0, 0)) ∧ S a w2) :
    Calls Tryd.prog 9 #[.func (.func 79) #[] #[.pointer (some ⟨a1, 0, none⟩), .pointer (some ⟨a2, 0, none⟩)]] w fun r w' => ∃ a, r = .returned (fv e a) ∧ ∃ w2, S a w2 ∧ Onl w.heap.size w2 w' := by
  have hmf : ∀ (fn : Fn) (first cap : Array Value) (w : World), (Instr.makeFunc fn first cap).run Tryd.prog w = .ok (.func fn first cap) w := fun _ _ _ _ => rfl
  go_enter_defers Tryd.func9, Tryd.ntmps9
  go_wp2_with fail
  refine hr.mono ?_
  rintro r w2 ⟨a, rfl, hc, hS⟩
  go_wp2
  refine leaves_cons (f := 15) (args := #[.pointer (some ⟨w.heap.size, 0, none⟩)]) (by simp) (by simp [go_sem]) ?_
  refine (ccatch_pan w.heap.size _ _ e a [] _ hc).mono ?_
  rintro r u' w3 ⟨rfl, rfl, rfl⟩
  have c0 := cell_of_row w2 w.heap.size 0 _ _ _ hc
  have c1 := cell_of_row w2 w.heap.size 1 _ _ _ hc
  have O1 : Onl w.heap.size w2 ((w2.setCell ⟨w.heap.size, 0, none⟩ (.int .i64 (e : Int))).setCell ⟨w.heap.size, 1, none⟩ (.int .i64 (a : Int))) := Onl.setCell (Onl.setCell (onl_refl _ w2) _ hc) _ (by rw [setCell_eq_setRow w2 _ 0 _ _ _ _ hc]; exact setRow_heap w2 _ _ _ _ _ hc)
  simp [Leaves, settle, results, Tryd.results9, go_sem, c0, c1, fv]
  exact ⟨a, rfl, w2, hS, O1⟩
set_option maxHeartbeats 1000000 in
theorem ccatch_try_ok (a1 a2 : Nat) (w : World) (S : World → Prop)
    (hr : Calls Tryd.prog 79 #[.pointer (some ⟨a1, 0, none⟩), .pointer (some ⟨a2, 0, none⟩)] (w.alloc (.cells #[.int .i64 0, .int .i64 0] 42)) fun r w2 => r = .returned (.tuple #[]) ∧ w2.heap[w.heap.size]? = some (.cells #[.int .i64 0, .int .i64 0] 42 (0, 0)) ∧ S w2) :
    Calls Tryd.prog 9 #[.func (.func 79) #[] #[.pointer (some ⟨a1, 0, none⟩), .pointer (some ⟨a2, 0, none⟩)]] w fun r w' => r = .returned (fv 0 0) ∧ ∃ w2, S w2 ∧ Onl w.heap.size w2 w' := by
  have hmf : ∀ (fn : Fn) (first cap : Array Value) (w : World), (Instr.makeFunc fn first cap).run Tryd.prog w = .ok (.func fn first cap) w := fun _ _ _ _ => rfl
  go_enter_defers Tryd.func9, Tryd.ntmps9
  go_wp2_with fail
  refine hr.mono ?_
  rintro r w2 ⟨rfl, hc, hS⟩
  have c0 := cell_of_row w2 w.heap.size 0 _ _ _ hc
  have c1 := cell_of_row w2 w.heap.size 1 _ _ _ hc
  have f0 : w2.frozen? ⟨w.heap.size, 0, none⟩ = false := by simp [World.frozen?, hc]
  have f1 : w2.frozen? ⟨w.heap.size, 1, none⟩ = false := by simp [World.frozen?, hc]
  go_wp2
  refine leaves_cons (f := 15) (args := #[.pointer (some ⟨w.heap.size, 0, none⟩)]) (by simp) (by simp [go_sem]) ?_
  refine (ccatch_idle w.heap.size _).mono ?_
  rintro r u' w3 ⟨rfl, rfl, rfl⟩
  have O1 : Onl w.heap.size w2 ((w2.setCell ⟨w.heap.size, 0, none⟩ (.int .i64 0)).setCell ⟨w.heap.size, 1, none⟩ (.int .i64 0)) := Onl.setCell (Onl.setCell (onl_refl _ w2) _ hc) _ (by rw [setCell_eq_setRow w2 _ 0 _ _ _ _ hc]; exact setRow_heap w2 _ _ _ _ _ hc)
  simp [Leaves, settle, results, Tryd.results9, go_sem, c0, c1, fv]
  exact ⟨w2, hS, O1⟩
end Go.Proofs.YtaghclgookfmnaaDoor
/-
  The code's reader: four signs.
-/
namespace Go.Proofs.YtaghclgookfmnaaDoor
open Go.RowKit
set_option linter.unusedVariables false

def hexS : ByteArray := ⟨#[48, 49, 50, 51, 52, 53, 54, 55, 56, 57, 97, 98, 99, 100, 101, 102, 65, 66, 67, 68, 69, 70]⟩
def hexX (c : UInt8) : Int := Lib.indexByte hexS.data.toList c
def hexOk (c : UInt8) : Bool := match hexv c with
  | none => decide (hexX c = -1)
  | some d => decide (0 ≤ hexX c) && decide (hexX c ≤ 21) && decide (d < 16) && (if 15 < hexX c then decide (hexX c - 6 = (d : Int)) else decide (hexX c = (d : Int)))
theorem hexOk_all : ∀ n, n < 256 → hexOk (UInt8.ofNat n) = true := by decide +kernel
theorem hexOk_c (c : UInt8) : hexOk c = true := by have := hexOk_all c.toNat c.toNat_lt; rwa [UInt8.ofNat_toNat] at this
theorem hexX_none {c : UInt8} (h : hexv c = none) : hexX c = -1 := by have := hexOk_c c; rw [hexOk, h] at this; simpa using this
theorem hexX_some {c : UInt8} {d : Nat} (h : hexv c = some d) : 0 ≤ hexX c ∧ hexX c ≤ 21 ∧ d < 16 ∧ (15 < hexX c → hexX c - 6 = (d : Int)) ∧ (¬ 15 < hexX c → hexX c = (d : Int)) := by
  have := hexOk_c c
  rw [hexOk, h] at this
  simp only [Bool.and_eq_true, decide_eq_true_eq] at this
  obtain ⟨⟨⟨a, b⟩, c'⟩, e⟩ := this
  refine ⟨a, b, c', ?_, ?_⟩
  · intro hh; rw [if_pos hh] at e; simpa using e
  · intro hh; rw [if_neg hh] at e; simpa using e
theorem cfourG_none {k n o : Nat} {l : List UInt8} (h : hexv (pk l) = none) : fourG (k + 1) n l o = (none, o) := by
  match l with
  | [] => rfl
  | c :: r => rw [fourG]; rw [show pk (c :: r) = c from rfl] at h; rw [h]
theorem cfourG_some {s : ByteArray} {i k n o d : Nat} (h : hexv (pk (sfx s i)) = some d) : i < s.size ∧ fourG (k + 1) n (sfx s i) o = fourG k (16 * n + d) (sfx s (i + 1)) (o + 1) := by
  by_cases hi : i < s.size
  · refine ⟨hi, ?_⟩
    rw [sfx_cons s i hi] at h ⊢
    rw [fourG]; rw [show pk (s[i] :: sfx s (i + 1)) = s[i] from rfl] at h; rw [h]
  · rw [sfx_nil s i (by omega)] at h; cases h

theorem cidx (c : UInt8) (w : World) : Calls Tryd.prog 63 #[.string ⟨#[48, 49, 50, 51, 52, 53, 54, 55, 56, 57, 97, 98, 99, 100, 101, 102, 65, 66, 67, 68, 69, 70]⟩, .int .u8 (c.toNat : Int)] w fun e w' => e = .returned (.int .i64 (hexX c)) ∧ w' = w := by
  have h := Tryd.strings_IndexByte hexS (c.toNat : Int) w
  rw [show ((c.toNat : Int).toNat.toUInt8) = c by simp] at h
  exact h

/-- What readFour answers. -/
def FP (bp : Nat) (s : ByteArray) (i : Nat) (vL : Value) (dp : Nat) (r : Ending) (w' : World) : Option Nat × Nat → Prop
  | (some n, _) => r = .returned (.int .i32 (n : Int)) ∧ CD bp s (i + 4) vL dp w'
  | (none, o) => r = .panicked (flt 2 (i + o)) ∧ CD bp s (i + o) vL dp w'

set_option maxHeartbeats 1000000 in
theorem cfour (bp : Nat) (s : ByteArray) (i : Nat) (vL : Value) (dp : Nat) (w : World) (hs : s.size ≤ 140737488355328) (h : CD bp s i vL dp w) (hi : i ≤ s.size) :
    Calls Tryd.prog 67 #[.pointer (some ⟨bp, 0, none⟩)] w fun r w' => FP bp s i vL dp r w' (four4 (sfx s i)) ∧ Onl bp w w' := by
  generalize hE : four4 (sfx s i) = E
  have HE : Hid (four4 (sfx s i) = E) := hE
  clear hE
  go_enter Tryd.func67, Tryd.ntmps67
  go_wp2_with fail
  go_loopw [3, 5] (fun nv kv wr => ∃ k N : Nat, k ≤ 4 ∧ i + k ≤ s.size ∧ N < 16 ^ k ∧ nv = .int .i64 (N : Int) ∧ kv = .int .i64 (k : Int) ∧ fourG (4 - k) N (sfx s (i + k)) k = E ∧ CD bp s (i + k) vL dp wr ∧ Onl bp w wr) (fun _ kv _ => 4 - (intOf kv).toNat)
  case atStart => exact ⟨0, 0, by omega, hi, by decide, rfl, rfl, HE.out, h, onl_refl bp w⟩
  case round =>
    clear h HE
    obtain ⟨k, N, hk, hik, hN, rfl, rfl, hE, h, ho⟩ := hrel
    have HK : Hid (fourG (4 - k) N (sfx s (i + k)) k = E) := hE
    have HO : Hid (Onl bp w wr) := ho
    clear hE ho
    have HN : Hid (N < 16 ^ k) := hN
    clear hN
    by_cases hk4 : k < 4
    · have hk4' : (k : Int) < 4 := by omega
      have hN' : (N : Int) ≤ 4096 := by
        have := HN.out
        have h2 : 16 ^ k ≤ 16 ^ 3 := Nat.pow_le_pow_right (by omega) (by omega)
        omega
      have hp := cpeek bp s (i + k) vL dp wr h hik
      have hx := fun w' => cidx (pk (sfx s (i + k))) w'
      have hik2 : i + k ≤ 140737488355328 := by omega
      cases hq : hexv (pk (sfx s (i + k))) with
      | none =>
        rw [hexX_none hq] at hx
        have hE2 := HK.out
        rw [show 4 - k = 3 - k + 1 by omega, cfourG_none hq] at hE2
        subst hE2
        clear HK hq
        go_wp2_with fail
        refine hp.mono ?_
        rintro e w1 ⟨rfl, h1, o1⟩
        clear hp
        have HO1 : Hid (Onl bp w w1) := HO.out.trans o1
        clear o1 HO
        go_wp2_with fail
        refine (hx _).mono ?_
        rintro e w2 ⟨rfl, rfl⟩
        clear hx
        have hf := cfail bp s (i + k) vL dp w2 h1
        go_wp2_with fail
        refine hf.mono ?_
        rintro e w3 ⟨rfl, rfl⟩
        clear hf
        go_wp2
        exact ⟨rfl, ⟨rfl, h1⟩, HO1.out⟩
      | some d =>
        obtain ⟨hks, hg⟩ := cfourG_some (k := 3 - k) (n := N) (o := k) hq
        obtain ⟨x0, x1, hd, xa, xb⟩ := hexX_some hq
        have hE2 := HK.out
        rw [show 4 - k = 3 - k + 1 by omega, hg] at hE2
        have HE2 : Hid (fourG (4 - (k + 1)) (16 * N + d) (sfx s (i + (k + 1))) (k + 1) = E) := by rw [show 4 - (k + 1) = 3 - k by omega]; exact hE2
        have hN2 : Hid (16 * N + d < 16 ^ (k + 1)) := by show 16 * N + d < 16 ^ (k + 1); rw [Nat.pow_succ]; have := HN.out; omega
        clear HK hq hE2 hg HN
        generalize hexX (pk (sfx s (i + k))) = X at hx x0 x1 xa xb
        by_cases hX : 15 < X
        · have hXd : X - 6 = (d : Int) := xa hX
          clear xa xb
          have hXe : X = (d : Int) + 6 := by omega
          subst hXe
          have hX0 : ¬ ((d : Int) + 6 < 0) := by omega
          clear hXd x0 x1
          go_wp2_with fail
          refine hp.mono ?_
          rintro e w1 ⟨rfl, h1, o1⟩
          clear hp
          have HO1 : Hid (Onl bp w w1) := HO.out.trans o1
          clear o1 HO
          go_wp2_with fail
          refine (hx _).mono ?_
          rintro e w2 ⟨rfl, rfl⟩
          clear hx
          obtain ⟨c0, c1, c2, c3, cf⟩ := h1.cell
          have f1 := cf 1
          go_wp2
          refine ⟨⟨k + 1, 16 * N + d, by omega, by omega, hN2.out, by rw [show ((16 * N + d : Nat) : Int) = (N : Int) * 16 + (d : Int) by omega], by rw [show ((k + 1 : Nat) : Int) = (k : Int) + 1 by omega], HE2.out, h1.setI (i + (k + 1)), Onl.setCell HO1.out _ h1⟩, ?_⟩
          simp only [intOf]; omega
        · have hXd : X = (d : Int) := xb hX
          clear xa xb
          subst hXd
          have hX0 : ¬ ((d : Int) < 0) := by omega
          clear x0 x1
          go_wp2_with fail
          refine hp.mono ?_
          rintro e w1 ⟨rfl, h1, o1⟩
          clear hp
          have HO1 : Hid (Onl bp w w1) := HO.out.trans o1
          clear o1 HO
          go_wp2_with fail
          refine (hx _).mono ?_
          rintro e w2 ⟨rfl, rfl⟩
          clear hx
          obtain ⟨c0, c1, c2, c3, cf⟩ := h1.cell
          have f1 := cf 1
          go_wp2
          refine ⟨⟨k + 1, 16 * N + d, by omega, by omega, hN2.out, by rw [show ((16 * N + d : Nat) : Int) = (N : Int) * 16 + (d : Int) by omega], by rw [show ((k + 1 : Nat) : Int) = (k : Int) + 1 by omega], HE2.out, h1.setI (i + (k + 1)), Onl.setCell HO1.out _ h1⟩, ?_⟩
          simp only [intOf]; omega
    · have hk4' : k = 4 := by omega
      subst hk4'
      have hN' : (N : Int) < 65536 := by have := HN.out; omega
      have hE2 := HK.out
      rw [show 4 - 4 = 0 from rfl, fourG] at hE2
      subst hE2
      clear HK HN
      go_wp2
      go_ret
      exact ⟨⟨rfl, h⟩, HO.out⟩
end Go.Proofs.YtaghclgookfmnaaDoor
