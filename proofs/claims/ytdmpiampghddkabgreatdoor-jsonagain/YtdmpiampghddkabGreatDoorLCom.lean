import Derived.Test.YtdmpiampghddkabGreatDoorWPrint
import Derived.Test.YtdmpiampghddkabGreatDoorNR3
/-
  What the laws ask of Print, Parse and ReadJson, in one form.
-/
namespace Go.Proofs.YtdmpiampghddkabGreatDoor
open Go.RowKit
set_option linter.unusedVariables false
def erR (R : Except (Nat × Nat) JT) : Nat := match R with | .ok _ => 0 | .error (e, _) => e
def plR (R : Except (Nat × Nat) JT) : Nat := match R with | .ok _ => 0 | .error (_, a) => a
theorem prF_er (R : Except (Nat × Nat) JT) : (prF R).2.1 = erR R ∧ (prF R).2.2 = plR R := by
  cases R with
  | ok t => exact ⟨rfl, rfl⟩
  | error e => obtain ⟨e, a⟩ := e; exact ⟨rfl, rfl⟩
set_option maxRecDepth 100000 in
set_option maxHeartbeats 1000000 in
theorem rread_long (s : ByteArray) (w : World) (hl : 65536 < s.size) (hs : s.size ≤ 4611686018427387904) :
    Calls Tryz.prog 9 #[.string s] w fun r w' => r = .returned (.tuple #[.slice none 0 0, .int .i64 1, .int .i64 0]) ∧ Below w.heap.size w w' := by
  have i1 : (65536 : Int) < (s.size : Int) := by omega
  go_enter Tryz.func9, Tryz.ntmps9
  go_wp2
  go_ret3
  exact ⟨rfl, Below.refl _ _⟩
/-- What ReadJson's number is, of any text. -/
theorem rread_num (s : ByteArray) (w : World) (hs : s.size ≤ 4611686018427387904) :
    Calls Tryz.prog 9 #[.string s] w fun r w' => ((∃ v, r = .returned (.tuple #[v, .int .i64 (erR (readL s.data.toList) : Int), .int .i64 (plR (readL s.data.toList) : Int)])) ∧ (erR (readL s.data.toList) = 0 → ∃ t, readL s.data.toList = .ok t)) ∧ Below w.heap.size w w' := by
  by_cases hl : 65536 < s.size
  · have e : readL s.data.toList = .error (1, 0) := by unfold readL; rw [if_pos (by simpa using hl)]
    rw [e]
    refine (rread_long s w hl hs).mono ?_
    rintro r w' ⟨rfl, hb⟩
    exact ⟨⟨⟨_, rfl⟩, fun h => by simp [erR] at h⟩, hb⟩
  · refine (rread s w (by omega)).mono ?_
    generalize readL s.data.toList = R
    rintro r w' ⟨h, hb⟩
    refine ⟨?_, hb⟩
    cases R with
    | ok t => obtain ⟨v, e, _⟩ := h; exact ⟨⟨v, e⟩, fun _ => ⟨t, rfl⟩⟩
    | error e => obtain ⟨e, a⟩ := e; exact ⟨⟨_, h.1⟩, fun h0 => by have := h.2; simp [erR] at h0; omega⟩
theorem print_num (s : ByteArray) (w : World) (hg : 8 ≤ w.heap.size) (hG : GV w) (htab : Lib.TabBelow Tryz.prog w.heap.size w "internal/strconv.uint64pow10" .u64 Lib.pow10Tab) :
    Calls Tryz.prog 5 #[.string s] w fun r w' => r = .returned (.tuple #[.string ⟨(prF (readL s.data.toList)).1.toArray⟩, .int .i64 (erR (readL s.data.toList) : Int), .int .i64 (plR (readL s.data.toList) : Int)]) ∧ Below w.heap.size w w' := by
  have := cprint s w hg hG htab
  rw [(prF_er _).1, (prF_er _).2] at this
  exact this
def ndR : Except (Nat × Nat) JT → List Nd | .ok t => flat 0 [] t | .error _ => []
theorem parse_num (s : ByteArray) (w : World) (hg : 8 ≤ w.heap.size) (hG : GV w) :
    Calls Tryz.prog 8 #[.string s] w fun r w' => ((∃ v kvs, r = .returned (.tuple #[v, .int .i64 (erR (readL s.data.toList) : Int), .int .i64 (plR (readL s.data.toList) : Int)]) ∧ NK (w.heap.size + 1) 58 v kvs (ndR (readL s.data.toList)) w')) ∧ Below w.heap.size w w' :=
  (cparse s w hg hG).mono fun r w' hh => ⟨by
    have h := hh.1
    generalize readL s.data.toList = R at h
    cases R with
    | ok t => exact h
    | error q => obtain ⟨e, a⟩ := q; exact ⟨_, [], h.1, NK.nil _ _ _⟩, hh.2⟩
end Go.Proofs.YtdmpiampghddkabGreatDoor
