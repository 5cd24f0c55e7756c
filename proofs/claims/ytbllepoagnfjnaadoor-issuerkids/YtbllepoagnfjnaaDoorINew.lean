/-
  Names, and issuers that are made.
-/
import Derived.Test.YtbllepoagnfjnaaDoorV1
import Derived.Test.YtbllepoagnfjnaaDoorT0
import Derived.Test.YtbllepoagnfjnaaDoorShelf
import Derived.Test.YtbllepoagnfjnaaDoorShelfV
namespace Go.Proofs.YtbllepoagnfjnaaDoor.Dg
set_option maxRecDepth 4000
open Go.RowKit
set_option linter.unusedVariables false
set_option linter.unusedSimpArgs false

theorem ihid {p : Prop} (h : p) : Hid p := h
/-- What the walk asks of the package-level variables. -/
structure GI (w : World) : Prop where
  tabs : Lib.Utf8Tabs 0 1 w
  ways : WG w
def nameOk (s : ByteArray) : Bool := decide (1 ≤ s.size) && decide (s.size ≤ 100) && Lib.validD s.data.toList
def newE (iss : ByteArray) (ttl : Int) : Int := if nameOk iss = false then 2 else if ttl < 1 ∨ 1000000000 < ttl then 3 else 0
theorem empty_iff (s : ByteArray) : s.toList.isEmpty = decide (s.size = 0) := by
  rw [ByteArray.toList_eq]
  have : s.data.toList.length = s.size := by rw [Array.length_toList]; rfl
  cases h : s.data.toList with
  | nil => rw [h] at this; simp at this; simp [← this]
  | cons c r => rw [h] at this; simp at this; simp [show ¬ s.size = 0 by omega]
theorem nil_iff (s : ByteArray) : s.toList = [] ↔ s.size = 0 := by
  rw [← List.isEmpty_iff, empty_iff]; simp
set_option maxHeartbeats 1000000 in
theorem cright (s : ByteArray) (w : World) (hs : s.size ≤ 140737488351232) (hT : Lib.Utf8Tabs 0 1 w) : Calls Tryd.prog 11 #[.string s] w fun r w' => r = .returned (.bool (nameOk s)) ∧ Below w.heap.size w w' := by
  have h : Calls Tryd.prog 24 #[.string s] w fun e w' => e = .returned (.bool (Lib.validD s.data.toList)) ∧ Below w.heap.size w w' := Any.utf8_ValidString Tryd.laysValid s w (by omega) hT
  have HN : Hid (nameOk s = (decide (1 ≤ s.size) && decide (s.size ≤ 100) && Lib.validD s.data.toList)) := rfl
  generalize nameOk s = N at *
  have e0 := empty_iff s
  have e1 := nil_iff s
  generalize Lib.validD s.data.toList = V at *
  by_cases h0 : s.size = 0
  · have e2 : s.toList = [] := e1.2 h0
    obtain rfl : N = false := by rw [HN.out]; simp [h0]
    clear HN e0 e1 h
    go_enter Tryd.func11, Tryd.ntmps11
    go_wp2_with fail
    go_ret
    exact ⟨rfl, Below.refl _ _⟩
  · have e2 : s.toList.isEmpty = false := by rw [e0]; simp [h0]
    have e3 : ¬ s.toList = [] := fun hh => h0 (e1.1 hh)
    by_cases h1 : s.size ≤ 100
    · have h1' : (s.size : Int) ≤ 100 := by omega
      obtain rfl : N = V := by rw [HN.out]; simp [h1, show 1 ≤ s.size by omega]
      clear HN e0 e1
      go_enter Tryd.func11, Tryd.ntmps11
      go_wp2_with (refine h.mono ?_; rintro r w1 ⟨rfl, hb⟩; have HB := ihid hb; clear hb)
      go_ret
      exact ⟨rfl, HB.out⟩
    · have h1' : ¬ (s.size : Int) ≤ 100 := by omega
      obtain rfl : N = false := by rw [HN.out]; simp [h1]
      clear HN e0 e1 h
      go_enter Tryd.func11, Tryd.ntmps11
      go_wp2_with fail
      go_ret
      exact ⟨rfl, Below.refl _ _⟩
set_option maxHeartbeats 1000000 in
theorem risName (s : ByteArray) (w : World) (hs : s.size ≤ 140737488351232) : Calls Tryd.prog 12 #[.string s] w fun r w' => r = .returned (.bool (nameOk s)) ∧ w' = w := by
  have h := rright s w hs
  have HN : Hid (nameOk s = (decide (1 ≤ s.size) && decide (s.size ≤ 100) && Lib.validD s.data.toList)) := rfl
  have hv := valid_u8 s.data.toList
  generalize nameOk s = N at *
  go_enter Tryd.func12, Tryd.ntmps12
  go_wp2_with fail
  refine h.mono ?_
  rintro r w1 ⟨⟨b, rfl, hb⟩, hw⟩
  rw [hw]
  clear hw w1 h
  obtain rfl : b = Lib.validD s.data.toList := by rw [Bool.eq_iff_iff, hb, hv]
  clear hv hb
  generalize Lib.validD s.data.toList = V at *
  cases V with
  | false =>
    obtain rfl : N = false := by rw [HN.out]; simp
    clear HN
    go_wp2_with fail
    go_ret
    exact ⟨rfl, rfl⟩
  | true =>
    by_cases h0 : 1 ≤ s.size
    · have h0' : (1 : Int) ≤ (s.size : Int) := by omega
      by_cases h1 : s.size ≤ 100
      · have h1' : (s.size : Int) ≤ 100 := by omega
        obtain rfl : N = true := by rw [HN.out]; simp [h0, h1]
        clear HN
        go_wp2_with fail
        go_ret
        exact ⟨rfl, rfl⟩
      · have h1' : ¬ (s.size : Int) ≤ 100 := by omega
        obtain rfl : N = false := by rw [HN.out]; simp [h1]
        clear HN
        go_wp2_with fail
        go_ret
        exact ⟨by show Ending.returned (.bool (decide ((s.size : Int) ≤ 100))) = _; rw [decide_eq_false (by omega)], rfl⟩
    · have h0' : ¬ (1 : Int) ≤ (s.size : Int) := by omega
      obtain rfl : N = false := by rw [HN.out]; simp [h0]
      clear HN
      go_wp2_with fail
      go_ret
      exact ⟨rfl, rfl⟩
/-- An issuer, as it lies. -/
structure IS (b : Nat) (iss : ByteArray) (ttl now : Int) (kv : Value) (n : Int) (w : World) : Prop where
  obj : w.heap[b]? = some (.cells #[.int .i64 now, .string iss, .int .i64 ttl, kv, .int .i64 n] 51 (0, 0))
/-- What New answers. -/
def NewQ (iss : ByteArray) (ttl E : Int) (w : World) (r : Ending) (w' : World) : Prop :=
  (E = 0 ∧ ∃ b, w.heap.size ≤ b ∧ r = .returned (.tuple #[.pointer (some ⟨b, 0, none⟩), .int .i64 0]) ∧ IS b iss ttl 0 (.slice none 0 0) 0 w') ∨ (E ≠ 0 ∧ r = .returned (.tuple #[.pointer none, .int .i64 E]))
set_option maxHeartbeats 1000000 in
theorem cnew (iss : ByteArray) (ttl : Int) (w : World) (hs : iss.size ≤ 140737488351232) (hT : Lib.Utf8Tabs 0 1 w) :
    Calls Tryd.prog 4 #[.string iss, .int .i64 ttl] w fun r w' => NewQ iss ttl (newE iss ttl) w r w' ∧ Below w.heap.size w w' := by
  have h := cright iss w hs hT
  have HE : Hid (newE iss ttl = if nameOk iss = false then 2 else if ttl < 1 ∨ 1000000000 < ttl then 3 else 0) := rfl
  generalize newE iss ttl = E at *
  generalize nameOk iss = N at *
  have H := ihid h
  clear h
  cases N with
  | false =>
    obtain rfl : E = 2 := by rw [HE.out]; rfl
    clear HE
    go_enter Tryd.func4, Tryd.ntmps4
    go_wp2_with (refine H.out.mono ?_; rintro r w1 ⟨rfl, hb⟩; have HB := ihid hb; clear hb)
    refine bodyPost_ret (results_tmp2 rfl _ _ _) rfl ?_
    exact ⟨.inr ⟨by decide, rfl⟩, HB.out⟩
  | true =>
    by_cases h1 : ttl < 1
    · obtain rfl : E = 3 := by rw [HE.out, if_neg (by simp), if_pos (.inl h1)]
      clear HE
      go_enter Tryd.func4, Tryd.ntmps4
      go_wp2_with (refine H.out.mono ?_; rintro r w1 ⟨rfl, hb⟩; have HB := ihid hb; clear hb)
      refine bodyPost_ret (results_tmp2 rfl _ _ _) rfl ?_
      exact ⟨.inr ⟨by decide, rfl⟩, HB.out⟩
    · by_cases h2 : 1000000000 < ttl
      · obtain rfl : E = 3 := by rw [HE.out, if_neg (by simp), if_pos (.inr h2)]
        clear HE
        go_enter Tryd.func4, Tryd.ntmps4
        go_wp2_with (refine H.out.mono ?_; rintro r w1 ⟨rfl, hb⟩; have HB := ihid hb; clear hb)
        refine bodyPost_ret (results_tmp2 rfl _ _ _) rfl ?_
        exact ⟨.inr ⟨by decide, rfl⟩, HB.out⟩
      · obtain rfl : E = 0 := by rw [HE.out, if_neg (by simp), if_neg (by omega)]
        clear HE
        go_enter Tryd.func4, Tryd.ntmps4
        go_wp2_with (refine H.out.mono ?_; rintro r w1 ⟨rfl, hb⟩; have HB := ihid hb; clear hb)
        refine bodyPost_ret (results_tmp2 rfl _ _ _) rfl ?_
        refine ⟨.inl ⟨rfl, w1.heap.size, HB.out.size, rfl, ⟨?_⟩⟩, ?_⟩
        · exact heap_alloc_new _ _
        · exact tbal HB.out _
set_option maxHeartbeats 1000000 in
theorem rnew (iss : ByteArray) (ttl : Int) (w : World) (hs : iss.size ≤ 140737488351232) :
    Calls Tryd.prog 5 #[.string iss, .int .i64 ttl] w fun r w' => (∃ v, r = .returned (.tuple #[v, .int .i64 (newE iss ttl)])) ∧ Below w.heap.size w w' := by
  have h := risName iss w hs
  have HE : Hid (newE iss ttl = if nameOk iss = false then 2 else if ttl < 1 ∨ 1000000000 < ttl then 3 else 0) := rfl
  generalize newE iss ttl = E at *
  generalize nameOk iss = N at *
  have H := ihid h
  clear h
  cases N with
  | false =>
    obtain rfl : E = 2 := by rw [HE.out]; rfl
    clear HE
    go_enter Tryd.func5, Tryd.ntmps5
    go_wp2_with (refine H.out.mono ?_; rintro r w1 ⟨rfl, hb⟩; rw [hb]; clear hb w1)
    refine bodyPost_ret (results_tmp2 rfl _ _ _) rfl ?_
    exact ⟨⟨_, rfl⟩, Below.refl _ _⟩
  | true =>
    by_cases h1 : ttl < 1
    · obtain rfl : E = 3 := by rw [HE.out, if_neg (by simp), if_pos (.inl h1)]
      clear HE
      go_enter Tryd.func5, Tryd.ntmps5
      go_wp2_with (refine H.out.mono ?_; rintro r w1 ⟨rfl, hb⟩; rw [hb]; clear hb w1)
      refine bodyPost_ret (results_tmp2 rfl _ _ _) rfl ?_
      exact ⟨⟨_, rfl⟩, Below.refl _ _⟩
    · by_cases h2 : 1000000000 < ttl
      · obtain rfl : E = 3 := by rw [HE.out, if_neg (by simp), if_pos (.inr h2)]
        clear HE
        go_enter Tryd.func5, Tryd.ntmps5
        go_wp2_with (refine H.out.mono ?_; rintro r w1 ⟨rfl, hb⟩; rw [hb]; clear hb w1)
        refine bodyPost_ret (results_tmp2 rfl _ _ _) rfl ?_
        exact ⟨⟨_, rfl⟩, Below.refl _ _⟩
      · obtain rfl : E = 0 := by rw [HE.out, if_neg (by simp), if_neg (by omega)]
        clear HE
        go_enter Tryd.func5, Tryd.ntmps5
        go_wp2_with (refine H.out.mono ?_; rintro r w1 ⟨rfl, hb⟩; rw [hb]; clear hb w1)
        refine bodyPost_ret (results_tmp2 rfl _ _ _) rfl ?_
        exact ⟨⟨_, rfl⟩, tbal (Below.refl _ _) _⟩
end Go.Proofs.YtbllepoagnfjnaaDoor.Dg
