/-
  Joined by program: JPrintW, JWfn.
-/
import Derived.Test.YtgiaflcbiipafabGreatDoorG18
/-
  notaryref.PrintJson.
-/
namespace Go.Proofs.YtgiaflcbiipafabGreatDoor
open Go.RowKit
set_option linter.unusedVariables false

def prF (R : Except (Nat × Nat) JT) : List UInt8 × Nat × Nat :=
  match R with
  | .ok t => (formN (flat 0 [] t) (flat 0 [] t).length 0, 0, 0)
  | .error (e, a) => ([], e, a)

set_option maxHeartbeats 1000000 in
theorem rprint (s : ByteArray) (w : World) (hs : s.size ≤ 140737488351232) (hg : ∀ t, readL s.data.toList = .ok t → WFN (flat 0 [] t) ∧ Short (flat 0 [] t)) :
    Calls Tryz.prog 6 #[.string s] w fun r w' => r = .returned (.tuple #[.string ⟨(prF (readL s.data.toList)).1.toArray⟩, .int .i64 ((prF (readL s.data.toList)).2.1 : Int), .int .i64 ((prF (readL s.data.toList)).2.2 : Int)]) ∧ Below w.heap.size w w' := by
  have hr := rread s w hs
  generalize hR : readL s.data.toList = R at hr hg ⊢
  clear hR
  match R, hr, hg with
  | .error (e, a), hr, hg =>
    go_enter Tryz.func6, Tryz.ntmps6
    go_wp2_with fail
    refine hr.mono ?_
    rintro r w1 ⟨hj, b1⟩
    have B1 : Hid (Below w.heap.size w w1) := b1
    clear b1 hr
    obtain ⟨rfl, he⟩ := hj
    have he' : ((e : Int) == 0) = false := by simp; omega
    have he2 : (e == 0) = false := by simp; omega
    clear hg
    go_wp2
    go_ret3
    exact ⟨rfl, B1.out⟩
  | .ok t, hr, hg =>
    go_enter Tryz.func6, Tryz.ntmps6
    go_wp2_with fail
    refine hr.mono ?_
    rintro r w1 ⟨hj, b1⟩
    have B1 : Hid (Below w.heap.size w w1) := b1
    clear b1 hr
    obtain ⟨v, rfl, hN⟩ := hj
    obtain ⟨hW, hS⟩ := hg t rfl
    have hpos : 0 < (flat 0 [] t).length := by rw [flat_length]; have := size_pos t; omega
    obtain ⟨g, cap, rfl⟩ : ∃ g cap, v = .slice (some ⟨g, 0, none⟩) (flat 0 [] t).length cap := by
      obtain ⟨kvs, k1, k2, k3, k4⟩ := hN
      rcases k2.2 with ⟨_, h⟩ | ⟨g, c, cu, a, _⟩
      · omega
      · exact ⟨g, c, a⟩
    have hf := rform _ g cap _ hW hS (flat 0 [] t).length 0 hpos (by omega) w1 hN
    clear hg hN hW hS hpos
    go_wp2_with fail
    refine hf.mono ?_
    rintro r w2 ⟨rfl, b2⟩
    have B2 : Hid (Below w.heap.size w w2) := B1.out.trans ⟨b2.os, b2.tape, b2.output, b2.size, fun k hk => b2.block k (Nat.lt_of_lt_of_le hk B1.out.size)⟩
    clear b2 hf
    go_wp2
    go_ret3
    exact ⟨rfl, B2.out⟩
end Go.Proofs.YtgiaflcbiipafabGreatDoor
/-
  A tree laid flat is as a reader makes it.
-/
namespace Go.Proofs.YtgiaflcbiipafabGreatDoor
open Go.RowKit
set_option linter.unusedVariables false

mutual
def okT (M : Nat) : JT → Prop
  | .null _ => True
  | .truth _ _ => True
  | .int n _ => -9223372036854775808 ≤ n ∧ n ≤ 9223372036854775807
  | .str t _ => t.length ≤ M
  | .arr ts _ => okL M ts
  | .obj ms _ => okM M ms
def okL (M : Nat) : List JT → Prop
  | [] => True
  | t :: r => okT M t ∧ okL M r
def okM (M : Nat) : List (List UInt8 × JT) → Prop
  | [] => True
  | (k, t) :: r => k.length ≤ M ∧ okT M t ∧ okM M r
end
def NdOK (M : Nat) (n : Nd) : Prop := n.kind ≤ 5 ∧ (n.kind = 1 → n.num = 0 ∨ n.num = 1) ∧ -9223372036854775808 ≤ n.num ∧ n.num ≤ 9223372036854775807 ∧ n.text.length ≤ M ∧ n.key.length ≤ M
mutual
theorem flat_ok (M b : Nat) (key : List UInt8) (t : JT) (h : okT M t) (hk : key.length ≤ M) : ∀ n ∈ flat b key t, NdOK M n := by
  cases t with
  | null i => intro n hn; simp [flat] at hn; subst hn; simp [NdOK, hk]
  | truth x i => intro n hn; simp [flat] at hn; subst hn; cases x <;> simp [NdOK, hk]
  | int m i => intro n hn; simp [flat] at hn; subst hn; simp [okT] at h; simp [NdOK, hk, h]
  | str t i => intro n hn; simp [flat] at hn; subst hn; simp [okT] at h; simp [NdOK, hk, h]
  | arr ts i =>
    intro n hn
    rw [flat, List.mem_cons] at hn
    rcases hn with rfl | hn
    · simp [NdOK, hk]
    · exact flatL_ok M (b + 1) ts (by simpa [okT] using h) n hn
  | obj ms i =>
    intro n hn
    rw [flat, List.mem_cons] at hn
    rcases hn with rfl | hn
    · simp [NdOK, hk]
    · exact flatM_ok M (b + 1) ms (by simpa [okT] using h) n hn
theorem flatL_ok (M b : Nat) (ts : List JT) (h : okL M ts) : ∀ n ∈ flatL b ts, NdOK M n := by
  cases ts with
  | nil => intro n hn; simp [flatL] at hn
  | cons t r =>
    intro n hn
    rw [okL] at h
    rw [flatL, List.mem_append] at hn
    rcases hn with hn | hn
    · exact flat_ok M b [] t h.1 (Nat.zero_le _) n hn
    · exact flatL_ok M (b + t.size) r h.2 n hn
theorem flatM_ok (M b : Nat) (ms : List (List UInt8 × JT)) (h : okM M ms) : ∀ n ∈ flatM b ms, NdOK M n := by
  cases ms with
  | nil => intro n hn; simp [flatM] at hn
  | cons m r =>
    obtain ⟨k, t⟩ := m
    intro n hn
    rw [okM] at h
    rw [flatM, List.mem_append] at hn
    rcases hn with hn | hn
    · exact flat_ok M b k t h.2.1 h.1 n hn
    · exact flatM_ok M (b + t.size) r h.2.2 n hn
end
theorem startsL_in (ts : List JT) : ∀ (b c : Nat), c ∈ startsL b ts → b ≤ c ∧ c < b + sizeL ts := by
  induction ts with
  | nil => intro b c h; simp [startsL] at h
  | cons t r ih =>
    intro b c h
    have := size_pos t
    rw [startsL, List.mem_cons] at h
    rw [sizeL]
    rcases h with rfl | h
    · omega
    · have := ih _ _ h; omega
theorem startsM_in (ms : List (List UInt8 × JT)) : ∀ (b c : Nat), c ∈ startsM b ms → b ≤ c ∧ c < b + sizeM ms := by
  induction ms with
  | nil => intro b c h; simp [startsM] at h
  | cons m r ih =>
    obtain ⟨k, t⟩ := m
    intro b c h
    have := size_pos t
    rw [startsM, List.mem_cons] at h
    rw [sizeM]
    rcases h with rfl | h
    · omega
    · have := ih _ _ h; omega
mutual
theorem flat_up (b : Nat) (key : List UInt8) (t : JT) : ∀ (k : Nat) (n : Nd), (flat b key t)[k]? = some n → ∀ c ∈ n.kids, b + k < c ∧ c < b + t.size := by
  cases t with
  | null i => intro k n hn c hc; cases k with | zero => simp [flat] at hn; subst hn; simp at hc | succ k => simp [flat] at hn
  | truth x i => intro k n hn c hc; cases k with | zero => simp [flat] at hn; subst hn; simp at hc | succ k => simp [flat] at hn
  | int m i => intro k n hn c hc; cases k with | zero => simp [flat] at hn; subst hn; simp at hc | succ k => simp [flat] at hn
  | str t i => intro k n hn c hc; cases k with | zero => simp [flat] at hn; subst hn; simp at hc | succ k => simp [flat] at hn
  | arr ts i =>
    intro k n hn c hc
    rw [flat] at hn
    rw [JT.size]
    cases k with
    | zero =>
      simp at hn
      subst hn
      have := startsL_in ts _ _ hc
      omega
    | succ k =>
      have := flatL_up (b + 1) ts k n (by simpa using hn) c hc
      omega
  | obj ms i =>
    intro k n hn c hc
    rw [flat] at hn
    rw [JT.size]
    cases k with
    | zero =>
      simp at hn
      subst hn
      have := startsM_in ms _ _ hc
      omega
    | succ k =>
      have := flatM_up (b + 1) ms k n (by simpa using hn) c hc
      omega
theorem flatL_up (b : Nat) (ts : List JT) : ∀ (k : Nat) (n : Nd), (flatL b ts)[k]? = some n → ∀ c ∈ n.kids, b + k < c ∧ c < b + sizeL ts := by
  cases ts with
  | nil => intro k n hn; simp [flatL] at hn
  | cons t r =>
    intro k n hn c hc
    rw [flatL] at hn
    rw [sizeL]
    have hl := flat_length b [] t
    by_cases hk : k < t.size
    · rw [List.getElem?_append_left (by omega)] at hn
      have := flat_up b [] t k n hn c hc
      omega
    · rw [List.getElem?_append_right (by omega), hl] at hn
      have := flatL_up (b + t.size) r (k - t.size) n hn c hc
      omega
theorem flatM_up (b : Nat) (ms : List (List UInt8 × JT)) : ∀ (k : Nat) (n : Nd), (flatM b ms)[k]? = some n → ∀ c ∈ n.kids, b + k < c ∧ c < b + sizeM ms := by
  cases ms with
  | nil => intro k n hn; simp [flatM] at hn
  | cons m r =>
    obtain ⟨key, t⟩ := m
    intro k n hn c hc
    rw [flatM] at hn
    rw [sizeM]
    have hl := flat_length b key t
    by_cases hk : k < t.size
    · rw [List.getElem?_append_left (by omega)] at hn
      have := flat_up b key t k n hn c hc
      omega
    · rw [List.getElem?_append_right (by omega), hl] at hn
      have := flatM_up (b + t.size) r (k - t.size) n hn c hc
      omega
end
theorem wfn_flat (M : Nat) (t : JT) (h : okT M t) (hM : M ≤ 100000000) (hs : t.size ≤ 1000000) : WFN (flat 0 [] t) := by
  have hok : ∀ (k : Nat) (n : Nd), (flat 0 [] t)[k]? = some n → NdOK M n := fun k n hn => flat_ok M 0 [] t h (Nat.zero_le _) n (List.mem_of_getElem? hn)
  refine ⟨by rw [flat_length]; exact hs, fun k n hn => (hok k n hn).1, fun k n hn => (hok k n hn).2.1, fun k n hn => (hok k n hn).2.2.1, fun k n hn => (hok k n hn).2.2.2.1, fun k n hn => Nat.le_trans (hok k n hn).2.2.2.2.1 hM, fun k n hn => Nat.le_trans (hok k n hn).2.2.2.2.2 hM, fun k n hn => Nat.le_trans (flat_kids 0 [] t n (List.mem_of_getElem? hn)) hs, ?_⟩
  intro k n hn c hc
  have := flat_up 0 [] t k n hn c hc
  rw [flat_length]; omega
end Go.Proofs.YtgiaflcbiipafabGreatDoor
