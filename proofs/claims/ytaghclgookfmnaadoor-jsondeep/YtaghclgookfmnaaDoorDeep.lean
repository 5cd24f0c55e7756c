import Derived.Test.YtaghclgookfmnaaDoorJRead
/-
  Brackets within one another, and nothing else: how the reader on lists takes them.
-/
namespace Go.Proofs.YtaghclgookfmnaaDoor
set_option linter.unusedVariables false

def brk : Nat → List UInt8
  | 0 => []
  | n + 1 => 91 :: (brk n ++ [93])
theorem brk_length (n : Nat) : (brk n).length = 2 * n := by
  induction n with
  | zero => rfl
  | succ n ih => simp [brk, ih]; omega
theorem nb_brk (n : Nat) (r : List UInt8) : nb (brk n ++ 93 :: r) = 0 := by
  cases n with
  | zero => rfl
  | succ n => rfl

theorem val_brk : ∀ (d n i : Nat) (r : List UInt8),
    (n + 1 ≤ d → ∃ t : JT, valL d (brk (n + 1) ++ r) i = .ok (t, 2 * (n + 1)) ∧ t.size = n + 1) ∧ (d < n + 1 → valL d (brk (n + 1) ++ r) i = .error (5, i + d)) := by
  intro d
  induction d with
  | zero =>
    intro n i r
    refine ⟨fun h => by omega, fun _ => ?_⟩
    rfl
  | succ d ih =>
    intro n i r
    have e1 : brk (n + 1) ++ r = 91 :: (brk n ++ 93 :: r) := by simp [brk]
    have ev : valL (d + 1) (brk (n + 1) ++ r) i = arrL (valL d) (91 :: (brk n ++ 93 :: r)) i := by rw [e1]; rfl
    have ea : 1 + nb ((91 :: (brk n ++ 93 :: r)).drop 1) = 1 := by rw [List.drop_succ_cons, List.drop_zero, nb_brk]
    have ed : (91 :: (brk n ++ 93 :: r)).drop 1 = brk n ++ 93 :: r := rfl
    rw [ev]
    unfold arrL
    dsimp only
    rw [ea, ed]
    cases n with
    | zero =>
      refine ⟨fun _ => ⟨.arr [] i, ?_, rfl⟩, fun h => by omega⟩
      rw [if_pos (by rfl)]
    | succ m =>
      have hh : ¬ (brk (m + 1) ++ 93 :: r).head? = some 93 := by simp [brk]
      rw [if_neg hh]
      have IH := ih m (i + 1) (93 :: r)
      have hn0 : nb (brk (m + 1) ++ 93 :: r) = 0 := nb_brk _ _
      generalize hL : brk (m + 1) ++ 93 :: r = L at *
      have hdr : L.drop (2 * (m + 1)) = 93 :: r := by
        subst hL
        rw [show 2 * (m + 1) = (brk (m + 1)).length from (brk_length _).symm, List.drop_left]
      refine ⟨fun h => ?_, fun h => ?_⟩
      · obtain ⟨t, ht, hs⟩ := IH.1 (by omega)
        refine ⟨.arr [t] i, ?_, ?_⟩
        · rw [arrF]
          dsimp only
          rw [hn0, List.drop_zero, Nat.add_zero, ht]
          dsimp only
          rw [Nat.zero_add, hdr]
          have h0 : nb (93 :: r) = 0 := rfl
          rw [h0, Nat.add_zero, hdr]
          simp
          omega
        · simp only [JT.size, sizeL]; omega
      · have ht := IH.2 (by omega)
        rw [arrF]
        dsimp only
        rw [hn0, List.drop_zero, Nat.add_zero, ht]
        simp
        omega

theorem read_brk_ok (n : Nat) (h0 : 1 ≤ n) (h1 : n ≤ 32) : ∃ t : JT, readL (brk n) = .ok t ∧ t.size = n := by
  obtain ⟨m, rfl⟩ : ∃ m, n = m + 1 := ⟨n - 1, by omega⟩
  obtain ⟨t, ht, hs⟩ := (val_brk 32 m 0 []).1 h1
  rw [List.append_nil] at ht
  refine ⟨t, ?_, hs⟩
  unfold readL
  have hl := brk_length (m + 1)
  have hb : nb (brk (m + 1)) = 0 := rfl
  rw [if_neg (by omega)]
  dsimp only
  rw [hb, List.drop_zero, ht]
  dsimp only
  have h2 : (brk (m + 1)).drop (0 + 2 * (m + 1)) = [] := List.drop_of_length_le (by omega)
  rw [h2]
  have h3 : nb [] = 0 := rfl
  rw [h3, if_neg (by omega)]
theorem read_brk_er (n : Nat) (h0 : 32 < n) (h1 : n ≤ 1000) : readL (brk n) = .error (5, 32) := by
  obtain ⟨m, rfl⟩ : ∃ m, n = m + 1 := ⟨n - 1, by omega⟩
  have ht := (val_brk 32 m 0 []).2 h0
  rw [List.append_nil] at ht
  unfold readL
  have hl := brk_length (m + 1)
  have hb : nb (brk (m + 1)) = 0 := rfl
  rw [if_neg (by omega)]
  dsimp only
  rw [hb, List.drop_zero, ht]
end Go.Proofs.YtaghclgookfmnaaDoor
