/-
  What the law JsonParses spoils.
-/
import Derived.Test.YtaghclgookfmnaaDoorLNodes
namespace Go.Proofs.YtaghclgookfmnaaDoor
open Go.RowKit
set_option linter.unusedVariables false

theorem rowN_sp : ∀ (ns : List Nd) (vs : List Value) (u j : Nat) (n : Nd) (kv : Value), vs.length = ns.length → ns[u]? = some n → vs[u]? = some kv → j < 6 → (rowN ns vs)[u * 6 + j]? = (ndCells n kv)[j]? := by
  intro ns
  induction ns with
  | nil => intro vs u j n kv h hn; simp at hn
  | cons m ns ih =>
    intro vs u j n kv h hn hk hj
    match vs, h with
    | v :: vs, h =>
      match u with
      | 0 =>
        simp at hn hk
        subst hn; subst hk
        rw [rowN, Nat.zero_mul, Nat.zero_add, List.getElem?_append_left (by simpa [ndCells] using hj)]
      | u + 1 =>
        have := ih vs u j n kv (by simpa using h) (by simpa using hn) (by simpa using hk) hj
        rw [rowN, List.getElem?_append_right (by simp [ndCells]; omega), ← this]
        congr 1
        simp [ndCells]; omega
def ndO : Except (Nat × Nat) JT → List Nd | .ok t => flat 0 [] t | .error _ => []
def erO : Except (Nat × Nat) JT → Nat | .ok _ => 0 | .error (e, _) => e
def atO : Except (Nat × Nat) JT → Nat | .ok _ => 0 | .error (_, a) => a
theorem PP_uni {B : Nat} {R : Except (Nat × Nat) JT} {r : Ending} {w' : World} (h : PP B R r w') : ∃ v kvs, r = .returned (.tuple #[v, .int .i64 (erO R : Int), .int .i64 (atO R : Int)]) ∧ NK B 33 v kvs (ndO R) w' := by
  cases R with
  | ok t => exact h
  | error q => obtain ⟨e, a⟩ := q; exact ⟨_, [], h.1, NK.nil _ _ _⟩
theorem JP_uni {B : Nat} {R : Except (Nat × Nat) JT} {r : Ending} {w' : World} (h : JP B R r w') : ∃ v kvs, r = .returned (.tuple #[v, .int .i64 (erO R : Int), .int .i64 (atO R : Int)]) ∧ NK B 49 v kvs (ndO R) w' := by
  cases R with
  | ok t => obtain ⟨v, e, kvs, hk⟩ := h; exact ⟨v, kvs, e, hk⟩
  | error q => obtain ⟨e, a⟩ := q; exact ⟨_, [], h.1, NK.nil _ _ _⟩
theorem readL_size (s : ByteArray) (t : JT) (h : readL s.data.toList = .ok t) : t.size ≤ 65536 := by
  have e0 : s.data.toList = sfx s 0 := rfl
  by_cases hs : s.size ≤ 65536
  · rw [readL_eq s hs _ rfl] at h
    cases hV : valL 32 (sfx s (nb (sfx s 0))) (nb (sfx s 0)) with
    | error e => rw [hV] at h; cases h
    | ok q =>
      obtain ⟨t', n⟩ := q
      rw [hV] at h
      have h1 := valL_size _ _ _ _ _ hV
      have h2 := valL_len s _ _ _ _ _ hV (by have := nb_leS s 0 (by omega); omega)
      dsimp only at h
      split at h
      · cases h
      · injection h with h; subst h; omega
  · rw [readL, if_pos (by simp; omega)] at h; cases h
theorem ndO_len (s : ByteArray) : (ndO (readL s.data.toList)).length ≤ 65536 := by
  cases h : readL s.data.toList with
  | error q => simp [ndO]
  | ok t => rw [ndO, flat_length]; exact readL_size s t h
theorem ndO_kids (s : ByteArray) : ∀ n ∈ ndO (readL s.data.toList), n.kids.length ≤ 1000000000 := by
  intro n hn
  cases h : readL s.data.toList with
  | error q => rw [h] at hn; cases hn
  | ok t =>
    rw [h] at hn
    have := flat_kids 0 [] t n hn
    have := readL_size s t h
    omega

/-- What is being spoilt: the nodes from i on stand as they stood. -/
structure SPL (v : Value) (kvs : List Value) (ns : List Nd) (w5 : World) (i : Nat) (wr : World) : Prop where
  os : wr.os = w5.os
  tape : wr.tape = w5.tape
  output : wr.output = w5.output
  size : w5.heap.size ≤ wr.heap.size
  block : ∀ k, k < w5.heap.size → ¬ own v kvs k → wr.heap[k]? = w5.heap[k]?
  row : ∀ g, v.ownBlock = some g → ∃ cur, wr.heap[g]? = some (.cells cur 33 (0, 0)) ∧ ns.length * 6 ≤ cur.size ∧ ∀ j kv, i ≤ j → kvs[j]? = some kv → cur[j * 6 + 4]? = some kv
  kid : ∀ (j : Nat) (n : Nd) (kv : Value) (gk : Nat), ns[j]? = some n → kvs[j]? = some kv → kv.ownBlock = some gk → ∃ cur, wr.heap[gk]? = some (.cells cur 3 (0, 0)) ∧ n.kids.length ≤ cur.size
theorem SPL.start {B : Nat} {v : Value} {kvs : List Value} {ns : List Nd} {w : World} (h : NK B 33 v kvs ns w) : SPL v kvs ns w 0 w := by
  refine ⟨rfl, rfl, rfl, Nat.le_refl _, fun _ _ _ => rfl, fun g hg => ?_, fun j n kv gk hn hkv hgk => ?_⟩
  · rcases h.2.1.2 with ⟨e, _⟩ | ⟨g', cap, cur, e, _, c, hl, _, hs, ht⟩
    · rw [e] at hg; cases hg
    · rw [e] at hg; simp [Value.ownBlock] at hg; subst hg
      refine ⟨cur, c, by omega, fun j kv _ hkv => ?_⟩
      have hj : j < ns.length := by have := (List.getElem?_eq_some_iff.1 hkv).1; have := h.1; omega
      have h1 := rowN_sp ns kvs j 4 ns[j] kv h.1 (List.getElem?_eq_getElem hj) hkv (by omega)
      rw [← ht, List.getElem?_take_of_lt (by omega)] at h1
      simpa [ndCells] using h1
  · have hr := h.2.2.1 j n kv hn hkv
    rcases hr.2 with ⟨e, _⟩ | ⟨g', cap, cur, e, _, c, hl, _, hs, ht⟩
    · rw [e] at hgk; cases hgk
    · rw [e] at hgk; simp [Value.ownBlock] at hgk; subst hgk
      exact ⟨cur, c, by omega⟩
theorem SPL.next {v : Value} {kvs : List Value} {ns : List Nd} {w5 wr : World} {i : Nat} (h : SPL v kvs ns w5 i wr) : SPL v kvs ns w5 (i + 1) wr :=
  ⟨h.os, h.tape, h.output, h.size, h.block, fun g hg => by obtain ⟨cur, a, b, c⟩ := h.row g hg; exact ⟨cur, a, b, fun j kv hj => c j kv (by omega)⟩, h.kid⟩
/-- A cell of a kids' list. -/
theorem SPL.setK {v : Value} {kvs : List Value} {ns : List Nd} {w5 wr : World} {i : Nat} (h : SPL v kvs ns w5 i wr) {j : Nat} {n : Nd} {kv : Value} {gk : Nat} (hn : ns[j]? = some n) (hkv : kvs[j]? = some kv) (hgk : kv.ownBlock = some gk) (k : Nat) (x : Value) : SPL v kvs ns w5 i (wr.setCell ⟨gk, k, none⟩ x) := by
  obtain ⟨cur, hc, hl⟩ := h.kid j n kv gk hn hkv hgk
  have e := setCell_eq_setRow wr gk k _ _ _ x hc
  refine ⟨by rw [e]; exact h.os, by rw [e]; exact h.tape, by rw [e]; exact h.output, by rw [e]; simpa [World.setRow] using h.size, fun m hm hO => ?_, fun g hg => ?_, fun j' n' kv' gk' a b c => ?_⟩
  · rw [setCell_other hc (fun e' => hO (.inr ⟨kv, List.mem_of_getElem? hkv, by rw [e']; exact hgk⟩))]; exact h.block m hm hO
  · obtain ⟨cu, a, b, c⟩ := h.row g hg
    refine ⟨cu, ?_, b, c⟩
    rw [setCell_other hc (fun e' => ?_)]; exact a
    rw [e', hc] at a; injection a with a; injection a with _ a _; exact absurd a (by decide)
  · by_cases hg : gk' = gk
    · subst hg
      obtain ⟨cu, a', b'⟩ := h.kid j' n' kv' gk' a b c
      rw [hc] at a'; injection a' with a'; injection a' with a' _ _; subst a'
      exact ⟨_, by rw [e]; exact setRow_heap wr gk' _ _ _ _ hc, by simpa using b'⟩
    · obtain ⟨cu, a', b'⟩ := h.kid j' n' kv' gk' a b c
      exact ⟨cu, by rw [setCell_other hc hg]; exact a', b'⟩
/-- A cell of a node that is done. -/
theorem SPL.setN {v : Value} {kvs : List Value} {ns : List Nd} {w5 wr : World} {i : Nat} (h : SPL v kvs ns w5 (i + 1) wr) {g : Nat} (hg : v.ownBlock = some g) (k : Nat) (hk : k < (i + 1) * 6) (x : Value) : SPL v kvs ns w5 (i + 1) (wr.setCell ⟨g, k, none⟩ x) := by
  obtain ⟨cur, hc, hl, hr⟩ := h.row g hg
  have e := setCell_eq_setRow wr g k _ _ _ x hc
  refine ⟨by rw [e]; exact h.os, by rw [e]; exact h.tape, by rw [e]; exact h.output, by rw [e]; simpa [World.setRow] using h.size, fun m hm hO => ?_, fun g' hg' => ?_, fun j' n' kv' gk' a b c => ?_⟩
  · rw [setCell_other hc (fun e' => hO (.inl (by rw [e']; exact hg)))]; exact h.block m hm hO
  · rw [hg] at hg'; injection hg' with hg'; subst hg'
    refine ⟨_, by rw [e]; exact setRow_heap wr g _ _ _ _ hc, by simpa using hl, fun j kv hj hkv => ?_⟩
    rw [Array.getElem?_setIfInBounds_ne (by omega)]
    exact hr j kv hj hkv
  · obtain ⟨cu, a', b'⟩ := h.kid j' n' kv' gk' a b c
    refine ⟨cu, ?_, b'⟩
    rw [setCell_other hc (fun e' => ?_)]; exact a'
    rw [e', hc] at a'; injection a' with a'; injection a' with _ a' _; exact absurd a' (by decide)

theorem SPL.gv {v : Value} {kvs : List Value} {ns : List Nd} {w5 wr : World} {i B : Nat} (h : SPL v kvs ns w5 i wr) (hG : GV w5) (ho : ∀ k, own v kvs k → B ≤ k) (hB : 8 ≤ B) (hs : B ≤ w5.heap.size) : GV wr :=
  hG.kept fun k hk => h.block k (by omega) (fun h' => by have := ho k h'; omega)

theorem cparse_any (s : ByteArray) (w : World) (hg : 8 ≤ w.heap.size) (hG : GV w) :
    Calls Tryd.prog 5 #[.string s] w fun r w' => (∃ v E A, r = .returned (.tuple #[v, E, A])) ∧ Below w.heap.size w w' := by
  refine (cparse s w hg hG).mono ?_
  rintro r w' ⟨h, hb⟩
  obtain ⟨v, kvs, e, _⟩ := PP_uni h
  exact ⟨⟨v, _, _, e⟩, hb⟩
theorem cparse_uni (s : ByteArray) (w : World) (hg : 8 ≤ w.heap.size) (hG : GV w) :
    Calls Tryd.prog 5 #[.string s] w fun r w' => (∃ v kvs, r = .returned (.tuple #[v, .int .i64 (erO (readL s.data.toList) : Int), .int .i64 (atO (readL s.data.toList) : Int)]) ∧ NK (w.heap.size + 1) 33 v kvs (ndO (readL s.data.toList)) w') ∧ Below w.heap.size w w' :=
  (cparse s w hg hG).mono fun r w' hh => ⟨PP_uni hh.1, hh.2⟩
theorem rread_uni (s : ByteArray) (w : World) (hs : s.size ≤ 140737488351232) :
    Calls Tryd.prog 6 #[.string s] w fun r w' => (∃ v kvs, r = .returned (.tuple #[v, .int .i64 (erO (readL s.data.toList) : Int), .int .i64 (atO (readL s.data.toList) : Int)]) ∧ NK (w.heap.size + 1) 49 v kvs (ndO (readL s.data.toList)) w') ∧ Below w.heap.size w w' :=
  (rread s w hs).mono fun r w' hh => ⟨JP_uni hh.1, hh.2⟩
end Go.Proofs.YtaghclgookfmnaaDoor
