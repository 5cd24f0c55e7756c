/-
  Joined by program: LSpoil, LJson.
-/
import Derived.Test.YtaghclgookfmnaaDoorKNodes
/-
  What the law JsonParses spoils.
-/
namespace Go.Proofs.YtaghclgookfmnaaDoor
open Go.RowKit
set_option linter.unusedVariables false

theorem rowN_sp : ∀ (ns : List Nd) (vs : List Value) (u j : Nat) (n : Nd) (kv : Value), vs.length = ns.length → ns[u]? = some n → vs[u]? = some kv → j < 6 → (rowN ns vs)[u * 6 + j]? = (ndCells n kv)[j]? := by
  intro ns
  induction ns with
  | nil => intro vs u j n kv h hn; simp at hn
  | cons m ns ih =>
    intro vs u j n kv h hn hk hj
    match vs, h with
    | v :: vs, h =>
      match u with
      | 0 =>
        simp at hn hk
        subst hn; subst hk
        rw [rowN, Nat.zero_mul, Nat.zero_add, List.getElem?_append_left (by simpa [ndCells] using hj)]
      | u + 1 =>
        have := ih vs u j n kv (by simpa using h) (by simpa using hn) (by simpa using hk) hj
        rw [rowN, List.getElem?_append_right (by simp [ndCells]; omega), ← this]
        congr 1
        simp [ndCells]; omega
def ndO : Except (Nat × Nat) JT → List Nd | .ok t => flat 0 [] t | .error _ => []
def erO : Except (Nat × Nat) JT → Nat | .ok _ => 0 | .error (e, _) => e
def atO : Except (Nat × Nat) JT → Nat | .ok _ => 0 | .error (_, a) => a
theorem PP_uni {B : Nat} {R : Except (Nat × Nat) JT} {r : Ending} {w' : World} (h : PP B R r w') : ∃ v kvs, r = .returned (.tuple #[v, .int .i64 (erO R : Int), .int .i64 (atO R : Int)]) ∧ NK B 33 v kvs (ndO R) w' := by
  cases R with
  | ok t => exact h
  | error q => obtain ⟨e, a⟩ := q; exact ⟨_, [], h.1, NK.nil _ _ _⟩
theorem JP_uni {B : Nat} {R : Except (Nat × Nat) JT} {r : Ending} {w' : World} (h : JP B R r w') : ∃ v kvs, r = .returned (.tuple #[v, .int .i64 (erO R : Int), .int .i64 (atO R : Int)]) ∧ NK B 49 v kvs (ndO R) w' := by
  cases R with
  | ok t => obtain ⟨v, e, kvs, hk⟩ := h; exact ⟨v, kvs, e, hk⟩
  | error q => obtain ⟨e, a⟩ := q; exact ⟨_, [], h.1, NK.nil _ _ _⟩
theorem readL_size (s : ByteArray) (t : JT) (h : readL s.data.toList = .ok t) : t.size ≤ 65536 := by
  have e0 : s.data.toList = sfx s 0 := rfl
  by_cases hs : s.size ≤ 65536
  · rw [readL_eq s hs _ rfl] at h
    cases hV : valL 32 (sfx s (nb (sfx s 0))) (nb (sfx s 0)) with
    | error e => rw [hV] at h; cases h
    | ok q =>
      obtain ⟨t', n⟩ := q
      rw [hV] at h
      have h1 := valL_size _ _ _ _ _ hV
      have h2 := valL_len s _ _ _ _ _ hV (by have := nb_leS s 0 (by omega); omega)
      dsimp only at h
      split at h
      · cases h
      · injection h with h; subst h; omega
  · rw [readL, if_pos (by simp; omega)] at h; cases h
theorem ndO_len (s : ByteArray) : (ndO (readL s.data.toList)).length ≤ 65536 := by
  cases h : readL s.data.toList with
  | error q => simp [ndO]
  | ok t => rw [ndO, flat_length]; exact readL_size s t h
theorem ndO_kids (s : ByteArray) : ∀ n ∈ ndO (readL s.data.toList), n.kids.length ≤ 1000000000 := by
  intro n hn
  cases h : readL s.data.toList with
  | error q => rw [h] at hn; cases hn
  | ok t =>
    rw [h] at hn
    have := flat_kids 0 [] t n hn
    have := readL_size s t h
    omega

/-- What is being spoilt: the nodes from i on stand as they stood. -/
structure SPL (v : Value) (kvs : List Value) (ns : List Nd) (w5 : World) (i : Nat) (wr : World) : Prop where
  os : wr.os = w5.os
  tape : wr.tape = w5.tape
  output : wr.output = w5.output
  size : w5.heap.size ≤ wr.heap.size
  block : ∀ k, k < w5.heap.size → ¬ own v kvs k → wr.heap[k]? = w5.heap[k]?
  row : ∀ g, v.ownBlock = some g → ∃ cur, wr.heap[g]? = some (.cells cur 33 (0, 0)) ∧ ns.length * 6 ≤ cur.size ∧ ∀ j kv, i ≤ j → kvs[j]? = some kv → cur[j * 6 + 4]? = some kv
  kid : ∀ (j : Nat) (n : Nd) (kv : Value) (gk : Nat), ns[j]? = some n → kvs[j]? = some kv → kv.ownBlock = some gk → ∃ cur, wr.heap[gk]? = some (.cells cur 3 (0, 0)) ∧ n.kids.length ≤ cur.size
theorem SPL.start {B : Nat} {v : Value} {kvs : List Value} {ns : List Nd} {w : World} (h : NK B 33 v kvs ns w) : SPL v kvs ns w 0 w := by
  refine ⟨rfl, rfl, rfl, Nat.le_refl _, fun _ _ _ => rfl, fun g hg => ?_, fun j n kv gk hn hkv hgk => ?_⟩
  · rcases h.2.1.2 with ⟨e, _⟩ | ⟨g', cap, cur, e, _, c, hl, _, hs, ht⟩
    · rw [e] at hg; cases hg
    · rw [e] at hg; simp [Value.ownBlock] at hg; subst hg
      refine ⟨cur, c, by omega, fun j kv _ hkv => ?_⟩
      have hj : j < ns.length := by have := (List.getElem?_eq_some_iff.1 hkv).1; have := h.1; omega
      have h1 := rowN_sp ns kvs j 4 ns[j] kv h.1 (List.getElem?_eq_getElem hj) hkv (by omega)
      rw [← ht, List.getElem?_take_of_lt (by omega)] at h1
      simpa [ndCells] using h1
  · have hr := h.2.2.1 j n kv hn hkv
    rcases hr.2 with ⟨e, _⟩ | ⟨g', cap, cur, e, _, c, hl, _, hs, ht⟩
    · rw [e] at hgk; cases hgk
    · rw [e] at hgk; simp [Value.ownBlock] at hgk; subst hgk
      exact ⟨cur, c, by omega⟩
theorem SPL.next {v : Value} {kvs : List Value} {ns : List Nd} {w5 wr : World} {i : Nat} (h : SPL v kvs ns w5 i wr) : SPL v kvs ns w5 (i + 1) wr :=
  ⟨h.os, h.tape, h.output, h.size, h.block, fun g hg => by obtain ⟨cur, a, b, c⟩ := h.row g hg; exact ⟨cur, a, b, fun j kv hj => c j kv (by omega)⟩, h.kid⟩
/-- A cell of a kids' list. -/
theorem SPL.setK {v : Value} {kvs : List Value} {ns : List Nd} {w5 wr : World} {i : Nat} (h : SPL v kvs ns w5 i wr) {j : Nat} {n : Nd} {kv : Value} {gk : Nat} (hn : ns[j]? = some n) (hkv : kvs[j]? = some kv) (hgk : kv.ownBlock = some gk) (k : Nat) (x : Value) : SPL v kvs ns w5 i (wr.setCell ⟨gk, k, none⟩ x) := by
  obtain ⟨cur, hc, hl⟩ := h.kid j n kv gk hn hkv hgk
  have e := setCell_eq_setRow wr gk k _ _ _ x hc
  refine ⟨by rw [e]; exact h.os, by rw [e]; exact h.tape, by rw [e]; exact h.output, by rw [e]; simpa [World.setRow] using h.size, fun m hm hO => ?_, fun g hg => ?_, fun j' n' kv' gk' a b c => ?_⟩
  · rw [setCell_other hc (fun e' => hO (.inr ⟨kv, List.mem_of_getElem? hkv, by rw [e']; exact hgk⟩))]; exact h.block m hm hO
  · obtain ⟨cu, a, b, c⟩ := h.row g hg
    refine ⟨cu, ?_, b, c⟩
    rw [setCell_other hc (fun e' => ?_)]; exact a
    rw [e', hc] at a; injection a with a; injection a with _ a _; exact absurd a (by decide)
  · by_cases hg : gk' = gk
    · subst hg
      obtain ⟨cu, a', b'⟩ := h.kid j' n' kv' gk' a b c
      rw [hc] at a'; injection a' with a'; injection a' with a' _ _; subst a'
      exact ⟨_, by rw [e]; exact setRow_heap wr gk' _ _ _ _ hc, by simpa using b'⟩
    · obtain ⟨cu, a', b'⟩ := h.kid j' n' kv' gk' a b c
      exact ⟨cu, by rw [setCell_other hc hg]; exact a', b'⟩
/-- A cell of a node that is done. -/
theorem SPL.setN {v : Value} {kvs : List Value} {ns : List Nd} {w5 wr : World} {i : Nat} (h : SPL v kvs ns w5 (i + 1) wr) {g : Nat} (hg : v.ownBlock = some g) (k : Nat) (hk : k < (i + 1) * 6) (x : Value) : SPL v kvs ns w5 (i + 1) (wr.setCell ⟨g, k, none⟩ x) := by
  obtain ⟨cur, hc, hl, hr⟩ := h.row g hg
  have e := setCell_eq_setRow wr g k _ _ _ x hc
  refine ⟨by rw [e]; exact h.os, by rw [e]; exact h.tape, by rw [e]; exact h.output, by rw [e]; simpa [World.setRow] using h.size, fun m hm hO => ?_, fun g' hg' => ?_, fun j' n' kv' gk' a b c => ?_⟩
  · rw [setCell_other hc (fun e' => hO (.inl (by rw [e']; exact hg)))]; exact h.block m hm hO
  · rw [hg] at hg'; injection hg' with hg'; subst hg'
    refine ⟨_, by rw [e]; exact setRow_heap wr g _ _ _ _ hc, by simpa using hl, fun j kv hj hkv => ?_⟩
    rw [Array.getElem?_setIfInBounds_ne (by omega)]
    exact hr j kv hj hkv
  · obtain ⟨cu, a', b'⟩ := h.kid j' n' kv' gk' a b c
    refine ⟨cu, ?_, b'⟩
    rw [setCell_other hc (fun e' => ?_)]; exact a'
    rw [e', hc] at a'; injection a' with a'; injection a' with _ a' _; exact absurd a' (by decide)

theorem SPL.gv {v : Value} {kvs : List Value} {ns : List Nd} {w5 wr : World} {i B : Nat} (h : SPL v kvs ns w5 i wr) (hG : GV w5) (ho : ∀ k, own v kvs k → B ≤ k) (hB : 8 ≤ B) (hs : B ≤ w5.heap.size) : GV wr :=
  hG.kept fun k hk => h.block k (by omega) (fun h' => by have := ho k h'; omega)

theorem cparse_any (s : ByteArray) (w : World) (hg : 8 ≤ w.heap.size) (hG : GV w) :
    Calls Tryd.prog 5 #[.string s] w fun r w' => (∃ v E A, r = .returned (.tuple #[v, E, A])) ∧ Below w.heap.size w w' := by
  refine (cparse s w hg hG).mono ?_
  rintro r w' ⟨h, hb⟩
  obtain ⟨v, kvs, e, _⟩ := PP_uni h
  exact ⟨⟨v, _, _, e⟩, hb⟩
theorem cparse_uni (s : ByteArray) (w : World) (hg : 8 ≤ w.heap.size) (hG : GV w) :
    Calls Tryd.prog 5 #[.string s] w fun r w' => (∃ v kvs, r = .returned (.tuple #[v, .int .i64 (erO (readL s.data.toList) : Int), .int .i64 (atO (readL s.data.toList) : Int)]) ∧ NK (w.heap.size + 1) 33 v kvs (ndO (readL s.data.toList)) w') ∧ Below w.heap.size w w' :=
  (cparse s w hg hG).mono fun r w' hh => ⟨PP_uni hh.1, hh.2⟩
theorem rread_uni (s : ByteArray) (w : World) (hs : s.size ≤ 140737488351232) :
    Calls Tryd.prog 6 #[.string s] w fun r w' => (∃ v kvs, r = .returned (.tuple #[v, .int .i64 (erO (readL s.data.toList) : Int), .int .i64 (atO (readL s.data.toList) : Int)]) ∧ NK (w.heap.size + 1) 49 v kvs (ndO (readL s.data.toList)) w') ∧ Below w.heap.size w w' :=
  (rread s w hs).mono fun r w' hh => ⟨JP_uni hh.1, hh.2⟩
end Go.Proofs.YtaghclgookfmnaaDoor
/-
  The law JsonParses, walked.
-/
namespace Go.Proofs.YtaghclgookfmnaaDoor
open Go.RowKit
set_option linter.unusedVariables false

set_option maxRecDepth 4000 in
set_option maxHeartbeats 4000000 in
theorem ljson (s : ByteArray) (w : World) (hg : 8 ≤ w.heap.size) (hG : GV w) (hs : s.size ≤ 140737488351232) :
    Calls Tryd.prog 3 #[.string s] w fun r w' => r = .returned (.bool true) ∧ Below w.heap.size w w' := by
  have hp := fun w' h1 h2 => cparse_uni s w' h1 h2
  have hr := fun w' => rread_uni s w' hs
  have hp2 := fun w' h1 h2 => cparse_any ⟨#[123, 34, 97, 34, 58, 91, 49, 44, 50, 93, 44, 34, 98, 34, 58, 34, 99, 34, 125]⟩ w' h1 h2
  have hNl := ndO_len s
  have hNk := ndO_kids s
  generalize ndO (readL s.data.toList) = N at hp hr hNl hNk
  generalize erO (readL s.data.toList) = E at hp hr
  generalize atO (readL s.data.toList) = A at hp hr
  go_enter Tryd.func3, Tryd.ntmps3
  go_wp2_with fail
  refine (hp w hg hG).mono ?_
  rintro r w1 ⟨⟨v, kvs, rfl, hK1⟩, b1⟩
  have hz1 := b1.size
  have hG1 : GV w1 := hG.kept fun k hk => b1.block k (by omega)
  have hown := fun k (h : own v kvs k) => hK1.own_lt h
  obtain ⟨ad, cap, rfl⟩ := hK1.shape
  have H1 : Hid (NK (w.heap.size + 1) 33 (.slice ad N.length cap) kvs N w1 ∧ Below w.heap.size w w1 ∧ (∀ k, own (.slice ad N.length cap) kvs k → w.heap.size + 1 ≤ k ∧ k < w1.heap.size)) := ⟨hK1, b1, hown⟩
  clear hK1 b1 hown
  go_wp2_with fail
  refine (hp2 w1 (by omega) hG1).mono ?_
  rintro r w2 ⟨⟨x1, x2, x3, rfl⟩, b2⟩
  have hz2 := b2.size
  have B2 : Hid (Below w1.heap.size w1 w2) := b2
  clear b2 hp2
  go_wp2_with fail
  refine (hr w2).mono ?_
  rintro r w3 ⟨⟨y, kys, rfl, hK3⟩, b3⟩
  have hz3 := b3.size
  obtain ⟨ad3, cap3, rfl⟩ := hK3.shape
  have b13 : Below w1.heap.size w1 w3 := B2.out.trans ⟨b3.os, b3.tape, b3.output, b3.size, fun k hk => b3.block k (by omega)⟩
  have hK13 : NK (w.heap.size + 1) 33 (.slice ad N.length cap) kvs N w3 := H1.out.1.kept fun g hg' => b13.block g (H1.out.2.2 g hg').2
  have hG3 : GV w3 := hG1.kept fun k hk => b13.block k (by omega)
  have hln := lnodes (.slice ad N.length cap) (.slice ad3 N.length cap3) N w3 (RR.of hK13 hNk) (RR.of hK3 hNk) (by omega)
  have H3 : Hid (NK (w.heap.size + 1) 33 (.slice ad N.length cap) kvs N w3 ∧ NK (w2.heap.size + 1) 49 (.slice ad3 N.length cap3) kys N w3 ∧ Below w.heap.size w w3 ∧ GV w3) := ⟨hK13, hK3, H1.out.2.1.trans ⟨b13.os, b13.tape, b13.output, b13.size, fun k hk => b13.block k (by omega)⟩, hG3⟩
  clear hK3 b3 hK13 hG3 b13 hr
  go_wp2_with fail
  refine hln.mono ?_
  rintro r w4 ⟨rfl, b4⟩
  have hz4 := b4.size
  have H4 : Hid (NK (w.heap.size + 1) 33 (.slice ad N.length cap) kvs N w4 ∧ NK (w2.heap.size + 1) 49 (.slice ad3 N.length cap3) kys N w4 ∧ Below w.heap.size w w4 ∧ GV w4) := by
    obtain ⟨a1, a2, a3, a4⟩ := H3.out
    exact ⟨a1.kept fun g hg' => b4.block g (a1.own_lt hg').2, a2.kept fun g hg' => b4.block g (a2.own_lt hg').2, a3.trans ⟨b4.os, b4.tape, b4.output, b4.size, fun k hk => b4.block k (by omega)⟩, a4.kept fun k hk => b4.block k (by omega)⟩
  have hnm := fun w' => lnum (E : Int) w'
  clear b4 hln H3 B2
  go_wp2_with fail
  refine (hnm w4).mono ?_
  rintro r w5 ⟨rfl, rfl⟩
  clear hnm
  go_wp2_with fail
  have HS5 : Hid (SPL (.slice ad N.length cap) kvs N w5 0 w5) := SPL.start H4.out.1
  go_loopw [10] (fun iv wr => ∃ i : Nat, i ≤ N.length ∧ iv = .int .i64 (i : Int) ∧ SPL (.slice ad N.length cap) kvs N w5 i wr) (fun iv _ => N.length - (intOf iv).toNat)
  case atStart => exact ⟨0, by omega, rfl, HS5.out⟩
  case round =>
    clear HS5
    obtain ⟨i, hi, rfl, hS⟩ := hrel
    by_cases hin : i < N.length
    · have k1 : (i : Int) < (N.length : Int) := by omega
      have hib : (i : Int) ≤ 65536 := by omega
      obtain ⟨n, hn⟩ : ∃ n, N[i]? = some n := ⟨_, List.getElem?_eq_getElem hin⟩
      have hkl := H4.out.1.1
      obtain ⟨kv, hkv⟩ : ∃ kv, kvs[i]? = some kv := ⟨_, List.getElem?_eq_getElem (by omega)⟩
      obtain ⟨g, rfl⟩ : ∃ g, ad = some ⟨g, 0, none⟩ := by
        rcases H4.out.1.2.1.2 with ⟨e, h0⟩ | ⟨g, c, cu, e, _⟩
        · omega
        · injection e with e _ _; exact ⟨g, e⟩
      have hrow := H4.out.1.2.2.1 i n kv hn hkv
      have hnk := hNk n (List.mem_of_getElem? hn)
      obtain ⟨adk, capk, rfl⟩ : ∃ adk capk, kv = .slice adk n.kids.length capk := by
        rcases hrow.2 with ⟨e, h0⟩ | ⟨g, c, cu, e, _⟩
        · exact ⟨none, 0, by rw [e, h0]⟩
        · exact ⟨_, _, e⟩
      have hgk : 0 < n.kids.length → ∃ gk, adk = some ⟨gk, 0, none⟩ := fun h => by
        rcases hrow.2 with ⟨e, h0⟩ | ⟨gk, c, cu, e, _⟩
        · omega
        · injection e with e _ _; exact ⟨gk, e⟩
      have HN : Hid (N[i]? = some n ∧ kvs[i]? = some (.slice adk n.kids.length capk)) := ⟨hn, hkv⟩
      have HSi : Hid (SPL (.slice (some ⟨g, 0, none⟩) N.length cap) kvs N w5 i wr) := hS
      clear hn hkv hrow hS hkl
      go_wp2_with fail
      go_loopw [11] (fun kk wx => ∃ k : Nat, k ≤ n.kids.length ∧ kk = .int .i64 (k : Int) ∧ SPL (.slice (some ⟨g, 0, none⟩) N.length cap) kvs N w5 i wx) (fun kk _ => n.kids.length - (intOf kk).toNat)
      case atStart => exact ⟨0, by omega, rfl, HSi.out⟩
      case round =>
        clear HSi
        obtain ⟨k, hk, rfl, hS⟩ := hrel
        obtain ⟨cur, hc, hcl, hcr⟩ := hS.row g rfl
        have hcz : ∀ m x, cur[m]? = some x → wr.cell? ⟨g, m, none⟩ = some x := fun m x h => by rw [cell_of_row wr g m _ _ _ hc]; exact h
        have c4 := hcz _ _ (hcr i _ (Nat.le_refl _) HN.out.2)
        by_cases hkk : k < n.kids.length
        · have k2 : (k : Int) < (n.kids.length : Int) := by omega
          have hkb : (k : Int) ≤ 1000000000 := by omega
          obtain ⟨gk, rfl⟩ := hgk (by omega)
          obtain ⟨cu, hcu, hcul⟩ := hS.kid i n _ gk HN.out.1 HN.out.2 rfl
          have d0 : ∃ x, wr.cell? ⟨gk, k, none⟩ = some x := ⟨cu[k], by rw [cell_of_row wr gk k _ _ _ hcu]; exact Array.getElem?_eq_getElem (by omega)⟩
          obtain ⟨x, d0⟩ := d0
          have df : wr.frozen? ⟨gk, k, none⟩ = false := by simp [World.frozen?, hcu]
          have HK : Hid (SPL (.slice (some ⟨g, 0, none⟩) N.length cap) kvs N w5 i (wr.setCell ⟨gk, k, none⟩ (.int .i64 (-7)))) := hS.setK HN.out.1 HN.out.2 rfl k _
          clear hcu hcul hc hcl hcr hcz hS
          go_wp2_with fail
          go_roundw
          case rel => exact ⟨k + 1, by omega, by go_num, HK.out⟩
          case measure => simp [intOf]; omega
        · have k2 : ¬ (k : Int) < (n.kids.length : Int) := by omega
          have hf : ∀ m, wr.frozen? ⟨g, m, none⟩ = false := fun m => by simp [World.frozen?, hc]
          have hx : ∀ m, m < N.length * 6 → ∃ x, wr.cell? ⟨g, m, none⟩ = some x := fun m hm => ⟨cur[m]'(by omega), hcz m _ (Array.getElem?_eq_getElem (by omega))⟩
          obtain ⟨z0, e0⟩ := hx (i * 6) (by omega)
          obtain ⟨z1, e1⟩ := hx (i * 6 + 1) (by omega)
          obtain ⟨z2, e2⟩ := hx (i * 6 + 2) (by omega)
          obtain ⟨z3, e3⟩ := hx (i * 6 + 3) (by omega)
          obtain ⟨z5, e5⟩ := hx (i * 6 + 5) (by omega)
          have f0 := hf (i * 6)
          have f1 := hf (i * 6 + 1)
          have f2 := hf (i * 6 + 2)
          have f3 := hf (i * 6 + 3)
          have f4 := hf (i * 6 + 4)
          have f5 := hf (i * 6 + 5)
          have HS6 : Hid (SPL (.slice (some ⟨g, 0, none⟩) N.length cap) kvs N w5 (i + 1) ((((((wr.setCell ⟨g, i * 6, none⟩ (.int .i64 9)).setCell ⟨g, i * 6 + 1, none⟩ (.string ⟨#[]⟩)).setCell ⟨g, i * 6 + 2, none⟩ (.string ⟨#[]⟩)).setCell ⟨g, i * 6 + 3, none⟩ (.int .i64 0)).setCell ⟨g, i * 6 + 4, none⟩ (.slice none 0 0)).setCell ⟨g, i * 6 + 5, none⟩ (.int .i64 0))) :=
            (((((hS.next.setN rfl (i * 6) (by omega) _).setN rfl (i * 6 + 1) (by omega) _).setN rfl (i * 6 + 2) (by omega) _).setN rfl (i * 6 + 3) (by omega) _).setN rfl (i * 6 + 4) (by omega) _).setN rfl (i * 6 + 5) (by omega) _
          clear hf hx hcz hcr hcl hc hS hgk
          go_wp2_with fail
          refine ⟨⟨i + 1, by omega, by rw [show ((i + 1 : Nat) : Int) = (i : Int) + 1 by omega], HS6.out⟩, ?_⟩
          simp only [intOf]; omega
    · have k1 : ¬ (i : Int) < (N.length : Int) := by omega
      have hG5 : GV wr := hS.gv (B := w.heap.size) H4.out.2.2.2 (fun k hk => by have := (H1.out.2.2 k hk).1; omega) hg (by omega)
      have hz5 := hS.size
      have hpp := hp wr (by omega) hG5
      have HSi : Hid (SPL (.slice ad N.length cap) kvs N w5 i wr) := hS
      clear hp hS
      go_wp2_with fail
      refine hpp.mono ?_
      rintro r w6 ⟨⟨v6, k6, rfl, hK6⟩, b6⟩
      obtain ⟨ad6, cap6, rfl⟩ := hK6.shape
      have hz6 := b6.size
      have hKy : NK (w2.heap.size + 1) 49 (.slice ad3 N.length cap3) kys N w6 := by
        refine H4.out.2.1.kept fun gg hgg => ?_
        have h1 := H4.out.2.1.own_lt hgg
        rw [b6.block gg (by omega)]
        exact HSi.out.block gg h1.2 (fun h' => by have := (H1.out.2.2 gg h').2; omega)
      have hBl : Below w.heap.size w w6 := by
        have a := H4.out.2.2.1
        have c := HSi.out
        refine ⟨b6.os.trans (c.os.trans a.os), b6.tape.trans (c.tape.trans a.tape), b6.output.trans (c.output.trans a.output), by have := a.size; omega, fun k hk => ?_⟩
        rw [b6.block k (by omega), c.block k (by omega) (fun h' => by have := (H1.out.2.2 k h').1; omega)]
        exact a.block k hk
      have hln := lnodes (.slice ad6 N.length cap6) (.slice ad3 N.length cap3) N w6 (RR.of hK6 hNk) (RR.of hKy hNk) (by omega)
      have HB6 : Hid (Below w.heap.size w w6) := hBl
      clear hpp hK6 hKy b6 hBl
      go_wp2_with fail
      refine hln.mono ?_
      rintro r w7 ⟨rfl, b7⟩
      have HB7 : Hid (Below w.heap.size w w7) := HB6.out.trans ⟨b7.os, b7.tape, b7.output, b7.size, fun k hk => b7.block k (by omega)⟩
      clear hln b7
      go_wp2
      go_ret
      exact ⟨rfl, HB7.out⟩
end Go.Proofs.YtaghclgookfmnaaDoor
