/-
  Joined by program: JEscA, JBuf, JQuot.
-/
import Derived.Test.YtgiaflcbiipafabGreatDoorG4
import Derived.Deep.AppendSrc
import Derived.Deep.DeepAppendWide
/-
  The document's reader: escape, whole.
-/
namespace Go.Proofs.YtgiaflcbiipafabGreatDoor
open Go.RowKit
set_option linter.unusedVariables false

theorem hexv_lt {c : UInt8} {d : Nat} (h : hexv c = some d) : d < 16 := by
  unfold hexv at h
  split at h
  · injection h with h; omega
  · split at h
    · injection h with h; omega
    · split at h
      · injection h with h; omega
      · cases h
theorem fourG_some {k n : Nat} {l : List UInt8} {o m e : Nat} (h : fourG k n l o = (some m, e)) : e = o + k ∧ m < (n + 1) * 16 ^ k := by
  induction k generalizing n l o with
  | zero => simp [fourG] at h; omega
  | succ k ih =>
    match l with
    | [] => simp [fourG] at h
    | c :: r =>
      rw [fourG] at h
      cases hv : hexv c with
      | none => rw [hv] at h; simp at h
      | some d =>
        rw [hv] at h
        obtain ⟨h1, h2⟩ := ih h
        have := hexv_lt hv
        refine ⟨by omega, Nat.lt_of_lt_of_le h2 ?_⟩
        rw [Nat.pow_succ, Nat.mul_comm (16 ^ k) 16, ← Nat.mul_assoc]
        exact Nat.mul_le_mul_right _ (by omega)
theorem four4_some {l : List UInt8} {m e : Nat} (h : four4 l = (some m, e)) : e = 4 ∧ m < 65536 := by
  have := fourG_some h; omega

section
variable (bp : Nat) (s : ByteArray) (i : Nat) (vL : Value) (at0 dp : Nat) (w : World)

theorem resc_simple (hs : s.size ≤ 140737488351232) (h : RD bp s i vL 0 at0 dp w) (hi1 : i + 1 < s.size) (b : UInt8) (hb : esc1 s[i + 1] = some b) :
    Calls Tryz.prog 57 #[.pointer (some ⟨bp, 0, none⟩)] w fun r w' => r = .returned (.string ⟨#[b]⟩) ∧ RD bp s (i + 2) vL 0 at0 dp w' ∧ Onl bp w w' := by
  by_cases h34 : s[i + 1] = 34
  · rw [h34] at hb; injection hb with hb; subst hb; exact resc_34 bp s i vL at0 dp w hs h hi1 h34
  by_cases h92 : s[i + 1] = 92
  · rw [h92] at hb; injection hb with hb; subst hb; exact resc_92 bp s i vL at0 dp w hs h hi1 h92
  by_cases h47 : s[i + 1] = 47
  · rw [h47] at hb; injection hb with hb; subst hb; exact resc_47 bp s i vL at0 dp w hs h hi1 h47
  by_cases h98 : s[i + 1] = 98
  · rw [h98] at hb; injection hb with hb; subst hb; exact resc_98 bp s i vL at0 dp w hs h hi1 h98
  by_cases h102 : s[i + 1] = 102
  · rw [h102] at hb; injection hb with hb; subst hb; exact resc_102 bp s i vL at0 dp w hs h hi1 h102
  by_cases h110 : s[i + 1] = 110
  · rw [h110] at hb; injection hb with hb; subst hb; exact resc_110 bp s i vL at0 dp w hs h hi1 h110
  by_cases h114 : s[i + 1] = 114
  · rw [h114] at hb; injection hb with hb; subst hb; exact resc_114 bp s i vL at0 dp w hs h hi1 h114
  by_cases h116 : s[i + 1] = 116
  · rw [h116] at hb; injection hb with hb; subst hb; exact resc_116 bp s i vL at0 dp w hs h hi1 h116
  · simp [esc1, h34, h92, h47, h98, h102, h110, h114, h116] at hb

theorem esc1_none {c : UInt8} (h : esc1 c = none) (h117 : c ≠ 117) : ∀ k ∈ [34, 92, 47, 98, 102, 110, 114, 116, 117], c ≠ UInt8.ofNat k := by
  intro k hk e
  simp at hk
  rcases hk with rfl | rfl | rfl | rfl | rfl | rfl | rfl | rfl | rfl
  all_goals first | (rw [e] at h; revert h; decide) | exact h117 e

theorem rescape (hs : s.size ≤ 140737488340000) (h : RD bp s i vL 0 at0 dp w) (hi : i < s.size) :
    (∀ t k, escL (sfx s i) = .ok (t, k) → Calls Tryz.prog 57 #[.pointer (some ⟨bp, 0, none⟩)] w fun r w' => r = .returned (.string ⟨t.toArray⟩) ∧ RD bp s (i + k) vL 0 at0 dp w' ∧ Onl bp w w') ∧
    (∀ o, escL (sfx s i) = .error o → Calls Tryz.prog 57 #[.pointer (some ⟨bp, 0, none⟩)] w fun r w' => r = .returned (.string ⟨#[]⟩) ∧ (∃ j, RD bp s j vL 2 (i + o) dp w') ∧ Onl bp w w') := by
  have hs2 : s.size ≤ 140737488351232 := by omega
  by_cases hi1 : i + 1 < s.size
  · rw [escL_cons s i hi1]
    cases hb : esc1 s[i + 1] with
    | some b =>
      refine ⟨fun t k he => ?_, fun o he => (by simp at he)⟩
      simp at he
      obtain ⟨rfl, rfl⟩ := he
      exact resc_simple bp s i vL at0 dp w hs2 h hi1 b hb
    | none =>
      by_cases hu : s[i + 1] = 117
      · simp only [hu, if_true]
        cases hF : four4 (sfx s (i + 2)) with
        | mk F1 k4 =>
          cases F1 with
          | none =>
            refine ⟨fun t k he => (by simp at he), fun o he => ?_⟩
            simp at he
            subst he
            rw [← Nat.add_assoc]
            exact resc_u0 bp s i vL at0 dp w hs2 h hi1 hu k4 hF
          | some n =>
            obtain ⟨rfl, hn⟩ := four4_some hF
            dsimp only
            by_cases hp : n < 55296 ∨ 57343 < n
            · refine ⟨fun t k he => ?_, fun o he => (by rw [pairL_plain n _ hp] at he; simp at he)⟩
              rw [pairL_plain n _ hp] at he
              simp at he
              obtain ⟨rfl, rfl⟩ := he
              exact resc_u1 bp s i vL at0 dp w hs2 h hi1 hu 4 n hF (by omega) _ _ fun w' h' => rpair_plain bp s (i + 6) vL at0 dp w' (n : Int) n i rfl (by omega) hn h'
            · cases hl : lowL (sfx s (i + 6)) with
              | none =>
                have hpe : pairL n (sfx s (i + 6)) = .error 0 := by unfold pairL; rw [if_neg hp, hl]
                refine ⟨fun t k he => (by rw [hpe] at he; simp at he), fun o he => ?_⟩
                rw [hpe] at he
                injection he with he
                subst he
                exact resc_u1 bp s i vL at0 dp w hs2 h hi1 hu 4 n hF (by omega) ⟨#[]⟩ (fun w' => ∃ j, RD bp s j vL 2 (i + 0) dp w') fun w' h' => (rpair_er bp s (i + 6) vL at0 dp w' (n : Int) i (by omega) (by omega) (.inl hl) h' (by omega)).mono fun r w2 ⟨a, b, c⟩ => ⟨a, ⟨_, b⟩, c⟩
              | some m =>
                have hb2 := lowL_bound hl
                by_cases h5 : 56320 ≤ n
                · have hpe : pairL n (sfx s (i + 6)) = .error 0 := by unfold pairL; rw [if_neg hp, hl]; simp [h5]
                  refine ⟨fun t k he => (by rw [hpe] at he; simp at he), fun o he => ?_⟩
                  rw [hpe] at he
                  injection he with he
                  subst he
                  exact resc_u1 bp s i vL at0 dp w hs2 h hi1 hu 4 n hF (by omega) ⟨#[]⟩ (fun w' => ∃ j, RD bp s j vL 2 (i + 0) dp w') fun w' h' => (rpair_er bp s (i + 6) vL at0 dp w' (n : Int) i (by omega) (by omega) (.inr (by omega)) h' (by omega)).mono fun r w2 ⟨a, b, c⟩ => ⟨a, ⟨_, b⟩, c⟩
                · have hpe : pairL n (sfx s (i + 6)) = .ok (wr8 (65536 + 1024 * (n - 55296) + (m - 56320)), 12) := by unfold pairL; rw [if_neg hp, hl]; simp [h5]
                  refine ⟨fun t k he => ?_, fun o he => (by rw [hpe] at he; simp at he)⟩
                  rw [hpe] at he
                  injection he with he
                  injection he with he1 he2
                  subst he1; subst he2
                  exact resc_u1 bp s i vL at0 dp w hs2 h hi1 hu 4 n hF (by omega) _ (fun w' => RD bp s (i + 12) vL 0 at0 dp w') fun w' h' => rpair_two bp s (i + 6) vL at0 dp w' (n : Int) i m _ (by omega) (by omega) hl (by omega) (by omega) h' (by omega)
      · simp only [hu, if_false]
        refine ⟨fun t k he => (by simp at he), fun o he => ?_⟩
        injection he with he
        subst he
        exact resc_no bp s i vL at0 dp w hs2 h (i + 1) rfl hi1 (esc1_none hb hu)
  · have hl : escL (sfx s i) = .error 1 := by rw [sfx_cons s i hi, sfx_nil s (i + 1) (by omega)]; rfl
    rw [hl]
    refine ⟨fun t k he => (by simp at he), fun o he => ?_⟩
    injection he with he
    subst he
    exact resc_end bp s i vL at0 dp w hs2 h hi (by omega)
end
end Go.Proofs.YtgiaflcbiipafabGreatDoor
/-
  Append of a string's bytes onto bytes of the call's own.
-/
namespace Go.Proofs.YtgiaflcbiipafabGreatDoor
open Go.RowKit
set_option linter.unusedVariables false

theorem setCells_row {g : Nat} {e : TypeId} {fz : Nat × Nat} : ∀ (vs : List Value) (o : Nat) (w : World) (cur : Array Value), w.heap[g]? = some (.cells cur e fz) → o + vs.length ≤ cur.size →
    ∃ cur', (w.setCells g o vs).heap[g]? = some (.cells cur' e fz) ∧ cur'.size = cur.size ∧ cur'.toList = cur.toList.take o ++ vs ++ cur.toList.drop (o + vs.length) ∧ (∀ B, B ≤ g → Below B w (w.setCells g o vs)) := by
  intro vs
  induction vs with
  | nil => intro o w cur h hl; exact ⟨cur, h, rfl, by simp, fun B _ => Below.refl _ _⟩
  | cons v r ih =>
    intro o w cur h hl
    simp only [List.length_cons] at hl
    have e1 := setCell_eq_setRow w g o cur e fz v h
    have h1 : (w.setCell ⟨g, o, none⟩ v).heap[g]? = some (.cells (cur.setIfInBounds o v) e fz) := by rw [e1]; exact setRow_heap w g _ _ _ _ h
    obtain ⟨cur', a1, a2, a3, a4⟩ := ih (o + 1) _ _ h1 (by simp; omega)
    refine ⟨cur', a1, by simpa using a2, ?_, fun B hB => ?_⟩
    · rw [a3, Array.toList_setIfInBounds]
      rw [List.take_succ_eq_append_getElem (by simp; omega), List.take_set_of_le (Nat.le_refl _)]
      rw [List.drop_set_of_lt (by omega)]
      simp [List.append_assoc, Nat.add_comm, Nat.add_left_comm]
    · have hb : Below B w (w.setCell ⟨g, o, none⟩ v) := by rw [e1]; exact below_setRow (Below.refl _ _) hB _
      exact hb.trans (a4 B hB)

theorem byteCells_eq (s : ByteArray) : byteCells s = s.data.toList.map byteV := rfl

theorem appS {P : Program} (w : World) (t u ty e : TypeId) (i : TypeInfo) (ht : P.underlying t = some (.slice e)) (hu : P.underlying u = some .string) (hi : P.info? e = some i) (hz : i.zero = some (.int .u8 0)) (hsize : i.size = 1) (hby : i.bytes = 1)
    (B : Nat) (v : Value) (l : List UInt8) (s : ByteArray) (hown : OwnB B e v l w) (hB : B ≤ w.heap.size) (hlen : l.length + s.size ≤ 140737488355328) :
    ∃ v' w', (Builtin.append_ #[t, u] ty #[v, .string s]).run P w = .ok v' w' ∧ OwnB B e v' (l ++ s.data.toList) w' ∧ Below B w w' := by
  have hsrc : Src P i.size u (.string s) s.size (byteCells s) w := by rw [hsize]; exact Src.ofString w hu s
  have h63 : l.length + s.size ≤ maxLen := by unfold maxLen; omega
  have hsl : s.data.toList.length = s.size := by simp
  by_cases hs0 : s.size = 0
  · have hsd : s.data.toList = [] := List.length_eq_zero_iff.1 (by omega)
    rw [hsd, List.append_nil]
    rcases hown with ⟨rfl, rfl⟩ | ⟨g, cap, cur, fz, rfl, hBg, hg, hfz, hlc, hcm, hcs, htk⟩
    · refine ⟨.slice none 0 0, w, ?_, .inl ⟨rfl, rfl⟩, Below.refl _ _⟩
      simp [Builtin.append_, run_underlying ht, run_underlying hu, sizeOf, typeInfo, hi, Builtin.lenOf, Builtin.firstCells, hs0]
    · have hr := run_append_room_src (P := P) w t u ty e i ht hi g 0 l.length cap (.string s) s.size (byteCells s) hsrc (by omega) (by intro j hj; rw [byteCells_length] at hj; omega) (by intro j hj; rw [byteCells_length] at hj; omega)
      have hbc : byteCells s = [] := by rw [byteCells_eq, hsd]; rfl
      rw [hbc] at hr
      refine ⟨_, _, hr, .inr ⟨g, cap, cur, fz, by rw [hs0]; rfl, hBg, hg, hfz, hlc, hcm, hcs, htk⟩, Below.refl _ _⟩
  · rcases hown with ⟨rfl, rfl⟩ | ⟨g, cap, cur, fz, rfl, hBg, hg, hfz, hlc, hcm, hcs, htk⟩
    · have hr := run_append_grow_src (P := P) w t u ty e i (.int .u8 0) ht hi hz none 0 0 [] (by simp [Builtin.firstCells]) (.string s) s.size (byteCells s) hsrc (by omega) (by simp at hlen ⊢; omega) (by rw [hby]; exact growslice_fits (by omega) (by simp at hlen ⊢; omega))
      rw [Nat.zero_add] at hr
      have hge := grownCap_ge w s.size 0 e
      have hm := grownCap_le_maxLen w s.size 0 e (by simpa using h63)
      generalize grownCap w s.size 0 e = c at hr hge hm
      refine ⟨_, _, hr, ?_, ((Below.refl B w).drew).alloc (by show B ≤ w.heap.size; omega) _⟩
      refine .inr ⟨w.heap.size, c, _, (0, 0), by simp, hB, heap_alloc_new w.drew _, .inl (Nat.zero_le _), by simp; omega, hm, ?_, ?_⟩
      · have hz1 : (Value.int IntKind.u8 0).cells.size = 1 := rfl
        simp only [Array.size_append, List.size_toArray, size_zeroCells, hz1, List.length_append, byteCells_length, List.length_nil]
        omega
      · rw [byteCells_eq]
        simp only [Array.toList_append, List.nil_append]
        rw [List.take_left' (by simp)]
    · by_cases hroom : l.length + s.size ≤ cap
      · have hcc : ∀ j, j < (byteCells s).length → (w.cell? ⟨g, 0 + l.length * i.size + j, none⟩).isSome = true := by
          intro j hj; rw [byteCells_length] at hj
          rw [hsize, cell_of_row w g _ cur e fz hg]
          simp; omega
        have hff : ∀ j, j < (byteCells s).length → w.frozen? ⟨g, 0 + l.length * i.size + j, none⟩ = false := by
          intro j hj; rw [byteCells_length] at hj
          obtain ⟨lo, hi'⟩ := fz
          simp only [World.frozen?, hg, Bool.and_eq_false_iff, decide_eq_false_iff_not, hsize]
          simp only at hfz
          omega
        have hr := run_append_room_src (P := P) w t u ty e i ht hi g 0 l.length cap (.string s) s.size (byteCells s) hsrc hroom hcc hff
        obtain ⟨cur', a1, a2, a3, a4⟩ := setCells_row (byteCells s) (0 + l.length * i.size) w cur hg (by rw [byteCells_length, hsize]; omega)
        refine ⟨_, _, hr, .inr ⟨g, cap, cur', fz, by simp, hBg, a1, ?_, by simp; omega, hcm, by omega, ?_⟩, a4 B hBg⟩
        · rcases hfz with h | h
          · left; simp; omega
          · exact .inr h
        · rw [a3, hsize, Nat.zero_add, Nat.mul_one, htk, byteCells_eq]
          rw [List.take_left' (by simp)]
          simp
      · have holds := OwnB.cells (B := B) (cap := cap) hg htk
        have hold : (Builtin.firstCells i.size l.length (.slice (some ⟨g, 0, none⟩) l.length cap)).run P w.drew = .ok (l.map byteV).toArray w.drew := by
          rw [hsize]
          exact run_firstCells_some (P := P) w.drew 1 l.length ⟨g, 0, none⟩ l.length cap (l.map byteV) (by simp) (by simpa using holds)
        have hr := run_append_grow_src (P := P) w t u ty e i (.int .u8 0) ht hi hz (some ⟨g, 0, none⟩) l.length cap (l.map byteV) hold (.string s) s.size (byteCells s) hsrc (by omega) (by unfold maxLen at h63; omega) (by rw [hby]; exact growslice_fits (by omega) (by omega))
        have hge := grownCap_ge w (l.length + s.size) cap e
        have hm := grownCap_le_maxLen w (l.length + s.size) cap e h63
        generalize grownCap w (l.length + s.size) cap e = c at hr hge hm
        refine ⟨_, _, hr, ?_, ((Below.refl B w).drew).alloc (by show B ≤ w.heap.size; omega) _⟩
        refine .inr ⟨w.heap.size, c, _, (0, 0), by simp, hB, heap_alloc_new w.drew _, .inl (Nat.zero_le _), by simp; omega, hm, ?_, ?_⟩
        · have hz1 : (Value.int IntKind.u8 0).cells.size = 1 := rfl
          simp only [Array.size_append, List.size_toArray, size_zeroCells, hz1, List.length_append, byteCells_length, List.length_map]
          omega
        · rw [byteCells_eq]
          simp only [Array.toList_append]
          rw [← List.map_append, List.take_left' (by simp)]

/-- The operation, for the walk. -/
theorem wp_appS {P : Program} {ops : Array Oper} {rest : List Oper} {o : Oper} {a : Act} {Q : Exit → Act → World → Prop} {w : World} (hgd : o.guard = none) (x y : Operand) (t u : TypeId)
    (ho : o.op = .call { callee := .builtin .append, args := #[x, y], argTypes := #[t, u] })
    (e : TypeId) (i : TypeInfo) (ht : P.underlying t = some (.slice e)) (hu : P.underlying u = some .string) (hi : P.info? e = some i) (hz : i.zero = some (.int .u8 0)) (hsize : i.size = 1) (hby : i.bytes = 1)
    (B : Nat) (v : Value) (l : List UInt8) (s : ByteArray) (hx : a.eval x = v) (hy : a.eval y = .string s) (hlen : l.length + s.size ≤ 140737488355328) (hown : OwnB B e v l w) (hB : B ≤ w.heap.size)
    (h : ∀ v' w', OwnB B e v' (l ++ s.data.toList) w' → Below B w w' → wpList P ops Q rest (a.put o.dst v') w') : wpList P ops Q (o :: rest) a w := by
  refine wpList_plain hgd fun K hK => ?_
  obtain ⟨v', w', hr, h2, h3⟩ := appS (P := P) w t u o.type e i ht hu hi hz hsize hby B v l s hown hB hlen
  unfold Oper.wp execOp
  simp only [ho, resolve, invoke, builtin, Sem.run_bind, Sem.run_pure, Result.andThen_ok, List.map_toArray, List.map_cons, List.map_nil, hx, hy, hr]
  exact hK _ _ (h v' w' h2 h3)
theorem stepS {P : Program} {ops : Array Oper} {o : Oper} {a : Act} {w : World} {K : Act → World → Prop} {Q : Exit → Act → World → Prop} {E : Prop} (hgd : o.guard = none) (x y : Operand) (t u : TypeId)
    (ho : o.op = .call { callee := .builtin .append, args := #[x, y], argTypes := #[t, u] })
    (e : TypeId) (i : TypeInfo) (ht : P.underlying t = some (.slice e)) (hu : P.underlying u = some .string) (hi : P.info? e = some i) (hz : i.zero = some (.int .u8 0)) (hsize : i.size = 1) (hby : i.bytes = 1)
    (B : Nat) (v : Value) (l : List UInt8) (s : ByteArray) (hx : a.eval x = v) (hy : a.eval y = .string s) (hlen : l.length + s.size ≤ 140737488355328) (hown : OwnB B e v l w) (hB : B ≤ w.heap.size)
    (h : ∀ v' w', OwnB B e v' (l ++ s.data.toList) w' → Below B w w' → K (a.put o.dst v') w') :
    if Region.wanted o (yielded ops a.tmps) = true then Oper.wp P o a w K Q else E := by
  have hw : Region.wanted o (yielded ops a.tmps) = true := by simp [Region.wanted, hgd]
  rw [if_pos hw]
  obtain ⟨v', w', hr, h2, h3⟩ := appS (P := P) w t u o.type e i ht hu hi hz hsize hby B v l s hown hB hlen
  unfold Oper.wp execOp
  simp only [ho, resolve, invoke, builtin, Sem.run_bind, Sem.run_pure, Result.andThen_ok, List.map_toArray, List.map_cons, List.map_nil, hx, hy, hr]
  exact h v' w' h2 h3
end Go.Proofs.YtgiaflcbiipafabGreatDoor
/-
  The document's reader: a string.
-/
namespace Go.Proofs.YtgiaflcbiipafabGreatDoor
open Go.RowKit
set_option linter.unusedVariables false

theorem wr8_length (n : Nat) : (wr8 n).length ≤ 4 := by
  unfold wr8
  split
  · simp
  · split
    · simp
    · split <;> simp
theorem escL_ok {l t : List UInt8} {n : Nat} (h : escL l = .ok (t, n)) : t.length ≤ n ∧ 2 ≤ n ∧ n ≤ 12 := by
  unfold escL at h
  split at h
  · split at h
    · injection h with h; injection h with h1 h2; subst h1; subst h2; simp
    · split at h
      · split at h
        · cases h
        · unfold pairL at h
          split at h
          · injection h with h; injection h with h1 h2; subst h1; subst h2
            have := wr8_length; exact ⟨Nat.le_trans (this _) (by omega), by omega, by omega⟩
          · split at h
            · cases h
            · split at h
              · cases h
              · injection h with h; injection h with h1 h2; subst h1; subst h2
                have := wr8_length; exact ⟨Nat.le_trans (this _) (by omega), by omega, by omega⟩
      · cases h
  · cases h
theorem shiftS_shiftS (a t : List UInt8) (k n : Nat) (X : Except Nat (List UInt8 × Nat)) : shiftS a k (shiftS t n X) = shiftS (a ++ t) (k + n) X := by
  cases X with
  | ok p => obtain ⟨x, m⟩ := p; simp [shiftS, Nat.add_assoc]
  | error o => simp [shiftS, Nat.add_assoc]
theorem seqN_le (c : Nat) : seqN c ≤ 4 := by unfold seqN; split <;> (try split) <;> omega
theorem seqLen_le4 (l : List UInt8) : seqLen l ≤ 4 := by
  unfold seqLen
  split
  · omega
  · split
    · omega
    · split
      · omega
      · split
        · exact seqN_le _
        · omega
theorem goesL_len {l : List UInt8} {k lo hi : Nat} (h : goesL l k lo hi = true) : k < l.length := by
  unfold goesL at h
  split at h
  · rename_i c hc; exact (List.getElem?_eq_some_iff.1 hc).1
  · cases h
theorem seqLen_len (l : List UInt8) : seqLen l ≤ l.length := by
  match l with
  | [] => simp [seqLen]
  | c :: r =>
    simp only [seqLen]
    split
    · simp
    · split
      · omega
      · split
        · rename_i h
          simp only [Bool.and_eq_true, Bool.or_eq_true, decide_eq_true_eq] at h
          obtain ⟨⟨h1, h2⟩, h3⟩ := h
          have a1 := goesL_len h1
          have := seqN_le c.toNat
          rcases h2 with h2 | h2
          · omega
          · have a2 := goesL_len h2
            rcases h3 with h3 | h3
            · omega
            · have a3 := goesL_len h3; omega
        · omega

theorem u8infoJ : (Tryz.prog.info? 5).map (fun i => (i.zero, i.size, i.bytes)) = some (some (.int .u8 0), 1, 1) := by kernel_rfl

section
variable (bp : Nat) (s : ByteArray) (i : Nat) (vL : Value) (at0 dp : Nat) (w : World)

/-- What quoted answers. -/
def QP (R : Except Nat (List UInt8 × Nat)) (r : Ending) (w' : World) : Prop :=
  match R with
  | .ok (t, n) => r = .returned (.string ⟨t.toArray⟩) ∧ RD bp s (i + n) vL 0 at0 dp w'
  | .error o => (∃ t, r = .returned (.string t)) ∧ ∃ j, RD bp s j vL 2 (i + o) dp w'

/-- Within its loop. -/
def QI (v : Value) (wr : World) : Prop :=
  Onl bp w wr ∧ ((∃ k f acc, (sfx s (i + 1 + k)).length < f ∧ i + 1 + k ≤ s.size + 12 ∧ acc.length ≤ k ∧ strL (sfx s (i + 1)) = shiftS acc k (strF f (sfx s (i + 1 + k))) ∧ OwnB w.heap.size 5 v acc wr ∧ RD bp s (i + 1 + k) vL 0 at0 dp wr) ∨
    (∃ o j acc, strL (sfx s (i + 1)) = .error o ∧ OwnB w.heap.size 5 v acc wr ∧ RD bp s j vL 2 (i + 1 + o) dp wr))
def QM (wr : World) : Nat := if posOf (wr.cell? ⟨bp, 3, none⟩) = 0 then s.size + 13 - posOf (wr.cell? ⟨bp, 1, none⟩) + 1 else 0

theorem QM_er {j er a d : Nat} {w' : World} (h : RD bp s j vL er a d w') (he : 0 < er) : QM bp s w' = 0 := by
  unfold QM; rw [h.cell.2.2.2.1, if_neg (by simp [posOf]; omega)]
theorem QM_ok {j a d : Nat} {w' : World} (h : RD bp s j vL 0 a d w') : QM bp s w' = s.size + 13 - j + 1 := by
  unfold QM; rw [h.cell.2.2.2.1, pos_rd h]; simp [posOf]
theorem onl_belowB {w' : World} {wr : World} (ho : Onl bp w wr) (hb : Below w.heap.size wr w') : Onl bp w w' :=
  ⟨hb.os.trans ho.os, hb.tape.trans ho.tape, hb.output.trans ho.output, Nat.le_trans ho.size hb.size, fun k hk hn => (hb.block k hk).trans (ho.block k hk hn)⟩
theorem RD.belowB {j er a d : Nat} {w' wr : World} (h : RD bp s j vL er a d wr) (hlt : bp < w.heap.size) (hb : Below w.heap.size wr w') : RD bp s j vL er a d w' := by
  unfold RD; rw [hb.block _ hlt]; exact h
theorem OwnB.onl {B : Nat} {e : TypeId} {v : Value} {l : List UInt8} {wa wb : World} (h : OwnB B e v l wa) (ho : Onl bp wa wb) (hlt : bp < B) : OwnB B e v l wb := by
  rcases h with h | ⟨g, cap, cur, fz, hv, hB, hg, rest⟩
  · exact .inl h
  · refine .inr ⟨g, cap, cur, fz, hv, hB, ?_, rest⟩
    have := (Array.getElem?_eq_some_iff.1 hg).1
    rw [ho.block _ this (fun e => by injection e with e; omega)]; exact hg

set_option maxRecDepth 4000 in
set_option maxHeartbeats 1000000 in
theorem rquoted (hs : s.size ≤ 140737488340000) (h : RD bp s i vL 0 at0 dp w) :
    Calls Tryz.prog 33 #[.pointer (some ⟨bp, 0, none⟩)] w fun r w' => QP bp s i vL at0 dp (quotL (sfx s i)) r w' ∧ Onl bp w w' := by
  have hlt := h.lt
  obtain ⟨i0, hi0, hz0, hz1, hz2⟩ := info_parts u8infoJ
  have HI : Hid _ := hi0
  clear hi0
  by_cases hq : (sfx s i).head? = some 34
  · have hi := head_lt hq
    have hsi : s[i] = 34 := by rw [sfx_cons s i hi] at hq; simpa using hq
    have hR : quotL (sfx s i) = (match strL (sfx s (i + 1)) with | .ok (t, n) => .ok (t, n + 1) | .error o => .error (o + 1)) := by
      rw [sfx_cons s i hi, quotL, if_pos hsi]; rfl
    have HR : Hid _ := hR
    clear hR
    have hm : Calls Tryz.prog 56 #[.pointer (some ⟨bp, 0, none⟩), .int .u8 34] w fun r w' => r = .returned (.tuple #[]) ∧ RD bp s (i + 1) vL 0 at0 dp w' ∧ Onl bp w w' := rmust_ok bp s i vL at0 dp 34 w (by omega) h hq
    clear hq hsi
    go_enter Tryz.func33, Tryz.ntmps33
    go_wp2_with fail
    refine hm.mono ?_
    rintro e w1 ⟨rfl, h1, o1⟩
    have H1 : Hid (RD bp s (i + 1) vL 0 at0 dp w1) := h1
    have O1 : Hid (Onl bp w w1) := o1
    clear h1 o1 hm
    go_wp2_with fail
    go_loopw [3] (fun v wr => QI bp s i vL at0 dp w v wr) (fun _ wr => QM bp s wr)
    case atStart =>
      refine ⟨O1.out, .inl ⟨0, (sfx s (i + 1)).length + 1, [], by simp, by omega, by simp, ?_, .inl ⟨rfl, rfl⟩, H1.out⟩⟩
      show strL (sfx s (i + 1)) = shiftS [] 0 (strF ((sfx s (i + 1)).length + 1) (sfx s (i + 1)))
      unfold strL
      cases strF ((sfx s (i + 1)).length + 1) (sfx s (i + 1)) with
      | ok p => obtain ⟨a, b⟩ := p; simp [shiftS]
      | error o => simp [shiftS]
    case round =>
      clear H1 O1
      obtain ⟨ho, hcase⟩ := hrel
      have HO : Hid (Onl bp w wr) := ho
      clear ho
      rcases hcase with ⟨k, f, acc, hf, hk, hal, he, hown, hrd⟩ | ⟨o, j, acc, he, hown, hrd⟩
      · generalize hp : i + 1 + k = p at hf hk he hrd
        have HP : Hid (i + 1 + k = p) := hp
        have HE : Hid (strL (sfx s (i + 1)) = shiftS acc k (strF f (sfx s p))) := he
        have HW : Hid (OwnB w.heap.size 5 u3 acc wr) := hown
        have HM : Hid (QM bp s wr = s.size + 13 - p + 1) := by
          show QM bp s wr = _
          unfold QM; rw [hrd.cell.2.2.2.1, pos_rd hrd]; simp [posOf]
        obtain ⟨f, rfl⟩ : ∃ g, f = g + 1 := ⟨f - 1, by omega⟩
        have hr : ∀ b, isAt 0 (sfx s p) 34 = b → Calls Tryz.prog 32 #[.pointer (some ⟨bp, 0, none⟩), .int .u8 34] wr fun r w'' => r = .returned (.bool b) ∧ RD bp s p vL 0 at0 dp w'' ∧ Onl bp wr w'' :=
          fun b hb => hb ▸ (ris bp s p vL 0 at0 dp 34 wr hrd).mono fun e w'' ⟨he, n, hw⟩ => ⟨he, hw ▸ hrd.drewN n, hw ▸ (onl_refl bp wr).drewN n⟩
        obtain ⟨c0, c1, c2, c3, c4, c5, cf⟩ := hrd.cell
        have hacc : acc.length ≤ 140737488340020 := by omega
        have HA : Hid (acc.length ≤ 140737488340020) := hacc
        clear hp he hown hacc
        by_cases h34 : (sfx s p).head? = some 34
        · have hr1 := hr true (isAt_yes h34)
          have hF : strF (f + 1) (sfx s p) = .ok ([], 1) := by
            have hps := head_lt h34
            rw [sfx_cons s p hps] at h34 ⊢
            have h34 : s[p] = 34 := by simpa using h34
            rw [strF]; simp [h34]
          have HF : Hid _ := hF
          have hmu : ∀ w', RD bp s p vL 0 at0 dp w' → Calls Tryz.prog 56 #[.pointer (some ⟨bp, 0, none⟩), .int .u8 34] w' fun r w'' => r = .returned (.tuple #[]) ∧ RD bp s (p + 1) vL 0 at0 dp w'' ∧ Onl bp w' w'' := fun w' h' => rmust_ok bp s p vL at0 dp 34 w' (by omega) h' h34
          clear h34 hF hr hf hk
          go_wp2_with fail
          refine hr1.mono ?_
          rintro e w2 ⟨rfl, h2, o2⟩
          have H2 : Hid (RD bp s p vL 0 at0 dp w2) := h2
          have O2 : Hid (Onl bp w w2) := Onl.trans HO.out o2
          have W2 : Hid (OwnB w.heap.size 5 u3 acc w2) := OwnB.onl bp HW.out o2 hlt
          clear h2 o2 hr1 c0 c1 c2 c3 c4 c5 cf hrd HO HW
          go_wp2_with fail
          refine (hmu _ H2.out).mono ?_
          rintro e w3 ⟨rfl, h3, o3⟩
          have H3 : Hid (RD bp s (p + 1) vL 0 at0 dp w3) := h3
          have O3 : Hid (Onl bp w w3) := Onl.trans O2.out o3
          have hs3 := (OwnB.onl bp W2.out o3 hlt).str (P := Tryz.prog) (t := 38) (d := 9) Tryz.underlying38 Tryz.underlying5 Tryz.underlying9
          clear h3 o3 hmu H2 O2 W2
          go_wp2
          go_ret
          refine ⟨?_, O3.out⟩
          have e1 := HE.out
          rw [HF.out] at e1
          have e2 : shiftS acc k (.ok ([], 1)) = .ok (acc, k + 1) := by simp [shiftS]
          rw [HR.out, e1, e2]
          refine ⟨rfl, ?_⟩
          have : i + (k + 1 + 1) = p + 1 := by have := HP.out; omega
          rw [this]; exact H3.out
        · have hr1 := hr false (isAt_no h34)
          clear hr
          by_cases hps : p < s.size
          · have hcons := sfx_cons s p hps
            have hne34 : s[p] ≠ 34 := by rw [hcons] at h34; simpa using h34
            have hp1 : (p : Int) < (s.size : Int) := by omega
            have hp2 : decide ((s.size : Int) ≤ (p : Int)) = false := by simp; omega
            clear h34
            by_cases h32 : s[p].toNat < 32
            · have hF : strF (f + 1) (sfx s p) = .error 0 := by rw [hcons, strF]; simp [hne34, h32]
              have HF : Hid _ := hF
              have hlt32 : (s[p].toNat : Int) < 32 := by omega
              clear hF hcons hne34 h32 hf hk
              go_wp2_with fail
              refine hr1.mono ?_
              rintro e w2 ⟨rfl, h2, o2⟩
              have O2 : Hid (Onl bp w w2) := Onl.trans HO.out o2
              have W2 : Hid (OwnB w.heap.size 5 u3 acc w2) := OwnB.onl bp HW.out o2 hlt
              clear o2 hr1 c0 c1 c2 c3 c4 c5 cf hrd HO HW
              obtain ⟨c0, c1, c2, c3, c4, c5, cf⟩ := h2.cell
              go_wp2_with fail
              go_quiet (fail)
              have h3 := h2.drewN nq
              have O3 : Hid (Onl bp w (w2.drewN nq)) := Onl.drewN O2.out nq
              have W3 : Hid (OwnB w.heap.size 5 u3 acc (w2.drewN nq)) := W2.out
              generalize w2.drewN nq = w3 at h3 O3 W3
              clear c0 c1 c2 c3 c4 c5 cf h2 O2 W2 nq w2
              obtain ⟨c0, c1, c2, c3, c4, c5, cf⟩ := h3.cell
              have hfa := rfail0 bp s p vL at0 dp 2 p _ h3
              go_wp2_with fail
              refine hfa.mono ?_
              rintro e w7 ⟨rfl, h7, o7⟩
              have H7 : Hid (RD bp s p vL 2 p dp w7) := h7
              have O7 : Hid (Onl bp w w7) := Onl.trans O3.out o7
              clear h7 o7 hfa
              go_wp2
              go_ret
              refine ⟨?_, O7.out⟩
              have e1 := HE.out
              rw [HF.out] at e1
              rw [HR.out, e1]
              refine ⟨⟨_, rfl⟩, p, ?_⟩
              have : i + (k + 0 + 1) = p := by have := HP.out; omega
              rw [this]; exact H7.out
            · have hge32 : decide ((s[p].toNat : Int) < 32) = false := by simp; omega
              by_cases h92 : s[p] = 92
              · have h92b : ((s[p].toNat : Int) == 92) = true := by rw [h92]; rfl
                have hesc := fun w' (h' : RD bp s p vL 0 at0 dp w') => rescape bp s p vL at0 dp w' (by omega) h' hps
                have hFF : strF (f + 1) (sfx s p) = (match escL (sfx s p) with | .error o => .error o | .ok (t, n) => shiftS t n (strF f ((sfx s p).drop n))) := by
                  rw [hcons, strF]; simp [h92]; rfl
                cases hE2 : escL (sfx s p) with
                | error o =>
                  rw [hE2] at hFF
                  have HF : Hid (strF (f + 1) (sfx s p) = .error o) := hFF
                  have hes := fun w' h' => (hesc w' h').2 o hE2
                  clear hFF hesc hE2 hcons hne34 h32 h92 hf hk
                  go_wp2_with fail
                  refine hr1.mono ?_
                  rintro e w2 ⟨rfl, h2, o2⟩
                  have O2 : Hid (Onl bp w w2) := Onl.trans HO.out o2
                  have W2 : Hid (OwnB w.heap.size 5 u3 acc w2) := OwnB.onl bp HW.out o2 hlt
                  clear o2 hr1 c0 c1 c2 c3 c4 c5 cf hrd HO HW
                  obtain ⟨c0, c1, c2, c3, c4, c5, cf⟩ := h2.cell
                  go_wp2_with fail
                  go_quiet (fail)
                  have h3 := h2.drewN nq
                  have O3 : Hid (Onl bp w (w2.drewN nq)) := Onl.drewN O2.out nq
                  have W3 : Hid (OwnB w.heap.size 5 u3 acc (w2.drewN nq)) := W2.out
                  generalize w2.drewN nq = w3 at h3 O3 W3
                  clear c0 c1 c2 c3 c4 c5 cf h2 O2 W2 nq w2
                  obtain ⟨c0, c1, c2, c3, c4, c5, cf⟩ := h3.cell
                  go_wp2_with fail
                  go_quiet (fail)
                  have h4 := h3.drewN nq
                  have O4 : Hid (Onl bp w (w3.drewN nq)) := Onl.drewN O3.out nq
                  have W4 : Hid (OwnB w.heap.size 5 u3 acc (w3.drewN nq)) := W3.out
                  generalize w3.drewN nq = w4 at h4 O4 W4
                  clear c0 c1 c2 c3 c4 c5 cf h3 O3 W3 nq w3
                  obtain ⟨c0, c1, c2, c3, c4, c5, cf⟩ := h4.cell
                  go_wp2_with fail
                  refine (hes _ h4).mono ?_
                  rintro e w5 ⟨rfl, ⟨j, h5⟩, o5⟩
                  have H5 : Hid (RD bp s j vL 2 (p + o) dp w5) := h5
                  have O5 : Hid (Onl bp w w5) := Onl.trans O4.out o5
                  have W5 : Hid (OwnB w.heap.size 5 u3 acc w5) := OwnB.onl bp W4.out o5 hlt
                  have hz5 := O5.out.size
                  clear h5 o5 hes c0 c1 c2 c3 c4 c5 cf h4 O4 W4 hge32 h92b hp2 hal
                  go_wp2_with (refine wp_appS rfl (.tmp 58) (.tmp 59) 38 9 rfl 5 i0 Tryz.underlying38 Tryz.underlying9 HI.out hz0 hz1 hz2 w.heap.size _ acc ⟨#[]⟩ rfl rfl (by show acc.length + 0 ≤ 140737488355328; have := HA.out; omega) W5.out hz5 ?_; intro v6 w6 ho6 hb6; have W6 : Hid _ := ho6; clear ho6)
                  have h7 := RD.belowB bp s vL w H5.out hlt hb6
                  refine ⟨⟨onl_belowB bp w O5.out hb6, .inr ⟨k + o, j, _, ?_, W6.out, ?_⟩⟩, ?_⟩
                  · rw [HE.out, HF.out]; rfl
                  · rw [show i + 1 + (k + o) = p + o by have := HP.out; omega]; exact h7
                  · rw [QM_er bp s vL h7 (by omega), HM.out]; omega
                | ok q =>
                  obtain ⟨tt, n⟩ := q
                  obtain ⟨hb1, hb2, hb3⟩ := escL_ok hE2
                  rw [hE2] at hFF
                  have HF : Hid (strF (f + 1) (sfx s p) = shiftS tt n (strF f ((sfx s p).drop n))) := hFF
                  have hes := fun w' h' => (hesc w' h').1 tt n hE2
                  have HL : Hid ((sfx s p).length < f + 1) := hf
                  have HB : Hid (tt.length ≤ n ∧ 2 ≤ n ∧ n ≤ 12) := ⟨hb1, hb2, hb3⟩
                  clear hFF hesc hE2 hcons hne34 h32 h92 hf hk hb1 hb2 hb3
                  go_wp2_with fail
                  refine hr1.mono ?_
                  rintro e w2 ⟨rfl, h2, o2⟩
                  have O2 : Hid (Onl bp w w2) := Onl.trans HO.out o2
                  have W2 : Hid (OwnB w.heap.size 5 u3 acc w2) := OwnB.onl bp HW.out o2 hlt
                  clear o2 hr1 c0 c1 c2 c3 c4 c5 cf hrd HO HW
                  obtain ⟨c0, c1, c2, c3, c4, c5, cf⟩ := h2.cell
                  go_wp2_with fail
                  go_quiet (fail)
                  have h3 := h2.drewN nq
                  have O3 : Hid (Onl bp w (w2.drewN nq)) := Onl.drewN O2.out nq
                  have W3 : Hid (OwnB w.heap.size 5 u3 acc (w2.drewN nq)) := W2.out
                  generalize w2.drewN nq = w3 at h3 O3 W3
                  clear c0 c1 c2 c3 c4 c5 cf h2 O2 W2 nq w2
                  obtain ⟨c0, c1, c2, c3, c4, c5, cf⟩ := h3.cell
                  go_wp2_with fail
                  go_quiet (fail)
                  have h4 := h3.drewN nq
                  have O4 : Hid (Onl bp w (w3.drewN nq)) := Onl.drewN O3.out nq
                  have W4 : Hid (OwnB w.heap.size 5 u3 acc (w3.drewN nq)) := W3.out
                  generalize w3.drewN nq = w4 at h4 O4 W4
                  clear c0 c1 c2 c3 c4 c5 cf h3 O3 W3 nq w3
                  obtain ⟨c0, c1, c2, c3, c4, c5, cf⟩ := h4.cell
                  go_wp2_with fail
                  refine (hes _ h4).mono ?_
                  rintro e w5 ⟨rfl, h5, o5⟩
                  have H5 : Hid (RD bp s (p + n) vL 0 at0 dp w5) := h5
                  have O5 : Hid (Onl bp w w5) := Onl.trans O4.out o5
                  have W5 : Hid (OwnB w.heap.size 5 u3 acc w5) := OwnB.onl bp W4.out o5 hlt
                  have hz5 := O5.out.size
                  clear h5 o5 hes c0 c1 c2 c3 c4 c5 cf h4 O4 W4 hge32 h92b hp2
                  go_wp2_with (refine wp_appS rfl (.tmp 58) (.tmp 59) 38 9 rfl 5 i0 Tryz.underlying38 Tryz.underlying9 HI.out hz0 hz1 hz2 w.heap.size _ acc ⟨tt.toArray⟩ rfl rfl (by show acc.length + tt.length ≤ 140737488355328; have := HA.out; have := HB.out; omega) W5.out hz5 ?_; intro v6 w6 ho6 hb6; have W6 : Hid (OwnB w.heap.size 5 v6 (acc ++ tt) w6) := ho6; clear ho6)
                  have h7 := RD.belowB bp s vL w H5.out hlt hb6
                  obtain ⟨hb1, hb2, hb3⟩ := HB.out
                  refine ⟨⟨onl_belowB bp w O5.out hb6, .inl ⟨k + n, f, acc ++ tt, ?_, ?_, ?_, ?_, W6.out, ?_⟩⟩, ?_⟩
                  · rw [show i + 1 + (k + n) = p + n by have := HP.out; omega]; have := HL.out; rw [sfx_length] at this ⊢; omega
                  · have := HP.out; omega
                  · rw [List.length_append]; omega
                  · rw [HE.out, HF.out, shiftS_shiftS, sfx_drop, show i + 1 + (k + n) = p + n by have := HP.out; omega]
                  · rw [show i + 1 + (k + n) = p + n by have := HP.out; omega]; exact h7
                  · rw [QM_ok bp s vL h7, HM.out]; omega
              · have h92b : ((s[p].toNat : Int) == 92) = false := u8_ne (k := 92) (by omega) h92
                have hsq := fun w' => rsequence s p w' hps (by omega)
                by_cases hz : seqLen (sfx s p) = 0
                · have hF : strF (f + 1) (sfx s p) = .error 0 := by
                    have hz' := hz
                    rw [hcons] at hz' ⊢
                    rw [strF]; simp [hne34, h32, h92, hz']
                  have HF : Hid _ := hF
                  rw [hz] at hsq
                  clear hF hcons hne34 h32 h92 hf hk hz
                  go_wp2_with fail
                  refine hr1.mono ?_
                  rintro e w2 ⟨rfl, h2, o2⟩
                  have O2 : Hid (Onl bp w w2) := Onl.trans HO.out o2
                  have W2 : Hid (OwnB w.heap.size 5 u3 acc w2) := OwnB.onl bp HW.out o2 hlt
                  clear o2 hr1 c0 c1 c2 c3 c4 c5 cf hrd HO HW
                  obtain ⟨c0, c1, c2, c3, c4, c5, cf⟩ := h2.cell
                  go_wp2_with fail
                  go_quiet (fail)
                  have h3 := h2.drewN nq
                  have O3 : Hid (Onl bp w (w2.drewN nq)) := Onl.drewN O2.out nq
                  have W3 : Hid (OwnB w.heap.size 5 u3 acc (w2.drewN nq)) := W2.out
                  generalize w2.drewN nq = w3 at h3 O3 W3
                  clear c0 c1 c2 c3 c4 c5 cf h2 O2 W2 nq w2
                  obtain ⟨c0, c1, c2, c3, c4, c5, cf⟩ := h3.cell
                  go_wp2_with fail
                  go_quiet (fail)
                  have h4 := h3.drewN nq
                  have O4 : Hid (Onl bp w (w3.drewN nq)) := Onl.drewN O3.out nq
                  have W4 : Hid (OwnB w.heap.size 5 u3 acc (w3.drewN nq)) := W3.out
                  generalize w3.drewN nq = w4 at h4 O4 W4
                  clear c0 c1 c2 c3 c4 c5 cf h3 O3 W3 nq w3
                  obtain ⟨c0, c1, c2, c3, c4, c5, cf⟩ := h4.cell
                  go_wp2_with fail
                  go_quiet ((go_at_call 58; exact Calls.quiet_of_same (hsq _)))
                  have h5 := h4.drewN nq
                  have O5 : Hid (Onl bp w (w4.drewN nq)) := Onl.drewN O4.out nq
                  have W5 : Hid (OwnB w.heap.size 5 u3 acc (w4.drewN nq)) := W4.out
                  generalize w4.drewN nq = w5 at h5 O5 W5
                  clear c0 c1 c2 c3 c4 c5 cf h4 O4 W4 nq w4 hsq
                  obtain ⟨c0, c1, c2, c3, c4, c5, cf⟩ := h5.cell
                  have hfa := rfail0 bp s p vL at0 dp 2 p _ h5
                  go_wp2_with fail
                  refine hfa.mono ?_
                  rintro e w7 ⟨rfl, h7, o7⟩
                  have H7 : Hid (RD bp s p vL 2 p dp w7) := h7
                  have O7 : Hid (Onl bp w w7) := Onl.trans O5.out o7
                  clear h7 o7 hfa
                  go_wp2
                  go_ret
                  refine ⟨?_, O7.out⟩
                  have e1 := HE.out
                  rw [HF.out] at e1
                  rw [HR.out, e1]
                  refine ⟨⟨_, rfl⟩, p, ?_⟩
                  have : i + (k + 0 + 1) = p := by have := HP.out; omega
                  rw [this]; exact H7.out
                · have hF : strF (f + 1) (sfx s p) = shiftS ((sfx s p).take (seqLen (sfx s p))) (seqLen (sfx s p)) (strF f ((sfx s p).drop (seqLen (sfx s p)))) := by
                    have hz' := hz
                    rw [hcons] at hz' ⊢
                    rw [strF]; simp [hne34, h32, h92, hz']
                  have hl4 := seqLen_le4 (sfx s p)
                  have hll := seqLen_len (sfx s p)
                  rw [sfx_length] at hll
                  generalize seqLen (sfx s p) = n at hz hF hl4 hll hsq
                  have HF : Hid _ := hF
                  have HL : Hid ((sfx s p).length < f + 1) := hf
                  have HB : Hid (n ≠ 0 ∧ n ≤ 4 ∧ n ≤ s.size - p) := ⟨hz, hl4, hll⟩
                  have hn0 : ((n : Int) == 0) = false := by simp; omega
                  have hpn : (p : Int) + (n : Int) ≤ (s.size : Int) := by omega
                  have hpn2 : p + n ≤ s.size := by omega
                  clear hF hcons hne34 h32 h92 hf hk hz hl4 hll
                  go_wp2_with fail
                  refine hr1.mono ?_
                  rintro e w2 ⟨rfl, h2, o2⟩
                  have O2 : Hid (Onl bp w w2) := Onl.trans HO.out o2
                  have W2 : Hid (OwnB w.heap.size 5 u3 acc w2) := OwnB.onl bp HW.out o2 hlt
                  clear o2 hr1 c0 c1 c2 c3 c4 c5 cf hrd HO HW
                  obtain ⟨c0, c1, c2, c3, c4, c5, cf⟩ := h2.cell
                  go_wp2_with fail
                  go_quiet (fail)
                  have h3 := h2.drewN nq
                  have O3 : Hid (Onl bp w (w2.drewN nq)) := Onl.drewN O2.out nq
                  have W3 : Hid (OwnB w.heap.size 5 u3 acc (w2.drewN nq)) := W2.out
                  generalize w2.drewN nq = w3 at h3 O3 W3
                  clear c0 c1 c2 c3 c4 c5 cf h2 O2 W2 nq w2
                  obtain ⟨c0, c1, c2, c3, c4, c5, cf⟩ := h3.cell
                  go_wp2_with fail
                  go_quiet (fail)
                  have h4 := h3.drewN nq
                  have O4 : Hid (Onl bp w (w3.drewN nq)) := Onl.drewN O3.out nq
                  have W4 : Hid (OwnB w.heap.size 5 u3 acc (w3.drewN nq)) := W3.out
                  generalize w3.drewN nq = w4 at h4 O4 W4
                  clear c0 c1 c2 c3 c4 c5 cf h3 O3 W3 nq w3
                  obtain ⟨c0, c1, c2, c3, c4, c5, cf⟩ := h4.cell
                  go_wp2_with fail
                  go_quiet ((go_at_call 58; exact Calls.quiet_of_same (hsq _)))
                  have h5 := h4.drewN nq
                  have O5 : Hid (Onl bp w (w4.drewN nq)) := Onl.drewN O4.out nq
                  have W5 : Hid (OwnB w.heap.size 5 u3 acc (w4.drewN nq)) := W4.out
                  generalize w4.drewN nq = w5 at h5 O5 W5
                  clear c0 c1 c2 c3 c4 c5 cf h4 O4 W4 nq w4 hsq
                  obtain ⟨c0, c1, c2, c3, c4, c5, cf⟩ := h5.cell
                  have f1 := cf 1
                  have hz5 := O5.out.size
                  clear hge32 h92b hp2
                  go_wp2_with fail
                  have HC : Hid (w5.cell? ⟨bp, 0, none⟩ = some (.string s) ∧ w5.cell? ⟨bp, 1, none⟩ = some (.int .i64 (p : Int))) := ⟨c0, c1⟩
                  have H5 : Hid (RD bp s p vL 0 at0 dp w5) := h5
                  have HZ5 : Hid (w.heap.size ≤ w5.heap.size) := hz5
                  clear h5 hz5
                  obtain ⟨q, hq⟩ : ∃ q : Nat, p + n = q := ⟨_, rfl⟩
                  have hq1 : IntKind.i64.wrap ((p : Int) + (n : Int)) = (q : Int) := by rw [i64w _ (by omega)]; omega
                  have hq2 : (p : Int) ≤ (q : Int) := by omega
                  have hq3 : (q : Int) ≤ (s.size : Int) := by omega
                  have HQ : Hid (p + n = q) := hq
                  clear hq hpn hpn2
                  go_region_held3 (fun w' => w'.cell? ⟨bp, 0, none⟩ = some (.string s) ∧ w'.cell? ⟨bp, 1, none⟩ = some (.int .i64 (p : Int))) (go_keep) (first | (refine stepS rfl (.tmp 78) (.tmp 93) 38 9 rfl 5 i0 Tryz.underlying38 Tryz.underlying9 HI.out hz0 hz1 hz2 w.heap.size _ acc (s.extract p q) rfl rfl (by have := HA.out; have := HB.out; have := HQ.out; simp; omega) W5.out HZ5.out ?_; intro v6 w6 ho6 hb6; have s0 := (hb6.cell (p := ⟨bp, 0, none⟩) hlt).trans HC.out.1; have s1 := (hb6.cell (p := ⟨bp, 1, none⟩) hlt).trans HC.out.2; have W6 : Hid _ := ho6; have HB6 : Hid _ := hb6; clear ho6 hb6))
                  have h7 := RD.belowB bp s vL w (wr := w5.drew) H5.out hlt HB6.out
                  have O6 : Hid (Onl bp w w6) := onl_belowB bp w (wr := w5.drew) (Onl.drewN O5.out 1) HB6.out
                  clear s0 s1 c0 c1 c2 c3 c4 c5 cf f1 HC O5 W5 HZ5
                  obtain ⟨c0, c1, c2, c3, c4, c5, cf⟩ := h7.cell
                  have f1 := cf 1
                  have hq4 : (p : Int) + (n : Int) = (q : Int) := by have := HQ.out; omega
                  clear hq1
                  go_wp2_with fail
                  have h8 := h7.setI q
                  have o8 : Onl bp w6 (w6.setCell ⟨bp, 1, none⟩ (.int .i64 (q : Int))) := Onl.setCell (onl_refl bp w6) _ h7
                  have hqp := HQ.out
                  obtain ⟨hb1, hb2, hb3⟩ := HB.out
                  refine ⟨⟨Onl.trans O6.out o8, .inl ⟨k + n, f, acc ++ (sfx s p).take n, ?_, ?_, ?_, ?_, ?_, ?_⟩⟩, ?_⟩
                  · rw [show i + 1 + (k + n) = p + n by have := HP.out; omega]; have := HL.out; rw [sfx_length] at this ⊢; omega
                  · have := HP.out; omega
                  · rw [List.length_append, List.length_take]; omega
                  · rw [HE.out, HF.out, shiftS_shiftS, sfx_drop, show i + 1 + (k + n) = p + n by have := HP.out; omega]
                  · have hx := OwnB.onl bp W6.out o8 hlt
                    rw [extract_list, show q - p = n by omega] at hx
                    exact hx
                  · rw [show i + 1 + (k + n) = q by have := HP.out; omega]; exact h8
                  · rw [QM_ok bp s vL h8, HM.out]; omega
          · have hF : strF (f + 1) (sfx s p) = .error 0 := by rw [sfx_nil s p (by omega)]; rfl
            have HF : Hid _ := hF
            have hp2 : (s.size : Int) ≤ (p : Int) := by omega
            have hp3 : s.size ≤ p := by omega
            clear hF hf hk hps h34
            go_wp2_with fail
            refine hr1.mono ?_
            rintro e w2 ⟨rfl, h2, o2⟩
            have O2 : Hid (Onl bp w w2) := Onl.trans HO.out o2
            have W2 : Hid (OwnB w.heap.size 5 u3 acc w2) := OwnB.onl bp HW.out o2 hlt
            clear o2 hr1 c0 c1 c2 c3 c4 c5 cf hrd HO HW
            obtain ⟨c0, c1, c2, c3, c4, c5, cf⟩ := h2.cell
            go_wp2_with fail
            go_quiet (fail)
            have h3 := h2.drewN nq
            have O3 : Hid (Onl bp w (w2.drewN nq)) := Onl.drewN O2.out nq
            have W3 : Hid (OwnB w.heap.size 5 u3 acc (w2.drewN nq)) := W2.out
            generalize w2.drewN nq = w3 at h3 O3 W3
            clear c0 c1 c2 c3 c4 c5 cf h2 O2 W2 nq w2
            obtain ⟨c0, c1, c2, c3, c4, c5, cf⟩ := h3.cell
            have hfa := rfail0 bp s p vL at0 dp 2 p _ h3
            go_wp2_with fail
            refine hfa.mono ?_
            rintro e w7 ⟨rfl, h7, o7⟩
            have H7 : Hid (RD bp s p vL 2 p dp w7) := h7
            have O7 : Hid (Onl bp w w7) := Onl.trans O3.out o7
            clear h7 o7 hfa
            go_wp2
            go_ret
            refine ⟨?_, O7.out⟩
            have e1 := HE.out
            rw [HF.out] at e1
            rw [HR.out, e1]
            refine ⟨⟨_, rfl⟩, p, ?_⟩
            have : i + (k + 0 + 1) = p := by have := HP.out; omega
            rw [this]; exact H7.out
      · have HE : Hid (strL (sfx s (i + 1)) = .error o) := he
        obtain ⟨c0, c1, c2, c3, c4, c5, cf⟩ := hrd.cell
        have hmu : Calls Tryz.prog 56 #[.pointer (some ⟨bp, 0, none⟩), .int .u8 34] wr fun r w'' => r = .returned (.tuple #[]) ∧ ∃ n, w'' = wr.drewN n := rmust_er bp s j vL 2 (i + 1 + o) dp 34 wr hrd (by omega)
        clear he
        go_wp2_with fail
        refine hmu.mono ?_
        rintro e w3 ⟨rfl, n, hw3⟩
        rw [hw3]; clear hw3 w3
        have hs3 := OwnB.str (P := Tryz.prog) (t := 38) (d := 9) (w := wr.drewN n) Tryz.underlying38 Tryz.underlying5 Tryz.underlying9 (show OwnB w.heap.size 5 u3 acc (wr.drewN n) from hown)
        go_wp2
        go_ret
        refine ⟨?_, Onl.drewN HO.out n⟩
        rw [HR.out, HE.out]
        refine ⟨⟨_, rfl⟩, j, ?_⟩
        rw [show i + (o + 1) = i + 1 + o by omega]; exact hrd
  · have hR : quotL (sfx s i) = .error 0 := by
      match hsx : sfx s i with
      | [] => rfl
      | c :: r => rw [hsx] at hq; rw [quotL, if_neg (by simpa using hq)]
    rw [hR]
    have hm : Calls Tryz.prog 56 #[.pointer (some ⟨bp, 0, none⟩), .int .u8 34] w fun r w' => r = .returned (.tuple #[]) ∧ RD bp s i vL 2 i dp w' ∧ Onl bp w w' := rmust_no bp s i vL at0 dp 34 w h hq
    clear hq hR
    go_enter Tryz.func33, Tryz.ntmps33
    go_wp2_with fail
    refine hm.mono ?_
    rintro e w1 ⟨rfl, h1, o1⟩
    have O1 : Hid (Onl bp w w1) := o1
    clear o1 hm
    obtain ⟨c0, c1, c2, c3, c4, c5, cf⟩ := h1.cell
    have hmu : Calls Tryz.prog 56 #[.pointer (some ⟨bp, 0, none⟩), .int .u8 34] w1 fun r w'' => r = .returned (.tuple #[]) ∧ ∃ n, w'' = w1.drewN n := rmust_er bp s i vL 2 i dp 34 w1 h1 (by omega)
    go_wp2_with fail
    refine wp_loop_once ?_
    go_wp2_with fail
    refine hmu.mono ?_
    rintro e w3 ⟨rfl, n, hw3⟩
    rw [hw3]; clear hw3 w3
    have hs3 := OwnB.str (P := Tryz.prog) (B := 0) (t := 38) (d := 9) (w := w1.drewN n) Tryz.underlying38 Tryz.underlying5 Tryz.underlying9 (v := .slice none 0 0) (l := []) (.inl ⟨rfl, rfl⟩)
    go_wp2
    go_ret
    exact ⟨⟨⟨_, rfl⟩, i, h1⟩, Onl.drewN O1.out n⟩
end
end Go.Proofs.YtgiaflcbiipafabGreatDoor
