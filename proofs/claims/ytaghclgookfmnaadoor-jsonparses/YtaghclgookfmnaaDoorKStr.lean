/-
  Joined by program: CBuf, CStr.
-/
import Derived.Test.YtaghclgookfmnaaDoorKChr
/-
  Bytes of the call's own, which nothing holds fast.
-/
namespace Go.Proofs.YtaghclgookfmnaaDoor
open Go.RowKit
set_option linter.unusedVariables false

def OwnZ (B : Nat) (e : TypeId) (v : Value) (l : List UInt8) (w : World) : Prop :=
  (v = .slice none 0 0 ∧ l = []) ∨
  ∃ g cap cur, v = .slice (some ⟨g, 0, none⟩) l.length cap ∧ B ≤ g ∧ w.heap[g]? = some (.cells cur e (0, 0)) ∧ l.length ≤ cap ∧ cap ≤ maxLen ∧ cur.size = cap ∧
    cur.toList.take l.length = l.map byteV
theorem OwnZ.b {B : Nat} {e : TypeId} {v : Value} {l : List UInt8} {w : World} (h : OwnZ B e v l w) : OwnB B e v l w := by
  rcases h with h | ⟨g, cap, cur, a1, a2, a3, a4, a5, a6, a7⟩
  · exact .inl h
  · exact .inr ⟨g, cap, cur, (0, 0), a1, a2, a3, .inl (Nat.zero_le _), a4, a5, a6, a7⟩
theorem OwnZ.row {B : Nat} {e : TypeId} {v : Value} {l : List UInt8} {w : World} (h : OwnZ B e v l w) : w.ownsRow B e 1 v l.length (l.map byteV) := by
  refine ⟨by simp, ?_⟩
  rcases h with ⟨a, b⟩ | ⟨g, cap, cur, a1, a2, a3, a4, a5, a6, a7⟩
  · exact .inl ⟨a, by rw [b]; rfl⟩
  · exact .inr ⟨g, cap, cur, a1, a2, a3, a4, a5, by omega, by rw [Nat.mul_one]; exact a7⟩
theorem OwnZ.of {B : Nat} {e : TypeId} {v : Value} {l : List UInt8} {w : World} {n : Nat} (hn : n = l.length) (h : w.ownsRow B e 1 v n (l.map byteV)) : OwnZ B e v l w := by
  subst hn
  rcases h.2 with ⟨a, b⟩ | ⟨g, cap, cur, a1, a2, a3, a4, a5, a6, a7⟩
  · exact .inl ⟨a, List.length_eq_zero_iff.1 b⟩
  · exact .inr ⟨g, cap, cur, a1, a2, a3, a4, a5, by omega, by rw [Nat.mul_one] at a7; exact a7⟩
theorem OwnZ.onl {bp B : Nat} {e : TypeId} {v : Value} {l : List UInt8} {wa wb : World} (h : OwnZ B e v l wa) (ho : Onl bp wa wb) (hlt : bp < B) : OwnZ B e v l wb := by
  rcases h with h | ⟨g, cap, cur, hv, hB, hg, rest⟩
  · exact .inl h
  · refine .inr ⟨g, cap, cur, hv, hB, ?_, rest⟩
    have := (Array.getElem?_eq_some_iff.1 hg).1
    rw [ho.block _ this (fun e => by injection e with e; omega)]; exact hg

theorem appZ {P : Program} (w : World) (t u ty e : TypeId) (i : TypeInfo) (ht : P.underlying t = some (.slice e)) (hu : P.underlying u = some .string) (hi : P.info? e = some i) (hz : i.zero = some (.int .u8 0)) (hsize : i.size = 1) (hby : i.bytes = 1)
    (B : Nat) (v : Value) (l : List UInt8) (s : ByteArray) (hown : OwnZ B e v l w) (hB : B ≤ w.heap.size) (hlen : l.length + s.size ≤ 140737488355328) :
    ∃ v' w', (Builtin.append_ #[t, u] ty #[v, .string s]).run P w = .ok v' w' ∧ OwnZ B e v' (l ++ s.data.toList) w' ∧ Below B w w' := by
  have hsrc : Src P i.size u (.string s) s.size (byteCells s) w := by rw [hsize]; exact Src.ofString w hu s
  have h63 : l.length + s.size ≤ maxLen := by unfold maxLen; omega
  have hsl : s.data.toList.length = s.size := by simp
  by_cases hs0 : s.size = 0
  · have hsd : s.data.toList = [] := List.length_eq_zero_iff.1 (by omega)
    rw [hsd, List.append_nil]
    rcases hown with ⟨rfl, rfl⟩ | ⟨g, cap, cur, rfl, hBg, hg, hlc, hcm, hcs, htk⟩
    · refine ⟨.slice none 0 0, w, ?_, .inl ⟨rfl, rfl⟩, Below.refl _ _⟩
      simp [Builtin.append_, run_underlying ht, run_underlying hu, sizeOf, typeInfo, hi, Builtin.lenOf, Builtin.firstCells, hs0]
    · have hr := run_append_room_src (P := P) w t u ty e i ht hi g 0 l.length cap (.string s) s.size (byteCells s) hsrc (by omega) (by intro j hj; rw [byteCells_length] at hj; omega) (by intro j hj; rw [byteCells_length] at hj; omega)
      have hbc : byteCells s = [] := by rw [byteCells_eq, hsd]; rfl
      rw [hbc] at hr
      refine ⟨_, _, hr, .inr ⟨g, cap, cur, by rw [hs0]; rfl, hBg, hg, hlc, hcm, hcs, htk⟩, Below.refl _ _⟩
  · rcases hown with ⟨rfl, rfl⟩ | ⟨g, cap, cur, rfl, hBg, hg, hlc, hcm, hcs, htk⟩
    · have hr := run_append_grow_src (P := P) w t u ty e i (.int .u8 0) ht hi hz none 0 0 [] (by simp [Builtin.firstCells]) (.string s) s.size (byteCells s) hsrc (by omega) (by simp at hlen ⊢; omega) (by rw [hby]; exact growslice_fits (by omega) (by simp at hlen ⊢; omega))
      rw [Nat.zero_add] at hr
      have hge := grownCap_ge w s.size 0 e
      have hm := grownCap_le_maxLen w s.size 0 e (by simpa using h63)
      generalize grownCap w s.size 0 e = c at hr hge hm
      refine ⟨_, _, hr, ?_, ((Below.refl B w).drew).alloc (by show B ≤ w.heap.size; omega) _⟩
      refine .inr ⟨w.heap.size, c, _, by simp, hB, heap_alloc_new w.drew _, by simp; omega, hm, ?_, ?_⟩
      · have hz1 : (Value.int IntKind.u8 0).cells.size = 1 := rfl
        simp only [Array.size_append, List.size_toArray, size_zeroCells, hz1, List.length_append, byteCells_length, List.length_nil]
        omega
      · rw [byteCells_eq]
        simp only [Array.toList_append, List.nil_append]
        rw [List.take_left' (by simp)]
    · by_cases hroom : l.length + s.size ≤ cap
      · have hcc : ∀ j, j < (byteCells s).length → (w.cell? ⟨g, 0 + l.length * i.size + j, none⟩).isSome = true := by
          intro j hj; rw [byteCells_length] at hj
          rw [hsize, cell_of_row w g _ cur e (0, 0) hg]
          simp; omega
        have hff : ∀ j, j < (byteCells s).length → w.frozen? ⟨g, 0 + l.length * i.size + j, none⟩ = false := by
          intro j hj; rw [byteCells_length] at hj
          simp [World.frozen?, hg]
        have hr := run_append_room_src (P := P) w t u ty e i ht hi g 0 l.length cap (.string s) s.size (byteCells s) hsrc hroom hcc hff
        obtain ⟨cur', a1, a2, a3, a4⟩ := setCells_row (byteCells s) (0 + l.length * i.size) w cur hg (by rw [byteCells_length, hsize]; omega)
        refine ⟨_, _, hr, .inr ⟨g, cap, cur', by simp, hBg, a1, by simp; omega, hcm, by omega, ?_⟩, a4 B hBg⟩
        · rw [a3, hsize, Nat.zero_add, Nat.mul_one, htk, byteCells_eq]
          rw [List.take_left' (by simp)]
          simp
      · have holds := OwnB.cells (B := B) (cap := cap) hg htk
        have hold : (Builtin.firstCells i.size l.length (.slice (some ⟨g, 0, none⟩) l.length cap)).run P w.drew = .ok (l.map byteV).toArray w.drew := by
          rw [hsize]
          exact run_firstCells_some (P := P) w.drew 1 l.length ⟨g, 0, none⟩ l.length cap (l.map byteV) (by simp) (by simpa using holds)
        have hr := run_append_grow_src (P := P) w t u ty e i (.int .u8 0) ht hi hz (some ⟨g, 0, none⟩) l.length cap (l.map byteV) hold (.string s) s.size (byteCells s) hsrc (by omega) (by unfold maxLen at h63; omega) (by rw [hby]; exact growslice_fits (by omega) (by omega))
        have hge := grownCap_ge w (l.length + s.size) cap e
        have hm := grownCap_le_maxLen w (l.length + s.size) cap e h63
        generalize grownCap w (l.length + s.size) cap e = c at hr hge hm
        refine ⟨_, _, hr, ?_, ((Below.refl B w).drew).alloc (by show B ≤ w.heap.size; omega) _⟩
        refine .inr ⟨w.heap.size, c, _, by simp, hB, heap_alloc_new w.drew _, by simp; omega, hm, ?_, ?_⟩
        · have hz1 : (Value.int IntKind.u8 0).cells.size = 1 := rfl
          simp only [Array.size_append, List.size_toArray, size_zeroCells, hz1, List.length_append, byteCells_length, List.length_map]
          omega
        · rw [byteCells_eq]
          simp only [Array.toList_append]
          rw [← List.map_append, List.take_left' (by simp)]

/-- The operation, for the walk. -/
theorem wp_appZ {P : Program} {ops : Array Oper} {rest : List Oper} {o : Oper} {a : Act} {Q : Exit → Act → World → Prop} {w : World} (hgd : o.guard = none) (x y : Operand) (t u : TypeId)
    (ho : o.op = .call { callee := .builtin .append, args := #[x, y], argTypes := #[t, u] })
    (e : TypeId) (i : TypeInfo) (ht : P.underlying t = some (.slice e)) (hu : P.underlying u = some .string) (hi : P.info? e = some i) (hz : i.zero = some (.int .u8 0)) (hsize : i.size = 1) (hby : i.bytes = 1)
    (B : Nat) (v : Value) (l : List UInt8) (s : ByteArray) (hx : a.eval x = v) (hy : a.eval y = .string s) (hlen : l.length + s.size ≤ 140737488355328) (hown : OwnZ B e v l w) (hB : B ≤ w.heap.size)
    (h : ∀ v' w', OwnZ B e v' (l ++ s.data.toList) w' → Below B w w' → wpList P ops Q rest (a.put o.dst v') w') : wpList P ops Q (o :: rest) a w := by
  refine wpList_plain hgd fun K hK => ?_
  obtain ⟨v', w', hr, h2, h3⟩ := appZ (P := P) w t u o.type e i ht hu hi hz hsize hby B v l s hown hB hlen
  unfold Oper.wp execOp
  simp only [ho, resolve, invoke, builtin, Sem.run_bind, Sem.run_pure, Result.andThen_ok, List.map_toArray, List.map_cons, List.map_nil, hx, hy, hr]
  exact hK _ _ (h v' w' h2 h3)

theorem runeCells_wr8 (q : Nat) (h : (q < 55296 ∨ 57343 < q) ∧ q ≤ 1114111) : Lib.runeCells (q : Int) = (wr8 q).map byteV := by
  have hb : ∀ n : Nat, n < 256 → byteV (UInt8.ofNat n) = Value.int .u8 (n : Int) := by
    intro n hn; unfold byteV; rw [UInt8.toNat_ofNat_of_lt' (by simpa [UInt8.size] using hn)]
  unfold Lib.runeCells wr8
  split
  · rw [Lib.encodeRuneZ_one (by omega) (by omega)]; simp [hb q (by omega)]
  · split
    · rw [Lib.encodeRuneZ_two (by omega) (by omega)]; simp only [List.map_cons, List.map_nil]; rw [hb _ (by omega), hb _ (by omega)]; simp
    · split
      · rw [Lib.encodeRuneZ_three (by omega)]; simp only [List.map_cons, List.map_nil]; rw [hb _ (by omega), hb _ (by omega), hb _ (by omega)]; simp
      · rw [Lib.encodeRuneZ_four (by omega) (by omega)]; simp only [List.map_cons, List.map_nil]; rw [hb _ (by omega), hb _ (by omega), hb _ (by omega), hb _ (by omega)]; simp

theorem cappR (B : Nat) (v : Value) (l : List UInt8) (q : Nat) (hq : (q < 55296 ∨ 57343 < q) ∧ q ≤ 1114111) (w : World) (hown : OwnZ B 5 v l w) (hlen : l.length + 4 ≤ 140737488355328) (hB : B ≤ w.heap.size) :
    Calls Tryd.prog 53 #[v, .int .i32 (q : Int)] w fun e w' => ∃ v', e = .returned v' ∧ OwnZ B 5 v' (l ++ wr8 q) w' ∧ Below B w w' := by
  have hnb : ∀ k, k < B → some k ≠ v.ownBlock := by
    intro k hk e
    rcases hown with ⟨a, b⟩ | ⟨g, cap, cur, a1, a2, _⟩
    · rw [a] at e; cases e
    · rw [a1] at e; injection e with e; dsimp only at e; omega
  refine (Tryd.utf8_AppendRune_plain B v l.length (l.map byteV) (q : Int) (by omega) (by omega) w hown.row hlen hB).mono ?_
  rintro e w' ⟨v', rfl, h1, o, h2⟩
  refine ⟨v', rfl, ?_, ?_⟩
  · rw [runeCells_wr8 q hq, ← List.map_append] at h1
    exact OwnZ.of (by simp) h1
  · have hz := h2.size
    refine ⟨h2.os, h2.tape, h2.output, by simp at hz; omega, fun k hk => ?_⟩
    rw [h2.block k (by simp; omega) (hnb k hk), heap_alloc_old _ _ (by omega)]
end Go.Proofs.YtaghclgookfmnaaDoor
/-
  The code's reader: a string.
-/
namespace Go.Proofs.YtaghclgookfmnaaDoor
open Go.RowKit
set_option linter.unusedVariables false

theorem lowL_len {s : ByteArray} {j m : Nat} (h : lowL (sfx s j) = some m) : j + 6 ≤ s.size := by
  by_cases h1 : (sfx s j).head? = some 92
  · by_cases h2 : (sfx s (j + 1)).head? = some 117
    · rw [lowL_yes h1 h2] at h
      cases hq : four4 (sfx s (j + 2)) with
      | mk q o =>
        rw [hq] at h
        cases q with
        | none => cases h
        | some n => have := four_len hq; omega
    · rw [lowL_no2 h2] at h; cases h
  · rw [lowL_no1 h1] at h; cases h
theorem escR_ok {s : ByteArray} {p q k : Nat} (h : escR (sfx s p) = .ok (q, k)) : p + k ≤ s.size ∧ 2 ≤ k ∧ k ≤ 12 ∧ (q < 55296 ∨ 57343 < q) ∧ q ≤ 1114111 := by
  by_cases h1 : p + 1 < s.size
  · rw [sfx_two h1, escR_cons] at h
    by_cases hc : s[p + 1] = 117
    · rw [if_pos hc] at h
      cases hq : four4 (sfx s (p + 2)) with
      | mk x o =>
        rw [hq] at h
        cases x with
        | none => cases h
        | some n =>
          have hl := four_len hq
          have hn := four4_n hq
          simp only at h
          rw [sfx_drop] at h
          cases hr : runeC n (sfx s (p + 2 + 4)) with
          | none => rw [hr] at h; cases h
          | some y =>
            obtain ⟨a, b⟩ := y
            rw [hr] at h
            injection h with h; injection h with h1 h2
            subst h1; subst h2
            unfold runeC at hr
            split at hr
            · injection hr with hr; injection hr with h1 h2; subst h1; subst h2; omega
            · split at hr
              · cases hr
              · next m hm =>
                have hm2 := lowL_len hm
                have hm3 := lowL_n hm
                split at hr
                · cases hr
                · injection hr with hr; injection hr with h1 h2; subst h1; subst h2; omega
    · rw [if_neg hc] at h
      cases he : esc1 s[p + 1] with
      | none => rw [he] at h; cases h
      | some b =>
        rw [he] at h
        have := esc1_lt he
        injection h with h; injection h with h1 h2
        subst h1; subst h2; omega
  · by_cases h0 : p < s.size
    · rw [sfx_cons s p h0, sfx_nil s (p + 1) (by omega)] at h; cases h
    · rw [sfx_nil s p (by omega)] at h; cases h

section
variable (bp : Nat) (s : ByteArray) (i : Nat) (vL : Value) (dp : Nat) (w : World)
/-- What readString answers. -/
def CQ (R : Except Nat (List UInt8 × Nat)) (r : Ending) (w' : World) : Prop :=
  match R with
  | .ok (t, n) => r = .returned (.string ⟨t.toArray⟩) ∧ CD bp s (i + n) vL dp w'
  | .error o => r = .panicked (flt 2 (i + o)) ∧ ∃ j, CD bp s j vL dp w'

theorem CD.belowB {j : Nat} {w' wr : World} (h : CD bp s j vL dp wr) (hlt : bp < w.heap.size) (hb : Below w.heap.size wr w') : CD bp s j vL dp w' := by
  unfold CD; rw [hb.block _ hlt]; exact h

set_option maxRecDepth 4000 in
set_option maxHeartbeats 1000000 in
theorem cquot (hs : s.size ≤ 140737488340000) (hbp : 8 ≤ bp) (h : CD bp s i vL dp w) (hG : GV w) (hi : i ≤ s.size) :
    Calls Tryd.prog 44 #[.pointer (some ⟨bp, 0, none⟩)] w fun r w' => CQ bp s i vL dp (quotL (sfx s i)) r w' ∧ Onl bp w w' := by
  have hlt := h.lt
  obtain ⟨i0, hi0, hz0, hz1, hz2⟩ := info_parts u8infoJ
  have HI : Hid _ := hi0
  clear hi0
  by_cases hq : (sfx s i).head? = some 34
  · have hi := head_lt hq
    have hsi : s[i] = 34 := by rw [sfx_cons s i hi] at hq; simpa using hq
    have hR : quotL (sfx s i) = (match strL (sfx s (i + 1)) with | .ok (t, n) => .ok (t, n + 1) | .error o => .error (o + 1)) := by
      rw [sfx_cons s i hi, quotL, if_pos hsi]; rfl
    have HR : Hid _ := hR
    clear hR
    have hm := cneed_yes bp s i vL dp 34 w (by omega) h hq
    rw [show ((34 : UInt8).toNat : Int) = 34 from rfl] at hm
    clear hq hsi
    go_enter Tryd.func44, Tryd.ntmps44
    go_wp2_with fail
    refine hm.mono ?_
    rintro e w1 ⟨rfl, h1, o1⟩
    have H1 : Hid (CD bp s (i + 1) vL dp w1) := h1
    have O1 : Hid (Onl bp w w1) := o1
    clear h1 o1 hm
    go_wp2_with fail
    go_loopw [3] (fun v wr => ∃ k f acc, (sfx s (i + 1 + k)).length < f ∧ i + 1 + k ≤ s.size ∧ acc.length ≤ k ∧ strL (sfx s (i + 1)) = shiftS acc k (strF f (sfx s (i + 1 + k))) ∧ OwnZ w.heap.size 5 v acc wr ∧ CD bp s (i + 1 + k) vL dp wr ∧ Onl bp w wr) (fun _ wr => s.size + 1 - posOf (wr.cell? ⟨bp, 1, none⟩))
    case atStart =>
      refine ⟨0, (sfx s (i + 1)).length + 1, [], by simp, by omega, by simp, ?_, .inl ⟨rfl, rfl⟩, H1.out, O1.out⟩
      show strL (sfx s (i + 1)) = shiftS [] 0 (strF ((sfx s (i + 1)).length + 1) (sfx s (i + 1)))
      unfold strL
      cases strF ((sfx s (i + 1)).length + 1) (sfx s (i + 1)) with
      | ok p => obtain ⟨a, b⟩ := p; simp [shiftS]
      | error o => simp [shiftS]
    case round =>
      clear H1 O1
      obtain ⟨k, f, acc, hf, hk, hal, he, hown, hrd, ho⟩ := hrel
      have HO : Hid (Onl bp w wr) := ho
      have hGr : GV wr := hG.onl ho hbp hlt
      clear ho
      generalize hp : i + 1 + k = p at hf hk he hrd
      have HP : Hid (i + 1 + k = p) := hp
      have HE : Hid (strL (sfx s (i + 1)) = shiftS acc k (strF f (sfx s p))) := he
      have HW : Hid (OwnZ w.heap.size 5 u3 acc wr) := hown
      have HM : Hid (posOf (wr.cell? ⟨bp, 1, none⟩) = p) := cpos_rd hrd
      obtain ⟨f, rfl⟩ : ∃ g, f = g + 1 := ⟨f - 1, by omega⟩
      have hacc : acc.length ≤ 140737488340020 := by omega
      have HA : Hid (acc.length ≤ 140737488340020) := hacc
      clear hp he hown hacc
      by_cases h34 : (sfx s p).head? = some 34
      · have ht := ctake_yes bp s p vL dp 34 wr (by omega) hrd h34
        rw [show ((34 : UInt8).toNat : Int) = 34 from rfl] at ht
        have hF : strF (f + 1) (sfx s p) = .ok ([], 1) := by
          have hps := head_lt h34
          rw [sfx_cons s p hps] at h34 ⊢
          have h34 : s[p] = 34 := by simpa using h34
          rw [strF]; simp [h34]
        have HF : Hid _ := hF
        clear h34 hF hf hk
        go_wp2_with fail
        refine ht.mono ?_
        rintro e w3 ⟨rfl, h3, o3⟩
        have H3 : Hid (CD bp s (p + 1) vL dp w3) := h3
        have O3 : Hid (Onl bp w w3) := Onl.trans HO.out o3
        have hs3 := (HW.out.onl o3 hlt).b.str (P := Tryd.prog) (t := 64) (d := 9) Tryd.underlying64 Tryd.underlying5 Tryd.underlying9
        clear h3 o3 ht HO HW
        go_wp2
        go_ret
        refine ⟨?_, O3.out⟩
        have e1 := HE.out
        rw [HF.out] at e1
        have e2 : shiftS acc k (.ok ([], 1)) = .ok (acc, k + 1) := by simp [shiftS]
        rw [HR.out, e1, e2]
        refine ⟨rfl, ?_⟩
        have : i + (k + 1 + 1) = p + 1 := by have := HP.out; omega
        rw [this]; exact H3.out
      · have ht := ctake_no bp s p vL dp 34 wr hrd hk (by decide) h34
        rw [show ((34 : UInt8).toNat : Int) = 34 from rfl] at ht
        have hpk := fun w' h' => cpeek bp s p vL dp w' h' hk
        by_cases h92 : (sfx s p).head? = some 92
        · have hps := head_lt h92
          have hs92 : s[p] = 92 := by rw [sfx_cons s p hps] at h92; simpa using h92
          have hb92 : (((pk (sfx s p)).toNat : Int) == 92) = true := by rw [pk_head h92]; rfl
          have hes := fun w' h' => cesc bp s p vL dp w' (by omega) h' h92
          have hFF : strF (f + 1) (sfx s p) = (match escL (sfx s p) with | .error o => .error o | .ok (t, n) => shiftS t n (strF f ((sfx s p).drop n))) := by
            rw [sfx_cons s p hps, strF]; simp [hs92]; rfl
          rw [escL_R] at hFF
          cases hE2 : escR (sfx s p) with
          | error o =>
            rw [hE2] at hFF hes
            have HF : Hid (strF (f + 1) (sfx s p) = .error o) := hFF
            clear hFF hE2 hs92 h34 h92 hf hk
            go_wp2_with fail
            refine ht.mono ?_
            rintro e w2 ⟨rfl, h2, o2⟩
            have O2 : Hid (Onl bp w w2) := Onl.trans HO.out o2
            clear o2 ht HO
            go_wp2_with fail
            refine (hpk w2 h2).mono ?_
            rintro e w3 ⟨rfl, h3, o3⟩
            have O3 : Hid (Onl bp w w3) := Onl.trans O2.out o3
            clear o3 hpk O2
            go_wp2_with fail
            refine (hes w3 h3).mono ?_
            rintro e w4 ⟨⟨rfl, j, h4⟩, o4⟩
            have O4 : Hid (Onl bp w w4) := Onl.trans O3.out o4
            clear o4 hes O3
            go_wp2
            refine ⟨rfl, ?_, O4.out⟩
            have e1 := HE.out
            rw [HF.out] at e1
            rw [HR.out, e1]
            refine ⟨?_, j, h4⟩
            rw [show i + (k + o + 1) = p + o by have := HP.out; omega]
          | ok q =>
            obtain ⟨q, n⟩ := q
            obtain ⟨hb1, hb2, hb3, hb4⟩ := escR_ok hE2
            rw [hE2] at hFF hes
            have HF : Hid (strF (f + 1) (sfx s p) = shiftS (wr8 q) n (strF f ((sfx s p).drop n))) := hFF
            have HL : Hid ((sfx s p).length < f + 1) := hf
            have HB : Hid (p + n ≤ s.size ∧ 2 ≤ n ∧ n ≤ 12) := ⟨hb1, hb2, hb3⟩
            have HB2 : Hid ((wr8 q).length ≤ n) := by
              have e := escL_R (sfx s p); rw [hE2] at e
              exact (escL_ok e).1
            have HQ : Hid ((q < 55296 ∨ 57343 < q) ∧ q ≤ 1114111) := hb4
            clear hFF hE2 hs92 h34 h92 hf hk hb1 hb2 hb3 hb4
            go_wp2_with fail
            refine ht.mono ?_
            rintro e w2 ⟨rfl, h2, o2⟩
            have O2 : Hid (Onl bp w w2) := Onl.trans HO.out o2
            have W2 : Hid (OwnZ w.heap.size 5 u3 acc w2) := HW.out.onl o2 hlt
            clear o2 ht HO HW
            go_wp2_with fail
            refine (hpk w2 h2).mono ?_
            rintro e w3 ⟨rfl, h3, o3⟩
            have O3 : Hid (Onl bp w w3) := Onl.trans O2.out o3
            have W3 : Hid (OwnZ w.heap.size 5 u3 acc w3) := W2.out.onl o3 hlt
            clear o3 hpk O2 W2
            go_wp2_with fail
            refine (hes w3 h3).mono ?_
            rintro e w4 ⟨⟨rfl, h4⟩, o4⟩
            have O4 : Hid (Onl bp w w4) := Onl.trans O3.out o4
            have W4 : Hid (OwnZ w.heap.size 5 u3 acc w4) := W3.out.onl o4 hlt
            have hz4 := O4.out.size
            clear o4 hes O3 W3
            have hap := cappR w.heap.size u3 acc q HQ.out w4 W4.out (by have := HA.out; omega) hz4
            go_wp2_with fail
            refine hap.mono ?_
            rintro e w5 ⟨v5, rfl, h5, b5⟩
            have W5 : Hid _ := h5
            have H5 : Hid (CD bp s (p + n) vL dp w5) := CD.belowB bp s vL dp w h4 hlt b5
            have O5 : Hid (Onl bp w w5) := onl_belowB bp w O4.out b5
            clear h5 b5 hap h4
            go_wp2
            refine ⟨⟨k + n, f, acc ++ wr8 q, ?_, ?_, ?_, ?_, W5.out, ?_, O5.out⟩, ?_⟩
            · have := HL.out; have := HB.out; have := HP.out; rw [sfx_length] at *; omega
            · have := HB.out; have := HP.out; omega
            · have := HB2.out; simp; omega
            · rw [HE.out, HF.out, shiftS_shiftS, sfx_drop, show i + 1 + (k + n) = p + n by have := HP.out; omega]
            · rw [show i + 1 + (k + n) = p + n by have := HP.out; omega]; exact H5.out
            · rw [HM.out, cpos_rd H5.out]; have := HB.out; omega
        · have hb92 : (((pk (sfx s p)).toNat : Int) == 92) = false := by
            rw [beq_eq_false_iff_ne]; intro e; exact pk_ne (by decide) h92 (UInt8.toNat_inj.1 (by simpa using by omega))
          by_cases hbad : (pk (sfx s p)).toNat < 32 ∨ seqLen (sfx s p) = 0
          · have hch := fun w' h' g' => cchar_bad bp s p vL dp w' (by omega) hbp h' g' hk hbad
            have HF : Hid (strF (f + 1) (sfx s p) = .error 0) := by
              show strF (f + 1) (sfx s p) = .error 0
              by_cases hps : p < s.size
              · have hc := sfx_cons s p hps
                rw [hc] at h34 h92 hbad ⊢
                have n34 : s[p] ≠ 34 := by simpa using h34
                have n92 : s[p] ≠ 92 := by simpa using h92
                rw [strF]
                simp only [n34, n92, if_false]
                rcases hbad with hb | hb
                · rw [if_pos (show s[p].toNat < 32 from hb)]
                · simp [hb]
              · rw [sfx_nil s p (by omega)]; rfl
            clear h34 h92 hbad hf hk
            go_wp2_with fail
            refine ht.mono ?_
            rintro e w2 ⟨rfl, h2, o2⟩
            have O2 : Hid (Onl bp w w2) := Onl.trans HO.out o2
            have g2 : GV w2 := hGr.onl o2 hbp hrd.lt
            clear o2 ht HO
            go_wp2_with fail
            refine (hpk w2 h2).mono ?_
            rintro e w3 ⟨rfl, h3, o3⟩
            have O3 : Hid (Onl bp w w3) := Onl.trans O2.out o3
            have g3 : GV w3 := g2.onl o3 hbp h2.lt
            clear o3 hpk O2
            go_wp2_with fail
            refine (hch w3 h3 g3).mono ?_
            rintro e w4 ⟨rfl, h4, o4⟩
            have O4 : Hid (Onl bp w w4) := Onl.trans O3.out o4
            clear o4 hch O3
            go_wp2
            refine ⟨rfl, ?_, O4.out⟩
            have e1 := HE.out
            rw [HF.out] at e1
            rw [HR.out, e1]
            refine ⟨?_, p, h4⟩
            rw [show i + (k + 0 + 1) = p by have := HP.out; omega]
          · have hn32 : ¬ (pk (sfx s p)).toNat < 32 := fun h => hbad (.inl h)
            have hq0 : seqLen (sfx s p) ≠ 0 := fun h => hbad (.inr h)
            have hch := fun w' h' g' => cchar_ok bp s p vL dp w' (by omega) hbp h' g' hn32 hq0
            have hps : p < s.size := by
              by_cases hps : p < s.size
              · exact hps
              · rw [sfx_nil s p (by omega)] at hn32; exact absurd (by decide) hn32
            have hle : p + seqLen (sfx s p) ≤ s.size := by rcases seqLen_le s p with h | h; exact h; exact absurd h hq0
            have HF : Hid (strF (f + 1) (sfx s p) = shiftS ((sfx s p).take (seqLen (sfx s p))) (seqLen (sfx s p)) (strF f ((sfx s p).drop (seqLen (sfx s p))))) := by
              show strF (f + 1) (sfx s p) = _
              have hc := sfx_cons s p hps
              rw [hc] at h34 h92 hn32 hq0 ⊢
              have n34 : s[p] ≠ 34 := by simpa using h34
              have n92 : s[p] ≠ 92 := by simpa using h92
              have n32 : ¬ s[p].toNat < 32 := hn32
              rw [strF]
              simp only [n34, n92, n32, if_false, hq0]
            have HT : Hid ((s.extract p (p + seqLen (sfx s p))).data.toList = (sfx s p).take (seqLen (sfx s p))) := by
              show (s.extract p (p + seqLen (sfx s p))).data.toList = _
              rw [extract_list, show p + seqLen (sfx s p) - p = seqLen (sfx s p) by omega]; rfl
            have HZ : Hid ((s.extract p (p + seqLen (sfx s p))).size ≤ 4) := by
              show (s.extract p (p + seqLen (sfx s p))).size ≤ 4
              have := seqLen_le4 (sfx s p)
              simp; omega
            have HL : Hid ((sfx s p).length < f + 1) := hf
            have HS0 : Hid (0 < seqLen (sfx s p)) := Nat.pos_of_ne_zero hq0
            have HLE : Hid (p + seqLen (sfx s p) ≤ s.size) := hle
            clear h34 h92 hbad hf hk hn32 hq0 hle hps
            generalize seqLen (sfx s p) = n at hch HF HT HZ HS0 HLE
            go_wp2_with fail
            refine ht.mono ?_
            rintro e w2 ⟨rfl, h2, o2⟩
            have O2 : Hid (Onl bp w w2) := Onl.trans HO.out o2
            have g2 : GV w2 := hGr.onl o2 hbp hrd.lt
            have W2 : Hid (OwnZ w.heap.size 5 u3 acc w2) := HW.out.onl o2 hlt
            clear o2 ht HO HW
            go_wp2_with fail
            refine (hpk w2 h2).mono ?_
            rintro e w3 ⟨rfl, h3, o3⟩
            have O3 : Hid (Onl bp w w3) := Onl.trans O2.out o3
            have g3 : GV w3 := g2.onl o3 hbp h2.lt
            have W3 : Hid (OwnZ w.heap.size 5 u3 acc w3) := W2.out.onl o3 hlt
            clear o3 hpk O2 W2
            go_wp2_with fail
            refine (hch w3 h3 g3).mono ?_
            rintro e w4 ⟨rfl, h4, o4⟩
            have O4 : Hid (Onl bp w w4) := Onl.trans O3.out o4
            have W4 : Hid (OwnZ w.heap.size 5 u3 acc w4) := W3.out.onl o4 hlt
            have hz4 := O4.out.size
            have H4 : Hid (CD bp s (p + n) vL dp w4) := h4
            clear o4 hch O3 W3 h4 g3 g2 h3 h2 hGr hrd hG
            go_wp2_with (refine wp_appZ rfl (.tmp 22) (.tmp 24) 64 9 rfl 5 i0 Tryd.underlying64 Tryd.underlying9 HI.out hz0 hz1 hz2 w.heap.size _ acc (s.extract p (p + n)) rfl rfl (by have := HA.out; have := HZ.out; omega) W4.out hz4 ?_; intro v6 w6 ho6 hb6; have W6 : Hid _ := ho6; clear ho6)
            have h7 := CD.belowB bp s vL dp w H4.out hlt hb6
            refine ⟨⟨k + n, f, acc ++ (s.extract p (p + n)).data.toList, ?_, ?_, ?_, ?_, W6.out, ?_, onl_belowB bp w O4.out hb6⟩, ?_⟩
            · have := HL.out; have := HS0.out; have := HP.out; have := HLE.out; rw [sfx_length] at *; omega
            · have := HLE.out; have := HP.out; omega
            · rw [HT.out]; simp; omega
            · rw [HE.out, HF.out, shiftS_shiftS, sfx_drop, HT.out, show i + 1 + (k + n) = p + n by have := HP.out; omega]
            · rw [show i + 1 + (k + n) = p + n by have := HP.out; omega]; exact h7
            · rw [HM.out, cpos_rd h7]; have := HS0.out; have := HLE.out; omega
  · have hm := cneed_no bp s i vL dp 34 w h hi (by decide) hq
    rw [show ((34 : UInt8).toNat : Int) = 34 from rfl] at hm
    have HR : Hid (quotL (sfx s i) = .error 0) := by
      show quotL (sfx s i) = .error 0
      by_cases hi2 : i < s.size
      · rw [sfx_cons s i hi2] at hq ⊢
        have n34 : s[i] ≠ 34 := by simpa using hq
        rw [quotL, if_neg n34]
      · rw [sfx_nil s i (by omega)]; rfl
    clear hq
    go_enter Tryd.func44, Tryd.ntmps44
    go_wp2_with fail
    refine hm.mono ?_
    rintro e w1 ⟨rfl, h1, o1⟩
    have O1 : Hid (Onl bp w w1) := o1
    clear o1 hm
    go_wp2
    refine ⟨rfl, ?_, O1.out⟩
    rw [HR.out]
    exact ⟨rfl, i, h1⟩
end
end Go.Proofs.YtaghclgookfmnaaDoor
