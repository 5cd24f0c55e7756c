/-
  Joined by program: JSort, JSortW.
-/
import Derived.Test.YtgiaflcbiipafabGreatDoorG15
import Derived.Laws.AppendOwnNone
/-
  An object's kids, by their names.
-/
namespace Go.Proofs.YtgiaflcbiipafabGreatDoor
open Go.RowKit
set_option linter.unusedVariables false

def insR (lt : Nat → Nat → Bool) (x : Nat) : List Nat → List Nat
  | [] => [x]
  | y :: r => if lt x y = true then y :: insR lt x r else x :: y :: r
/-- x set into a list: from its end on, as long as it stands ahead. -/
def insL (lt : Nat → Nat → Bool) (l : List Nat) (x : Nat) : List Nat := (insR lt x l.reverse).reverse
def srt (lt : Nat → Nat → Bool) (l : List Nat) : List Nat := l.foldl (insL lt) []
theorem insL_nil (lt : Nat → Nat → Bool) (x : Nat) : insL lt [] x = [x] := rfl
theorem insL_go (lt : Nat → Nat → Bool) (l : List Nat) (x y : Nat) (h : lt x y = true) : insL lt (l ++ [y]) x = insL lt l x ++ [y] := by
  unfold insL; simp [insR, h]
theorem insL_stop (lt : Nat → Nat → Bool) (l : List Nat) (x y : Nat) (h : lt x y = false) : insL lt (l ++ [y]) x = l ++ [y] ++ [x] := by
  unfold insL; simp [insR, h]
theorem insR_len (lt : Nat → Nat → Bool) (x : Nat) (l : List Nat) : (insR lt x l).length = l.length + 1 := by
  induction l with
  | nil => rfl
  | cons y r ih => simp only [insR]; split <;> simp [ih]
theorem insL_len (lt : Nat → Nat → Bool) (l : List Nat) (x : Nat) : (insL lt l x).length = l.length + 1 := by simp [insL, insR_len]
theorem srt_snoc (lt : Nat → Nat → Bool) (l : List Nat) (x : Nat) : srt lt (l ++ [x]) = insL lt (srt lt l) x := by simp [srt]
theorem insR_mem (lt : Nat → Nat → Bool) (x : Nat) (l : List Nat) : ∀ k, k ∈ insR lt x l → k = x ∨ k ∈ l := by
  induction l with
  | nil => intro k h; simp [insR] at h; exact .inl h
  | cons y r ih =>
    intro k h
    simp only [insR] at h
    split at h
    · rcases List.mem_cons.1 h with h | h
      · exact .inr (by simp [h])
      · rcases ih k h with h | h
        · exact .inl h
        · exact .inr (List.mem_cons_of_mem _ h)
    · rcases List.mem_cons.1 h with h | h
      · exact .inl h
      · exact .inr h
theorem fold_len (lt : Nat → Nat → Bool) (l : List Nat) : ∀ acc, (l.foldl (insL lt) acc).length = acc.length + l.length := by
  induction l with
  | nil => intro acc; rfl
  | cons x r ih => intro acc; rw [List.foldl_cons, ih, insL_len, List.length_cons]; omega
theorem fold_mem (lt : Nat → Nat → Bool) (l : List Nat) : ∀ acc k, k ∈ l.foldl (insL lt) acc → k ∈ acc ∨ k ∈ l := by
  induction l with
  | nil => intro acc k h; exact .inl h
  | cons x r ih =>
    intro acc k h
    rw [List.foldl_cons] at h
    rcases ih _ _ h with h | h
    · rcases insR_mem lt x acc.reverse k (by simpa [insL] using h) with h | h
      · exact .inr (by simp [h])
      · exact .inl (by simpa using h)
    · exact .inr (List.mem_cons_of_mem _ h)
theorem srt_len (lt : Nat → Nat → Bool) (l : List Nat) : (srt lt l).length = l.length := by unfold srt; rw [fold_len]; simp
theorem srt_mem (lt : Nat → Nat → Bool) (l : List Nat) (k : Nat) (h : k ∈ srt lt l) : k ∈ l := by
  rcases fold_mem lt l [] k h with h | h
  · simp at h
  · exact h

/-- A cell of a row of one's own, set. -/
theorem rowSet {w : World} {B g n cap k : Nat} {e : TypeId} {xs : List Value} (y : Value) (h : w.ownsRow B e 1 (.slice (some ⟨g, 0, none⟩) n cap) n xs) (hk : k < n) :
    (w.setCell ⟨g, k, none⟩ y).ownsRow B e 1 (.slice (some ⟨g, 0, none⟩) n cap) n (xs.set k y) ∧ Below B w (w.setCell ⟨g, k, none⟩ y) ∧ w.frozen? ⟨g, k, none⟩ = false ∧ (w.cell? ⟨g, k, none⟩).isSome = true := by
  rcases h.2 with ⟨a, _⟩ | ⟨g', cap', cur, a, b, c, d1, d2, d3, d4⟩
  · simp at a
  · simp at a
    obtain ⟨rfl, rfl⟩ := a
    have hset := setCell_eq_setRow w g k cur e (0, 0) y c
    refine ⟨?_, ?_, ?_, ?_⟩
    · rw [hset]
      refine ⟨by simpa using h.1, .inr ⟨g, cap, cur.setIfInBounds k y, rfl, b, setRow_heap w g _ _ _ _ c, d1, d2, by simpa using d3, ?_⟩⟩
      rw [Array.toList_setIfInBounds, List.take_set, d4]
    · rw [hset]; exact below_setRow (Below.refl _ _) b _
    · simp [World.frozen?, c]
    · rw [cell_of_row w g _ cur e (0, 0) c]; simp; omega
end Go.Proofs.YtgiaflcbiipafabGreatDoor
/-
  notaryref.members.
-/
namespace Go.Proofs.YtgiaflcbiipafabGreatDoor
open Go.RowKit
set_option linter.unusedVariables false

def keyL (L : List Nd) (k : Nat) : List UInt8 := match L[k]? with | some n => n.key | none => []
def ltK (L : List Nd) (x y : Nat) : Bool := aheadL (keyL L x) (keyL L y)
theorem keyL_of {L : List Nd} {k : Nat} {n : Nd} (h : L[k]? = some n) : keyL L k = n.key := by unfold keyL; rw [h]

theorem Nodes.kidrow {B g : Nat} {tN : TypeId} {cap : Nat} {L : List Nd} {w : World} (h : Nodes B tN (.slice (some ⟨g, 0, none⟩) L.length cap) L w) (u : Nat) (n : Nd) (hn : L[u]? = some n) :
    ∃ kv, w.cell? ⟨g, u * 6 + 4, none⟩ = some kv ∧ w.ownsRow B 3 1 kv n.kids.length (n.kids.map iV) := by
  obtain ⟨kvs, k1, k2, k3, k4⟩ := h
  have hadd : ∀ (g j : Nat), (⟨g, 0, none⟩ : Addr).add j = ⟨g, j, none⟩ := fun g j => by unfold Addr.add; split <;> simp_all
  have hul : u < L.length := (List.getElem?_eq_some_iff.1 hn).1
  obtain ⟨kv, hkv⟩ : ∃ kv, kvs[u]? = some kv := ⟨_, List.getElem?_eq_getElem (by omega)⟩
  have hc := k2.cells (g := g) rfl (u * 6 + 4) _ (rowN_get L kvs u kv k1 hkv)
  rw [hadd] at hc
  exact ⟨kv, hc, k3 u n kv hn hkv⟩

/-- A row, copied. -/
theorem wp_copy {P : Program} {ops : Array Oper} {rest : List Oper} {o : Oper} {a : Act} {Q : Exit → Act → World → Prop} (hgd : o.guard = none) (s x : Operand) (t : TypeId)
    (ho : o.op = .call { callee := .builtin .append, args := #[s, x], argTypes := #[t, t] })
    (e : TypeId) (i : TypeInfo) (ht : P.underlying t = some (.slice e)) (hi : P.info? e = some i) (hz : i.zero = some (.int .i64 0)) (hsize : i.size = 1) (hby : i.bytes = 8)
    (B : Nat) (v : Value) (ks : List Nat) (w : World) (hs : a.eval s = .slice none 0 0) (hx : a.eval x = v) (hown : w.ownsRow B e 1 v ks.length (ks.map iV)) (hlen : ks.length ≤ 10000000000000)
    (h : ∀ v' w', w'.ownsRow w.heap.size e 1 v' ks.length (ks.map iV) → Below w.heap.size w w' → wpList P ops Q rest (a.put o.dst v') w') : wpList P ops Q (o :: rest) a w := by
  have hrow := IRow.of hown
  rcases hown.2 with ⟨a1, a2⟩ | ⟨g, c, cu, a1, _⟩
  · subst a1
    refine wpList_append_own_none hgd s x t ho w.heap.size e i 1 ht hi _ 0 [] hs (World.ownsRow_nil _ _ _ _) hx (h _ _ ?_ (Below.refl _ _))
    obtain rfl := List.length_eq_zero_iff.1 a2
    exact World.ownsRow_nil _ _ _ _
  · subst a1
    refine wpList_append_own _ hgd s x t ho w.heap.size e i (.int .i64 0) 1 8 ht hi hz hsize hby rfl (by decide) _ 0 [] hs (World.ownsRow_nil _ _ _ _) ⟨g, 0, none⟩ ks.length c (ks.map iV) hx (by simp) ?_ ?_ (by unfold maxLen; omega) (by omega) (Nat.le_refl _) ?_
    · intro j u hu
      exact hown.cells (g := g) rfl j u hu
    · intro u hu
      obtain ⟨k, _, rfl⟩ := List.mem_map.1 hu
      rfl
    · intro v' w' h1 h2 _
      rw [Nat.zero_add, List.nil_append] at h1
      exact h v' w' h1 ((Below.refl _ _).grown h2 (Nat.le_refl _) (by intro k hk; simp [Value.ownBlock] at hk))

set_option maxRecDepth 40000 in
set_option maxHeartbeats 2000000 in
theorem rmembers (B : Nat) (v : Value) (L : List Nd) (w : World) (hN : Nodes B 64 v L w) (o : Nat) (n : Nd) (hn : L[o]? = some n) (hks : ∀ k ∈ n.kids, k < L.length) (hb : L.length ≤ 1000000) (hkb : n.kids.length ≤ 1000000)
    (hkey : ∀ (k : Nat) (m : Nd), L[k]? = some m → m.key.length ≤ 1000000000) :
    Calls Tryz.prog 27 #[v, .int .i64 (o : Int)] w fun e w' => ∃ v', e = .returned v' ∧ w'.ownsRow w.heap.size 3 1 v' n.kids.length ((srt (ltK L) n.kids).map iV) ∧ Below w.heap.size w w' := by
  obtain ⟨i0, hi0, hz0, hz1, hz2⟩ := info_parts intinfo
  have HI : Hid _ := hi0
  clear hi0
  have hol : o < L.length := (List.getElem?_eq_some_iff.1 hn).1
  obtain ⟨g, cap, rfl⟩ : ∃ g cap, v = .slice (some ⟨g, 0, none⟩) L.length cap := by
    obtain ⟨kvs, k1, k2, k3, k4⟩ := hN
    rcases k2.2 with ⟨_, h⟩ | ⟨g, c, cu, a, _⟩
    · omega
    · exact ⟨g, c, a⟩
  have q1 := hN.cells.1
  obtain ⟨kv, hck, hkr⟩ := hN.kidrow o n hn
  have ho' : (o : Int) < (L.length : Int) := by omega
  have HKR : Hid (w.ownsRow B 3 1 kv n.kids.length (n.kids.map iV)) := hkr
  have HQ1 : Hid (∀ u n, L[u]? = some n → w.cell? ⟨g, u * 6 + 1, none⟩ = some (.string ⟨n.key.toArray⟩)) := q1
  have HKS : Hid (∀ k ∈ n.kids, k < L.length) := hks
  have HKEY : Hid (∀ (k : Nat) (m : Nd), L[k]? = some m → m.key.length ≤ 1000000000) := hkey
  clear q1 hkr hN hn hks hkey
  generalize n.kids = ks at *
  clear n
  go_enter Tryz.func27, Tryz.ntmps27
  go_wp2_with (refine wp_copy rfl (.tmp 9) (.tmp 14) 56 rfl 3 i0 Tryz.underlying56 HI.out hz0 hz1 hz2 B kv ks w rfl rfl HKR.out (by omega) ?_; intro v1 w1 ho1 hb1; have W1 : Hid _ := ho1; have B1 : Hid _ := hb1; clear ho1 hb1)
  have hsh := IRow.of W1.out
  obtain ⟨ad, cap5, rfl, hsh⟩ := hsh
  clear hsh
  go_loopw [6] (fun iv wr => ∃ i : Nat, 1 ≤ i ∧ (i ≤ ks.length ∨ i = 1) ∧ iv = .int .i64 (i : Int) ∧ wr.ownsRow w.heap.size 3 1 (.slice ad ks.length cap5) ks.length ((srt (ltK L) (ks.take i) ++ ks.drop i).map iV) ∧ Below w.heap.size w wr) (fun iv _ => ks.length - (intOf iv).toNat)
  case atStart =>
    refine ⟨1, by omega, .inr rfl, rfl, ?_, B1.out⟩
    have e : srt (ltK L) (ks.take 1) ++ ks.drop 1 = ks := by
      cases ks with
      | nil => rfl
      | cons x r => simp [srt, insL, insR]
    rw [e]; exact W1.out
  case round =>
    clear W1 B1
    obtain ⟨i, hi1, hi2, rfl, hrow, hbl⟩ := hrel
    by_cases hlt : i < ks.length
    · have hlt' : (i : Int) < (ks.length : Int) := by omega
      obtain ⟨g5, rfl⟩ : ∃ g5, ad = some ⟨g5, 0, none⟩ := by
        rcases hrow.2 with ⟨_, h⟩ | ⟨g', c', _, e, _⟩
        · omega
        · injection e with e1 _ _; exact ⟨g', e1⟩
      have R0 : Hid (wr.ownsRow w.heap.size 3 1 (.slice (some ⟨g5, 0, none⟩) ks.length cap5) ks.length ((srt (ltK L) (ks.take i) ++ ks.drop i).map iV)) := hrow
      have B0 : Hid (Below w.heap.size w wr) := hbl
      clear hrow hbl
      go_wp2_with fail
      go_loopw [7] (fun kv wx => ∃ P S : List Nat, kv = .int .i64 (P.length : Int) ∧ P.length + S.length = i ∧ insL (ltK L) (srt (ltK L) (ks.take i)) ks[i] = insL (ltK L) P ks[i] ++ S ∧ (∀ k ∈ P, k ∈ ks) ∧ wx.ownsRow w.heap.size 3 1 (.slice (some ⟨g5, 0, none⟩) ks.length cap5) ks.length ((P ++ ks[i] :: (S ++ ks.drop (i + 1))).map iV) ∧ Below w.heap.size w wx) (fun kv _ => (intOf kv).toNat)
      case atStart =>
        have hl : (srt (ltK L) (ks.take i)).length = i := by rw [srt_len, List.length_take]; omega
        refine ⟨srt (ltK L) (ks.take i), [], by rw [hl], by simp [hl], by simp, fun k hk => List.mem_of_mem_take (srt_mem _ _ _ hk), ?_, B0.out⟩
        have := R0.out
        rw [List.drop_eq_getElem_cons hlt] at this
        exact this
      case round =>
        clear R0 B0
        obtain ⟨P, S, rfl, hPS, hins, hmem, hrow, hbl⟩ := hrel
        have hxm : ks[i] ∈ ks := List.getElem_mem hlt
        have hcc : P = [] ∨ ∃ P' y, P = P' ++ [y] := by
          rcases List.eq_nil_or_concat P with h | ⟨P', y, h⟩
          · exact .inl h
          · exact .inr ⟨P', y, by simpa using h⟩
        rcases hcc with rfl | ⟨P', y, hP⟩
        · go_wp2_with fail
          go_quiet (fail)
          have hS : S.length = i := by simpa using hPS
          have HN : Hid (srt (ltK L) (ks.take (i + 1)) ++ ks.drop (i + 1) = [] ++ ks[i] :: (S ++ ks.drop (i + 1))) := by
            show _ = _
            rw [List.take_succ_eq_append_getElem hlt, srt_snoc, hins, insL_nil]; simp
          have R1 : Hid (wr.ownsRow w.heap.size 3 1 (.slice (some ⟨g5, 0, none⟩) ks.length cap5) ks.length (([] ++ ks[i] :: (S ++ ks.drop (i + 1))).map iV)) := hrow
          have B1 : Hid (Below w.heap.size w wr) := hbl
          clear hrow hbl hins hPS
          go_wp2_with fail
          go_roundw
          case rel => exact ⟨i + 1, by omega, .inl (by omega), by go_num, by rw [HN.out]; exact ownsRow_sub R1.out (fun _ _ _ => rfl), bdN B1.out nq⟩
          case measure => simp [intOf]; omega
        · obtain ⟨p, hp⟩ : ∃ p, P.length = p := ⟨_, rfl⟩
          rw [hp]
          rw [hp] at hPS
          subst hP
          obtain ⟨x, hx⟩ : ∃ x, ks[i] = x := ⟨_, rfl⟩
          rw [hx] at hins hrow hxm
          have HX : Hid (ks[i] = x) := hx
          clear hx
          have hym : y ∈ ks := hmem y (by simp)
          have hxl := HKS.out x hxm
          have hyl := HKS.out y hym
          obtain ⟨nx, hnx⟩ : ∃ m, L[x]? = some m := ⟨_, List.getElem?_eq_getElem hxl⟩
          obtain ⟨ny, hny⟩ : ∃ m, L[y]? = some m := ⟨_, List.getElem?_eq_getElem hyl⟩
          have kx := cell_keep hbl (HQ1.out x nx hnx)
          have ky := cell_keep hbl (HQ1.out y ny hny)
          have hA : ∀ W, Calls Tryz.prog 48 #[.string ⟨nx.key.toArray⟩, .string ⟨ny.key.toArray⟩] W fun e w' => e = .returned (.bool (ltK L x y)) ∧ Below W.heap.size W w' := fun W => by
            have h1 := HKEY.out x nx hnx
            have h2 := HKEY.out y ny hny
            have := rahead ⟨nx.key.toArray⟩ ⟨ny.key.toArray⟩ W (by show nx.key.toArray.size ≤ _; simpa using h1) (by show ny.key.toArray.size ≤ _; simpa using h2)
            unfold ltK; rw [keyL_of hnx, keyL_of hny]; simpa using this
          have hxl' : (x : Int) < (L.length : Int) := by omega
          have hyl' : (y : Int) < (L.length : Int) := by omega
          obtain ⟨ad', cap', e5, c5⟩ := IRow.of (us := P' ++ [y] ++ x :: (S ++ ks.drop (i + 1))) (e := 3) (B := w.heap.size) (w := wr) (v := .slice (some ⟨g5, 0, none⟩) ks.length cap5) (by
            have : (P' ++ [y] ++ x :: (S ++ ks.drop (i + 1))).length = ks.length := by simp at hp hPS ⊢; omega
            rw [this]; exact hrow)
          obtain ⟨g', eg, cx⟩ := c5 (P'.length + 1) x (by simp)
          obtain ⟨g'', eg', cy⟩ := c5 P'.length y (by simp)
          injection e5 with e5 z1 z2
          clear z1 z2
          rw [← e5] at eg eg'
          injection eg with eg; injection eg with eg z1 z2; clear z1 z2; subst eg
          injection eg' with eg'; injection eg' with eg' z1 z2; clear z1 z2; subst eg'
          clear c5 e5
          have hlen : (P' ++ [y]).length = P'.length + 1 := by simp
          rw [hlen] at hp
          obtain ⟨q, hq⟩ : ∃ q, P'.length = q := ⟨_, rfl⟩
          rw [hp] at cx
          rw [hq] at cy
          have hpq : (p : Int) - 1 = (q : Int) := by omega
          have hp0 : (0 : Int) < (p : Int) := by omega
          have hpw : IntKind.i64.wrap ((p : Int) - 1) = (q : Int) := by rw [i64w _ (by omega)]; omega
          have hp0n : decide (0 < p) = true := by simp; omega
          have hp0m : 0 < p := by omega
          have hpl : (p : Int) < (ks.length : Int) := by omega
          have hql : (q : Int) < (ks.length : Int) := by omega
          have HF : Hid (P'.length = q ∧ q + 1 = p ∧ p + S.length = i) := ⟨hq, by omega, hPS⟩
          have HINS : Hid _ := hins
          have HMEM : Hid (∀ k ∈ P' ++ [y], k ∈ ks) := hmem
          have HROW : Hid (wr.ownsRow w.heap.size 3 1 (.slice (some ⟨g5, 0, none⟩) ks.length cap5) ks.length ((P' ++ [y] ++ x :: (S ++ ks.drop (i + 1))).map iV)) := hrow
          have HBL : Hid (Below w.heap.size w wr) := hbl
          have hbs := hbl.size
          clear hp hq hPS hins hmem hrow hbl hxm hym hnx hny hlen hxl hyl
          cases hc : ltK L x y with
          | false =>
            rw [hc] at hA
            have HC : Hid (ltK L x y = false) := hc
            clear hc
            have HCS : Hid (wr.cell? ⟨g5, p, none⟩ = some (.int .i64 (x : Int)) ∧ wr.cell? ⟨g5, q, none⟩ = some (.int .i64 (y : Int)) ∧ wr.cell? ⟨g, x * 6 + 1, none⟩ = some (.string ⟨nx.key.toArray⟩) ∧ wr.cell? ⟨g, y * 6 + 1, none⟩ = some (.string ⟨ny.key.toArray⟩)) := ⟨cx, cy, kx, ky⟩
            go_wp2_with fail
            have HPQ : Hid _ := hpq
            clear hpq
            have hq0 : (0 : Int) ≤ (q : Int) := by omega
            go_region_held3 (fun w' => w'.cell? ⟨g5, p, none⟩ = some (.int .i64 (x : Int)) ∧ w'.cell? ⟨g5, q, none⟩ = some (.int .i64 (y : Int)) ∧ w'.cell? ⟨g, x * 6 + 1, none⟩ = some (.string ⟨nx.key.toArray⟩) ∧ w'.cell? ⟨g, y * 6 + 1, none⟩ = some (.string ⟨ny.key.toArray⟩)) (go_keep) (first | (go_at_call 48; refine (hA _).mono ?_; rintro e w3 ⟨rfl, b3⟩; have s0 := cell_keep b3 HCS.out.1; have s1 := cell_keep b3 HCS.out.2.1; have s2 := cell_keep b3 HCS.out.2.2.1; have s3 := cell_keep b3 HCS.out.2.2.2; have B3 : Hid _ := b3; clear b3))
            have R3 : Hid (w3.ownsRow w.heap.size 3 1 (.slice (some ⟨g5, 0, none⟩) ks.length cap5) ks.length ((P' ++ [y] ++ x :: (S ++ ks.drop (i + 1))).map iV)) := ownsRow_sub HROW.out (fun g' _ h' => B3.out.block g' h')
            have B4 : Hid (Below w.heap.size w w3) := HBL.out.trans ⟨B3.out.os, B3.out.tape, B3.out.output, B3.out.size, fun k hk => B3.out.block k (Nat.lt_of_lt_of_le hk hbs)⟩
            clear HBL B3 HCS HROW hA cx cy kx ky
            have HN : Hid (srt (ltK L) (ks.take (i + 1)) ++ ks.drop (i + 1) = P' ++ [y] ++ x :: (S ++ ks.drop (i + 1))) := by
              show _ = _
              rw [List.take_succ_eq_append_getElem hlt, srt_snoc, HX.out, HINS.out, insL_stop _ _ _ _ HC.out]; simp
            go_wp2_with fail
            go_roundw
            case rel => exact ⟨i + 1, by omega, .inl (by omega), by go_num, by rw [HN.out]; exact R3.out, B4.out⟩
            case measure => simp [intOf]; omega
          | true =>
            rw [hc] at hA
            have HC : Hid (ltK L x y = true) := hc
            clear hc
            have HCS : Hid (wr.cell? ⟨g5, p, none⟩ = some (.int .i64 (x : Int)) ∧ wr.cell? ⟨g5, q, none⟩ = some (.int .i64 (y : Int)) ∧ wr.cell? ⟨g, x * 6 + 1, none⟩ = some (.string ⟨nx.key.toArray⟩) ∧ wr.cell? ⟨g, y * 6 + 1, none⟩ = some (.string ⟨ny.key.toArray⟩)) := ⟨cx, cy, kx, ky⟩
            go_wp2_with fail
            have HPQ : Hid _ := hpq
            clear hpq
            have hq0 : (0 : Int) ≤ (q : Int) := by omega
            go_region_held3 (fun w' => w'.cell? ⟨g5, p, none⟩ = some (.int .i64 (x : Int)) ∧ w'.cell? ⟨g5, q, none⟩ = some (.int .i64 (y : Int)) ∧ w'.cell? ⟨g, x * 6 + 1, none⟩ = some (.string ⟨nx.key.toArray⟩) ∧ w'.cell? ⟨g, y * 6 + 1, none⟩ = some (.string ⟨ny.key.toArray⟩)) (go_keep) (first | (go_at_call 48; refine (hA _).mono ?_; rintro e w3 ⟨rfl, b3⟩; have s0 := cell_keep b3 HCS.out.1; have s1 := cell_keep b3 HCS.out.2.1; have s2 := cell_keep b3 HCS.out.2.2.1; have s3 := cell_keep b3 HCS.out.2.2.2; have B3 : Hid _ := b3; clear b3))
            have R3 : Hid (w3.ownsRow w.heap.size 3 1 (.slice (some ⟨g5, 0, none⟩) ks.length cap5) ks.length ((P' ++ [y] ++ x :: (S ++ ks.drop (i + 1))).map iV)) := ownsRow_sub HROW.out (fun g' _ h' => B3.out.block g' h')
            have B4 : Hid (Below w.heap.size w w3) := HBL.out.trans ⟨B3.out.os, B3.out.tape, B3.out.output, B3.out.size, fun k hk => B3.out.block k (Nat.lt_of_lt_of_le hk hbs)⟩
            clear HBL B3 HCS HROW hA cx cy kx ky
            have hpn : p < ks.length := by omega
            have hqn : q < ks.length := by omega
            obtain ⟨r4, b4, f4, z4⟩ := rowSet (.int .i64 (y : Int)) R3.out hpn
            obtain ⟨r5, b5, f5, z5⟩ := rowSet (.int .i64 (x : Int)) r4 hqn
            have hlist : ((((P' ++ [y] ++ x :: (S ++ ks.drop (i + 1))).map iV).set p (.int .i64 (y : Int))).set q (.int .i64 (x : Int))) = (P' ++ x :: (y :: S ++ ks.drop (i + 1))).map iV := by
              obtain ⟨e1, e2, _⟩ := HF.out
              subst e2; subst e1
              simp [iV]
            rw [hlist] at r5
            have R5 : Hid _ := r5
            have B5 : Hid _ := B4.out.trans (b4.trans b5)
            obtain ⟨v5, c5⟩ := Option.isSome_iff_exists.1 z5
            clear r4 b4 r5 b5 z4 z5 hlist R3 B4
            have hpq := HPQ.out
            go_wp2_with fail
            go_roundw
            case rel =>
              refine ⟨P', y :: S, ?_, ?_, ?_, ?_, ?_, B5.out⟩
              · rw [HF.out.1]
              · have := HF.out; simp; omega
              · rw [HX.out, HINS.out, insL_go _ _ _ _ HC.out]; simp
              · intro k hk; exact HMEM.out k (by simp [hk])
              · rw [HX.out]; exact R5.out
            case measure => have := HF.out; simp [intOf]; omega
    · go_wp2_with fail
      go_ret
      refine ⟨_, rfl, ?_, hbl⟩
      have e : srt (ltK L) (ks.take i) ++ ks.drop i = srt (ltK L) ks := by rw [List.take_of_length_le (by omega), List.drop_of_length_le (by omega), List.append_nil]
      rw [← e]; exact hrow
end Go.Proofs.YtgiaflcbiipafabGreatDoor
