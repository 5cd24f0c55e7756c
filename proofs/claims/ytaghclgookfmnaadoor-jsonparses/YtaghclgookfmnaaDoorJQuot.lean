import Derived.Test.YtaghclgookfmnaaDoorJBuf
/-
  The document's reader: a string.
-/
namespace Go.Proofs.YtaghclgookfmnaaDoor
open Go.RowKit
set_option linter.unusedVariables false

theorem wr8_length (n : Nat) : (wr8 n).length ≤ 4 := by
  unfold wr8
  split
  · simp
  · split
    · simp
    · split <;> simp
theorem escL_ok {l t : List UInt8} {n : Nat} (h : escL l = .ok (t, n)) : t.length ≤ n ∧ 2 ≤ n ∧ n ≤ 12 := by
  unfold escL at h
  split at h
  · split at h
    · injection h with h; injection h with h1 h2; subst h1; subst h2; simp
    · split at h
      · split at h
        · cases h
        · unfold pairL at h
          split at h
          · injection h with h; injection h with h1 h2; subst h1; subst h2
            have := wr8_length; exact ⟨Nat.le_trans (this _) (by omega), by omega, by omega⟩
          · split at h
            · cases h
            · split at h
              · cases h
              · injection h with h; injection h with h1 h2; subst h1; subst h2
                have := wr8_length; exact ⟨Nat.le_trans (this _) (by omega), by omega, by omega⟩
      · cases h
  · cases h
theorem shiftS_shiftS (a t : List UInt8) (k n : Nat) (X : Except Nat (List UInt8 × Nat)) : shiftS a k (shiftS t n X) = shiftS (a ++ t) (k + n) X := by
  cases X with
  | ok p => obtain ⟨x, m⟩ := p; simp [shiftS, Nat.add_assoc]
  | error o => simp [shiftS, Nat.add_assoc]
theorem seqN_le (c : Nat) : seqN c ≤ 4 := by unfold seqN; split <;> (try split) <;> omega
theorem seqLen_le4 (l : List UInt8) : seqLen l ≤ 4 := by
  unfold seqLen
  split
  · omega
  · split
    · omega
    · split
      · omega
      · split
        · exact seqN_le _
        · omega
theorem goesL_len {l : List UInt8} {k lo hi : Nat} (h : goesL l k lo hi = true) : k < l.length := by
  unfold goesL at h
  split at h
  · rename_i c hc; exact (List.getElem?_eq_some_iff.1 hc).1
  · cases h
theorem seqLen_len (l : List UInt8) : seqLen l ≤ l.length := by
  match l with
  | [] => simp [seqLen]
  | c :: r =>
    simp only [seqLen]
    split
    · simp
    · split
      · omega
      · split
        · rename_i h
          simp only [Bool.and_eq_true, Bool.or_eq_true, decide_eq_true_eq] at h
          obtain ⟨⟨h1, h2⟩, h3⟩ := h
          have a1 := goesL_len h1
          have := seqN_le c.toNat
          rcases h2 with h2 | h2
          · omega
          · have a2 := goesL_len h2
            rcases h3 with h3 | h3
            · omega
            · have a3 := goesL_len h3; omega
        · omega

theorem u8infoJ : (Tryd.prog.info? 5).map (fun i => (i.zero, i.size, i.bytes)) = some (some (.int .u8 0), 1, 1) := by kernel_rfl

section
variable (bp : Nat) (s : ByteArray) (i : Nat) (vL : Value) (at0 dp : Nat) (w : World)

/-- What quoted answers. -/
def QP (R : Except Nat (List UInt8 × Nat)) (r : Ending) (w' : World) : Prop :=
  match R with
  | .ok (t, n) => r = .returned (.string ⟨t.toArray⟩) ∧ RD bp s (i + n) vL 0 at0 dp w'
  | .error o => (∃ t, r = .returned (.string t)) ∧ ∃ j, RD bp s j vL 2 (i + o) dp w'

/-- Within its loop. -/
def QI (v : Value) (wr : World) : Prop :=
  Onl bp w wr ∧ ((∃ k f acc, (sfx s (i + 1 + k)).length < f ∧ i + 1 + k ≤ s.size + 12 ∧ acc.length ≤ k ∧ strL (sfx s (i + 1)) = shiftS acc k (strF f (sfx s (i + 1 + k))) ∧ OwnB w.heap.size 5 v acc wr ∧ RD bp s (i + 1 + k) vL 0 at0 dp wr) ∨
    (∃ o j acc, strL (sfx s (i + 1)) = .error o ∧ OwnB w.heap.size 5 v acc wr ∧ RD bp s j vL 2 (i + 1 + o) dp wr))
def QM (wr : World) : Nat := if posOf (wr.cell? ⟨bp, 3, none⟩) = 0 then s.size + 13 - posOf (wr.cell? ⟨bp, 1, none⟩) + 1 else 0

theorem QM_er {j er a d : Nat} {w' : World} (h : RD bp s j vL er a d w') (he : 0 < er) : QM bp s w' = 0 := by
  unfold QM; rw [h.cell.2.2.2.1, if_neg (by simp [posOf]; omega)]
theorem QM_ok {j a d : Nat} {w' : World} (h : RD bp s j vL 0 a d w') : QM bp s w' = s.size + 13 - j + 1 := by
  unfold QM; rw [h.cell.2.2.2.1, pos_rd h]; simp [posOf]
theorem onl_belowB {w' : World} {wr : World} (ho : Onl bp w wr) (hb : Below w.heap.size wr w') : Onl bp w w' :=
  ⟨hb.os.trans ho.os, hb.tape.trans ho.tape, hb.output.trans ho.output, Nat.le_trans ho.size hb.size, fun k hk hn => (hb.block k hk).trans (ho.block k hk hn)⟩
theorem RD.belowB {j er a d : Nat} {w' wr : World} (h : RD bp s j vL er a d wr) (hlt : bp < w.heap.size) (hb : Below w.heap.size wr w') : RD bp s j vL er a d w' := by
  unfold RD; rw [hb.block _ hlt]; exact h
theorem OwnB.onl {B : Nat} {e : TypeId} {v : Value} {l : List UInt8} {wa wb : World} (h : OwnB B e v l wa) (ho : Onl bp wa wb) (hlt : bp < B) : OwnB B e v l wb := by
  rcases h with h | ⟨g, cap, cur, fz, hv, hB, hg, rest⟩
  · exact .inl h
  · refine .inr ⟨g, cap, cur, fz, hv, hB, ?_, rest⟩
    have := (Array.getElem?_eq_some_iff.1 hg).1
    rw [ho.block _ this (fun e => by injection e with e; omega)]; exact hg

set_option maxRecDepth 4000 in
set_option maxHeartbeats 1000000 in
theorem rquoted (hs : s.size ≤ 140737488340000) (h : RD bp s i vL 0 at0 dp w) :
    Calls Tryd.prog 20 #[.pointer (some ⟨bp, 0, none⟩)] w fun r w' => QP bp s i vL at0 dp (quotL (sfx s i)) r w' ∧ Onl bp w w' := by
  have hlt := h.lt
  obtain ⟨i0, hi0, hz0, hz1, hz2⟩ := info_parts u8infoJ
  have HI : Hid _ := hi0
  clear hi0
  by_cases hq : (sfx s i).head? = some 34
  · have hi := head_lt hq
    have hsi : s[i] = 34 := by rw [sfx_cons s i hi] at hq; simpa using hq
    have hR : quotL (sfx s i) = (match strL (sfx s (i + 1)) with | .ok (t, n) => .ok (t, n + 1) | .error o => .error (o + 1)) := by
      rw [sfx_cons s i hi, quotL, if_pos hsi]; rfl
    have HR : Hid _ := hR
    clear hR
    have hm : Calls Tryd.prog 34 #[.pointer (some ⟨bp, 0, none⟩), .int .u8 34] w fun r w' => r = .returned (.tuple #[]) ∧ RD bp s (i + 1) vL 0 at0 dp w' ∧ Onl bp w w' := rmust_ok bp s i vL at0 dp 34 w (by omega) h hq
    clear hq hsi
    go_enter Tryd.func20, Tryd.ntmps20
    go_wp2_with fail
    refine hm.mono ?_
    rintro e w1 ⟨rfl, h1, o1⟩
    have H1 : Hid (RD bp s (i + 1) vL 0 at0 dp w1) := h1
    have O1 : Hid (Onl bp w w1) := o1
    clear h1 o1 hm
    go_wp2_with fail
    go_loopw [3] (fun v wr => QI bp s i vL at0 dp w v wr) (fun _ wr => QM bp s wr)
    case atStart =>
      refine ⟨O1.out, .inl ⟨0, (sfx s (i + 1)).length + 1, [], by simp, by omega, by simp, ?_, .inl ⟨rfl, rfl⟩, H1.out⟩⟩
      show strL (sfx s (i + 1)) = shiftS [] 0 (strF ((sfx s (i + 1)).length + 1) (sfx s (i + 1)))
      unfold strL
      cases strF ((sfx s (i + 1)).length + 1) (sfx s (i + 1)) with
      | ok p => obtain ⟨a, b⟩ := p; simp [shiftS]
      | error o => simp [shiftS]
    case round =>
      clear H1 O1
      obtain ⟨ho, hcase⟩ := hrel
      have HO : Hid (Onl bp w wr) := ho
      clear ho
      rcases hcase with ⟨k, f, acc, hf, hk, hal, he, hown, hrd⟩ | ⟨o, j, acc, he, hown, hrd⟩
      · generalize hp : i + 1 + k = p at hf hk he hrd
        have HP : Hid (i + 1 + k = p) := hp
        have HE : Hid (strL (sfx s (i + 1)) = shiftS acc k (strF f (sfx s p))) := he
        have HW : Hid (OwnB w.heap.size 5 u3 acc wr) := hown
        have HM : Hid (QM bp s wr = s.size + 13 - p + 1) := by
          show QM bp s wr = _
          unfold QM; rw [hrd.cell.2.2.2.1, pos_rd hrd]; simp [posOf]
        obtain ⟨f, rfl⟩ : ∃ g, f = g + 1 := ⟨f - 1, by omega⟩
        have hr : ∀ b, isAt 0 (sfx s p) 34 = b → Calls Tryd.prog 19 #[.pointer (some ⟨bp, 0, none⟩), .int .u8 34] wr fun r w'' => r = .returned (.bool b) ∧ RD bp s p vL 0 at0 dp w'' ∧ Onl bp wr w'' :=
          fun b hb => hb ▸ (ris bp s p vL 0 at0 dp 34 wr hrd).mono fun e w'' ⟨he, n, hw⟩ => ⟨he, hw ▸ hrd.drewN n, hw ▸ (onl_refl bp wr).drewN n⟩
        obtain ⟨c0, c1, c2, c3, c4, c5, cf⟩ := hrd.cell
        have hacc : acc.length ≤ 140737488340020 := by omega
        have HA : Hid (acc.length ≤ 140737488340020) := hacc
        clear hp he hown hacc
        by_cases h34 : (sfx s p).head? = some 34
        · have hr1 := hr true (isAt_yes h34)
          have hF : strF (f + 1) (sfx s p) = .ok ([], 1) := by
            have hps := head_lt h34
            rw [sfx_cons s p hps] at h34 ⊢
            have h34 : s[p] = 34 := by simpa using h34
            rw [strF]; simp [h34]
          have HF : Hid _ := hF
          have hmu : ∀ w', RD bp s p vL 0 at0 dp w' → Calls Tryd.prog 34 #[.pointer (some ⟨bp, 0, none⟩), .int .u8 34] w' fun r w'' => r = .returned (.tuple #[]) ∧ RD bp s (p + 1) vL 0 at0 dp w'' ∧ Onl bp w' w'' := fun w' h' => rmust_ok bp s p vL at0 dp 34 w' (by omega) h' h34
          clear h34 hF hr hf hk
          go_wp2_with fail
          refine hr1.mono ?_
          rintro e w2 ⟨rfl, h2, o2⟩
          have H2 : Hid (RD bp s p vL 0 at0 dp w2) := h2
          have O2 : Hid (Onl bp w w2) := Onl.trans HO.out o2
          have W2 : Hid (OwnB w.heap.size 5 u3 acc w2) := OwnB.onl bp HW.out o2 hlt
          clear h2 o2 hr1 c0 c1 c2 c3 c4 c5 cf hrd HO HW
          go_wp2_with fail
          refine (hmu _ H2.out).mono ?_
          rintro e w3 ⟨rfl, h3, o3⟩
          have H3 : Hid (RD bp s (p + 1) vL 0 at0 dp w3) := h3
          have O3 : Hid (Onl bp w w3) := Onl.trans O2.out o3
          have hs3 := (OwnB.onl bp W2.out o3 hlt).str (P := Tryd.prog) (t := 64) (d := 9) Tryd.underlying64 Tryd.underlying5 Tryd.underlying9
          clear h3 o3 hmu H2 O2 W2
          go_wp2
          go_ret
          refine ⟨?_, O3.out⟩
          have e1 := HE.out
          rw [HF.out] at e1
          have e2 : shiftS acc k (.ok ([], 1)) = .ok (acc, k + 1) := by simp [shiftS]
          rw [HR.out, e1, e2]
          refine ⟨rfl, ?_⟩
          have : i + (k + 1 + 1) = p + 1 := by have := HP.out; omega
          rw [this]; exact H3.out
        · have hr1 := hr false (isAt_no h34)
          clear hr
          by_cases hps : p < s.size
          · have hcons := sfx_cons s p hps
            have hne34 : s[p] ≠ 34 := by rw [hcons] at h34; simpa using h34
            have hp1 : (p : Int) < (s.size : Int) := by omega
            have hp2 : decide ((s.size : Int) ≤ (p : Int)) = false := by simp; omega
            clear h34
            by_cases h32 : s[p].toNat < 32
            · have hF : strF (f + 1) (sfx s p) = .error 0 := by rw [hcons, strF]; simp [hne34, h32]
              have HF : Hid _ := hF
              have hlt32 : (s[p].toNat : Int) < 32 := by omega
              clear hF hcons hne34 h32 hf hk
              go_wp2_with fail
              refine hr1.mono ?_
              rintro e w2 ⟨rfl, h2, o2⟩
              have O2 : Hid (Onl bp w w2) := Onl.trans HO.out o2
              have W2 : Hid (OwnB w.heap.size 5 u3 acc w2) := OwnB.onl bp HW.out o2 hlt
              clear o2 hr1 c0 c1 c2 c3 c4 c5 cf hrd HO HW
              obtain ⟨c0, c1, c2, c3, c4, c5, cf⟩ := h2.cell
              go_wp2_with fail
              go_quiet (fail)
              have h3 := h2.drewN nq
              have O3 : Hid (Onl bp w (w2.drewN nq)) := Onl.drewN O2.out nq
              have W3 : Hid (OwnB w.heap.size 5 u3 acc (w2.drewN nq)) := W2.out
              generalize w2.drewN nq = w3 at h3 O3 W3
              clear c0 c1 c2 c3 c4 c5 cf h2 O2 W2 nq w2
              obtain ⟨c0, c1, c2, c3, c4, c5, cf⟩ := h3.cell
              have hfa := rfail0 bp s p vL at0 dp 2 p _ h3
              go_wp2_with fail
              refine hfa.mono ?_
              rintro e w7 ⟨rfl, h7, o7⟩
              have H7 : Hid (RD bp s p vL 2 p dp w7) := h7
              have O7 : Hid (Onl bp w w7) := Onl.trans O3.out o7
              clear h7 o7 hfa
              go_wp2
              go_ret
              refine ⟨?_, O7.out⟩
              have e1 := HE.out
              rw [HF.out] at e1
              rw [HR.out, e1]
              refine ⟨⟨_, rfl⟩, p, ?_⟩
              have : i + (k + 0 + 1) = p := by have := HP.out; omega
              rw [this]; exact H7.out
            · have hge32 : decide ((s[p].toNat : Int) < 32) = false := by simp; omega
              by_cases h92 : s[p] = 92
              · have h92b : ((s[p].toNat : Int) == 92) = true := by rw [h92]; rfl
                have hesc := fun w' (h' : RD bp s p vL 0 at0 dp w') => rescape bp s p vL at0 dp w' (by omega) h' hps
                have hFF : strF (f + 1) (sfx s p) = (match escL (sfx s p) with | .error o => .error o | .ok (t, n) => shiftS t n (strF f ((sfx s p).drop n))) := by
                  rw [hcons, strF]; simp [h92]; rfl
                cases hE2 : escL (sfx s p) with
                | error o =>
                  rw [hE2] at hFF
                  have HF : Hid (strF (f + 1) (sfx s p) = .error o) := hFF
                  have hes := fun w' h' => (hesc w' h').2 o hE2
                  clear hFF hesc hE2 hcons hne34 h32 h92 hf hk
                  go_wp2_with fail
                  refine hr1.mono ?_
                  rintro e w2 ⟨rfl, h2, o2⟩
                  have O2 : Hid (Onl bp w w2) := Onl.trans HO.out o2
                  have W2 : Hid (OwnB w.heap.size 5 u3 acc w2) := OwnB.onl bp HW.out o2 hlt
                  clear o2 hr1 c0 c1 c2 c3 c4 c5 cf hrd HO HW
                  obtain ⟨c0, c1, c2, c3, c4, c5, cf⟩ := h2.cell
                  go_wp2_with fail
                  go_quiet (fail)
                  have h3 := h2.drewN nq
                  have O3 : Hid (Onl bp w (w2.drewN nq)) := Onl.drewN O2.out nq
                  have W3 : Hid (OwnB w.heap.size 5 u3 acc (w2.drewN nq)) := W2.out
                  generalize w2.drewN nq = w3 at h3 O3 W3
                  clear c0 c1 c2 c3 c4 c5 cf h2 O2 W2 nq w2
                  obtain ⟨c0, c1, c2, c3, c4, c5, cf⟩ := h3.cell
                  go_wp2_with fail
                  go_quiet (fail)
                  have h4 := h3.drewN nq
                  have O4 : Hid (Onl bp w (w3.drewN nq)) := Onl.drewN O3.out nq
                  have W4 : Hid (OwnB w.heap.size 5 u3 acc (w3.drewN nq)) := W3.out
                  generalize w3.drewN nq = w4 at h4 O4 W4
                  clear c0 c1 c2 c3 c4 c5 cf h3 O3 W3 nq w3
                  obtain ⟨c0, c1, c2, c3, c4, c5, cf⟩ := h4.cell
                  go_wp2_with fail
                  refine (hes _ h4).mono ?_
                  rintro e w5 ⟨rfl, ⟨j, h5⟩, o5⟩
                  have H5 : Hid (RD bp s j vL 2 (p + o) dp w5) := h5
                  have O5 : Hid (Onl bp w w5) := Onl.trans O4.out o5
                  have W5 : Hid (OwnB w.heap.size 5 u3 acc w5) := OwnB.onl bp W4.out o5 hlt
                  have hz5 := O5.out.size
                  clear h5 o5 hes c0 c1 c2 c3 c4 c5 cf h4 O4 W4 hge32 h92b hp2 hal
                  go_wp2_with (refine wp_appS rfl (.tmp 58) (.tmp 59) 64 9 rfl 5 i0 Tryd.underlying64 Tryd.underlying9 HI.out hz0 hz1 hz2 w.heap.size _ acc ⟨#[]⟩ rfl rfl (by show acc.length + 0 ≤ 140737488355328; have := HA.out; omega) W5.out hz5 ?_; intro v6 w6 ho6 hb6; have W6 : Hid _ := ho6; clear ho6)
                  have h7 := RD.belowB bp s vL w H5.out hlt hb6
                  refine ⟨⟨onl_belowB bp w O5.out hb6, .inr ⟨k + o, j, _, ?_, W6.out, ?_⟩⟩, ?_⟩
                  · rw [HE.out, HF.out]; rfl
                  · rw [show i + 1 + (k + o) = p + o by have := HP.out; omega]; exact h7
                  · rw [QM_er bp s vL h7 (by omega), HM.out]; omega
                | ok q =>
                  obtain ⟨tt, n⟩ := q
                  obtain ⟨hb1, hb2, hb3⟩ := escL_ok hE2
                  rw [hE2] at hFF
                  have HF : Hid (strF (f + 1) (sfx s p) = shiftS tt n (strF f ((sfx s p).drop n))) := hFF
                  have hes := fun w' h' => (hesc w' h').1 tt n hE2
                  have HL : Hid ((sfx s p).length < f + 1) := hf
                  have HB : Hid (tt.length ≤ n ∧ 2 ≤ n ∧ n ≤ 12) := ⟨hb1, hb2, hb3⟩
                  clear hFF hesc hE2 hcons hne34 h32 h92 hf hk hb1 hb2 hb3
                  go_wp2_with fail
                  refine hr1.mono ?_
                  rintro e w2 ⟨rfl, h2, o2⟩
                  have O2 : Hid (Onl bp w w2) := Onl.trans HO.out o2
                  have W2 : Hid (OwnB w.heap.size 5 u3 acc w2) := OwnB.onl bp HW.out o2 hlt
                  clear o2 hr1 c0 c1 c2 c3 c4 c5 cf hrd HO HW
                  obtain ⟨c0, c1, c2, c3, c4, c5, cf⟩ := h2.cell
                  go_wp2_with fail
                  go_quiet (fail)
                  have h3 := h2.drewN nq
                  have O3 : Hid (Onl bp w (w2.drewN nq)) := Onl.drewN O2.out nq
                  have W3 : Hid (OwnB w.heap.size 5 u3 acc (w2.drewN nq)) := W2.out
                  generalize w2.drewN nq = w3 at h3 O3 W3
                  clear c0 c1 c2 c3 c4 c5 cf h2 O2 W2 nq w2
                  obtain ⟨c0, c1, c2, c3, c4, c5, cf⟩ := h3.cell
                  go_wp2_with fail
                  go_quiet (fail)
                  have h4 := h3.drewN nq
                  have O4 : Hid (Onl bp w (w3.drewN nq)) := Onl.drewN O3.out nq
                  have W4 : Hid (OwnB w.heap.size 5 u3 acc (w3.drewN nq)) := W3.out
                  generalize w3.drewN nq = w4 at h4 O4 W4
                  clear c0 c1 c2 c3 c4 c5 cf h3 O3 W3 nq w3
                  obtain ⟨c0, c1, c2, c3, c4, c5, cf⟩ := h4.cell
                  go_wp2_with fail
                  refine (hes _ h4).mono ?_
                  rintro e w5 ⟨rfl, h5, o5⟩
                  have H5 : Hid (RD bp s (p + n) vL 0 at0 dp w5) := h5
                  have O5 : Hid (Onl bp w w5) := Onl.trans O4.out o5
                  have W5 : Hid (OwnB w.heap.size 5 u3 acc w5) := OwnB.onl bp W4.out o5 hlt
                  have hz5 := O5.out.size
                  clear h5 o5 hes c0 c1 c2 c3 c4 c5 cf h4 O4 W4 hge32 h92b hp2
                  go_wp2_with (refine wp_appS rfl (.tmp 58) (.tmp 59) 64 9 rfl 5 i0 Tryd.underlying64 Tryd.underlying9 HI.out hz0 hz1 hz2 w.heap.size _ acc ⟨tt.toArray⟩ rfl rfl (by show acc.length + tt.length ≤ 140737488355328; have := HA.out; have := HB.out; omega) W5.out hz5 ?_; intro v6 w6 ho6 hb6; have W6 : Hid (OwnB w.heap.size 5 v6 (acc ++ tt) w6) := ho6; clear ho6)
                  have h7 := RD.belowB bp s vL w H5.out hlt hb6
                  obtain ⟨hb1, hb2, hb3⟩ := HB.out
                  refine ⟨⟨onl_belowB bp w O5.out hb6, .inl ⟨k + n, f, acc ++ tt, ?_, ?_, ?_, ?_, W6.out, ?_⟩⟩, ?_⟩
                  · rw [show i + 1 + (k + n) = p + n by have := HP.out; omega]; have := HL.out; rw [sfx_length] at this ⊢; omega
                  · have := HP.out; omega
                  · rw [List.length_append]; omega
                  · rw [HE.out, HF.out, shiftS_shiftS, sfx_drop, show i + 1 + (k + n) = p + n by have := HP.out; omega]
                  · rw [show i + 1 + (k + n) = p + n by have := HP.out; omega]; exact h7
                  · rw [QM_ok bp s vL h7, HM.out]; omega
              · have h92b : ((s[p].toNat : Int) == 92) = false := u8_ne (k := 92) (by omega) h92
                have hsq := fun w' => rsequence s p w' hps (by omega)
                by_cases hz : seqLen (sfx s p) = 0
                · have hF : strF (f + 1) (sfx s p) = .error 0 := by
                    have hz' := hz
                    rw [hcons] at hz' ⊢
                    rw [strF]; simp [hne34, h32, h92, hz']
                  have HF : Hid _ := hF
                  rw [hz] at hsq
                  clear hF hcons hne34 h32 h92 hf hk hz
                  go_wp2_with fail
                  refine hr1.mono ?_
                  rintro e w2 ⟨rfl, h2, o2⟩
                  have O2 : Hid (Onl bp w w2) := Onl.trans HO.out o2
                  have W2 : Hid (OwnB w.heap.size 5 u3 acc w2) := OwnB.onl bp HW.out o2 hlt
                  clear o2 hr1 c0 c1 c2 c3 c4 c5 cf hrd HO HW
                  obtain ⟨c0, c1, c2, c3, c4, c5, cf⟩ := h2.cell
                  go_wp2_with fail
                  go_quiet (fail)
                  have h3 := h2.drewN nq
                  have O3 : Hid (Onl bp w (w2.drewN nq)) := Onl.drewN O2.out nq
                  have W3 : Hid (OwnB w.heap.size 5 u3 acc (w2.drewN nq)) := W2.out
                  generalize w2.drewN nq = w3 at h3 O3 W3
                  clear c0 c1 c2 c3 c4 c5 cf h2 O2 W2 nq w2
                  obtain ⟨c0, c1, c2, c3, c4, c5, cf⟩ := h3.cell
                  go_wp2_with fail
                  go_quiet (fail)
                  have h4 := h3.drewN nq
                  have O4 : Hid (Onl bp w (w3.drewN nq)) := Onl.drewN O3.out nq
                  have W4 : Hid (OwnB w.heap.size 5 u3 acc (w3.drewN nq)) := W3.out
                  generalize w3.drewN nq = w4 at h4 O4 W4
                  clear c0 c1 c2 c3 c4 c5 cf h3 O3 W3 nq w3
                  obtain ⟨c0, c1, c2, c3, c4, c5, cf⟩ := h4.cell
                  go_wp2_with fail
                  go_quiet ((go_at_call 36; exact Calls.quiet_of_same (hsq _)))
                  have h5 := h4.drewN nq
                  have O5 : Hid (Onl bp w (w4.drewN nq)) := Onl.drewN O4.out nq
                  have W5 : Hid (OwnB w.heap.size 5 u3 acc (w4.drewN nq)) := W4.out
                  generalize w4.drewN nq = w5 at h5 O5 W5
                  clear c0 c1 c2 c3 c4 c5 cf h4 O4 W4 nq w4 hsq
                  obtain ⟨c0, c1, c2, c3, c4, c5, cf⟩ := h5.cell
                  have hfa := rfail0 bp s p vL at0 dp 2 p _ h5
                  go_wp2_with fail
                  refine hfa.mono ?_
                  rintro e w7 ⟨rfl, h7, o7⟩
                  have H7 : Hid (RD bp s p vL 2 p dp w7) := h7
                  have O7 : Hid (Onl bp w w7) := Onl.trans O5.out o7
                  clear h7 o7 hfa
                  go_wp2
                  go_ret
                  refine ⟨?_, O7.out⟩
                  have e1 := HE.out
                  rw [HF.out] at e1
                  rw [HR.out, e1]
                  refine ⟨⟨_, rfl⟩, p, ?_⟩
                  have : i + (k + 0 + 1) = p := by have := HP.out; omega
                  rw [this]; exact H7.out
                · have hF : strF (f + 1) (sfx s p) = shiftS ((sfx s p).take (seqLen (sfx s p))) (seqLen (sfx s p)) (strF f ((sfx s p).drop (seqLen (sfx s p)))) := by
                    have hz' := hz
                    rw [hcons] at hz' ⊢
                    rw [strF]; simp [hne34, h32, h92, hz']
                  have hl4 := seqLen_le4 (sfx s p)
                  have hll := seqLen_len (sfx s p)
                  rw [sfx_length] at hll
                  generalize seqLen (sfx s p) = n at hz hF hl4 hll hsq
                  have HF : Hid _ := hF
                  have HL : Hid ((sfx s p).length < f + 1) := hf
                  have HB : Hid (n ≠ 0 ∧ n ≤ 4 ∧ n ≤ s.size - p) := ⟨hz, hl4, hll⟩
                  have hn0 : ((n : Int) == 0) = false := by simp; omega
                  have hpn : (p : Int) + (n : Int) ≤ (s.size : Int) := by omega
                  have hpn2 : p + n ≤ s.size := by omega
                  clear hF hcons hne34 h32 h92 hf hk hz hl4 hll
                  go_wp2_with fail
                  refine hr1.mono ?_
                  rintro e w2 ⟨rfl, h2, o2⟩
                  have O2 : Hid (Onl bp w w2) := Onl.trans HO.out o2
                  have W2 : Hid (OwnB w.heap.size 5 u3 acc w2) := OwnB.onl bp HW.out o2 hlt
                  clear o2 hr1 c0 c1 c2 c3 c4 c5 cf hrd HO HW
                  obtain ⟨c0, c1, c2, c3, c4, c5, cf⟩ := h2.cell
                  go_wp2_with fail
                  go_quiet (fail)
                  have h3 := h2.drewN nq
                  have O3 : Hid (Onl bp w (w2.drewN nq)) := Onl.drewN O2.out nq
                  have W3 : Hid (OwnB w.heap.size 5 u3 acc (w2.drewN nq)) := W2.out
                  generalize w2.drewN nq = w3 at h3 O3 W3
                  clear c0 c1 c2 c3 c4 c5 cf h2 O2 W2 nq w2
                  obtain ⟨c0, c1, c2, c3, c4, c5, cf⟩ := h3.cell
                  go_wp2_with fail
                  go_quiet (fail)
                  have h4 := h3.drewN nq
                  have O4 : Hid (Onl bp w (w3.drewN nq)) := Onl.drewN O3.out nq
                  have W4 : Hid (OwnB w.heap.size 5 u3 acc (w3.drewN nq)) := W3.out
                  generalize w3.drewN nq = w4 at h4 O4 W4
                  clear c0 c1 c2 c3 c4 c5 cf h3 O3 W3 nq w3
                  obtain ⟨c0, c1, c2, c3, c4, c5, cf⟩ := h4.cell
                  go_wp2_with fail
                  go_quiet ((go_at_call 36; exact Calls.quiet_of_same (hsq _)))
                  have h5 := h4.drewN nq
                  have O5 : Hid (Onl bp w (w4.drewN nq)) := Onl.drewN O4.out nq
                  have W5 : Hid (OwnB w.heap.size 5 u3 acc (w4.drewN nq)) := W4.out
                  generalize w4.drewN nq = w5 at h5 O5 W5
                  clear c0 c1 c2 c3 c4 c5 cf h4 O4 W4 nq w4 hsq
                  obtain ⟨c0, c1, c2, c3, c4, c5, cf⟩ := h5.cell
                  have f1 := cf 1
                  have hz5 := O5.out.size
                  clear hge32 h92b hp2
                  go_wp2_with fail
                  have HC : Hid (w5.cell? ⟨bp, 0, none⟩ = some (.string s) ∧ w5.cell? ⟨bp, 1, none⟩ = some (.int .i64 (p : Int))) := ⟨c0, c1⟩
                  have H5 : Hid (RD bp s p vL 0 at0 dp w5) := h5
                  have HZ5 : Hid (w.heap.size ≤ w5.heap.size) := hz5
                  clear h5 hz5
                  obtain ⟨q, hq⟩ : ∃ q : Nat, p + n = q := ⟨_, rfl⟩
                  have hq1 : IntKind.i64.wrap ((p : Int) + (n : Int)) = (q : Int) := by rw [i64w _ (by omega)]; omega
                  have hq2 : (p : Int) ≤ (q : Int) := by omega
                  have hq3 : (q : Int) ≤ (s.size : Int) := by omega
                  have HQ : Hid (p + n = q) := hq
                  clear hq hpn hpn2
                  go_region_held3 (fun w' => w'.cell? ⟨bp, 0, none⟩ = some (.string s) ∧ w'.cell? ⟨bp, 1, none⟩ = some (.int .i64 (p : Int))) (go_keep) (first | (refine stepS rfl (.tmp 78) (.tmp 93) 64 9 rfl 5 i0 Tryd.underlying64 Tryd.underlying9 HI.out hz0 hz1 hz2 w.heap.size _ acc (s.extract p q) rfl rfl (by have := HA.out; have := HB.out; have := HQ.out; simp; omega) W5.out HZ5.out ?_; intro v6 w6 ho6 hb6; have s0 := (hb6.cell (p := ⟨bp, 0, none⟩) hlt).trans HC.out.1; have s1 := (hb6.cell (p := ⟨bp, 1, none⟩) hlt).trans HC.out.2; have W6 : Hid _ := ho6; have HB6 : Hid _ := hb6; clear ho6 hb6))
                  have h7 := RD.belowB bp s vL w (wr := w5.drew) H5.out hlt HB6.out
                  have O6 : Hid (Onl bp w w6) := onl_belowB bp w (wr := w5.drew) (Onl.drewN O5.out 1) HB6.out
                  clear s0 s1 c0 c1 c2 c3 c4 c5 cf f1 HC O5 W5 HZ5
                  obtain ⟨c0, c1, c2, c3, c4, c5, cf⟩ := h7.cell
                  have f1 := cf 1
                  have hq4 : (p : Int) + (n : Int) = (q : Int) := by have := HQ.out; omega
                  clear hq1
                  go_wp2_with fail
                  have h8 := h7.setI q
                  have o8 : Onl bp w6 (w6.setCell ⟨bp, 1, none⟩ (.int .i64 (q : Int))) := Onl.setCell (onl_refl bp w6) _ h7
                  have hqp := HQ.out
                  obtain ⟨hb1, hb2, hb3⟩ := HB.out
                  refine ⟨⟨Onl.trans O6.out o8, .inl ⟨k + n, f, acc ++ (sfx s p).take n, ?_, ?_, ?_, ?_, ?_, ?_⟩⟩, ?_⟩
                  · rw [show i + 1 + (k + n) = p + n by have := HP.out; omega]; have := HL.out; rw [sfx_length] at this ⊢; omega
                  · have := HP.out; omega
                  · rw [List.length_append, List.length_take]; omega
                  · rw [HE.out, HF.out, shiftS_shiftS, sfx_drop, show i + 1 + (k + n) = p + n by have := HP.out; omega]
                  · have hx := OwnB.onl bp W6.out o8 hlt
                    rw [extract_list, show q - p = n by omega] at hx
                    exact hx
                  · rw [show i + 1 + (k + n) = q by have := HP.out; omega]; exact h8
                  · rw [QM_ok bp s vL h8, HM.out]; omega
          · have hF : strF (f + 1) (sfx s p) = .error 0 := by rw [sfx_nil s p (by omega)]; rfl
            have HF : Hid _ := hF
            have hp2 : (s.size : Int) ≤ (p : Int) := by omega
            have hp3 : s.size ≤ p := by omega
            clear hF hf hk hps h34
            go_wp2_with fail
            refine hr1.mono ?_
            rintro e w2 ⟨rfl, h2, o2⟩
            have O2 : Hid (Onl bp w w2) := Onl.trans HO.out o2
            have W2 : Hid (OwnB w.heap.size 5 u3 acc w2) := OwnB.onl bp HW.out o2 hlt
            clear o2 hr1 c0 c1 c2 c3 c4 c5 cf hrd HO HW
            obtain ⟨c0, c1, c2, c3, c4, c5, cf⟩ := h2.cell
            go_wp2_with fail
            go_quiet (fail)
            have h3 := h2.drewN nq
            have O3 : Hid (Onl bp w (w2.drewN nq)) := Onl.drewN O2.out nq
            have W3 : Hid (OwnB w.heap.size 5 u3 acc (w2.drewN nq)) := W2.out
            generalize w2.drewN nq = w3 at h3 O3 W3
            clear c0 c1 c2 c3 c4 c5 cf h2 O2 W2 nq w2
            obtain ⟨c0, c1, c2, c3, c4, c5, cf⟩ := h3.cell
            have hfa := rfail0 bp s p vL at0 dp 2 p _ h3
            go_wp2_with fail
            refine hfa.mono ?_
            rintro e w7 ⟨rfl, h7, o7⟩
            have H7 : Hid (RD bp s p vL 2 p dp w7) := h7
            have O7 : Hid (Onl bp w w7) := Onl.trans O3.out o7
            clear h7 o7 hfa
            go_wp2
            go_ret
            refine ⟨?_, O7.out⟩
            have e1 := HE.out
            rw [HF.out] at e1
            rw [HR.out, e1]
            refine ⟨⟨_, rfl⟩, p, ?_⟩
            have : i + (k + 0 + 1) = p := by have := HP.out; omega
            rw [this]; exact H7.out
      · have HE : Hid (strL (sfx s (i + 1)) = .error o) := he
        obtain ⟨c0, c1, c2, c3, c4, c5, cf⟩ := hrd.cell
        have hmu : Calls Tryd.prog 34 #[.pointer (some ⟨bp, 0, none⟩), .int .u8 34] wr fun r w'' => r = .returned (.tuple #[]) ∧ ∃ n, w'' = wr.drewN n := rmust_er bp s j vL 2 (i + 1 + o) dp 34 wr hrd (by omega)
        clear he
        go_wp2_with fail
        refine hmu.mono ?_
        rintro e w3 ⟨rfl, n, hw3⟩
        rw [hw3]; clear hw3 w3
        have hs3 := OwnB.str (P := Tryd.prog) (t := 64) (d := 9) (w := wr.drewN n) Tryd.underlying64 Tryd.underlying5 Tryd.underlying9 (show OwnB w.heap.size 5 u3 acc (wr.drewN n) from hown)
        go_wp2
        go_ret
        refine ⟨?_, Onl.drewN HO.out n⟩
        rw [HR.out, HE.out]
        refine ⟨⟨_, rfl⟩, j, ?_⟩
        rw [show i + (o + 1) = i + 1 + o by omega]; exact hrd
  · have hR : quotL (sfx s i) = .error 0 := by
      match hsx : sfx s i with
      | [] => rfl
      | c :: r => rw [hsx] at hq; rw [quotL, if_neg (by simpa using hq)]
    rw [hR]
    have hm : Calls Tryd.prog 34 #[.pointer (some ⟨bp, 0, none⟩), .int .u8 34] w fun r w' => r = .returned (.tuple #[]) ∧ RD bp s i vL 2 i dp w' ∧ Onl bp w w' := rmust_no bp s i vL at0 dp 34 w h hq
    clear hq hR
    go_enter Tryd.func20, Tryd.ntmps20
    go_wp2_with fail
    refine hm.mono ?_
    rintro e w1 ⟨rfl, h1, o1⟩
    have O1 : Hid (Onl bp w w1) := o1
    clear o1 hm
    obtain ⟨c0, c1, c2, c3, c4, c5, cf⟩ := h1.cell
    have hmu : Calls Tryd.prog 34 #[.pointer (some ⟨bp, 0, none⟩), .int .u8 34] w1 fun r w'' => r = .returned (.tuple #[]) ∧ ∃ n, w'' = w1.drewN n := rmust_er bp s i vL 2 i dp 34 w1 h1 (by omega)
    go_wp2_with fail
    refine wp_loop_once ?_
    go_wp2_with fail
    refine hmu.mono ?_
    rintro e w3 ⟨rfl, n, hw3⟩
    rw [hw3]; clear hw3 w3
    have hs3 := OwnB.str (P := Tryd.prog) (B := 0) (t := 64) (d := 9) (w := w1.drewN n) Tryd.underlying64 Tryd.underlying5 Tryd.underlying9 (v := .slice none 0 0) (l := []) (.inl ⟨rfl, rfl⟩)
    go_wp2
    go_ret
    exact ⟨⟨⟨_, rfl⟩, i, h1⟩, Onl.drewN O1.out n⟩
end
end Go.Proofs.YtaghclgookfmnaaDoor
