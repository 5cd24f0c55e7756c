import Derived.Test.YtaghclgookfmnaaDoorJRd
/-
  The document's reader: must, blanks.
-/
namespace Go.Proofs.YtaghclgookfmnaaDoor
open Go.RowKit
set_option linter.unusedVariables false

theorem isAt_yes {l : List UInt8} {c : UInt8} (h : l.head? = some c) : isAt 0 l c = true := by simp [isAt, h]
theorem isAt_no {l : List UInt8} {c : UInt8} (h : l.head? ≠ some c) : isAt 0 l c = false := by simp [isAt, h]
theorem isAt_er {er : Nat} {l : List UInt8} {c : UInt8} (h : 0 < er) : isAt er l c = false := by simp [isAt]; omega
theorem head_lt {s : ByteArray} {i : Nat} {c : UInt8} (h : (sfx s i).head? = some c) : i < s.size := by
  by_cases hi : i < s.size
  · exact hi
  · rw [sfx_nil s i (by omega)] at h; simp at h

section
variable (bp : Nat) (s : ByteArray) (i : Nat) (vL : Value) (er at0 dp : Nat) (c : UInt8) (w : World)
set_option maxHeartbeats 400000 in
theorem rmust_ok (hs : s.size ≤ 140737488355328) (h : RD bp s i vL 0 at0 dp w) (hc : (sfx s i).head? = some c) :
    Calls Tryd.prog 34 #[.pointer (some ⟨bp, 0, none⟩), .int .u8 (c.toNat : Int)] w fun r w' => r = .returned (.tuple #[]) ∧ RD bp s (i + 1) vL 0 at0 dp w' ∧ Onl bp w w' := by
  have hi := head_lt hc
  have hi2 : i ≤ 140737488355328 := by omega
  have hr := ris bp s i vL 0 at0 dp c w h
  rw [isAt_yes hc] at hr
  clear hc hi
  go_enter Tryd.func34, Tryd.ntmps34
  go_wp2_with fail
  refine hr.mono ?_
  rintro e w1 ⟨rfl, n, hw1⟩
  rw [hw1]; clear hw1 w1 hr
  have h1 := h.drewN n
  have ho : Onl bp w (w.drewN n) := (onl_refl bp w).drewN n
  generalize w.drewN n = w1 at h1 ho
  obtain ⟨c0, c1, c2, c3, c4, c5, cf⟩ := h1.cell
  have f1 := cf 1
  go_wp2
  go_end0
  exact ⟨rfl, h1.setI (i + 1), ho.setCell _ h1⟩
set_option maxHeartbeats 400000 in
theorem rmust_no (h : RD bp s i vL 0 at0 dp w) (hc : (sfx s i).head? ≠ some c) :
    Calls Tryd.prog 34 #[.pointer (some ⟨bp, 0, none⟩), .int .u8 (c.toNat : Int)] w fun r w' => r = .returned (.tuple #[]) ∧ RD bp s i vL 2 i dp w' ∧ Onl bp w w' := by
  have hr := ris bp s i vL 0 at0 dp c w h
  rw [isAt_no hc] at hr
  clear hc
  go_enter Tryd.func34, Tryd.ntmps34
  go_wp2_with fail
  refine hr.mono ?_
  rintro e w1 ⟨rfl, n, hw1⟩
  rw [hw1]; clear hw1 w1 hr
  have h1 := h.drewN n
  have ho : Onl bp w (w.drewN n) := (onl_refl bp w).drewN n
  generalize w.drewN n = w1 at h1 ho
  obtain ⟨c0, c1, c2, c3, c4, c5, cf⟩ := h1.cell
  have hf := rfail0 bp s i vL at0 dp 2 i w1 h1
  go_wp2_with fail
  refine hf.mono ?_
  rintro e w2 ⟨rfl, h2, ho2⟩
  clear hf
  have HO : Hid _ := ho.trans ho2
  clear ho ho2
  go_wp2
  refine bodyPost_ret (results_none rfl _ _ _) rfl ?_
  exact ⟨rfl, h2, HO.out⟩
set_option maxHeartbeats 400000 in
theorem rmust_er (h : RD bp s i vL er at0 dp w) (he : 0 < er) :
    Calls Tryd.prog 34 #[.pointer (some ⟨bp, 0, none⟩), .int .u8 (c.toNat : Int)] w fun r w' => r = .returned (.tuple #[]) ∧ ∃ n, w' = w.drewN n := by
  have hr := ris bp s i vL er at0 dp c w h
  rw [isAt_er he] at hr
  go_enter Tryd.func34, Tryd.ntmps34
  go_wp2_with fail
  refine hr.mono ?_
  rintro e w1 ⟨rfl, n, hw1⟩
  rw [hw1]; clear hw1 w1 hr
  obtain ⟨c0, c1, c2, c3, c4, c5, cf⟩ := (h.drewN n).cell
  have hf := rfail1 bp s i vL er at0 dp 2 i (w.drewN n) (h.drewN n) he
  go_wp2_with fail
  refine hf.mono ?_
  rintro e w2 ⟨rfl, hw2⟩
  rw [hw2]; clear hw2 w2 hf
  go_wp2
  refine bodyPost_ret (results_none rfl _ _ _) rfl ?_
  exact ⟨rfl, n, rfl⟩
end

theorem nb_cons (s : ByteArray) (i : Nat) (h : i < s.size) (hb : isB s[i] = true) : nb (sfx s i) = nb (sfx s (i + 1)) + 1 := by rw [sfx_cons s i h, nb, if_pos hb]
theorem nb_zero (s : ByteArray) (i : Nat) (h : ∀ c, (sfx s i).head? = some c → isB c = false) : nb (sfx s i) = 0 := by
  match hs : sfx s i with
  | [] => rfl
  | c :: r => rw [nb, if_neg (by rw [h c (by rw [hs]; rfl)]; simp)]

def posOf : Option Value → Nat | some (.int _ n) => n.toNat | _ => 0
theorem pos_rd {bp : Nat} {s : ByteArray} {i : Nat} {vL : Value} {er at' dp : Nat} {w : World} (h : RD bp s i vL er at' dp w) : posOf (w.cell? ⟨bp, 1, none⟩) = i := by rw [h.cell.2.1]; rfl
theorem pos_set {bp : Nat} {s : ByteArray} {i : Nat} {vL : Value} {er at' dp : Nat} {w : World} (h : RD bp s i vL er at' dp w) (k : Nat) : posOf ((w.setCell ⟨bp, 1, none⟩ (.int .i64 ((k : Int) + 1))).cell? ⟨bp, 1, none⟩) = k + 1 := pos_rd (h.setI (k + 1))

set_option maxHeartbeats 1000000 in
theorem rblanks (bp : Nat) (s : ByteArray) (i : Nat) (vL : Value) (at0 dp : Nat) (w : World) (hs : s.size ≤ 140737488355328) (h : RD bp s i vL 0 at0 dp w) :
    Calls Tryd.prog 11 #[.pointer (some ⟨bp, 0, none⟩)] w fun r w' => r = .returned (.tuple #[]) ∧ RD bp s (i + nb (sfx s i)) vL 0 at0 dp w' ∧ Onl bp w w' := by
  generalize hE : i + nb (sfx s i) = E
  have HE : Hid (i + nb (sfx s i) = E) := hE
  clear hE
  go_enter Tryd.func11, Tryd.ntmps11
  go_wp2_with fail
  go_loopw [2] (fun v wr => ∃ k : Nat, k + nb (sfx s k) = E ∧ RD bp s k vL 0 at0 dp wr ∧ Onl bp w wr) (fun _ wr => s.size - posOf (wr.cell? ⟨bp, 1, none⟩))
  case atStart => exact ⟨i, HE.out, h, onl_refl bp w⟩
  case round =>
    clear h
    obtain ⟨k, hE, h, ho⟩ := hrel
    have HK : Hid (k + nb (sfx s k) = E) := hE
    have HR : Hid (RD bp s k vL 0 at0 dp wr) := h
    have HO : Hid (Onl bp w wr) := ho
    clear hE h ho HE
    have hr : ∀ (c : UInt8) (b : Bool), isAt 0 (sfx s k) c = b → ∀ w', RD bp s k vL 0 at0 dp w' → Calls Tryd.prog 19 #[.pointer (some ⟨bp, 0, none⟩), .int .u8 (c.toNat : Int)] w' fun r w'' => r = .returned (.bool b) ∧ RD bp s k vL 0 at0 dp w'' ∧ Onl bp w' w'' :=
      fun c b hb w' h' => hb ▸ (ris bp s k vL 0 at0 dp c w' h').mono fun e w'' ⟨he, n, hw⟩ => ⟨he, hw ▸ h'.drewN n, hw ▸ (onl_refl bp w').drewN n⟩
    by_cases hB : k < s.size ∧ ∃ h : k < s.size, isB s[k] = true
    · obtain ⟨hks, _, hB⟩ := hB
      have hh : (sfx s k).head? = some s[k] := by rw [sfx_cons s k hks]; rfl
      have hE2 := HK.out
      rw [nb_cons s k hks hB] at hE2
      have HE2 : Hid (k + (nb (sfx s (k + 1)) + 1) = E) := hE2
      have hk2 : k ≤ 140737488355328 := by omega
      clear hE2 HK
      have hc : s[k] = 32 ∨ s[k] = 9 ∨ s[k] = 10 ∨ s[k] = 13 := by simpa [isB, or_assoc] using hB
      clear hB
      rcases hc with hc | hc | hc | hc
      · rw [hc] at hh
        have hr32 : ∀ w', RD bp s k vL 0 at0 dp w' → Calls Tryd.prog 19 #[.pointer (some ⟨bp, 0, none⟩), .int .u8 32] w' fun r w'' => r = .returned (.bool true) ∧ RD bp s k vL 0 at0 dp w'' ∧ Onl bp w' w'' := hr 32 true (isAt_yes hh)
        have hm : posOf (wr.cell? ⟨bp, 1, none⟩) = k := by rw [HR.out.cell.2.1]; rfl
        have HM : Hid (posOf (wr.cell? ⟨bp, 1, none⟩) = k) := hm
        clear hc hh hr hm
        go_wp2_with fail
        refine (hr32 _ HR.out).mono ?_
        rintro e w1 ⟨rfl, h1, o1⟩
        have HR1 : Hid (RD bp s k vL 0 at0 dp w1) := h1
        have HO1 : Hid (Onl bp w w1) := HO.out.trans o1
        clear h1 o1 HR HO
        obtain ⟨c0, c1, c2, c3, c4, c5, cf⟩ := HR1.out.cell
        have f1 := cf 1
        go_wp2
        refine ⟨⟨k + 1, by have := HE2.out; omega, HR1.out.setI (k + 1), HO1.out.setCell _ HR1.out⟩, ?_⟩
        rw [HM.out, pos_set HR1.out k]; omega
      · rw [hc] at hh
        have hr32 : ∀ w', RD bp s k vL 0 at0 dp w' → Calls Tryd.prog 19 #[.pointer (some ⟨bp, 0, none⟩), .int .u8 32] w' fun r w'' => r = .returned (.bool false) ∧ RD bp s k vL 0 at0 dp w'' ∧ Onl bp w' w'' := hr 32 false (isAt_no (by rw [hh]; decide))
        have hr9 : ∀ w', RD bp s k vL 0 at0 dp w' → Calls Tryd.prog 19 #[.pointer (some ⟨bp, 0, none⟩), .int .u8 9] w' fun r w'' => r = .returned (.bool true) ∧ RD bp s k vL 0 at0 dp w'' ∧ Onl bp w' w'' := hr 9 true (isAt_yes hh)
        have hm : posOf (wr.cell? ⟨bp, 1, none⟩) = k := by rw [HR.out.cell.2.1]; rfl
        have HM : Hid (posOf (wr.cell? ⟨bp, 1, none⟩) = k) := hm
        clear hc hh hr hm
        go_wp2_with fail
        refine (hr32 _ HR.out).mono ?_
        rintro e w1 ⟨rfl, h1, o1⟩
        have HR1 : Hid (RD bp s k vL 0 at0 dp w1) := h1
        have HO1 : Hid (Onl bp w w1) := HO.out.trans o1
        clear h1 o1 HR HO
        go_wp2_with fail
        refine (hr9 _ HR1.out).mono ?_
        rintro e w2 ⟨rfl, h2, o2⟩
        have HR2 : Hid (RD bp s k vL 0 at0 dp w2) := h2
        have HO2 : Hid (Onl bp w w2) := HO1.out.trans o2
        clear h2 o2 HR1 HO1
        obtain ⟨c0, c1, c2, c3, c4, c5, cf⟩ := HR2.out.cell
        have f1 := cf 1
        go_wp2
        refine ⟨⟨k + 1, by have := HE2.out; omega, HR2.out.setI (k + 1), HO2.out.setCell _ HR2.out⟩, ?_⟩
        rw [HM.out, pos_set HR2.out k]; omega
      · rw [hc] at hh
        have hr32 : ∀ w', RD bp s k vL 0 at0 dp w' → Calls Tryd.prog 19 #[.pointer (some ⟨bp, 0, none⟩), .int .u8 32] w' fun r w'' => r = .returned (.bool false) ∧ RD bp s k vL 0 at0 dp w'' ∧ Onl bp w' w'' := hr 32 false (isAt_no (by rw [hh]; decide))
        have hr9 : ∀ w', RD bp s k vL 0 at0 dp w' → Calls Tryd.prog 19 #[.pointer (some ⟨bp, 0, none⟩), .int .u8 9] w' fun r w'' => r = .returned (.bool false) ∧ RD bp s k vL 0 at0 dp w'' ∧ Onl bp w' w'' := hr 9 false (isAt_no (by rw [hh]; decide))
        have hr10 : ∀ w', RD bp s k vL 0 at0 dp w' → Calls Tryd.prog 19 #[.pointer (some ⟨bp, 0, none⟩), .int .u8 10] w' fun r w'' => r = .returned (.bool true) ∧ RD bp s k vL 0 at0 dp w'' ∧ Onl bp w' w'' := hr 10 true (isAt_yes hh)
        have hm : posOf (wr.cell? ⟨bp, 1, none⟩) = k := by rw [HR.out.cell.2.1]; rfl
        have HM : Hid (posOf (wr.cell? ⟨bp, 1, none⟩) = k) := hm
        clear hc hh hr hm
        go_wp2_with fail
        refine (hr32 _ HR.out).mono ?_
        rintro e w1 ⟨rfl, h1, o1⟩
        have HR1 : Hid (RD bp s k vL 0 at0 dp w1) := h1
        have HO1 : Hid (Onl bp w w1) := HO.out.trans o1
        clear h1 o1 HR HO
        go_wp2_with fail
        refine (hr9 _ HR1.out).mono ?_
        rintro e w2 ⟨rfl, h2, o2⟩
        have HR2 : Hid (RD bp s k vL 0 at0 dp w2) := h2
        have HO2 : Hid (Onl bp w w2) := HO1.out.trans o2
        clear h2 o2 HR1 HO1
        go_wp2_with fail
        refine (hr10 _ HR2.out).mono ?_
        rintro e w3 ⟨rfl, h3, o3⟩
        have HR3 : Hid (RD bp s k vL 0 at0 dp w3) := h3
        have HO3 : Hid (Onl bp w w3) := HO2.out.trans o3
        clear h3 o3 HR2 HO2
        obtain ⟨c0, c1, c2, c3, c4, c5, cf⟩ := HR3.out.cell
        have f1 := cf 1
        go_wp2
        refine ⟨⟨k + 1, by have := HE2.out; omega, HR3.out.setI (k + 1), HO3.out.setCell _ HR3.out⟩, ?_⟩
        rw [HM.out, pos_set HR3.out k]; omega
      · rw [hc] at hh
        have hr32 : ∀ w', RD bp s k vL 0 at0 dp w' → Calls Tryd.prog 19 #[.pointer (some ⟨bp, 0, none⟩), .int .u8 32] w' fun r w'' => r = .returned (.bool false) ∧ RD bp s k vL 0 at0 dp w'' ∧ Onl bp w' w'' := hr 32 false (isAt_no (by rw [hh]; decide))
        have hr9 : ∀ w', RD bp s k vL 0 at0 dp w' → Calls Tryd.prog 19 #[.pointer (some ⟨bp, 0, none⟩), .int .u8 9] w' fun r w'' => r = .returned (.bool false) ∧ RD bp s k vL 0 at0 dp w'' ∧ Onl bp w' w'' := hr 9 false (isAt_no (by rw [hh]; decide))
        have hr10 : ∀ w', RD bp s k vL 0 at0 dp w' → Calls Tryd.prog 19 #[.pointer (some ⟨bp, 0, none⟩), .int .u8 10] w' fun r w'' => r = .returned (.bool false) ∧ RD bp s k vL 0 at0 dp w'' ∧ Onl bp w' w'' := hr 10 false (isAt_no (by rw [hh]; decide))
        have hr13 : ∀ w', RD bp s k vL 0 at0 dp w' → Calls Tryd.prog 19 #[.pointer (some ⟨bp, 0, none⟩), .int .u8 13] w' fun r w'' => r = .returned (.bool true) ∧ RD bp s k vL 0 at0 dp w'' ∧ Onl bp w' w'' := hr 13 true (isAt_yes hh)
        have hm : posOf (wr.cell? ⟨bp, 1, none⟩) = k := by rw [HR.out.cell.2.1]; rfl
        have HM : Hid (posOf (wr.cell? ⟨bp, 1, none⟩) = k) := hm
        clear hc hh hr hm
        go_wp2_with fail
        refine (hr32 _ HR.out).mono ?_
        rintro e w1 ⟨rfl, h1, o1⟩
        have HR1 : Hid (RD bp s k vL 0 at0 dp w1) := h1
        have HO1 : Hid (Onl bp w w1) := HO.out.trans o1
        clear h1 o1 HR HO
        go_wp2_with fail
        refine (hr9 _ HR1.out).mono ?_
        rintro e w2 ⟨rfl, h2, o2⟩
        have HR2 : Hid (RD bp s k vL 0 at0 dp w2) := h2
        have HO2 : Hid (Onl bp w w2) := HO1.out.trans o2
        clear h2 o2 HR1 HO1
        go_wp2_with fail
        refine (hr10 _ HR2.out).mono ?_
        rintro e w3 ⟨rfl, h3, o3⟩
        have HR3 : Hid (RD bp s k vL 0 at0 dp w3) := h3
        have HO3 : Hid (Onl bp w w3) := HO2.out.trans o3
        clear h3 o3 HR2 HO2
        go_wp2_with fail
        refine (hr13 _ HR3.out).mono ?_
        rintro e w4 ⟨rfl, h4, o4⟩
        have HR4 : Hid (RD bp s k vL 0 at0 dp w4) := h4
        have HO4 : Hid (Onl bp w w4) := HO3.out.trans o4
        clear h4 o4 HR3 HO3
        obtain ⟨c0, c1, c2, c3, c4, c5, cf⟩ := HR4.out.cell
        have f1 := cf 1
        go_wp2
        refine ⟨⟨k + 1, by have := HE2.out; omega, HR4.out.setI (k + 1), HO4.out.setCell _ HR4.out⟩, ?_⟩
        rw [HM.out, pos_set HR4.out k]; omega
    · have hn : ∀ c, (sfx s k).head? = some c → isB c = false := by
        intro c hc
        have hks := head_lt hc
        rw [sfx_cons s k hks] at hc
        have hc : s[k] = c := by simpa using hc
        cases hb : isB c
        · rfl
        · exact absurd ⟨hks, hks, by rw [hc]; exact hb⟩ hB
      have hz := nb_zero s k hn
      have hr32 : ∀ w', RD bp s k vL 0 at0 dp w' → Calls Tryd.prog 19 #[.pointer (some ⟨bp, 0, none⟩), .int .u8 32] w' fun r w'' => r = .returned (.bool false) ∧ RD bp s k vL 0 at0 dp w'' ∧ Onl bp w' w'' := hr 32 false (isAt_no (fun h => by have := hn _ h; simp [isB] at this))
      have hr9 : ∀ w', RD bp s k vL 0 at0 dp w' → Calls Tryd.prog 19 #[.pointer (some ⟨bp, 0, none⟩), .int .u8 9] w' fun r w'' => r = .returned (.bool false) ∧ RD bp s k vL 0 at0 dp w'' ∧ Onl bp w' w'' := hr 9 false (isAt_no (fun h => by have := hn _ h; simp [isB] at this))
      have hr10 : ∀ w', RD bp s k vL 0 at0 dp w' → Calls Tryd.prog 19 #[.pointer (some ⟨bp, 0, none⟩), .int .u8 10] w' fun r w'' => r = .returned (.bool false) ∧ RD bp s k vL 0 at0 dp w'' ∧ Onl bp w' w'' := hr 10 false (isAt_no (fun h => by have := hn _ h; simp [isB] at this))
      have hr13 : ∀ w', RD bp s k vL 0 at0 dp w' → Calls Tryd.prog 19 #[.pointer (some ⟨bp, 0, none⟩), .int .u8 13] w' fun r w'' => r = .returned (.bool false) ∧ RD bp s k vL 0 at0 dp w'' ∧ Onl bp w' w'' := hr 13 false (isAt_no (fun h => by have := hn _ h; simp [isB] at this))
      have HZ : Hid (nb (sfx s k) = 0) := hz
      clear hz hn hB hr
      go_wp2_with fail
      refine (hr32 _ HR.out).mono ?_
      rintro e w1 ⟨rfl, h1, o1⟩
      have HR1 : Hid (RD bp s k vL 0 at0 dp w1) := h1
      have HO1 : Hid (Onl bp w w1) := HO.out.trans o1
      clear h1 o1 HR HO
      go_wp2_with fail
      refine (hr9 _ HR1.out).mono ?_
      rintro e w2 ⟨rfl, h2, o2⟩
      have HR2 : Hid (RD bp s k vL 0 at0 dp w2) := h2
      have HO2 : Hid (Onl bp w w2) := HO1.out.trans o2
      clear h2 o2 HR1 HO1
      go_wp2_with fail
      refine (hr10 _ HR2.out).mono ?_
      rintro e w3 ⟨rfl, h3, o3⟩
      have HR3 : Hid (RD bp s k vL 0 at0 dp w3) := h3
      have HO3 : Hid (Onl bp w w3) := HO2.out.trans o3
      clear h3 o3 HR2 HO2
      go_wp2_with fail
      refine (hr13 _ HR3.out).mono ?_
      rintro e w4 ⟨rfl, h4, o4⟩
      have HR4 : Hid (RD bp s k vL 0 at0 dp w4) := h4
      have HO4 : Hid (Onl bp w w4) := HO3.out.trans o4
      clear h4 o4 HR3 HO3
      go_wp2
      go_end0
      have hE : k = E := by have := HK.out; rw [HZ.out] at this; omega
      subst hE
      exact ⟨rfl, HR4.out, HO4.out⟩

set_option maxHeartbeats 400000 in
theorem rblanks_er (bp : Nat) (s : ByteArray) (i : Nat) (vL : Value) (er at0 dp : Nat) (w : World) (h : RD bp s i vL er at0 dp w) (he : 0 < er) :
    Calls Tryd.prog 11 #[.pointer (some ⟨bp, 0, none⟩)] w fun r w' => r = .returned (.tuple #[]) ∧ RD bp s i vL er at0 dp w' ∧ Onl bp w w' := by
  have hr : ∀ (c : UInt8), ∀ w', RD bp s i vL er at0 dp w' → Calls Tryd.prog 19 #[.pointer (some ⟨bp, 0, none⟩), .int .u8 (c.toNat : Int)] w' fun r w'' => r = .returned (.bool false) ∧ RD bp s i vL er at0 dp w'' ∧ Onl bp w' w'' :=
    fun c w' h' => (ris bp s i vL er at0 dp c w' h').mono fun e w'' ⟨he2, n, hw⟩ => ⟨by rw [he2, isAt_er he], hw ▸ h'.drewN n, hw ▸ (onl_refl bp w').drewN n⟩
  have hr32 : ∀ w', RD bp s i vL er at0 dp w' → Calls Tryd.prog 19 #[.pointer (some ⟨bp, 0, none⟩), .int .u8 32] w' fun r w'' => r = .returned (.bool false) ∧ RD bp s i vL er at0 dp w'' ∧ Onl bp w' w'' := hr 32
  have hr9 : ∀ w', RD bp s i vL er at0 dp w' → Calls Tryd.prog 19 #[.pointer (some ⟨bp, 0, none⟩), .int .u8 9] w' fun r w'' => r = .returned (.bool false) ∧ RD bp s i vL er at0 dp w'' ∧ Onl bp w' w'' := hr 9
  have hr10 : ∀ w', RD bp s i vL er at0 dp w' → Calls Tryd.prog 19 #[.pointer (some ⟨bp, 0, none⟩), .int .u8 10] w' fun r w'' => r = .returned (.bool false) ∧ RD bp s i vL er at0 dp w'' ∧ Onl bp w' w'' := hr 10
  have hr13 : ∀ w', RD bp s i vL er at0 dp w' → Calls Tryd.prog 19 #[.pointer (some ⟨bp, 0, none⟩), .int .u8 13] w' fun r w'' => r = .returned (.bool false) ∧ RD bp s i vL er at0 dp w'' ∧ Onl bp w' w'' := hr 13
  have HR : Hid (RD bp s i vL er at0 dp w) := h
  have HO : Hid (Onl bp w w) := onl_refl bp w
  clear hr h he
  go_enter Tryd.func11, Tryd.ntmps11
  go_wp2_with fail
  refine wp_loop_once ?_
  go_wp2_with fail
  refine (hr32 _ HR.out).mono ?_
  rintro e w1 ⟨rfl, h1, o1⟩
  have HR1 : Hid (RD bp s i vL er at0 dp w1) := h1
  have HO1 : Hid (Onl bp w w1) := HO.out.trans o1
  clear h1 o1 HR HO
  go_wp2_with fail
  refine (hr9 _ HR1.out).mono ?_
  rintro e w2 ⟨rfl, h2, o2⟩
  have HR2 : Hid (RD bp s i vL er at0 dp w2) := h2
  have HO2 : Hid (Onl bp w w2) := HO1.out.trans o2
  clear h2 o2 HR1 HO1
  go_wp2_with fail
  refine (hr10 _ HR2.out).mono ?_
  rintro e w3 ⟨rfl, h3, o3⟩
  have HR3 : Hid (RD bp s i vL er at0 dp w3) := h3
  have HO3 : Hid (Onl bp w w3) := HO2.out.trans o3
  clear h3 o3 HR2 HO2
  go_wp2_with fail
  refine (hr13 _ HR3.out).mono ?_
  rintro e w4 ⟨rfl, h4, o4⟩
  have HR4 : Hid (RD bp s i vL er at0 dp w4) := h4
  have HO4 : Hid (Onl bp w w4) := HO3.out.trans o4
  clear h4 o4 HR3 HO3
  go_wp2
  go_end0
  exact ⟨rfl, HR4.out, HO4.out⟩
end Go.Proofs.YtaghclgookfmnaaDoor
