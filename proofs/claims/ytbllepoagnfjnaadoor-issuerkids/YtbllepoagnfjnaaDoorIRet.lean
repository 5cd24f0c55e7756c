/-
  The code's Retire, and Export.
-/
import Derived.Test.YtbllepoagnfjnaaDoorIDel
namespace Go.Proofs.YtbllepoagnfjnaaDoor.Dg
set_option maxRecDepth 4000
open Go.RowKit Go.Deep
set_option linter.unusedVariables false
set_option linter.unusedSimpArgs false

/-- What Retire answers. -/
def RetQ (b : Nat) (iss : ByteArray) (ttl now : Int) (n : Nat) (kv : Value) (ks : List Ky) (B : Nat) (kid : ByteArray) (w : World) (r : Ending) (w' : World) : Prop :=
  (findK kid ks 0 < 0 ∧ r = .returned (.int .i64 7) ∧ Below w.heap.size w w') ∨
  (∃ i : Nat, findK kid ks 0 = (i : Int) ∧ i < ks.length ∧ r = .returned (.int .i64 0) ∧ ∃ kv', IS b iss ttl now kv' (n : Int) w' ∧ w'.ownsRow B 72 3 kv' (ks.eraseIdx i).length (flatK (ks.eraseIdx i)) ∧ (∀ g, kv'.ownBlock = some g → kv.ownBlock = some g ∨ w.heap.size ≤ g) ∧ Ch b kv w w')
theorem findK_lt (kid : ByteArray) : ∀ (ks : List Ky) (m : Nat), findK kid ks m < ((m + ks.length : Nat) : Int)
  | [], m => by simp [findK]; omega
  | k :: ks, m => by
    rw [findK]
    split
    · simp; omega
    · have := findK_lt kid ks (m + 1)
      simp only [List.length_cons]; omega
set_option maxRecDepth 8000 in
set_option maxHeartbeats 4000000 in
theorem cretire (b : Nat) (iss : ByteArray) (ttl now : Int) (n : Nat) (kv : Value) (ks : List Ky) (B : Nat) (kid : ByteArray) (w : World) (hI : IS b iss ttl now kv (n : Int) w) (hK : w.ownsRow B 72 3 kv ks.length (flatK ks)) (hsep : kv.ownBlock ≠ some b) (hB : B ≤ b) (hl : ks.length ≤ 20) :
    Calls Tryd.prog 14 #[.pointer (some ⟨b, 0, none⟩), .string kid] w fun r w' => RetQ b iss ttl now n kv ks B kid w r w' := by
  have hf := fun w1 (hb : Below w.heap.size w w1) => cfind kv ks kid w1 ((KR.of hK).below hb) (by omega)
  have hbd := findK_bd kid ks 0
  have hlt := findK_lt kid ks 0
  obtain ⟨c0, c1, c2, c3, c4⟩ := hI.cells
  unfold RetQ
  generalize findK kid ks 0 = N at *
  have HF := ihid hf
  have HI := ihid hI
  have HK := ihid hK
  clear hf hI hK c0 c1 c2 c4
  go_enter Tryd.func14, Tryd.ntmps14
  go_wp2_with fail
  refine (HF.out w (Below.refl _ _)).mono ?_
  rintro r w1 ⟨rfl, hb1⟩
  have d3 := tcell_kp hb1 c3
  have HB1 := ihid hb1
  clear hb1 HF c3
  by_cases h0 : N < 0
  · go_wp2_with fail
    go_ret
    exact .inl ⟨h0, rfl, HB1.out⟩
  · obtain ⟨i, rfl⟩ : ∃ i : Nat, N = (i : Int) := ⟨N.toNat, by omega⟩
    have hi : i < ks.length := by omega
    have hK1 : w1.ownsRow B 72 3 kv ks.length (flatK ks) := row_kpT HK.out HB1.out
    obtain ⟨g, cap, rfl, hBg, hgl⟩ := hK1.form (by omega)
    have hbw : b < w.heap.size := (Array.getElem?_eq_some_iff.1 HI.out.obj).1
    have hgb : g ≠ b := fun e => hsep (by rw [← e]; rfl)
    have hd := fun w2 (h : Below w1.heap.size w1 w2) => cdelete g cap ks B i w2 (row_kpT hK1 h) hi hl
    have o1 : w1.heap[b]? = some (.cells #[.int .i64 now, .string iss, .int .i64 ttl, .slice (some ⟨g, 0, none⟩) ks.length cap, .int .i64 (n : Int)] 51 (0, 0)) := (HB1.out.block b hbw).trans HI.out.obj
    have HD := ihid hd
    have HO1 := ihid o1
    have hi1 : ¬ ((i : Int) < 0) := by omega
    have hi2 : (i : Int) ≤ 20 := by omega
    clear hd o1 hK1 h0 hbd hlt
    go_wp2_with fail
    refine (HD.out w1 (Below.refl _ _)).mono ?_
    rintro r w2 ⟨rfl, ho2, hg2⟩
    have hb1 : b < w1.heap.size := by have := HB1.out.size; omega
    have o2 : w2.heap[b]? = some (.cells #[.int .i64 now, .string iss, .int .i64 ttl, .slice (some ⟨g, 0, none⟩) ks.length cap, .int .i64 (n : Int)] 51 (0, 0)) := (hg2.block b hb1 (by simpa using Ne.symm hgb)).trans HO1.out
    have s3 : w2.cell? ⟨b, 3, none⟩ = some (.slice (some ⟨g, 0, none⟩) ks.length cap) := by simp [World.cell?, o2]
    have s3f : w2.frozen? ⟨b, 3, none⟩ = false := by simp [World.frozen?, o2]
    have HO2 := ihid o2
    have HR2 := ihid ho2
    have HG2 := ihid hg2
    clear o2 ho2 hg2 HD d3
    go_wp2_with fail
    go_ret
    have hel : (ks.eraseIdx i).length = ks.length - 1 := by rw [List.length_eraseIdx, if_pos hi]
    have y1 : ∀ k, k ≠ b → (w2.setCell ⟨b, 3, none⟩ (.slice (some ⟨g, 0, none⟩) (ks.length - 1) cap)).heap[k]? = w2.heap[k]? := fun k hk => blk_setCell_other w2 ⟨b, 3, none⟩ _ k hk
    have y2 : (w2.setCell ⟨b, 3, none⟩ (.slice (some ⟨g, 0, none⟩) (ks.length - 1) cap)).heap.size = w2.heap.size := nblk_setCell w2 _ _
    refine .inr ⟨i, rfl, hi, rfl, .slice (some ⟨g, 0, none⟩) (ks.length - 1) cap, ⟨?_⟩, ?_, ?_, ?_⟩
    · rw [setCell_eq_setRow w2 b 3 _ _ _ _ HO2.out, setRow_heap w2 b _ _ _ _ HO2.out]; rfl
    · rw [hel]
      exact HR2.out.kept (row := some b) ⟨rfl, rfl, rfl, Nat.le_of_eq y2.symm, fun k hk hne => y1 k (fun e => hne (by rw [e]))⟩ (by simp [Value.ownBlock]; exact hgb)
    · intro k hk
      simp [Value.ownBlock] at hk
      subst hk
      exact .inl rfl
    · refine ⟨HG2.out.os.trans HB1.out.os, HG2.out.tape.trans HB1.out.tape, HG2.out.output.trans HB1.out.output, by have := HG2.out.size; have := HB1.out.size; omega, fun k hk h2 h3 => ?_⟩
      have := HB1.out.size
      rw [y1 k h2, HG2.out.block k (by omega) (fun e => h3 (by rw [e]; rfl))]
      exact HB1.out.block k hk
end Go.Proofs.YtbllepoagnfjnaaDoor.Dg
