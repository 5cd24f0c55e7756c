/-
  The code's Rotate.
-/
import Derived.Test.YtbllepoagnfjnaaDoorINew
import Derived.Test.YtbllepoagnfjnaaDoorK0
import Derived.Deep.RegionLaw
import Derived.Deep.AppendLies
import Derived.Lib.LaidTab
import Derived.Lib.AppendIntMem
import Derived.Laws.Tables
import Derived.Deep.Heap
namespace Go.Proofs.YtbllepoagnfjnaaDoor.Dg
set_option maxRecDepth 4000
open Go.RowKit Go.Deep
set_option linter.unusedVariables false
set_option linter.unusedSimpArgs false

/-- The kid of the n-th key. -/
def kidB (n : Nat) : ByteArray := ⟨#[107]⟩ ++ ⟨(Lib.itoa (n : Int)).toArray⟩
/-- What may have changed: the block b, the block of v, and what is new. -/
structure Ch (b : Nat) (v : Value) (w w' : World) : Prop where
  os : w'.os = w.os
  tape : w'.tape = w.tape
  output : w'.output = w.output
  size : w.heap.size ≤ w'.heap.size
  block : ∀ g, g < w.heap.size → g ≠ b → v.ownBlock ≠ some g → w'.heap[g]? = w.heap[g]?
theorem IS.cells {b : Nat} {iss : ByteArray} {ttl now : Int} {kv : Value} {n : Int} {w : World} (h : IS b iss ttl now kv n w) : w.cell? ⟨b, 0, none⟩ = some (.int .i64 now) ∧ w.cell? ⟨b, 1, none⟩ = some (.string iss) ∧ w.cell? ⟨b, 2, none⟩ = some (.int .i64 ttl) ∧ w.cell? ⟨b, 3, none⟩ = some kv ∧ w.cell? ⟨b, 4, none⟩ = some (.int .i64 n) := by
  have := h.obj
  simp [World.cell?, this]
theorem decN_eqK (n : Nat) : decN n = Lib.decDigits n := by
  induction n using Nat.strongRecOn with
  | ind n ih =>
    rw [decN, Lib.decDigits]
    split
    · rfl
    · rw [ih (n / 10) (by omega)]
theorem decI_eqK (n : Int) : decI n = Lib.itoa n := by
  unfold decI Lib.itoa
  split
  · rw [decN_eqK]; congr 2; omega
  · rw [decN_eqK]
theorem kyinfoI : (Tryd.prog.info? 72).map (fun i => (i.zero, i.size, i.bytes)) = some (some (.agg #[.int .i64 0, .string ⟨#[]⟩, .string ⟨#[]⟩]), 3, 40) := by kernel_rfl
theorem kinfo_partsI {o : Option TypeInfo} {z : Value} {a b : Nat} (h : o.map (fun i => (i.zero, i.size, i.bytes)) = some (some z, a, b)) : ∃ i, o = some i ∧ i.zero = some z ∧ i.size = a ∧ i.bytes = b := by
  cases o with
  | none => simp at h
  | some i => simp at h; exact ⟨i, rfl, h.1, h.2.1, h.2.2⟩
theorem three_cellsI (w : World) (a b c : Value) (e : TypeId) : ∀ (j : Nat) (u : Value), [a, b, c][j]? = some u → (w.alloc (.cells #[a, b, c] e)).cell? ((⟨w.heap.size, 0, none⟩ : Addr).add j) = some u := by
  intro j u h
  have hadd : (⟨w.heap.size, 0, none⟩ : Addr).add j = ⟨w.heap.size, j, none⟩ := by unfold Addr.add; split <;> simp_all
  rw [hadd]
  match j with
  | 0 => simp at h; subst h; simp
  | 1 => simp at h; subst h; simp
  | 2 => simp at h; subst h; simp
  | j + 3 => simp at h
theorem cell_lt {w : World} {g j : Nat} (h : (w.cell? ⟨g, j, none⟩).isSome = true) : g < w.heap.size := by
  by_cases hg : g < w.heap.size
  · exact hg
  · have : w.heap[g]? = none := Array.getElem?_eq_none (by omega)
    simp [World.cell?, this] at h
theorem kidB_size (n : Nat) (h : n ≤ 1000000000000000001) : (kidB n).size ≤ 40 := by
  have e : (kidB n).size = 1 + (Lib.itoa (n : Int)).length := by
    unfold kidB
    rw [ByteArray.size_append]
    show 1 + (Lib.itoa (n : Int)).toArray.size = _
    simp
  rw [e, ← decI_eqK (n : Int)]
  have := decI_len (n : Int) (by omega) (by omega)
  omega
/-- What Rotate answers. -/
def RotQ (b : Nat) (iss : ByteArray) (ttl now : Int) (n : Nat) (kv : Value) (ks : List Ky) (B : Nat) (alg : Int) (key : ByteArray) (w : World) (r : Ending) (w' : World) : Prop :=
  (keyErr alg (kidB (n + 1)) key ≠ 0 ∧ r = .returned (.tuple #[.string ⟨#[]⟩, .int .i64 (keyErr alg (kidB (n + 1)) key)]) ∧ Below w.heap.size w w') ∨
  (keyErr alg (kidB (n + 1)) key = 0 ∧ 20 ≤ ks.length ∧ r = .returned (.tuple #[.string ⟨#[]⟩, .int .i64 8]) ∧ Below w.heap.size w w') ∨
  (keyErr alg (kidB (n + 1)) key = 0 ∧ ks.length < 20 ∧ ∃ kv', r = .returned (.tuple #[.string (kidB (n + 1)), .int .i64 0]) ∧ IS b iss ttl now kv' ((n : Int) + 1) w' ∧ w'.ownsRow B 72 3 kv' (ks ++ [(⟨alg, kidB (n + 1), key⟩ : Ky)]).length (flatK (ks ++ [(⟨alg, kidB (n + 1), key⟩ : Ky)])) ∧ (∀ g, kv'.ownBlock = some g → kv.ownBlock = some g ∨ w.heap.size ≤ g) ∧ Ch b kv w w')
set_option maxRecDepth 8000 in
set_option maxHeartbeats 4000000 in
theorem crotate (b : Nat) (iss : ByteArray) (ttl now : Int) (n : Nat) (kv : Value) (ks : List Ky) (B : Nat) (alg : Int) (key : ByteArray) (w : World) (hI : IS b iss ttl now kv (n : Int) w) (hK : w.ownsRow B 72 3 kv ks.length (flatK ks)) (hsep : kv.ownBlock ≠ some b) (hB : B ≤ b) (hW : WG w)
    (htab : Lib.TabBelow Tryd.prog w.heap.size w "internal/strconv.uint64pow10" .u64 Lib.pow10Tab) (hn : n ≤ 1000000000000000000) (hl : ks.length ≤ 20) (hk : key.size ≤ 4611686018427387904) :
    Calls Tryd.prog 13 #[.pointer (some ⟨b, 0, none⟩), .int .i64 alg, .string key] w fun r w' => RotQ b iss ttl now n kv ks B alg key w r w' := by
  have hit := fun w1 (hb : Below w.heap.size w w1) => Tryd.strconv_Itoa ((n : Int) + 1) (by omega) (by omega) w1 (htab w1 hb)
  obtain ⟨c0, c1, c2, c3, c4⟩ := hI.cells
  have hkb : kidB (n + 1) = ⟨#[107]⟩ ++ ⟨(Lib.itoa ((n : Int) + 1)).toArray⟩ := rfl
  have hks : (kidB (n + 1)).size ≤ 40 := kidB_size _ (by omega)
  have hck := fun w1 (hb : Below w.heap.size w w1) => ccheckKey alg (kidB (n + 1)) key w1 (hW.below hb) (by omega) hk
  have z0 : (⟨(Lib.itoa ((n : Int) + 1)).toArray⟩ : ByteArray).size ≤ 39 := by
    have h := hks
    rw [hkb, ByteArray.size_append] at h
    have e : (⟨#[107]⟩ : ByteArray).size = 1 := rfl
    omega
  unfold RotQ
  generalize (⟨(Lib.itoa ((n : Int) + 1)).toArray⟩ : ByteArray) = T at *
  generalize kidB (n + 1) = KD at *
  have HIT := ihid hit
  have HCK := ihid hck
  have HI := ihid hI
  have HK := ihid hK
  have HKB := ihid hkb
  clear hit hck hI hK hkb hW htab c0 c1 c2
  have z1 : ¬ 9223372036854775807 < 1 + T.size := by omega
  go_enter Tryd.func13, Tryd.ntmps13
  go_wp2_with fail
  refine (HIT.out w (Below.refl _ _)).mono ?_
  rintro r w1 ⟨rfl, k1, os1, hw1⟩
  have hb1 : Below w.heap.size w w1 := by rw [hw1]; exact Lib.below_grow w.heap.size w (Nat.le_refl _) k1 os1
  have d3 := tcell_kp hb1 c3
  have d4 := tcell_kp hb1 c4
  have HB1 := ihid hb1
  clear hw1 hb1 c3 c4 HIT
  go_wp2_with fail
  rw [← HKB.out]
  refine (HCK.out _ (tbal HB1.out _)).mono ?_
  rintro r w2 ⟨rfl, hb2⟩
  have hb2' : Below w1.heap.size w1 w2 := (tbal (Below.refl w1.heap.size w1) _).trans (hb2.mono (by simp))
  have e3 := tcell_kp hb2' d3
  have e4 := tcell_kp hb2' d4
  have f0 : w2.cell? ⟨w1.heap.size, 0, none⟩ = some (.int .i64 alg) := tcell_kp hb2 (by simp)
  have f1 : w2.cell? ⟨w1.heap.size, 1, none⟩ = some (.string KD) := tcell_kp hb2 (by simp)
  have f2 : w2.cell? ⟨w1.heap.size, 2, none⟩ = some (.string key) := tcell_kp hb2 (by simp)
  have HB2 := ihid (HB1.out.trans (hb2'.mono HB1.out.size))
  clear hb2 hb2' d3 d4 HCK
  by_cases h0 : keyErr alg KD key = 0
  · rw [h0]
    obtain ⟨ad, cap, rfl⟩ := (KR.of HK.out).shape
    have k20 : (ks.length : Int) ≤ 20 := by omega
    by_cases h1 : 20 ≤ ks.length
    · have h1' : (20 : Int) ≤ (ks.length : Int) := by omega
      go_wp2_with fail
      refine bodyPost_ret (results_tmp2 rfl _ _ _) rfl ?_
      exact .inr (.inl ⟨h0, h1, rfl, HB2.out⟩)
    · have h1' : ¬ (20 : Int) ≤ (ks.length : Int) := by omega
      obtain ⟨i0, hi0, hz0, hz1, hz2⟩ := kinfo_partsI kyinfoI
      have hbw : b < w.heap.size := by
        have := HI.out.obj
        exact (Array.getElem?_eq_some_iff.1 this).1
      have hb2w : b < w2.heap.size := by have := HB2.out.size; omega
      have hobj2 : w2.heap[b]? = some (.cells #[.int .i64 now, .string iss, .int .i64 ttl, .slice ad ks.length cap, .int .i64 (n : Int)] 51 (0, 0)) := (HB2.out.block b hbw).trans HI.out.obj
      have hK2 : w2.ownsRow B 72 3 (.slice ad ks.length cap) ks.length (flatK ks) := row_kpT HK.out HB2.out
      have HOw : Hid (∀ o, ((w2.alloc o).drew).ownsRow B 72 3 (.slice ad ks.length cap) ks.length (flatK ks)) := fun o => hK2.alloc o
      have HBs : Hid (∀ o, B ≤ ((w2.alloc o).drew).heap.size) := fun o => by show _ ≤ (w2.alloc o).heap.size; simp; omega
      have HSs : Hid (∀ o, ((w2.alloc o).drew).heap.size = w2.heap.size + 1) := fun o => by show (w2.alloc o).heap.size = _; simp
      have HOne : Hid (∀ j u, (kyV ⟨alg, KD, key⟩)[j]? = some u → ((w2.alloc (.cells #[.int .i64 alg, .string KD, .string key] 72)).drew).cell? ((⟨w2.heap.size, 0, none⟩ : Addr).add j) = some u) := three_cellsI w2 _ _ _ _
      have HL : Hid (ks.length + 1 ≤ maxLen) := by show ks.length + 1 ≤ maxLen; unfold maxLen; omega
      have HL2 : Hid ((ks.length + 1) * 40 ≤ 140737488355328) := by show (ks.length + 1) * 40 ≤ 140737488355328; omega
      have g3 : ∀ o : Obj, (w2.alloc o).cell? ⟨b, 3, none⟩ = some (.slice ad ks.length cap) := fun o => (World.cell?_alloc_lt _ _ _ hb2w).trans e3
      have HO2 := ihid hobj2
      have HII := ihid hi0
      have HNE : Hid (some b ≠ (Value.slice ad ks.length cap).ownBlock) := fun e => hsep e.symm
      clear hobj2 hK2 hi0 e4
      go_wp2_with fail
      go_region_law ((refine step_append_lies _ rfl (.tmp 35) (.tmp 37) 49 rfl B 72 i0 _ 3 40 Tryd.underlying49 HII.out hz0 hz1 hz2 rfl (by decide) _ ks.length (flatK ks) rfl (by exact HOw.out _) ⟨w2.heap.size, 0, none⟩ 1 1 (kyV ⟨alg, KD, key⟩) rfl rfl (by exact HOne.out) (by intro u hu; simp [kyV] at hu; rcases hu with rfl | rfl | rfl <;> rfl) (by decide) HL.out HL2.out (by exact HBs.out _) (w2.heap.size + 1) (by exact HSs.out _) ?_; intro g6 cap6 w6 ho6 hg6 hgg6 _; have hob6 : w6.heap[b]? = some (.cells #[.int .i64 now, .string iss, .int .i64 ttl, .slice ad ks.length cap, .int .i64 (n : Int)] 51 (0, 0)) := (hg6.block b (Nat.lt_of_lt_of_le hb2w (by rw [HSs.out]; try omega)) HNE.out).trans ((heap_alloc_old w2 _ hb2w).trans HO2.out); have s3 : w6.cell? ⟨b, 3, none⟩ = some (.slice ad ks.length cap) := (by simp [World.cell?, hob6]); have s4 : w6.cell? ⟨b, 4, none⟩ = some (.int .i64 (n : Int)) := (by simp [World.cell?, hob6]); have s3f : w6.frozen? ⟨b, 3, none⟩ = false := (by simp [World.frozen?, hob6]); have HOB6 := ihid hob6; clear hob6; have HO6 : Hid (w6.ownsRow B 72 3 (.slice (some ⟨g6, 0, none⟩) (ks.length + 1) cap6) (ks.length + 1) (flatK ks ++ kyV ⟨alg, KD, key⟩)) := ho6; have HG6 : Hid (((w2.alloc (.cells #[.int .i64 alg, .string KD, .string key] 72)).drew).grownBy w6 (Value.slice ad ks.length cap).ownBlock) := hg6; have HGG6 : Hid ((Value.slice ad ks.length cap).ownBlock = some g6 ∨ g6 = w2.heap.size + 1) := hgg6; clear ho6 hg6 hgg6))
      all_goals (
        obtain ⟨w7, hw7⟩ : ∃ w7, w7 = w6.setCell ⟨b, 3, none⟩ (.slice (some ⟨g6, 0, none⟩) (ks.length + 1) cap6) := ⟨_, rfl⟩
        rw [← hw7]
        have o7 : w7.heap[b]? = some (.cells #[.int .i64 now, .string iss, .int .i64 ttl, .slice (some ⟨g6, 0, none⟩) (ks.length + 1) cap6, .int .i64 (n : Int)] 51 (0, 0)) := by
          rw [hw7, setCell_eq_setRow w6 b 3 _ _ _ _ HOB6.out, setRow_heap w6 b _ _ _ _ HOB6.out]; rfl
        have p7 : ∀ g, g ≠ b → w7.heap[g]? = w6.heap[g]? := fun g hg => by rw [hw7]; exact blk_setCell_other w6 _ _ g hg
        have q7 : w7.heap.size = w6.heap.size := by rw [hw7]; exact nblk_setCell w6 _ _
        have r7 : w7.os = w6.os ∧ w7.tape = w6.tape ∧ w7.output = w6.output := by rw [hw7]; exact ⟨rfl, rfl, rfl⟩
        have t4 : w7.cell? ⟨b, 4, none⟩ = some (.int .i64 (n : Int)) := by simp [World.cell?, o7]
        have t4f : w7.frozen? ⟨b, 4, none⟩ = false := by simp [World.frozen?, o7]
        have HO7 := ihid (And.intro o7 (And.intro p7 (And.intro q7 r7)))
        have hkown : ∀ g, (Value.slice ad ks.length cap).ownBlock = some g → g < w.heap.size := fun g hg => (HK.out.lt g hg).2
        have hsz1 := HB1.out.size
        have hw12 : w1.heap.size < w2.heap.size := by
          have : (w2.cell? ⟨w1.heap.size, 0, none⟩).isSome = true := by rw [f0]; rfl
          exact cell_lt this
        have u1 : w7.cell? ⟨w1.heap.size, 1, none⟩ = some (.string KD) := by
          have e7 : w7.heap[w1.heap.size]? = w2.heap[w1.heap.size]? := by
            rw [p7 _ (by omega), HG6.out.block w1.heap.size (by rw [HSs.out]; omega) (fun e => by have := hkown _ e.symm; omega)]
            exact heap_alloc_old w2 _ hw12
          simp only [World.cell?] at f1 ⊢
          rw [e7]; exact f1
        clear hw7 o7 p7 q7 r7 s3 s4 s3f g3 e3
        go_wp2_with fail
        refine bodyPost_ret (results_tmp2 rfl _ _ _) rfl ?_
        have hg6b : g6 ≠ b := by
          rcases HGG6.out with e | e
          · exact fun e2 => hsep (by rw [e, e2])
          · omega
        obtain ⟨x1, x2, x3, x4, x5, x6⟩ := HO7.out
        have y1 : ∀ g, g ≠ b → (w7.setCell ⟨b, 4, none⟩ (.int .i64 ((n : Int) + 1))).heap[g]? = w6.heap[g]? := fun g hg => (blk_setCell_other w7 ⟨b, 4, none⟩ _ g hg).trans (x2 g hg)
        have y2 : (w7.setCell ⟨b, 4, none⟩ (.int .i64 ((n : Int) + 1))).heap.size = w6.heap.size := (nblk_setCell w7 _ _).trans x3
        have y3 := HG6.out.size
        rw [HSs.out] at y3
        refine .inr (.inr ⟨h0, by omega, .slice (some ⟨g6, 0, none⟩) (ks.length + 1) cap6, rfl, ⟨?_⟩, ?_, ?_, ?_⟩)
        · rw [setCell_eq_setRow w7 b 4 _ _ _ _ x1, setRow_heap w7 b _ _ _ _ x1]; rfl
        · rw [flatK_snoc, List.length_append]
          exact HO6.out.kept (row := some b) ⟨x4, x5, x6, Nat.le_of_eq y2.symm, fun g hg hne => y1 g (fun e => hne (by rw [e]))⟩ (by simp [Value.ownBlock]; exact hg6b)
        · intro g hg
          simp [Value.ownBlock] at hg
          subst hg
          rcases HGG6.out with e | e
          · exact .inl e
          · exact .inr (by have := HB2.out.size; omega)
        · refine ⟨x4.trans (HG6.out.os.trans HB2.out.os), x5.trans (HG6.out.tape.trans HB2.out.tape), x6.trans (HG6.out.output.trans HB2.out.output), by have := HB2.out.size; omega, fun g hg h2 h3 => ?_⟩
          have := HB2.out.size
          rw [y1 g h2, HG6.out.block g (by rw [HSs.out]; omega) (fun e => h3 e.symm)]
          exact (heap_alloc_old w2 _ (by omega)).trans (HB2.out.block g hg))
  · have k1 : (keyErr alg KD key != 0) = true := by simp [h0]
    obtain ⟨E, hE⟩ : ∃ E, E = keyErr alg KD key := ⟨_, rfl⟩
    rw [← hE] at k1 ⊢
    have HE := ihid hE
    clear hE
    go_wp2_with fail
    refine bodyPost_ret (results_tmp2 rfl _ _ _) rfl ?_
    exact .inl ⟨h0, by rw [← HE.out]; rfl, HB2.out⟩
end Go.Proofs.YtbllepoagnfjnaaDoor.Dg
