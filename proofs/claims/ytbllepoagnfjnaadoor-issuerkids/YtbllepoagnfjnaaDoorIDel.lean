/-
  slices.Delete of one key.
-/
import Derived.Test.YtbllepoagnfjnaaDoorIRot
import Derived.Lib.SliceRun
import Derived.Deep.RegionLaw
import Derived.Deep.MidRow
import Derived.Laws.IdiomCopy
import Derived.Deep.Upon
namespace Go.Proofs.YtbllepoagnfjnaaDoor.Dg
set_option maxRecDepth 4000
open Go.RowKit Go.Deep
set_option linter.unusedVariables false
set_option linter.unusedSimpArgs false

def putA (cur : Array Value) (o : Nat) : List Value → Array Value
  | [] => cur
  | v :: vs => putA (cur.setIfInBounds o v) (o + 1) vs
theorem putA_size : ∀ (vs : List Value) (cur : Array Value) (o : Nat), (putA cur o vs).size = cur.size
  | [], cur, o => rfl
  | v :: vs, cur, o => by rw [putA, putA_size vs]; simp
theorem putA_list : ∀ (vs : List Value) (cur : Array Value) (o : Nat), o + vs.length ≤ cur.size → (putA cur o vs).toList = cur.toList.take o ++ vs ++ cur.toList.drop (o + vs.length)
  | [], cur, o, h => by simp [putA]
  | v :: vs, cur, o, h => by
    simp only [List.length_cons] at h
    rw [putA, putA_list vs _ _ (by simp; omega), Array.toList_setIfInBounds]
    have ho : o < cur.toList.length := by simp; omega
    rw [List.take_set, List.drop_set_of_lt (by omega), List.take_add_one, List.getElem?_eq_getElem ho]
    rw [List.set_append_right _ _ (by simp; omega)]
    have : o - (cur.toList.take o).length = 0 := by simp; omega
    rw [this]
    simp only [Option.toList_some, List.set_cons_zero, List.append_assoc, List.cons_append, List.nil_append, List.length_cons]
    rw [show o + 1 + vs.length = o + (vs.length + 1) by omega]
theorem setCells_heap {g : Nat} {t : TypeId} {fr : Nat × Nat} : ∀ (vs : List Value) (o : Nat) (w : World) (cur : Array Value), w.heap[g]? = some (.cells cur t fr) → (w.setCells g o vs).heap[g]? = some (.cells (putA cur o vs) t fr)
  | [], o, w, cur, h => h
  | v :: vs, o, w, cur, h => by
    have h1 : (w.setCell ⟨g, o, none⟩ v).heap[g]? = some (.cells (cur.setIfInBounds o v) t fr) := by
      rw [setCell_eq_setRow w g o _ _ _ _ h]; exact setRow_heap w g _ _ _ _ h
    exact setCells_heap vs (o + 1) _ _ h1
theorem size_setC (b : Nat) : ∀ (vs : List Value) (o : Nat) (w : World), (w.setCells b o vs).heap.size = w.heap.size
  | [], o, w => rfl
  | v :: vs, o, w => (size_setC b vs (o + 1) _).trans (nblk_setCell w _ _)
theorem tape_setC (b : Nat) : ∀ (vs : List Value) (o : Nat) (w : World), (w.setCells b o vs).tape = w.tape
  | [], o, w => rfl
  | v :: vs, o, w => tape_setC b vs (o + 1) _
theorem flatK_take (ks : List Ky) (i : Nat) : (flatK ks).take (i * 3) = flatK (ks.take i) := by
  induction ks generalizing i with
  | nil => simp [flatK]
  | cons k ks ih =>
    cases i with
    | zero => simp [flatK]
    | succ i =>
      rw [List.take_succ_cons]
      have e : flatK (k :: ks) = kyV k ++ flatK ks := by simp [flatK]
      have e2 : flatK (k :: ks.take i) = kyV k ++ flatK (ks.take i) := by simp [flatK]
      rw [e, e2, ← ih i, List.take_append]
      have l3 : (kyV k).length = 3 := rfl
      rw [l3, List.take_of_length_le (by rw [l3]; omega), show (i + 1) * 3 - 3 = i * 3 by omega]
theorem flatK_drop (ks : List Ky) (i : Nat) : (flatK ks).drop (i * 3) = flatK (ks.drop i) := by
  induction ks generalizing i with
  | nil => simp [flatK]
  | cons k ks ih =>
    cases i with
    | zero => simp [flatK]
    | succ i =>
      rw [List.drop_succ_cons]
      have e : flatK (k :: ks) = kyV k ++ flatK ks := by simp [flatK]
      have l3 : (kyV k).length = 3 := rfl
      rw [e, ← ih i, List.drop_append, List.drop_of_length_le (by rw [l3]; omega), l3, show (i + 1) * 3 - 3 = i * 3 by omega]
      rfl
def zeroK : List Value := [.int .i64 0, .string ⟨#[]⟩, .string ⟨#[]⟩]
theorem run_clear_key (w : World) (ty : TypeId) (b o c : Nat) (hc : ∀ j, j < 3 → (w.cell? ⟨b, o + j, none⟩).isSome = true) (hf : ∀ j, j < 3 → w.frozen? ⟨b, o + j, none⟩ = false) :
    (Builtin.clear_ #[49] ty #[.slice (some ⟨b, o, none⟩) 1 c]).run Tryd.prog w = .ok (.tuple #[]) (w.setCells b o zeroK) := by
  have hv : ∀ w, (zeroValue 72).run Tryd.prog w = .ok (.agg #[.int .i64 0, .string ⟨#[]⟩, .string ⟨#[]⟩]) w := fun w => by kernel_rfl
  have hst := run_storeCells_cells (P := Tryd.prog) b o zeroK 0 w (by simpa [zeroK] using hc) (by simpa [zeroK] using hf) (by intro v hv'; simp [zeroK] at hv'; rcases hv' with rfl | rfl | rfl <;> rfl)
  simp only [Nat.add_zero] at hst
  have hzc : (Builtin.zeroCells (Value.agg #[.int .i64 0, .string ⟨#[]⟩, .string ⟨#[]⟩]).cells 1).toList = zeroK := by simp [Builtin.zeroCells, zeroK, Value.cells]; rfl
  simp [Builtin.clear_, run_underlying Tryd.underlying49, hv, hzc, hst]
set_option maxRecDepth 8000 in
set_option maxHeartbeats 4000000 in
theorem cdelete (g cap : Nat) (ks : List Ky) (B i : Nat) (w : World) (hK : w.ownsRow B 72 3 (.slice (some ⟨g, 0, none⟩) ks.length cap) ks.length (flatK ks)) (hi : i < ks.length) (hl : ks.length ≤ 20) :
    Calls Tryd.prog 29 #[.slice (some ⟨g, 0, none⟩) ks.length cap, .int .i64 (i : Int), .int .i64 ((i : Int) + 1)] w fun r w' => r = .returned (.slice (some ⟨g, 0, none⟩) (ks.length - 1) cap) ∧ w'.ownsRow B 72 3 (.slice (some ⟨g, 0, none⟩) (ks.length - 1) cap) (ks.length - 1) (flatK (ks.eraseIdx i)) ∧ w.grownBy w' (some g) := by
  obtain ⟨i0, hi0, hz0, hz1, hz2⟩ := kinfo_partsI kyinfoI
  rcases hK.2 with ⟨_, h0⟩ | ⟨g', cap', cur, hv, hB, hg, hnc, hcm, hcs, htk⟩
  · omega
  injection hv with hv1 hv2 hv3
  injection hv1 with hv1
  injection hv1 with hv1
  subst hv1 hv3
  obtain ⟨news, hnews⟩ : ∃ news, news = flatK (ks.drop (i + 1)) := ⟨_, rfl⟩
  have hlen : news.length = (ks.length - (i + 1)) * 3 := by rw [hnews, flatK_len, List.length_drop]
  have hcell : ∀ t v, (flatK ks)[t]? = some v → w.cell? ⟨g, t, none⟩ = some v := fun t v h => by
    have ht : t < ks.length * 3 := by have := (List.getElem?_eq_some_iff.1 h).1; rwa [flatK_len] at this
    rw [cell_of_row w g t cur _ _ hg]
    rw [← htk, List.getElem?_take, if_pos ht] at h
    simpa using h
  have hsome : ∀ t, t < cap * 3 → (w.cell? ⟨g, t, none⟩).isSome = true ∧ w.frozen? ⟨g, t, none⟩ = false := fun t ht => by
    constructor
    · rw [cell_of_row w g t cur _ _ hg, Array.getElem?_eq_getElem (by omega)]; rfl
    · simp [World.frozen?, hg]
  obtain ⟨A, hA, hsrc⟩ : ∃ A : Addr, (if cap = i + 1 then some (⟨g, 0, none⟩ : Addr) else some ⟨g, (i + 1) * 3, none⟩) = some A ∧ Hid (∀ t u, news[t]? = some u → w.drew.cell? (A.add t) = some u) := by
    by_cases h : cap = i + 1
    · refine ⟨⟨g, 0, none⟩, by simp [h], fun t u hu => ?_⟩
      have h0 : news.length = 0 := by rw [hlen]; have : ks.length - (i + 1) = 0 := by omega
                                      rw [this]
      rw [List.length_eq_zero_iff.1 h0] at hu
      simp at hu
    · refine ⟨⟨g, (i + 1) * 3, none⟩, by simp [h], fun t u hu => ?_⟩
      have hadd : (⟨g, (i + 1) * 3, none⟩ : Addr).add t = ⟨g, (i + 1) * 3 + t, none⟩ := by unfold Addr.add; split <;> simp_all
      rw [hadd]
      refine hcell _ _ ?_
      rw [hnews, ← flatK_drop, List.getElem?_drop] at hu
      exact hu
  have s1 : Hid (news.length = (ks.length - (i + 1)) * 3) := hlen
  have s2 : Hid (∀ u ∈ news, u.oneCell' = true) := by
    intro u hu
    rw [hnews] at hu
    obtain ⟨k, _, hk⟩ := List.mem_flatMap.1 hu
    simp [kyV] at hk
    rcases hk with rfl | rfl | rfl <;> rfl
  have s3 : Hid (∀ t, t < news.length → (w.drew.cell? ⟨g, 0 + i * 3 + t, none⟩).isSome = true ∧ w.drew.frozen? ⟨g, 0 + i * 3 + t, none⟩ = false) := by
    intro t ht
    rw [hlen] at ht
    exact hsome _ (by omega)
  obtain ⟨W1, hW1⟩ : ∃ W1, W1 = w.drew.setCells g (0 + i * 3) news := ⟨_, rfl⟩
  have hW : Hid (W1 = w.drew.setCells g (0 + i * 3) news) := hW1
  have hW1g : W1.heap[g]? = some (.cells (putA cur (0 + i * 3) news) 72 (0, 0)) := by rw [hW1]; exact setCells_heap news _ _ cur hg
  have hW1s : ∀ t, t < cap * 3 → (W1.cell? ⟨g, t, none⟩).isSome = true ∧ W1.frozen? ⟨g, t, none⟩ = false := fun t ht => by
    constructor
    · rw [cell_of_row W1 g t _ _ _ hW1g, Array.getElem?_eq_getElem (by rw [putA_size]; omega)]; rfl
    · simp [World.frozen?, hW1g]
  have hm : i + (ks.length - (i + 1)) = ks.length - 1 := by omega
  have hcl : ∀ ty, (Builtin.clear_ #[49] ty #[.slice (some ⟨g, (i + (ks.length - (i + 1))) * 3, none⟩) (ks.length - (i + (ks.length - (i + 1)))) (cap - (i + (ks.length - (i + 1))))]).run Tryd.prog W1 = .ok (.tuple #[]) (W1.setCells g ((i + (ks.length - (i + 1))) * 3) zeroK) := fun ty => by
    rw [show ks.length - (i + (ks.length - (i + 1))) = 1 by omega]
    exact run_clear_key W1 ty g _ _ (fun j hj => (hW1s _ (by omega)).1) (fun j hj => (hW1s _ (by omega)).2)
  have HFin : Hid ((W1.setCells g ((ks.length - 1) * 3) zeroK).ownsRow B 72 3 (.slice (some ⟨g, 0, none⟩) (ks.length - 1) cap) (ks.length - 1) (flatK (ks.eraseIdx i)) ∧ w.grownBy (W1.setCells g ((ks.length - 1) * 3) zeroK) (some g)) := by
    have hz3 : zeroK.length = 3 := rfl
    have hs1 : (putA cur (0 + i * 3) news).size = cur.size := putA_size _ _ _
    have e1 := putA_list news cur (0 + i * 3) (by rw [hlen]; omega)
    have e2 := putA_list zeroK (putA cur (0 + i * 3) news) ((ks.length - 1) * 3) (by rw [hs1, hz3]; omega)
    have hel : (ks.eraseIdx i).length = ks.length - 1 := by rw [List.length_eraseIdx, if_pos hi]
    refine ⟨⟨by rw [flatK_len, hel], .inr ⟨g, cap, _, rfl, hB, setCells_heap zeroK _ _ _ hW1g, by omega, hcm, by rw [putA_size, hs1, hcs], ?_⟩⟩, ?_⟩
    · rw [e2, e1]
      have l1 : (cur.toList.take (0 + i * 3)).length = i * 3 := by rw [List.length_take, Array.length_toList]; omega
      have l2 : (cur.toList.take (0 + i * 3) ++ news).length = (ks.length - 1) * 3 := by rw [List.length_append, l1, hlen]; omega
      rw [List.append_assoc _ zeroK, List.take_append_of_le_length (by rw [List.length_take, List.length_append, l2]; omega), List.take_take, Nat.min_self, List.take_append_of_le_length (Nat.le_of_eq l2.symm), List.take_of_length_le (Nat.le_of_eq l2)]
      have e3 : cur.toList.take (0 + i * 3) = flatK (ks.take i) := by
        rw [← flatK_take, ← htk, List.take_take, Nat.min_eq_left (by omega), Nat.zero_add]
      rw [e3, hnews, List.eraseIdx_eq_take_drop_succ]
      simp [flatK]
    · have hp : ∀ k, k < w.heap.size → some k ≠ some g → (W1.setCells g ((ks.length - 1) * 3) zeroK).heap[k]? = w.heap[k]? := fun k hk hne => by
        have hkg : k ≠ g := fun e => hne (by rw [e])
        have hs : W1.heap.size = w.heap.size := by rw [hW1]; exact (size_setC g news _ w.drew)
        rw [World.heap_setCells_other W1 g _ zeroK (by omega) hkg, hW1]
        exact World.heap_setCells_other w.drew g _ news hk hkg
      refine ⟨?_, ?_, ?_, ?_, hp⟩
      · rw [World.os_setCells, hW1, World.os_setCells]; rfl
      · rw [tape_setC, hW1, tape_setC]; rfl
      · rw [World.output_setCells, hW1, World.output_setCells]; rfl
      · rw [size_setC, hW1, size_setC]; exact Nat.le_refl _
  rw [← hm] at HFin
  have HII : Hid _ := hi0
  have hic : i ≤ cap := by omega
  have hjc : i + 1 ≤ cap := by omega
  have k1 : (i : Int) < (ks.length : Int) := by omega
  have k2 : (i : Int) ≤ 20 := by omega
  have k3 : (ks.length : Int) ≤ 20 := by omega
  have k4 : (i : Int) + 1 ≤ (ks.length : Int) := by omega
  have k5 : (ks.length : Int) ≤ (cap : Int) := by omega
  have k6 : (0 : Int) ≤ (i : Int) + 1 := by omega
  have HC : Hid (∀ t, t < cap * 3 → (w.cell? ⟨g, t, none⟩).isSome = true ∧ w.frozen? ⟨g, t, none⟩ = false) := hsome
  have HG : Hid _ := hg
  have HTK : Hid _ := htk
  have HM := ihid hm
  clear hW1 hcell hsome hg htk hnews hlen hK hi0 hW1g hW1s hm
  go_enter Tryd.func29, Tryd.ntmps29
  go_wp2_with fail
  go_region_law (refine step_append_room rfl (.tmp 22) (.tmp 25) 49 rfl 72 i0 3 Tryd.underlying49 HII.out hz1 g 0 i cap (by simp [Act.eval, Act.put]) A (ks.length - (i + 1)) (cap - (i + 1)) news (by simp [Act.eval, Act.put]) s1.out hsrc.out s2.out (by omega) s3.out ?_; rw [← hW.out])
  all_goals go_wp2_with fail
  all_goals go_ret
  all_goals exact ⟨by rw [← HM.out]; rfl, by rw [← HM.out]; exact HFin.out⟩
end Go.Proofs.YtbllepoagnfjnaaDoor.Dg
