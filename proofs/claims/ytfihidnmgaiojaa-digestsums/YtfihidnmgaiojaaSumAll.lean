/-
  digest.Size, digest.Sum.
-/
import Derived.Test.YtfihidnmgaiojaaPlans
namespace Go.Proofs.Ytfihidnmgaiojaa
open Go.RowKit
set_option linter.unusedVariables false

theorem mk32 {w : World} {bp kb : Nat} {s : St 32} {t e : TypeId} (h : w.heap[bp]? = some (.cells (planA32 kb s) t (0, 0))) (hk : w.heap[kb]? = some (.cells keysA32 e (0, 0))) : Plan32 w32 w bp kb ∧
    w.cell? ⟨bp, 1, none⟩ = some (.int .u32 (eW s.a)) ∧ w.cell? ⟨bp, 2, none⟩ = some (.int .u32 (eW s.b)) ∧ w.cell? ⟨bp, 3, none⟩ = some (.int .u32 (eW s.c)) ∧ w.cell? ⟨bp, 4, none⟩ = some (.int .u32 (eW s.d)) ∧
    w.cell? ⟨bp, 5, none⟩ = some (.int .u32 (eW s.e)) ∧ w.cell? ⟨bp, 6, none⟩ = some (.int .u32 (eW s.f)) ∧ w.cell? ⟨bp, 7, none⟩ = some (.int .u32 (eW s.g)) ∧ w.cell? ⟨bp, 8, none⟩ = some (.int .u32 (eW s.h)) := by
  have c := fun j => cell_of_row w bp j _ _ _ h
  refine ⟨⟨(c 0).trans rfl, (c 9).trans rfl, (c 10).trans rfl, (c 11).trans rfl, (c 12).trans rfl, (c 13).trans rfl, (c 14).trans rfl, (c 15).trans rfl, (c 16).trans rfl, (c 17).trans rfl, (c 18).trans rfl, (c 19).trans rfl, (c 20).trans rfl, (c 21).trans rfl, ?_,
    rfl, ⟨rfl, rfl, rfl⟩, ⟨rfl, rfl, rfl⟩, ⟨rfl, rfl, rfl⟩, ⟨rfl, rfl, rfl⟩⟩, (c 1).trans rfl, (c 2).trans rfl, (c 3).trans rfl, (c 4).trans rfl, (c 5).trans rfl, (c 6).trans rfl, (c 7).trans rfl, (c 8).trans rfl⟩
  intro i hi
  rw [cell_of_row w kb i _ _ _ hk]
  have hl : i < K32.length := hi
  show ((K32.map fun k => Value.int .u32 (eW k)).toArray)[i]? = some (.int .u32 (eW (K32.getD i 0)))
  simp [List.getElem?_eq_getElem hl]

theorem mk64 {w : World} {bp kb : Nat} {s : St 64} {t e : TypeId} (h : w.heap[bp]? = some (.cells (planA64 kb s) t (0, 0))) (hk : w.heap[kb]? = some (.cells keysA64 e (0, 0))) : Plan64 w64 w bp kb ∧
    w.cell? ⟨bp, 1, none⟩ = some (.int .u64 (eW s.a)) ∧ w.cell? ⟨bp, 2, none⟩ = some (.int .u64 (eW s.b)) ∧ w.cell? ⟨bp, 3, none⟩ = some (.int .u64 (eW s.c)) ∧ w.cell? ⟨bp, 4, none⟩ = some (.int .u64 (eW s.d)) ∧
    w.cell? ⟨bp, 5, none⟩ = some (.int .u64 (eW s.e)) ∧ w.cell? ⟨bp, 6, none⟩ = some (.int .u64 (eW s.f)) ∧ w.cell? ⟨bp, 7, none⟩ = some (.int .u64 (eW s.g)) ∧ w.cell? ⟨bp, 8, none⟩ = some (.int .u64 (eW s.h)) := by
  have c := fun j => cell_of_row w bp j _ _ _ h
  refine ⟨⟨(c 0).trans rfl, (c 9).trans rfl, (c 10).trans rfl, (c 11).trans rfl, (c 12).trans rfl, (c 13).trans rfl, (c 14).trans rfl, (c 15).trans rfl, (c 16).trans rfl, (c 17).trans rfl, (c 18).trans rfl, (c 19).trans rfl, (c 20).trans rfl, (c 21).trans rfl, ?_,
    rfl, ⟨rfl, rfl, rfl⟩, ⟨rfl, rfl, rfl⟩, ⟨rfl, rfl, rfl⟩, ⟨rfl, rfl, rfl⟩⟩, (c 1).trans rfl, (c 2).trans rfl, (c 3).trans rfl, (c 4).trans rfl, (c 5).trans rfl, (c 6).trans rfl, (c 7).trans rfl, (c 8).trans rfl⟩
  intro i hi
  rw [cell_of_row w kb i _ _ _ hk]
  have hl : i < K64.length := hi
  show ((K64.map fun k => Value.int .u64 (eW k)).toArray)[i]? = some (.int .u64 (eW (K64.getD i 0)))
  simp [List.getElem?_eq_getElem hl]

def isAlg (a : Int) : Bool := a == 256 || a == 384 || a == 512
def sizeL (a : Int) : Int := if a = 256 then 32 else if a = 384 then 48 else if a = 512 then 64 else 0

set_option maxHeartbeats 400000 in
theorem size_any (a : Int) (w : World) : Calls Try.prog 11 #[.int .i64 a] w fun e w' => e = .returned (.int .i64 (sizeL a)) ∧ w' = w := by
  by_cases h1 : a = 256
  · subst h1
    go_enter Try.func11, Try.ntmps11
    go_wp2
    go_ret
    exact ⟨rfl, rfl⟩
  by_cases h2 : a = 384
  · subst h2
    go_enter Try.func11, Try.ntmps11
    go_wp2
    go_ret
    exact ⟨rfl, rfl⟩
  by_cases h3 : a = 512
  · subst h3
    go_enter Try.func11, Try.ntmps11
    go_wp2
    go_ret
    exact ⟨rfl, rfl⟩
  · have e1 : (a == 256) = false := by simp [h1]
    have e2 : (a == 384) = false := by simp [h2]
    have e3 : (a == 512) = false := by simp [h3]
    have HS : Hid (sizeL a = 0) := by show sizeL a = 0; simp [sizeL, h1, h2, h3]
    clear h1 h2 h3
    go_enter Try.func11, Try.ntmps11
    go_wp2
    go_ret
    exact ⟨by rw [HS.out]; rfl, rfl⟩

/-- The bytes of a text's sum, as the program goes. -/
def codeSum (a : Int) (l : List UInt8) : List UInt8 :=
  if a = 256 then writeTo32 (sumS32 w32 s256 l) 8 else if a = 384 then (writeTo64 (sumS64 w64 s384 l) 8).take 48 else if a = 512 then writeTo64 (sumS64 w64 s512 l) 8 else []

theorem bun32 {w w1 : World} {kb : Nat} {k : Array Value} {t e : TypeId} (S : St 32) (hk : w1.heap[kb]? = some (.cells k e (0, 0))) (hb : Below w.heap.size w w1) :
    ∃ W2, w1.alloc (.cells (planA32 kb S) t) = W2 ∧ W2.heap[w1.heap.size]? = some (.cells (planA32 kb S) t (0, 0)) ∧ W2.heap[kb]? = some (.cells k e (0, 0)) ∧ Below w.heap.size w W2 :=
  ⟨_, rfl, heap_alloc_new _ _, by rw [heap_alloc_old _ _ (Array.getElem?_eq_some_iff.1 hk).1]; exact hk, bal hb _⟩
theorem bun64 {w w1 : World} {kb : Nat} {k : Array Value} {t e : TypeId} (S : St 64) (hk : w1.heap[kb]? = some (.cells k e (0, 0))) (hb : Below w.heap.size w w1) :
    ∃ W2, w1.alloc (.cells (planA64 kb S) t) = W2 ∧ W2.heap[w1.heap.size]? = some (.cells (planA64 kb S) t (0, 0)) ∧ W2.heap[kb]? = some (.cells k e (0, 0)) ∧ Below w.heap.size w W2 :=
  ⟨_, rfl, heap_alloc_new _ _, by rw [heap_alloc_old _ _ (Array.getElem?_eq_some_iff.1 hk).1]; exact hk, bal hb _⟩

set_option maxHeartbeats 400000 in
theorem sum_256 (d : ByteArray) (w : World) (hd : d.size ≤ 140737488355328) :
    Calls Try.prog 10 #[.int .i64 256, .string d] w fun e w' => e = .returned (.string ⟨(writeTo32 (sumS32 w32 s256 d.data.toList) 8).toArray⟩) ∧ Below w.heap.size w w' := by
  have hz := zeroP32
  go_enter Try.func10, Try.ntmps10
  go_wp2_with fail
  refine (plan256 w).mono ?_
  rintro e1 w1 ⟨rfl, hb1, hk1⟩
  generalize hS : s256 = S
  have HS : Hid (s256 = S) := hS
  clear hS
  generalize hkb : w.heap.size + 1 = kb at hk1
  clear hkb
  have HK : Hid _ := hk1
  have HB : Hid _ := hb1
  clear hk1 hb1
  go_wp2_with (first | (refine wpList_store_row rfl 39 (.tmp 5) (.tmp 11) rfl w1.heap.size _ rfl rfl _ _ (heap_alloc_new _ _) (planA32_info _ _) rfl (planA32_one _ _) ?_; rw [World.setRow_alloc_new]; obtain ⟨W2, hW, hW2, hWk, hWb⟩ := bun32 (t := 39) S HK.out HB.out; rw [hW]; have HW2 : Hid _ := hW2; have HWk : Hid _ := hWk; have HWb : Hid _ := hWb; clear hW hW2 hWk hWb))
  obtain ⟨hp, b1, b2, b3, b4, b5, b6, b7, b8⟩ := mk32 HW2.out HWk.out
  refine (sum32 w1.heap.size kb S d W2 w32 hd hp b1 b2 b3 b4 b5 b6 b7 b8).mono ?_
  rintro e2 w2 ⟨rfl, hb2⟩
  have hB2 : Below w.heap.size w w2 := HWb.out.trans (hb2.mono HWb.out.size)
  go_wp2_with fail
  go_ret
  refine ⟨?_, hB2⟩
  rw [HS.out]; rfl

set_option maxHeartbeats 400000 in
theorem sum_512 (d : ByteArray) (w : World) (hd : d.size ≤ 140737488355328) :
    Calls Try.prog 10 #[.int .i64 512, .string d] w fun e w' => e = .returned (.string ⟨(writeTo64 (sumS64 w64 s512 d.data.toList) 8).toArray⟩) ∧ Below w.heap.size w w' := by
  have hz := zeroP64
  go_enter Try.func10, Try.ntmps10
  go_wp2_with fail
  refine (plan512 w).mono ?_
  rintro e1 w1 ⟨rfl, hb1, hk1⟩
  generalize hS : s512 = S
  have HS : Hid (s512 = S) := hS
  clear hS
  generalize hkb : w.heap.size + 1 = kb at hk1
  clear hkb
  have HK : Hid _ := hk1
  have HB : Hid _ := hb1
  clear hk1 hb1
  go_wp2_with (first | (refine wpList_store_row rfl 46 (.tmp 7) (.tmp 23) rfl w1.heap.size _ rfl rfl _ _ (heap_alloc_new _ _) (planA64_info _ _) rfl (planA64_one _ _) ?_; rw [World.setRow_alloc_new]; obtain ⟨W2, hW, hW2, hWk, hWb⟩ := bun64 (t := 46) S HK.out HB.out; rw [hW]; have HW2 : Hid _ := hW2; have HWk : Hid _ := hWk; have HWb : Hid _ := hWb; clear hW hW2 hWk hWb))
  obtain ⟨hp, b1, b2, b3, b4, b5, b6, b7, b8⟩ := mk64 HW2.out HWk.out
  refine (sum64 w1.heap.size kb S d W2 w64 hd hp b1 b2 b3 b4 b5 b6 b7 b8).mono ?_
  rintro e2 w2 ⟨rfl, hb2⟩
  have hB2 : Below w.heap.size w w2 := HWb.out.trans (hb2.mono HWb.out.size)
  go_wp2_with fail
  go_ret
  refine ⟨?_, hB2⟩
  rw [HS.out]; rfl

set_option maxHeartbeats 400000 in
theorem sum_384 (d : ByteArray) (w : World) (hd : d.size ≤ 140737488355328) :
    Calls Try.prog 10 #[.int .i64 384, .string d] w fun e w' => e = .returned (.string ⟨((writeTo64 (sumS64 w64 s384 d.data.toList) 8).take 48).toArray⟩) ∧ Below w.heap.size w w' := by
  have hz := zeroP64
  go_enter Try.func10, Try.ntmps10
  go_wp2_with fail
  refine (plan384 w).mono ?_
  rintro e1 w1 ⟨kb, rfl, hb1, hkw, hk1⟩
  generalize hS : s384 = S
  have HS : Hid (s384 = S) := hS
  clear hS
  have HK : Hid _ := hk1
  have HB : Hid _ := hb1
  clear hk1 hb1
  go_wp2_with (first | (refine wpList_store_row rfl 46 (.tmp 6) (.tmp 16) rfl w1.heap.size _ rfl rfl _ _ (heap_alloc_new _ _) (planA64_info _ _) rfl (planA64_one _ _) ?_; rw [World.setRow_alloc_new]; obtain ⟨W2, hW, hW2, hWk, hWb⟩ := bun64 (t := 46) S HK.out HB.out; rw [hW]; have HW2 : Hid _ := hW2; have HWk : Hid _ := hWk; have HWb : Hid _ := hWb; clear hW hW2 hWk hWb))
  obtain ⟨hp, b1, b2, b3, b4, b5, b6, b7, b8⟩ := mk64 HW2.out HWk.out
  refine (sum64 w1.heap.size kb S d W2 w64 hd hp b1 b2 b3 b4 b5 b6 b7 b8).mono ?_
  rintro e2 w2 ⟨rfl, hb2⟩
  have hB2 : Below w.heap.size w w2 := HWb.out.trans (hb2.mono HWb.out.size)
  generalize hL : writeTo64 (sumS64 w64 S d.data.toList) 8 = L
  have HL : Hid (writeTo64 (sumS64 w64 S d.data.toList) 8 = L) := hL
  have hl : 48 ≤ (ByteArray.mk L.toArray).size := by show 48 ≤ L.toArray.size; rw [← hL]; simp [writeTo64_length]
  have hi : (48 : Int) ≤ ((ByteArray.mk L.toArray).size : Int) := by omega
  have HLn := hl
  clear hL hl
  go_wp2_with (go_at_call 11; refine (size_any 384 _).mono ?_; rintro e3 w3 ⟨rfl, hw3⟩; rw [hw3]; clear hw3 w3; rw [show sizeL 384 = 48 from rfl])
  go_ret
  refine ⟨?_, hB2⟩
  rw [HS.out, HL.out]
  have hx : (ByteArray.mk L.toArray).extract 0 48 = ⟨(L.take 48).toArray⟩ := Go.WideShapes.bytes_inj (by rw [extract_list]; simp)
  show Ending.returned (.string ((ByteArray.mk L.toArray).extract 0 48)) = _
  rw [hx]

set_option maxHeartbeats 400000 in
theorem sum_none (a : Int) (d : ByteArray) (w : World) (h1 : (a == 256) = false) (h2 : (a == 384) = false) (h3 : (a == 512) = false) :
    Calls Try.prog 10 #[.int .i64 a, .string d] w fun e w' => e = .returned (.string ⟨#[]⟩) ∧ w' = w := by
  go_enter Try.func10, Try.ntmps10
  go_wp2
  go_ret
  exact ⟨rfl, rfl⟩

theorem sum_any (a : Int) (d : ByteArray) (w : World) (hd : d.size ≤ 140737488355328) :
    Calls Try.prog 10 #[.int .i64 a, .string d] w fun e w' => e = .returned (.string ⟨(codeSum a d.data.toList).toArray⟩) ∧ Below w.heap.size w w' := by
  unfold codeSum
  by_cases h1 : a = 256
  · subst h1; rw [if_pos rfl]; exact sum_256 d w hd
  · rw [if_neg h1]
    by_cases h2 : a = 384
    · subst h2; rw [if_pos rfl]; exact sum_384 d w hd
    · rw [if_neg h2]
      by_cases h3 : a = 512
      · subst h3; rw [if_pos rfl]; exact sum_512 d w hd
      · rw [if_neg h3]
        exact (sum_none a d w (by simp [h1]) (by simp [h2]) (by simp [h3])).mono fun e w' ⟨he, hw⟩ => ⟨he, by rw [hw]; exact brf w⟩

end Go.Proofs.Ytfihidnmgaiojaa
