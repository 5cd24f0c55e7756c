/-
  The document's answer: Sum, of words of 64 bits.
-/
import Derived.Test.YtfihidnmgaiojaaRWays
import Derived.Test.YtfihidnmgaiojaaRPad64
import Derived.Test.YtfihidnmgaiojaaSumAll
import Derived.Test.YtfihidnmgaiojaaRJoin
namespace Go.Proofs.Ytfihidnmgaiojaa
open Go.RowKit
set_option linter.unusedVariables false

theorem rway64 {w : World} {b hg kb : Nat} {s : St 64} (h : Rows64 w b hg kb s) : RWay64 w w64 b := by
  have c := fun j => cell_of_row w b j _ _ _ h.by_
  exact ⟨rfl, (c 0).trans rfl, (c 1).trans rfl, (c 2).trans rfl, (c 3).trans rfl, (c 4).trans rfl, (c 5).trans rfl, (c 6).trans rfl, (c 7).trans rfl, (c 8).trans rfl, (c 9).trans rfl, (c 10).trans rfl, (c 11).trans rfl, ⟨rfl, rfl, rfl⟩, ⟨rfl, rfl, rfl⟩, ⟨rfl, rfl, rfl⟩, ⟨rfl, rfl, rfl⟩⟩
theorem rkeys64 {w : World} {b hg kb : Nat} {s : St 64} (h : Rows64 w b hg kb s) : ∀ i, i < 80 → w.cell? ⟨kb, i, none⟩ = some (.int .i64 (eS (w64.K.getD i 0))) := by
  intro i hi
  rw [cell_of_row w kb i _ _ _ h.k]
  have hl : i < K64.length := hi
  show ((K64.map fun k => Value.int .i64 (eS (k))).toArray)[i]? = some (.int .i64 (eS (K64.getD i 0)))
  simp [List.getElem?_eq_getElem hl]

/-- What the loop reads: the way's own cells, and the rows that it names. -/
structure RS64 (w : World) (g0 b hg kb : Nat) : Prop where
  row : w.heap[g0]? = some (.cells (wayA 64 80 b hg kb) 50 (0, 0))
  by_ : w.heap[b]? = some (.cells byA64 3 (0, 0))
  k : w.heap[kb]? = some (.cells kI64 3 (0, 0))
theorem RS64.up {w w' : World} {g0 b hg kb : Nat} (h : RS64 w g0 b hg kb) (hb : Below w.heap.size w w') : RS64 w' g0 b hg kb := ⟨Go.Proofs.Ytfihidnmgaiojaa.up hb h.row, Go.Proofs.Ytfihidnmgaiojaa.up hb h.by_, Go.Proofs.Ytfihidnmgaiojaa.up hb h.k⟩
theorem RS64.cells {w : World} {g0 b hg kb : Nat} (h : RS64 w g0 b hg kb) : w.cell? ⟨g0, 0, none⟩ = some (.int .i64 64) ∧ w.cell? ⟨g0, 1, none⟩ = some (.int .i64 80) ∧ w.cell? ⟨g0, 2, none⟩ = some (.slice (some ⟨b, 0, none⟩) 12 12) ∧ w.cell? ⟨g0, 3, none⟩ = some (.slice (some ⟨hg, 0, none⟩) 8 8) ∧ w.cell? ⟨g0, 4, none⟩ = some (.slice (some ⟨kb, 0, none⟩) 80 80) := by
  have c := fun j => cell_of_row w g0 j _ _ _ h.row
  exact ⟨(c 0).trans rfl, (c 1).trans rfl, (c 2).trans rfl, (c 3).trans rfl, (c 4).trans rfl⟩

theorem rturnedx64 (g0 b kb hg h0 : Nat) (st : St 64) (s : ByteArray) (w : World) (hs : s.size = 128) (hR : RS64 w g0 b h0 kb) (hh : w.heap[hg]? = some (.cells (ist64 st) 3 (0, 0))) (v3 : Value) :
    Calls Try.prog 27 #[.agg #[.int .i64 64, .int .i64 80, .slice (some ⟨b, 0, none⟩) 12 12, v3, .slice (some ⟨kb, 0, none⟩) 80 80], .slice (some ⟨hg, 0, none⟩) 8 8, .string s] w
      fun e w' => ∃ g, e = .returned (.slice (some ⟨g, 0, none⟩) 8 8) ∧ w'.heap[g]? = some (.cells (ist64 (blockS w64 8 st s.data.toList)) 3 (0, 0)) ∧ Below w.heap.size w w' :=
  (rturned64 b kb hg st s w w64 hs (rway64 (s := st) ⟨hR.by_, hh, hR.k⟩) (rkeys64 (s := st) ⟨hR.by_, hh, hR.k⟩) hh v3).mono fun e w' ⟨g, h1, h2, _, h4⟩ => ⟨g, h1, h2, h4⟩

theorem beX64 (x : BitVec 64) (k : Nat) : beTo 8 (x) k = beTo 8 x k := by first | rfl | exact beTo_ex _ _ _

def refS64 (s0 : St 64) (l : List UInt8) : St 64 := blocksTo w64 8 128 s0 (endL 128 16 l l.length) ((endL 128 16 l l.length).length / 128)

theorem endL64_fits (l : List UInt8) (h : l.length ≤ 140737488355328) : (endL 128 16 l l.length).length ≤ 4611686018427387904 := by
  have e : (endL 128 16 l l.length).length = l.length + 1 + padZ 128 16 l.length + 16 := by simp [endL, beTo_length]; omega
  have hp : padZ 128 16 l.length < 128 := Nat.mod_lt _ (by omega)
  omega

set_option maxHeartbeats 1000000 in
theorem rsum64 (a : Int) (sz : Nat) (s0 : St 64) (hS : ∀ w, Calls Try.prog 13 #[.int .i64 a] w fun e w' => e = .returned (.int .i64 (sz : Int)) ∧ w' = w) (h0 : 0 < sz) (h1 : sz ≤ 8 * 8)
    (hW : ∀ w, Calls Try.prog 25 #[.int .i64 a] w fun e w' => ∃ b hg kb, e = .returned (.agg (wayA 64 80 b hg kb)) ∧ Rows64 w' b hg kb s0 ∧ Below w.heap.size w w')
    (d : ByteArray) (w : World) (hd : d.size ≤ 140737488355328) :
    Calls Try.prog 12 #[.int .i64 a, .string d] w fun e w' => e = .returned (.string ⟨((writeTo64 (refS64 s0 d.data.toList) 8).take sz).toArray⟩) ∧ Below w.heap.size w w' := by
  have hz := zeroWay
  have hs0 : ((sz : Int) == 0) = false := by simp; omega
  go_enter Try.func12, Try.ntmps12
  go_wp2_with (go_at_call 13; refine (hS _).mono ?_; rintro e1 w1 ⟨rfl, hw1⟩; rw [hw1]; clear hw1 w1)
  refine (hW _).mono ?_
  rintro e1 w1 ⟨b, hg, kb, rfl, hR, hB1⟩
  have HR : Hid _ := hR
  have HB1 : Hid _ := hB1
  clear hR hB1
  have hr2 := heap_alloc_new w1 (.cells (wayA 64 80 b hg kb) 50)
  have hb2 : Below w1.heap.size w1 (w1.alloc (.cells (wayA 64 80 b hg kb) 50)) := bal (brf _) _
  obtain ⟨W2, hW2⟩ : ∃ W2, w1.alloc (.cells (wayA 64 80 b hg kb) 50) = W2 := ⟨_, rfl⟩
  rw [hW2] at hr2 hb2
  have hR2 : RS64 W2 w1.heap.size b hg kb := ⟨hr2, up hb2 HR.out.by_, up hb2 HR.out.k⟩
  have hh2 := up hb2 HR.out.h
  have hB2 := HB1.out.trans (hb2.mono HB1.out.size)
  obtain ⟨c0, c1, c2, c3, c4⟩ := hR2.cells
  have HW2 : Hid _ := hW2
  have HR2 : Hid _ := hR2
  have HH2 : Hid _ := hh2
  have HB2 : Hid _ := hB2
  clear hW2 hr2 hb2 hR2 hh2 hB2
  go_wp2_with (first | (refine wpList_store_row rfl 50 (.tmp 5) (.tmp 17) rfl w1.heap.size _ rfl rfl _ _ (heap_alloc_new _ _) (way_info _ _ _ _ _) rfl (way_one _ _ _ _ _) ?_; rw [World.setRow_alloc_new, HW2.out]))
  refine (rpadded64 d W2 hd).mono ?_
  rintro e3 w3 ⟨rfl, hb3⟩
  have hfit := endL64_fits d.data.toList (by simpa using hd)
  have hlen := endL64_length d.data.toList d.data.toList.length
  have HREF : Hid (∀ l, l = d.data.toList → refS64 s0 l = blocksTo w64 8 128 s0 (endL 128 16 l l.length) ((endL 128 16 l l.length).length / 128)) := fun _ _ => rfl
  rw [show d.size = d.data.toList.length from by simp]
  generalize hT : endL 128 16 d.data.toList d.data.toList.length = T at hfit hlen
  obtain ⟨m, hm⟩ : ∃ m, T.length / 128 = m := ⟨_, rfl⟩
  rw [hm] at hlen
  have HT : Hid (refS64 s0 d.data.toList = blocksTo w64 8 128 s0 T m) := by show refS64 s0 d.data.toList = _; rw [HREF.out _ rfl, hT, hm]
  clear hm hT HREF
  have HLN : Hid (T.length = m * 128) := hlen
  clear hlen
  have hR3 := HR2.out.up hb3
  have hh3 := up hb3 HH2.out
  have hB3 := HB2.out.trans (hb3.mono HB2.out.size)
  have c0' := b_self hb3 c0
  have c3' := b_self hb3 c3
  generalize w1.heap.size = g0 at hR3 c0' c3'
  clear HW2 HR2 HH2 HB2 c0 c1 c2 c3 c4 hb3 HR HB1
  have HR3 : Hid _ := hR3
  have HH3 : Hid _ := hh3
  have HB3 : Hid _ := hB3
  clear hR3 hh3 hB3
  go_wp2_with fail
  go_loopw [8, 9] (fun v i wr => ∃ (k g : Nat), k ≤ m ∧ i = .int .i64 ((k * 128 : Nat) : Int) ∧ v = .slice (some ⟨g, 0, none⟩) 8 8 ∧ wr.heap[g]? = some (.cells (ist64 (blocksTo w64 8 128 s0 T k)) 3 (0, 0)) ∧ Below w3.heap.size w3 wr) (fun _ i _ => T.length - (intOf i).toNat)
  case atStart => exact ⟨0, hg, by omega, rfl, rfl, HH3.out, brf _⟩
  case round =>
    obtain ⟨k, g, hk, rfl, rfl, hgv, hb⟩ := hrel
    clear c0' c3'
    generalize hv : blocksTo w64 8 128 s0 T k = v at hgv
    have HV : Hid (blocksTo w64 8 128 s0 T k = v) := hv
    clear hv
    have hRr := HR3.out.up hb
    obtain ⟨c0, c1, c2, c3, c4⟩ := hRr.cells
    have HRr : Hid _ := hRr
    have HG : Hid _ := hgv
    have HB : Hid _ := hb
    clear hRr hgv hb
    by_cases hlt2 : k < m
    · have hle : k * 128 + 128 ≤ T.length := by have : (k + 1) * 128 ≤ m * 128 := Nat.mul_le_mul_right _ hlt2; have := HLN.out; omega
      generalize hn : k * 128 = n at hle
      have HN : Hid (k * 128 = n) := hn
      clear hn
      have hts : (⟨T.toArray⟩ : ByteArray).size = T.length := by show T.toArray.size = _; simp
      have hw1 := i64w ((n : Int) + 128) (by omega)
      have hi1 : (0 : Int) ≤ (n : Int) := by omega
      have hi2 : (n : Int) ≤ (n : Int) + 128 := by omega
      have hi3 : (n : Int) + 128 ≤ (T.length : Int) := by omega
      have hi4 : (0 : Int) ≤ (n : Int) + 128 := by omega
      have hi5 : (n : Int) < (T.length : Int) := by omega
      have ht1 : ((n : Int) + 128).toNat = n + 128 := by omega
      go_wp2_with fail
      go_region_with (go_at_call 27; refine (rturnedx64 g0 b kb g hg v ((⟨T.toArray⟩ : ByteArray).extract n (n + 128)) wr.drew (by simp [hts]; omega) (HRr.out.up (Below.refl wr.heap.size wr).drew) (by rw [heap_drew]; exact HG.out) _).mono ?_; rintro e4 w4 ⟨g4, rfl, hg4, hb4⟩; have HG4 : Hid _ := hg4; have HB4 : Hid _ := hb4; clear hg4 hb4)
      all_goals
        have hks : (n : Int) + 128 = (((k + 1) * 128 : Nat) : Int) := by have := HN.out; omega
        have HKS : Hid ((n : Int) + 128 = (((k + 1) * 128 : Nat) : Int)) := hks
        clear hks
        go_wp2_with fail
        refine ⟨⟨k + 1, g4, by omega, by rw [HKS.out], rfl, ?_, ?_⟩, ?_⟩
        · rw [HG4.out, blocksTo, HV.out, HN.out, extract_list, show n + 128 - n = 128 from by omega]
        · have h4 := HB4.out
          exact HB.out.trans (Below.mono (B := wr.heap.size) ⟨h4.os, h4.tape, h4.output, h4.size, h4.block⟩ HB.out.size)
        · simp [intOf]; omega
    · obtain rfl : k = m := by omega
      have hz2 : (T.length : Int) = ((k * 128 : Nat) : Int) := by have := HLN.out; omega
      obtain ⟨wA, hwA⟩ : ∃ x, x = wr := ⟨wr, rfl⟩
      subst hwA
      clear c0 c1 c2 c3 c4 hk hlt2
      go_wp2_with fail
      go_loopw [10, 11] (fun o i wx => ∃ j : Nat, j ≤ 8 ∧ i = .int .i64 j ∧ o = .string ⟨(writeTo64 v j).toArray⟩ ∧ Below wA.heap.size wA wx) (fun _ i _ => 8 - (intOf i).toNat)
      case atStart => exact ⟨0, by omega, rfl, rfl, brf _⟩
      case round =>
        obtain ⟨j, hj, rfl, rfl, hbx⟩ := hrel
        by_cases hlt3 : j < 8
        · have c0 := (HRr.out.up hbx).cells.1
          have cv : wr.cell? ⟨g, j, none⟩ = some (.int .i64 (eS (at64 v j))) := by rw [cell_of_row _ _ _ _ _ _ (up hbx HG.out), ist64_get _ _ hlt3]
          generalize hq : at64 v j = q at cv
          have HQ : Hid (at64 v j = q) := hq
          clear hq
          have HBX : Hid _ := hbx
          clear hbx
          generalize hL : writeTo64 v j = L
          have hLl : L.length = j * 8 := by rw [← hL]; exact writeTo64_length _ _
          have HL : Hid (writeTo64 v j = L) := hL
          clear hL
          have hi1 : (j : Int) < 8 := by omega
          have hi2 : (0 : Int) ≤ (j : Int) := by omega
          have hl2 : L.length + (beTo 8 q 8).length ≤ 9223372036854775807 := by rw [beTo_length]; omega
          have hl3 : L.length ≤ 64 := by omega
          have HLL : Hid _ := hLl
          clear hLl
          go_wp2_with fail
          go_region_with (go_at_call 28; refine (rbytesOf (q) 8 (by omega) _).mono ?_; rintro e6 w6 ⟨rfl, hb6⟩; rw [beX64]; have HB6 : Hid _ := hb6; clear hb6)
          all_goals
            go_wp2_with fail
            refine ⟨?_, by simp [intOf]; omega⟩
            repeat apply Exists.intro
            refine ⟨?_, rfl⟩
            refine ⟨j + 1, by omega, by go_num, ?_, ?_⟩
            · rw [writeTo64, HL.out, HQ.out, ← str_app]
            · have h6 := HB6.out
              exact HBX.out.trans (Below.mono (B := wr.heap.size) ⟨h6.os, h6.tape, h6.output, h6.size, h6.block⟩ HBX.out.size)
        · obtain rfl : j = 8 := by omega
          generalize hL : writeTo64 v 8 = L
          have hLl : L.length = 8 * 8 := by rw [← hL]; exact writeTo64_length _ _
          have HL : Hid (writeTo64 v 8 = L) := hL
          clear hL
          have hi1 : (sz : Int) ≤ ((⟨L.toArray⟩ : ByteArray).size : Int) := by show (sz : Int) ≤ (L.toArray.size : Int); simp; omega
          have hi2 : (0 : Int) ≤ (sz : Int) := by omega
          have hi3 : (sz : Int) ≤ (L.length : Int) := by omega
          have HBX : Hid _ := hbx
          have HLL : Hid _ := hLl
          clear hbx hLl
          go_wp2_with (go_at_call 13; refine (hS _).mono ?_; rintro e7 w7 ⟨rfl, hw7⟩; rw [hw7]; clear hw7 w7)
          go_ret
          refine ⟨?_, ?_⟩
          · rw [HT.out, HV.out, HL.out]
            have hx : (ByteArray.mk L.toArray).extract 0 sz = ⟨(L.take sz).toArray⟩ := Go.WideShapes.bytes_inj (by rw [extract_list]; simp)
            show Ending.returned (.string ((ByteArray.mk L.toArray).extract 0 sz)) = _
            rw [hx]
          · have t1 := HB3.out.trans (HB.out.mono HB3.out.size)
            exact t1.trans (HBX.out.mono t1.size)

theorem refS64_eq (s0 : St 64) (l : List UInt8) : refS64 s0 l = sumS64 w64 s0 l := join_sum w64 8 128 16 (by omega) s0 l l.length
end Go.Proofs.Ytfihidnmgaiojaa
