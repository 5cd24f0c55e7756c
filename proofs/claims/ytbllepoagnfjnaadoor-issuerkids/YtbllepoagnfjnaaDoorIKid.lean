/-
  The law's own: Kids, whose rotate and retire keep count.
-/
import Derived.Test.YtbllepoagnfjnaaDoorIRet
namespace Go.Proofs.YtbllepoagnfjnaaDoor.Dg
set_option maxRecDepth 4000
open Go.RowKit Go.Deep
set_option linter.unusedVariables false
set_option linter.unusedSimpArgs false

theorem row_same {w w' : World} {B : Nat} {e : TypeId} {k : Nat} {v : Value} {n : Nat} {xs : List Value} (h : w.ownsRow B e k v n xs) (hs : ∀ g, v.ownBlock = some g → w'.heap[g]? = w.heap[g]?) : w'.ownsRow B e k v n xs := by
  refine ⟨h.1, ?_⟩
  rcases h.2 with hn | ⟨g, cap, cur, rfl, hb, hg, rest⟩
  · exact .inl hn
  · exact .inr ⟨g, cap, cur, rfl, hb, (hs g rfl).trans hg, rest⟩
/-- The kids that were told. -/
def toldL (n : Nat) : List ByteArray := (List.range n).map fun i => kidB (i + 1)
theorem toldL_len (n : Nat) : (toldL n).length = n := by simp [toldL]
theorem toldL_succ (n : Nat) : toldL (n + 1) = toldL n ++ [kidB (n + 1)] := by simp [toldL, List.range_succ]
theorem kidB_list (n : Nat) : (kidB n).data.toList = 107 :: decN n := by
  unfold kidB
  rw [← decI_eqK, ByteArray.data_append]
  have : decI (n : Int) = decN n := by unfold decI; rw [if_neg (by omega)]; rfl
  rw [this]; simp
theorem kidB_inj {m n : Nat} (hm : m ≤ 9007199254740991) (hn : n ≤ 9007199254740991) (h : (kidB m).data.toList = (kidB n).data.toList) : m = n := by
  rw [kidB_list, kidB_list] at h
  injection h with _ h
  have e1 := (decN_acc m).2 hm
  have e2 := (decN_acc n).2 hn
  rw [h] at e1
  omega
theorem told_not {n : Nat} (hn : n ≤ 9007199254740990) {z : ByteArray} (hz : z ∈ toldL n) : ¬ z.data.toList = (kidB (n + 1)).data.toList := fun h => by
  obtain ⟨i, hi, rfl⟩ := List.mem_map.1 hz
  have hi' := List.mem_range.1 hi
  have := kidB_inj (by omega) (by omega) h
  omega
/-- An issuer, and what the law knows of its kids. -/
structure Inv (B kb b : Nat) (iss : ByteArray) (ttl now : Int) (n : Nat) (kv : Value) (ks : List Ky) (tv lv : Value) (w : World) : Prop where
  isr : IS b iss ttl now kv (n : Int) w
  row : w.ownsRow B 72 3 kv ks.length (flatK ks)
  obj : w.heap[kb]? = some (.cells #[.pointer (some ⟨b, 0, none⟩), tv, lv] 34 (0, 0))
  told : w.ownsRow B 9 1 tv n ((toldL n).map Value.string)
  left : w.ownsRow B 9 1 lv ks.length (ks.map fun k => Value.string k.kid)
  bB : B ≤ b
  kB : B ≤ kb
  bk : b ≠ kb
  s1 : kv.ownBlock ≠ some b ∧ kv.ownBlock ≠ some kb
  s2 : tv.ownBlock ≠ some b ∧ tv.ownBlock ≠ some kb
  s3 : lv.ownBlock ≠ some b ∧ lv.ownBlock ≠ some kb
  s4 : ∀ g, kv.ownBlock = some g → tv.ownBlock ≠ some g ∧ lv.ownBlock ≠ some g
  s5 : ∀ g, tv.ownBlock = some g → lv.ownBlock ≠ some g
  keys : ∀ k ∈ ks, keyErr k.alg k.kid k.key = 0
  diff : ks.Pairwise fun a b => a.kid ≠ b.kid
  from' : ∀ k ∈ ks, k.kid ∈ toldL n
  few : ks.length ≤ 20
theorem Ch.below {b B : Nat} {v : Value} {w w' : World} (h : Ch b v w w') (hb : B ≤ b) (hv : ∀ g, v.ownBlock = some g → B ≤ g) (hw : B ≤ w.heap.size) : Below B w w' :=
  ⟨h.os, h.tape, h.output, h.size, fun k hk => h.block k (by omega) (by omega) (fun e => by have := hv k e; omega)⟩
theorem own_shape {w : World} {B : Nat} {e : TypeId} {k : Nat} {v : Value} {n : Nat} {xs : List Value} (h : w.ownsRow B e k v n xs) : ∃ ad cap, v = .slice ad n cap := by
  rcases h.2 with ⟨a, b⟩ | ⟨g, cap, cur, a, _⟩
  · exact ⟨none, 0, by rw [a, b]⟩
  · exact ⟨_, _, a⟩
theorem own_str {w : World} {B : Nat} {e : TypeId} {ad : Option Addr} {n cap : Nat} {zs : List ByteArray} (h : w.ownsRow B e 1 (.slice ad n cap) n (zs.map Value.string)) : ∀ (j : Nat) (z : ByteArray), zs[j]? = some z → ∃ g, ad = some ⟨g, 0, none⟩ ∧ w.cell? ⟨g, j, none⟩ = some (.string z) := by
  intro j z hz
  have hadd : ∀ (g j : Nat), (⟨g, 0, none⟩ : Addr).add j = ⟨g, j, none⟩ := fun g j => by unfold Addr.add; split <;> simp_all
  rcases h.2 with ⟨a, b⟩ | ⟨g, c, cu, a, _⟩
  · have := h.1
    rw [b] at this
    simp at this
    subst this
    simp at hz
  · injection a with a1 a2 a3
    subst a1
    have := h.cells (g := g) rfl j (.string z) (by simp [hz])
    rw [hadd] at this
    exact ⟨g, rfl, this⟩
theorem one_cellX (w : World) (a : Addr) (v : Value) (y : Value) (e : TypeId) (_ : Unit) : ∀ (j : Nat) (u : Value), [y][j]? = some u → ((w.setCell a v).alloc (.cells #[y] e)).cell? ((⟨w.heap.size, 0, none⟩ : Addr).add j) = some u := by
  have h := one_cellT (w.setCell a v) y e
  rw [nblk_setCell] at h
  exact h
theorem strinfoI : (Tryd.prog.info? 9).map (fun i => (i.zero, i.size, i.bytes)) = some (some (.string ByteArray.empty), 1, 16) := by kernel_rfl
set_option maxHeartbeats 400000 in
theorem lnumI (e : Int) (w : World) : Calls Tryd.prog 6 #[.int .i64 e] w fun r w' => r = .returned (.int .i64 e) ∧ w' = w := by
  go_enter Tryd.func6, Tryd.ntmps6
  go_wp2
  go_ret
  exact ⟨rfl, rfl⟩
theorem Inv.below {B kb b : Nat} {iss : ByteArray} {ttl now : Int} {n : Nat} {kv : Value} {ks : List Ky} {tv lv : Value} {w w' : World} (h : Inv B kb b iss ttl now n kv ks tv lv w) (hb : Below w.heap.size w w') : Inv B kb b iss ttl now n kv ks tv lv w' :=
  { h with
    isr := ⟨(hb.block b (Array.getElem?_eq_some_iff.1 h.isr.obj).1).trans h.isr.obj⟩
    row := row_kpT h.row hb
    obj := (hb.block kb (Array.getElem?_eq_some_iff.1 h.obj).1).trans h.obj
    told := row_kpT h.told hb
    left := row_kpT h.left hb }
/-- What a step of the law's leaves alone. -/
def KeptK (b kb : Nat) (kv tv lv : Value) (w w' : World) : Prop := ∀ k, k < w.heap.size → k ≠ b → k ≠ kb → kv.ownBlock ≠ some k → tv.ownBlock ≠ some k → lv.ownBlock ≠ some k → w'.heap[k]? = w.heap[k]?
set_option maxRecDepth 8000 in
set_option maxHeartbeats 4000000 in
theorem krotate (B kb b : Nat) (iss : ByteArray) (ttl now : Int) (n : Nat) (kv : Value) (ks : List Ky) (tv lv : Value) (alg : Int) (key : ByteArray) (w : World) (h : Inv B kb b iss ttl now n kv ks tv lv w) (hW : WG w)
    (htab : Lib.TabBelow Tryd.prog w.heap.size w "internal/strconv.uint64pow10" .u64 Lib.pow10Tab) (hn : n ≤ 8000000000000) (hk : key.size ≤ 4611686018427387904) :
    Calls Tryd.prog 7 #[.pointer (some ⟨kb, 0, none⟩), .int .i64 alg, .string key] w fun r w' => r = .returned (.bool true) ∧ (∃ n' kv' ks' tv' lv', n' ≤ n + 1 ∧ Inv B kb b iss ttl now n' kv' ks' tv' lv' w') ∧ Below B w w' ∧ KeptK b kb kv tv lv w w' := by
  have hr := crotate b iss ttl now n kv ks B alg key w h.isr h.row h.s1.1 h.bB hW htab (by omega) h.few hk
  have c0 : w.cell? ⟨kb, 0, none⟩ = some (.pointer (some ⟨b, 0, none⟩)) := by simp [World.cell?, h.obj]
  have HR := ihid hr
  have H := ihid h
  clear hr h hW htab
  go_enter Tryd.func7, Tryd.ntmps7
  go_wp2_with fail
  refine HR.out.mono ?_
  rintro r w1 hq
  rcases hq with ⟨e1, rfl, hb1⟩ | ⟨e1, e2, rfl, hb1⟩ | ⟨e1, e2, kv', rfl, hI1, hK1, hO1, hC1⟩
  · have HI1 := ihid (H.out.below hb1)
    have HB1 : Hid (Below B w w1) := hb1.mono (by have := (Array.getElem?_eq_some_iff.1 H.out.obj).1; have := H.out.kB; omega)
    have HKp : Hid (KeptK b kb kv tv lv w w1) := fun k hk _ _ _ _ _ => hb1.block k hk
    have k1 : (keyErr alg (kidB (n + 1)) key != 0) = true := by simp [e1]
    generalize keyErr alg (kidB (n + 1)) key = E at *
    clear hb1 HR
    go_wp2_with (refine (lnumI E w1).mono ?_; rintro r w2 ⟨rfl, hw2⟩; rw [hw2]; clear hw2 w2)
    go_ret
    exact ⟨rfl, ⟨n, _, _, _, _, by omega, HI1.out⟩, HB1.out, HKp.out⟩
  · have HI1 := ihid (H.out.below hb1)
    have HB1 : Hid (Below B w w1) := hb1.mono (by have := (Array.getElem?_eq_some_iff.1 H.out.obj).1; have := H.out.kB; omega)
    have HKp : Hid (KeptK b kb kv tv lv w w1) := fun k hk _ _ _ _ _ => hb1.block k hk
    clear hb1 HR
    go_wp2_with (refine (lnumI 8 w1).mono ?_; rintro r w2 ⟨rfl, hw2⟩; rw [hw2]; clear hw2 w2)
    go_ret
    exact ⟨rfl, ⟨n, _, _, _, _, by omega, HI1.out⟩, HB1.out, HKp.out⟩
  · have HI1 := ihid hI1
    have HK1 := ihid hK1
    have HO1 := ihid hO1
    have HC1 := ihid hC1
    clear hI1 hK1 hO1 hC1 HR
    go_wp2_with (refine (lnumI 0 w1).mono ?_; rintro r w2 ⟨rfl, hw2⟩; rw [hw2]; clear hw2 w2)
    have hkb1 : w1.heap[kb]? = some (.cells #[.pointer (some ⟨b, 0, none⟩), tv, lv] 34 (0, 0)) := (HC1.out.block kb (Array.getElem?_eq_some_iff.1 H.out.obj).1 (Ne.symm H.out.bk) H.out.s1.2).trans H.out.obj
    have hT1 : w1.ownsRow B 9 1 tv n ((toldL n).map Value.string) := row_same H.out.told (fun g hg => HC1.out.block g ((H.out.told.lt g hg).2) (fun e => H.out.s2.1 (by rw [hg, e])) (fun e => (H.out.s4 g e).1 hg))
    have hL1 : w1.ownsRow B 9 1 lv ks.length (ks.map fun k => Value.string k.kid) := row_same H.out.left (fun g hg => HC1.out.block g ((H.out.left.lt g hg).2) (fun e => H.out.s3.1 (by rw [hg, e])) (fun e => (H.out.s4 g e).2 hg))
    obtain ⟨adt, capt, htv⟩ := own_shape hT1
    subst htv
    have hcell : ∀ (j : Nat) (z : ByteArray), (toldL n)[j]? = some z → ∃ g, adt = some ⟨g, 0, none⟩ ∧ w1.cell? ⟨g, j, none⟩ = some (.string z) := own_str hT1
    have c1 : w1.cell? ⟨kb, 1, none⟩ = some (.slice adt n capt) := by simp [World.cell?, hkb1]
    have HCE := ihid hcell
    have HKB := ihid hkb1
    have HT1 := ihid hT1
    have HL1 := ihid hL1
    clear hcell hkb1 hT1 hL1
    go_loopw [9] (fun iv wr => ∃ i q : Nat, i ≤ n ∧ iv = .int .i64 (i : Int) ∧ wr = w1.drewN q) (fun iv _ => n - (intOf iv).toNat)
    case atStart => exact ⟨0, 0, by omega, rfl, rfl⟩
    case round =>
      obtain ⟨i, q, hi, rfl, rfl⟩ := hrel
      by_cases hlt : i < n
      · have k1 : (i : Int) < (n : Int) := by omega
        have k2 : (i : Int) ≤ 8000000000000 := by omega
        obtain ⟨z, hz⟩ : ∃ z, (toldL n)[i]? = some z := ⟨_, List.getElem?_eq_getElem (by rw [toldL_len]; exact hlt)⟩
        obtain ⟨g, rfl, cz⟩ := HCE.out i z hz
        have hne := tne (told_not (by omega) (List.mem_of_getElem? hz))
        clear hz
        go_wp2_with fail
        exact ⟨⟨i + 1, q, by omega, by go_num, rfl⟩, by simp [intOf]; omega⟩
      · have k1 : ¬ (i : Int) < (n : Int) := by omega
        obtain ⟨i0, hi0, hz0, hz1, hz2⟩ := kinfo_partsI strinfoI
        obtain ⟨W, hW⟩ : ∃ W, W = w1.drewN q := ⟨_, rfl⟩
        rw [← hW]
        have hbW : Below w1.heap.size w1 W := by rw [hW]; exact ⟨rfl, rfl, rfl, Nat.le_refl _, fun _ _ => rfl⟩
        have oW : W.heap[kb]? = some (.cells #[.pointer (some ⟨b, 0, none⟩), .slice adt n capt, lv] 34 (0, 0)) := by rw [hW]; exact HKB.out
        have tW : W.ownsRow B 9 1 (.slice adt n capt) n ((toldL n).map Value.string) := row_kpT HT1.out hbW
        have lW : W.ownsRow B 9 1 lv ks.length (ks.map fun k => Value.string k.kid) := row_kpT HL1.out hbW
        have kW : W.ownsRow B 72 3 kv' (ks ++ [(⟨alg, kidB (n + 1), key⟩ : Ky)]).length (flatK (ks ++ [(⟨alg, kidB (n + 1), key⟩ : Ky)])) := row_kpT HK1.out hbW
        have iW : IS b iss ttl now kv' ((n : Int) + 1) W := ⟨by rw [hW]; exact HI1.out.obj⟩
        have hBW : B ≤ W.heap.size := by have := (Array.getElem?_eq_some_iff.1 oW).1; have := H.out.kB; omega
        have c1' : W.cell? ⟨kb, 1, none⟩ = some (.slice adt n capt) := by simp [World.cell?, oW]
        have kbW : kb < W.heap.size := (Array.getElem?_eq_some_iff.1 oW).1
        have hl1 : n + 1 ≤ maxLen := by unfold maxLen; omega
        have hl2 : (n + 1) * 16 ≤ 140737488355328 := by omega
        have HTW := ihid tW
        have HLW := ihid lW
        have HKW := ihid kW
        have HIW := ihid iW
        have HOW := ihid oW
        have HNE : Hid (some kb ≠ (Value.slice adt n capt).ownBlock) := fun e => H.out.s2.2 e.symm
        have HII := ihid hi0
        have HBW := ihid hBW
        have HL3 : Hid (ks.length + 1 ≤ maxLen) := (by show ks.length + 1 ≤ maxLen; unfold maxLen; omega)
        have HL4 : Hid ((ks.length + 1) * 16 ≤ 140737488355328) := (by show (ks.length + 1) * 16 ≤ 140737488355328; omega)
        have HL1' := ihid hl1
        have HL2' := ihid hl2
        clear tW lW kW iW oW hi0 hBW hl1 hl2 c1 hW
        go_wp2_with (first | (refine wpList_append_lies _ rfl (.tmp 45) (.tmp 47) 32 rfl B 9 i0 (.string ByteArray.empty) 1 16 Tryd.underlying32 HII.out hz0 hz1 hz2 rfl (by decide) _ n ((toldL n).map Value.string) rfl (by exact HTW.out.alloc _) ⟨W.heap.size, 0, none⟩ 1 1 [.string (kidB (n + 1))] rfl rfl (by exact one_cellT W _ _) (by intro u hu; simp at hu; subst hu; rfl) (by decide) HL1'.out HL2'.out (by have := HBW.out; simp; omega) (W.heap.size + 1) (by simp) ?_; intro g6 cap6 w6 ho6 hg6 hgg6 _; have hob6 : w6.heap[kb]? = some (.cells #[.pointer (some ⟨b, 0, none⟩), .slice adt n capt, lv] 34 (0, 0)) := (hg6.block kb (by simp; omega) HNE.out).trans ((heap_alloc_old W _ kbW).trans HOW.out); have s1 : w6.cell? ⟨kb, 1, none⟩ = some (.slice adt n capt) := (by simp [World.cell?, hob6]); have s2 : w6.cell? ⟨kb, 2, none⟩ = some lv := (by simp [World.cell?, hob6]); have s1f : w6.frozen? ⟨kb, 1, none⟩ = false := (by simp [World.frozen?, hob6]); have HOB6 := ihid hob6; clear hob6; have HO6 : Hid (w6.ownsRow B 9 1 (.slice (some ⟨g6, 0, none⟩) (n + 1) cap6) (n + 1) ((toldL n).map Value.string ++ [.string (kidB (n + 1))])) := ho6; have HG6 : Hid ((W.alloc (.cells #[.string (kidB (n + 1))] 9)).grownBy w6 (Value.slice adt n capt).ownBlock) := hg6; have HGG6 : Hid ((Value.slice adt n capt).ownBlock = some g6 ∨ g6 = W.heap.size + 1) := hgg6; have HW6 : Hid (∀ k, k < W.heap.size → (Value.slice adt n capt).ownBlock ≠ some k → w6.heap[k]? = W.heap[k]?) := (fun k hk hne => (hg6.block k (by simp; omega) (fun e => hne e.symm)).trans (heap_alloc_old W _ hk)); have HZ6 : Hid (W.heap.size + 1 ≤ w6.heap.size) := (by have := hg6.size; simp at this; exact this); have HL6 : Hid (w6.ownsRow B 9 1 lv ks.length (ks.map fun k => Value.string k.kid)) := row_same HLW.out (fun g hg => HW6.out g (HLW.out.lt g hg).2 (fun e => H.out.s5 g e hg)); have HL7 : Hid (∀ v o, ((w6.setCell ⟨kb, 1, none⟩ v).alloc o).ownsRow B 9 1 lv ks.length (ks.map fun k => Value.string k.kid)) := (fun v o => (row_same HL6.out (fun g hg => blk_setCell_other w6 ⟨kb, 1, none⟩ v g (fun e => H.out.s3.2 (by rw [hg, e])))).alloc o); clear ho6 hg6 hgg6) | (refine wpList_append_lies _ rfl (.tmp 55) (.tmp 57) 32 rfl B 9 i0 (.string ByteArray.empty) 1 16 Tryd.underlying32 HII.out hz0 hz1 hz2 rfl (by decide) lv ks.length (ks.map fun k => Value.string k.kid) rfl (by exact HL7.out _ _) ⟨w6.heap.size, 0, none⟩ 1 1 [.string (kidB (n + 1))] (by simp [Act.eval, Act.put]) rfl (by intro j u hu; exact one_cellX w6 _ _ _ _ () j u hu) (by intro u hu; simp at hu; subst hu; rfl) (by decide) HL3.out HL4.out (by have := HBW.out; have := HZ6.out; simp; omega) (w6.heap.size + 1) (by simp) ?_; intro g8 cap8 w8 ho8 hg8 hgg8 _; have HO8 : Hid (w8.ownsRow B 9 1 (.slice (some ⟨g8, 0, none⟩) (ks.length + 1) cap8) (ks.length + 1) ((ks.map fun k => Value.string k.kid) ++ [.string (kidB (n + 1))])) := ho8; have HG8 := ihid hg8; have HGG8 : Hid (lv.ownBlock = some g8 ∨ g8 = w6.heap.size + 1) := hgg8; have hob8 : w8.heap[kb]? = some (.cells #[.pointer (some ⟨b, 0, none⟩), .slice (some ⟨g6, 0, none⟩) (n + 1) cap6, lv] 34 (0, 0)) := (hg8.block kb (by have := HZ6.out; simp; omega) (fun e => H.out.s3.2 e.symm)).trans ((heap_alloc_old _ _ (by have := HZ6.out; simp; omega)).trans (by rw [setCell_eq_setRow w6 kb 1 _ _ _ _ HOB6.out, setRow_heap w6 kb _ _ _ _ HOB6.out]; rfl)); have s3 : w8.cell? ⟨kb, 2, none⟩ = some lv := (by simp [World.cell?, hob8]); have s3f : w8.frozen? ⟨kb, 2, none⟩ = false := (by simp [World.frozen?, hob8]); have HOB8 := ihid hob8; clear hob8 ho8 hg8 hgg8))
        go_ret
        have hWw : w.heap.size ≤ W.heap.size := Nat.le_trans HC1.out.size hbW.size
        have tlt : ∀ g, (Value.slice adt n capt).ownBlock = some g → g < w.heap.size ∧ B ≤ g := fun g hg => ⟨(H.out.told.lt g hg).2, (H.out.told.lt g hg).1⟩
        have llt : ∀ g, lv.ownBlock = some g → g < w.heap.size ∧ B ≤ g := fun g hg => ⟨(H.out.left.lt g hg).2, (H.out.left.lt g hg).1⟩
        have klt : ∀ g, kv'.ownBlock = some g → g < W.heap.size ∧ B ≤ g := fun g hg => ⟨(HKW.out.lt g hg).2, (HKW.out.lt g hg).1⟩
        have hbw : b < w.heap.size := (Array.getElem?_eq_some_iff.1 H.out.isr.obj).1
        have hkbw : kb < w.heap.size := (Array.getElem?_eq_some_iff.1 H.out.obj).1
        have hz6 := HZ6.out
        have g6lt : g6 < w6.heap.size := (HO6.out.lt g6 rfl).2
        have g8lt : g8 < w8.heap.size := (HO8.out.lt g8 rfl).2
        have g6B : B ≤ g6 := (HO6.out.lt g6 rfl).1
        have z8 : w6.heap.size + 1 ≤ w8.heap.size := by have := HG8.out.size; simpa using this
        have g6ne : ∀ x, x < W.heap.size → (Value.slice adt n capt).ownBlock ≠ some x → g6 ≠ x := fun x hx hne e => by
          rcases HGG6.out with h | h
          · exact hne (by rw [h, e])
          · omega
        have g8ne : ∀ x, x < w6.heap.size → lv.ownBlock ≠ some x → g8 ≠ x := fun x hx hne e => by
          rcases HGG8.out with h | h
          · exact hne (by rw [h, e])
          · omega
        have kne : ∀ g, kv'.ownBlock = some g → (Value.slice adt n capt).ownBlock ≠ some g ∧ lv.ownBlock ≠ some g ∧ g ≠ b ∧ g ≠ kb := fun g hg => by
          rcases HO1.out g hg with h | h
          · exact ⟨(H.out.s4 g h).1, (H.out.s4 g h).2, fun e => H.out.s1.1 (by rw [h, e]), fun e => H.out.s1.2 (by rw [h, e])⟩
          · exact ⟨fun e => by have := (tlt g e).1; omega, fun e => by have := (llt g e).1; omega, by omega, by omega⟩
        have y9 : ∀ k, k ≠ kb → (w8.setCell ⟨kb, 2, none⟩ (.slice (some ⟨g8, 0, none⟩) (ks.length + 1) cap8)).heap[k]? = w8.heap[k]? := fun k hk => blk_setCell_other w8 ⟨kb, 2, none⟩ _ k hk
        have y8 : ∀ k, k < w6.heap.size → k ≠ kb → lv.ownBlock ≠ some k → w8.heap[k]? = w6.heap[k]? := fun k hk h1 h2 => by
          rw [HG8.out.block k (by simp; omega) (fun e => h2 e.symm), heap_alloc_old _ _ (by rw [nblk_setCell]; exact hk)]
          exact blk_setCell_other w6 ⟨kb, 1, none⟩ _ k h1
        have y6 : ∀ k, k < W.heap.size → k ≠ kb → (Value.slice adt n capt).ownBlock ≠ some k → lv.ownBlock ≠ some k → (w8.setCell ⟨kb, 2, none⟩ (.slice (some ⟨g8, 0, none⟩) (ks.length + 1) cap8)).heap[k]? = W.heap[k]? := fun k hk h1 h2 h3 => by
          rw [y9 k h1, y8 k (by omega) h1 h3]; exact HW6.out k hk h2
        have ht : (toldL n).map Value.string ++ [.string (kidB (n + 1))] = (toldL (n + 1)).map Value.string := by rw [toldL_succ, List.map_append]; rfl
        refine ⟨rfl, ⟨n + 1, Nat.le_refl _, kv', ks ++ [(⟨alg, kidB (n + 1), key⟩ : Ky)], .slice (some ⟨g6, 0, none⟩) (n + 1) cap6, .slice (some ⟨g8, 0, none⟩) (ks.length + 1) cap8, ?_⟩, ?_, fun k hk h1 h2 h3 h4 h5 => ?_⟩
        · refine { isr := ⟨?_⟩, row := ?_, obj := ?_, told := ?_, left := ?_, bB := H.out.bB, kB := H.out.kB, bk := H.out.bk, s1 := ?_, s2 := ?_, s3 := ?_, s4 := ?_, s5 := ?_, keys := ?_, diff := ?_, from' := ?_, few := ?_ }
          · rw [y6 b (by omega) H.out.bk H.out.s2.1 H.out.s3.1, HIW.out.obj]; rfl
          · exact row_same HKW.out (fun g hg => y6 g (klt g hg).1 (kne g hg).2.2.2 (kne g hg).1 (kne g hg).2.1)
          · rw [setCell_eq_setRow w8 kb 2 _ _ _ _ HOB8.out, setRow_heap w8 kb _ _ _ _ HOB8.out]; rfl
          · rw [← ht]
            refine row_same HO6.out (fun g hg => ?_)
            simp [Value.ownBlock] at hg
            subst hg
            have h1 : g6 ≠ kb := g6ne kb (by omega) H.out.s2.2
            have h2 : lv.ownBlock ≠ some g6 := fun e => by
              rcases HGG6.out with h | h
              · exact H.out.s5 g6 h e
              · have := (llt g6 e).1; omega
            rw [y9 g6 h1, y8 g6 g6lt h1 h2]
          · have e1 : (ks ++ [(⟨alg, kidB (n + 1), key⟩ : Ky)]).map (fun k => Value.string k.kid) = (ks.map fun k => Value.string k.kid) ++ [.string (kidB (n + 1))] := by rw [List.map_append]; rfl
            rw [e1, List.length_append]
            refine row_same HO8.out (fun g hg => ?_)
            simp [Value.ownBlock] at hg
            subst hg
            exact y9 g8 (g8ne kb (by omega) H.out.s3.2)
          · exact ⟨fun e => (kne b e).2.2.1 rfl, fun e => (kne kb e).2.2.2 rfl⟩
          · exact ⟨fun e => g6ne b (by omega) H.out.s2.1 (by simpa [Value.ownBlock] using e), fun e => g6ne kb (by omega) H.out.s2.2 (by simpa [Value.ownBlock] using e)⟩
          · exact ⟨fun e => g8ne b (by omega) H.out.s3.1 (by simpa [Value.ownBlock] using e), fun e => g8ne kb (by omega) H.out.s3.2 (by simpa [Value.ownBlock] using e)⟩
          · exact fun g hg => ⟨fun e => g6ne g (klt g hg).1 (kne g hg).1 (by simpa [Value.ownBlock] using e), fun e => g8ne g (by have := (klt g hg).1; omega) (kne g hg).2.1 (by simpa [Value.ownBlock] using e)⟩
          · intro g hg e
            simp [Value.ownBlock] at hg e
            subst hg
            refine g8ne g6 g6lt (fun e2 => ?_) e
            rcases HGG6.out with h | h
            · exact H.out.s5 g6 h e2
            · have := (llt g6 e2).1; omega
          · intro k hk
            rcases List.mem_append.1 hk with hk | hk
            · exact H.out.keys k hk
            · simp at hk; subst hk; exact e1
          · rw [List.pairwise_append]
            refine ⟨H.out.diff, by simp, fun a ha c hc => ?_⟩
            simp at hc
            subst hc
            intro e
            exact told_not (by omega) (H.out.from' a ha) (by rw [e])
          · intro k hk
            rw [toldL_succ]
            rcases List.mem_append.1 hk with hk | hk
            · exact List.mem_append_left _ (H.out.from' k hk)
            · simp at hk; subst hk; exact List.mem_append_right _ (by simp)
          · rw [List.length_append]; simp; omega
        · have bw := HC1.out.below H.out.bB (fun g hg => (H.out.row.lt g hg).1) (by have := H.out.kB; omega)
          refine ⟨?_, ?_, ?_, ?_, fun k hk => ?_⟩
          · exact HG8.out.os.trans (HG6.out.os.trans (hbW.os.trans bw.os))
          · exact HG8.out.tape.trans (HG6.out.tape.trans (hbW.tape.trans bw.tape))
          · exact HG8.out.output.trans (HG6.out.output.trans (hbW.output.trans bw.output))
          · rw [nblk_setCell]; omega
          · have hkB := H.out.kB
            have hbB := H.out.bB
            rw [y6 k (by omega) (by omega) (fun e => by have := (tlt k e).2; omega) (fun e => by have := (llt k e).2; omega), hbW.block k (by have := HC1.out.size; omega)]
            exact bw.block k hk
        · rw [y6 k (by omega) h2 h4 h5, hbW.block k (by have := HC1.out.size; omega)]
          exact HC1.out.block k hk h1 h3
end Go.Proofs.YtbllepoagnfjnaaDoor.Dg
