/-
  The law IssuerKids.
-/
import Derived.Test.YtbllepoagnfjnaaDoorIRk
import Derived.BigQuiet
namespace Go.Proofs.YtbllepoagnfjnaaDoor.Dg
set_option maxRecDepth 4000
open Go.RowKit Go.Deep
set_option linter.unusedVariables false
set_option linter.unusedSimpArgs false

/-- A step of a script. -/
structure Stp where
  kind : Int
  a : Int
  b : Int
  s : ByteArray
  t : ByteArray
  va : Option Addr
  vl : Nat
  vc : Nat
/-- A script that can be read. -/
def OR (w : World) (x : Value) (os : List Stp) : Prop :=
  ∃ ad cap, x = .slice ad os.length cap ∧ ∀ (j : Nat) (o : Stp), os[j]? = some o → ∃ g off, ad = some ⟨g, off, none⟩ ∧
    w.cell? ⟨g, off + j * 6, none⟩ = some (.int .i64 o.kind) ∧ w.cell? ⟨g, off + j * 6 + 1, none⟩ = some (.int .i64 o.a) ∧ w.cell? ⟨g, off + j * 6 + 2, none⟩ = some (.int .i64 o.b) ∧
    w.cell? ⟨g, off + j * 6 + 3, none⟩ = some (.string o.s) ∧ w.cell? ⟨g, off + j * 6 + 4, none⟩ = some (.string o.t) ∧ w.cell? ⟨g, off + j * 6 + 5, none⟩ = some (.slice o.va o.vl o.vc)
theorem inv_new {B kb b : Nat} {iss : ByteArray} {ttl : Int} {w : World} (hI : IS b iss ttl 0 (.slice none 0 0) 0 w) (hk : w.heap[kb]? = some (.cells #[.pointer (some ⟨b, 0, none⟩), .slice none 0 0, .slice none 0 0] 34 (0, 0))) (hb : B ≤ b) (hkb : B ≤ kb) (hne : b ≠ kb) :
    Inv B kb b iss ttl 0 0 (.slice none 0 0) [] (.slice none 0 0) (.slice none 0 0) w where
  isr := hI
  row := World.ownsRow_nil _ _ _ _
  obj := hk
  told := World.ownsRow_nil _ _ _ _
  left := World.ownsRow_nil _ _ _ _
  bB := hb
  kB := hkb
  bk := hne
  s1 := ⟨by simp [Value.ownBlock], by simp [Value.ownBlock]⟩
  s2 := ⟨by simp [Value.ownBlock], by simp [Value.ownBlock]⟩
  s3 := ⟨by simp [Value.ownBlock], by simp [Value.ownBlock]⟩
  s4 := fun g hg => by simp [Value.ownBlock] at hg
  s5 := fun g hg => by simp [Value.ownBlock] at hg
  keys := fun k hk => by cases hk
  diff := List.Pairwise.nil
  from' := fun k hk => by cases hk
  few := by simp
theorem inv_lt {B kb b : Nat} {iss : ByteArray} {ttl now : Int} {n : Nat} {kv : Value} {ks : List Ky} {tv lv : Value} {w : World} (h : Inv B kb b iss ttl now n kv ks tv lv w) : b < w.heap.size ∧ kb < w.heap.size ∧ ∀ k, w.heap.size ≤ k → kv.ownBlock ≠ some k ∧ tv.ownBlock ≠ some k ∧ lv.ownBlock ≠ some k :=
  ⟨(Array.getElem?_eq_some_iff.1 h.isr.obj).1, (Array.getElem?_eq_some_iff.1 h.obj).1, fun k hk => ⟨fun e => by have := (h.row.lt k e).2; omega, fun e => by have := (h.told.lt k e).2; omega, fun e => by have := (h.left.lt k e).2; omega⟩⟩
set_option maxRecDepth 8000 in
set_option maxHeartbeats 4000000 in
theorem lkids (iss : ByteArray) (ttl : Int) (x : Value) (os : List Stp) (w : World) (hx : OR w x os) (hl : os.length ≤ 2000000000000) (hs : iss.size ≤ 140737488351232) (hss : ∀ o ∈ os, o.s.size ≤ 140737488351232) (hT : Lib.Utf8Tabs 0 1 w) (hG : WG w)
    (htab : Lib.TabBelow Tryd.prog w.heap.size w "internal/strconv.uint64pow10" .u64 Lib.pow10Tab) :
    Calls Tryd.prog 3 #[.string iss, .int .i64 ttl, x] w fun r w' => r = .returned (.bool true) ∧ Below w.heap.size w w' := by
  have HN := thid (cnew iss ttl w hs hT)
  have HR := thid (fun w1 => rnew iss ttl w1 hs)
  have HG := thid hG
  have HT := thid htab
  have HSS := thid hss
  obtain ⟨ad, cap, rfl, hx⟩ := hx
  have HX := thid hx
  generalize newE iss ttl = E at *
  clear hT hG htab hss hx hs
  go_enter Tryd.func3, Tryd.ntmps3
  go_wp2_with fail
  refine HN.out.mono ?_
  rintro r w1 ⟨hq, hb1⟩
  have HB1 := thid hb1
  clear hb1 HN
  rcases hq with ⟨rfl, b, hbB, rfl, hIS⟩ | ⟨hE, rfl⟩
  · have HIS := thid hIS
    have HBb := thid hbB
    clear hIS hbB
    go_wp2_with fail
    refine (HR.out _).mono ?_
    rintro r w2 ⟨⟨v, rfl⟩, hb2⟩
    have hbw : b < w1.heap.size := (Array.getElem?_eq_some_iff.1 HIS.out.obj).1
    have HI2 : Hid (IS b iss ttl 0 (.slice none 0 0) 0 w2) := ⟨(hb2.block b hbw).trans HIS.out.obj⟩
    have HBW : Hid (b < w2.heap.size) := (by have := hb2.size; show b < w2.heap.size; omega)
    have HB2 := thid (HB1.out.trans (hb2.mono HB1.out.size))
    clear hb2 HR HIS HB1 hbw
    go_wp2_with (refine (lnumI 0 _).mono ?_; rintro r w3 ⟨rfl, hw3⟩; rw [hw3]; clear hw3 w3)
    go_loopw [12] (fun iv wr => ∃ (i n : Nat) (kv : Value) (ks : List Ky) (tv lv : Value), i ≤ os.length ∧ iv = .int .i64 (i : Int) ∧ Hid (n ≤ i) ∧ Hid (Inv w.heap.size w2.heap.size b iss ttl 0 n kv ks tv lv wr) ∧ Hid (Below w.heap.size w wr)) (fun iv _ => os.length - (intOf iv).toNat)
    case atStart => exact ⟨0, 0, _, _, _, _, by omega, rfl, Nat.le_refl _, inv_new ⟨(heap_alloc_old w2 _ HBW.out).trans HI2.out.obj⟩ (heap_alloc_new _ _) HBb.out HB2.out.size (by have := HBW.out; omega), HB2.out.alloc HB2.out.size _⟩
    case round =>
      clear HI2 HB2
      obtain ⟨i, n, kv, ks, tv, lv, hi, rfl, HNi, HI, HBr⟩ := hrel
      by_cases hlt : i < os.length
      · have k1 : (i : Int) < (os.length : Int) := by omega
        have k2 : (i : Int) < 1152921504606846976 := by omega
        have k3 : (i : Int) ≤ 2000000000000 := by omega
        obtain ⟨o, ho⟩ : ∃ o, os[i]? = some o := ⟨_, List.getElem?_eq_getElem hlt⟩
        obtain ⟨g, off, rfl, c0, c1, c2, c3, c4, c5⟩ := HX.out i o ho
        have hos := HSS.out o (List.mem_of_getElem? ho)
        have d0 := tcell_kp HBr.out c0
        have d1 := tcell_kp HBr.out c1
        have d2 := tcell_kp HBr.out c2
        have d3 := tcell_kp HBr.out c3
        have d4 := tcell_kp HBr.out c4
        have d5 := tcell_kp HBr.out c5
        clear c0 c1 c2 c3 c4 c5 ho
        obtain ⟨okd, oa, ob, os', ot, va, vl, vc⟩ := o
        simp only at d0 d1 d2 d3 d4 d5 hos
        have HA : Hid (∀ X, Below wr.heap.size wr (wr.alloc X)) := fun X => bal (brf _) X
        have HIa : Hid (∀ X, Inv w.heap.size w2.heap.size b iss ttl 0 n kv ks tv lv (wr.alloc X)) := fun X => HI.out.below (HA.out X)
        have HBa : Hid (∀ X, Below w.heap.size w (wr.alloc X)) := fun X => HBr.out.trans ((HA.out X).mono HBr.out.size)
        have HTa : Hid (∀ X, Lib.TabBelow Tryd.prog (wr.alloc X).heap.size (wr.alloc X) "internal/strconv.uint64pow10" .u64 Lib.pow10Tab) := fun X w5 h5 => HT.out w5 ((HBa.out X).trans (h5.mono (HBa.out X).size))
        have HLt := thid (inv_lt HI.out)
        have HOs := thid hos
        have HNn : Hid (n ≤ 8000000000000) := (by have := HNi.out; show n ≤ 8000000000000; omega)
        have HOp : Hid (∀ (X : Obj) (w4 : World), KeptK b w2.heap.size kv tv lv (wr.alloc X) w4 → w4.heap[wr.heap.size]? = (wr.alloc X).heap[wr.heap.size]?) := fun X w4 h => by
          obtain ⟨l1, l2, l3⟩ := HLt.out
          obtain ⟨m1, m2, m3⟩ := l3 wr.heap.size (Nat.le_refl _)
          exact h wr.heap.size (by simp) (by omega) (by omega) m1 m2 m3
        by_cases hk2 : okd = 2
        · subst hk2
          clear hos
          go_wp2_with fail
          refine (krotate w.heap.size w2.heap.size b iss ttl 0 n kv ks tv lv oa os' _ (HIa.out _) (HG.out.below (HBa.out _)) (HTa.out _) HNn.out (by have := HOs.out; omega)).mono ?_
          rintro r w4 ⟨rfl, ⟨n', kv', ks', tv', lv', hn', hI'⟩, hb4, hkp⟩
          have q0 : w4.cell? ⟨wr.heap.size, 0, none⟩ = some (.int .i64 2) := by
            have := HOp.out _ _ hkp
            rw [heap_alloc_new] at this
            rw [cell_of_row _ _ _ _ _ _ this]; rfl
          have HI4 := thid hI'
          have HB4 := thid ((HBa.out _).trans hb4)
          have HN4 := thid hn'
          clear hI' hb4 hkp hn' d0 d1 d2 d3 d4 d5
          go_wp2_with fail
          exact ⟨⟨i + 1, n', kv', ks', tv', lv', by omega, by go_num, (by have := HN4.out; have := HNi.out; show n' ≤ i + 1; omega), HI4.out, HB4.out⟩, by simp [intOf]; omega⟩
        · have k4 : (okd == 2) = false := by rw [beq_eq_false_iff_ne]; exact hk2
          by_cases hk3 : okd = 3
          · subst hk3
            clear hos hk2 k4
            go_wp2_with fail
            refine (kretire w.heap.size w2.heap.size b iss ttl 0 n kv ks tv lv os' _ (HIa.out _)).mono ?_
            rintro r w4 ⟨rfl, ⟨kv', ks', tv', lv', hI'⟩, hb4, hkp⟩
            have HI4 := thid hI'
            have HB4 := thid ((HBa.out _).trans hb4)
            clear hI' hb4 hkp d0 d1 d2 d3 d4 d5
            go_wp2_with fail
            exact ⟨⟨i + 1, n, kv', ks', tv', lv', by omega, by go_num, (by have := HNi.out; show n ≤ i + 1; omega), HI4.out, HB4.out⟩, by simp [intOf]; omega⟩
          · have k5 : (okd == 3) = false := by rw [beq_eq_false_iff_ne]; exact hk3
            clear hos hk2 hk3
            go_wp2_with fail
            exact ⟨⟨i + 1, n, kv, ks, tv, lv, by omega, by go_num, (by have := HNi.out; show n ≤ i + 1; omega), HIa.out _, HBa.out _⟩, by simp [intOf]; omega⟩
      · have k1 : ¬ (i : Int) < (os.length : Int) := by omega
        have HE := thid (cexport b iss ttl 0 (n : Int) kv ks w.heap.size wr HI.out.isr HI.out.row (HG.out.below HBr.out) HI.out.few HI.out.keys HI.out.diff)
        have HK := thid (fun w5 => rreadKeys ks HI.out.few HI.out.keys HI.out.diff w5)
        generalize (⟨(textK ks).toArray⟩ : ByteArray) = T at *
        go_wp2_with fail
        refine HE.out.mono ?_
        rintro r w5 ⟨rfl, hb5⟩
        have HB5 := thid hb5
        clear hb5 HE
        go_wp2_with fail
        refine (HK.out _).mono ?_
        rintro r w6 ⟨⟨v6, qs, rfl, hrow, hkid⟩, hb6⟩
        have hb56 : Below wr.heap.size wr w6 := HB5.out.trans (hb6.mono HB5.out.size)
        have HB6 := thid (HBr.out.trans (hb56.mono HBr.out.size))
        have hI6 := HI.out.below hb56
        have hlen : qs.length = ks.length := by have := congrArg List.length hkid; simpa using this
        obtain ⟨ad6, cap6, rfl⟩ := own_shape hrow
        obtain ⟨adl, capl, hlv⟩ := own_shape hI6.left
        subst hlv
        have hkr : KR w6 (.slice ad6 ks.length cap6) qs := KR.of (by rw [hlen]; exact hrow)
        obtain ⟨ad7, cap7, e7, _, hkr7⟩ := hkr
        injection e7 with e7 _ _
        subst e7
        have hlf := own_str (zs := ks.map Ky.kid) (by rw [List.map_map]; exact hI6.left)
        have z2 : w6.cell? ⟨w2.heap.size, 2, none⟩ = some (.slice adl ks.length capl) := by simp [World.cell?, hI6.obj]
        have HKR := thid hkr7
        have HLF := thid hlf
        have HKD := thid hkid
        have hfew : (ks.length : Int) ≤ 20 := by have := HI.out.few; omega
        clear hrow hb6 hb56 hI6 hlen hkr7 hlf hkid HK HB5
        go_wp2_with fail
        go_loopw [18] (fun iv wx => ∃ j q : Nat, j ≤ ks.length ∧ iv = .int .i64 (j : Int) ∧ wx = w6.drewN q) (fun iv _ => ks.length - (intOf iv).toNat)
        case atStart => exact ⟨0, 0, by omega, rfl, rfl⟩
        case round =>
          obtain ⟨j, q, hj, rfl, rfl⟩ := hrel
          by_cases hjl : j < ks.length
          · have m1 : (j : Int) < (ks.length : Int) := by omega
            have m2 : (j : Int) ≤ 20 := by omega
            obtain ⟨k, hk⟩ : ∃ k, ks[j]? = some k := ⟨_, List.getElem?_eq_getElem hjl⟩
            obtain ⟨q0, hq0, hqk⟩ : ∃ q0, qs[j]? = some q0 ∧ q0.kid = k.kid := by
              have e : (qs.map Ky.kid)[j]? = some k.kid := by rw [HKD.out, List.getElem?_map, hk]; rfl
              rw [List.getElem?_map] at e
              cases h : qs[j]? with
              | none => rw [h] at e; cases e
              | some y => rw [h] at e; exact ⟨y, rfl, by simpa using e⟩
            obtain ⟨g6, off6, rfl, _, y1, _⟩ := HKR.out j q0 hq0
            obtain ⟨gl, rfl, y2⟩ := HLF.out j k.kid (by rw [List.getElem?_map, hk]; rfl)
            rw [hqk] at y1
            clear hq0 hqk hk
            have m3 : (j : Int) < (qs.length : Int) := by omega
            go_wp2_with fail
            go_region_held3 (fun w' => w'.cell? ⟨g6, off6 + j * 3 + 1, none⟩ = some (.string k.kid) ∧ w'.cell? ⟨w2.heap.size, 2, none⟩ = some (.slice (some ⟨gl, 0, none⟩) ks.length capl) ∧ w'.cell? ⟨gl, j, none⟩ = some (.string k.kid)) (go_keep) (fail)
            all_goals go_wp2_with fail
            all_goals exact ⟨⟨j + 1, _, by omega, by go_num, rfl⟩, by simp [intOf]; omega⟩
          · have m1 : ¬ (j : Int) < (ks.length : Int) := by omega
            go_wp2
            go_ret
            exact ⟨rfl, ⟨HB6.out.os, HB6.out.tape, HB6.out.output, HB6.out.size, HB6.out.block⟩⟩
  · have hE' : (E == 0) = false := by rw [beq_eq_false_iff_ne]; exact hE
    have hE2 : (E != 0) = true := by simp [hE]
    clear hE
    go_wp2_with fail
    refine (HR.out _).mono ?_
    rintro r w2 ⟨⟨v, rfl⟩, hb2⟩
    have HB2 := thid (HB1.out.trans (hb2.mono HB1.out.size))
    clear hb2 HR HB1
    go_wp2_with (refine (lnumI E _).mono ?_; rintro r w3 ⟨rfl, hw3⟩; rw [hw3]; clear hw3 w3)
    go_ret
    exact ⟨rfl, HB2.out⟩
end Go.Proofs.YtbllepoagnfjnaaDoor.Dg
