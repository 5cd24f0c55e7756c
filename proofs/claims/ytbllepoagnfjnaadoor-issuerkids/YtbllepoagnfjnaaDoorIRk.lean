/-
  The document's ReadKeys, of a printed set.
-/
import Derived.Test.YtbllepoagnfjnaaDoorIRkP
import Derived.Test.YtbllepoagnfjnaaDoorNR3
import Derived.Deep.AppendLies
import Derived.Deep.RegionHeld3
import Derived.Deep.DeepCutAuto
namespace Go.Proofs.YtbllepoagnfjnaaDoor.Dg
set_option maxRecDepth 4000
open Go.RowKit Go.Deep
set_option linter.unusedVariables false
set_option linter.unusedSimpArgs false

theorem kyinfoR : (Tryd.prog.info? 45).map (fun i => (i.zero, i.size, i.bytes)) = some (some (.agg #[.int .i64 0, .string ⟨#[]⟩, .string ⟨#[]⟩]), 3, 40) := by kernel_rfl
theorem mem_at (v : Value) (L : List Nd) (hW : WFN L) (o a : Nat) (n : Nd) (hn : L[o]? = some n) (name : List UInt8) (B : ByteArray) (hB : B = ⟨name.toArray⟩) (hm : memK L name n.kids = (a : Int)) (W : World) (hx : RR 63 v L W) :
    Calls Tryd.prog 18 #[v, .int .i64 (o : Int), .string B] W fun r w' => r = .returned (.int .i64 (a : Int)) ∧ w' = W := by
  rw [hB, ← hm]
  exact rmemK v L W hx hW o n hn name
theorem fits_size {alg : Int} {a b : ByteArray} (h : a.size = b.size) : fitsB alg a = fitsB alg b := by unfold fitsB; rw [h]
theorem rread_set (ks : List Ky) (hl : ks.length ≤ 20) (hk : ∀ k ∈ ks, keyErr k.alg k.kid k.key = 0) (w : World) :
    Calls Tryd.prog 15 #[.string ⟨(textK ks).toArray⟩] w fun r w' => (∃ v L, r = .returned (.tuple #[v, .int .i64 0, .int .i64 0]) ∧ RR 63 v L w' ∧ WFN L ∧ SetL (ks.map keyP) L) ∧ Below w.heap.size w w' := by
  obtain ⟨hlen, t, ht, hS⟩ := read_keys hl hk
  obtain ⟨hW, _⟩ := read_fit ht
  refine (rread ⟨(textK ks).toArray⟩ w (by show (textK ks).toArray.size ≤ _; rw [List.size_toArray]; omega)).mono ?_
  rintro r w' ⟨h, hb⟩
  refine ⟨?_, hb⟩
  rw [show (⟨(textK ks).toArray⟩ : ByteArray).data.toList = textK ks from rfl, ht] at h
  obtain ⟨v, rfl, hN⟩ := h
  exact ⟨v, _, rfl, rr_nodes hN (fun n hn => by obtain ⟨k, hk⟩ := List.getElem?_of_mem hn; have := hW.few k n hk; omega), hW, hS⟩
set_option maxRecDepth 8000 in
set_option maxHeartbeats 4000000 in
theorem rreadKeys (ks : List Ky) (hl : ks.length ≤ 20) (hk : ∀ k ∈ ks, keyErr k.alg k.kid k.key = 0) (hd : ks.Pairwise fun a b => a.kid ≠ b.kid) (w : World) :
    Calls Tryd.prog 9 #[.string ⟨(textK ks).toArray⟩] w fun r w' => (∃ v qs, r = .returned (.tuple #[v, .int .i64 0, .int .i64 0]) ∧ w'.ownsRow w.heap.size 45 3 v ks.length (flatK qs) ∧ qs.map Ky.kid = ks.map Ky.kid) ∧ Below w.heap.size w w' := by
  have hrd := fun w => rread_set ks hl hk w
  generalize (⟨(textK ks).toArray⟩ : ByteArray) = T at *
  have HR := thid hrd
  have HK := thid hk
  have HD := thid hd
  have HL := thid hl
  clear hrd hk hd hl
  go_enter Tryd.func9, Tryd.ntmps9
  go_wp2_with fail
  refine (HR.out w).mono ?_
  rintro r w1 ⟨⟨v, L, rfl, hx, hW, hS⟩, hb1⟩
  clear HR
  have hlen := hS.len
  rw [List.length_map] at hlen
  have h0L : 0 < L.length := by omega
  have hLb : L.length ≤ 102 := by have := HL.out; omega
  obtain ⟨ad, cap, rfl⟩ := hx.shape
  have HP := thid (rparents _ L w1 parS hx hW h0L (fun p n c hn hc => hS.par p n c hn hc))
  have HX := thid hx
  have HW := thid hW
  have HS := thid hS
  have HB1 := thid hb1
  have HLn := thid (And.intro hlen (And.intro h0L hLb))
  clear hx hW hS hb1 hlen h0L hLb
  go_wp2_with fail
  refine HP.out.mono ?_
  rintro r w2 ⟨rfl, ⟨A, hA, hPD⟩, hb2⟩
  have HX2 := thid (HX.out.below hb2)
  have HB2 := thid (HB1.out.trans (hb2.mono HB1.out.size))
  have HA := thid hA
  have HPD := thid hPD
  have HS2 : Hid (w1.heap.size < w2.heap.size) := (Array.getElem?_eq_some_iff.1 hA).1
  clear hA hPD hb2 HP HX
  go_wp2_with fail
  go_loopw [9] (fun iv wr => ∃ i : Nat, i ≤ L.length ∧ iv = .int .i64 (i : Int) ∧ Hid (Below w2.heap.size w2 wr)) (fun iv _ => L.length - (intOf iv).toNat)
  case atStart => exact ⟨0, by omega, rfl, Below.refl _ _⟩
  case round =>
    obtain ⟨i, hi, rfl, HBr⟩ := hrel
    by_cases hlt : i < L.length
    · have k1 : (i : Int) < (L.length : Int) := by omega
      have hib : (i : Int) ≤ 102 := by have := HLn.out; omega
      have hc := rset_all HS.out (by rw [List.length_map]; exact HL.out) (fun a ha => by obtain ⟨k, hk, rfl⟩ := List.mem_map.1 ha; exact (key_ok (HK.out k hk)).1) _ w1.heap.size wr (HX2.out.below HBr.out) A ((HBr.out.block _ HS2.out).trans HA.out) HPD.out i hlt
      have HC := thid hc
      clear hc
      go_wp2_with (refine HC.out.mono ?_; rintro r w3 ⟨rfl, hb3⟩; have HB3 := thid hb3; clear hb3)
      exact ⟨⟨i + 1, by omega, by go_num, HBr.out.trans (HB3.out.mono HBr.out.size)⟩, by simp [intOf]; omega⟩
    · have k1 : ¬ (i : Int) < (L.length : Int) := by omega
      have HXr := thid (HX2.out.below HBr.out)
      have HBw := thid (HB2.out.trans (HBr.out.mono HB2.out.size))
      clear HX2 HB2 HBr HA HPD HS2
      obtain ⟨W0, hW0⟩ : ∃ W0, W0 = wr := ⟨_, rfl⟩
      rw [← hW0] at HXr HBw ⊢
      clear hW0 wr
      obtain ⟨n0, hn0, hm0⟩ := HS.out.memK1
      obtain ⟨p, hp⟩ : ∃ p : Nat, p = 1 := ⟨1, rfl⟩
      rw [show (1 : Int) = (p : Int) by omega] at hm0
      have HM0 := thid (mem_at _ L HW.out 0 p n0 hn0 keysN ⟨#[107, 101, 121, 115]⟩ rfl hm0 W0 HXr.out)
      obtain ⟨q1, hn1⟩ := HS.out.n1
      rw [List.length_map, ← hp] at hn1
      obtain ⟨g, adk, capk, rfl, _, hkb, hkc, c0, c1, c2, c3, c4, c5⟩ := HXr.out.node hn1
      simp only [List.length_map, List.length_range] at c4
      have HC4 := thid c4
      have HKC : Hid (∀ j : Nat, j < ks.length → ∃ gk, adk = some ⟨gk, 0, none⟩ ∧ W0.cell? ⟨gk, j, none⟩ = some (.int .i64 ((2 + 5 * j : Nat) : Int))) := fun j hj => hkc j (2 + 5 * j) (by simp [hj])
      have p0 : ¬ (p : Int) < 0 := by omega
      have p1 : (p : Int) < (L.length : Int) := by have := HLn.out; omega
      clear hn0 hm0 hn1 hkb hkc c0 c1 c2 c3 c4 c5 hp
      go_wp2_with fail
      refine HM0.out.mono ?_
      rintro r w3 ⟨rfl, hw3⟩
      rw [hw3]
      clear hw3 w3 HM0
      go_wp2_with fail
      go_loopw [12, 13] (fun ov iv wx => ∃ (j : Nat) (qs : List Ky), j ≤ ks.length ∧ iv = .int .i64 (j : Int) ∧ Hid (wx.ownsRow W0.heap.size 45 3 ov j (flatK qs)) ∧ Hid (qs.map Ky.kid = (ks.take j).map Ky.kid) ∧ Hid (Below W0.heap.size W0 wx)) (fun _ iv _ => ks.length - (intOf iv).toNat)
      case atStart => exact ⟨0, [], by omega, rfl, World.ownsRow_nil _ _ _ _, rfl, Below.refl _ _⟩
      case round =>
        obtain ⟨j, qs, hj, rfl, HO, HQ, HBx⟩ := hrel
        have x4 := tcell_kp HBx.out HC4.out
        by_cases hjl : j < ks.length
        · have k2 : (j : Int) < (ks.length : Int) := by omega
          have k3 : (j : Int) ≤ 20 := by have := HL.out; omega
          obtain ⟨k, hk⟩ : ∃ k, ks[j]? = some k := ⟨_, List.getElem?_eq_getElem hjl⟩
          obtain ⟨gk, rfl, ck⟩ := HKC.out j hjl
          have xk := tcell_kp HBx.out ck
          clear ck
          have HXx := thid (HXr.out.below HBx.out)
          obtain ⟨m0, m1, m2, m3, b0, e1, e2, e3, e4, b1, t1, b2, t2, b3, t3⟩ := HS.out.memK4 (j := j) (a := keyP k) (by rw [List.getElem?_map, hk]; rfl)
          obtain ⟨o, ho⟩ : ∃ o, o = 2 + 5 * j := ⟨_, rfl⟩
          rw [← ho] at b0 e1 e2 e3 e4 b1 b2 b3 xk
          have HMa := thid (mem_at _ L HW.out o (o + 1) m0 b0 algN ⟨#[97, 108, 103]⟩ rfl e1 wr HXx.out)
          have HMb := thid (mem_at _ L HW.out o (o + 2) m0 b0 kN ⟨#[107]⟩ rfl e2 wr HXx.out)
          have HMc := thid (mem_at _ L HW.out o (o + 3) m0 b0 kidN ⟨#[107, 105, 100]⟩ rfl e3 wr HXx.out)
          have HMd := thid (mem_at _ L HW.out o (o + 4) m0 b0 ktyN ⟨#[107, 116, 121]⟩ rfl e4 wr HXx.out)
          have y1 := (HXx.out.cs b1).2.2.1
          have y2 := (HXx.out.cs b2).2.2.1
          have y3 := (HXx.out.cs b3).2.2.1
          rw [t1, show (⟨(keyP k).1.toArray⟩ : ByteArray) = nameB k.alg from ba_toList _] at y1
          rw [t2, show (⟨(keyP k).2.1.toArray⟩ : ByteArray) = ⟨(enc (dB k.key) k.key.size).toArray⟩ from rfl] at y2
          rw [t3, show (⟨(keyP k).2.2.toArray⟩ : ByteArray) = k.kid from ba_toList _] at y3
          have l1 : o + 4 < L.length := by have := HLn.out; omega
          clear e1 e2 e3 e4 b0 b1 b2 b3 t1 t2 t3
          obtain ⟨a1, ha1⟩ : ∃ a, a = o + 1 := ⟨_, rfl⟩
          obtain ⟨a2, ha2⟩ : ∃ a, a = o + 2 := ⟨_, rfl⟩
          obtain ⟨a3, ha3⟩ : ∃ a, a = o + 3 := ⟨_, rfl⟩
          obtain ⟨a4, ha4⟩ : ∃ a, a = o + 4 := ⟨_, rfl⟩
          rw [← ha1] at y1 HMa
          rw [← ha2] at y2 HMb
          rw [← ha3] at y3 HMc
          rw [← ha4] at HMd
          have n1 : ¬ (a1 : Int) < 0 := by omega
          have n2 : ¬ (a2 : Int) < 0 := by omega
          have n3 : ¬ (a3 : Int) < 0 := by omega
          have n4 : ¬ (a4 : Int) < 0 := by omega
          have r0 : (o : Int) < (L.length : Int) := by omega
          have r1 : (a1 : Int) < (L.length : Int) := by omega
          have r2 : (a2 : Int) < (L.length : Int) := by omega
          have r3 : (a3 : Int) < (L.length : Int) := by omega
          have hke := HK.out k (List.mem_of_getElem? hk)
          obtain ⟨hal, hks1, hks2, hks3⟩ := key_small hke
          have hdec := dec_enc k.key hks3
          generalize (⟨(enc (dB k.key) k.key.size).toArray⟩ : ByteArray) = E at *
          have HDE := thid hdec
          have HAL := thid (fun W => ralg k.alg W hal)
          have HKE := thid hke
          have HKJ := thid hk
          have HOo := thid ho
          clear hk hdec hal hke ho ha1 ha2 ha3 ha4 l1
          go_wp2_with fail
          refine HMa.out.mono ?_
          rintro r w3 ⟨rfl, hw3⟩
          rw [hw3]
          clear hw3 w3 HMa
          clear x4 xk
          go_wp2_with fail
          refine HMb.out.mono ?_
          rintro r w3 ⟨rfl, hw3⟩
          rw [hw3]
          clear hw3 w3 HMb
          go_wp2_with fail
          refine HMc.out.mono ?_
          rintro r w3 ⟨rfl, hw3⟩
          rw [hw3]
          clear hw3 w3 HMc
          go_wp2_with fail
          refine HMd.out.mono ?_
          rintro r w3 ⟨rfl, hw3⟩
          rw [hw3]
          clear hw3 w3 HMd
          go_wp2_with fail
          refine (HDE.out _).mono ?_
          rintro r w3 ⟨⟨raw, rfl, hraw⟩, hb3⟩
          have z1 := tcell_kp hb3 y1
          have z3 := tcell_kp hb3 y3
          have HB3 := thid hb3
          have HRaw := thid hraw
          clear hb3 hraw y1 y2 y3 HDE n1 n2 n3 n4
          have hne1 := World.new_ne w3 _ z1
          have hne3 := World.new_ne w3 _ z3
          go_upto_region 26 with fail
          go_cut [22] (fun xv wx => ∃ gx, xv = .pointer (some ⟨gx, 0, none⟩) ∧ wx.cell? ⟨gx, 0, none⟩ = some (.int .i64 k.alg) ∧ wx.cell? ⟨gx, 1, none⟩ = some (.string k.kid) ∧ wx.cell? ⟨gx, 2, none⟩ = some (.string raw) ∧ Below w3.heap.size w3 wx)
          case first =>
            go_region_held3 (fun w' => w'.cell? ⟨g, a1 * 6 + 2, none⟩ = some (.string (nameB k.alg)) ∧ w'.cell? ⟨g, a3 * 6 + 2, none⟩ = some (.string k.kid)) (go_keep) (first | (go_at_call 20; refine (HAL.out _).mono ?_; rintro r w4 ⟨rfl, hw4⟩; rw [hw4]; clear hw4 w4))
            all_goals (
              go_wp2_with fail
              go_meet
              case rel =>
                refine ⟨w3.heap.size, rfl, by simp, by simp, by simp, ?_⟩
                have h := bal (brf w3) (.cells #[.int .i64 k.alg, .string k.kid, .string raw] 45)
                exact ⟨h.os, h.tape, h.output, h.size, h.block⟩)
          case rest =>
            obtain ⟨gx, rfl, x0, x1, x2, hbc⟩ := hcut
            have hqj : qs.length = j := by
              have := congrArg List.length HQ.out
              simp only [List.length_map, List.length_take] at this
              omega
            have hBx3 : Below W0.heap.size W0 w3 := HBx.out.trans (HB3.out.mono HBx.out.size)
            have HBc : Hid (Below W0.heap.size W0 wc) := hBx3.trans (hbc.mono hBx3.size)
            have HOc : Hid (wc.ownsRow W0.heap.size 45 3 u12 j (flatK qs)) := row_kpT (row_kpT HO.out HB3.out) hbc
            have HKR : Hid (KR wc u12 qs) := KR.of (by rw [hqj]; exact HOc.out)
            have hfind : findK k.kid qs 0 = -1 := findK_not k.kid qs 0 (fun q hq e => by
              have hm : q.kid ∈ (ks.take j).map Ky.kid := by rw [← HQ.out]; exact List.mem_map_of_mem hq
              obtain ⟨k', hk', e'⟩ := List.mem_map.1 hm
              have hpw := HD.out
              rw [← List.take_append_drop j ks, List.pairwise_append] at hpw
              have hkd : k ∈ ks.drop j := by
                rw [List.drop_eq_getElem_cons hjl, (List.getElem?_eq_some_iff.1 HKJ.out).2]; simp
              exact hpw.2.2 k' hk' k hkd (by rw [e', e]))
            have hfit : fitsB k.alg raw = true := by rw [fits_size HRaw.out]; exact (key_ok HKE.out).2.1
            have hraw : raw.size ≤ 200 := by rw [HRaw.out]; exact hks3
            obtain ⟨i0, hi0, hz0, hz1, hz2⟩ := kinfo_partsI kyinfoR
            have HII := thid hi0
            have hl1 : j + 1 ≤ maxLen := by unfold maxLen; omega
            have hl2 : (j + 1) * 40 ≤ 140737488355328 := by omega
            have HL1 := thid hl1
            have HL2 := thid hl2
            have HFI := thid hfind
            have HFT := thid hfit
            have HQJ := thid hqj
            have HW0 : Hid (W0.heap.size ≤ wc.heap.size) := HBc.out.size
            clear hBx3 hbc hfind hfit hqj hi0 hl1 hl2
            go_wp2_with fail
            refine (rfits k.alg raw _ (by omega)).mono ?_
            rintro r w4 ⟨rfl, hw4⟩
            rw [hw4, HFT.out]
            clear hw4 w4
            go_wp2_with fail
            refine (rfind u12 qs k.kid _ HKR.out (by have := HQJ.out; omega)).mono ?_
            rintro r w4 ⟨rfl, hw4⟩
            rw [hw4, HFI.out]
            clear hw4 w4
            go_upto_region 32 with fail
            have HOne : Hid (∀ j u, (kyV ⟨k.alg, k.kid, raw⟩)[j]? = some u → (wc.alloc (.cells #[.int .i64 k.alg, .string k.kid, .string raw] 45)).cell? ((⟨wc.heap.size, 0, none⟩ : Addr).add j) = some u) := three_cellsI wc _ _ _ _
            have HOw : Hid (∀ o, (wc.alloc o).ownsRow W0.heap.size 45 3 u12 j (flatK qs)) := fun o => HOc.out.alloc o
            have HBs : Hid (∀ o, W0.heap.size ≤ (wc.alloc o).heap.size) := fun o => by have := HW0.out; simp; omega
            have HSs : Hid (∀ o, (wc.alloc o).heap.size = wc.heap.size + 1) := fun o => by simp
            have HOn1 : Hid (∀ u ∈ kyV ⟨k.alg, k.kid, raw⟩, u.oneCell' = true) := fun u hu => by simp [kyV] at hu; rcases hu with rfl | rfl | rfl <;> rfl
            have HOnce := thid True.intro
            go_wp2_with (have HOnc := HOnce; refine wpList_append_lies _ rfl (.tmp 152) (.tmp 154) 40 rfl W0.heap.size 45 i0 _ 3 40 Tryd.underlying40 HII.out hz0 hz1 hz2 rfl (by decide) u12 j (flatK qs) rfl (by exact HOw.out _) ⟨wc.heap.size, 0, none⟩ 1 1 (kyV ⟨k.alg, k.kid, raw⟩) rfl rfl (by exact HOne.out) (by exact HOn1.out) (by decide) HL1.out HL2.out (by exact HBs.out _) (wc.heap.size + 1) (by exact HSs.out _) ?_; intro g6 cap6 w6 ho6 hg6 hgg6 _; have HO6 : Hid (w6.ownsRow W0.heap.size 45 3 (.slice (some ⟨g6, 0, none⟩) (j + 1) cap6) (j + 1) (flatK qs ++ kyV ⟨k.alg, k.kid, raw⟩)) := ho6; have HB6 : Hid (Below W0.heap.size wc w6) := ((Below.refl W0.heap.size wc).alloc HW0.out _).grown hg6 (by have := HW0.out; simp; omega) (fun q hq => (HOc.out.lt q hq).1); clear ho6 hg6 hgg6 HOnc HOnce)
            refine ⟨⟨j + 1, qs ++ [⟨k.alg, k.kid, raw⟩], by omega, by go_num, ?_, ?_, HBc.out.trans HB6.out⟩, by simp [intOf]; omega⟩
            · show w6.ownsRow W0.heap.size 45 3 _ (j + 1) (flatK (qs ++ [⟨k.alg, k.kid, raw⟩]))
              rw [flatK_snoc]; exact HO6.out
            · show (qs ++ [(⟨k.alg, k.kid, raw⟩ : Ky)]).map Ky.kid = (ks.take (j + 1)).map Ky.kid
              rw [List.map_append, HQ.out, List.take_add_one, HKJ.out, List.map_append]; rfl
        · have k2 : ¬ (j : Int) < (ks.length : Int) := by omega
          obtain rfl : j = ks.length := by omega
          go_wp2
          go_ret3
          refine ⟨⟨_, rfl, qs, ?_, by rw [HQ.out, List.take_length]⟩, HBw.out.trans (HBx.out.mono HBw.out.size)⟩
          refine ⟨HO.out.1, ?_⟩
          rcases HO.out.2 with h | ⟨g, cap, cur, a, b, c⟩
          · exact .inl h
          · exact .inr ⟨g, cap, cur, a, Nat.le_trans HBw.out.size b, c⟩
end Go.Proofs.YtbllepoagnfjnaaDoor.Dg
