import Derived.Test.YtbbopknnoamkbaaGreatDoorNSeq
import Derived.WalkSpells
set_option maxHeartbeats 2000000
set_option maxRecDepth 4000
namespace Go.Proofs.YtbbopknnoamkbaaGreatDoor
open Go.RowKit
set_option linter.unusedVariables false
section
attribute [local go_sem] conv1 conv2
theorem rsg_34(w:World):Calls Tryz.prog 45 #[.int .u8 34] w fun e w'=>e=.returned (.string ⟨#[92,34]⟩)∧Below w.heap.size w w':=by
 have hcv:∀W:World,Sem.run Tryz.prog (convert 78 9 (.slice (some ⟨W.heap.size,0,none⟩) 2 2)) (W.alloc (.cells #[.int .u8 92,.int .u8 34] 5))=.ok (.string ⟨#[92,34]⟩) (W.alloc (.cells #[.int .u8 92,.int .u8 34] 5)):=fun W=>conv2 W 92 34
 go_enter Tryz.func45,Tryz.ntmps45;go_wp2;go_ret;exact⟨rfl,bal (brf _) _⟩
theorem rsg_92(w:World):Calls Tryz.prog 45 #[.int .u8 92] w fun e w'=>e=.returned (.string ⟨#[92,92]⟩)∧Below w.heap.size w w':=by
 have hcv:∀W:World,Sem.run Tryz.prog (convert 78 9 (.slice (some ⟨W.heap.size,0,none⟩) 2 2)) (W.alloc (.cells #[.int .u8 92,.int .u8 92] 5))=.ok (.string ⟨#[92,92]⟩) (W.alloc (.cells #[.int .u8 92,.int .u8 92] 5)):=fun W=>conv2 W 92 92
 go_enter Tryz.func45,Tryz.ntmps45;go_wp2;go_ret;exact⟨rfl,bal (brf _) _⟩
theorem rsg_0(w:World):Calls Tryz.prog 45 #[.int .u8 0] w fun e w'=>e=.returned (.string ⟨#[92,117,48,48,48,48]⟩)∧Below w.heap.size w w':=by
 go_enter Tryz.func45,Tryz.ntmps45;go_wp2_with fail
 go_quiet (fail);go_wp2;go_ret;exact⟨rfl,bdN (brf _) nq⟩
theorem rsg_1(w:World):Calls Tryz.prog 45 #[.int .u8 1] w fun e w'=>e=.returned (.string ⟨#[92,117,48,48,48,49]⟩)∧Below w.heap.size w w':=by
 go_enter Tryz.func45,Tryz.ntmps45;go_wp2_with fail
 go_quiet (fail);go_wp2;go_ret;exact⟨rfl,bdN (brf _) nq⟩
theorem rsg_2(w:World):Calls Tryz.prog 45 #[.int .u8 2] w fun e w'=>e=.returned (.string ⟨#[92,117,48,48,48,50]⟩)∧Below w.heap.size w w':=by
 go_enter Tryz.func45,Tryz.ntmps45;go_wp2_with fail
 go_quiet (fail);go_wp2;go_ret;exact⟨rfl,bdN (brf _) nq⟩
theorem rsg_3(w:World):Calls Tryz.prog 45 #[.int .u8 3] w fun e w'=>e=.returned (.string ⟨#[92,117,48,48,48,51]⟩)∧Below w.heap.size w w':=by
 go_enter Tryz.func45,Tryz.ntmps45;go_wp2_with fail
 go_quiet (fail);go_wp2;go_ret;exact⟨rfl,bdN (brf _) nq⟩
theorem rsg_4(w:World):Calls Tryz.prog 45 #[.int .u8 4] w fun e w'=>e=.returned (.string ⟨#[92,117,48,48,48,52]⟩)∧Below w.heap.size w w':=by
 go_enter Tryz.func45,Tryz.ntmps45;go_wp2_with fail
 go_quiet (fail);go_wp2;go_ret;exact⟨rfl,bdN (brf _) nq⟩
theorem rsg_5(w:World):Calls Tryz.prog 45 #[.int .u8 5] w fun e w'=>e=.returned (.string ⟨#[92,117,48,48,48,53]⟩)∧Below w.heap.size w w':=by
 go_enter Tryz.func45,Tryz.ntmps45;go_wp2_with fail
 go_quiet (fail);go_wp2;go_ret;exact⟨rfl,bdN (brf _) nq⟩
theorem rsg_6(w:World):Calls Tryz.prog 45 #[.int .u8 6] w fun e w'=>e=.returned (.string ⟨#[92,117,48,48,48,54]⟩)∧Below w.heap.size w w':=by
 go_enter Tryz.func45,Tryz.ntmps45;go_wp2_with fail
 go_quiet (fail);go_wp2;go_ret;exact⟨rfl,bdN (brf _) nq⟩
theorem rsg_7(w:World):Calls Tryz.prog 45 #[.int .u8 7] w fun e w'=>e=.returned (.string ⟨#[92,117,48,48,48,55]⟩)∧Below w.heap.size w w':=by
 go_enter Tryz.func45,Tryz.ntmps45;go_wp2_with fail
 go_quiet (fail);go_wp2;go_ret;exact⟨rfl,bdN (brf _) nq⟩
theorem rsg_8(w:World):Calls Tryz.prog 45 #[.int .u8 8] w fun e w'=>e=.returned (.string ⟨#[92,98]⟩)∧Below w.heap.size w w':=by
 go_enter Tryz.func45,Tryz.ntmps45;go_wp2;go_ret;exact⟨rfl,brf _⟩
theorem rsg_9(w:World):Calls Tryz.prog 45 #[.int .u8 9] w fun e w'=>e=.returned (.string ⟨#[92,116]⟩)∧Below w.heap.size w w':=by
 go_enter Tryz.func45,Tryz.ntmps45;go_wp2;go_ret;exact⟨rfl,brf _⟩
theorem rsg_10(w:World):Calls Tryz.prog 45 #[.int .u8 10] w fun e w'=>e=.returned (.string ⟨#[92,110]⟩)∧Below w.heap.size w w':=by
 go_enter Tryz.func45,Tryz.ntmps45;go_wp2;go_ret;exact⟨rfl,brf _⟩
theorem rsg_11(w:World):Calls Tryz.prog 45 #[.int .u8 11] w fun e w'=>e=.returned (.string ⟨#[92,117,48,48,48,98]⟩)∧Below w.heap.size w w':=by
 go_enter Tryz.func45,Tryz.ntmps45;go_wp2_with fail
 go_quiet (fail);go_wp2;go_ret;exact⟨rfl,bdN (brf _) nq⟩
theorem rsg_12(w:World):Calls Tryz.prog 45 #[.int .u8 12] w fun e w'=>e=.returned (.string ⟨#[92,102]⟩)∧Below w.heap.size w w':=by
 go_enter Tryz.func45,Tryz.ntmps45;go_wp2;go_ret;exact⟨rfl,brf _⟩
theorem rsg_13(w:World):Calls Tryz.prog 45 #[.int .u8 13] w fun e w'=>e=.returned (.string ⟨#[92,114]⟩)∧Below w.heap.size w w':=by
 go_enter Tryz.func45,Tryz.ntmps45;go_wp2;go_ret;exact⟨rfl,brf _⟩
theorem rsg_14(w:World):Calls Tryz.prog 45 #[.int .u8 14] w fun e w'=>e=.returned (.string ⟨#[92,117,48,48,48,101]⟩)∧Below w.heap.size w w':=by
 go_enter Tryz.func45,Tryz.ntmps45;go_wp2_with fail
 go_quiet (fail);go_wp2;go_ret;exact⟨rfl,bdN (brf _) nq⟩
theorem rsg_15(w:World):Calls Tryz.prog 45 #[.int .u8 15] w fun e w'=>e=.returned (.string ⟨#[92,117,48,48,48,102]⟩)∧Below w.heap.size w w':=by
 go_enter Tryz.func45,Tryz.ntmps45;go_wp2_with fail
 go_quiet (fail);go_wp2;go_ret;exact⟨rfl,bdN (brf _) nq⟩
theorem rsg_16(w:World):Calls Tryz.prog 45 #[.int .u8 16] w fun e w'=>e=.returned (.string ⟨#[92,117,48,48,49,48]⟩)∧Below w.heap.size w w':=by
 go_enter Tryz.func45,Tryz.ntmps45;go_wp2_with fail
 go_quiet (fail);go_wp2;go_ret;exact⟨rfl,bdN (brf _) nq⟩
theorem rsg_17(w:World):Calls Tryz.prog 45 #[.int .u8 17] w fun e w'=>e=.returned (.string ⟨#[92,117,48,48,49,49]⟩)∧Below w.heap.size w w':=by
 go_enter Tryz.func45,Tryz.ntmps45;go_wp2_with fail
 go_quiet (fail);go_wp2;go_ret;exact⟨rfl,bdN (brf _) nq⟩
theorem rsg_18(w:World):Calls Tryz.prog 45 #[.int .u8 18] w fun e w'=>e=.returned (.string ⟨#[92,117,48,48,49,50]⟩)∧Below w.heap.size w w':=by
 go_enter Tryz.func45,Tryz.ntmps45;go_wp2_with fail
 go_quiet (fail);go_wp2;go_ret;exact⟨rfl,bdN (brf _) nq⟩
theorem rsg_19(w:World):Calls Tryz.prog 45 #[.int .u8 19] w fun e w'=>e=.returned (.string ⟨#[92,117,48,48,49,51]⟩)∧Below w.heap.size w w':=by
 go_enter Tryz.func45,Tryz.ntmps45;go_wp2_with fail
 go_quiet (fail);go_wp2;go_ret;exact⟨rfl,bdN (brf _) nq⟩
theorem rsg_20(w:World):Calls Tryz.prog 45 #[.int .u8 20] w fun e w'=>e=.returned (.string ⟨#[92,117,48,48,49,52]⟩)∧Below w.heap.size w w':=by
 go_enter Tryz.func45,Tryz.ntmps45;go_wp2_with fail
 go_quiet (fail);go_wp2;go_ret;exact⟨rfl,bdN (brf _) nq⟩
theorem rsg_21(w:World):Calls Tryz.prog 45 #[.int .u8 21] w fun e w'=>e=.returned (.string ⟨#[92,117,48,48,49,53]⟩)∧Below w.heap.size w w':=by
 go_enter Tryz.func45,Tryz.ntmps45;go_wp2_with fail
 go_quiet (fail);go_wp2;go_ret;exact⟨rfl,bdN (brf _) nq⟩
theorem rsg_22(w:World):Calls Tryz.prog 45 #[.int .u8 22] w fun e w'=>e=.returned (.string ⟨#[92,117,48,48,49,54]⟩)∧Below w.heap.size w w':=by
 go_enter Tryz.func45,Tryz.ntmps45;go_wp2_with fail
 go_quiet (fail);go_wp2;go_ret;exact⟨rfl,bdN (brf _) nq⟩
theorem rsg_23(w:World):Calls Tryz.prog 45 #[.int .u8 23] w fun e w'=>e=.returned (.string ⟨#[92,117,48,48,49,55]⟩)∧Below w.heap.size w w':=by
 go_enter Tryz.func45,Tryz.ntmps45;go_wp2_with fail
 go_quiet (fail);go_wp2;go_ret;exact⟨rfl,bdN (brf _) nq⟩
theorem rsg_24(w:World):Calls Tryz.prog 45 #[.int .u8 24] w fun e w'=>e=.returned (.string ⟨#[92,117,48,48,49,56]⟩)∧Below w.heap.size w w':=by
 go_enter Tryz.func45,Tryz.ntmps45;go_wp2_with fail
 go_quiet (fail);go_wp2;go_ret;exact⟨rfl,bdN (brf _) nq⟩
theorem rsg_25(w:World):Calls Tryz.prog 45 #[.int .u8 25] w fun e w'=>e=.returned (.string ⟨#[92,117,48,48,49,57]⟩)∧Below w.heap.size w w':=by
 go_enter Tryz.func45,Tryz.ntmps45;go_wp2_with fail
 go_quiet (fail);go_wp2;go_ret;exact⟨rfl,bdN (brf _) nq⟩
theorem rsg_26(w:World):Calls Tryz.prog 45 #[.int .u8 26] w fun e w'=>e=.returned (.string ⟨#[92,117,48,48,49,97]⟩)∧Below w.heap.size w w':=by
 go_enter Tryz.func45,Tryz.ntmps45;go_wp2_with fail
 go_quiet (fail);go_wp2;go_ret;exact⟨rfl,bdN (brf _) nq⟩
theorem rsg_27(w:World):Calls Tryz.prog 45 #[.int .u8 27] w fun e w'=>e=.returned (.string ⟨#[92,117,48,48,49,98]⟩)∧Below w.heap.size w w':=by
 go_enter Tryz.func45,Tryz.ntmps45;go_wp2_with fail
 go_quiet (fail);go_wp2;go_ret;exact⟨rfl,bdN (brf _) nq⟩
theorem rsg_28(w:World):Calls Tryz.prog 45 #[.int .u8 28] w fun e w'=>e=.returned (.string ⟨#[92,117,48,48,49,99]⟩)∧Below w.heap.size w w':=by
 go_enter Tryz.func45,Tryz.ntmps45;go_wp2_with fail
 go_quiet (fail);go_wp2;go_ret;exact⟨rfl,bdN (brf _) nq⟩
theorem rsg_29(w:World):Calls Tryz.prog 45 #[.int .u8 29] w fun e w'=>e=.returned (.string ⟨#[92,117,48,48,49,100]⟩)∧Below w.heap.size w w':=by
 go_enter Tryz.func45,Tryz.ntmps45;go_wp2_with fail
 go_quiet (fail);go_wp2;go_ret;exact⟨rfl,bdN (brf _) nq⟩
theorem rsg_30(w:World):Calls Tryz.prog 45 #[.int .u8 30] w fun e w'=>e=.returned (.string ⟨#[92,117,48,48,49,101]⟩)∧Below w.heap.size w w':=by
 go_enter Tryz.func45,Tryz.ntmps45;go_wp2_with fail
 go_quiet (fail);go_wp2;go_ret;exact⟨rfl,bdN (brf _) nq⟩
theorem rsg_31(w:World):Calls Tryz.prog 45 #[.int .u8 31] w fun e w'=>e=.returned (.string ⟨#[92,117,48,48,49,102]⟩)∧Below w.heap.size w w':=by
 go_enter Tryz.func45,Tryz.ntmps45;go_wp2_with fail
 go_quiet (fail);go_wp2;go_ret;exact⟨rfl,bdN (brf _) nq⟩
theorem rsg_else(c:UInt8)(w:World)(h34:c≠34)(h92:c≠92)(h32:32≤c.toNat):Calls Tryz.prog 45 #[.int .u8 (c.toNat:Int)] w fun e w'=>e=.returned (.string ⟨#[c]⟩)∧Below w.heap.size w w':=by
 have d34:((c.toNat:Int)==34)=false:=u8_ne (k:=34) (by omega) h34;have d92:((c.toNat:Int)==92)=false:=u8_ne (k:=92) (by omega) h92;have d8:((c.toNat:Int)==8)=false:=by simp;omega
 have d9:((c.toNat:Int)==9)=false:=by simp;omega
 have d10:((c.toNat:Int)==10)=false:=by simp;omega
 have d12:((c.toNat:Int)==12)=false:=by simp;omega
 have d13:((c.toNat:Int)==13)=false:=by simp;omega
 have dl:decide ((c.toNat:Int)<32)=false:=by simp;omega
 clear h34 h92 h32;go_enter Tryz.func45,Tryz.ntmps45;go_wp2;go_ret;exact⟨rfl,bal (brf _) _⟩
end
theorem rsign(c:UInt8)(w:World):Calls Tryz.prog 45 #[.int .u8 (c.toNat:Int)] w fun e w'=>e=.returned (.string ⟨(sgnL c).toArray⟩)∧Below w.heap.size w w':=by
 by_cases h32:c.toNat<32
 ·have hc:c=UInt8.ofNat c.toNat:=by simp
  have hk:c.toNat=0∨c.toNat=1∨c.toNat=2∨c.toNat=3∨c.toNat=4∨c.toNat=5∨c.toNat=6∨c.toNat=7∨c.toNat=8∨c.toNat=9∨c.toNat=10∨c.toNat=11∨c.toNat=12∨c.toNat=13∨c.toNat=14∨c.toNat=15∨c.toNat=16∨c.toNat=17∨c.toNat=18∨c.toNat=19∨c.toNat=20∨c.toNat=21∨c.toNat=22∨c.toNat=23∨c.toNat=24∨c.toNat=25∨c.toNat=26∨c.toNat=27∨c.toNat=28∨c.toNat=29∨c.toNat=30∨c.toNat=31:=by omega
  rcases hk with h|h|h|h|h|h|h|h|h|h|h|h|h|h|h|h|h|h|h|h|h|h|h|h|h|h|h|h|h|h|h|h
  ·rw[h]at hc;subst hc;exact rsg_0 w
  ·rw[h]at hc;subst hc;exact rsg_1 w
  ·rw[h]at hc;subst hc;exact rsg_2 w
  ·rw[h]at hc;subst hc;exact rsg_3 w
  ·rw[h]at hc;subst hc;exact rsg_4 w
  ·rw[h]at hc;subst hc;exact rsg_5 w
  ·rw[h]at hc;subst hc;exact rsg_6 w
  ·rw[h]at hc;subst hc;exact rsg_7 w
  ·rw[h]at hc;subst hc;exact rsg_8 w
  ·rw[h]at hc;subst hc;exact rsg_9 w
  ·rw[h]at hc;subst hc;exact rsg_10 w
  ·rw[h]at hc;subst hc;exact rsg_11 w
  ·rw[h]at hc;subst hc;exact rsg_12 w
  ·rw[h]at hc;subst hc;exact rsg_13 w
  ·rw[h]at hc;subst hc;exact rsg_14 w
  ·rw[h]at hc;subst hc;exact rsg_15 w
  ·rw[h]at hc;subst hc;exact rsg_16 w
  ·rw[h]at hc;subst hc;exact rsg_17 w
  ·rw[h]at hc;subst hc;exact rsg_18 w
  ·rw[h]at hc;subst hc;exact rsg_19 w
  ·rw[h]at hc;subst hc;exact rsg_20 w
  ·rw[h]at hc;subst hc;exact rsg_21 w
  ·rw[h]at hc;subst hc;exact rsg_22 w
  ·rw[h]at hc;subst hc;exact rsg_23 w
  ·rw[h]at hc;subst hc;exact rsg_24 w
  ·rw[h]at hc;subst hc;exact rsg_25 w
  ·rw[h]at hc;subst hc;exact rsg_26 w
  ·rw[h]at hc;subst hc;exact rsg_27 w
  ·rw[h]at hc;subst hc;exact rsg_28 w
  ·rw[h]at hc;subst hc;exact rsg_29 w
  ·rw[h]at hc;subst hc;exact rsg_30 w
  ·rw[h]at hc;subst hc;exact rsg_31 w
 ·by_cases h34:c=34
  ·subst h34;exact rsg_34 w
  ·by_cases h92:c=92
   ·subst h92;exact rsg_92 w
   ·have e:sgnL c=[c]:=by
     have hne:∀k:Nat,k<32→c≠UInt8.ofNat k:=fun k hk e=>by rw[e]at h32;simp at h32;omega
     unfold sgnL;rw[if_neg (by simp[h34,h92]),if_neg (show c≠8 from hne 8 (by omega)),if_neg (show c≠9 from hne 9 (by omega)),if_neg (show c≠10 from hne 10 (by omega)),if_neg (show c≠12 from hne 12 (by omega)),if_neg (show c≠13 from hne 13 (by omega)),if_neg h32]
    rw[e];exact rsg_else c w h34 h92 (by omega)
theorem rstrT(s:ByteArray)(w:World)(hs:s.size≤1000000000):Calls Tryz.prog 24 #[.string s] w fun e w'=>e=.returned (.string ⟨(strT s.data.toList).toArray⟩)∧Below w.heap.size w w':=by
 obtain⟨i0,hi0,hz0,hz1,hz2⟩:=info_parts u8infoJ;have HI:Hid _:=hi0;clear hi0;go_enter Tryz.func24,Tryz.ntmps24;go_wp2_with (refine wp_app1 rfl (.tmp 6) (.tmp 7) 78 rfl 5 i0 Tryz.underlying78 HI.out hz0 hz1 hz2 w.heap.size _ [] 34 w rfl (.inl ⟨rfl,rfl⟩) (Nat.le_refl _) (by simp) rfl ?_;intro v1 w1 ho1 hb1;have W1:Hid (OwnB w.heap.size 5 v1 [34] w1):=ho1;have B1:Hid _:=hb1;clear ho1 hb1)
 go_loopw [3,4] (fun v i wr=>∃j:Nat,j≤s.size∧i=.int .i64 (j:Int)∧OwnB w.heap.size 5 v (34::sgnsL (s.data.toList.take j)) wr∧Below w.heap.size w wr) (fun _ i _=>s.size-(intOf i).toNat)
 case atStart=>exact⟨0,by omega,rfl,by simpa [sgnsL]using W1.out,B1.out⟩
 case round=>
  clear W1 B1;obtain⟨j,hj,rfl,ho,hb⟩:=hrel;have HO:Hid (OwnB w.heap.size 5 _ (34::sgnsL (s.data.toList.take j)) wr):=ho;have HB:Hid (Below w.heap.size w wr):=hb;have hlen:(sgnsL (s.data.toList.take j)).length≤6*j:=Nat.le_trans (sgnsL_len _) (by simp;omega);have HLEN:Hid _:=hlen;clear ho hb hlen;by_cases hlt:j<s.size
  ·have hlt':(j:Int)<(s.size:Int):=by omega
   have hsg:=rsign s[j];have HT:Hid (sgnsL (s.data.toList.take (j+1))=sgnsL (s.data.toList.take j)++sgnL s[j]):=by
    show sgnsL (s.data.toList.take (j+1))=sgnsL (s.data.toList.take j)++sgnL s[j]
    rw[List.take_succ_eq_append_getElem (by simpa using hlt),sgnsL_append];simp[sgnsL];rfl
   have HL6:Hid _:=sgnL_len s[j];go_wp2_with fail
   refine(hsg _).mono ?_;rintro e w2 ⟨rfl,b2⟩;have hz2':w.heap.size≤w2.heap.size:=Nat.le_trans HB.out.size b2.size;have B2:Hid (Below w.heap.size w w2):=HB.out.trans ⟨b2.os,b2.tape,b2.output,b2.size,fun k hk=>b2.block k (by have:=HB.out.size;omega)⟩;have W2:Hid (OwnB w.heap.size 5 u3 (34::sgnsL (s.data.toList.take j)) w2):=HO.out.below b2 (Nat.le_refl _);clear hsg b2 HO HB;go_wp2_with (refine wp_appS rfl (.tmp 19) (.tmp 20) 78 9 rfl 5 i0 Tryz.underlying78 Tryz.underlying9 HI.out hz0 hz1 hz2 w.heap.size _ (34::sgnsL (s.data.toList.take j)) ⟨(sgnL s[j]).toArray⟩ rfl rfl (by have:=HLEN.out;have:=HL6.out;show(34::sgnsL (s.data.toList.take j)).length+(sgnL s[j]).toArray.size≤140737488355328;simp;omega) W2.out hz2' ?_;intro v3 w3 ho3 hb3;have W3:Hid _:=ho3;have B3:Hid _:=hb3;clear ho3 hb3)
   refine⟨⟨j+1,by omega,by go_num,?_,B2.out.trans B3.out⟩,by simp[intOf];omega⟩;rw[HT.out];exact W3.out
  ·obtain rfl:j=s.size:=by omega
   have hbs:=HB.out.size;go_wp2_with (refine wp_app1 rfl (.tmp 22) (.tmp 23) 78 rfl 5 i0 Tryz.underlying78 HI.out hz0 hz1 hz2 w.heap.size _ (34::sgnsL (s.data.toList.take s.size)) 34 wr rfl HO.out hbs (by have:=HLEN.out;simp;omega) rfl ?_;intro v3 w3 ho3 hb3;have hs3:=ho3.str (P:=Tryz.prog) (t:=78) (d:=9) Tryz.underlying78 Tryz.underlying5 Tryz.underlying9;have B3:Hid _:=hb3;clear ho3 hb3)
   go_ret;refine⟨?_,HB.out.trans B3.out⟩;have e:s.data.toList.take s.size=s.data.toList:=List.take_of_length_le (by simp);rw[e];rfl
theorem runits(s:ByteArray)(w:World)(hs:s.size≤1000000000):Calls Tryz.prog 46 #[.string s] w fun e w'=>∃v,e=.returned v∧w'.ownsRow w.heap.size 3 1 v (unitsL s.data.toList).length ((unitsL s.data.toList).map iV)∧Below w.heap.size w w':=by
 obtain⟨i0,hi0,hz0,hz1,hz2⟩:=info_parts intinfo;have HI:Hid _:=hi0;clear hi0;go_enter Tryz.func46,Tryz.ntmps46;go_wp2_with fail
 go_loopw [3,4] (fun v i wr=>UInv s w v i wr) (fun _ i _=>s.size-(intOf i).toNat)
 case atStart=>exact⟨0,[],by omega,rfl,by simp,by simp[sfx],World.ownsRow_nil _ _ _ _,Below.refl _ _⟩
 case round=>
  obtain⟨j,us,hj,rfl,hu,he,ho,hb⟩:=hrel;have HU:Hid _:=hu;have HE:Hid _:=he;have HO:Hid (wr.ownsRow w.heap.size 3 1 _ us.length (us.map iV)):=ho;have HB:Hid _:=hb;have hbs:=hb.size;clear hu he ho hb;by_cases hlt:j<s.size
  ·have hlt':(j:Int)<(s.size:Int):=by omega
   have HLL:=seqLen_len (sfx s j);rw[sfx_length]at HLL;rcases seq5 (sfx s j)with h0|h0|h0|h0|h0
   ·have hstep:stepL (sfx s j)=1:=by unfold stepL;rw[h0];rfl
    have hsz:j+1≤s.size:=by omega
    have hsq:∀w,Calls Tryz.prog 44 #[.string s,.int .i64 (j:Int)] w fun e w'=>e=.returned (.int .i64 0)∧w'=w:=fun w=>by have:=rsequence s j w hlt (by omega);rw[h0]at this;exact this
    clear h0 HLL;have HG:Hid (∀k,(sfx s j).getD k 0=if h:j+k<s.size then s[j+k]else(sfx s j).getD k 0):=fun k=>by split;exact sfx_getD s j k (by assumption);rfl
    have HS:Hid _:=hstep;clear hstep;have c0:(s[j].toNat:Int)<256:=by have:=s[j].toNat_lt;omega
    go_wp2_with fail
    refine(hsq _).mono ?_;rintro e w1 ⟨rfl,hw1⟩;rw[hw1];clear hw1 w1 hsq;go_wp2_with fail
    go_loop [6,7] (fun r k=>∃m:Nat,1≤m∧m≤1∧k=.int .i64 (m:Int)∧r=.int .i64 (runeTo (sfx s j) 1 (m-1):Nat)) (fun _ k=>1-(intOf k).toNat)
    case atStart=>
     refine⟨1,by omega,by omega,rfl,?_⟩;have:=sfx_getD s j 0 (by omega);simp only[Nat.sub_self,runeTo,this];rfl
    case round=>
     obtain⟨m,hm1,hm2,rfl,rfl⟩:=hrel;by_cases hm:m<1
     ·omega
     ·obtain rfl:m=1:=by omega
      have hR:=runeTo_lt (sfx s j) 1 (1-1);have HR:Hid (runeL (sfx s j)=runeTo (sfx s j) 1 (1-1)):=by show runeL (sfx s j)=_;unfold runeL;rw[HS.out]
      generalize runeTo (sfx s j) 1 (1-1)=X at hR HR;have hb1:(X:Int)<67108864:=by omega
      by_cases hXs:X<65536
      ·have HY:Hid ([X]=unitR (runeL (sfx s j))):=by show [X]=_;rw[HR.out,unitR,if_pos hXs]
       obtain⟨Y,hY⟩:∃Y:Int,(X:Int)=Y:=⟨_,rfl⟩;rw[hY];have y0:0≤Y:=by omega
       have y1:Y<65536:=by omega
       have HYX:Hid _:=hY;clear hY hXs hR hb1 HR;go_wp2_with (refine wp_appN rfl (.tmp 45) (.tmp 47) 40 rfl 3 i0 Tryz.underlying40 HI.out hz0 hz1 hz2 w.heap.size _ us.length (us.map iV) (.int .i64 Y) rfl wr rfl HO.out hbs (by have:=HU.out;omega) rfl ?_;intro v5 w5 ho5 hb5;have W5:Hid _:=ho5;have B5:Hid _:=hb5;clear ho5 hb5)
       go_roundw
       case rel=>exact UInv.next hlt HU.out HE.out (by rw[HS.out];go_num) (by rw[HS.out];omega) HY.out (by show w5.ownsRow _ _ _ _ (us.length+1) (us.map iV++[.int .i64 (X:Int)]);rw[HYX.out];exact W5.out) (HB.out.trans B5.out)
       case measure=>simp[intOf];omega
      ·exfalso;clear HR;simp at hR;omega
   ·have hstep:stepL (sfx s j)=1:=by unfold stepL;rw[h0];rfl
    have hsz:j+1≤s.size:=by omega
    have hsq:∀w,Calls Tryz.prog 44 #[.string s,.int .i64 (j:Int)] w fun e w'=>e=.returned (.int .i64 1)∧w'=w:=fun w=>by have:=rsequence s j w hlt (by omega);rw[h0]at this;exact this
    clear h0 HLL;have HG:Hid (∀k,(sfx s j).getD k 0=if h:j+k<s.size then s[j+k]else(sfx s j).getD k 0):=fun k=>by split;exact sfx_getD s j k (by assumption);rfl
    have HS:Hid _:=hstep;clear hstep;have c0:(s[j].toNat:Int)<256:=by have:=s[j].toNat_lt;omega
    go_wp2_with fail
    refine(hsq _).mono ?_;rintro e w1 ⟨rfl,hw1⟩;rw[hw1];clear hw1 w1 hsq;go_wp2_with fail
    go_loop [6,7] (fun r k=>∃m:Nat,1≤m∧m≤1∧k=.int .i64 (m:Int)∧r=.int .i64 (runeTo (sfx s j) 1 (m-1):Nat)) (fun _ k=>1-(intOf k).toNat)
    case atStart=>
     refine⟨1,by omega,by omega,rfl,?_⟩;have:=sfx_getD s j 0 (by omega);simp only[Nat.sub_self,runeTo,this];rfl
    case round=>
     obtain⟨m,hm1,hm2,rfl,rfl⟩:=hrel;by_cases hm:m<1
     ·omega
     ·obtain rfl:m=1:=by omega
      have hR:=runeTo_lt (sfx s j) 1 (1-1);have HR:Hid (runeL (sfx s j)=runeTo (sfx s j) 1 (1-1)):=by show runeL (sfx s j)=_;unfold runeL;rw[HS.out]
      generalize runeTo (sfx s j) 1 (1-1)=X at hR HR;have hb1:(X:Int)<67108864:=by omega
      by_cases hXs:X<65536
      ·have HY:Hid ([X]=unitR (runeL (sfx s j))):=by show [X]=_;rw[HR.out,unitR,if_pos hXs]
       obtain⟨Y,hY⟩:∃Y:Int,(X:Int)=Y:=⟨_,rfl⟩;rw[hY];have y0:0≤Y:=by omega
       have y1:Y<65536:=by omega
       have HYX:Hid _:=hY;clear hY hXs hR hb1 HR;go_wp2_with (refine wp_appN rfl (.tmp 45) (.tmp 47) 40 rfl 3 i0 Tryz.underlying40 HI.out hz0 hz1 hz2 w.heap.size _ us.length (us.map iV) (.int .i64 Y) rfl wr rfl HO.out hbs (by have:=HU.out;omega) rfl ?_;intro v5 w5 ho5 hb5;have W5:Hid _:=ho5;have B5:Hid _:=hb5;clear ho5 hb5)
       go_roundw
       case rel=>exact UInv.next hlt HU.out HE.out (by rw[HS.out];go_num) (by rw[HS.out];omega) HY.out (by show w5.ownsRow _ _ _ _ (us.length+1) (us.map iV++[.int .i64 (X:Int)]);rw[HYX.out];exact W5.out) (HB.out.trans B5.out)
       case measure=>simp[intOf];omega
      ·exfalso;clear HR;simp at hR;omega
   ·have hstep:stepL (sfx s j)=2:=by unfold stepL;rw[h0];rfl
    have hsz:j+2≤s.size:=by omega
    have hsq:∀w,Calls Tryz.prog 44 #[.string s,.int .i64 (j:Int)] w fun e w'=>e=.returned (.int .i64 2)∧w'=w:=fun w=>by have:=rsequence s j w hlt (by omega);rw[h0]at this;exact this
    clear h0 HLL;have HG:Hid (∀k,(sfx s j).getD k 0=if h:j+k<s.size then s[j+k]else(sfx s j).getD k 0):=fun k=>by split;exact sfx_getD s j k (by assumption);rfl
    have HS:Hid _:=hstep;clear hstep;have c0:(s[j].toNat:Int)<256:=by have:=s[j].toNat_lt;omega
    go_wp2_with fail
    refine(hsq _).mono ?_;rintro e w1 ⟨rfl,hw1⟩;rw[hw1];clear hw1 w1 hsq;go_wp2_with fail
    go_loop [6,7] (fun r k=>∃m:Nat,1≤m∧m≤2∧k=.int .i64 (m:Int)∧r=.int .i64 (runeTo (sfx s j) 2 (m-1):Nat)) (fun _ k=>2-(intOf k).toNat)
    case atStart=>
     refine⟨1,by omega,by omega,rfl,?_⟩;have:=sfx_getD s j 0 (by omega);simp only[Nat.sub_self,runeTo,this];rfl
    case round=>
     obtain⟨m,hm1,hm2,rfl,rfl⟩:=hrel;by_cases hm:m<2
     ·have hR:=runeTo_lt (sfx s j) 2 (m-1)
      have hnext:runeTo (sfx s j) 2 m=64*runeTo (sfx s j) 2 (m-1)+s[j+m].toNat%64:=by
       obtain⟨m',rfl⟩:∃m',m=m'+1:=⟨m-1,by omega⟩;rw[runeTo,sfx_getD s j (m'+1) (by omega)];rfl
      have hRb:runeTo (sfx s j) 2 (m-1)<67108864:=by
       have:64^(m-1)≤64^3:=Nat.pow_le_pow_right (by omega) (by omega);omega
      clear hR;have HN:Hid _:=hnext;clear hnext;have HRX:∃X,runeTo (sfx s j) 2 (m-1)=X:=⟨_,rfl⟩;obtain⟨X,hX⟩:=HRX;rw[hX]at hRb ⊢;have HX:Hid _:=hX;clear hX;have hi1:(0:Int)≤(j:Int)+m:=by omega
      have hi2:(j:Int)+m<(s.size:Int):=by omega
      have ht:((j:Int)+(m:Int)).toNat=j+m:=by omega
      have hx:j+m<s.size:=by omega
      go_wp2_with fail
      go_round
      case rel=>exact⟨m+1,by omega,by omega,by go_num,by rw[Nat.add_sub_cancel,HN.out,HX.out];exact congrArg (Value.int .i64) (wr_step X s[j+m].toNat hRb s[j+m].toNat_lt)⟩
      case measure=>simp[intOf];omega
     ·obtain rfl:m=2:=by omega
      have hR:=runeTo_lt (sfx s j) 2 (2-1);have HR:Hid (runeL (sfx s j)=runeTo (sfx s j) 2 (2-1)):=by show runeL (sfx s j)=_;unfold runeL;rw[HS.out]
      generalize runeTo (sfx s j) 2 (2-1)=X at hR HR;have hb1:(X:Int)<67108864:=by omega
      by_cases hXs:X<65536
      ·have HY:Hid ([X]=unitR (runeL (sfx s j))):=by show [X]=_;rw[HR.out,unitR,if_pos hXs]
       obtain⟨Y,hY⟩:∃Y:Int,(X:Int)=Y:=⟨_,rfl⟩;rw[hY];have y0:0≤Y:=by omega
       have y1:Y<65536:=by omega
       have HYX:Hid _:=hY;clear hY hXs hR hb1 HR;go_wp2_with (refine wp_appN rfl (.tmp 45) (.tmp 47) 40 rfl 3 i0 Tryz.underlying40 HI.out hz0 hz1 hz2 w.heap.size _ us.length (us.map iV) (.int .i64 Y) rfl wr rfl HO.out hbs (by have:=HU.out;omega) rfl ?_;intro v5 w5 ho5 hb5;have W5:Hid _:=ho5;have B5:Hid _:=hb5;clear ho5 hb5)
       go_roundw
       case rel=>exact UInv.next hlt HU.out HE.out (by rw[HS.out];go_num) (by rw[HS.out];omega) HY.out (by show w5.ownsRow _ _ _ _ (us.length+1) (us.map iV++[.int .i64 (X:Int)]);rw[HYX.out];exact W5.out) (HB.out.trans B5.out)
       case measure=>simp[intOf];omega
      ·exfalso;clear HR;simp at hR;omega
   ·have hstep:stepL (sfx s j)=3:=by unfold stepL;rw[h0];rfl
    have hsz:j+3≤s.size:=by omega
    have hsq:∀w,Calls Tryz.prog 44 #[.string s,.int .i64 (j:Int)] w fun e w'=>e=.returned (.int .i64 3)∧w'=w:=fun w=>by have:=rsequence s j w hlt (by omega);rw[h0]at this;exact this
    clear h0 HLL;have HG:Hid (∀k,(sfx s j).getD k 0=if h:j+k<s.size then s[j+k]else(sfx s j).getD k 0):=fun k=>by split;exact sfx_getD s j k (by assumption);rfl
    have HS:Hid _:=hstep;clear hstep;have c0:(s[j].toNat:Int)<256:=by have:=s[j].toNat_lt;omega
    go_wp2_with fail
    refine(hsq _).mono ?_;rintro e w1 ⟨rfl,hw1⟩;rw[hw1];clear hw1 w1 hsq;go_wp2_with fail
    go_loop [6,7] (fun r k=>∃m:Nat,1≤m∧m≤3∧k=.int .i64 (m:Int)∧r=.int .i64 (runeTo (sfx s j) 3 (m-1):Nat)) (fun _ k=>3-(intOf k).toNat)
    case atStart=>
     refine⟨1,by omega,by omega,rfl,?_⟩;have:=sfx_getD s j 0 (by omega);simp only[Nat.sub_self,runeTo,this];rfl
    case round=>
     obtain⟨m,hm1,hm2,rfl,rfl⟩:=hrel;by_cases hm:m<3
     ·have hR:=runeTo_lt (sfx s j) 3 (m-1)
      have hnext:runeTo (sfx s j) 3 m=64*runeTo (sfx s j) 3 (m-1)+s[j+m].toNat%64:=by
       obtain⟨m',rfl⟩:∃m',m=m'+1:=⟨m-1,by omega⟩;rw[runeTo,sfx_getD s j (m'+1) (by omega)];rfl
      have hRb:runeTo (sfx s j) 3 (m-1)<67108864:=by
       have:64^(m-1)≤64^3:=Nat.pow_le_pow_right (by omega) (by omega);omega
      clear hR;have HN:Hid _:=hnext;clear hnext;have HRX:∃X,runeTo (sfx s j) 3 (m-1)=X:=⟨_,rfl⟩;obtain⟨X,hX⟩:=HRX;rw[hX]at hRb ⊢;have HX:Hid _:=hX;clear hX;have hi1:(0:Int)≤(j:Int)+m:=by omega
      have hi2:(j:Int)+m<(s.size:Int):=by omega
      have ht:((j:Int)+(m:Int)).toNat=j+m:=by omega
      have hx:j+m<s.size:=by omega
      go_wp2_with fail
      go_round
      case rel=>exact⟨m+1,by omega,by omega,by go_num,by rw[Nat.add_sub_cancel,HN.out,HX.out];exact congrArg (Value.int .i64) (wr_step X s[j+m].toNat hRb s[j+m].toNat_lt)⟩
      case measure=>simp[intOf];omega
     ·obtain rfl:m=3:=by omega
      have hR:=runeTo_lt (sfx s j) 3 (3-1);have HR:Hid (runeL (sfx s j)=runeTo (sfx s j) 3 (3-1)):=by show runeL (sfx s j)=_;unfold runeL;rw[HS.out]
      generalize runeTo (sfx s j) 3 (3-1)=X at hR HR;have hb1:(X:Int)<67108864:=by omega
      by_cases hXs:X<65536
      ·have HY:Hid ([X]=unitR (runeL (sfx s j))):=by show [X]=_;rw[HR.out,unitR,if_pos hXs]
       obtain⟨Y,hY⟩:∃Y:Int,(X:Int)=Y:=⟨_,rfl⟩;rw[hY];have y0:0≤Y:=by omega
       have y1:Y<65536:=by omega
       have HYX:Hid _:=hY;clear hY hXs hR hb1 HR;go_wp2_with (refine wp_appN rfl (.tmp 45) (.tmp 47) 40 rfl 3 i0 Tryz.underlying40 HI.out hz0 hz1 hz2 w.heap.size _ us.length (us.map iV) (.int .i64 Y) rfl wr rfl HO.out hbs (by have:=HU.out;omega) rfl ?_;intro v5 w5 ho5 hb5;have W5:Hid _:=ho5;have B5:Hid _:=hb5;clear ho5 hb5)
       go_roundw
       case rel=>exact UInv.next hlt HU.out HE.out (by rw[HS.out];go_num) (by rw[HS.out];omega) HY.out (by show w5.ownsRow _ _ _ _ (us.length+1) (us.map iV++[.int .i64 (X:Int)]);rw[HYX.out];exact W5.out) (HB.out.trans B5.out)
       case measure=>simp[intOf];omega
      ·have HY:Hid ([55296+(X-65536)/1024,56320+(X-65536)%1024]=unitR (runeL (sfx s j))):=by show _=_;rw[HR.out,unitR,if_neg hXs]
       obtain⟨Y,hY⟩:∃Y:Nat,X=65536+Y:=⟨X-65536,by omega⟩;obtain⟨Z,hZ⟩:∃Z:Int,(X:Int)=Z:=⟨_,rfl⟩;rw[hZ];have z0:65536≤Z:=by omega
       have z1:Z<67108864:=by omega
       have zd:decide (Z<65536)=false:=by simp;omega
       have HYX:Hid ((55296+(X-65536)/1024:Nat)=55296+(Z-65536)/1024∧(56320+(X-65536)%1024:Nat)=56320+(Z-65536)%1024):=by show _∧_;omega
       clear hY hXs hR hb1 HR hZ;go_wp2_with (first|(refine wp_appN rfl (.tmp 49) (.tmp 54) 40 rfl 3 i0 Tryz.underlying40 HI.out hz0 hz1 hz2 w.heap.size _ us.length (us.map iV) (.int .i64 (55296+(Z-65536)/1024)) rfl wr rfl HO.out hbs (by have:=HU.out;omega) rfl ?_;intro v5 w5 ho5 hb5;have hbs5:=Nat.le_trans hbs hb5.size;have W5:Hid _:=ho5;have B5:Hid _:=hb5;clear ho5 hb5)|(refine wp_appN rfl (.tmp 56) (.tmp 61) 40 rfl 3 i0 Tryz.underlying40 HI.out hz0 hz1 hz2 w.heap.size _ (us.length+1) _ (.int .i64 (56320+(Z-65536)%1024)) rfl w5 rfl W5.out hbs5 (by have:=HU.out;omega) rfl ?_;intro v6 w6 ho6 hb6;have W6:Hid _:=ho6;have B6:Hid _:=hb6;clear ho6 hb6))
       go_roundw
       case rel=>exact UInv.next hlt HU.out HE.out (by rw[HS.out];go_num) (by rw[HS.out];omega) HY.out (by
        show w6.ownsRow _ _ _ _ (us.length+2) (us.map iV++[.int .i64 ((55296+(X-65536)/1024:Nat):Int),.int .i64 ((56320+(X-65536)%1024:Nat):Int)])
        rw[HYX.out.1,HYX.out.2];have:=W6.out;rw[List.append_assoc]at this;exact this) (HB.out.trans (B5.out.trans B6.out))
       case measure=>simp[intOf];omega
   ·have hstep:stepL (sfx s j)=4:=by unfold stepL;rw[h0];rfl
    have hsz:j+4≤s.size:=by omega
    have hsq:∀w,Calls Tryz.prog 44 #[.string s,.int .i64 (j:Int)] w fun e w'=>e=.returned (.int .i64 4)∧w'=w:=fun w=>by have:=rsequence s j w hlt (by omega);rw[h0]at this;exact this
    clear h0 HLL;have HG:Hid (∀k,(sfx s j).getD k 0=if h:j+k<s.size then s[j+k]else(sfx s j).getD k 0):=fun k=>by split;exact sfx_getD s j k (by assumption);rfl
    have HS:Hid _:=hstep;clear hstep;have c0:(s[j].toNat:Int)<256:=by have:=s[j].toNat_lt;omega
    go_wp2_with fail
    refine(hsq _).mono ?_;rintro e w1 ⟨rfl,hw1⟩;rw[hw1];clear hw1 w1 hsq;go_wp2_with fail
    go_loop [6,7] (fun r k=>∃m:Nat,1≤m∧m≤4∧k=.int .i64 (m:Int)∧r=.int .i64 (runeTo (sfx s j) 4 (m-1):Nat)) (fun _ k=>4-(intOf k).toNat)
    case atStart=>
     refine⟨1,by omega,by omega,rfl,?_⟩;have:=sfx_getD s j 0 (by omega);simp only[Nat.sub_self,runeTo,this];rfl
    case round=>
     obtain⟨m,hm1,hm2,rfl,rfl⟩:=hrel;by_cases hm:m<4
     ·have hR:=runeTo_lt (sfx s j) 4 (m-1)
      have hnext:runeTo (sfx s j) 4 m=64*runeTo (sfx s j) 4 (m-1)+s[j+m].toNat%64:=by
       obtain⟨m',rfl⟩:∃m',m=m'+1:=⟨m-1,by omega⟩;rw[runeTo,sfx_getD s j (m'+1) (by omega)];rfl
      have hRb:runeTo (sfx s j) 4 (m-1)<67108864:=by
       have:64^(m-1)≤64^3:=Nat.pow_le_pow_right (by omega) (by omega);omega
      clear hR;have HN:Hid _:=hnext;clear hnext;have HRX:∃X,runeTo (sfx s j) 4 (m-1)=X:=⟨_,rfl⟩;obtain⟨X,hX⟩:=HRX;rw[hX]at hRb ⊢;have HX:Hid _:=hX;clear hX;have hi1:(0:Int)≤(j:Int)+m:=by omega
      have hi2:(j:Int)+m<(s.size:Int):=by omega
      have ht:((j:Int)+(m:Int)).toNat=j+m:=by omega
      have hx:j+m<s.size:=by omega
      go_wp2_with fail
      go_round
      case rel=>exact⟨m+1,by omega,by omega,by go_num,by rw[Nat.add_sub_cancel,HN.out,HX.out];exact congrArg (Value.int .i64) (wr_step X s[j+m].toNat hRb s[j+m].toNat_lt)⟩
      case measure=>simp[intOf];omega
     ·obtain rfl:m=4:=by omega
      have hR:=runeTo_lt (sfx s j) 4 (4-1);have HR:Hid (runeL (sfx s j)=runeTo (sfx s j) 4 (4-1)):=by show runeL (sfx s j)=_;unfold runeL;rw[HS.out]
      generalize runeTo (sfx s j) 4 (4-1)=X at hR HR;have hb1:(X:Int)<67108864:=by omega
      by_cases hXs:X<65536
      ·have HY:Hid ([X]=unitR (runeL (sfx s j))):=by show [X]=_;rw[HR.out,unitR,if_pos hXs]
       obtain⟨Y,hY⟩:∃Y:Int,(X:Int)=Y:=⟨_,rfl⟩;rw[hY];have y0:0≤Y:=by omega
       have y1:Y<65536:=by omega
       have HYX:Hid _:=hY;clear hY hXs hR hb1 HR;go_wp2_with (refine wp_appN rfl (.tmp 45) (.tmp 47) 40 rfl 3 i0 Tryz.underlying40 HI.out hz0 hz1 hz2 w.heap.size _ us.length (us.map iV) (.int .i64 Y) rfl wr rfl HO.out hbs (by have:=HU.out;omega) rfl ?_;intro v5 w5 ho5 hb5;have W5:Hid _:=ho5;have B5:Hid _:=hb5;clear ho5 hb5)
       go_roundw
       case rel=>exact UInv.next hlt HU.out HE.out (by rw[HS.out];go_num) (by rw[HS.out];omega) HY.out (by show w5.ownsRow _ _ _ _ (us.length+1) (us.map iV++[.int .i64 (X:Int)]);rw[HYX.out];exact W5.out) (HB.out.trans B5.out)
       case measure=>simp[intOf];omega
      ·have HY:Hid ([55296+(X-65536)/1024,56320+(X-65536)%1024]=unitR (runeL (sfx s j))):=by show _=_;rw[HR.out,unitR,if_neg hXs]
       obtain⟨Y,hY⟩:∃Y:Nat,X=65536+Y:=⟨X-65536,by omega⟩;obtain⟨Z,hZ⟩:∃Z:Int,(X:Int)=Z:=⟨_,rfl⟩;rw[hZ];have z0:65536≤Z:=by omega
       have z1:Z<67108864:=by omega
       have zd:decide (Z<65536)=false:=by simp;omega
       have HYX:Hid ((55296+(X-65536)/1024:Nat)=55296+(Z-65536)/1024∧(56320+(X-65536)%1024:Nat)=56320+(Z-65536)%1024):=by show _∧_;omega
       clear hY hXs hR hb1 HR hZ;go_wp2_with (first|(refine wp_appN rfl (.tmp 49) (.tmp 54) 40 rfl 3 i0 Tryz.underlying40 HI.out hz0 hz1 hz2 w.heap.size _ us.length (us.map iV) (.int .i64 (55296+(Z-65536)/1024)) rfl wr rfl HO.out hbs (by have:=HU.out;omega) rfl ?_;intro v5 w5 ho5 hb5;have hbs5:=Nat.le_trans hbs hb5.size;have W5:Hid _:=ho5;have B5:Hid _:=hb5;clear ho5 hb5)|(refine wp_appN rfl (.tmp 56) (.tmp 61) 40 rfl 3 i0 Tryz.underlying40 HI.out hz0 hz1 hz2 w.heap.size _ (us.length+1) _ (.int .i64 (56320+(Z-65536)%1024)) rfl w5 rfl W5.out hbs5 (by have:=HU.out;omega) rfl ?_;intro v6 w6 ho6 hb6;have W6:Hid _:=ho6;have B6:Hid _:=hb6;clear ho6 hb6))
       go_roundw
       case rel=>exact UInv.next hlt HU.out HE.out (by rw[HS.out];go_num) (by rw[HS.out];omega) HY.out (by
        show w6.ownsRow _ _ _ _ (us.length+2) (us.map iV++[.int .i64 ((55296+(X-65536)/1024:Nat):Int),.int .i64 ((56320+(X-65536)%1024:Nat):Int)])
        rw[HYX.out.1,HYX.out.2];have:=W6.out;rw[List.append_assoc]at this;exact this) (HB.out.trans (B5.out.trans B6.out))
       case measure=>simp[intOf];omega
  ·obtain rfl:j=s.size:=by omega
   go_wp2_with fail
   go_ret;have e:unitsL s.data.toList=us:=by have:=HE.out;rw[sfx_nil s s.size (Nat.le_refl _),unitsL_nil,List.append_nil]at this;exact this
   rw[e];exact⟨_,rfl,HO.out,HB.out⟩
theorem rahead(a b:ByteArray)(w:World)(ha:a.size≤1000000000)(hb:b.size≤1000000000):Calls Tryz.prog 25 #[.string a,.string b] w fun e w'=>e=.returned (.bool (aheadL a.data.toList b.data.toList))∧Below w.heap.size w w':=by
 have hla:(unitsL a.data.toList).length≤2000000000:=by have:=unitsL_len a.data.toList;simp at this;omega
 have hlb:(unitsL b.data.toList).length≤2000000000:=by have:=unitsL_len b.data.toList;simp at this;omega
 unfold aheadL;have hua:=fun w=>runits a w ha
 have hub:=fun w=>runits b w hb
 generalize unitsL a.data.toList=us at *;generalize unitsL b.data.toList=vs at *;clear ha hb;go_enter Tryz.func25,Tryz.ntmps25;go_wp2_with fail
 refine(hua _).mono ?_;rintro e w1 ⟨x,rfl,r1,b1⟩;have R1:Hid (IRow w1 x us):=IRow.of r1;have B1:Hid (Below w.heap.size w w1):=b1;have hz:w.heap.size≤w1.heap.size:=b1.size;clear r1 b1 hua;go_wp2_with fail
 refine(hub _).mono ?_;rintro e w2 ⟨y,rfl,r2,b2⟩;have R2:Hid (IRow w2 y vs):=IRow.of r2;have R1':Hid (IRow w2 x us):=R1.out.keep fun g j u hc=>cell_keep b2 hc
 have B2:Hid (Below w.heap.size w w2):=B1.out.trans ⟨b2.os,b2.tape,b2.output,b2.size,fun k hk=>b2.block k (by omega)⟩;clear r2 b2 hub R1 B1;go_wp2_with fail
 go_loopw [7] (fun i wr=>∃j:Nat,j≤us.length∧j≤vs.length∧i=.int .i64 (j:Int)∧aheadU us vs=aheadU (us.drop j) (vs.drop j)∧IRow wr x us∧IRow wr y vs∧Below w.heap.size w wr) (fun i _=>us.length-(intOf i).toNat)
 case atStart=>exact⟨0,by omega,by omega,rfl,rfl,R1'.out,R2.out,B2.out⟩
 case round=>
  clear R1' R2 B2;obtain⟨j,hj,hj',rfl,he,r1,r2,hb⟩:=hrel;have HE:Hid _:=he;have R1:Hid (IRow wr x us):=r1;have R2:Hid (IRow wr y vs):=r2;have HB:Hid (Below w.heap.size w wr):=hb;obtain⟨ad1,cap1,rfl,c1⟩:=r1;obtain⟨ad2,cap2,rfl,c2⟩:=r2;clear he hb;by_cases hlt:j<us.length∧j<vs.length
  ·obtain⟨k1,k2⟩:=hlt
   have k1':(j:Int)<(us.length:Int):=by omega
   have k2':(j:Int)<(vs.length:Int):=by omega
   obtain⟨p,hp⟩:∃p,us[j]?=some p:=⟨_,List.getElem?_eq_getElem k1⟩;obtain⟨q,hq⟩:∃q,vs[j]?=some q:=⟨_,List.getElem?_eq_getElem k2⟩;obtain⟨g1,rfl,d1⟩:=c1 j p hp;obtain⟨g2,rfl,d2⟩:=c2 j q hq;have HP:Hid (us[j]?=some p∧vs[j]?=some q):=⟨hp,hq⟩;clear c1 c2 hp hq;by_cases hpq:p=q
   ·subst hpq
    go_wp2_with fail
    go_quiet (fail);go_wp2_with fail
    go_roundw
    case rel=>exact⟨j+1,by omega,by omega,by go_num,HE.out.trans (aheadU_step us vs j p HP.out.1 HP.out.2),R1.out.drewN nq,R2.out.drewN nq,bdN HB.out nq⟩
    case measure=>simp[intOf];omega
   ·have hpq':((p:Int)==(q:Int))=false:=by simp;omega
    have HPQ:Hid _:=hpq;clear hpq;go_wp2_with fail
    go_quiet (fail);go_wp2_with fail
    go_quiet (fail);go_wp2;go_ret;refine⟨?_,bdN (bdN HB.out _) _⟩;rw[HE.out,aheadU_ne us vs j p q HP.out.1 HP.out.2 HPQ.out];go_num
  ·by_cases k1:j<us.length
   ·have k1':(j:Int)<(us.length:Int):=by omega
    have k2':decide ((j:Int)<(vs.length:Int))=false:=by simp;omega
    have HEE:Hid (aheadU us vs=decide (us.length<vs.length)):=by show _=_;rw[HE.out,aheadU_end us vs j hj hj' (by omega)]
    go_wp2;go_ret;exact⟨by rw[HEE.out];rfl,HB.out⟩
   ·have k1':decide ((j:Int)<(us.length:Int))=false:=by simp;omega
    have HEE:Hid (aheadU us vs=decide (us.length<vs.length)):=by show _=_;rw[HE.out,aheadU_end us vs j hj hj' (by omega)]
    go_wp2;go_ret;exact⟨by rw[HEE.out];rfl,HB.out⟩
end Go.Proofs.YtbbopknnoamkbaaGreatDoor
