import Derived.Test.YtaghclgookfmnaaGreatDoorNSeq
import Derived.WalkSpells
set_option maxHeartbeats 1000000
namespace Go.Proofs.YtaghclgookfmnaaGreatDoor
open Go.RowKit
set_option linter.unusedVariables false
def RD(bp:Nat)(s:ByteArray)(i:Nat)(vL:Value)(er at' dp:Nat)(w:World):Prop:=w.heap[bp]?=some (.cells (rdCells s i vL er at' dp) 68 (0,0))
theorem RD.cell{bp:Nat}{s:ByteArray}{i:Nat}{vL:Value}{er at' dp:Nat}{w:World}(h:RD bp s i vL er at' dp w):w.cell? ⟨bp,0,none⟩=some (.string s)∧w.cell? ⟨bp,1,none⟩=some (.int .i64 (i:Int))∧w.cell? ⟨bp,2,none⟩=some vL∧w.cell? ⟨bp,3,none⟩=some (.int .i64 (er:Int))∧w.cell? ⟨bp,4,none⟩=some (.int .i64 (at':Int))∧w.cell? ⟨bp,5,none⟩=some (.int .i64 (dp:Int))∧(∀k,w.frozen? ⟨bp,k,none⟩=false):=by
 refine⟨?_,?_,?_,?_,?_,?_,?_⟩
 ·rw[cell_of_row w bp 0 _ _ _ h];rfl
 ·rw[cell_of_row w bp 1 _ _ _ h];rfl
 ·rw[cell_of_row w bp 2 _ _ _ h];rfl
 ·rw[cell_of_row w bp 3 _ _ _ h];rfl
 ·rw[cell_of_row w bp 4 _ _ _ h];rfl
 ·rw[cell_of_row w bp 5 _ _ _ h];rfl
 ·intro k;unfold RD at h;simp[World.frozen?,h]
section
variable {bp:Nat} {s:ByteArray} {i:Nat} {vL:Value} {er at' dp:Nat} {w:World}
theorem RD.setI(h:RD bp s i vL er at' dp w)(j:Nat):RD bp s j vL er at' dp (w.setCell ⟨bp,1,none⟩ (.int .i64 (j:Int))):=by
 rw[setCell_eq_setRow w bp 1 _ _ _ _ h];exact setRow_heap w bp _ _ _ _ h
theorem RD.setL(h:RD bp s i vL er at' dp w)(v:Value):RD bp s i v er at' dp (w.setCell ⟨bp,2,none⟩ v):=by
 rw[setCell_eq_setRow w bp 2 _ _ _ _ h];exact setRow_heap w bp _ _ _ _ h
theorem RD.setE(h:RD bp s i vL er at' dp w)(j:Nat):RD bp s i vL j at' dp (w.setCell ⟨bp,3,none⟩ (.int .i64 (j:Int))):=by
 rw[setCell_eq_setRow w bp 3 _ _ _ _ h];exact setRow_heap w bp _ _ _ _ h
theorem RD.setA(h:RD bp s i vL er at' dp w)(j:Nat):RD bp s i vL er j dp (w.setCell ⟨bp,4,none⟩ (.int .i64 (j:Int))):=by
 rw[setCell_eq_setRow w bp 4 _ _ _ _ h];exact setRow_heap w bp _ _ _ _ h
theorem RD.setD(h:RD bp s i vL er at' dp w)(j:Nat):RD bp s i vL er at' j (w.setCell ⟨bp,5,none⟩ (.int .i64 (j:Int))):=by
 rw[setCell_eq_setRow w bp 5 _ _ _ _ h];exact setRow_heap w bp _ _ _ _ h
theorem RD.lt(h:RD bp s i vL er at' dp w):bp<w.heap.size:=(Array.getElem?_eq_some_iff.1 h).1
theorem RD.drewN(h:RD bp s i vL er at' dp w)(n:Nat):RD bp s i vL er at' dp (w.drewN n):=h
theorem RD.alloc(h:RD bp s i vL er at' dp w)(o:Obj):RD bp s i vL er at' dp (w.alloc o):=by
 unfold RD;rw[heap_alloc_old _ _ h.lt];exact h
end
theorem rfail0(bp:Nat)(s:ByteArray)(i:Nat)(vL:Value)(at0 dp e a:Nat)(w:World)(h:RD bp s i vL 0 at0 dp w):Calls Tryz.prog 27 #[.pointer (some ⟨bp,0,none⟩),.int .i64 (e:Int),.int .i64 (a:Int)] w fun r w'=>r=.returned (.tuple #[])∧RD bp s i vL e a dp w'∧Onl bp w w':=by
 obtain⟨c0,c1,c2,c3,c4,c5,cf⟩:=h.cell;have f3:=cf 3;have f4:=cf 4;go_enter Tryz.func27,Tryz.ntmps27;go_wp2;go_end0
 exact⟨rfl,(h.setE e).setA a,((onl_refl bp w).setCell _ h).setCell _ (h.setE e)⟩
theorem rfail1(bp:Nat)(s:ByteArray)(i:Nat)(vL:Value)(er at0 dp e a:Nat)(w:World)(h:RD bp s i vL er at0 dp w)(he:0<er):Calls Tryz.prog 27 #[.pointer (some ⟨bp,0,none⟩),.int .i64 (e:Int),.int .i64 (a:Int)] w fun r w'=>r=.returned (.tuple #[])∧w'=w:=by
 obtain⟨c0,c1,c2,c3,c4,c5,cf⟩:=h.cell;have hb:((er:Int)==0)=false:=by simp;omega
 go_enter Tryz.func27,Tryz.ntmps27;go_wp2;go_end0
 exact⟨rfl,rfl⟩
theorem ris(bp:Nat)(s:ByteArray)(i:Nat)(vL:Value)(er at0 dp:Nat)(c:UInt8)(w:World)(h:RD bp s i vL er at0 dp w):Calls Tryz.prog 33 #[.pointer (some ⟨bp,0,none⟩),.int .u8 (c.toNat:Int)] w fun r w'=>r=.returned (.bool (isAt er (sfx s i) c))∧∃n,w'=w.drewN n:=by
 obtain⟨c0,c1,c2,c3,c4,c5,cf⟩:=h.cell;by_cases he:er=0
 ·subst he
  by_cases hi:i<s.size
  ·have hi':(i:Int)<(s.size:Int):=by omega
   have hh:isAt 0 (sfx s i) c=(s[i]==c):=by rw[sfx_cons s i hi];simp[isAt]
   rw[hh];clear hh;by_cases hc:s[i]=c
   ·have hb:((s[i].toNat:Int)==(c.toNat:Int))=true:=by rw[hc];simp
    rw[beq_iff_eq.2 hc];clear hc;go_enter Tryz.func33,Tryz.ntmps33;go_wp2_with fail
    go_quiet (fail);go_wp2;go_ret;exact⟨rfl,_,rfl⟩
   ·have hb:((s[i].toNat:Int)==(c.toNat:Int))=false:=by
     rw[beq_eq_false_iff_ne];intro e;exact hc (UInt8.toNat_inj.1 (by exact_mod_cast e))
    rw[beq_eq_false_iff_ne.2 hc];clear hc;go_enter Tryz.func33,Tryz.ntmps33;go_wp2_with fail
    go_quiet (fail);go_wp2;go_ret;exact⟨rfl,_,rfl⟩
  ·have hi':decide ((i:Int)<(s.size:Int))=false:=by simp;omega
   have hh:isAt 0 (sfx s i) c=false:=by rw[sfx_nil s i (by omega)];simp[isAt]
   rw[hh];clear hh;go_enter Tryz.func33,Tryz.ntmps33;go_wp2_with fail
   go_quiet (fail);go_wp2;go_ret;exact⟨rfl,_,rfl⟩
 ·have hb:((er:Int)==0)=false:=by simp;omega
  have hh:isAt er (sfx s i) c=false:=by simp[isAt,he]
  rw[hh];clear hh;go_enter Tryz.func33,Tryz.ntmps33;go_wp2_with fail
  go_quiet (fail);go_wp2;go_ret;exact⟨rfl,_,rfl⟩
section
variable (bp:Nat) (s:ByteArray) (i:Nat) (vL:Value) (er at0 dp:Nat) (c:UInt8) (w:World)
theorem rmust_ok(hs:s.size≤140737488355328)(h:RD bp s i vL 0 at0 dp w)(hc:(sfx s i).head?=some c):Calls Tryz.prog 45 #[.pointer (some ⟨bp,0,none⟩),.int .u8 (c.toNat:Int)] w fun r w'=>r=.returned (.tuple #[])∧RD bp s (i+1) vL 0 at0 dp w'∧Onl bp w w':=by
 have hi:=head_lt hc;have hi2:i≤140737488355328:=by omega
 have hr:=ris bp s i vL 0 at0 dp c w h;rw[isAt_yes hc]at hr;clear hc hi;go_enter Tryz.func45,Tryz.ntmps45;go_wp2_with fail
 refine hr.mono ?_;rintro e w1 ⟨rfl,n,hw1⟩;rw[hw1];clear hw1 w1 hr;have h1:=h.drewN n;have ho:Onl bp w (w.drewN n):=(onl_refl bp w).drewN n;generalize w.drewN n=w1 at h1 ho;obtain⟨c0,c1,c2,c3,c4,c5,cf⟩:=h1.cell;have f1:=cf 1;go_wp2;go_end0
 exact⟨rfl,h1.setI (i+1),ho.setCell _ h1⟩
theorem rmust_no(h:RD bp s i vL 0 at0 dp w)(hc:(sfx s i).head?≠some c):Calls Tryz.prog 45 #[.pointer (some ⟨bp,0,none⟩),.int .u8 (c.toNat:Int)] w fun r w'=>r=.returned (.tuple #[])∧RD bp s i vL 2 i dp w'∧Onl bp w w':=by
 have hr:=ris bp s i vL 0 at0 dp c w h;rw[isAt_no hc]at hr;clear hc;go_enter Tryz.func45,Tryz.ntmps45;go_wp2_with fail
 refine hr.mono ?_;rintro e w1 ⟨rfl,n,hw1⟩;rw[hw1];clear hw1 w1 hr;have h1:=h.drewN n;have ho:Onl bp w (w.drewN n):=(onl_refl bp w).drewN n;generalize w.drewN n=w1 at h1 ho;obtain⟨c0,c1,c2,c3,c4,c5,cf⟩:=h1.cell;have hf:=rfail0 bp s i vL at0 dp 2 i w1 h1;go_wp2_with fail
 refine hf.mono ?_;rintro e w2 ⟨rfl,h2,ho2⟩;clear hf;have HO:Hid _:=ho.trans ho2;clear ho ho2;go_wp2;refine bodyPost_ret (results_none rfl _ _ _) rfl ?_;exact⟨rfl,h2,HO.out⟩
theorem rmust_er(h:RD bp s i vL er at0 dp w)(he:0<er):Calls Tryz.prog 45 #[.pointer (some ⟨bp,0,none⟩),.int .u8 (c.toNat:Int)] w fun r w'=>r=.returned (.tuple #[])∧∃n,w'=w.drewN n:=by
 have hr:=ris bp s i vL er at0 dp c w h;rw[isAt_er he]at hr;go_enter Tryz.func45,Tryz.ntmps45;go_wp2_with fail
 refine hr.mono ?_;rintro e w1 ⟨rfl,n,hw1⟩;rw[hw1];clear hw1 w1 hr;obtain⟨c0,c1,c2,c3,c4,c5,cf⟩:=(h.drewN n).cell;have hf:=rfail1 bp s i vL er at0 dp 2 i (w.drewN n) (h.drewN n) he;go_wp2_with fail
 refine hf.mono ?_;rintro e w2 ⟨rfl,hw2⟩;rw[hw2];clear hw2 w2 hf;go_wp2;refine bodyPost_ret (results_none rfl _ _ _) rfl ?_;exact⟨rfl,n,rfl⟩
end
theorem pos_rd{bp:Nat}{s:ByteArray}{i:Nat}{vL:Value}{er at' dp:Nat}{w:World}(h:RD bp s i vL er at' dp w):posOf (w.cell? ⟨bp,1,none⟩)=i:=by rw[h.cell.2.1];rfl
theorem pos_set{bp:Nat}{s:ByteArray}{i:Nat}{vL:Value}{er at' dp:Nat}{w:World}(h:RD bp s i vL er at' dp w)(k:Nat):posOf ((w.setCell ⟨bp,1,none⟩ (.int .i64 ((k:Int)+1))).cell? ⟨bp,1,none⟩)=k+1:=pos_rd (h.setI (k+1))
theorem rblanks(bp:Nat)(s:ByteArray)(i:Nat)(vL:Value)(at0 dp:Nat)(w:World)(hs:s.size≤140737488355328)(h:RD bp s i vL 0 at0 dp w):Calls Tryz.prog 25 #[.pointer (some ⟨bp,0,none⟩)] w fun r w'=>r=.returned (.tuple #[])∧RD bp s (i+nb (sfx s i)) vL 0 at0 dp w'∧Onl bp w w':=by
 generalize hE:i+nb (sfx s i)=E;have HE:Hid (i+nb (sfx s i)=E):=hE;clear hE;go_enter Tryz.func25,Tryz.ntmps25;go_wp2_with fail
 go_loopw [2] (fun v wr=>∃k:Nat,k+nb (sfx s k)=E∧RD bp s k vL 0 at0 dp wr∧Onl bp w wr) (fun _ wr=>s.size-posOf (wr.cell? ⟨bp,1,none⟩))
 case atStart=>exact⟨i,HE.out,h,onl_refl bp w⟩
 case round=>
  clear h;obtain⟨k,hE,h,ho⟩:=hrel;have HK:Hid (k+nb (sfx s k)=E):=hE;have HR:Hid (RD bp s k vL 0 at0 dp wr):=h;have HO:Hid (Onl bp w wr):=ho;clear hE h ho HE
  have hr:∀(c:UInt8) (b:Bool),isAt 0 (sfx s k) c=b→∀w',RD bp s k vL 0 at0 dp w'→Calls Tryz.prog 33 #[.pointer (some ⟨bp,0,none⟩),.int .u8 (c.toNat:Int)] w' fun r w''=>r=.returned (.bool b)∧RD bp s k vL 0 at0 dp w''∧Onl bp w' w'':=
   fun c b hb w' h'=>hb▸(ris bp s k vL 0 at0 dp c w' h').mono fun e w'' ⟨he,n,hw⟩=>⟨he,hw▸h'.drewN n,hw▸(onl_refl bp w').drewN n⟩
  by_cases hB:k<s.size∧∃h:k<s.size,isB s[k]=true
  ·obtain⟨hks,_,hB⟩:=hB
   have hh:(sfx s k).head?=some s[k]:=by rw[sfx_cons s k hks];rfl
   have hE2:=HK.out;rw[nb_cons s k hks hB]at hE2;have HE2:Hid (k+(nb (sfx s (k+1))+1)=E):=hE2;have hk2:k≤140737488355328:=by omega
   clear hE2 HK;have hc:s[k]=32∨s[k]=9∨s[k]=10∨s[k]=13:=by simpa [isB,or_assoc]using hB
   clear hB;rcases hc with hc|hc|hc|hc
   ·rw[hc]at hh
    have hr32:∀w',RD bp s k vL 0 at0 dp w'→Calls Tryz.prog 33 #[.pointer (some ⟨bp,0,none⟩),.int .u8 32] w' fun r w''=>r=.returned (.bool true)∧RD bp s k vL 0 at0 dp w''∧Onl bp w' w'':=hr 32 true (isAt_yes hh)
    have hm:posOf (wr.cell? ⟨bp,1,none⟩)=k:=by rw[HR.out.cell.2.1];rfl
    have HM:Hid (posOf (wr.cell? ⟨bp,1,none⟩)=k):=hm;clear hc hh hr hm;go_wp2_with fail
    refine(hr32 _ HR.out).mono ?_;rintro e w1 ⟨rfl,h1,o1⟩;have HR1:Hid (RD bp s k vL 0 at0 dp w1):=h1;have HO1:Hid (Onl bp w w1):=HO.out.trans o1;clear h1 o1 HR HO;obtain⟨c0,c1,c2,c3,c4,c5,cf⟩:=HR1.out.cell;have f1:=cf 1;go_wp2;refine⟨⟨k+1,by have:=HE2.out;omega,HR1.out.setI (k+1),HO1.out.setCell _ HR1.out⟩,?_⟩;rw[HM.out,pos_set HR1.out k];omega
   ·rw[hc]at hh
    have hr32:∀w',RD bp s k vL 0 at0 dp w'→Calls Tryz.prog 33 #[.pointer (some ⟨bp,0,none⟩),.int .u8 32] w' fun r w''=>r=.returned (.bool false)∧RD bp s k vL 0 at0 dp w''∧Onl bp w' w'':=hr 32 false (isAt_no (by rw[hh];decide))
    have hr9:∀w',RD bp s k vL 0 at0 dp w'→Calls Tryz.prog 33 #[.pointer (some ⟨bp,0,none⟩),.int .u8 9] w' fun r w''=>r=.returned (.bool true)∧RD bp s k vL 0 at0 dp w''∧Onl bp w' w'':=hr 9 true (isAt_yes hh)
    have hm:posOf (wr.cell? ⟨bp,1,none⟩)=k:=by rw[HR.out.cell.2.1];rfl
    have HM:Hid (posOf (wr.cell? ⟨bp,1,none⟩)=k):=hm;clear hc hh hr hm;go_wp2_with fail
    refine(hr32 _ HR.out).mono ?_;rintro e w1 ⟨rfl,h1,o1⟩;have HR1:Hid (RD bp s k vL 0 at0 dp w1):=h1;have HO1:Hid (Onl bp w w1):=HO.out.trans o1;clear h1 o1 HR HO;go_wp2_with fail
    refine(hr9 _ HR1.out).mono ?_;rintro e w2 ⟨rfl,h2,o2⟩;have HR2:Hid (RD bp s k vL 0 at0 dp w2):=h2;have HO2:Hid (Onl bp w w2):=HO1.out.trans o2;clear h2 o2 HR1 HO1;obtain⟨c0,c1,c2,c3,c4,c5,cf⟩:=HR2.out.cell;have f1:=cf 1;go_wp2;refine⟨⟨k+1,by have:=HE2.out;omega,HR2.out.setI (k+1),HO2.out.setCell _ HR2.out⟩,?_⟩;rw[HM.out,pos_set HR2.out k];omega
   ·rw[hc]at hh
    have hr32:∀w',RD bp s k vL 0 at0 dp w'→Calls Tryz.prog 33 #[.pointer (some ⟨bp,0,none⟩),.int .u8 32] w' fun r w''=>r=.returned (.bool false)∧RD bp s k vL 0 at0 dp w''∧Onl bp w' w'':=hr 32 false (isAt_no (by rw[hh];decide))
    have hr9:∀w',RD bp s k vL 0 at0 dp w'→Calls Tryz.prog 33 #[.pointer (some ⟨bp,0,none⟩),.int .u8 9] w' fun r w''=>r=.returned (.bool false)∧RD bp s k vL 0 at0 dp w''∧Onl bp w' w'':=hr 9 false (isAt_no (by rw[hh];decide))
    have hr10:∀w',RD bp s k vL 0 at0 dp w'→Calls Tryz.prog 33 #[.pointer (some ⟨bp,0,none⟩),.int .u8 10] w' fun r w''=>r=.returned (.bool true)∧RD bp s k vL 0 at0 dp w''∧Onl bp w' w'':=hr 10 true (isAt_yes hh)
    have hm:posOf (wr.cell? ⟨bp,1,none⟩)=k:=by rw[HR.out.cell.2.1];rfl
    have HM:Hid (posOf (wr.cell? ⟨bp,1,none⟩)=k):=hm;clear hc hh hr hm;go_wp2_with fail
    refine(hr32 _ HR.out).mono ?_;rintro e w1 ⟨rfl,h1,o1⟩;have HR1:Hid (RD bp s k vL 0 at0 dp w1):=h1;have HO1:Hid (Onl bp w w1):=HO.out.trans o1;clear h1 o1 HR HO;go_wp2_with fail
    refine(hr9 _ HR1.out).mono ?_;rintro e w2 ⟨rfl,h2,o2⟩;have HR2:Hid (RD bp s k vL 0 at0 dp w2):=h2;have HO2:Hid (Onl bp w w2):=HO1.out.trans o2;clear h2 o2 HR1 HO1;go_wp2_with fail
    refine(hr10 _ HR2.out).mono ?_;rintro e w3 ⟨rfl,h3,o3⟩;have HR3:Hid (RD bp s k vL 0 at0 dp w3):=h3;have HO3:Hid (Onl bp w w3):=HO2.out.trans o3;clear h3 o3 HR2 HO2;obtain⟨c0,c1,c2,c3,c4,c5,cf⟩:=HR3.out.cell;have f1:=cf 1;go_wp2;refine⟨⟨k+1,by have:=HE2.out;omega,HR3.out.setI (k+1),HO3.out.setCell _ HR3.out⟩,?_⟩;rw[HM.out,pos_set HR3.out k];omega
   ·rw[hc]at hh
    have hr32:∀w',RD bp s k vL 0 at0 dp w'→Calls Tryz.prog 33 #[.pointer (some ⟨bp,0,none⟩),.int .u8 32] w' fun r w''=>r=.returned (.bool false)∧RD bp s k vL 0 at0 dp w''∧Onl bp w' w'':=hr 32 false (isAt_no (by rw[hh];decide))
    have hr9:∀w',RD bp s k vL 0 at0 dp w'→Calls Tryz.prog 33 #[.pointer (some ⟨bp,0,none⟩),.int .u8 9] w' fun r w''=>r=.returned (.bool false)∧RD bp s k vL 0 at0 dp w''∧Onl bp w' w'':=hr 9 false (isAt_no (by rw[hh];decide))
    have hr10:∀w',RD bp s k vL 0 at0 dp w'→Calls Tryz.prog 33 #[.pointer (some ⟨bp,0,none⟩),.int .u8 10] w' fun r w''=>r=.returned (.bool false)∧RD bp s k vL 0 at0 dp w''∧Onl bp w' w'':=hr 10 false (isAt_no (by rw[hh];decide))
    have hr13:∀w',RD bp s k vL 0 at0 dp w'→Calls Tryz.prog 33 #[.pointer (some ⟨bp,0,none⟩),.int .u8 13] w' fun r w''=>r=.returned (.bool true)∧RD bp s k vL 0 at0 dp w''∧Onl bp w' w'':=hr 13 true (isAt_yes hh)
    have hm:posOf (wr.cell? ⟨bp,1,none⟩)=k:=by rw[HR.out.cell.2.1];rfl
    have HM:Hid (posOf (wr.cell? ⟨bp,1,none⟩)=k):=hm;clear hc hh hr hm;go_wp2_with fail
    refine(hr32 _ HR.out).mono ?_;rintro e w1 ⟨rfl,h1,o1⟩;have HR1:Hid (RD bp s k vL 0 at0 dp w1):=h1;have HO1:Hid (Onl bp w w1):=HO.out.trans o1;clear h1 o1 HR HO;go_wp2_with fail
    refine(hr9 _ HR1.out).mono ?_;rintro e w2 ⟨rfl,h2,o2⟩;have HR2:Hid (RD bp s k vL 0 at0 dp w2):=h2;have HO2:Hid (Onl bp w w2):=HO1.out.trans o2;clear h2 o2 HR1 HO1;go_wp2_with fail
    refine(hr10 _ HR2.out).mono ?_;rintro e w3 ⟨rfl,h3,o3⟩;have HR3:Hid (RD bp s k vL 0 at0 dp w3):=h3;have HO3:Hid (Onl bp w w3):=HO2.out.trans o3;clear h3 o3 HR2 HO2;go_wp2_with fail
    refine(hr13 _ HR3.out).mono ?_;rintro e w4 ⟨rfl,h4,o4⟩;have HR4:Hid (RD bp s k vL 0 at0 dp w4):=h4;have HO4:Hid (Onl bp w w4):=HO3.out.trans o4;clear h4 o4 HR3 HO3;obtain⟨c0,c1,c2,c3,c4,c5,cf⟩:=HR4.out.cell;have f1:=cf 1;go_wp2;refine⟨⟨k+1,by have:=HE2.out;omega,HR4.out.setI (k+1),HO4.out.setCell _ HR4.out⟩,?_⟩;rw[HM.out,pos_set HR4.out k];omega
  ·have hn:∀c,(sfx s k).head?=some c→isB c=false:=by
    intro c hc;have hks:=head_lt hc;rw[sfx_cons s k hks]at hc;have hc:s[k]=c:=by simpa using hc
    cases hb:isB c
    ·rfl
    ·exact absurd ⟨hks,hks,by rw[hc];exact hb⟩ hB
   have hz:=nb_zero s k hn;have hr32:∀w',RD bp s k vL 0 at0 dp w'→Calls Tryz.prog 33 #[.pointer (some ⟨bp,0,none⟩),.int .u8 32] w' fun r w''=>r=.returned (.bool false)∧RD bp s k vL 0 at0 dp w''∧Onl bp w' w'':=hr 32 false (isAt_no (fun h=>by have:=hn _ h;simp[isB]at this))
   have hr9:∀w',RD bp s k vL 0 at0 dp w'→Calls Tryz.prog 33 #[.pointer (some ⟨bp,0,none⟩),.int .u8 9] w' fun r w''=>r=.returned (.bool false)∧RD bp s k vL 0 at0 dp w''∧Onl bp w' w'':=hr 9 false (isAt_no (fun h=>by have:=hn _ h;simp[isB]at this))
   have hr10:∀w',RD bp s k vL 0 at0 dp w'→Calls Tryz.prog 33 #[.pointer (some ⟨bp,0,none⟩),.int .u8 10] w' fun r w''=>r=.returned (.bool false)∧RD bp s k vL 0 at0 dp w''∧Onl bp w' w'':=hr 10 false (isAt_no (fun h=>by have:=hn _ h;simp[isB]at this))
   have hr13:∀w',RD bp s k vL 0 at0 dp w'→Calls Tryz.prog 33 #[.pointer (some ⟨bp,0,none⟩),.int .u8 13] w' fun r w''=>r=.returned (.bool false)∧RD bp s k vL 0 at0 dp w''∧Onl bp w' w'':=hr 13 false (isAt_no (fun h=>by have:=hn _ h;simp[isB]at this))
   have HZ:Hid (nb (sfx s k)=0):=hz;clear hz hn hB hr;go_wp2_with fail
   refine(hr32 _ HR.out).mono ?_;rintro e w1 ⟨rfl,h1,o1⟩;have HR1:Hid (RD bp s k vL 0 at0 dp w1):=h1;have HO1:Hid (Onl bp w w1):=HO.out.trans o1;clear h1 o1 HR HO;go_wp2_with fail
   refine(hr9 _ HR1.out).mono ?_;rintro e w2 ⟨rfl,h2,o2⟩;have HR2:Hid (RD bp s k vL 0 at0 dp w2):=h2;have HO2:Hid (Onl bp w w2):=HO1.out.trans o2;clear h2 o2 HR1 HO1;go_wp2_with fail
   refine(hr10 _ HR2.out).mono ?_;rintro e w3 ⟨rfl,h3,o3⟩;have HR3:Hid (RD bp s k vL 0 at0 dp w3):=h3;have HO3:Hid (Onl bp w w3):=HO2.out.trans o3;clear h3 o3 HR2 HO2;go_wp2_with fail
   refine(hr13 _ HR3.out).mono ?_;rintro e w4 ⟨rfl,h4,o4⟩;have HR4:Hid (RD bp s k vL 0 at0 dp w4):=h4;have HO4:Hid (Onl bp w w4):=HO3.out.trans o4;clear h4 o4 HR3 HO3;go_wp2;go_end0
   have hE:k=E:=by have:=HK.out;rw[HZ.out]at this;omega
   subst hE;exact⟨rfl,HR4.out,HO4.out⟩
theorem rblanks_er(bp:Nat)(s:ByteArray)(i:Nat)(vL:Value)(er at0 dp:Nat)(w:World)(h:RD bp s i vL er at0 dp w)(he:0<er):Calls Tryz.prog 25 #[.pointer (some ⟨bp,0,none⟩)] w fun r w'=>r=.returned (.tuple #[])∧RD bp s i vL er at0 dp w'∧Onl bp w w':=by
 have hr:∀(c:UInt8),∀w',RD bp s i vL er at0 dp w'→Calls Tryz.prog 33 #[.pointer (some ⟨bp,0,none⟩),.int .u8 (c.toNat:Int)] w' fun r w''=>r=.returned (.bool false)∧RD bp s i vL er at0 dp w''∧Onl bp w' w'':=
  fun c w' h'=>(ris bp s i vL er at0 dp c w' h').mono fun e w'' ⟨he2,n,hw⟩=>⟨by rw[he2,isAt_er he],hw▸h'.drewN n,hw▸(onl_refl bp w').drewN n⟩
 have hr32:∀w',RD bp s i vL er at0 dp w'→Calls Tryz.prog 33 #[.pointer (some ⟨bp,0,none⟩),.int .u8 32] w' fun r w''=>r=.returned (.bool false)∧RD bp s i vL er at0 dp w''∧Onl bp w' w'':=hr 32
 have hr9:∀w',RD bp s i vL er at0 dp w'→Calls Tryz.prog 33 #[.pointer (some ⟨bp,0,none⟩),.int .u8 9] w' fun r w''=>r=.returned (.bool false)∧RD bp s i vL er at0 dp w''∧Onl bp w' w'':=hr 9
 have hr10:∀w',RD bp s i vL er at0 dp w'→Calls Tryz.prog 33 #[.pointer (some ⟨bp,0,none⟩),.int .u8 10] w' fun r w''=>r=.returned (.bool false)∧RD bp s i vL er at0 dp w''∧Onl bp w' w'':=hr 10
 have hr13:∀w',RD bp s i vL er at0 dp w'→Calls Tryz.prog 33 #[.pointer (some ⟨bp,0,none⟩),.int .u8 13] w' fun r w''=>r=.returned (.bool false)∧RD bp s i vL er at0 dp w''∧Onl bp w' w'':=hr 13
 have HR:Hid (RD bp s i vL er at0 dp w):=h;have HO:Hid (Onl bp w w):=onl_refl bp w;clear hr h he;go_enter Tryz.func25,Tryz.ntmps25;go_wp2_with fail
 refine wp_loop_once ?_;go_wp2_with fail
 refine(hr32 _ HR.out).mono ?_;rintro e w1 ⟨rfl,h1,o1⟩;have HR1:Hid (RD bp s i vL er at0 dp w1):=h1;have HO1:Hid (Onl bp w w1):=HO.out.trans o1;clear h1 o1 HR HO;go_wp2_with fail
 refine(hr9 _ HR1.out).mono ?_;rintro e w2 ⟨rfl,h2,o2⟩;have HR2:Hid (RD bp s i vL er at0 dp w2):=h2;have HO2:Hid (Onl bp w w2):=HO1.out.trans o2;clear h2 o2 HR1 HO1;go_wp2_with fail
 refine(hr10 _ HR2.out).mono ?_;rintro e w3 ⟨rfl,h3,o3⟩;have HR3:Hid (RD bp s i vL er at0 dp w3):=h3;have HO3:Hid (Onl bp w w3):=HO2.out.trans o3;clear h3 o3 HR2 HO2;go_wp2_with fail
 refine(hr13 _ HR3.out).mono ?_;rintro e w4 ⟨rfl,h4,o4⟩;have HR4:Hid (RD bp s i vL er at0 dp w4):=h4;have HO4:Hid (Onl bp w w4):=HO3.out.trans o4;clear h4 o4 HR3 HO3;go_wp2;go_end0
 exact⟨rfl,HR4.out,HO4.out⟩
section
variable (bp:Nat) (s:ByteArray) (i:Nat) (vL:Value) (at0 dp:Nat) (w:World)
theorem rpair_plain(n:Int)(m a:Nat)(hm:n=(m:Int))(hn:n<55296∨57343<n)(hn2:m<65536)(h:RD bp s i vL 0 at0 dp w):Calls Tryz.prog 56 #[.pointer (some ⟨bp,0,none⟩),.int .i64 n,.int .i64 (a:Int)] w fun r w'=>r=.returned (.string ⟨(wr8 m).toArray⟩)∧RD bp s i vL 0 at0 dp w'∧Onl bp w w':=by
 have hw:=rwritten m w (by omega);rw[←hm]at hw;generalize (⟨(wr8 m).toArray⟩:ByteArray)=T at hw;clear hm hn2;rcases hn with hn|hn
 ·go_enter Tryz.func56,Tryz.ntmps56
  go_wp2_with fail
  refine hw.mono ?_;rintro e w1 ⟨rfl,hb⟩;have HB:Hid _:=hb;clear hb hw;go_wp2;go_ret;exact⟨rfl,by unfold RD;rw[HB.out.block _ h.lt];exact h,onl_below HB.out⟩
 ·have hf:decide (n<55296)=false:=by simp;omega
  go_enter Tryz.func56,Tryz.ntmps56;go_wp2_with fail
  refine hw.mono ?_;rintro e w1 ⟨rfl,hb⟩;have HB:Hid _:=hb;clear hb hw;go_wp2;go_ret;exact⟨rfl,by unfold RD;rw[HB.out.block _ h.lt];exact h,onl_below HB.out⟩
theorem rpair_two(n:Int)(a:Nat)(m2 T:Nat)(hn:55296≤n)(hn2:n<56320)(hl:lowL (sfx s i)=some m2)(hT:65536+1024*(n-55296)+(m2:Int)-56320=(T:Int))(hT2:T<1114112)(h:RD bp s i vL 0 at0 dp w)(hi:i≤140737488350000):Calls Tryz.prog 56 #[.pointer (some ⟨bp,0,none⟩),.int .i64 n,.int .i64 (a:Int)] w fun r w'=>r=.returned (.string ⟨(wr8 T).toArray⟩)∧RD bp s (i+6) vL 0 at0 dp w'∧Onl bp w w':=by
 have hm2:(m2:Int)≤57343:=by have:=lowL_bound hl;omega
 have hf1:decide (n<55296)=false:=by simp;omega
 have hf2:decide (57343<n)=false:=by simp;omega
 have hf3:decide (56320≤n)=false:=by simp;omega
 have hf4:decide ((m2:Int)<0)=false:=by simp
 have hlo:=fun w=>rlow s i w (by omega)
 rw[hl,optI_some]at hlo;have hwr:=fun w=>rwritten T w hT2
 rw[←hT]at hwr;generalize (⟨(wr8 T).toArray⟩:ByteArray)=T8 at hwr;obtain⟨c0,c1,c2,c3,c4,c5,cf⟩:=h.cell;clear hl hT hT2;go_enter Tryz.func56,Tryz.ntmps56;go_wp2_with fail
 go_quiet ((go_at_call 70;exact Calls.quiet_of_same (hlo _)));have h1:=h.drewN nq;have o1:Onl bp w (w.drewN nq):=(onl_refl bp w).drewN nq;generalize w.drewN nq=w1 at h1 o1;have HO1:Hid (Onl bp w w1):=o1;clear o1 c0 c1 c2 c3 c4 c5 cf;obtain⟨c0,c1,c2,c3,c4,c5,cf⟩:=h1.cell;have f1:=cf 1;go_wp2_with fail
 refine(hwr _).mono ?_;rintro e w2 ⟨rfl,hb⟩;have h2:=h1.setI (i+6);have HO2:Hid (Onl bp w w2):=(HO1.out.setCell _ h1).trans (onl_below hb);have H2:Hid (RD bp s (i+6) vL 0 at0 dp w2):=by unfold RD;rw[hb.block _ h2.lt];exact h2
 clear hb h2 hwr hlo;go_wp2;go_ret;exact⟨rfl,H2.out,HO2.out⟩
theorem rpair_er(n:Int)(a:Nat)(hn:55296≤n)(hn2:n≤57343)(hl:lowL (sfx s i)=none∨56320≤n)(h:RD bp s i vL 0 at0 dp w)(hi:i≤140737488350000):Calls Tryz.prog 56 #[.pointer (some ⟨bp,0,none⟩),.int .i64 n,.int .i64 (a:Int)] w fun r w'=>r=.returned (.string ⟨#[]⟩)∧RD bp s i vL 2 a dp w'∧Onl bp w w':=by
 have hf1:decide (n<55296)=false:=by simp;omega
 have hf2:decide (57343<n)=false:=by simp;omega
 have hlo:=fun w=>rlow s i w (by omega)
 have hq:(∃x:Int,optI (lowL (sfx s i))=x∧56320≤n)∨(optI (lowL (sfx s i))= -1∧n<56320):=by
  by_cases h5:56320≤n
  ·left;exact⟨_,rfl,h5⟩
  ·right;rcases hl with hl|hl
   ·exact⟨by rw[hl];rfl,by omega⟩
   ·exact absurd hl h5
 clear hl;obtain⟨c0,c1,c2,c3,c4,c5,cf⟩:=h.cell;rcases hq with⟨x,hx,h5⟩|⟨hx,h5⟩
 all_goals
  rw[hx]at hlo;clear hx;go_enter Tryz.func56,Tryz.ntmps56;go_wp2_with fail
  go_quiet ((go_at_call 70;exact Calls.quiet_of_same (hlo _)));have h1:=h.drewN nq;have o1:Onl bp w (w.drewN nq):=(onl_refl bp w).drewN nq;generalize w.drewN nq=w1 at h1 o1;have hfa:=rfail0 bp s i vL at0 dp 2 a w1 h1;have HO1:Hid (Onl bp w w1):=o1;clear o1 c0 c1 c2 c3 c4 c5 cf hlo;go_wp2_with fail
  refine hfa.mono ?_;rintro e w2 ⟨rfl,h2,o2⟩;have HO2:Hid (Onl bp w w2):=HO1.out.trans o2;have H2:Hid (RD bp s i vL 2 a dp w2):=h2;clear h2 o2 hfa;go_wp2;go_ret;exact⟨rfl,H2.out,HO2.out⟩
end
section
variable (bp:Nat) (s:ByteArray) (i:Nat) (vL:Value) (at0 dp:Nat) (w:World)
attribute [local go_sem] conv1
theorem resc_34(hs:s.size≤140737488351232)(h:RD bp s i vL 0 at0 dp w)(hi1:i+1<s.size)(hc:s[i+1]=34):Calls Tryz.prog 46 #[.pointer (some ⟨bp,0,none⟩)] w fun r w'=>r=.returned (.string ⟨#[34]⟩)∧RD bp s (i+2) vL 0 at0 dp w'∧Onl bp w w':=by
 have d34:((s[i+1].toNat:Int)==34)=true:=by rw[hc];rfl
 have hi:i<s.size:=by omega
 have hi1':(i:Int)+1<(s.size:Int):=by omega
 have hi1f:decide ((s.size:Int)≤(i:Int)+1)=false:=by simp;omega
 obtain⟨c0,c1,c2,c3,c4,c5,cf⟩:=h.cell;have f1:=cf 1;go_enter Tryz.func46,Tryz.ntmps46;go_wp2_with fail
 have h1:RD bp s (i+1) vL 0 at0 dp (w.setCell ⟨bp,1,none⟩ (.int .i64 ((i:Int)+1))):=h.setI (i+1);have o1:Onl bp w (w.setCell ⟨bp,1,none⟩ (.int .i64 ((i:Int)+1))):=(onl_refl bp w).setCell _ h;generalize w.setCell ⟨bp,1,none⟩ (.int .i64 ((i:Int)+1))=w1 at h1 o1;clear c0 c1 c2 c3 c4 c5 cf f1;obtain⟨c0,c1,c2,c3,c4,c5,cf⟩:=h1.cell;rw[show((i+1:Nat):Int)=(i:Int)+1 from rfl]at c1;go_quiet (fail);have h2:=h1.drewN nq;have o2:=o1.drewN nq;generalize w1.drewN nq=w2 at h2 o2;clear c0 c1 c2 c3 c4 c5 cf h1 o1 nq w1;obtain⟨c0,c1,c2,c3,c4,c5,cf⟩:=h2.cell;have f1:=cf 1;rw[show((i+1:Nat):Int)=(i:Int)+1 from rfl]at c1;go_wp2_with fail
 go_quiet (fail);have h3:=h2.drewN nq;have o3:=o2.drewN nq;generalize w2.drewN nq=w3 at h3 o3;clear c0 c1 c2 c3 c4 c5 cf f1 h2 o2 nq w2;obtain⟨c0,c1,c2,c3,c4,c5,cf⟩:=h3.cell;have f1:=cf 1;rw[show((i+1:Nat):Int)=(i:Int)+1 from rfl]at c1;have hcv:Sem.run Tryz.prog (convert 87 9 (.slice (some ⟨w3.heap.size,0,none⟩) 1 1)) ((w3.setCell ⟨bp,1,none⟩ (.int .i64 ((i:Int)+1+1))).alloc (.cells #[.int .u8 34] 5))=.ok (.string ⟨#[34]⟩) ((w3.setCell ⟨bp,1,none⟩ (.int .i64 ((i:Int)+1+1))).alloc (.cells #[.int .u8 34] 5)):=by
  have e:(w3.setCell ⟨bp,1,none⟩ (.int .i64 ((i:Int)+1+1))).heap.size=w3.heap.size:=by simp
  have hq:=conv1 (w3.setCell ⟨bp,1,none⟩ (.int .i64 ((i:Int)+1+1))) 34;rw[e]at hq;exact hq
 go_wp2;go_ret;exact⟨rfl,(h3.setI (i+2)).alloc _,(Onl.setCell o3 _ h3).alloc _⟩
theorem resc_92(hs:s.size≤140737488351232)(h:RD bp s i vL 0 at0 dp w)(hi1:i+1<s.size)(hc:s[i+1]=92):Calls Tryz.prog 46 #[.pointer (some ⟨bp,0,none⟩)] w fun r w'=>r=.returned (.string ⟨#[92]⟩)∧RD bp s (i+2) vL 0 at0 dp w'∧Onl bp w w':=by
 have d34:((s[i+1].toNat:Int)==34)=false:=by rw[hc];rfl
 have d92:((s[i+1].toNat:Int)==92)=true:=by rw[hc];rfl
 have hi:i<s.size:=by omega
 have hi1':(i:Int)+1<(s.size:Int):=by omega
 have hi1f:decide ((s.size:Int)≤(i:Int)+1)=false:=by simp;omega
 obtain⟨c0,c1,c2,c3,c4,c5,cf⟩:=h.cell;have f1:=cf 1;go_enter Tryz.func46,Tryz.ntmps46;go_wp2_with fail
 have h1:RD bp s (i+1) vL 0 at0 dp (w.setCell ⟨bp,1,none⟩ (.int .i64 ((i:Int)+1))):=h.setI (i+1);have o1:Onl bp w (w.setCell ⟨bp,1,none⟩ (.int .i64 ((i:Int)+1))):=(onl_refl bp w).setCell _ h;generalize w.setCell ⟨bp,1,none⟩ (.int .i64 ((i:Int)+1))=w1 at h1 o1;clear c0 c1 c2 c3 c4 c5 cf f1;obtain⟨c0,c1,c2,c3,c4,c5,cf⟩:=h1.cell;rw[show((i+1:Nat):Int)=(i:Int)+1 from rfl]at c1;go_quiet (fail);have h2:=h1.drewN nq;have o2:=o1.drewN nq;generalize w1.drewN nq=w2 at h2 o2;clear c0 c1 c2 c3 c4 c5 cf h1 o1 nq w1;obtain⟨c0,c1,c2,c3,c4,c5,cf⟩:=h2.cell;have f1:=cf 1;rw[show((i+1:Nat):Int)=(i:Int)+1 from rfl]at c1;go_wp2_with fail
 go_quiet (fail);have h3:=h2.drewN nq;have o3:=o2.drewN nq;generalize w2.drewN nq=w3 at h3 o3;clear c0 c1 c2 c3 c4 c5 cf f1 h2 o2 nq w2;obtain⟨c0,c1,c2,c3,c4,c5,cf⟩:=h3.cell;have f1:=cf 1;rw[show((i+1:Nat):Int)=(i:Int)+1 from rfl]at c1;have hcv:Sem.run Tryz.prog (convert 87 9 (.slice (some ⟨w3.heap.size,0,none⟩) 1 1)) ((w3.setCell ⟨bp,1,none⟩ (.int .i64 ((i:Int)+1+1))).alloc (.cells #[.int .u8 92] 5))=.ok (.string ⟨#[92]⟩) ((w3.setCell ⟨bp,1,none⟩ (.int .i64 ((i:Int)+1+1))).alloc (.cells #[.int .u8 92] 5)):=by
  have e:(w3.setCell ⟨bp,1,none⟩ (.int .i64 ((i:Int)+1+1))).heap.size=w3.heap.size:=by simp
  have hq:=conv1 (w3.setCell ⟨bp,1,none⟩ (.int .i64 ((i:Int)+1+1))) 92;rw[e]at hq;exact hq
 go_wp2;go_ret;exact⟨rfl,(h3.setI (i+2)).alloc _,(Onl.setCell o3 _ h3).alloc _⟩
theorem resc_47(hs:s.size≤140737488351232)(h:RD bp s i vL 0 at0 dp w)(hi1:i+1<s.size)(hc:s[i+1]=47):Calls Tryz.prog 46 #[.pointer (some ⟨bp,0,none⟩)] w fun r w'=>r=.returned (.string ⟨#[47]⟩)∧RD bp s (i+2) vL 0 at0 dp w'∧Onl bp w w':=by
 have d34:((s[i+1].toNat:Int)==34)=false:=by rw[hc];rfl
 have d92:((s[i+1].toNat:Int)==92)=false:=by rw[hc];rfl
 have d47:((s[i+1].toNat:Int)==47)=true:=by rw[hc];rfl
 have hi:i<s.size:=by omega
 have hi1':(i:Int)+1<(s.size:Int):=by omega
 have hi1f:decide ((s.size:Int)≤(i:Int)+1)=false:=by simp;omega
 obtain⟨c0,c1,c2,c3,c4,c5,cf⟩:=h.cell;have f1:=cf 1;go_enter Tryz.func46,Tryz.ntmps46;go_wp2_with fail
 have h1:RD bp s (i+1) vL 0 at0 dp (w.setCell ⟨bp,1,none⟩ (.int .i64 ((i:Int)+1))):=h.setI (i+1);have o1:Onl bp w (w.setCell ⟨bp,1,none⟩ (.int .i64 ((i:Int)+1))):=(onl_refl bp w).setCell _ h;generalize w.setCell ⟨bp,1,none⟩ (.int .i64 ((i:Int)+1))=w1 at h1 o1;clear c0 c1 c2 c3 c4 c5 cf f1;obtain⟨c0,c1,c2,c3,c4,c5,cf⟩:=h1.cell;rw[show((i+1:Nat):Int)=(i:Int)+1 from rfl]at c1;go_quiet (fail);have h2:=h1.drewN nq;have o2:=o1.drewN nq;generalize w1.drewN nq=w2 at h2 o2;clear c0 c1 c2 c3 c4 c5 cf h1 o1 nq w1;obtain⟨c0,c1,c2,c3,c4,c5,cf⟩:=h2.cell;have f1:=cf 1;rw[show((i+1:Nat):Int)=(i:Int)+1 from rfl]at c1;go_wp2_with fail
 go_quiet (fail);have h3:=h2.drewN nq;have o3:=o2.drewN nq;generalize w2.drewN nq=w3 at h3 o3;clear c0 c1 c2 c3 c4 c5 cf f1 h2 o2 nq w2;obtain⟨c0,c1,c2,c3,c4,c5,cf⟩:=h3.cell;have f1:=cf 1;rw[show((i+1:Nat):Int)=(i:Int)+1 from rfl]at c1;have hcv:Sem.run Tryz.prog (convert 87 9 (.slice (some ⟨w3.heap.size,0,none⟩) 1 1)) ((w3.setCell ⟨bp,1,none⟩ (.int .i64 ((i:Int)+1+1))).alloc (.cells #[.int .u8 47] 5))=.ok (.string ⟨#[47]⟩) ((w3.setCell ⟨bp,1,none⟩ (.int .i64 ((i:Int)+1+1))).alloc (.cells #[.int .u8 47] 5)):=by
  have e:(w3.setCell ⟨bp,1,none⟩ (.int .i64 ((i:Int)+1+1))).heap.size=w3.heap.size:=by simp
  have hq:=conv1 (w3.setCell ⟨bp,1,none⟩ (.int .i64 ((i:Int)+1+1))) 47;rw[e]at hq;exact hq
 go_wp2;go_ret;exact⟨rfl,(h3.setI (i+2)).alloc _,(Onl.setCell o3 _ h3).alloc _⟩
theorem resc_98(hs:s.size≤140737488351232)(h:RD bp s i vL 0 at0 dp w)(hi1:i+1<s.size)(hc:s[i+1]=98):Calls Tryz.prog 46 #[.pointer (some ⟨bp,0,none⟩)] w fun r w'=>r=.returned (.string ⟨#[8]⟩)∧RD bp s (i+2) vL 0 at0 dp w'∧Onl bp w w':=by
 have d34:((s[i+1].toNat:Int)==34)=false:=by rw[hc];rfl
 have d92:((s[i+1].toNat:Int)==92)=false:=by rw[hc];rfl
 have d47:((s[i+1].toNat:Int)==47)=false:=by rw[hc];rfl
 have d98:((s[i+1].toNat:Int)==98)=true:=by rw[hc];rfl
 have hi:i<s.size:=by omega
 have hi1':(i:Int)+1<(s.size:Int):=by omega
 have hi1f:decide ((s.size:Int)≤(i:Int)+1)=false:=by simp;omega
 obtain⟨c0,c1,c2,c3,c4,c5,cf⟩:=h.cell;have f1:=cf 1;go_enter Tryz.func46,Tryz.ntmps46;go_wp2_with fail
 have h1:RD bp s (i+1) vL 0 at0 dp (w.setCell ⟨bp,1,none⟩ (.int .i64 ((i:Int)+1))):=h.setI (i+1);have o1:Onl bp w (w.setCell ⟨bp,1,none⟩ (.int .i64 ((i:Int)+1))):=(onl_refl bp w).setCell _ h;generalize w.setCell ⟨bp,1,none⟩ (.int .i64 ((i:Int)+1))=w1 at h1 o1;clear c0 c1 c2 c3 c4 c5 cf f1;obtain⟨c0,c1,c2,c3,c4,c5,cf⟩:=h1.cell;rw[show((i+1:Nat):Int)=(i:Int)+1 from rfl]at c1;go_quiet (fail);have h2:=h1.drewN nq;have o2:=o1.drewN nq;generalize w1.drewN nq=w2 at h2 o2;clear c0 c1 c2 c3 c4 c5 cf h1 o1 nq w1;obtain⟨c0,c1,c2,c3,c4,c5,cf⟩:=h2.cell;have f1:=cf 1;rw[show((i+1:Nat):Int)=(i:Int)+1 from rfl]at c1;go_wp2_with fail
 go_quiet (fail);have h3:=h2.drewN nq;have o3:=o2.drewN nq;generalize w2.drewN nq=w3 at h3 o3;clear c0 c1 c2 c3 c4 c5 cf f1 h2 o2 nq w2;obtain⟨c0,c1,c2,c3,c4,c5,cf⟩:=h3.cell;have f1:=cf 1;rw[show((i+1:Nat):Int)=(i:Int)+1 from rfl]at c1;go_wp2;go_ret;exact⟨rfl,h3.setI (i+2),Onl.setCell o3 _ h3⟩
theorem resc_102(hs:s.size≤140737488351232)(h:RD bp s i vL 0 at0 dp w)(hi1:i+1<s.size)(hc:s[i+1]=102):Calls Tryz.prog 46 #[.pointer (some ⟨bp,0,none⟩)] w fun r w'=>r=.returned (.string ⟨#[12]⟩)∧RD bp s (i+2) vL 0 at0 dp w'∧Onl bp w w':=by
 have d34:((s[i+1].toNat:Int)==34)=false:=by rw[hc];rfl
 have d92:((s[i+1].toNat:Int)==92)=false:=by rw[hc];rfl
 have d47:((s[i+1].toNat:Int)==47)=false:=by rw[hc];rfl
 have d98:((s[i+1].toNat:Int)==98)=false:=by rw[hc];rfl
 have d102:((s[i+1].toNat:Int)==102)=true:=by rw[hc];rfl
 have hi:i<s.size:=by omega
 have hi1':(i:Int)+1<(s.size:Int):=by omega
 have hi1f:decide ((s.size:Int)≤(i:Int)+1)=false:=by simp;omega
 obtain⟨c0,c1,c2,c3,c4,c5,cf⟩:=h.cell;have f1:=cf 1;go_enter Tryz.func46,Tryz.ntmps46;go_wp2_with fail
 have h1:RD bp s (i+1) vL 0 at0 dp (w.setCell ⟨bp,1,none⟩ (.int .i64 ((i:Int)+1))):=h.setI (i+1);have o1:Onl bp w (w.setCell ⟨bp,1,none⟩ (.int .i64 ((i:Int)+1))):=(onl_refl bp w).setCell _ h;generalize w.setCell ⟨bp,1,none⟩ (.int .i64 ((i:Int)+1))=w1 at h1 o1;clear c0 c1 c2 c3 c4 c5 cf f1;obtain⟨c0,c1,c2,c3,c4,c5,cf⟩:=h1.cell;rw[show((i+1:Nat):Int)=(i:Int)+1 from rfl]at c1;go_quiet (fail);have h2:=h1.drewN nq;have o2:=o1.drewN nq;generalize w1.drewN nq=w2 at h2 o2;clear c0 c1 c2 c3 c4 c5 cf h1 o1 nq w1;obtain⟨c0,c1,c2,c3,c4,c5,cf⟩:=h2.cell;have f1:=cf 1;rw[show((i+1:Nat):Int)=(i:Int)+1 from rfl]at c1;go_wp2_with fail
 go_quiet (fail);have h3:=h2.drewN nq;have o3:=o2.drewN nq;generalize w2.drewN nq=w3 at h3 o3;clear c0 c1 c2 c3 c4 c5 cf f1 h2 o2 nq w2;obtain⟨c0,c1,c2,c3,c4,c5,cf⟩:=h3.cell;have f1:=cf 1;rw[show((i+1:Nat):Int)=(i:Int)+1 from rfl]at c1;go_wp2;go_ret;exact⟨rfl,h3.setI (i+2),Onl.setCell o3 _ h3⟩
theorem resc_110(hs:s.size≤140737488351232)(h:RD bp s i vL 0 at0 dp w)(hi1:i+1<s.size)(hc:s[i+1]=110):Calls Tryz.prog 46 #[.pointer (some ⟨bp,0,none⟩)] w fun r w'=>r=.returned (.string ⟨#[10]⟩)∧RD bp s (i+2) vL 0 at0 dp w'∧Onl bp w w':=by
 have d34:((s[i+1].toNat:Int)==34)=false:=by rw[hc];rfl
 have d92:((s[i+1].toNat:Int)==92)=false:=by rw[hc];rfl
 have d47:((s[i+1].toNat:Int)==47)=false:=by rw[hc];rfl
 have d98:((s[i+1].toNat:Int)==98)=false:=by rw[hc];rfl
 have d102:((s[i+1].toNat:Int)==102)=false:=by rw[hc];rfl
 have d110:((s[i+1].toNat:Int)==110)=true:=by rw[hc];rfl
 have hi:i<s.size:=by omega
 have hi1':(i:Int)+1<(s.size:Int):=by omega
 have hi1f:decide ((s.size:Int)≤(i:Int)+1)=false:=by simp;omega
 obtain⟨c0,c1,c2,c3,c4,c5,cf⟩:=h.cell;have f1:=cf 1;go_enter Tryz.func46,Tryz.ntmps46;go_wp2_with fail
 have h1:RD bp s (i+1) vL 0 at0 dp (w.setCell ⟨bp,1,none⟩ (.int .i64 ((i:Int)+1))):=h.setI (i+1);have o1:Onl bp w (w.setCell ⟨bp,1,none⟩ (.int .i64 ((i:Int)+1))):=(onl_refl bp w).setCell _ h;generalize w.setCell ⟨bp,1,none⟩ (.int .i64 ((i:Int)+1))=w1 at h1 o1;clear c0 c1 c2 c3 c4 c5 cf f1;obtain⟨c0,c1,c2,c3,c4,c5,cf⟩:=h1.cell;rw[show((i+1:Nat):Int)=(i:Int)+1 from rfl]at c1;go_quiet (fail);have h2:=h1.drewN nq;have o2:=o1.drewN nq;generalize w1.drewN nq=w2 at h2 o2;clear c0 c1 c2 c3 c4 c5 cf h1 o1 nq w1;obtain⟨c0,c1,c2,c3,c4,c5,cf⟩:=h2.cell;have f1:=cf 1;rw[show((i+1:Nat):Int)=(i:Int)+1 from rfl]at c1;go_wp2_with fail
 go_quiet (fail);have h3:=h2.drewN nq;have o3:=o2.drewN nq;generalize w2.drewN nq=w3 at h3 o3;clear c0 c1 c2 c3 c4 c5 cf f1 h2 o2 nq w2;obtain⟨c0,c1,c2,c3,c4,c5,cf⟩:=h3.cell;have f1:=cf 1;rw[show((i+1:Nat):Int)=(i:Int)+1 from rfl]at c1;go_wp2;go_ret;exact⟨rfl,h3.setI (i+2),Onl.setCell o3 _ h3⟩
theorem resc_114(hs:s.size≤140737488351232)(h:RD bp s i vL 0 at0 dp w)(hi1:i+1<s.size)(hc:s[i+1]=114):Calls Tryz.prog 46 #[.pointer (some ⟨bp,0,none⟩)] w fun r w'=>r=.returned (.string ⟨#[13]⟩)∧RD bp s (i+2) vL 0 at0 dp w'∧Onl bp w w':=by
 have d34:((s[i+1].toNat:Int)==34)=false:=by rw[hc];rfl
 have d92:((s[i+1].toNat:Int)==92)=false:=by rw[hc];rfl
 have d47:((s[i+1].toNat:Int)==47)=false:=by rw[hc];rfl
 have d98:((s[i+1].toNat:Int)==98)=false:=by rw[hc];rfl
 have d102:((s[i+1].toNat:Int)==102)=false:=by rw[hc];rfl
 have d110:((s[i+1].toNat:Int)==110)=false:=by rw[hc];rfl
 have d114:((s[i+1].toNat:Int)==114)=true:=by rw[hc];rfl
 have hi:i<s.size:=by omega
 have hi1':(i:Int)+1<(s.size:Int):=by omega
 have hi1f:decide ((s.size:Int)≤(i:Int)+1)=false:=by simp;omega
 obtain⟨c0,c1,c2,c3,c4,c5,cf⟩:=h.cell;have f1:=cf 1;go_enter Tryz.func46,Tryz.ntmps46;go_wp2_with fail
 have h1:RD bp s (i+1) vL 0 at0 dp (w.setCell ⟨bp,1,none⟩ (.int .i64 ((i:Int)+1))):=h.setI (i+1);have o1:Onl bp w (w.setCell ⟨bp,1,none⟩ (.int .i64 ((i:Int)+1))):=(onl_refl bp w).setCell _ h;generalize w.setCell ⟨bp,1,none⟩ (.int .i64 ((i:Int)+1))=w1 at h1 o1;clear c0 c1 c2 c3 c4 c5 cf f1;obtain⟨c0,c1,c2,c3,c4,c5,cf⟩:=h1.cell;rw[show((i+1:Nat):Int)=(i:Int)+1 from rfl]at c1;go_quiet (fail);have h2:=h1.drewN nq;have o2:=o1.drewN nq;generalize w1.drewN nq=w2 at h2 o2;clear c0 c1 c2 c3 c4 c5 cf h1 o1 nq w1;obtain⟨c0,c1,c2,c3,c4,c5,cf⟩:=h2.cell;have f1:=cf 1;rw[show((i+1:Nat):Int)=(i:Int)+1 from rfl]at c1;go_wp2_with fail
 go_quiet (fail);have h3:=h2.drewN nq;have o3:=o2.drewN nq;generalize w2.drewN nq=w3 at h3 o3;clear c0 c1 c2 c3 c4 c5 cf f1 h2 o2 nq w2;obtain⟨c0,c1,c2,c3,c4,c5,cf⟩:=h3.cell;have f1:=cf 1;rw[show((i+1:Nat):Int)=(i:Int)+1 from rfl]at c1;go_wp2;go_ret;exact⟨rfl,h3.setI (i+2),Onl.setCell o3 _ h3⟩
theorem resc_116(hs:s.size≤140737488351232)(h:RD bp s i vL 0 at0 dp w)(hi1:i+1<s.size)(hc:s[i+1]=116):Calls Tryz.prog 46 #[.pointer (some ⟨bp,0,none⟩)] w fun r w'=>r=.returned (.string ⟨#[9]⟩)∧RD bp s (i+2) vL 0 at0 dp w'∧Onl bp w w':=by
 have d34:((s[i+1].toNat:Int)==34)=false:=by rw[hc];rfl
 have d92:((s[i+1].toNat:Int)==92)=false:=by rw[hc];rfl
 have d47:((s[i+1].toNat:Int)==47)=false:=by rw[hc];rfl
 have d98:((s[i+1].toNat:Int)==98)=false:=by rw[hc];rfl
 have d102:((s[i+1].toNat:Int)==102)=false:=by rw[hc];rfl
 have d110:((s[i+1].toNat:Int)==110)=false:=by rw[hc];rfl
 have d114:((s[i+1].toNat:Int)==114)=false:=by rw[hc];rfl
 have d116:((s[i+1].toNat:Int)==116)=true:=by rw[hc];rfl
 have hi:i<s.size:=by omega
 have hi1':(i:Int)+1<(s.size:Int):=by omega
 have hi1f:decide ((s.size:Int)≤(i:Int)+1)=false:=by simp;omega
 obtain⟨c0,c1,c2,c3,c4,c5,cf⟩:=h.cell;have f1:=cf 1;go_enter Tryz.func46,Tryz.ntmps46;go_wp2_with fail
 have h1:RD bp s (i+1) vL 0 at0 dp (w.setCell ⟨bp,1,none⟩ (.int .i64 ((i:Int)+1))):=h.setI (i+1);have o1:Onl bp w (w.setCell ⟨bp,1,none⟩ (.int .i64 ((i:Int)+1))):=(onl_refl bp w).setCell _ h;generalize w.setCell ⟨bp,1,none⟩ (.int .i64 ((i:Int)+1))=w1 at h1 o1;clear c0 c1 c2 c3 c4 c5 cf f1;obtain⟨c0,c1,c2,c3,c4,c5,cf⟩:=h1.cell;rw[show((i+1:Nat):Int)=(i:Int)+1 from rfl]at c1;go_quiet (fail);have h2:=h1.drewN nq;have o2:=o1.drewN nq;generalize w1.drewN nq=w2 at h2 o2;clear c0 c1 c2 c3 c4 c5 cf h1 o1 nq w1;obtain⟨c0,c1,c2,c3,c4,c5,cf⟩:=h2.cell;have f1:=cf 1;rw[show((i+1:Nat):Int)=(i:Int)+1 from rfl]at c1;go_wp2_with fail
 go_quiet (fail);have h3:=h2.drewN nq;have o3:=o2.drewN nq;generalize w2.drewN nq=w3 at h3 o3;clear c0 c1 c2 c3 c4 c5 cf f1 h2 o2 nq w2;obtain⟨c0,c1,c2,c3,c4,c5,cf⟩:=h3.cell;have f1:=cf 1;rw[show((i+1:Nat):Int)=(i:Int)+1 from rfl]at c1;go_wp2;go_ret;exact⟨rfl,h3.setI (i+2),Onl.setCell o3 _ h3⟩
end
section
variable (bp:Nat) (s:ByteArray) (i:Nat) (vL:Value) (at0 dp:Nat) (w:World)
theorem resc_u0(hs:s.size≤140737488351232)(h:RD bp s i vL 0 at0 dp w)(hi1:i+1<s.size)(hc:s[i+1]=117)(k:Nat)(hF:four4 (sfx s (i+2))=(none,k)):Calls Tryz.prog 46 #[.pointer (some ⟨bp,0,none⟩)] w fun r w'=>r=.returned (.string ⟨#[]⟩)∧(∃j,RD bp s j vL 2 (i+2+k) dp w')∧Onl bp w w':=by
 have d34:((s[i+1].toNat:Int)==34)=false:=by rw[hc];rfl
 have d92:((s[i+1].toNat:Int)==92)=false:=by rw[hc];rfl
 have d47:((s[i+1].toNat:Int)==47)=false:=by rw[hc];rfl
 have d98:((s[i+1].toNat:Int)==98)=false:=by rw[hc];rfl
 have d102:((s[i+1].toNat:Int)==102)=false:=by rw[hc];rfl
 have d110:((s[i+1].toNat:Int)==110)=false:=by rw[hc];rfl
 have d114:((s[i+1].toNat:Int)==114)=false:=by rw[hc];rfl
 have d116:((s[i+1].toNat:Int)==116)=false:=by rw[hc];rfl
 have d117:((s[i+1].toNat:Int)==117)=true:=by rw[hc];rfl
 have hi:i<s.size:=by omega
 have hi1':(i:Int)+1<(s.size:Int):=by omega
 have hi1f:decide ((s.size:Int)≤(i:Int)+1)=false:=by simp;omega
 obtain⟨c0,c1,c2,c3,c4,c5,cf⟩:=h.cell;have f1:=cf 1;go_enter Tryz.func46,Tryz.ntmps46;go_wp2_with fail
 have h1:RD bp s (i+1) vL 0 at0 dp (w.setCell ⟨bp,1,none⟩ (.int .i64 ((i:Int)+1))):=h.setI (i+1);have o1:Onl bp w (w.setCell ⟨bp,1,none⟩ (.int .i64 ((i:Int)+1))):=(onl_refl bp w).setCell _ h;generalize w.setCell ⟨bp,1,none⟩ (.int .i64 ((i:Int)+1))=w1 at h1 o1;clear c0 c1 c2 c3 c4 c5 cf f1;obtain⟨c0,c1,c2,c3,c4,c5,cf⟩:=h1.cell;rw[show((i+1:Nat):Int)=(i:Int)+1 from rfl]at c1;go_quiet (fail);have h2:=h1.drewN nq;have o2:=o1.drewN nq;generalize w1.drewN nq=w2 at h2 o2;clear c0 c1 c2 c3 c4 c5 cf h1 o1 nq w1;obtain⟨c0,c1,c2,c3,c4,c5,cf⟩:=h2.cell;have f1:=cf 1;rw[show((i+1:Nat):Int)=(i:Int)+1 from rfl]at c1;go_wp2_with fail
 go_quiet (fail);have h3:=h2.drewN nq;have o3:=o2.drewN nq;generalize w2.drewN nq=w3 at h3 o3;clear c0 c1 c2 c3 c4 c5 cf f1 h2 o2 nq w2;obtain⟨c0,c1,c2,c3,c4,c5,cf⟩:=h3.cell;have f1:=cf 1;rw[show((i+1:Nat):Int)=(i:Int)+1 from rfl]at c1;have hfo:=fun w=>rfour s (i+2) w (by omega)
 rw[hF]at hfo;clear hF;rw[optI_none]at hfo;go_wp2_with fail
 have h4:RD bp s (i+2) vL 0 at0 dp (w3.setCell ⟨bp,1,none⟩ (.int .i64 ((i:Int)+1+1))):=h3.setI (i+2);have o4:Onl bp w (w3.setCell ⟨bp,1,none⟩ (.int .i64 ((i:Int)+1+1))):=Onl.setCell o3 _ h3;generalize w3.setCell ⟨bp,1,none⟩ (.int .i64 ((i:Int)+1+1))=w4 at h4 o4;clear c0 c1 c2 c3 c4 c5 cf f1 h3 o3 w3;obtain⟨c0,c1,c2,c3,c4,c5,cf⟩:=h4.cell;go_quiet ((go_at_call 55;exact Calls.quiet_of_same (hfo _)));have h5:=h4.drewN nq;have o5:=Onl.drewN o4 nq;generalize w4.drewN nq=w5 at h5 o5;clear c0 c1 c2 c3 c4 c5 cf h4 o4 nq w4 hfo;obtain⟨c0,c1,c2,c3,c4,c5,cf⟩:=h5.cell;have f1:=cf 1;have e:((i+2+k:Nat):Int)=(i:Int)+2+(k:Int):=by omega
 have h6:=h5.setI (i+2+k);have o6:Onl bp w (w5.setCell ⟨bp,1,none⟩ (.int .i64 ((i+2+k:Nat):Int))):=Onl.setCell o5 _ h5;have hfa:=rfail0 bp s (i+2+k) vL at0 dp 2 (i+2+k) _ h6;rw[e]at hfa o6;have HO6:Hid _:=o6;clear h6 o6 o5 e;go_wp2_with fail
 refine hfa.mono ?_;rintro r w6 ⟨rfl,h7,o7⟩;have H7:Hid (RD bp s (i+2+k) vL 2 (i+2+k) dp w6):=h7;have HO7:Hid (Onl bp w w6):=Onl.trans HO6.out o7;clear h7 o7 hfa HO6;go_wp2;go_ret;exact⟨rfl,⟨_,H7.out⟩,HO7.out⟩
theorem resc_u1(hs:s.size≤140737488351232)(h:RD bp s i vL 0 at0 dp w)(hi1:i+1<s.size)(hc:s[i+1]=117)(k n:Nat)(hF:four4 (sfx s (i+2))=(some n,k))(hk:k≤4)(T:ByteArray)(X:World→Prop)(hp:∀w',RD bp s (i+2+k) vL 0 at0 dp w'→Calls Tryz.prog 56 #[.pointer (some ⟨bp,0,none⟩),.int .i64 (n:Int),.int .i64 (i:Int)] w' fun r w''=>r=.returned (.string T)∧X w''∧Onl bp w' w''):Calls Tryz.prog 46 #[.pointer (some ⟨bp,0,none⟩)] w fun r w'=>r=.returned (.string T)∧X w'∧Onl bp w w':=by
 have hn0:decide ((n:Int)<0)=false:=by simp
 have d34:((s[i+1].toNat:Int)==34)=false:=by rw[hc];rfl
 have d92:((s[i+1].toNat:Int)==92)=false:=by rw[hc];rfl
 have d47:((s[i+1].toNat:Int)==47)=false:=by rw[hc];rfl
 have d98:((s[i+1].toNat:Int)==98)=false:=by rw[hc];rfl
 have d102:((s[i+1].toNat:Int)==102)=false:=by rw[hc];rfl
 have d110:((s[i+1].toNat:Int)==110)=false:=by rw[hc];rfl
 have d114:((s[i+1].toNat:Int)==114)=false:=by rw[hc];rfl
 have d116:((s[i+1].toNat:Int)==116)=false:=by rw[hc];rfl
 have d117:((s[i+1].toNat:Int)==117)=true:=by rw[hc];rfl
 have hi:i<s.size:=by omega
 have hi1':(i:Int)+1<(s.size:Int):=by omega
 have hi1f:decide ((s.size:Int)≤(i:Int)+1)=false:=by simp;omega
 obtain⟨c0,c1,c2,c3,c4,c5,cf⟩:=h.cell;have f1:=cf 1;go_enter Tryz.func46,Tryz.ntmps46;go_wp2_with fail
 have h1:RD bp s (i+1) vL 0 at0 dp (w.setCell ⟨bp,1,none⟩ (.int .i64 ((i:Int)+1))):=h.setI (i+1);have o1:Onl bp w (w.setCell ⟨bp,1,none⟩ (.int .i64 ((i:Int)+1))):=(onl_refl bp w).setCell _ h;generalize w.setCell ⟨bp,1,none⟩ (.int .i64 ((i:Int)+1))=w1 at h1 o1;clear c0 c1 c2 c3 c4 c5 cf f1;obtain⟨c0,c1,c2,c3,c4,c5,cf⟩:=h1.cell;rw[show((i+1:Nat):Int)=(i:Int)+1 from rfl]at c1;go_quiet (fail);have h2:=h1.drewN nq;have o2:=o1.drewN nq;generalize w1.drewN nq=w2 at h2 o2;clear c0 c1 c2 c3 c4 c5 cf h1 o1 nq w1;obtain⟨c0,c1,c2,c3,c4,c5,cf⟩:=h2.cell;have f1:=cf 1;rw[show((i+1:Nat):Int)=(i:Int)+1 from rfl]at c1;go_wp2_with fail
 go_quiet (fail);have h3:=h2.drewN nq;have o3:=o2.drewN nq;generalize w2.drewN nq=w3 at h3 o3;clear c0 c1 c2 c3 c4 c5 cf f1 h2 o2 nq w2;obtain⟨c0,c1,c2,c3,c4,c5,cf⟩:=h3.cell;have f1:=cf 1;rw[show((i+1:Nat):Int)=(i:Int)+1 from rfl]at c1;have hfo:=fun w=>rfour s (i+2) w (by omega)
 rw[hF]at hfo;clear hF;rw[optI_some]at hfo;go_wp2_with fail
 have h4:RD bp s (i+2) vL 0 at0 dp (w3.setCell ⟨bp,1,none⟩ (.int .i64 ((i:Int)+1+1))):=h3.setI (i+2);have o4:Onl bp w (w3.setCell ⟨bp,1,none⟩ (.int .i64 ((i:Int)+1+1))):=Onl.setCell o3 _ h3;generalize w3.setCell ⟨bp,1,none⟩ (.int .i64 ((i:Int)+1+1))=w4 at h4 o4;clear c0 c1 c2 c3 c4 c5 cf f1 h3 o3 w3;obtain⟨c0,c1,c2,c3,c4,c5,cf⟩:=h4.cell;go_quiet ((go_at_call 55;exact Calls.quiet_of_same (hfo _)));have h5:=h4.drewN nq;have o5:=Onl.drewN o4 nq;generalize w4.drewN nq=w5 at h5 o5;clear c0 c1 c2 c3 c4 c5 cf h4 o4 nq w4 hfo;obtain⟨c0,c1,c2,c3,c4,c5,cf⟩:=h5.cell;have f1:=cf 1;have e:((i+2+k:Nat):Int)=(i:Int)+2+(k:Int):=by omega
 have h6:=h5.setI (i+2+k);have o6:Onl bp w (w5.setCell ⟨bp,1,none⟩ (.int .i64 ((i+2+k:Nat):Int))):=Onl.setCell o5 _ h5;have hpa:=hp _ h6;rw[e]at hpa o6;have HO6:Hid _:=o6;clear h6 o6 o5 e hp;go_wp2_with fail
 refine hpa.mono ?_;rintro r w6 ⟨rfl,h7,o7⟩;have H7:Hid (X w6):=h7;have HO7:Hid (Onl bp w w6):=Onl.trans HO6.out o7;clear h7 o7 hpa HO6;go_wp2;go_ret;exact⟨rfl,H7.out,HO7.out⟩
theorem resc_no(hs:s.size≤140737488351232)(h:RD bp s i vL 0 at0 dp w)(p:Nat)(hp:i+1=p)(hi1:p<s.size)(hc:∀c∈[34,92,47,98,102,110,114,116,117],s[p]≠UInt8.ofNat c):Calls Tryz.prog 46 #[.pointer (some ⟨bp,0,none⟩)] w fun r w'=>r=.returned (.string ⟨#[]⟩)∧(∃j,RD bp s j vL 2 p dp w')∧Onl bp w w':=by
 have d34:((s[p].toNat:Int)==34)=false:=by exact u8_ne (k:=34) (by omega) (fun e=>hc 34 (by simp) e)
 have d92:((s[p].toNat:Int)==92)=false:=by exact u8_ne (k:=92) (by omega) (fun e=>hc 92 (by simp) e)
 have d47:((s[p].toNat:Int)==47)=false:=by exact u8_ne (k:=47) (by omega) (fun e=>hc 47 (by simp) e)
 have d98:((s[p].toNat:Int)==98)=false:=by exact u8_ne (k:=98) (by omega) (fun e=>hc 98 (by simp) e)
 have d102:((s[p].toNat:Int)==102)=false:=by exact u8_ne (k:=102) (by omega) (fun e=>hc 102 (by simp) e)
 have d110:((s[p].toNat:Int)==110)=false:=by exact u8_ne (k:=110) (by omega) (fun e=>hc 110 (by simp) e)
 have d114:((s[p].toNat:Int)==114)=false:=by exact u8_ne (k:=114) (by omega) (fun e=>hc 114 (by simp) e)
 have d116:((s[p].toNat:Int)==116)=false:=by exact u8_ne (k:=116) (by omega) (fun e=>hc 116 (by simp) e)
 have d117:((s[p].toNat:Int)==117)=false:=by exact u8_ne (k:=117) (by omega) (fun e=>hc 117 (by simp) e)
 have HD:Hid _:=And.intro d34 (And.intro d92 (And.intro d47 (And.intro d98 (And.intro d102 (And.intro d110 (And.intro d114 (And.intro d116 d117)))))));clear d34 d92 d47 d98 d102 d110 d114 d116 d117 hc;have hpi:(i:Int)+1=(p:Int):=by omega
 have hi1':(p:Int)<(s.size:Int):=by omega
 have hi1f:decide ((s.size:Int)≤(p:Int))=false:=by simp;omega
 obtain⟨c0,c1,c2,c3,c4,c5,cf⟩:=h.cell;have f1:=cf 1;have h1:=h.setI p;have o1:Onl bp w (w.setCell ⟨bp,1,none⟩ (.int .i64 (p:Int))):=(onl_refl bp w).setCell _ h;go_enter Tryz.func46,Tryz.ntmps46;go_wp2_with fail
 generalize w.setCell ⟨bp,1,none⟩ (.int .i64 (p:Int))=w1 at h1 o1;clear c0 c1 c2 c3 c4 c5 cf f1;obtain⟨c0,c1,c2,c3,c4,c5,cf⟩:=h1.cell;go_quiet (fail);have h2:=h1.drewN nq;have o2:=o1.drewN nq;generalize w1.drewN nq=w2 at h2 o2;clear c0 c1 c2 c3 c4 c5 cf h1 o1 nq w1;obtain⟨c0,c1,c2,c3,c4,c5,cf⟩:=h2.cell;have f1:=cf 1;go_wp2_with fail
 go_quiet (fail);have h3:=h2.drewN nq;have o3:=o2.drewN nq;generalize w2.drewN nq=w3 at h3 o3;clear c0 c1 c2 c3 c4 c5 cf f1 h2 o2 nq w2;obtain⟨c0,c1,c2,c3,c4,c5,cf⟩:=h3.cell;have f1:=cf 1;have hpj:(p:Int)+1-1=(p:Int):=by omega
 obtain⟨d34,d92,d47,d98,d102,d110,d114,d116,d117⟩:=HD.out;have h4:RD bp s (p+1) vL 0 at0 dp (w3.setCell ⟨bp,1,none⟩ (.int .i64 ((p:Int)+1))):=h3.setI (p+1);have o4:Onl bp w (w3.setCell ⟨bp,1,none⟩ (.int .i64 ((p:Int)+1))):=Onl.setCell o3 _ h3;have hfa:=rfail0 bp s (p+1) vL at0 dp 2 p _ h4;have HO4:Hid _:=o4;clear h4 o4 o3;go_wp2_with fail
 refine hfa.mono ?_;rintro r w6 ⟨rfl,h7,o7⟩;have H7:Hid (RD bp s (p+1) vL 2 p dp w6):=h7;have HO7:Hid (Onl bp w w6):=Onl.trans HO4.out o7;clear h7 o7 hfa HO4;go_wp2;go_ret;exact⟨rfl,⟨_,H7.out⟩,HO7.out⟩
theorem resc_end(hs:s.size≤140737488351232)(h:RD bp s i vL 0 at0 dp w)(hi0:i<s.size)(hi1:s.size≤i+1):Calls Tryz.prog 46 #[.pointer (some ⟨bp,0,none⟩)] w fun r w'=>r=.returned (.string ⟨#[]⟩)∧(∃j,RD bp s j vL 2 (i+1) dp w')∧Onl bp w w':=by
 have hi1f:decide ((s.size:Int)≤(i:Int)+1)=true:=by simp;omega
 obtain⟨c0,c1,c2,c3,c4,c5,cf⟩:=h.cell;have f1:=cf 1;go_enter Tryz.func46,Tryz.ntmps46;go_wp2_with fail
 have h1:RD bp s (i+1) vL 0 at0 dp (w.setCell ⟨bp,1,none⟩ (.int .i64 ((i:Int)+1))):=h.setI (i+1);have o1:Onl bp w (w.setCell ⟨bp,1,none⟩ (.int .i64 ((i:Int)+1))):=(onl_refl bp w).setCell _ h;generalize w.setCell ⟨bp,1,none⟩ (.int .i64 ((i:Int)+1))=w1 at h1 o1;clear c0 c1 c2 c3 c4 c5 cf f1;obtain⟨c0,c1,c2,c3,c4,c5,cf⟩:=h1.cell;rw[show((i+1:Nat):Int)=(i:Int)+1 from rfl]at c1;go_quiet (fail);have h2:=h1.drewN nq;have o2:=o1.drewN nq;generalize w1.drewN nq=w2 at h2 o2;clear c0 c1 c2 c3 c4 c5 cf h1 o1 nq w1;obtain⟨c0,c1,c2,c3,c4,c5,cf⟩:=h2.cell;have hfa:=rfail0 bp s (i+1) vL at0 dp 2 (i+1) _ h2;go_wp2_with fail
 refine hfa.mono ?_;rintro r w6 ⟨rfl,h7,o7⟩;have H7:Hid (RD bp s (i+1) vL 2 (i+1) dp w6):=h7;have HO7:Hid (Onl bp w w6):=Onl.trans o2 o7;clear h7 o7 hfa o2;go_wp2;go_ret;exact⟨rfl,⟨_,H7.out⟩,HO7.out⟩
end
section
variable (bp:Nat) (s:ByteArray) (i:Nat) (vL:Value) (at0 dp:Nat) (w:World)
theorem resc_simple(hs:s.size≤140737488351232)(h:RD bp s i vL 0 at0 dp w)(hi1:i+1<s.size)(b:UInt8)(hb:esc1 s[i+1]=some b):Calls Tryz.prog 46 #[.pointer (some ⟨bp,0,none⟩)] w fun r w'=>r=.returned (.string ⟨#[b]⟩)∧RD bp s (i+2) vL 0 at0 dp w'∧Onl bp w w':=by
 by_cases h34:s[i+1]=34
 ·rw[h34]at hb;injection hb with hb;subst hb;exact resc_34 bp s i vL at0 dp w hs h hi1 h34
 by_cases h92:s[i+1]=92
 ·rw[h92]at hb;injection hb with hb;subst hb;exact resc_92 bp s i vL at0 dp w hs h hi1 h92
 by_cases h47:s[i+1]=47
 ·rw[h47]at hb;injection hb with hb;subst hb;exact resc_47 bp s i vL at0 dp w hs h hi1 h47
 by_cases h98:s[i+1]=98
 ·rw[h98]at hb;injection hb with hb;subst hb;exact resc_98 bp s i vL at0 dp w hs h hi1 h98
 by_cases h102:s[i+1]=102
 ·rw[h102]at hb;injection hb with hb;subst hb;exact resc_102 bp s i vL at0 dp w hs h hi1 h102
 by_cases h110:s[i+1]=110
 ·rw[h110]at hb;injection hb with hb;subst hb;exact resc_110 bp s i vL at0 dp w hs h hi1 h110
 by_cases h114:s[i+1]=114
 ·rw[h114]at hb;injection hb with hb;subst hb;exact resc_114 bp s i vL at0 dp w hs h hi1 h114
 by_cases h116:s[i+1]=116
 ·rw[h116]at hb;injection hb with hb;subst hb;exact resc_116 bp s i vL at0 dp w hs h hi1 h116
 ·simp[esc1,h34,h92,h47,h98,h102,h110,h114,h116]at hb
theorem rescape(hs:s.size≤140737488340000)(h:RD bp s i vL 0 at0 dp w)(hi:i<s.size):(∀t k,escL (sfx s i)=.ok (t,k)→Calls Tryz.prog 46 #[.pointer (some ⟨bp,0,none⟩)] w fun r w'=>r=.returned (.string ⟨t.toArray⟩)∧RD bp s (i+k) vL 0 at0 dp w'∧Onl bp w w')∧(∀o,escL (sfx s i)=.error o→Calls Tryz.prog 46 #[.pointer (some ⟨bp,0,none⟩)] w fun r w'=>r=.returned (.string ⟨#[]⟩)∧(∃j,RD bp s j vL 2 (i+o) dp w')∧Onl bp w w'):=by
 have hs2:s.size≤140737488351232:=by omega
 by_cases hi1:i+1<s.size
 ·rw[escL_cons s i hi1]
  cases hb:esc1 s[i+1]with
  | some b=>
    refine⟨fun t k he=>?_,fun o he=>(by simp at he)⟩;simp at he;obtain⟨rfl,rfl⟩:=he;exact resc_simple bp s i vL at0 dp w hs2 h hi1 b hb
  | none=>
    by_cases hu:s[i+1]=117
    ·simp only[hu,if_true]
     cases hF:four4 (sfx s (i+2))with
     | mk F1 k4=>
       cases F1 with
       | none=>
         refine⟨fun t k he=>(by simp at he),fun o he=>?_⟩;simp at he;subst he;rw[←Nat.add_assoc];exact resc_u0 bp s i vL at0 dp w hs2 h hi1 hu k4 hF
       | some n=>
         obtain⟨rfl,hn⟩:=four4_some hF;dsimp only;by_cases hp:n<55296∨57343<n
         ·refine⟨fun t k he=>?_,fun o he=>(by rw[pairL_plain n _ hp]at he;simp at he)⟩
          rw[pairL_plain n _ hp]at he;simp at he;obtain⟨rfl,rfl⟩:=he;exact resc_u1 bp s i vL at0 dp w hs2 h hi1 hu 4 n hF (by omega) _ _ fun w' h'=>rpair_plain bp s (i+6) vL at0 dp w' (n:Int) n i rfl (by omega) hn h'
         ·cases hl:lowL (sfx s (i+6))with
          | none=>
            have hpe:pairL n (sfx s (i+6))=.error 0:=by unfold pairL;rw[if_neg hp,hl]
            refine⟨fun t k he=>(by rw[hpe]at he;simp at he),fun o he=>?_⟩;rw[hpe]at he;injection he with he;subst he;exact resc_u1 bp s i vL at0 dp w hs2 h hi1 hu 4 n hF (by omega) ⟨#[]⟩ (fun w'=>∃j,RD bp s j vL 2 (i+0) dp w') fun w' h'=>(rpair_er bp s (i+6) vL at0 dp w' (n:Int) i (by omega) (by omega) (.inl hl) h' (by omega)).mono fun r w2 ⟨a,b,c⟩=>⟨a,⟨_,b⟩,c⟩
          | some m=>
            have hb2:=lowL_bound hl;by_cases h5:56320≤n
            ·have hpe:pairL n (sfx s (i+6))=.error 0:=by unfold pairL;rw[if_neg hp,hl];simp[h5]
             refine⟨fun t k he=>(by rw[hpe]at he;simp at he),fun o he=>?_⟩;rw[hpe]at he;injection he with he;subst he;exact resc_u1 bp s i vL at0 dp w hs2 h hi1 hu 4 n hF (by omega) ⟨#[]⟩ (fun w'=>∃j,RD bp s j vL 2 (i+0) dp w') fun w' h'=>(rpair_er bp s (i+6) vL at0 dp w' (n:Int) i (by omega) (by omega) (.inr (by omega)) h' (by omega)).mono fun r w2 ⟨a,b,c⟩=>⟨a,⟨_,b⟩,c⟩
            ·have hpe:pairL n (sfx s (i+6))=.ok (wr8 (65536+1024*(n-55296)+(m-56320)),12):=by unfold pairL;rw[if_neg hp,hl];simp[h5]
             refine⟨fun t k he=>?_,fun o he=>(by rw[hpe]at he;simp at he)⟩;rw[hpe]at he;injection he with he;injection he with he1 he2;subst he1;subst he2;exact resc_u1 bp s i vL at0 dp w hs2 h hi1 hu 4 n hF (by omega) _ (fun w'=>RD bp s (i+12) vL 0 at0 dp w') fun w' h'=>rpair_two bp s (i+6) vL at0 dp w' (n:Int) i m _ (by omega) (by omega) hl (by omega) (by omega) h' (by omega)
    ·simp only[hu,if_false]
     refine⟨fun t k he=>(by simp at he),fun o he=>?_⟩;injection he with he;subst he;exact resc_no bp s i vL at0 dp w hs2 h (i+1) rfl hi1 (esc1_none hb hu)
 ·have hl:escL (sfx s i)=.error 1:=by rw[sfx_cons s i hi,sfx_nil s (i+1) (by omega)];rfl
  rw[hl];refine⟨fun t k he=>(by simp at he),fun o he=>?_⟩;injection he with he;subst he;exact resc_end bp s i vL at0 dp w hs2 h hi (by omega)
end
end Go.Proofs.YtaghclgookfmnaaGreatDoor
