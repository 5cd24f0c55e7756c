import Derived.Test.YtaghclgookfmnaaGreatDoorCObjL
set_option maxHeartbeats 2000000
namespace Go.Proofs.YtaghclgookfmnaaGreatDoor
open Go.RowKit
set_option linter.unusedVariables false
section
variable (bp:Nat) (s:ByteArray) (i:Nat) (key:List UInt8) (ms:List Nd) (dp:Nat) (vL:Value) (kvs:List Value) (w:World) (b0 bM b1 bm:Nat)
theorem clistO_deep(h:CN bp s i (objN ms none key i []) dp vL kvs w)(hd:dp=32):Calls Tryz.prog 58 #[.pointer (some ⟨bp,0,none⟩),.int .u8 125,objFv b0 bM b1] w fun r w'=>r=.panicked (flt 5 i)∧w'=w:=by
 unfold objFv;obtain⟨c0,c1,c2,c3,cf⟩:=h.cd.cell;have hb:=deep32 hd;have hth:∀w',Calls Tryz.prog 54 #[.int .i64 5,.int .i64 (i:Int)] w' fun r w''=>r=.panicked (flt 5 i)∧w''=w':=fun w'=>cthrow 5 i w'
 clear hd;go_enter Tryz.func58,Tryz.ntmps58;go_wp2_with fail
 refine(hth w).mono ?_;rintro r w1 ⟨rfl,rfl⟩;clear hth;go_wp2;exact⟨rfl,rfl,rfl⟩
set_option maxRecDepth 4000 in
theorem clistO(w0:World)(O0:Nat→Prop)(d:Nat)(hv:CVal d (dp+1))(hs:s.size≤65536)(hbp:8≤bp)(h:CN bp s i (objN ms none key i []) dp vL kvs w)(hG:GV w)(hi:i<s.size)(hl:ms.length≤i)(hw:WFk ms)(hd:dp<32)(hB:BoxO b0 bM b1 bp bm ms.length (own vL kvs) w)(hM:NM bm [] w)(hgm:8≤bm)(h0m:w0.heap.size≤bm)(hC0:Chg bp O0 w0 (own vL kvs) w):Calls Tryz.prog 58 #[.pointer (some ⟨bp,0,none⟩),.int .u8 125,objFv b0 bM b1] w fun r w'=>IQ bp s dp O0 w0 i key ms r w' (objL (valL d) (sfx s i) i):=by
 have hlt:=h.cd.lt;obtain⟨c0,c1,c2,c3,cf⟩:=h.cd.cell;have f1:=cf 1;have f3:=cf 3;have hb:((dp:Int)==32)=false:=by rw[beq_eq_false_iff_ne];omega
 have hdb:(dp:Int)<32:=by omega
 have hib:(i:Int)≤65536:=by omega
 have hA:Hid (CD bp s (i+1) vL (dp+1) ((w.setCell ⟨bp,3,none⟩ (.int .i64 ((dp:Int)+1))).setCell ⟨bp,1,none⟩ (.int .i64 ((i:Int)+1)))∧Onl bp w ((w.setCell ⟨bp,3,none⟩ (.int .i64 ((dp:Int)+1))).setCell ⟨bp,1,none⟩ (.int .i64 ((i:Int)+1)))):=⟨(h.cd.setD (dp+1)).setI (i+1),Onl.setCell (Onl.setCell (onl_refl bp w) _ h.cd) _ (h.cd.setD (dp+1))⟩;have HC0:Hid (Chg bp O0 w0 (own vL kvs) w):=hC0;have H0:Hid (CN bp s i (objN ms none key i []) dp vL kvs w):=h;unfold objFv;go_enter Tryz.func58,Tryz.ntmps58;go_wp2_with fail
 generalize (w.setCell ⟨bp,3,none⟩ (.int .i64 ((dp:Int)+1))).setCell ⟨bp,1,none⟩ (.int .i64 ((i:Int)+1))=w1 at hA;have h1:=hA.out.1;have O1:Hid (Onl bp w w1):=hA.out.2;clear hA c0 c1 c2 c3 cf f1 f3 h;have hbl:=cblanks bp s (i+1) vL (dp+1) w1 (by omega) h1 (by omega);have hb3:=nb_leS s (i+1) (by omega);have hz:=nb_skipS s (i+1) _ rfl;generalize hp:i+1+nb (sfx s (i+1))=p at hbl hb3 hz;have HP:Hid (i+1+nb (sfx s (i+1))=p):=hp;have HPL:Hid (i+1≤p):=by show i+1≤p;omega
 clear hp;refine hbl.mono ?_;rintro r w2 ⟨rfl,h2,o2⟩;have O2:Hid (Onl bp w w2):=O1.out.trans o2;clear hbl o2 O1 h1;by_cases h125:(sfx s p).head?=some 125
 ·have ht:=ctake_yes bp s p vL (dp+1) 125 w2 (by omega) h2 h125
  rw[show((125:UInt8).toNat:Int)=125 from rfl]at ht;have HR:Hid (objL (valL d) (sfx s i) i=.ok (.obj [] i,p-i+1)):=by
   show objL (valL d) (sfx s i) i=_
   rw[objL_eq (valL d) s i p HP.out,if_pos h125]
  clear h125 hv;go_wp2_with fail
  refine ht.mono ?_;rintro r w3 ⟨rfl,h3,o3⟩;have O3:Hid (Onl bp w w3):=O2.out.trans o3;clear ht o3 O2;obtain⟨c0,c1,c2,c3,cf⟩:=h3.cell;have f3:=cf 3;go_wp2;go_end0
  rw[HR.out];have h4:CD bp s (p+1) vL dp (w3.setCell ⟨bp,3,none⟩ (.int .i64 (dp:Int))):=h3.setD dp;have o4:=Onl.setCell (k:=3) O3.out (.int .i64 (dp:Int)) h3;refine⟨rfl,vL,kvs,?_,HC0.out.trans (o4.chg _)⟩;rw[show i+(p-i+1)=p+1 by have:=HPL.out;omega];exact H0.out.onl h4 o4
 ·have ht:=ctake_no bp s p vL (dp+1) 125 w2 h2 hb3 (by decide) h125
  rw[show((125:UInt8).toNat:Int)=125 from rfl]at ht;have HR:Hid (objL (valL d) (sfx s i) i=finO [] i p (objF (valL d) ((sfx s i).length+1) [] (sfx s p) p)):=by
   show objL (valL d) (sfx s i) i=_
   rw[objL_eq (valL d) s i p HP.out,if_neg h125]
  clear h125;go_wp2_with fail
  refine ht.mono ?_;rintro r w3 ⟨rfl,h3,o3⟩;have O3:Hid (Onl bp w w3):=O2.out.trans o3;clear ht o3 O2;have hLO:LO bp s (dp+1) b0 bM b1 bm d w0 O0 i key ms w3:=by
   have hp:=HPL.out;refine⟨p,p,[],(sfx s i).length+1,vL,kvs,by omega,by rw[hz];rfl,hb3,?_,⟨h3,H0.out.nk.onl O3.out (by omega)⟩,?_,?_,HR.out,hG.onl O3.out hbp hlt,HC0.out.trans (O3.out.chg _),hB.chm (O3.out.chg _).chm,hM.chg (O3.out.chg (own vL kvs)) hB.nm.1 hB.nm.2.1⟩
   ·rw[sfx_length,sfx_length];omega
   ·rw[objN_length];simp[sizeM];omega
   ·exact flat_wf hw none key (.obj [] i)
  have hit:=citemsO bp s (dp+1) w3 b0 bM b1 bm d hv hs hbp hgm w0 h0m O0 i key ms hLO;unfold objFv at hit;clear hLO hv;cases hQ:objL (valL d) (sfx s i) i with
  | error q=>
    obtain⟨e,a⟩:=q;rw[hQ]at hit;have HQ:Hid _:=hQ;clear hQ HR;go_wp2_with fail
    refine hit.mono ?_;rintro r w4 ⟨h0,rfl,h4⟩;have H4:Hid _:=And.intro h0 h4;clear h0 h4 hit;go_wp2;refine⟨rfl,?_⟩;rw[HQ.out];exact⟨H4.out.1,rfl,H4.out.2⟩
  | ok q=>
    obtain⟨t,n⟩:=q;rw[hQ]at hit;have HQ:Hid _:=hQ;clear hQ HR;go_wp2_with fail
    refine hit.mono ?_;rintro r w4 ⟨rfl,v4,k4,hN4,hC4⟩;have H4:Hid _:=And.intro hN4 hC4;obtain⟨c0,c1,c2,c3,cf⟩:=hN4.cd.cell;have f3:=cf 3;clear hit hN4 hC4;go_wp2;go_end0
    have h5:CD bp s (i+n) v4 dp (w4.setCell ⟨bp,3,none⟩ (.int .i64 (dp:Int))):=H4.out.1.cd.setD dp;have o5:=Onl.setCell (k:=3) (onl_refl bp w4) (.int .i64 (dp:Int)) H4.out.1.cd;rw[HQ.out];exact⟨rfl,v4,k4,⟨h5,H4.out.1.nk.onl o5 (by omega)⟩,H4.out.2.trans (o5.chg _)⟩
end
end Go.Proofs.YtaghclgookfmnaaGreatDoor
