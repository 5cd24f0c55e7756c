import Derived.Test.YtaghclgookfmnaaGreatDoorCArr
set_option maxHeartbeats 2000000
namespace Go.Proofs.YtaghclgookfmnaaGreatDoor
open Go.RowKit
set_option linter.unusedVariables false
theorem nb_skip(l:List UInt8):nb (l.drop (nb l))=0:=by
 induction l with
 | nil=>rfl
 | cons c r ih=>
   rw[nb];split
   ·rw[List.drop_succ_cons];exact ih
   ·next h=>rw[List.drop_zero,nb,if_neg h]
theorem nb_skipS(s:ByteArray)(i p:Nat)(h:i+nb (sfx s i)=p):nb (sfx s p)=0:=by
 rw[←h,←sfx_drop];exact nb_skip _
section
variable (bp:Nat) (s:ByteArray) (i:Nat) (key:List UInt8) (ms:List Nd) (dp:Nat) (vL:Value) (kvs:List Value) (w:World) (b0 b1:Nat)
theorem deep32{dp:Nat}(h:dp=32):((dp:Int)==32)=true:=by rw[h];rfl
theorem clistA_deep(h:CN bp s i (arrN ms none key i []) dp vL kvs w)(hd:dp=32):Calls Tryz.prog 58 #[.pointer (some ⟨bp,0,none⟩),.int .u8 93,arrFv b0 b1] w fun r w'=>r=.panicked (flt 5 i)∧w'=w:=by
 unfold arrFv;obtain⟨c0,c1,c2,c3,cf⟩:=h.cd.cell;have hb:=deep32 hd;have hth:∀w',Calls Tryz.prog 54 #[.int .i64 5,.int .i64 (i:Int)] w' fun r w''=>r=.panicked (flt 5 i)∧w''=w':=fun w'=>cthrow 5 i w'
 clear hd;go_enter Tryz.func58,Tryz.ntmps58;go_wp2_with fail
 refine(hth w).mono ?_;rintro r w1 ⟨rfl,rfl⟩;clear hth;go_wp2;exact⟨rfl,rfl,rfl⟩
set_option maxRecDepth 4000 in
theorem clistA(d:Nat)(hv:CVal d (dp+1))(hs:s.size≤65536)(hbp:8≤bp)(h:CN bp s i (arrN ms none key i []) dp vL kvs w)(hG:GV w)(hi:i<s.size)(hl:ms.length≤i)(hw:WFk ms)(hd:dp<32)(hB:BoxA b0 b1 bp ms.length (own vL kvs) w):Calls Tryz.prog 58 #[.pointer (some ⟨bp,0,none⟩),.int .u8 93,arrFv b0 b1] w fun r w'=>IQ bp s dp (own vL kvs) w i key ms r w' (arrL (valL d) (sfx s i) i):=by
 have hlt:=h.cd.lt;obtain⟨c0,c1,c2,c3,cf⟩:=h.cd.cell;have f1:=cf 1;have f3:=cf 3;have hb:((dp:Int)==32)=false:=by rw[beq_eq_false_iff_ne];omega
 have hdb:(dp:Int)<32:=by omega
 have hib:(i:Int)≤65536:=by omega
 have hA:Hid (CD bp s (i+1) vL (dp+1) ((w.setCell ⟨bp,3,none⟩ (.int .i64 ((dp:Int)+1))).setCell ⟨bp,1,none⟩ (.int .i64 ((i:Int)+1)))∧Onl bp w ((w.setCell ⟨bp,3,none⟩ (.int .i64 ((dp:Int)+1))).setCell ⟨bp,1,none⟩ (.int .i64 ((i:Int)+1)))):=⟨(h.cd.setD (dp+1)).setI (i+1),Onl.setCell (Onl.setCell (onl_refl bp w) _ h.cd) _ (h.cd.setD (dp+1))⟩;have H0:Hid (CN bp s i (arrN ms none key i []) dp vL kvs w):=h;unfold arrFv;go_enter Tryz.func58,Tryz.ntmps58;go_wp2_with fail
 generalize (w.setCell ⟨bp,3,none⟩ (.int .i64 ((dp:Int)+1))).setCell ⟨bp,1,none⟩ (.int .i64 ((i:Int)+1))=w1 at hA;have h1:=hA.out.1;have O1:Hid (Onl bp w w1):=hA.out.2;clear hA c0 c1 c2 c3 cf f1 f3 h;have hbl:=cblanks bp s (i+1) vL (dp+1) w1 (by omega) h1 (by omega);have hb3:=nb_leS s (i+1) (by omega);have hz:=nb_skipS s (i+1) _ rfl;generalize hp:i+1+nb (sfx s (i+1))=p at hbl hb3 hz;have HP:Hid (i+1+nb (sfx s (i+1))=p):=hp;have HPL:Hid (i+1≤p):=by show i+1≤p;omega
 clear hp;refine hbl.mono ?_;rintro r w2 ⟨rfl,h2,o2⟩;have O2:Hid (Onl bp w w2):=O1.out.trans o2;clear hbl o2 O1 h1;by_cases h93:(sfx s p).head?=some 93
 ·have ht:=ctake_yes bp s p vL (dp+1) 93 w2 (by omega) h2 h93
  rw[show((93:UInt8).toNat:Int)=93 from rfl]at ht;have HR:Hid (arrL (valL d) (sfx s i) i=.ok (.arr [] i,p-i+1)):=by
   show arrL (valL d) (sfx s i) i=_
   rw[arrL_eq (valL d) s i p HP.out,if_pos h93]
  clear h93 hv;go_wp2_with fail
  refine ht.mono ?_;rintro r w3 ⟨rfl,h3,o3⟩;have O3:Hid (Onl bp w w3):=O2.out.trans o3;clear ht o3 O2;obtain⟨c0,c1,c2,c3,cf⟩:=h3.cell;have f3:=cf 3;go_wp2;go_end0
  rw[HR.out];have h4:CD bp s (p+1) vL dp (w3.setCell ⟨bp,3,none⟩ (.int .i64 (dp:Int))):=h3.setD dp;have o4:=Onl.setCell (k:=3) O3.out (.int .i64 (dp:Int)) h3;refine⟨rfl,vL,kvs,?_,o4.chg _⟩;rw[show i+(p-i+1)=p+1 by have:=HPL.out;omega];exact H0.out.onl h4 o4
 ·have ht:=ctake_no bp s p vL (dp+1) 93 w2 h2 hb3 (by decide) h93
  rw[show((93:UInt8).toNat:Int)=93 from rfl]at ht;have HR:Hid (arrL (valL d) (sfx s i) i=finA [] i p (arrF (valL d) ((sfx s i).length+1) (sfx s p) p)):=by
   show arrL (valL d) (sfx s i) i=_
   rw[arrL_eq (valL d) s i p HP.out,if_neg h93]
  clear h93;go_wp2_with fail
  refine ht.mono ?_;rintro r w3 ⟨rfl,h3,o3⟩;have O3:Hid (Onl bp w w3):=O2.out.trans o3;clear ht o3 O2;have hLA:LA bp s (dp+1) b0 b1 d w (own vL kvs) i key ms w3:=by
   have hp:=HPL.out;refine⟨p,p,[],(sfx s i).length+1,vL,kvs,by omega,by rw[hz];rfl,hb3,?_,⟨h3,H0.out.nk.onl O3.out (by omega)⟩,?_,?_,HR.out,hG.onl O3.out hbp hlt,O3.out.chg _,hB.chg (O3.out.chg _)⟩
   ·rw[sfx_length,sfx_length];omega
   ·rw[arrN_length];simp[sizeL];omega
   ·exact flat_wf hw none key (.arr [] i)
  have hit:=citemsA bp s (dp+1) w3 b0 b1 d hv hs hbp w (own vL kvs) i key ms hLA;unfold arrFv at hit;clear hLA hv;cases hQ:arrL (valL d) (sfx s i) i with
  | error q=>
    obtain⟨e,a⟩:=q;rw[hQ]at hit;have HQ:Hid _:=hQ;clear hQ HR;go_wp2_with fail
    refine hit.mono ?_;rintro r w4 ⟨h0,rfl,h4⟩;have H4:Hid _:=And.intro h0 h4;clear h0 h4 hit;go_wp2;refine⟨rfl,?_⟩;rw[HQ.out];exact⟨H4.out.1,rfl,H4.out.2⟩
  | ok q=>
    obtain⟨t,n⟩:=q;rw[hQ]at hit;have HQ:Hid _:=hQ;clear hQ HR;go_wp2_with fail
    refine hit.mono ?_;rintro r w4 ⟨rfl,v4,k4,hN4,hC4⟩;have H4:Hid _:=And.intro hN4 hC4;obtain⟨c0,c1,c2,c3,cf⟩:=hN4.cd.cell;have f3:=cf 3;clear hit hN4 hC4;go_wp2;go_end0
    have h5:CD bp s (i+n) v4 dp (w4.setCell ⟨bp,3,none⟩ (.int .i64 (dp:Int))):=H4.out.1.cd.setD dp;have o5:=Onl.setCell (k:=3) (onl_refl bp w4) (.int .i64 (dp:Int)) H4.out.1.cd;rw[HQ.out];exact⟨rfl,v4,k4,⟨h5,H4.out.1.nk.onl o5 (by omega)⟩,H4.out.2.trans (o5.chg _)⟩
end
end Go.Proofs.YtaghclgookfmnaaGreatDoor
