import Derived.Test.YtfhjjbgjoclanaeDoorKRef
import Derived.Test.YtfhjjbgjoclanaeDoorKList
namespace Go.Proofs.YtfhjjbgjoclanaeDoor
open Go.RowKit
set_option linter.unusedVariables false
theorem prS_take{ks:List Ky}:∀{done:List Ky} (n:Nat),prS done ks=none→prS done (ks.take n)=none:=by
 induction ks with
 | nil=>intro done n _;simp[prS]
 | cons k ks ih=>
   intro done n h;cases n with
   | zero=>rfl
   | succ n=>
     unfold prS at h;split at h
     ·rename_i h0
      rw[List.take_succ_cons];unfold prS;rw[if_pos h0];exact ih n h
     ·cases h
theorem outK_pre(a rest:List Ky):∃y,outK (a++rest)=outK a++y:=by
 induction rest generalizing a with
 | nil=>exact⟨[],by simp⟩
 | cons k r ih=>
   obtain⟨y,hy⟩:=ih (a++[k]);rw[show a++k::r=a++[k]++r by simp,hy,outK_step];exact⟨_,List.append_assoc ..⟩
theorem text_out(ks:List Ky):textK ks=outK ks++[93,125]:=rfl
theorem cut_text(ks:List Ky)(m:Nat):(outK (ks.take m)).length+2≤(textK ks).length∧(textK ks).take (outK (ks.take m)).length=outK (ks.take m):=by
 obtain⟨y,hy⟩:=outK_pre (ks.take m) (ks.drop m);rw[List.take_append_drop]at hy;rw[text_out,hy];refine⟨by simp,?_⟩;rw[List.append_assoc,List.take_left'];rfl
theorem prT_none{ks:List Ky}(h:prS [] ks=none):prT ks=(textK ks,0,0):=by unfold prT;rw[h]
theorem prT_some{ks:List Ky}{e:Int}{i:Nat}(h:prS [] ks=some (e,i)):prT ks=([],e,i):=by unfold prT;rw[h]
theorem prS_err{ks:List Ky}:∀{done:List Ky} {e:Int} {i:Nat},prS done ks=some (e,i)→e≠0:=by
 induction ks with
 | nil=>intro done e i h;cases h
 | cons k ks ih=>
   intro done e i h;unfold prS at h;split at h
   ·exact ih h
   ·rename_i h0
    injection h with h;injection h with h1 _;rw[←h1];exact h0
set_option maxRecDepth 4000 in
set_option maxHeartbeats 2000000 in
theorem lkeysCut(x:Value)(ks:List Ky)(n:Int)(w:World)(hx:KR w x ks)(hG:WG w)(hl:ks.length≤3518437208780)(hb:∀k∈ks,k.kid.size≤4611686018427387904∧k.key.size≤4611686018427387904):Calls Tryd.prog 4 #[x,.int .i64 n] w fun r w'=>r=.returned (.bool true)∧Below w.heap.size w w':=by
 have hkl:=fun w1 (b1:Below w.heap.size w w1)=>lkeyList x ks w1 (hx.below b1) hl
 have hpr:=fun y w1 (b1:Below w.heap.size w w1) (hy:KR w1 y ks)=>cprintK y ks w1 hy (hG.below b1) (by omega) hb
 have hrp:=fun w1 (b1:Below w.heap.size w w1)=>rprintK x ks w1 (hx.below b1) (by omega) hb
 have hnum:=fun e w1=>lnumK e w1
 have HX:=thid hx;have HG:=thid hG;have HZ:=thid hb;have HKL:=thid hkl;have HPR:=thid hpr;have HRP:=thid hrp;obtain⟨ad,cap,rfl,hlc,_⟩:=hx;clear hkl hpr hrp hG hb;obtain⟨T,hT⟩:∃T,prT ks=T:=⟨_,rfl⟩;rw[hT]at HPR HRP;have HT:=thid hT;clear hT;go_enter Tryd.func4,Tryd.ntmps4;go_wp2_with fail
 refine(HKL.out _ (Below.refl _ _)).mono ?_;rintro r w1 ⟨⟨y,rfl,ho⟩,hb⟩;have B1:=thid hb;have Y1:=thid (KR.of ho);obtain⟨ady,capy,rfl⟩:=(KR.of ho).shape;clear ho hb;go_wp2_with fail
 refine(HPR.out _ _ B1.out Y1.out).mono ?_;rintro r w2 ⟨rfl,hb⟩;have B2:=thid (B1.out.trans (hb.mono B1.out.size));clear hb;go_wp2_with fail
 refine(HRP.out _ B2.out).mono ?_;rintro r w3 ⟨rfl,hb⟩;have B3:=thid (B2.out.trans (hb.mono B2.out.size));clear hb HKL HPR HRP Y1;obtain⟨T1,e,i⟩:=T;simp only;by_cases n0:n<0
 ·go_wp2_with (go_at_call 10;refine(hnum _ _).mono ?_;rintro e' w' ⟨rfl,hw⟩;have hw2:=hw.symm;subst hw2)
  go_ret;exact⟨rfl,B3.out⟩
 ·by_cases n1:(ks.length:Int)<n
  ·go_wp2_with (go_at_call 10;refine(hnum _ _).mono ?_;rintro e' w' ⟨rfl,hw⟩;have hw2:=hw.symm;subst hw2)
   go_ret;exact⟨rfl,B3.out⟩
  ·obtain⟨m,rfl⟩:∃m:Nat,n=(m:Int):=⟨n.toNat,by omega⟩
   have hm:m≤ks.length:=by omega
   have k1:¬(ks.length:Int)<(m:Int):=n1;have k2:(m:Int)≤(cap:Int):=by omega
   have hml:(ks.take m).length=m:=by rw[List.length_take];omega
   have hkl2:=fun w1 (b1:Below w.heap.size w w1)=>lkeyList (.slice ad m cap) (ks.take m) w1 ((HX.out.take m hm).below b1) (by omega)
   have hpr2:=fun y w1 (b1:Below w.heap.size w w1) (hy:KR w1 y (ks.take m))=>cprintK y (ks.take m) w1 hy (HG.out.below b1) (by omega) (fun k hk=>HZ.out k (List.mem_of_mem_take hk))
   have HKL2:=thid hkl2;have HPR2:=thid hpr2;have HML:=thid hml;clear hkl2 hpr2 n0 n1 hml;go_wp2_with (go_at_call 10;refine(hnum _ _).mono ?_;rintro e' w' ⟨rfl,hw⟩;have hw2:=hw.symm;subst hw2)
   refine(HKL2.out _ B3.out).mono ?_;rintro r w4 ⟨⟨y,rfl,ho⟩,hb⟩;have B4:=thid (B3.out.trans (hb.mono B3.out.size));have Y4:=thid (KR.of ho);obtain⟨ady2,capy2,hy⟩:=(KR.of ho).shape;rw[HML.out]at hy;subst hy;clear ho hb;go_wp2_with fail
   refine(HPR2.out _ _ B4.out Y4.out).mono ?_;rintro r w5 ⟨rfl,hb⟩;have B5:=thid (B4.out.trans (hb.mono B4.out.size));clear hb HKL2 HPR2 Y4;cases hS:prS [] ks with
   | some q=>
     obtain⟨e',i'⟩:=q;have h1:=HT.out;rw[prT_some hS]at h1;injection h1 with h1 h2;injection h2 with h2 h3;subst h1 h2 h3;have hne:(e' != 0)=true:=by have:=prS_err hS;simpa using this
     clear hS HT;generalize prT (ks.take m)=T2 at *;go_wp2_with fail
     go_ret;exact⟨rfl,B5.out⟩
   | none=>
     have h1:=HT.out;rw[prT_none hS]at h1;injection h1 with h1 h2;injection h2 with h2 h3;subst h1 h2 h3;obtain⟨hc1,hc2⟩:=cut_text ks m;rw[prT_none (prS_take m hS)];have hx1:=prS_ok hS;have hx2:(textK ks).length≤100000:=by
      rw[text_out];have:=outK_len hx1;have h20:ks.length≤20:=by
       by_cases he:ks=[]
       ·rw[he];simp
       ·have:=prS_len hS he;simpa using this
      simp;omega
     have ht2:(textK (ks.take m)).length=(outK (ks.take m)).length+2:=by rw[text_out];simp
     obtain⟨A,hA⟩:∃A:ByteArray,A=⟨(textK (ks.take m)).toArray⟩:=⟨_,rfl⟩;obtain⟨S,hS2⟩:∃S:ByteArray,S=⟨(textK ks).toArray⟩:=⟨_,rfl⟩;simp only;rw[←hA,←hS2];have sA:A.size=(outK (ks.take m)).length+2:=by rw[hA];show(textK (ks.take m)).toArray.size=_;simpa using ht2
     have sS:S.size=(textK ks).length:=by rw[hS2];show(textK ks).toArray.size=_;simp
     have k3:¬(S.size:Int)<(A.size:Int):=by omega
     have k4:¬(A.size:Int)<2:=by omega
     have hA2:A.data.toList=outK (ks.take m)++[93,125]:=by rw[hA];exact text_out _
     have hS3:S.data.toList=textK ks:=by rw[hS2]
     have HF:Hid (∀j:Nat,(j:Int)=(A.size:Int)-2→A.data.toList.take j=S.data.toList.take j):=by
      intro j hj;have:j=(outK (ks.take m)).length:=by omega
      rw[hA2,hS3,this,hc2,List.take_left'];rfl
     have k5:(A.size:Int)≤100000:=by omega
     have k6:(S.size:Int)≤100000:=by omega
     obtain⟨j,hj⟩:∃j:Nat,(A.size:Int)-2=(j:Int):=⟨A.size-2,by omega⟩;have k7:(j:Int)≤(A.size:Int):=by omega
     have k8:(j:Int)≤(S.size:Int):=by omega
     have HF2:=thid (HF.out j hj.symm);clear hS HT hx1 hx2 ht2 hA hS2 sA sS hA2 hS3 hc1 hc2 HF;go_wp2_with (go_at_call 10;refine(hnum _ _).mono ?_;rintro e' w' ⟨rfl,hw⟩;have hw2:=hw.symm;subst hw2)
     go_quiet (fail);go_wp2_with fail
     go_ret;refine⟨?_,⟨B5.out.os,B5.out.tape,B5.out.output,B5.out.size,B5.out.block⟩⟩;have e5:(A.extract 0 j).toList=(S.extract 0 j).toList:=by
      rw[ByteArray.toList_eq,ByteArray.toList_eq,extract_list,extract_list];simpa using HF2.out
     exact tret_bool (by rw[e5];simp)
end Go.Proofs.YtfhjjbgjoclanaeDoor
