import Derived.Test.YtbbopknnoamkbaaGreatDoorE1
import Derived.Test.YtbbopknnoamkbaaGreatDoorD1
import Derived.Test.YtbbopknnoamkbaaGreatDoorV1
import Derived.BigRegion
import Derived.BigQuiet
namespace Go.Proofs.YtbbopknnoamkbaaGreatDoor
open Go.RowKit
set_option linter.unusedVariables false
set_option linter.unusedSimpArgs false
set_option maxRecDepth 10000 in
set_option maxHeartbeats 8000000 in
theorem rmake_deny(s:ByteArray)(il:List UInt8)(a ttl:Int)(w:World)(hs:s.size≤140737488351232)(t:JT)(hR:readL s.data.toList=.ok t)(n0:Nd)(hn0:(flat 0 [] t)[0]?=some n0)(hk:n0.kind=5)(hE:(refA (flat 0 [] t) n0.kids).1=0)(hil:il.length≤1048576)(ha0: -9223372036854775808≤a)(ha1:a≤9223372036854775807)(ht0: -9223372036854775808≤ttl)(ht1:ttl≤9223372036854775807)(q:Int)(hq7:memK (flat 0 [] t) audS n0.kids<0→q=7)(hq2:¬memK (flat 0 [] t) audS n0.kids<0→Lib.validD il=false→q=2)(hq3:¬memK (flat 0 [] t) audS n0.kids<0→Lib.validD il=true→q=3∧(a<0∨ttl<1∨9007199254740991-ttl<a)):Calls Tryz.prog 34 #[.string s,.string ⟨il.toArray⟩,.int .i64 a,.int .i64 ttl] w fun r w'=>r=.returned (.tuple #[.string ⟨([]:List UInt8).toArray⟩,.int .i64 q,.int .i64 0])∧Below w.heap.size w w':=by
 have hrd:=rread_ns s w hs;simp only[hR]at hrd;have HR:=dhid hrd;have hl0:0<(flat 0 [] t).length:=(List.getElem?_eq_some_iff.1 hn0).1;have hW:=(read_fit hR).1;have hlen:=hW.len;have hki0:=hW.kids 0 n0 hn0;have hfew:=hW.few 0 n0 hn0;clear hrd hR;have hrt:=fun w1=>rright ⟨il.toArray⟩ w1 (by show il.toArray.size≤_;simp;omega)
 have el:(⟨il.toArray⟩:ByteArray).data.toList=il:=by simp
 rw[el]at hrt;have HRT:=dhid hrt;have HQ7:=dhid hq7;have HQ2:=dhid hq2;have HQ3:=dhid hq3;clear hq7 hq2 hq3 hrt el;have HE0:=dhid hE;clear hE;generalize flat 0 [] t=L at *;have kl0:(0:Int)<(L.length:Int):=by omega
 go_enter Tryz.func34,Tryz.ntmps34;go_wp2_with fail
 refine HR.out.mono ?_;rintro r w1 ⟨⟨v,rfl,hx,hNn⟩,hb⟩;have HB:=dhid hb;have HNN:=dhid hNn;clear hb HR hNn;obtain⟨ad,cap,rfl⟩:=hx.shape;obtain⟨g,adk,capk,rfl,_,hkb,hkc,d0,d1,d2,d3,d4,d5⟩:=hx.node hn0;rw[Nat.zero_mul]at d0 d4 d5;rw[Nat.zero_add]at d4 d5;have HX:=dhid hx;have HW:=dhid hW;have HN0:=dhid hn0;have HKC:=dhid hkc;have HKI:=dhid hki0;clear hx hW hn0 hkc hki0 d1 d2 d3;rw[show((n0.kind:Nat):Int)=5 by omega]at d0;clear d5 hk;go_wp2_with fail
 have HD4:=dhid d4;clear d0 d4;go_loopw [14] (fun iv wr=>∃i:Nat,i≤n0.kids.length∧iv=.int .i64 (i:Int)∧Below w1.heap.size w1 wr∧Hid (refA L n0.kids=refA L (n0.kids.drop i))) (fun iv _=>n0.kids.length-(intOf iv).toNat)
 case atStart=>exact⟨0,by omega,rfl,Below.refl _ _,rfl⟩
 case round=>
  obtain⟨i,hi,rfl,hb,hno⟩:=hrel;have HBr:=dhid hb;have d4:=cell_kp hb HD4.out;by_cases hlt2:i<n0.kids.length
  ·have k1:(i:Int)<(n0.kids.length:Int):=by omega
   obtain⟨c,hc⟩:∃c,n0.kids[i]?=some c:=⟨_,List.getElem?_eq_getElem hlt2⟩;obtain⟨gk,rfl,ck0⟩:=HKC.out i c hc;have ck:=cell_kp hb ck0;have hcl:=HKI.out c (List.mem_of_getElem? hc);obtain⟨m,hm⟩:∃m,L[c]?=some m:=⟨_,List.getElem?_eq_getElem hcl.2⟩;have hst:=refA_step L n0.kids i c hc;rw[ndA_of hm]at hst;have HSt:=dhid hst;have hxr:=HX.out.below hb;obtain⟨g',adm,capm,eg,_,_,_,e0,e1,e2,e3,e4,e5⟩:=hxr.node hm;obtain rfl:g=g':=by injection eg with eg;injection eg
   have k2:(c:Int)<(L.length:Int):=by omega
   have k2b:(c:Int)≤1000000:=by omega
   have n1:g<wr.heap.size:=World.block_lt_of_cell? wr _ e0;have n2:gk<wr.heap.size:=World.block_lt_of_cell? wr _ ck;have d4a:∀o,(wr.alloc o).cell? ⟨g,4,none⟩=some (.slice (some ⟨gk,0,none⟩) n0.kids.length capk):=fun o=>(World.cell?_alloc_lt _ _ _ n1).trans d4
   have cka:∀o,(wr.alloc o).cell? ⟨gk,i,none⟩=some (.int .i64 (c:Int)):=fun o=>(World.cell?_alloc_lt _ _ _ n2).trans ck
   have HCL:=dhid (fun o=>rwrongAud (.slice (some ⟨g,0,none⟩) L.length cap) L (wr.alloc o) (hxr.below (dbal (Below.refl wr.heap.size wr) o)) HW.out c m hm);have HBa:=dhid (fun o=>HBr.out.trans ((dbal (Below.refl wr.heap.size wr) o).mono HBr.out.size));have HSz:=dhid (fun o:Obj=>(show wr.heap.size≤(wr.alloc o).heap.size by simp));clear hb hc ck0 hm hst hxr eg;by_cases ka:m.key=audS
   ·have er:refE L m=audE L m:=by unfold refE;rw[ka];rw[if_neg (by decide),if_pos rfl]
    rw[ka]at e1;unfold audS at e1;rw[er]at HSt;clear ka er;go_wp2_with fail
    refine(HCL.out _).mono ?_;rintro r w2 ⟨rfl,hb2⟩;have HBs:=dhid ((HBa.out _).trans (hb2.mono (Nat.le_trans HBr.out.size (HSz.out _))));clear hb2 HCL HBa;have HSt2:Hid ((audE L m).1=0∧refA L (n0.kids.drop i)=refA L (n0.kids.drop (i+1))):=dhid (by
     by_cases he:(audE L m).1=0
     ·exact⟨he,by rw[HSt.out,if_pos he]⟩
     ·exact absurd (by have:=HE0.out;rw[hno.out,HSt.out,if_neg he]at this;exact this) he)
    have he:=HSt2.out.1;clear HSt;go_wp2_with fail
    go_roundw
    case rel=>exact⟨i+1,by omega,by go_num,HBs.out,by rw[hno.out,HSt2.out.2];exact rfl⟩
    case measure=>simp[intOf];omega
   ·have kf:¬(m.key=issS∨m.key=iatS∨m.key=nbfS∨m.key=expS):=fun h=>by
     have er:refE L m=(4,(m.at':Int)):=by unfold refE;rw[if_pos h]
     have:=HE0.out;rw[hno.out,HSt.out,er,if_neg (by simp)]at this;simp at this
    have q1:(m.key==[105,115,115])=false:=beq_eq_false_iff_ne.2 (fun e=>kf (.inl e));have q2:(m.key==[97,117,100])=false:=beq_eq_false_iff_ne.2 ka;have q3:(m.key==[105,97,116])=false:=beq_eq_false_iff_ne.2 (fun e=>kf (.inr (.inl e)));have q4:(m.key==[110,98,102])=false:=beq_eq_false_iff_ne.2 (fun e=>kf (.inr (.inr (.inl e))));have q5:(m.key==[101,120,112])=false:=beq_eq_false_iff_ne.2 (fun e=>kf (.inr (.inr (.inr e))));have HSt2:Hid (refA L (n0.kids.drop i)=refA L (n0.kids.drop (i+1))):=dhid (by
     have er:refE L m=(0,0):=by unfold refE;rw[if_neg kf,if_neg ka]
     rw[HSt.out,er,if_pos rfl])
    clear HSt kf ka;go_wp2_with fail
    go_roundw
    case rel=>exact⟨i+1,by omega,by go_num,HBa.out _,by rw[hno.out,HSt2.out];exact rfl⟩
    case measure=>simp[intOf];omega
  ·have k1:¬(i:Int)<(n0.kids.length:Int):=by omega
   have HXr:=dhid (HX.out.below hb);have HBw:Hid (Below w.heap.size w wr):=dhid (HB.out.trans (hb.mono (by have:=HB.out.size;omega)));have HM:=dhid (rmemK (.slice (some ⟨g,0,none⟩) L.length cap) L wr HXr.out HW.out 0 n0 HN0.out audS);have HBk:=dhid hb;clear hno hb HX HB HKC;go_wp2_with fail
   refine HM.out.mono ?_;rintro r w9 ⟨rfl,hw9⟩;rw[hw9];clear hw9 w9 HM;by_cases p2:memK L audS n0.kids<0
   ·obtain rfl:=HQ7.out p2
    go_wp2_with fail
    go_ret3
    exact⟨rfl,HBw.out⟩
   go_wp2_with fail
   refine(HRT.out wr).mono ?_;rintro r w9 ⟨⟨bq,rfl,hbq⟩,hw9⟩;rw[hw9];clear hw9 w9 HRT;cases bq with
   | false=>
     have hU:Lib.validD il=false:=by
      cases hv:Lib.validD il with
      | false=>rfl
      | true=>exact absurd (hbq.2 ((valid_u8 il).1 hv)) (by decide)
     obtain rfl:=HQ2.out p2 hU;clear hbq hU;go_wp2_with fail
     go_ret3
     exact⟨rfl,HBw.out⟩
   | true=>
     obtain⟨rfl,hr⟩:=HQ3.out p2 ((valid_u8 il).2 (hbq.1 rfl));have HRG:=dhid hr;clear hbq hr;by_cases r1:a<0
     ·go_wp2_with fail
      go_ret3
      exact⟨rfl,HBw.out⟩
     by_cases r2:ttl<1
     ·go_wp2_with fail
      go_ret3
      exact⟨rfl,HBw.out⟩
     by_cases r3:9007199254740991<a
     ·go_wp2_with fail
      go_ret3
      exact⟨rfl,HBw.out⟩
     have r4:9007199254740991-a<ttl:=by have:=HRG.out;omega
     go_wp2_with fail
     go_ret3
     exact⟨rfl,HBw.out⟩
end Go.Proofs.YtbbopknnoamkbaaGreatDoor
