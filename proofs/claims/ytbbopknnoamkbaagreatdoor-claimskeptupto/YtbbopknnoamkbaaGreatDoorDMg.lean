import Derived.Test.YtbbopknnoamkbaaGreatDoorE1
import Derived.Test.YtbbopknnoamkbaaGreatDoorD1
import Derived.Test.YtbbopknnoamkbaaGreatDoorV1
import Derived.Test.YtbbopknnoamkbaaGreatDoorM1
import Derived.Test.YtbbopknnoamkbaaGreatDoorNAdd
import Derived.Test.YtbbopknnoamkbaaGreatDoorN6
import Derived.BigRegion
import Derived.BigQuiet
namespace Go.Proofs.YtbbopknnoamkbaaGreatDoor
open Go.RowKit
set_option linter.unusedVariables false
set_option linter.unusedSimpArgs false
set_option maxRecDepth 10000 in
set_option maxHeartbeats 8000000 in
theorem rmake_ok(s:ByteArray)(il:List UInt8)(a ttl:Int)(w:World)(hs:s.size≤140737488351232)(ms:List (List UInt8×JT))(j0:Nat)(hR:readL s.data.toList=.ok (.obj ms j0))(hE:(refA (flat 0 [] (.obj ms j0)) (startsM 1 ms)).1=0)(hA:¬memK (flat 0 [] (.obj ms j0)) audS (startsM 1 ms)<0)(hil:il.length≤1048576)(hU:Lib.validD il=true)(hr:¬(a<0∨ttl<1∨9007199254740991-ttl<a))(F:List UInt8)(hF:F=fmT (.obj (ms++four il a (a+ttl)) 0))(R1:List UInt8)(R2:Int)(hRa:F.length≤65536→R1=F∧R2=0)(hRb:¬F.length≤65536→R1=[]∧R2=1):Calls Tryz.prog 34 #[.string s,.string ⟨il.toArray⟩,.int .i64 a,.int .i64 ttl] w fun r w'=>r=.returned (.tuple #[.string ⟨R1.toArray⟩,.int .i64 R2,.int .i64 0])∧Below w.heap.size w w':=by
 have HRa:=dhid hRa;have HRb:=dhid hRb;clear hRa hRb;have hn0:(flat 0 [] (.obj ms j0))[0]?=some ⟨5,[],[],0,startsM 1 ms,j0⟩:=by rw[flat];rfl
 have hfit:=readL_rok hR;have hWL:=(read_fit hR).1;have hok:okM 65536 ms:=by have:=hfit.2.1;rw[okT]at this;exact this
 have hco:costM ms≤1966080:=by have:=hfit.1;rw[cost]at this;omega
 have hWM:=mkN_wfn ms j0 il a (a+ttl) hWL (by have:=hfit.2.2;omega) hil ⟨by omega,by omega⟩ ⟨by omega,by omega⟩;have hSM:=mkN_short ms j0 il a (a+ttl) hok hco hil ⟨by omega,by omega⟩ ⟨by omega,by omega⟩;have hML:=mkN_len ms j0 il a (a+ttl);have hfm:=mkN_form ms j0 il a (a+ttl) (1+sizeM ms+3) (by rw[JT.size];omega);rw[show 1+sizeM ms+3+1=(mkN (flat 0 [] (.obj ms j0)) il a (a+ttl)).length by omega,←hF]at hfm;have hch:=mkN_chain (flat 0 [] (.obj ms j0)) (fun e=>by rw[e]at hn0;simp at hn0) il a (a+ttl);have HFm:=dhid (And.intro hWM (And.intro hSM hfm));have hMl:0<(mkN (flat 0 [] (.obj ms j0)) il a (a+ttl)).length∧(mkN (flat 0 [] (.obj ms j0)) il a (a+ttl)).length=(flat 0 [] (.obj ms j0)).length+4:=⟨by omega,by rw[hML,flat_length,JT.size]⟩;clear hfit hok hco hWM hSM hML hfm hF hWL;generalize mkN (flat 0 [] (.obj ms j0)) il a (a+ttl)=M at *;obtain⟨n0,hn0e⟩:∃n0:Nd,n0=⟨5,[],[],0,startsM 1 ms,j0⟩:=⟨_,rfl⟩;have hk:n0.kind=5:=by rw[hn0e]
 have hE:(refA (flat 0 [] (.obj ms j0)) n0.kids).1=0:=by rw[hn0e];exact hE
 have hA:¬memK (flat 0 [] (.obj ms j0)) audS n0.kids<0:=by rw[hn0e];exact hA
 rw[←hn0e]at hn0;clear hn0e;have hrd:=rread_ns s w hs;simp only[hR]at hrd;have HR:=dhid hrd;have hl0:0<(flat 0 [] (.obj ms j0)).length:=(List.getElem?_eq_some_iff.1 hn0).1;have hW:=(read_fit hR).1;have hlen:=hW.len;have hki0:=hW.kids 0 n0 hn0;have hfew:=hW.few 0 n0 hn0;clear hrd hR;obtain⟨L1,hL1⟩:∃x,x=addKid (flat 0 [] (.obj ms j0)) (some 0) (flat 0 [] (.obj ms j0)).length++[⟨3,issS,il,0,[],0⟩]:=⟨_,rfl⟩;obtain⟨L2,hL2⟩:∃x,x=addKid L1 (some 0) L1.length++[⟨2,iatS,[],a,[],0⟩]:=⟨_,rfl⟩;obtain⟨L3,hL3⟩:∃x,x=addKid L2 (some 0) L2.length++[⟨2,nbfS,[],a,[],0⟩]:=⟨_,rfl⟩;have hL4:M=addKid L3 (some 0) L3.length++[⟨2,expS,[],a+ttl,[],0⟩]:=hch L1 L2 L3 hL1 hL2 hL3;have hk0:∀n∈flat 0 [] (.obj ms j0),n.kids.length≤1000000:=fun n hn=>by obtain⟨k,hk⟩:=List.getElem?_of_mem hn;exact hW.few k n hk
 have hk1:∀n∈L1,n.kids.length≤1000001:=by rw[hL1];exact addKid_few _ 0 _ _ _ hk0 rfl
 have hk2:∀n∈L2,n.kids.length≤1000002:=by rw[hL2];exact addKid_few _ 0 _ _ _ hk1 rfl
 have hk3:∀n∈L3,n.kids.length≤1000003:=by rw[hL3];exact addKid_few _ 0 _ _ _ hk2 rfl
 have z1:L1.length=(flat 0 [] (.obj ms j0)).length+1:=by rw[hL1,List.length_append,addKid_length];rfl
 have z2:L2.length=L1.length+1:=by rw[hL2,List.length_append,addKid_length];rfl
 have z3:L3.length=L2.length+1:=by rw[hL3,List.length_append,addKid_length];rfl
 have HK:=dhid (And.intro hk0 (And.intro hk1 (And.intro hk2 hk3)));have HLs:=dhid (And.intro hL1 (And.intro hL2 (And.intro hL3 hL4)));clear hch hL1 hL2 hL3 hL4 hk0 hk1 hk2 hk3;have hrt:=fun w1=>rright ⟨il.toArray⟩ w1 (by show il.toArray.size≤_;simp;omega)
 have el:(⟨il.toArray⟩:ByteArray).data.toList=il:=by simp
 rw[el]at hrt;have HRT:=dhid hrt;have HAU:=dhid hA;clear hA hrt el;have HE0:=dhid hE;clear hE;generalize flat 0 [] (.obj ms j0)=L at *;have kl0:(0:Int)<(L.length:Int):=by omega
 go_enter Tryz.func34,Tryz.ntmps34;go_wp2_with fail
 refine HR.out.mono ?_;rintro r w1 ⟨⟨v,rfl,hx,hNn⟩,hb⟩;have HB:=dhid hb;have HNN:=dhid hNn;clear hb HR hNn;obtain⟨ad,cap,rfl⟩:=hx.shape;obtain⟨g,adk,capk,rfl,_,hkb,hkc,d0,d1,d2,d3,d4,d5⟩:=hx.node hn0;rw[Nat.zero_mul]at d0 d4 d5;rw[Nat.zero_add]at d4 d5;have HX:=dhid hx;have HW:=dhid hW;have HN0:=dhid hn0;have HKC:=dhid hkc;have HKI:=dhid hki0;clear hx hW hn0 hkc hki0 d1 d2 d3;rw[show((n0.kind:Nat):Int)=5 by omega]at d0;clear d5 hk;go_wp2_with fail
 have HD4:=dhid d4;clear d0 d4;go_loopw [14] (fun iv wr=>∃i:Nat,i≤n0.kids.length∧iv=.int .i64 (i:Int)∧Below w1.heap.size w1 wr∧Hid (refA L n0.kids=refA L (n0.kids.drop i))) (fun iv _=>n0.kids.length-(intOf iv).toNat)
 case atStart=>exact⟨0,by omega,rfl,Below.refl _ _,rfl⟩
 case round=>
  obtain⟨i,hi,rfl,hb,hno⟩:=hrel;have HBr:=dhid hb;have d4:=cell_kp hb HD4.out;by_cases hlt2:i<n0.kids.length
  ·have k1:(i:Int)<(n0.kids.length:Int):=by omega
   obtain⟨c,hc⟩:∃c,n0.kids[i]?=some c:=⟨_,List.getElem?_eq_getElem hlt2⟩;obtain⟨gk,rfl,ck0⟩:=HKC.out i c hc;have ck:=cell_kp hb ck0;have hcl:=HKI.out c (List.mem_of_getElem? hc);obtain⟨m,hm⟩:∃m,L[c]?=some m:=⟨_,List.getElem?_eq_getElem hcl.2⟩;have hst:=refA_step L n0.kids i c hc;rw[ndA_of hm]at hst;have HSt:=dhid hst;have hxr:=HX.out.below hb;obtain⟨g',adm,capm,eg,_,_,_,e0,e1,e2,e3,e4,e5⟩:=hxr.node hm;obtain rfl:g=g':=by injection eg with eg;injection eg
   have k2:(c:Int)<(L.length:Int):=by omega
   have k2b:(c:Int)≤1000000:=by omega
   have n1:g<wr.heap.size:=World.block_lt_of_cell? wr _ e0;have n2:gk<wr.heap.size:=World.block_lt_of_cell? wr _ ck;have d4a:∀o,(wr.alloc o).cell? ⟨g,4,none⟩=some (.slice (some ⟨gk,0,none⟩) n0.kids.length capk):=fun o=>(World.cell?_alloc_lt _ _ _ n1).trans d4
   have cka:∀o,(wr.alloc o).cell? ⟨gk,i,none⟩=some (.int .i64 (c:Int)):=fun o=>(World.cell?_alloc_lt _ _ _ n2).trans ck
   have HCL:=dhid (fun o=>rwrongAud (.slice (some ⟨g,0,none⟩) L.length cap) L (wr.alloc o) (hxr.below (dbal (Below.refl wr.heap.size wr) o)) HW.out c m hm);have HBa:=dhid (fun o=>HBr.out.trans ((dbal (Below.refl wr.heap.size wr) o).mono HBr.out.size));have HSz:=dhid (fun o:Obj=>(show wr.heap.size≤(wr.alloc o).heap.size by simp));clear hb hc ck0 hm hst hxr eg;by_cases ka:m.key=audS
   ·have er:refE L m=audE L m:=by unfold refE;rw[ka];rw[if_neg (by decide),if_pos rfl]
    rw[ka]at e1;unfold audS at e1;rw[er]at HSt;clear ka er;go_wp2_with fail
    refine(HCL.out _).mono ?_;rintro r w2 ⟨rfl,hb2⟩;have HBs:=dhid ((HBa.out _).trans (hb2.mono (Nat.le_trans HBr.out.size (HSz.out _))));clear hb2 HCL HBa;have HSt2:Hid ((audE L m).1=0∧refA L (n0.kids.drop i)=refA L (n0.kids.drop (i+1))):=dhid (by
     by_cases he:(audE L m).1=0
     ·exact⟨he,by rw[HSt.out,if_pos he]⟩
     ·exact absurd (by have:=HE0.out;rw[hno.out,HSt.out,if_neg he]at this;exact this) he)
    have he:=HSt2.out.1;clear HSt;go_wp2_with fail
    go_roundw
    case rel=>exact⟨i+1,by omega,by go_num,HBs.out,by rw[hno.out,HSt2.out.2];exact rfl⟩
    case measure=>simp[intOf];omega
   ·have kf:¬(m.key=issS∨m.key=iatS∨m.key=nbfS∨m.key=expS):=fun h=>by
     have er:refE L m=(4,(m.at':Int)):=by unfold refE;rw[if_pos h]
     have:=HE0.out;rw[hno.out,HSt.out,er,if_neg (by simp)]at this;simp at this
    have q1:(m.key==[105,115,115])=false:=beq_eq_false_iff_ne.2 (fun e=>kf (.inl e));have q2:(m.key==[97,117,100])=false:=beq_eq_false_iff_ne.2 ka;have q3:(m.key==[105,97,116])=false:=beq_eq_false_iff_ne.2 (fun e=>kf (.inr (.inl e)));have q4:(m.key==[110,98,102])=false:=beq_eq_false_iff_ne.2 (fun e=>kf (.inr (.inr (.inl e))));have q5:(m.key==[101,120,112])=false:=beq_eq_false_iff_ne.2 (fun e=>kf (.inr (.inr (.inr e))));have HSt2:Hid (refA L (n0.kids.drop i)=refA L (n0.kids.drop (i+1))):=dhid (by
     have er:refE L m=(0,0):=by unfold refE;rw[if_neg kf,if_neg ka]
     rw[HSt.out,er,if_pos rfl])
    clear HSt kf ka;go_wp2_with fail
    go_roundw
    case rel=>exact⟨i+1,by omega,by go_num,HBa.out _,by rw[hno.out,HSt2.out];exact rfl⟩
    case measure=>simp[intOf];omega
  ·have k1:¬(i:Int)<(n0.kids.length:Int):=by omega
   have HXr:=dhid (HX.out.below hb);have HBw:Hid (Below w.heap.size w wr):=dhid (HB.out.trans (hb.mono (by have:=HB.out.size;omega)));have HM:=dhid (rmemK (.slice (some ⟨g,0,none⟩) L.length cap) L wr HXr.out HW.out 0 n0 HN0.out audS);have HBk:=dhid hb;clear hno hb HX HB HKC;go_wp2_with fail
   refine HM.out.mono ?_;rintro r w9 ⟨rfl,hw9⟩;rw[hw9];clear hw9 w9 HM;have p2:=HAU.out;go_wp2_with fail
   refine(HRT.out wr).mono ?_;rintro r w9 ⟨⟨bq,rfl,hbq⟩,hw9⟩;rw[hw9];clear hw9 w9 HRT;obtain rfl:bq=true:=hbq.2 ((valid_u8 il).1 hU);clear hbq;have r1:¬a<0:=by omega
   have r2:¬ttl<1:=by omega
   have r3:¬9007199254740991<a:=by omega
   have r4:¬9007199254740991-a<ttl:=by omega
   have HN1:Hid (Nodes (w.heap.size+1) 87 (.slice (some ⟨g,0,none⟩) L.length cap) L wr):=HNN.out.kept fun k _ hk=>HBk.out.block k hk
   clear HNN HE0 HKI hr HAU;have hw1:w.heap.size+1≤wr.heap.size:=nodes_lt HN1.out hl0;go_wp2_with fail
   have HR0:Hid (RD wr.heap.size ⟨#[]⟩ 0 (.slice (some ⟨g,0,none⟩) L.length cap) 0 0 0 (wr.alloc (.cells #[.string ⟨#[]⟩,.int .i64 0,.slice (some ⟨g,0,none⟩) L.length cap,.int .i64 0,.int .i64 0,.int .i64 0] 74))):=heap_alloc_new _ _;have HN0:Hid (Nodes (w.heap.size+1) 87 (.slice (some ⟨g,0,none⟩) L.length cap) L (wr.alloc (.cells #[.string ⟨#[]⟩,.int .i64 0,.slice (some ⟨g,0,none⟩) L.length cap,.int .i64 0,.int .i64 0,.int .i64 0] 74))):=HN1.out.kept fun k _ hk=>heap_alloc_old _ _ hk
   have HZ:Hid (Below wr.heap.size wr (wr.alloc (.cells #[.string ⟨#[]⟩,.int .i64 0,.slice (some ⟨g,0,none⟩) L.length cap,.int .i64 0,.int .i64 0,.int .i64 0] 74))):=dhid (dbal (Below.refl _ _) _);clear HN1;generalize wr.alloc (.cells #[.string ⟨#[]⟩,.int .i64 0,.slice (some ⟨g,0,none⟩) L.length cap,.int .i64 0,.int .i64 0,.int .i64 0] 74)=x0 at *;have hBp:=hw1;have HB0:Hid (Below (w.heap.size+1) x0 x0):=dhid (Below.refl _ _);obtain⟨ad0,had⟩:∃x,x=some (⟨g,0,none⟩:Addr):=⟨_,rfl⟩;obtain⟨cap0,hcap⟩:∃x,x=cap:=⟨_,rfl⟩;rw[←had,←hcap]at HR0 HN0;refine(radd_leaf (w.heap.size+1) wr.heap.size hBp ⟨#[]⟩ 0 ad0 cap0 0 0 0 L ⟨3,issS,il,0,[],0⟩ (.agg #[.int .i64 3,.string ⟨#[105,115,115]⟩,.string ⟨il.toArray⟩,.int .i64 0,.slice none 0 0,.int .i64 0]) x0 HR0.out HN0.out rfl (by omega) (by omega) (fun n hn=>by have:=HK.out.1 n hn;omega) rfl).mono ?_;rintro r x1 ⟨rfl,⟨v1,hr1,hn1⟩,hb1⟩;rw[←HLs.out.1]at hn1;obtain⟨ad1,cap1,rfl⟩:=hn1.shape;have HR1:=dhid hr1;have HN1:=dhid hn1;have HB1:Hid (Below (w.heap.size+1) x0 x1):=dhid (HB0.out.trans hb1);clear hr1 hn1 hb1 HR0 HN0 HB0;go_wp2_with fail
   refine(radd_leaf (w.heap.size+1) wr.heap.size hBp ⟨#[]⟩ 0 ad1 cap1 0 0 0 L1 ⟨2,iatS,[],a,[],0⟩ (.agg #[.int .i64 2,.string ⟨#[105,97,116]⟩,.string ⟨#[]⟩,.int .i64 a,.slice none 0 0,.int .i64 0]) x1 HR1.out HN1.out rfl (by omega) (by omega) (fun n hn=>by have:=HK.out.2.1 n hn;omega) rfl).mono ?_;rintro r x2 ⟨rfl,⟨v2,hr2,hn2⟩,hb2⟩;rw[←HLs.out.2.1]at hn2;obtain⟨ad2,cap2,rfl⟩:=hn2.shape;have HR2:=dhid hr2;have HN2:=dhid hn2;have HB2:Hid (Below (w.heap.size+1) x0 x2):=dhid (HB1.out.trans hb2);clear hr2 hn2 hb2 HR1 HN1 HB1;go_wp2_with fail
   refine(radd_leaf (w.heap.size+1) wr.heap.size hBp ⟨#[]⟩ 0 ad2 cap2 0 0 0 L2 ⟨2,nbfS,[],a,[],0⟩ (.agg #[.int .i64 2,.string ⟨#[110,98,102]⟩,.string ⟨#[]⟩,.int .i64 a,.slice none 0 0,.int .i64 0]) x2 HR2.out HN2.out rfl (by omega) (by omega) (fun n hn=>by have:=HK.out.2.2.1 n hn;omega) rfl).mono ?_;rintro r x3 ⟨rfl,⟨v3,hr3,hn3⟩,hb3⟩;rw[←HLs.out.2.2.1]at hn3;obtain⟨ad3,cap3,rfl⟩:=hn3.shape;have HR3:=dhid hr3;have HN3:=dhid hn3;have HB3:Hid (Below (w.heap.size+1) x0 x3):=dhid (HB2.out.trans hb3);clear hr3 hn3 hb3 HR2 HN2 HB2;go_wp2_with fail
   refine(radd_leaf (w.heap.size+1) wr.heap.size hBp ⟨#[]⟩ 0 ad3 cap3 0 0 0 L3 ⟨2,expS,[],a+ttl,[],0⟩ (.agg #[.int .i64 2,.string ⟨#[101,120,112]⟩,.string ⟨#[]⟩,.int .i64 (a+ttl),.slice none 0 0,.int .i64 0]) x3 HR3.out HN3.out rfl (by omega) (by omega) (fun n hn=>by have:=HK.out.2.2.2 n hn;omega) rfl).mono ?_;rintro r x4 ⟨rfl,⟨v4,hr4,hn4⟩,hb4⟩;rw[←HLs.out.2.2.2]at hn4;obtain⟨ad4,cap4,rfl⟩:=hn4.shape;have HR4:=dhid hr4;have HN4:=dhid hn4;have HB4:Hid (Below (w.heap.size+1) x0 x4):=dhid (HB3.out.trans hb4);clear hr4 hn4 hb4 HR3 HN3 HB3;obtain⟨g4,rfl⟩:∃g4,ad4=some ⟨g4,0,none⟩:=by
    obtain⟨kvs,_,k2,_⟩:=HN4.out;rcases k2.2 with⟨e,h0⟩|⟨g4,c,cu,e,_⟩
    ·omega
    ·injection e with e _ _;exact⟨g4,e⟩
   have c2:=HR4.out.cell.2.2.1;have hMp:=hMl.1;clear hMl z1 z2 z3;have HFo:=dhid (rform (w.heap.size+1) g4 cap4 M HFm.out.1 HFm.out.2.1 M.length 0 hMp (Nat.sub_le _ _) x4 HN4.out);rw[HFm.out.2.2]at HFo;obtain⟨T,hT,hTs⟩:∃T:ByteArray,T=⟨F.toArray⟩∧T.size=F.length:=⟨_,rfl,by show F.toArray.size=F.length;simp⟩;rw[←hT]at HFo;have HTs:=dhid hTs;clear hTs;have HBz:Hid (Below w.heap.size w x4):=dhid ((HBw.out.trans (HZ.out.mono (by have:=HBw.out.size;omega))).trans (HB4.out.mono (Nat.le_succ _)));clear HR4 HN4 HB4 HZ HK HLs HBw HXr;go_wp2_with fail
   refine HFo.out.mono ?_;rintro r x5 ⟨rfl,hb5⟩;have HBy:Hid (Below w.heap.size w x5):=dhid (HBz.out.trans (hb5.mono HBz.out.size));have HT:=dhid hT;clear hb5 HFo HBz c2 hT;by_cases hsz:F.length≤65536
   ·skip
    have k9:¬(65536:Int)<(T.size:Int):=by have:=HTs.out;omega
    have HSQ:=dhid hsz;clear HFm hsz;go_wp2_with fail
    go_ret3
    refine⟨?_,HBy.out⟩;obtain⟨e1,e2⟩:=HRa.out HSQ.out;rw[e1,e2,←HT.out];rfl
   ·skip
    have k9:(65536:Int)<(T.size:Int):=by have:=HTs.out;omega
    have HSQ:=dhid hsz;clear HFm hsz;go_wp2_with fail
    go_ret3
    refine⟨?_,HBy.out⟩;obtain⟨e1,e2⟩:=HRb.out HSQ.out;rw[e1,e2];rfl
end Go.Proofs.YtbbopknnoamkbaaGreatDoor
