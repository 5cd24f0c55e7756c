import Derived.Test.YtaghclgookfmnaaGreatDoorE5
import Derived.BigRegion
import Derived.Deep.RegionHeld3
namespace Go.Proofs.YtaghclgookfmnaaGreatDoor
open Go.RowKit
set_option linter.unusedVariables false
set_option maxRecDepth 10000 in
set_option maxHeartbeats 8000000 in
theorem rreadClaims_d(s:ByteArray)(w:World)(hs:s.size≤140737488351232)(t:JT)(hR:readL s.data.toList=.ok t)(n0:Nd)(hn0:(flat 0 [] t)[0]?=some n0)(hStr:∀n∈flat 0 [] t,n.kind=3→n.kids=[])(hk:n0.kind=5)(hE:(allE (flat 0 [] t) n0.kids).1=0)(hlk:¬lackB (flat 0 [] t) n0.kids=true)(hk3:(ndA (flat 0 [] t) (memK (flat 0 [] t) audS n0.kids).toNat).kind=3):Calls Tryz.prog 5 #[.string s] w fun r w'=>DQ w.heap.size (rdD (flat 0 [] t)) r w'∧Below w.heap.size w w':=by
 have hrd:=rread_nd s (w.alloc (.cells #[.string ⟨#[]⟩,.slice none 0 0,.int .i64 0,.int .i64 0,.int .i64 0] 28)) hs;simp only[hR]at hrd;have HR:=dhid hrd;have hl0:0<(flat 0 [] t).length:=(List.getElem?_eq_some_iff.1 hn0).1;have hW:=(read_fit hR).1;have hlen:=hW.len;have hki0:=hW.kids 0 n0 hn0;have hfew:=hW.few 0 n0 hn0;clear hrd hR;generalize flat 0 [] t=L at *;have HE0:=dhid hE;have HLK:=dhid hlk;have HK3:=dhid hk3;clear hE hlk hk3;have kl0:(0:Int)<(L.length:Int):=by omega
 go_enter Tryz.func5,Tryz.ntmps5;go_wp2_with fail
 refine HR.out.mono ?_;rintro r w1 ⟨⟨v,rfl,hx⟩,hb⟩;have z0:w1.cell? ⟨w.heap.size,0,none⟩=some (.string ⟨#[]⟩):=cell_kp hb (by simp);have z1:w1.cell? ⟨w.heap.size,1,none⟩=some (.slice none 0 0):=cell_kp hb (by simp);have z2:w1.cell? ⟨w.heap.size,2,none⟩=some (.int .i64 0):=cell_kp hb (by simp);have z3:w1.cell? ⟨w.heap.size,3,none⟩=some (.int .i64 0):=cell_kp hb (by simp);have z4:w1.cell? ⟨w.heap.size,4,none⟩=some (.int .i64 0):=cell_kp hb (by simp);have f0:∀k,w1.frozen? ⟨w.heap.size,k,none⟩=false:=fun k=>(hb.frozen (p:=⟨w.heap.size,k,none⟩) (by simp)).trans (by simp)
 have hlt:w.heap.size<w1.heap.size:=by have:=hb.size;simp at this;omega
 have HB:=dhid ((dbal (Below.refl w.heap.size w) _).trans (hb.mono (by simp)));clear hb HR;obtain⟨ad,cap,rfl⟩:=hx.shape;obtain⟨g,adk,capk,rfl,_,hkb,hkc,d0,d1,d2,d3,d4,d5⟩:=hx.node hn0;rw[Nat.zero_mul]at d0 d4 d5;rw[Nat.zero_add]at d4 d5;have HX:=dhid hx;have HW:=dhid hW;have HN0:=dhid hn0;have HKC:=dhid hkc;have HKI:=dhid hki0;clear hx hW hn0 hkc hki0 d1 d2 d3;rw[show((n0.kind:Nat):Int)=5 by omega]at d0;have hq:rdD L=if(allE L n0.kids).1=0 then if lackB L n0.kids=true then(cl0,7,0)else(clD L n0.kids,0,0)else(cl0,allE L n0.kids):=by
  unfold rdD;rw[ndA_of HN0.out,if_pos hk]
 have HQ:=dhid hq;clear hq d5 hk;go_wp2_with fail
 have HZ:=dhid (And.intro z0 (And.intro z1 (And.intro z2 (And.intro z3 z4))));have HF0:=dhid f0;have HD4:=dhid d4;clear d0 d4 z0 z1 z2 z3 z4 f0;go_loopw [8] (fun iv wr=>∃i:Nat,i≤n0.kids.length∧iv=.int .i64 (i:Int)∧Below w1.heap.size w1 wr∧Hid (allE L n0.kids=allE L (n0.kids.drop i))) (fun iv _=>n0.kids.length-(intOf iv).toNat)
 case atStart=>exact⟨0,by omega,rfl,Below.refl _ _,rfl⟩
 case round=>
  obtain⟨i,hi,rfl,hb,hno⟩:=hrel;have HBr:=dhid hb;have d4:=cell_kp hb HD4.out;by_cases hlt2:i<n0.kids.length
  ·have k1:(i:Int)<(n0.kids.length:Int):=by omega
   obtain⟨c,hc⟩:∃c,n0.kids[i]?=some c:=⟨_,List.getElem?_eq_getElem hlt2⟩;obtain⟨gk,rfl,ck0⟩:=HKC.out i c hc;have ck:=cell_kp hb ck0;have hcl:=HKI.out c (List.mem_of_getElem? hc);obtain⟨m,hm⟩:∃m,L[c]?=some m:=⟨_,List.getElem?_eq_getElem hcl.2⟩;have hst:=allE_step L n0.kids i c hc;rw[ndA_of hm]at hst;have HSt:=dhid hst;have HCL:=dhid (rwrongClaim (.slice (some ⟨g,0,none⟩) L.length cap) L wr (HX.out.below hb) HW.out c m hm);clear hb hc ck0 hm hst;go_wp2_with fail
   refine HCL.out.mono ?_;rintro r w2 ⟨rfl,hb2⟩;have HBs:=dhid (HBr.out.trans (hb2.mono HBr.out.size));clear hb2 HCL;by_cases he:(clmE L m).1=0
   ·have HSt2:Hid (allE L (n0.kids.drop i)=allE L (n0.kids.drop (i+1))):=dhid (by rw[HSt.out,if_pos he])
    clear HSt;go_wp2_with fail
    go_roundw
    case rel=>exact⟨i+1,by omega,by go_num,HBs.out,by rw[hno.out,HSt2.out];exact rfl⟩
    case measure=>simp[intOf];omega
   ·have ha:allE L n0.kids=clmE L m:=by rw[hno.out,HSt.out,if_neg he]
    exact absurd (by rw[←ha];exact HE0.out) he
  ·have k1:¬(i:Int)<(n0.kids.length:Int):=by omega
   have ha:(allE L n0.kids).1=0:=by rw[hno.out,List.drop_eq_nil_of_le (by omega)];rfl
   have HQ2:Hid (rdD L=if lackB L n0.kids=true then(cl0,7,0)else(clD L n0.kids,0,0)):=dhid (by rw[HQ.out,if_pos ha]);have HXr:=dhid (HX.out.below hb);have z0:=cell_kp hb HZ.out.1;have z1:=cell_kp hb HZ.out.2.1;have z2:=cell_kp hb HZ.out.2.2.1;have z3:=cell_kp hb HZ.out.2.2.2.1;have z4:=cell_kp hb HZ.out.2.2.2.2;have f0:∀k,wr.frozen? ⟨w.heap.size,k,none⟩=false:=fun k=>(hb.frozen (p:=⟨w.heap.size,k,none⟩) hlt).trans (HF0.out k)
   have hltr:w.heap.size<wr.heap.size:=by have:=hb.size;omega
   have HBw:Hid (Below w.heap.size w wr):=dhid (HB.out.trans (hb.mono (by omega)));have HM:=dhid (fun nm=>rmemK (.slice (some ⟨g,0,none⟩) L.length cap) L wr HXr.out HW.out 0 n0 HN0.out nm);have HZr:=dhid (And.intro z0 (And.intro z1 (And.intro z2 (And.intro z3 z4))));have HFr:=dhid f0;clear ha hno hb HBr HQ HX HB HZ HF0 HKC z0 z1 z2 z3 z4 f0 HD4;go_wp2_with fail
   refine(HM.out issS).mono ?_;rintro r w9 ⟨rfl,hw9⟩;rw[hw9];clear hw9 w9;go_wp2_with fail
   refine(HM.out audS).mono ?_;rintro r w9 ⟨rfl,hw9⟩;rw[hw9];clear hw9 w9;go_wp2_with fail
   refine(HM.out iatS).mono ?_;rintro r w9 ⟨rfl,hw9⟩;rw[hw9];clear hw9 w9;go_wp2_with fail
   refine(HM.out nbfS).mono ?_;rintro r w9 ⟨rfl,hw9⟩;rw[hw9];clear hw9 w9;go_wp2_with fail
   refine(HM.out expS).mono ?_;rintro r w9 ⟨rfl,hw9⟩;rw[hw9];clear hw9 w9;clear HM;obtain⟨p1,p2,p3,p4,p5⟩:¬memK L issS n0.kids<0∧¬memK L audS n0.kids<0∧¬memK L iatS n0.kids<0∧¬memK L nbfS n0.kids<0∧¬memK L expS n0.kids<0:=lack_no HLK.out;generalize wr=wq at *;clear wr;have hkl:∀c∈n0.kids,c<L.length:=fun c hc=>(HKI.out c hc).2
   obtain⟨k1',a1,e1,l1,m1⟩:=ndK (S:=issS) hkl p1;obtain⟨k2',a2,e2,l2,m2⟩:=ndK (S:=audS) hkl p2;obtain⟨k3',a3,e3,l3,m3⟩:=ndK (S:=iatS) hkl p3;obtain⟨k4',a4,e4,l4,m4⟩:=ndK (S:=nbfS) hkl p4;obtain⟨k5',a5,e5,l5,m5⟩:=ndK (S:=expS) hkl p5;have H3K:Hid ((ndA L (memK L audS n0.kids).toNat).kind=a2.kind):=dhid (by rw[e2,Int.toNat_natCast,ndA_of m2]);have hq2:rdD L=(⟨⟨a1.text.toArray⟩,(if a2.kind=3 then [⟨a2.text.toArray⟩]else [])++audTD L a2.kids,a3.num,a4.num,a5.num⟩,0,0):=by
    rw[HQ2.out,if_neg (by unfold lackB;simp[p1,p2,p3,p4,p5])];unfold clD audTD;rw[e1,e2,e3,e4,e5];simp only[Int.toNat_natCast,ndA_of m1,ndA_of m2,ndA_of m3,ndA_of m4,ndA_of m5]
   have HQ3:=dhid hq2;rw[e1,e2,e3,e4,e5];have t1:=(HXr.out.cs m1).2.2.1;have t3:=(HXr.out.cs m3).2.2.2.1;have t4:=(HXr.out.cs m4).2.2.2.1;have t5:=(HXr.out.cs m5).2.2.2.1;obtain⟨g',ad2,cap2,eg,_,hkb2,hkc2,b0,b1,b2,b3,b4,b5⟩:=HXr.out.node m2;obtain rfl:g=g':=by injection eg with eg;injection eg
   have HKC2:=dhid hkc2;have HKL2:=dhid (fun c hc=>(HW.out.kids k2' a2 m2 c hc).2);have HFW2:=dhid (HW.out.few k2' a2 m2);have HS3:=dhid (fun h3=>hStr a2 (List.mem_of_getElem? m2) h3);have hgr:g<wq.heap.size:=World.block_lt_of_cell? wq _ t1;have t1a:∀o,(wq.alloc o).cell? ⟨g,k1'*6+2,none⟩=some (.string ⟨a1.text.toArray⟩):=fun o=>(World.cell?_alloc_lt _ _ _ hgr).trans t1
   have t3a:∀o,(wq.alloc o).cell? ⟨g,k3'*6+3,none⟩=some (.int .i64 a3.num):=fun o=>(World.cell?_alloc_lt _ _ _ hgr).trans t3
   have t4a:∀o,(wq.alloc o).cell? ⟨g,k4'*6+3,none⟩=some (.int .i64 a4.num):=fun o=>(World.cell?_alloc_lt _ _ _ hgr).trans t4
   have t5a:∀o,(wq.alloc o).cell? ⟨g,k5'*6+3,none⟩=some (.int .i64 a5.num):=fun o=>(World.cell?_alloc_lt _ _ _ hgr).trans t5
   have i1:(k1':Int)<(L.length:Int):=by omega
   have i2:(k2':Int)<(L.length:Int):=by omega
   have i3:(k3':Int)<(L.length:Int):=by omega
   have i4:(k4':Int)<(L.length:Int):=by omega
   have i5:(k5':Int)<(L.length:Int):=by omega
   clear hkl p1 p2 p3 p4 p5 e1 e2 e3 e4 e5 m1 m2 m3 m4 m5 hq2 HQ2 eg hkc2 b1 b3 b5 d4;go_wp2_with fail
   go_region
   clear t1 t3 t4 t5 t1a t3a t4a t5a;have HB6:Hid (Below wq.heap.size wq (wq.alloc (.cells #[.string ⟨a1.text.toArray⟩,.slice none 0 0,.int .i64 a3.num,.int .i64 a4.num,.int .i64 a5.num] 28)).drew):=dhid (dbal (Below.refl _ _) _).drew;have HC6:Hid (C5 (wq.alloc (.cells #[.string ⟨a1.text.toArray⟩,.slice none 0 0,.int .i64 a3.num,.int .i64 a4.num,.int .i64 a5.num] 28)).drew wq.heap.size ⟨a1.text.toArray⟩ (.slice none 0 0) a3.num a4.num a5.num):=dhid ⟨by simp,by simp,by simp,by simp,by simp⟩;have HF6:Hid (∀k,(wq.alloc (.cells #[.string ⟨a1.text.toArray⟩,.slice none 0 0,.int .i64 a3.num,.int .i64 a4.num,.int .i64 a5.num] 28)).drew.frozen? ⟨wq.heap.size,k,none⟩=false):=dhid (fun k=>by simp);have HS6:Hid ((wq.alloc (.cells #[.string ⟨a1.text.toArray⟩,.slice none 0 0,.int .i64 a3.num,.int .i64 a4.num,.int .i64 a5.num] 28)).drew.heap.size=wq.heap.size+1):=dhid (by simp);generalize (wq.alloc (.cells #[.string ⟨a1.text.toArray⟩,.slice none 0 0,.int .i64 a3.num,.int .i64 a4.num,.int .i64 a5.num] 28)).drew=W at *;have q0:=cell_kp HB6.out b0;have q2:=cell_kp HB6.out b2;have q4:=cell_kp HB6.out b4;have hgW:g<W.heap.size:=World.block_lt_of_cell? W _ q0;have hbW:wq.heap.size<W.heap.size:=by have:=HS6.out;omega
   have HQ0:=dhid b4;clear b0 b2 b4;have y1:=HC6.out.c1;have g1:=HF6.out 1;have h3:a2.kind=3:=H3K.out.symm.trans HK3.out;have hkn:=HS3.out h3;rw[show((a2.kind:Nat):Int)=3 by omega]at q0;rw[hkn]at q4;have hq4:Hid (rdD L=(⟨⟨a1.text.toArray⟩,[⟨a2.text.toArray⟩],a3.num,a4.num,a5.num⟩,0,0)):=dhid (by rw[HQ3.out,if_pos h3,hkn];rfl);have y1a:∀o,(W.alloc o).cell? ⟨wq.heap.size,1,none⟩=some (.slice none 0 0):=fun o=>(World.cell?_alloc_lt _ _ _ hbW).trans y1
   have g1a:∀o,(W.alloc o).frozen? ⟨wq.heap.size,1,none⟩=false:=fun o=>((dbal (Below.refl W.heap.size W) o).frozen (p:=⟨wq.heap.size,1,none⟩) hbW).trans g1
   clear HQ3 HS3 hkn h3;go_wp2_with fail
   have HCV:Hid (C5 ((W.setCell ⟨wq.heap.size,1,none⟩ (.slice (some ⟨W.heap.size,0,none⟩) 1 1)).alloc (.cells #[.string ⟨a2.text.toArray⟩] 9)) wq.heap.size ⟨a1.text.toArray⟩ (.slice (some ⟨W.heap.size,0,none⟩) 1 1) a3.num a4.num a5.num):=dhid ((HC6.out.set _).low (dbal (Below.refl _ _) _) (by simp;omega));have HSV:Hid (SR ((W.setCell ⟨wq.heap.size,1,none⟩ (.slice (some ⟨W.heap.size,0,none⟩) 1 1)).alloc (.cells #[.string ⟨a2.text.toArray⟩] 9)) (.slice (some ⟨W.heap.size,0,none⟩) 1 1) [⟨a2.text.toArray⟩]):=dhid ⟨_,_,rfl,(fun h=>by cases h),fun j z hj=>⟨_,_,rfl,by
    match j with
    | 0=>simp at hj;subst hj;have:=one_cellS (W.setCell ⟨wq.heap.size,1,none⟩ (.slice (some ⟨W.heap.size,0,none⟩) 1 1)) (.string ⟨a2.text.toArray⟩) 9 0 _ rfl;simpa [Addr.add]using this
    | j+1=>simp at hj⟩⟩
   have HBV0:Hid (Below wq.heap.size wq ((W.setCell ⟨wq.heap.size,1,none⟩ (.slice (some ⟨W.heap.size,0,none⟩) 1 1)).alloc (.cells #[.string ⟨a2.text.toArray⟩] 9))):=dhid (dbal (HB6.out.setCell (p:=⟨wq.heap.size,1,none⟩) (Nat.le_refl _) _) _);have q4V:((W.setCell ⟨wq.heap.size,1,none⟩ (.slice (some ⟨W.heap.size,0,none⟩) 1 1)).alloc (.cells #[.string ⟨a2.text.toArray⟩] 9)).cell? ⟨g,k2'*6+4,none⟩=some (.slice ad2 (([]:List Nat).length) cap2):=by
    rw[World.cell?_alloc_lt _ _ _ (by simp;omega)];exact(World.cell?_setCell_other _ _ _ _ (by intro h2;injection h2;omega)).trans q4
   clear q4 q0 q2 y1 g1 y1a g1a;generalize (W.setCell ⟨wq.heap.size,1,none⟩ (.slice (some ⟨W.heap.size,0,none⟩) 1 1)).alloc (.cells #[.string ⟨a2.text.toArray⟩] 9)=V at *;go_loopw [17] (fun iv wx=>iv=.int .i64 0∧wx=V) (fun _ _=>0)
   case atStart=>exact⟨rfl,rfl⟩
   case round=>
    obtain⟨rfl,hwx⟩:=hrel;subst hwx;have c0:=HCV.out.c0;have c1:=HCV.out.c1;have c2:=HCV.out.c2;have c3:=HCV.out.c3;have c4:=HCV.out.c4;have z0:=cell_kp HBV0.out HZr.out.1;have z1:=cell_kp HBV0.out HZr.out.2.1;have z2:=cell_kp HBV0.out HZr.out.2.2.1;have z3:=cell_kp HBV0.out HZr.out.2.2.2.1;have z4:=cell_kp HBV0.out HZr.out.2.2.2.2;have f0:∀k,wr.frozen? ⟨w.heap.size,k,none⟩=false:=fun k=>(HBV0.out.frozen (p:=⟨w.heap.size,k,none⟩) hltr).trans (HFr.out k)
    have HBV:Hid (Below w.heap.size w wr):=dhid (HBw.out.trans (HBV0.out.mono (by omega)));go_wp2_with fail
    refine bodyPost_ret (v:=.tuple #[.agg #[.string ⟨a1.text.toArray⟩,.slice (some ⟨W.heap.size,0,none⟩) 1 1,.int .i64 a3.num,.int .i64 a4.num,.int .i64 a5.num],.int .i64 0,.int .i64 0]) (by simp[results,Tryz.results5,go_sem,z0,z1,z2,z3,z4]) rfl ⟨?_,Below5 HBV.out (Nat.le_refl _) _ _ _ _ _⟩;rw[hq4.out];exact⟨_,rfl,HSV.out.keep5 hltr (fun g o sp h=>by obtain⟨l,c,h⟩:=h;injection h with h;injection h with h;injection h with h;omega) _ _ _ _ _,fun g o sp l c h=>by injection h with h;injection h with h;injection h with h;omega⟩
end Go.Proofs.YtaghclgookfmnaaGreatDoor
