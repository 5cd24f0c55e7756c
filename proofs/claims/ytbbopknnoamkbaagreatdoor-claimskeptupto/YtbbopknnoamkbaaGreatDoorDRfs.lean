import Derived.Test.YtbbopknnoamkbaaGreatDoorD1
import Derived.Test.YtbbopknnoamkbaaGreatDoorD2
set_option maxHeartbeats 4000000
set_option maxRecDepth 4000
namespace Go.Proofs.YtbbopknnoamkbaaGreatDoor
open Go.RowKit
set_option linter.unusedVariables false
set_option linter.unusedSimpArgs false
theorem crefuse_n(n:Nd)(adk:Option Addr)(capk:Nat)(v:Value)(w:World)(hk:n.key=issS∨n.key=iatS∨n.key=nbfS∨n.key=expS):Calls Tryz.prog 61 #[.agg #[v],nodeV n adk capk] w fun r w'=>r=.returned (.tuple #[.int .i64 4,.int .i64 (n.at':Int)])∧Below w.heap.size w w':=by
 have e:∀l,n.key=l→nodeV n adk capk=.agg #[.int .i64 (n.kind:Int),.string ⟨l.toArray⟩,.string ⟨n.text.toArray⟩,.int .i64 n.num,.slice adk n.kids.length capk,.int .i64 (n.at':Int)]:=fun l h=>by unfold nodeV;rw[h]
 rcases hk with hk|hk|hk|hk;all_goals rw[e _ hk]
 all_goals simp only[issS,iatS,nbfS,expS]
 all_goals clear e hk
 all_goals go_enter Tryz.func61,Tryz.ntmps61
 all_goals go_wp2_with fail
 all_goals go_quiet (fail)
 all_goals go_wp2
 all_goals go_ret2
 all_goals exact⟨rfl,dbN (dbal (dbal (Below.refl _ _) _) _) _⟩
theorem crefuse_else(n:Nd)(adk:Option Addr)(capk:Nat)(v:Value)(w:World)(h1:n.key≠issS)(h2:n.key≠audS)(h3:n.key≠iatS)(h4:n.key≠nbfS)(h5:n.key≠expS):Calls Tryz.prog 61 #[.agg #[v],nodeV n adk capk] w fun r w'=>r=.returned (.tuple #[.int .i64 0,.int .i64 0])∧Below w.heap.size w w':=by
 have q1:(n.key==[105,115,115])=false:=beq_eq_false_iff_ne.2 h1;have q2:(n.key==[97,117,100])=false:=beq_eq_false_iff_ne.2 h2;have q3:(n.key==[105,97,116])=false:=beq_eq_false_iff_ne.2 h3;have q4:(n.key==[110,98,102])=false:=beq_eq_false_iff_ne.2 h4;have q5:(n.key==[101,120,112])=false:=beq_eq_false_iff_ne.2 h5;unfold nodeV;clear h1 h2 h3 h4 h5;go_enter Tryz.func61,Tryz.ntmps61;go_wp2_with fail
 go_ret2
 exact⟨rfl,dbal (dbal (Below.refl _ _) _) _⟩
theorem crefuse_aud(ad:Option Addr)(cap:Nat)(L:List Nd)(w:World)(hx:RR 42 (.slice ad L.length cap) L w)(hlen:L.length≤1000000)(n:Nd)(adk:Option Addr)(capk:Nat)(hkc:KC w adk n.kids)(hki:∀c∈n.kids,c<L.length)(hkl:n.kids.length≤1000000)(hk:n.key=audS):Calls Tryz.prog 61 #[.agg #[.slice ad L.length cap],nodeV n adk capk] w fun r w'=>r=.returned (.tuple #[.int .i64 (audE L n).1,.int .i64 (audE L n).2])∧Below w.heap.size w w':=by
 have hra:=fun w1 (b1:Below w.heap.size w w1)=>creadAud ad cap L w1 (hx.below b1) hlen n adk capk (hkc.below b1) hki hkl
 have HR:=dhid hra;clear hra hx hkc hki;unfold nodeV at HR;have e:nodeV n adk capk=.agg #[.int .i64 (n.kind:Int),.string ⟨#[97,117,100]⟩,.string ⟨n.text.toArray⟩,.int .i64 n.num,.slice adk n.kids.length capk,.int .i64 (n.at':Int)]:=by unfold nodeV;rw[hk];rfl
 rw[e];rw[hk]at HR;unfold audS at HR;clear e hk;obtain⟨qe,hqe⟩:∃q,audE L n=q:=⟨_,rfl⟩;rw[hqe]at HR ⊢;clear hqe;go_enter Tryz.func61,Tryz.ntmps61;go_wp2_with fail
 refine(HR.out _ (dbal (dbal (Below.refl _ _) _) _)).mono ?_;rintro r w1 ⟨⟨y,rfl,_,ay,cy,ly,rfl,_⟩,hb⟩;have HB:=dhid ((dbal (dbal (Below.refl w.heap.size w) _) _).trans (hb.mono (by simp;omega)));clear hb HR;go_wp2_with fail
 go_ret2
 exact⟨rfl,HB.out⟩
theorem crefuse(ad:Option Addr)(cap:Nat)(L:List Nd)(w:World)(hx:RR 42 (.slice ad L.length cap) L w)(hlen:L.length≤1000000)(n:Nd)(adk:Option Addr)(capk:Nat)(hkc:KC w adk n.kids)(hki:∀c∈n.kids,c<L.length)(hkl:n.kids.length≤1000000):Calls Tryz.prog 61 #[.agg #[.slice ad L.length cap],nodeV n adk capk] w fun r w'=>r=.returned (.tuple #[.int .i64 (refE L n).1,.int .i64 (refE L n).2])∧Below w.heap.size w w':=by
 by_cases h:n.key=issS∨n.key=iatS∨n.key=nbfS∨n.key=expS
 ·rw[show refE L n=(4,(n.at':Int))by unfold refE;rw[if_pos h]]
  exact crefuse_n n adk capk _ w h
 ·by_cases h2:n.key=audS
  ·rw[show refE L n=audE L n by unfold refE;rw[if_neg h,if_pos h2]]
   exact crefuse_aud ad cap L w hx hlen n adk capk hkc hki hkl h2
  ·rw[show refE L n=(0,0)by unfold refE;rw[if_neg h,if_neg h2]]
   exact crefuse_else n adk capk _ w (fun e=>h (.inl e)) h2 (fun e=>h (.inr (.inl e))) (fun e=>h (.inr (.inr (.inl e)))) (fun e=>h (.inr (.inr (.inr e))))
theorem ceachR(ad:Option Addr)(cap:Nat)(L:List Nd)(hW:WFN L)(w:World)(n0:Nd)(hn0:L[0]?=some n0)(hx:RR 42 (.slice ad L.length cap) L w):Calls Tryz.prog 60 #[.agg #[.slice ad L.length cap],.func (.func 61) #[.agg #[.slice ad L.length cap]] #[]] w fun r w'=>
 r=.returned (.tuple #[.int .i64 (refA L n0.kids).1,.int .i64 (refA L n0.kids).2])∧Below w.heap.size w w':=by
 have hlen:=hW.len;have hki0:=hW.kids 0 n0 hn0;have hfew:=hW.few 0 n0 hn0;obtain⟨g,adk,capk,rfl,_,hkb,hkc,e0,e1,e2,e3,e4,e5⟩:=hx.node hn0;have hgb:g<w.heap.size:=World.block_lt_of_cell? w _ e0;have hl0:0<L.length:=(List.getElem?_eq_some_iff.1 hn0).1;have kl0:(0:Int)<(L.length:Int):=by omega
 rw[Nat.zero_mul,Nat.zero_add]at e4;have a4:∀o,(w.alloc o).cell? ⟨g,4,none⟩=some (.slice adk n0.kids.length capk):=fun o=>(World.cell?_alloc_lt _ _ _ hgb).trans e4
 have HX:=dhid hx;have HKC:=dhid hkc;have HKI:=dhid hki0;have HW:=dhid hW;clear hx hkc hki0 hW hn0 e0 e1 e2 e3 e4 e5;go_enter Tryz.func60,Tryz.ntmps60;go_wp2_with fail
 clear a4;have HB0:=dhid (dbal (Below.refl w.heap.size w) (.cells #[.slice (some ⟨g,0,none⟩) L.length cap] 92));have HBx:Hid ((w.alloc (.cells #[.slice (some ⟨g,0,none⟩) L.length cap] 92)).cell? ⟨w.heap.size,0,none⟩=some (.slice (some ⟨g,0,none⟩) L.length cap)):=dhid (by simp);have HSZ:Hid ((w.alloc (.cells #[.slice (some ⟨g,0,none⟩) L.length cap] 92)).heap.size=w.heap.size+1):=dhid (by simp);generalize w.alloc (.cells #[.slice (some ⟨g,0,none⟩) L.length cap] 92)=W at *;go_loopw [16] (fun iv wr=>∃(i:Nat),i≤n0.kids.length∧iv=.int .i64 (i:Int)∧Hid (refA L n0.kids=refA L (n0.kids.drop i))∧Below W.heap.size W wr) (fun iv _=>n0.kids.length-(intOf iv).toNat)
 case atStart=>exact⟨0,by omega,rfl,rfl,Below.refl _ _⟩
 case round=>
  obtain⟨i,hi,rfl,hno,hF⟩:=hrel;have hlow:=HB0.out.trans (hF.mono (by have:=HSZ.out;omega));have HF:=dhid hF;have HL:=dhid hlow;have bx:wr.cell? ⟨w.heap.size,0,none⟩=some (.slice (some ⟨g,0,none⟩) L.length cap):=cell_kp hF HBx.out;by_cases hlt2:i<n0.kids.length
  ·have k1:(i:Int)<(n0.kids.length:Int):=by omega
   obtain⟨c,hc⟩:∃c,n0.kids[i]?=some c:=⟨_,List.getElem?_eq_getElem hlt2⟩;obtain⟨gk,rfl,ck0⟩:=HKC.out i c hc;have hcl:=HKI.out c (List.mem_of_getElem? hc);obtain⟨m,hm⟩:∃m,L[c]?=some m:=⟨_,List.getElem?_eq_getElem hcl.2⟩;have hxr:=HX.out.below hlow;obtain⟨g',adm,capm,e,_,_,hkm,d0,d1,d2,d3,d4,d5⟩:=hxr.node hm;obtain rfl:g=g':=by injection e with e;injection e
   have ck:wr.cell? ⟨gk,i,none⟩=some (.int .i64 (c:Int)):=cell_kp hlow ck0;have k2:(c:Int)<(L.length:Int):=by omega
   have k2b:(c:Int)≤1000000:=by omega
   have hst:=refA_step L n0.kids i c hc;rw[ndA_of hm]at hst;have hcall:=crefuse (some ⟨g,0,none⟩) cap L wr hxr hlen m adm capm hkm (fun c' hc'=>(HW.out.kids c m hm c' hc').2) (HW.out.few c m hm);have HCL:=dhid hcall;unfold nodeV at HCL;have HSt:=dhid hst;clear hc hm hxr hlow hcall hst e hkm ck0 hF;go_wp2_with fail
   refine HCL.out.mono ?_;rintro r w1 ⟨rfl,hf⟩;have HF1:=dhid (HF.out.trans (hf.mono HF.out.size));clear hf HCL;by_cases he:(refE L m).1=0
   ·have hst2:refA L (List.drop i n0.kids)=refA L (List.drop (i+1) n0.kids):=by rw[HSt.out,if_pos he]
    have HSt2:=dhid hst2;clear hst2 HSt;go_wp2_with fail
    go_roundw
    case rel=>exact⟨i+1,by omega,by go_num,by rw[hno.out,HSt2.out];exact rfl,HF1.out⟩
    case measure=>simp[intOf];omega
   ·have hst2:refA L n0.kids=refE L m:=by rw[hno.out,HSt.out,if_neg he]
    have HSt2:=dhid hst2;clear hst2 HSt;go_wp2_with fail
    go_ret2
    exact⟨by rw[HSt2.out];rfl,HB0.out.trans (HF1.out.mono (by have:=HSZ.out;omega))⟩
  ·have k1:¬(i:Int)<(n0.kids.length:Int):=by omega
   have hd:n0.kids.drop i=[]:=List.drop_eq_nil_of_le (by omega);have HN:=dhid hno.out;rw[hd]at HN;clear hd hno hF hlow;go_wp2_with fail
   go_ret2
   exact⟨by rw[HN.out];rfl,HL.out⟩
end Go.Proofs.YtbbopknnoamkbaaGreatDoor
