import Derived.Test.YtaghclgookfmnaaGreatDoorE5
import Derived.BigRegion
import Derived.Deep.RegionHeld3
set_option maxHeartbeats 8000000
set_option maxRecDepth 1000000
namespace Go.Proofs.YtaghclgookfmnaaGreatDoor
open Go.RowKit
set_option linter.unusedVariables false
def loopsOf:Code→List Code
 | .loop c=>[c]
 | .seq a b=>loopsOf a++loopsOf b
 | .block _ c=>loopsOf c
 | .scope c=>loopsOf c
 | .cond _ a b=>loopsOf a++loopsOf b
 | _=>[]
noncomputable def body2:Code:=((Tryz.f5.body.map loopsOf).getD []).getD 1 .skip
def QL2(c0 c1 c2 c3 c4 c6 c7 c8 c9 c10 c11 c13 c14 c15 c18 c19 c20 c21 c22 c23 c24 c25 c26 c27 c28 c29 c30 c31 c32 c33 c34 c35 c36 c37 c38 c39 c40 c41 c42 c43 c44 c45 c46 c47 c48 c49 c50 c51 c52 c53 c54 c55 c56 c57 c58 c59 c60 c61 c62 c63 c64 c65 c66 c67 c68 c69 c70 c71 c72 c73 c74 c75 c76 c77 c78 c79 c80 c81 c82 c83 c84 c85 c86 c87 c88 c89 c90 c91 c92 c93 c94 c95 c96 c97 c98 c99 c100 c101 c102 c103 c104 c105 c106 c107 c108 c109 c110 c111 c112 c113 c114 c115 c116 c117 c118 c119 c120 c121 c122 c123 c124 c125 c126 c127 c155:Value)(wq:World)(g cap k2':Nat)(L:List Nd)(a1 a2 a3 a4 a5:Nd)(e:Exit)(a:Act)(wr:World):Prop:=
 match e with
 | .exit 2=>∃(tv:Value) (u128 u129 u130 u131 u132 u133 u134 u135 u136 u137 u138 u139 u140 u141 u142 u143 u144 u145 u146 u147 u148 u149 u150 u151 u152 u153 u154:Value),a=⟨(c0::c1::c2::c3::c4::.slice (some ⟨g,0,none⟩) L.length cap::c6::c7::c8::c9::c10::c11::.int .i64 (k2':Int)::c13::c14::c15::.pointer (some ⟨wq.heap.size,0,none⟩)::.int .i64 (a2.kids.length:Int)::c18::c19::c20::c21::c22::c23::c24::c25::c26::c27::c28::c29::c30::c31::c32::c33::c34::c35::c36::c37::c38::c39::c40::c41::c42::c43::c44::c45::c46::c47::c48::c49::c50::c51::c52::c53::c54::c55::c56::c57::c58::c59::c60::c61::c62::c63::c64::c65::c66::c67::c68::c69::c70::c71::c72::c73::c74::c75::c76::c77::c78::c79::c80::c81::c82::c83::c84::c85::c86::c87::c88::c89::c90::c91::c92::c93::c94::c95::c96::c97::c98::c99::c100::c101::c102::c103::c104::c105::c106::c107::c108::c109::c110::c111::c112::c113::c114::c115::c116::c117::c118::c119::c120::c121::c122::c123::c124::c125::c126::c127::u128::u129::u130::u131::u132::u133::u134::u135::u136::u137::u138::u139::u140::u141::u142::u143::u144::u145::u146::u147::u148::u149::u150::u151::u152::u153::u154::c155::[]:List Value).toArray,[]⟩∧C5 wr wq.heap.size ⟨a1.text.toArray⟩ tv a3.num a4.num a5.num∧wr.ownsRow (wq.heap.size+1) 9 1 tv (audTD L a2.kids).length ((audTD L a2.kids).map Value.string)∧Below wq.heap.size wq wr∧(∀k,wr.frozen? ⟨wq.heap.size,k,none⟩=false)∧wq.heap.size+1≤wr.heap.size
 | _=>False
theorem loop2(c0 c1 c2 c3 c4 c6 c7 c8 c9 c10 c11 c13 c14 c15 c18 c19 c20 c21 c22 c23 c24 c25 c26 c27 c28 c29 c30 c31 c32 c33 c34 c35 c36 c37 c38 c39 c40 c41 c42 c43 c44 c45 c46 c47 c48 c49 c50 c51 c52 c53 c54 c55 c56 c57 c58 c59 c60 c61 c62 c63 c64 c65 c66 c67 c68 c69 c70 c71 c72 c73 c74 c75 c76 c77 c78 c79 c80 c81 c82 c83 c84 c85 c86 c87 c88 c89 c90 c91 c92 c93 c94 c95 c96 c97 c98 c99 c100 c101 c102 c103 c104 c105 c106 c107 c108 c109 c110 c111 c112 c113 c114 c115 c116 c117 c118 c119 c120 c121 c122 c123 c124 c125 c126 c127 c155:Value)(w wq W:World)(g cap k2' cap2:Nat)(ad2:Option Addr)(L:List Nd)(a1 a2 a3 a4 a5:Nd)(hlen:L.length≤1000000)(i2:(k2':Int)<(L.length:Int))(hgr:g<wq.heap.size)(HXr:Hid (RR 51 (.slice (some ⟨g,0,none⟩) L.length cap) L wq))(HQ0:Hid (wq.cell? ⟨g,k2'*6+4,none⟩=some (.slice ad2 a2.kids.length cap2)))(HKC2:Hid (∀j c:Nat,a2.kids[j]?=some c→∃gk,ad2=some ⟨gk,0,none⟩∧wq.cell? ⟨gk,j,none⟩=some (.int .i64 (c:Int))))(HKL2:Hid (∀c∈a2.kids,c<L.length))(HFW2:Hid (a2.kids.length≤1000000))(HC6:Hid (C5 W wq.heap.size ⟨a1.text.toArray⟩ (.slice none 0 0) a3.num a4.num a5.num))(HB6:Hid (Below wq.heap.size wq W))(HF6:Hid (∀k,W.frozen? ⟨wq.heap.size,k,none⟩=false))(HS6:Hid (W.heap.size=wq.heap.size+1))(u128 u129 u130 u131 u132 u133 u134 u135 u136 u137 u138 u139 u140 u141 u142 u143 u144 u145 u146 u147 u148 u149 u150 u151 u152 u153 u154:Value):Code.wp Tryz.prog (Code.loop body2) (QL2 c0 c1 c2 c3 c4 c6 c7 c8 c9 c10 c11 c13 c14 c15 c18 c19 c20 c21 c22 c23 c24 c25 c26 c27 c28 c29 c30 c31 c32 c33 c34 c35 c36 c37 c38 c39 c40 c41 c42 c43 c44 c45 c46 c47 c48 c49 c50 c51 c52 c53 c54 c55 c56 c57 c58 c59 c60 c61 c62 c63 c64 c65 c66 c67 c68 c69 c70 c71 c72 c73 c74 c75 c76 c77 c78 c79 c80 c81 c82 c83 c84 c85 c86 c87 c88 c89 c90 c91 c92 c93 c94 c95 c96 c97 c98 c99 c100 c101 c102 c103 c104 c105 c106 c107 c108 c109 c110 c111 c112 c113 c114 c115 c116 c117 c118 c119 c120 c121 c122 c123 c124 c125 c126 c127 c155 wq g cap k2' L a1 a2 a3 a4 a5) ⟨(c0::c1::c2::c3::c4::.slice (some ⟨g,0,none⟩) L.length cap::c6::c7::c8::c9::c10::c11::.int .i64 (k2':Int)::c13::c14::c15::.pointer (some ⟨wq.heap.size,0,none⟩)::.int .i64 0::c18::c19::c20::c21::c22::c23::c24::c25::c26::c27::c28::c29::c30::c31::c32::c33::c34::c35::c36::c37::c38::c39::c40::c41::c42::c43::c44::c45::c46::c47::c48::c49::c50::c51::c52::c53::c54::c55::c56::c57::c58::c59::c60::c61::c62::c63::c64::c65::c66::c67::c68::c69::c70::c71::c72::c73::c74::c75::c76::c77::c78::c79::c80::c81::c82::c83::c84::c85::c86::c87::c88::c89::c90::c91::c92::c93::c94::c95::c96::c97::c98::c99::c100::c101::c102::c103::c104::c105::c106::c107::c108::c109::c110::c111::c112::c113::c114::c115::c116::c117::c118::c119::c120::c121::c122::c123::c124::c125::c126::c127::u128::u129::u130::u131::u132::u133::u134::u135::u136::u137::u138::u139::u140::u141::u142::u143::u144::u145::u146::u147::u148::u149::u150::u151::u152::u153::u154::c155::[]:List Value).toArray,[]⟩ W:=by
 have HI0:=strinfo;obtain⟨i0,hi0,hz0,hz1,hz2⟩:=sinfo_parts HI0;have HI:=dhid hi0;have hfw2:a2.kids.length≤1000000:=HFW2.out;clear HI0 hi0;conv=>arg 2;arg 1;whnf
 go_loopw [17] (fun iv wx=>∃(i:Nat) (tv:Value),i≤a2.kids.length∧iv=.int .i64 (i:Int)∧C5 wx wq.heap.size ⟨a1.text.toArray⟩ tv a3.num a4.num a5.num∧wx.ownsRow (wq.heap.size+1) 9 1 tv (audTD L (a2.kids.take i)).length ((audTD L (a2.kids.take i)).map Value.string)∧Below wq.heap.size wq wx∧(∀k,wx.frozen? ⟨wq.heap.size,k,none⟩=false)∧wq.heap.size+1≤wx.heap.size) (fun iv _=>a2.kids.length-(intOf iv).toNat)
 case atStart=>exact⟨0,_,by omega,rfl,HC6.out,World.ownsRow_nil _ _ _ _,HB6.out,HF6.out,by have:=HS6.out;omega⟩
 case round=>
  obtain⟨i,tv,hi,rfl,hC,ho,hb,hf,hsz⟩:=hrel;obtain⟨adt,capt,htv⟩:=(SR.of ho).shape;generalize (audTD L (a2.kids.take i)).length=nt at htv;subst htv;have q4:=cell_kp hb HQ0.out;have HO:=dhid ho;have HBx:=dhid hb;have HCx:=dhid hC;have HFx:=dhid hf;by_cases hlt3:i<a2.kids.length
  ·have k1:(i:Int)<(a2.kids.length:Int):=by omega
   obtain⟨c,hc⟩:∃c,a2.kids[i]?=some c:=⟨_,List.getElem?_eq_getElem hlt3⟩;obtain⟨gk,rfl,ck0⟩:=HKC2.out i c hc;have hcl:=HKL2.out c (List.mem_of_getElem? hc);obtain⟨m,hm⟩:∃m,L[c]?=some m:=⟨_,List.getElem?_eq_getElem hcl⟩;have ck:=cell_kp hb ck0;have HCK:=dhid ck0;have d2:=cell_kp hb (HXr.out.cs hm).2.2.1;have c1:=hC.c1;have ht:audTD L (a2.kids.take (i+1))=audTD L (a2.kids.take i)++[⟨m.text.toArray⟩]:=by
    unfold audTD;rw[List.take_add_one,hc];simp[ndA_of hm]
   have HT:=dhid ht;have hlen2:(audTD L (a2.kids.take i)).length≤1000000:=by unfold audTD;rw[List.length_map,List.length_take];have:=HFW2.out;omega
   have k2:(c:Int)<(L.length:Int):=by omega
   have n1:g<wr.heap.size:=World.block_lt_of_cell? wr _ d2;have n2:gk<wr.heap.size:=World.block_lt_of_cell? wr _ ck;have q4a:∀o,(wr.alloc o).cell? ⟨g,k2'*6+4,none⟩=some (.slice (some ⟨gk,0,none⟩) a2.kids.length cap2):=fun o=>(World.cell?_alloc_lt _ _ _ n1).trans q4
   have d2a:∀o,(wr.alloc o).cell? ⟨g,c*6+2,none⟩=some (.string ⟨m.text.toArray⟩):=fun o=>(World.cell?_alloc_lt _ _ _ n1).trans d2
   have cka:∀o,(wr.alloc o).cell? ⟨gk,i,none⟩=some (.int .i64 (c:Int)):=fun o=>(World.cell?_alloc_lt _ _ _ n2).trans ck
   have c1a:∀o,(wr.alloc o).cell? ⟨wq.heap.size,1,none⟩=some (.slice adt nt capt):=fun o=>(World.cell?_alloc_lt _ _ _ (by show wq.heap.size<wr.heap.size;omega)).trans c1
   clear hc ck0 hm ht ho hb hC hf;go_wp2_with fail
   have hgq:g≠wq.heap.size:=by omega
   have hkq:gk≠wq.heap.size:=by have:gk<wq.heap.size:=World.block_lt_of_cell? wq _ HCK.out;omega
   have HP4:Hid (∀o,((wr.alloc o).drew).cell? ⟨g,k2'*6+4,none⟩=some (.slice (some ⟨gk,0,none⟩) a2.kids.length cap2)):=fun o=>q4a o
   have HPd:Hid (∀o,((wr.alloc o).drew).cell? ⟨g,c*6+2,none⟩=some (.string ⟨m.text.toArray⟩)):=fun o=>d2a o
   have HPk:Hid (∀o,((wr.alloc o).drew).cell? ⟨gk,i,none⟩=some (.int .i64 (c:Int))):=fun o=>cka o
   have HOw:Hid (∀o,((wr.alloc o).drew).ownsRow (wq.heap.size+1) 9 1 (.slice adt nt capt) (audTD L (a2.kids.take i)).length ((audTD L (a2.kids.take i)).map Value.string)):=fun o=>HO.out.alloc o
   have HOne:Hid (∀y j u,[y][j]?=some u→((wr.alloc (.cells #[y] 9)).drew).cell? ((⟨wr.heap.size,0,none⟩:Addr).add j)=some u):=fun y=>one_cellS wr y 9
   have HBs:Hid (∀o,wq.heap.size+1≤((wr.alloc o).drew).heap.size):=fun o=>by show _≤(wr.alloc o).heap.size;simp;omega
   have HBz:Hid (∀o,Below (wq.heap.size+1) wr (wr.alloc o).drew):=fun o=>((Below.refl _ wr).alloc hsz _).drew
   have HNk:Hid (g<wq.heap.size+1∧gk<wq.heap.size+1):=⟨by omega,by have:gk<wq.heap.size:=World.block_lt_of_cell? wq _ HCK.out;omega⟩;go_region_law ((refine stepStr rfl (.tmp 139) (.tmp 152) 22 rfl 9 i0 Tryz.underlying22 HI.out hz0 hz1 hz2 (wq.heap.size+1) (.slice adt nt capt) (audTD L (a2.kids.take i)) ⟨wr.heap.size,0,none⟩ ⟨m.text.toArray⟩ hlen2 rfl rfl (by exact HOw.out _) (by exact HBs.out _) (by exact HOne.out _) ?_;intro y6 w6 ho6 hb6;obtain⟨ad6,cap6,hy6⟩:=(SR.of ho6).shape;generalize (audTD L (a2.kids.take i)++[(⟨m.text.toArray⟩:ByteArray)]).length=n6 at hy6;subst hy6;have HB7:Hid (Below (wq.heap.size+1) wr w6):=dhid ((HBz.out _).trans hb6);have c6:w6.cell? ⟨wq.heap.size,1,none⟩=some (.slice adt nt capt):=cell_lw HB7.out (Nat.lt_succ_self _) c1;have f6:w6.frozen? ⟨wq.heap.size,1,none⟩=false:=(HB7.out.frozen (p:=⟨wq.heap.size,1,none⟩) (Nat.lt_succ_self _)).trans (HFx.out 1);have s1:=cell_lw hb6 HNk.out.1 (HP4.out _);have s2:=cell_lw hb6 HNk.out.2 (HPk.out _);have s3:=cell_lw hb6 HNk.out.1 (HPd.out _);rw[←HT.out]at ho6;have HO6:=dhid ho6;clear ho6 hb6))
   all_goals go_wp2_with fail
   all_goals (
    go_roundw
    case rel=>exact⟨i+1,.slice ad6 n6 cap6,by omega,by go_num,(HCx.out.low HB7.out (Nat.lt_succ_self _)).set _,ownsRow_setCell_below HO6.out (Nat.lt_succ_self _) _,(HBx.out.trans (HB7.out.mono (Nat.le_succ _))).setCell (p:=⟨wq.heap.size,1,none⟩) (Nat.le_refl _) _,fun k=>by rw[World.frozen?_setCell];exact(HB7.out.frozen (p:=⟨wq.heap.size,k,none⟩) (Nat.lt_succ_self _)).trans (HFx.out k),by have:=HB7.out.size;simp;omega⟩
    case measure=>simp[intOf];omega)
  ·have k1:¬(i:Int)<(a2.kids.length:Int):=by omega
   obtain rfl:i=a2.kids.length:=by omega
   rw[List.take_of_length_le (Nat.le_refl _)]at ho;clear HO HBx HCx HFx HC6 HB6 HF6;go_wp2_with fail
   refine⟨_,_,_,_,_,_,_,_,_,_,_,_,_,_,_,_,_,_,_,_,_,_,_,_,_,_,_,_,rfl,hC,ho,hb,hf,hsz⟩
theorem rreadClaims_e(s:ByteArray)(w:World)(hs:s.size≤140737488351232)(t:JT)(hR:readL s.data.toList=.ok t)(n0:Nd)(hn0:(flat 0 [] t)[0]?=some n0)(hStr:∀n∈flat 0 [] t,n.kind=3→n.kids=[])(hk:n0.kind=5)(hE:(allE (flat 0 [] t) n0.kids).1=0)(hlk:¬lackB (flat 0 [] t) n0.kids=true)(hk3:¬(ndA (flat 0 [] t) (memK (flat 0 [] t) audS n0.kids).toNat).kind=3):Calls Tryz.prog 5 #[.string s] w fun r w'=>DQ w.heap.size (rdD (flat 0 [] t)) r w'∧Below w.heap.size w w':=by
 have hrd:=rread_nd s (w.alloc (.cells #[.string ⟨#[]⟩,.slice none 0 0,.int .i64 0,.int .i64 0,.int .i64 0] 28)) hs;simp only[hR]at hrd;have HR:=dhid hrd;have hl0:0<(flat 0 [] t).length:=(List.getElem?_eq_some_iff.1 hn0).1;have hW:=(read_fit hR).1;have hlen:=hW.len;have hki0:=hW.kids 0 n0 hn0;have hfew:=hW.few 0 n0 hn0;clear hrd hR;generalize flat 0 [] t=L at *;have HE0:=dhid hE;have HLK:=dhid hlk;have HK3:=dhid hk3;clear hE hlk hk3;have kl0:(0:Int)<(L.length:Int):=by omega
 go_enter Tryz.func5,Tryz.ntmps5;go_wp2_with fail
 refine HR.out.mono ?_;rintro r w1 ⟨⟨v,rfl,hx⟩,hb⟩;have z0:w1.cell? ⟨w.heap.size,0,none⟩=some (.string ⟨#[]⟩):=cell_kp hb (by simp);have z1:w1.cell? ⟨w.heap.size,1,none⟩=some (.slice none 0 0):=cell_kp hb (by simp);have z2:w1.cell? ⟨w.heap.size,2,none⟩=some (.int .i64 0):=cell_kp hb (by simp);have z3:w1.cell? ⟨w.heap.size,3,none⟩=some (.int .i64 0):=cell_kp hb (by simp);have z4:w1.cell? ⟨w.heap.size,4,none⟩=some (.int .i64 0):=cell_kp hb (by simp);have f0:∀k,w1.frozen? ⟨w.heap.size,k,none⟩=false:=fun k=>(hb.frozen (p:=⟨w.heap.size,k,none⟩) (by simp)).trans (by simp)
 have hlt:w.heap.size<w1.heap.size:=by have:=hb.size;simp at this;omega
 have HB:=dhid ((dbal (Below.refl w.heap.size w) _).trans (hb.mono (by simp)));clear hb HR;obtain⟨ad,cap,rfl⟩:=hx.shape;obtain⟨g,adk,capk,rfl,_,hkb,hkc,d0,d1,d2,d3,d4,d5⟩:=hx.node hn0;rw[Nat.zero_mul]at d0 d4 d5;rw[Nat.zero_add]at d4 d5;have HX:=dhid hx;have HW:=dhid hW;have HN0:=dhid hn0;have HKC:=dhid hkc;have HKI:=dhid hki0;clear hx hW hn0 hkc hki0 d1 d2 d3;rw[show((n0.kind:Nat):Int)=5 by omega]at d0;have hq:rdD L=if(allE L n0.kids).1=0 then if lackB L n0.kids=true then(cl0,7,0)else(clD L n0.kids,0,0)else(cl0,allE L n0.kids):=by
  unfold rdD;rw[ndA_of HN0.out,if_pos hk]
 have HQ:=dhid hq;clear hq d5 hk;go_wp2_with fail
 have HZ:=dhid (And.intro z0 (And.intro z1 (And.intro z2 (And.intro z3 z4))));have HF0:=dhid f0;have HD4:=dhid d4;clear d0 d4 z0 z1 z2 z3 z4 f0;go_loopw [8] (fun iv wr=>∃i:Nat,i≤n0.kids.length∧iv=.int .i64 (i:Int)∧Below w1.heap.size w1 wr∧Hid (allE L n0.kids=allE L (n0.kids.drop i))) (fun iv _=>n0.kids.length-(intOf iv).toNat)
 case atStart=>exact⟨0,by omega,rfl,Below.refl _ _,rfl⟩
 case round=>
  obtain⟨i,hi,rfl,hb,hno⟩:=hrel;have HBr:=dhid hb;have d4:=cell_kp hb HD4.out;by_cases hlt2:i<n0.kids.length
  ·have k1:(i:Int)<(n0.kids.length:Int):=by omega
   obtain⟨c,hc⟩:∃c,n0.kids[i]?=some c:=⟨_,List.getElem?_eq_getElem hlt2⟩;obtain⟨gk,rfl,ck0⟩:=HKC.out i c hc;have ck:=cell_kp hb ck0;have hcl:=HKI.out c (List.mem_of_getElem? hc);obtain⟨m,hm⟩:∃m,L[c]?=some m:=⟨_,List.getElem?_eq_getElem hcl.2⟩;have hst:=allE_step L n0.kids i c hc;rw[ndA_of hm]at hst;have HSt:=dhid hst;have HCL:=dhid (rwrongClaim (.slice (some ⟨g,0,none⟩) L.length cap) L wr (HX.out.below hb) HW.out c m hm);clear hb hc ck0 hm hst;go_wp2_with fail
   refine HCL.out.mono ?_;rintro r w2 ⟨rfl,hb2⟩;have HBs:=dhid (HBr.out.trans (hb2.mono HBr.out.size));clear hb2 HCL;by_cases he:(clmE L m).1=0
   ·have HSt2:Hid (allE L (n0.kids.drop i)=allE L (n0.kids.drop (i+1))):=dhid (by rw[HSt.out,if_pos he])
    clear HSt;go_wp2_with fail
    go_roundw
    case rel=>exact⟨i+1,by omega,by go_num,HBs.out,by rw[hno.out,HSt2.out];exact rfl⟩
    case measure=>simp[intOf];omega
   ·have ha:allE L n0.kids=clmE L m:=by rw[hno.out,HSt.out,if_neg he]
    exact absurd (by rw[←ha];exact HE0.out) he
  ·have k1:¬(i:Int)<(n0.kids.length:Int):=by omega
   have ha:(allE L n0.kids).1=0:=by rw[hno.out,List.drop_eq_nil_of_le (by omega)];rfl
   have HQ2:Hid (rdD L=if lackB L n0.kids=true then(cl0,7,0)else(clD L n0.kids,0,0)):=dhid (by rw[HQ.out,if_pos ha]);have HXr:=dhid (HX.out.below hb);have z0:=cell_kp hb HZ.out.1;have z1:=cell_kp hb HZ.out.2.1;have z2:=cell_kp hb HZ.out.2.2.1;have z3:=cell_kp hb HZ.out.2.2.2.1;have z4:=cell_kp hb HZ.out.2.2.2.2;have f0:∀k,wr.frozen? ⟨w.heap.size,k,none⟩=false:=fun k=>(hb.frozen (p:=⟨w.heap.size,k,none⟩) hlt).trans (HF0.out k)
   have hltr:w.heap.size<wr.heap.size:=by have:=hb.size;omega
   have HBw:Hid (Below w.heap.size w wr):=dhid (HB.out.trans (hb.mono (by omega)));have HM:=dhid (fun nm=>rmemK (.slice (some ⟨g,0,none⟩) L.length cap) L wr HXr.out HW.out 0 n0 HN0.out nm);have HZr:=dhid (And.intro z0 (And.intro z1 (And.intro z2 (And.intro z3 z4))));have HFr:=dhid f0;clear ha hno hb HBr HQ HX HB HZ HF0 HKC z0 z1 z2 z3 z4 f0 HD4;go_wp2_with fail
   refine(HM.out issS).mono ?_;rintro r w9 ⟨rfl,hw9⟩;rw[hw9];clear hw9 w9;go_wp2_with fail
   refine(HM.out audS).mono ?_;rintro r w9 ⟨rfl,hw9⟩;rw[hw9];clear hw9 w9;go_wp2_with fail
   refine(HM.out iatS).mono ?_;rintro r w9 ⟨rfl,hw9⟩;rw[hw9];clear hw9 w9;go_wp2_with fail
   refine(HM.out nbfS).mono ?_;rintro r w9 ⟨rfl,hw9⟩;rw[hw9];clear hw9 w9;go_wp2_with fail
   refine(HM.out expS).mono ?_;rintro r w9 ⟨rfl,hw9⟩;rw[hw9];clear hw9 w9;clear HM;obtain⟨p1,p2,p3,p4,p5⟩:¬memK L issS n0.kids<0∧¬memK L audS n0.kids<0∧¬memK L iatS n0.kids<0∧¬memK L nbfS n0.kids<0∧¬memK L expS n0.kids<0:=lack_no HLK.out;generalize wr=wq at *;clear wr;have hkl:∀c∈n0.kids,c<L.length:=fun c hc=>(HKI.out c hc).2
   obtain⟨k1',a1,e1,l1,m1⟩:=ndK (S:=issS) hkl p1;obtain⟨k2',a2,e2,l2,m2⟩:=ndK (S:=audS) hkl p2;obtain⟨k3',a3,e3,l3,m3⟩:=ndK (S:=iatS) hkl p3;obtain⟨k4',a4,e4,l4,m4⟩:=ndK (S:=nbfS) hkl p4;obtain⟨k5',a5,e5,l5,m5⟩:=ndK (S:=expS) hkl p5;have H3K:Hid ((ndA L (memK L audS n0.kids).toNat).kind=a2.kind):=dhid (by rw[e2,Int.toNat_natCast,ndA_of m2]);have hq2:rdD L=(⟨⟨a1.text.toArray⟩,(if a2.kind=3 then [⟨a2.text.toArray⟩]else [])++audTD L a2.kids,a3.num,a4.num,a5.num⟩,0,0):=by
    rw[HQ2.out,if_neg (by unfold lackB;simp[p1,p2,p3,p4,p5])];unfold clD audTD;rw[e1,e2,e3,e4,e5];simp only[Int.toNat_natCast,ndA_of m1,ndA_of m2,ndA_of m3,ndA_of m4,ndA_of m5]
   have HQ3:=dhid hq2;rw[e1,e2,e3,e4,e5];have t1:=(HXr.out.cs m1).2.2.1;have t3:=(HXr.out.cs m3).2.2.2.1;have t4:=(HXr.out.cs m4).2.2.2.1;have t5:=(HXr.out.cs m5).2.2.2.1;obtain⟨g',ad2,cap2,eg,_,hkb2,hkc2,b0,b1,b2,b3,b4,b5⟩:=HXr.out.node m2;obtain rfl:g=g':=by injection eg with eg;injection eg
   have HKC2:=dhid hkc2;have HKL2:=dhid (fun c hc=>(HW.out.kids k2' a2 m2 c hc).2);have HFW2:=dhid (HW.out.few k2' a2 m2);have HS3:=dhid (fun h3=>hStr a2 (List.mem_of_getElem? m2) h3);have hgr:g<wq.heap.size:=World.block_lt_of_cell? wq _ t1;have t1a:∀o,(wq.alloc o).cell? ⟨g,k1'*6+2,none⟩=some (.string ⟨a1.text.toArray⟩):=fun o=>(World.cell?_alloc_lt _ _ _ hgr).trans t1
   have t3a:∀o,(wq.alloc o).cell? ⟨g,k3'*6+3,none⟩=some (.int .i64 a3.num):=fun o=>(World.cell?_alloc_lt _ _ _ hgr).trans t3
   have t4a:∀o,(wq.alloc o).cell? ⟨g,k4'*6+3,none⟩=some (.int .i64 a4.num):=fun o=>(World.cell?_alloc_lt _ _ _ hgr).trans t4
   have t5a:∀o,(wq.alloc o).cell? ⟨g,k5'*6+3,none⟩=some (.int .i64 a5.num):=fun o=>(World.cell?_alloc_lt _ _ _ hgr).trans t5
   have i1:(k1':Int)<(L.length:Int):=by omega
   have i2:(k2':Int)<(L.length:Int):=by omega
   have i3:(k3':Int)<(L.length:Int):=by omega
   have i4:(k4':Int)<(L.length:Int):=by omega
   have i5:(k5':Int)<(L.length:Int):=by omega
   clear hkl p1 p2 p3 p4 p5 e1 e2 e3 e4 e5 m1 m2 m3 m4 m5 hq2 HQ2 eg hkc2 b1 b3 b5 d4;go_wp2_with fail
   go_region
   clear t1 t3 t4 t5 t1a t3a t4a t5a;have HB6:Hid (Below wq.heap.size wq (wq.alloc (.cells #[.string ⟨a1.text.toArray⟩,.slice none 0 0,.int .i64 a3.num,.int .i64 a4.num,.int .i64 a5.num] 28)).drew):=dhid (dbal (Below.refl _ _) _).drew;have HC6:Hid (C5 (wq.alloc (.cells #[.string ⟨a1.text.toArray⟩,.slice none 0 0,.int .i64 a3.num,.int .i64 a4.num,.int .i64 a5.num] 28)).drew wq.heap.size ⟨a1.text.toArray⟩ (.slice none 0 0) a3.num a4.num a5.num):=dhid ⟨by simp,by simp,by simp,by simp,by simp⟩;have HF6:Hid (∀k,(wq.alloc (.cells #[.string ⟨a1.text.toArray⟩,.slice none 0 0,.int .i64 a3.num,.int .i64 a4.num,.int .i64 a5.num] 28)).drew.frozen? ⟨wq.heap.size,k,none⟩=false):=dhid (fun k=>by simp);have HS6:Hid ((wq.alloc (.cells #[.string ⟨a1.text.toArray⟩,.slice none 0 0,.int .i64 a3.num,.int .i64 a4.num,.int .i64 a5.num] 28)).drew.heap.size=wq.heap.size+1):=dhid (by simp);generalize (wq.alloc (.cells #[.string ⟨a1.text.toArray⟩,.slice none 0 0,.int .i64 a3.num,.int .i64 a4.num,.int .i64 a5.num] 28)).drew=W at *;have q0:=cell_kp HB6.out b0;have q2:=cell_kp HB6.out b2;have q4:=cell_kp HB6.out b4;have hgW:g<W.heap.size:=World.block_lt_of_cell? W _ q0;have hbW:wq.heap.size<W.heap.size:=by have:=HS6.out;omega
   have HQ0:=dhid b4;clear b0 b2 b4;have y1:=HC6.out.c1;have g1:=HF6.out 1;have h3:¬a2.kind=3:=fun h=>HK3.out (H3K.out.trans h)
   have k3:((a2.kind:Int)==3)=false:=by simp;omega
   have hq4:Hid (rdD L=(⟨⟨a1.text.toArray⟩,audTD L a2.kids,a3.num,a4.num,a5.num⟩,0,0)):=dhid (by rw[HQ3.out,if_neg h3];rfl);clear HQ3 HS3 h3;go_wp2_with fail
   have HI0:=strinfo;obtain⟨i0,hi0,hz0,hz1,hz2⟩:=sinfo_parts HI0;have HI:=dhid hi0;clear HI0 hi0 q0 q2 q4 y1 g1;refine Code.wp_mono ?_ (loop2 _ _ _ _ _ _ _ _ _ _ _ _ _ _ _ _ _ _ _ _ _ _ _ _ _ _ _ _ _ _ _ _ _ _ _ _ _ _ _ _ _ _ _ _ _ _ _ _ _ _ _ _ _ _ _ _ _ _ _ _ _ _ _ _ _ _ _ _ _ _ _ _ _ _ _ _ _ _ _ _ _ _ _ _ _ _ _ _ _ _ _ _ _ _ _ _ _ _ _ _ _ _ _ _ _ _ _ _ _ _ _ _ _ _ _ _ _ _ _ _ _ _ _ _ _ w wq W g cap k2' cap2 ad2 L a1 a2 a3 a4 a5 hlen i2 hgr HXr HQ0 HKC2 HKL2 HFW2 HC6 HB6 HF6 HS6 _ _ _ _ _ _ _ _ _ _ _ _ _ _ _ _ _ _ _ _ _ _ _ _ _ _ _);intro e9 a9 wr h9;obtain rfl:e9=.exit 2:=by unfold QL2 at h9;split at h9<;>first|rfl|exact h9.elim
   obtain⟨tv,u128,u129,u130,u131,u132,u133,u134,u135,u136,u137,u138,u139,u140,u141,u142,u143,u144,u145,u146,u147,u148,u149,u150,u151,u152,u153,u154,rfl,hC,ho,hb,hf,hsz⟩:=h9;obtain⟨adt,capt,htv⟩:=(SR.of ho).shape;generalize (audTD L a2.kids).length=nt at htv;subst htv;have hgb:∀g o sp,(∃l c,Value.slice adt nt capt=.slice (some ⟨g,o,sp⟩) l c)→wq.heap.size+1≤g:=fun g o sp h=>by
    obtain⟨l,c,h⟩:=h;rcases ho.2 with⟨h1,_⟩|⟨g',c',cu,h1,h2,h3,_⟩
    ·rw[h1]at h;injection h with h;cases h
    ·rw[h1]at h;injection h with h;injection h with h;injection h with h;omega
   have HGB:=dhid hgb;have HSV:=dhid (SR.of ho);have c0:=hC.c0;have c1:=hC.c1;have c2:=hC.c2;have c3:=hC.c3;have c4:=hC.c4;have z0:=cell_kp hb HZr.out.1;have z1:=cell_kp hb HZr.out.2.1;have z2:=cell_kp hb HZr.out.2.2.1;have z3:=cell_kp hb HZr.out.2.2.2.1;have z4:=cell_kp hb HZr.out.2.2.2.2;have f0:∀k,wr.frozen? ⟨w.heap.size,k,none⟩=false:=fun k=>(hb.frozen (p:=⟨w.heap.size,k,none⟩) hltr).trans (HFr.out k)
   have HBV:Hid (Below w.heap.size w wr):=dhid (HBw.out.trans (hb.mono (by omega)));clear ho hb hC hf hgb;go_wp2_with fail
   refine bodyPost_ret (v:=.tuple #[.agg #[.string ⟨a1.text.toArray⟩,.slice adt nt capt,.int .i64 a3.num,.int .i64 a4.num,.int .i64 a5.num],.int .i64 0,.int .i64 0]) (by simp[results,Tryz.results5,go_sem,z0,z1,z2,z3,z4]) rfl ⟨?_,Below5 HBV.out (Nat.le_refl _) _ _ _ _ _⟩;rw[hq4.out];exact⟨_,rfl,HSV.out.keep5 hltr (fun g o sp h=>by have:=HGB.out g o sp h;omega) _ _ _ _ _,fun g o sp l c h=>by have:=HGB.out g o sp ⟨l,c,h⟩;omega⟩
end Go.Proofs.YtaghclgookfmnaaGreatDoor
