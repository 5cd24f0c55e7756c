import Derived.Test.YtaghclgookfmnaaGreatDoorE2
import Derived.Test.YtaghclgookfmnaaGreatDoorE1
import Derived.BigRegion
import Derived.WideMake
set_option maxHeartbeats 4000000
set_option maxRecDepth 4000
namespace Go.Proofs.YtaghclgookfmnaaGreatDoor
open Go.RowKit
set_option linter.unusedVariables false
def nodeV(n:Nd)(adk:Option Addr)(capk:Nat):Value:=.agg #[.int .i64 (n.kind:Int),.string ⟨n.key.toArray⟩,.string ⟨n.text.toArray⟩,.int .i64 n.num,.slice adk n.kids.length capk,.int .i64 (n.at':Int)]
def KC(w:World)(adk:Option Addr)(kids:List Nat):Prop:=∀j c:Nat,kids[j]?=some c→∃gk,adk=some ⟨gk,0,none⟩∧w.cell? ⟨gk,j,none⟩=some (.int .i64 (c:Int))
theorem KC.below{w w':World}{adk:Option Addr}{kids:List Nat}(h:KC w adk kids)(hb:Below w.heap.size w w'):KC w' adk kids:=fun j c hj=>by
 obtain⟨gk,h1,h2⟩:=h j c hj;exact⟨gk,h1,cell_kp hb h2⟩
theorem ccheckIss(n:Nd)(adk:Option Addr)(capk:Nat)(w:World):Calls Tryz.prog 18 #[nodeV n adk capk] w fun r w'=>r=.returned (.tuple #[.int .i64 (issE n).1,.int .i64 (issE n).2])∧Below w.heap.size w w':=by
 unfold nodeV;by_cases h:n.kind=3
 ·rw[show issE n=(0,0)by unfold issE;rw[if_pos h],h]
  clear h;go_enter Tryz.func18,Tryz.ntmps18;go_wp2;go_ret2
  exact⟨rfl,dbal (Below.refl _ _) _⟩
 ·rw[show issE n=(6,(n.at':Int))by unfold issE;rw[if_neg h]]
  have k3:((n.kind:Int)==3)=false:=by simp;omega
  have k4:((n.kind:Int) != 3)=true:=by simp;omega
  clear h;go_enter Tryz.func18,Tryz.ntmps18;go_wp2_with fail
  go_quiet (fail);go_wp2_with fail
  go_ret2
  exact⟨rfl,dbN (dbal (Below.refl _ _) _) _⟩
theorem ccheckNumber(n:Nd)(adk:Option Addr)(capk:Nat)(w:World):Calls Tryz.prog 20 #[nodeV n adk capk] w fun r w'=>r=.returned (.tuple #[.int .i64 (numE n).1,.int .i64 (numE n).2])∧Below w.heap.size w w':=by
 unfold nodeV;by_cases h:n.kind=2
 ·by_cases h3:n.num<0
  ·rw[show numE n=(3,(n.at':Int))by unfold numE;rw[if_pos h,if_pos h3],h]
   clear h;go_enter Tryz.func20,Tryz.ntmps20;go_wp2_with fail
   go_quiet (fail);go_wp2_with fail
   go_ret2
   exact⟨rfl,dbN (dbal (Below.refl _ _) _) _⟩
  ·rw[show numE n=(0,0)by unfold numE;rw[if_pos h,if_neg h3],h]
   clear h;go_enter Tryz.func20,Tryz.ntmps20;go_wp2;go_ret2
   exact⟨rfl,dbal (Below.refl _ _) _⟩
 ·rw[show numE n=(6,(n.at':Int))by unfold numE;rw[if_neg h]]
  have k3:((n.kind:Int)==2)=false:=by simp;omega
  have k4:((n.kind:Int) != 2)=true:=by simp;omega
  clear h;go_enter Tryz.func20,Tryz.ntmps20;go_wp2_with fail
  go_quiet (fail);go_wp2_with fail
  go_ret2
  exact⟨rfl,dbN (dbal (Below.refl _ _) _) _⟩
def UFb(w:World)(g:Nat):Prop:=∃cur e,w.heap[g]?=some (.cells cur e (0,0))
theorem UFb.below{w w':World}{g:Nat}(h:UFb w g)(hb:Below w.heap.size w w'):UFb w' g:=by
 obtain⟨cur,e,h⟩:=h;exact⟨cur,e,(hb.block g (Array.getElem?_eq_some_iff.1 h).1).trans h⟩
theorem UFb.free{w:World}{g:Nat}(h:UFb w g)(k:Nat):w.frozen? ⟨g,k,none⟩=false:=by
 obtain⟨cur,e,h⟩:=h;simp[World.frozen?,h]
def NewS(B:Nat)(w:World)(y:Value):Prop:=∃ay cy ly,y=.slice ay ly cy∧∀g o sp,ay=some ⟨g,o,sp⟩→B≤g∧UFb w g
def audT(L:List Nd)(kids:List Nat):List ByteArray:=kids.map fun c=>⟨(ndA L c).text.toArray⟩
theorem creadAud(ad:Option Addr)(cap:Nat)(L:List Nd)(w:World)(hx:RR 58 (.slice ad L.length cap) L w)(hlen:L.length≤1000000)(n:Nd)(adk:Option Addr)(capk:Nat)(hkc:KC w adk n.kids)(hki:∀c∈n.kids,c<L.length)(hkl:n.kids.length≤1000000):Calls Tryz.prog 19 #[.agg #[.slice ad L.length cap],nodeV n adk capk] w fun r w'=>(∃y,r=.returned (.tuple #[y,.int .i64 (audE L n).1,.int .i64 (audE L n).2])∧((audE L n).1=0→SR w' y (auds L n))∧NewS w.heap.size w' y)∧Below w.heap.size w w':=by
 unfold nodeV;obtain⟨i0,hi0,hz0,hz1,hz2⟩:=sinfo_parts strinfo;have HI:=dhid hi0;have HX:=dhid hx;have HKC:=dhid hkc;have HKI:=dhid hki;clear hi0 hx hkc hki;by_cases h3:n.kind=3
 ·have e:audE L n=(0,0):=by unfold audE;rw[if_pos h3]
  have e2:auds L n=[⟨n.text.toArray⟩]:=by unfold auds;rw[if_pos h3]
  rw[e,e2,h3];clear e e2 h3;go_enter Tryz.func19,Tryz.ntmps19;go_wp2;go_ret3
  refine⟨⟨_,rfl,fun _=>⟨_,_,rfl,fun h=>(by cases h),fun j z hj=>?_⟩,⟨_,_,_,rfl,fun g o sp h=>by injection h with h;injection h with h1 h2;exact⟨by omega,_,_,by rw[←h1,←show((w.alloc (.cells #[.slice ad L.length cap] 36)).alloc (.cells #[.int .i64 3,.string ⟨n.key.toArray⟩,.string ⟨n.text.toArray⟩,.int .i64 n.num,.slice adk n.kids.length capk,.int .i64 (n.at':Int)] 58)).heap.size=w.heap.size+1+1 by simp];exact heap_alloc_new _ _⟩⟩⟩,dbal (dbal (dbal (Below.refl _ _) _) _) _⟩;match j with
  | 0=>
    simp at hj;subst hj;refine⟨_,_,rfl,?_⟩;have:=one_cellS ((w.alloc (.cells #[.slice ad L.length cap] 36)).alloc (.cells #[.int .i64 3,.string ⟨n.key.toArray⟩,.string ⟨n.text.toArray⟩,.int .i64 n.num,.slice adk n.kids.length capk,.int .i64 (n.at':Int)] 58)) (.string ⟨n.text.toArray⟩) 9 0 _ rfl;simpa [Addr.add]using this
  | j+1=>simp at hj
 ·have k3:((n.kind:Int)==3)=false:=by simp;omega
  by_cases h4:n.kind=4∧n.kids≠[]
  ·have e:audE L n=audF L n.kids:=by unfold audE;rw[if_neg h3,if_pos h4]
   have e2:auds L n=audT L n.kids:=by unfold auds audT;rw[if_neg h3]
   have hk4:((n.kind:Nat):Int)=4:=by omega
   rw[e,e2,hk4];clear hk4;have k5:((n.kids.length:Int)==0)=false:=by have:=h4.2;simp[this]
   clear e e2 h3 k3 h4;go_enter Tryz.func19,Tryz.ntmps19;go_wp2_with fail
   have hB:=dbal (dbal (Below.refl w.heap.size w) (.cells #[.slice ad L.length cap] 36)) (.cells #[.int .i64 4,.string ⟨n.key.toArray⟩,.string ⟨n.text.toArray⟩,.int .i64 n.num,.slice adk n.kids.length capk,.int .i64 (n.at':Int)] 58);have b0:((w.alloc (.cells #[.slice ad L.length cap] 36)).alloc (.cells #[.int .i64 4,.string ⟨n.key.toArray⟩,.string ⟨n.text.toArray⟩,.int .i64 n.num,.slice adk n.kids.length capk,.int .i64 (n.at':Int)] 58)).cell? ⟨w.heap.size,0,none⟩=some (.slice ad L.length cap):=by
    rw[World.cell?_alloc_lt _ _ _ (by simp)];simp
   have hsz0:((w.alloc (.cells #[.slice ad L.length cap] 36)).alloc (.cells #[.int .i64 4,.string ⟨n.key.toArray⟩,.string ⟨n.text.toArray⟩,.int .i64 n.num,.slice adk n.kids.length capk,.int .i64 (n.at':Int)] 58)).heap.size=w.heap.size+2:=by simp
   have HB:=dhid hB;have HB0:=dhid b0;have HSZ:=dhid hsz0;have HX2:=dhid (HX.out.below hB);have HKC2:=dhid (HKC.out.below hB);clear hB b0 hsz0 HX HKC;generalize (w.alloc (.cells #[.slice ad L.length cap] 36)).alloc (.cells #[.int .i64 4,.string ⟨n.key.toArray⟩,.string ⟨n.text.toArray⟩,.int .i64 n.num,.slice adk n.kids.length capk,.int .i64 (n.at':Int)] 58)=W at *;go_loopw [7,30] (fun tv iv wr=>∃i:Nat,i≤n.kids.length∧iv=.int .i64 (i:Int)∧Hid (audF L n.kids=audF L (n.kids.drop i))∧wr.ownsRow (w.heap.size+2) 9 1 tv (audT L (n.kids.take i)).length ((audT L (n.kids.take i)).map Value.string)∧Below (w.heap.size+2) W wr) (fun _ iv _=>n.kids.length-(intOf iv).toNat)
   case atStart=>exact⟨0,by omega,rfl,rfl,World.ownsRow_nil _ _ _ _,Below.refl _ _⟩
   case round=>
    obtain⟨i,hi,rfl,hno,ho,hb⟩:=hrel;have hbw:Below w.heap.size w wr:=HB.out.trans (hb.mono (by omega));have hb2:Below W.heap.size W wr:=by rw[HSZ.out];exact hb
    have c0:wr.cell? ⟨w.heap.size,0,none⟩=some (.slice ad L.length cap):=cell_kp hb2 HB0.out;by_cases hlt:i<n.kids.length
    ·have k1:(i:Int)<(n.kids.length:Int):=by omega
     obtain⟨c,hc⟩:∃c,n.kids[i]?=some c:=⟨_,List.getElem?_eq_getElem hlt⟩;obtain⟨gk,rfl,ck0⟩:=HKC2.out i c hc;have ck:=cell_kp hb2 ck0;have hcl:=HKI.out c (List.mem_of_getElem? hc);obtain⟨m,hm⟩:∃m,L[c]?=some m:=⟨_,List.getElem?_eq_getElem hcl⟩;obtain⟨g,_,_,rfl,_⟩:=HX2.out.node hm;obtain⟨d0',d1',d2',d3',d5'⟩:=HX2.out.cs hm;have d0:=cell_kp hb2 d0';have d2:=cell_kp hb2 d2';have d5:=cell_kp hb2 d5';have k2:(c:Int)<(L.length:Int):=by omega
     have k2b:(c:Int)≤1000000:=by omega
     have hst:=audF_step L n.kids i c hc;have ht:audT L (n.kids.take (i+1))=audT L (n.kids.take i)++[⟨m.text.toArray⟩]:=by
      unfold audT;rw[List.take_add_one,hc];simp[ndA_of hm]
     rw[ndA_of hm]at hst;clear hc hm d1' d3' d0' d2' d5' ck0 hb2;by_cases he:m.kind=3
     ·rw[if_pos he]at hst
      have HS:=dhid hst;have HT:=dhid ht;have HO:=dhid ho;have HBB:=dhid hb;have hwsz:=hb.size;have hw2:w.heap.size+2≤wr.heap.size:=by have:=HSZ.out;omega
      have hlen2:(audT L (n.kids.take i)).length≤8796093022208:=by unfold audT;rw[List.length_map,List.length_take];omega
      rw[show((m.kind:Nat):Int)=3 by omega]at d0;clear hst he d5 ht ho hb hbw hwsz;go_wp2_with (at_builtin;go_must (refine wp_oneStr rfl (.tmp 47) (.tmp 54) 22 rfl 9 i0 Tryz.underlying22 HI.out hz0 hz1 hz2 (w.heap.size+2) u7 (audT L (n.kids.take i)) ⟨m.text.toArray⟩ wr rfl HO.out hw2 hlen2 rfl ?_;intro y w4 ho4 hb4;rw[←HT.out]at ho4;have HO4:=dhid ho4;have HB4:=dhid (HBB.out.trans hb4);clear ho4 hb4))
      go_roundw
      case rel=>exact⟨i+1,by omega,by go_num,by rw[hno.out,HS.out];exact rfl,HO4.out,HB4.out⟩
      case measure=>simp[intOf];omega
     ·rw[if_neg he]at hst
      have HS:=dhid hst;have HBW:=dhid hbw;have he':((m.kind:Int)==3)=false:=by simp;omega
      have he2:((m.kind:Int) != 3)=true:=by simp;omega
      clear hst he ht ho hb hbw;go_wp2_with fail
      go_quiet (fail);go_wp2_with fail
      go_ret3
      refine⟨⟨_,by rw[hno.out,HS.out];rfl,fun h=>?_,⟨_,_,_,rfl,fun g o sp h=>by cases h⟩⟩,dbN HBW.out _⟩;rw[hno.out,HS.out]at h;simp at h
    ·have k1:¬(i:Int)<(n.kids.length:Int):=by omega
     rw[List.take_of_length_le (by omega)]at ho;have HO:=dhid ho;have HBW:=dhid hbw;obtain⟨ay,cy,hy⟩:=(SR.of ho).shape;have hgb:∀g o sp,ay=some ⟨g,o,sp⟩→w.heap.size≤g∧UFb wr g:=fun g o sp h=>by
      rcases ho.2 with⟨h1,_⟩|⟨g',c',cu,h1,h2,h3,_⟩
      ·rw[h1]at hy;injection hy with hy;rw[←hy]at h;cases h
      ·rw[h1]at hy;injection hy with hy;rw[←hy]at h;injection h with h;injection h with h;subst h;exact⟨by omega,_,_,h3⟩
     have HY:=dhid hy;have HGB:=dhid hgb;clear ho hb hbw hb2 hy hgb;go_wp2;go_ret3
     refine⟨⟨_,?_,fun h=>SR.of HO.out,⟨ay,cy,_,HY.out,HGB.out⟩⟩,HBW.out⟩;rw[hno.out,List.drop_of_length_le (by omega)];rfl
  ·have e:audE L n=(6,(n.at':Int)):=by unfold audE;rw[if_neg h3,if_neg h4]
   rw[e];by_cases h5:n.kind=4
   ·have h6:n.kids=[]:=by
     by_cases h:n.kids=[]
     ·exact h
     ·exact absurd ⟨h5,h⟩ h4
    have h7:n.kids.length=0:=by rw[h6];rfl
    rw[h5,h7];clear e h3 k3 h4 h5 h6 h7;go_enter Tryz.func19,Tryz.ntmps19;go_wp2_with fail
    go_quiet (fail);go_wp2_with fail
    go_ret3
    exact⟨⟨_,rfl,fun h=>by simp at h,⟨_,_,_,rfl,fun g o sp h=>by cases h⟩⟩,dbN (dbal (dbal (Below.refl _ _) _) _) _⟩
   ·have k4:((n.kind:Int)==4)=false:=by simp;omega
    have k5:((n.kind:Int) != 4)=true:=by simp;omega
    clear e h3 h4 h5;go_enter Tryz.func19,Tryz.ntmps19;go_wp2_with fail
    go_quiet (fail);go_wp2_with fail
    go_ret3
    exact⟨⟨_,rfl,fun h=>by simp at h,⟨_,_,_,rfl,fun g o sp h=>by cases h⟩⟩,dbN (dbal (dbal (Below.refl _ _) _) _) _⟩
set_option linter.unusedSimpArgs false
theorem mapT:Tryz.prog.underlying 60=some (.map 9 59):=Tryz.underlying60
theorem run_upd(w:World)(r clock:Nat)(es:Array MapEntry)(s:ByteArray)(val:Value)(hb:w.heap[r]?=some (.map es clock))(hf:Instr.findNow .string (.string s) es.toList 0=some none):(Instr.mapUpdate 60 (.map (some r)) (.string s) val).run Tryz.prog w=.ok () {w with heap:=w.heap.setIfInBounds r (.map (es.push {key:=.string s,val:=val,born:=clock}) (clock+1))}:=by
 have hc:(Instr.checkKey false 10000 9 (.string s)).run Tryz.prog w=.ok () w:=MapKept.run_checkKey (k:=.string s) Tryz.underlying9 (by simp[MapKept.IsKey]) false 9999;simp[Instr.mapUpdate,run_underlying mapT,MapKept.run_getObj_map hb,hc,MapKept.run_findKey Tryz.underlying9 hf,MapKept.run_setObj_map _ hb,Result.andThen]
theorem push_set(a:Array Obj)(x y:Obj):(a.push x).setIfInBounds a.size y=a.push y:=by
 apply Array.ext';rw[Array.toList_setIfInBounds,Array.toList_push,Array.toList_push,List.set_append_right _ _ (by simp)];simp
theorem set_new(W:World)(o o':Obj):({W.alloc o with heap:=(W.alloc o).heap.setIfInBounds W.heap.size o'}:World)=W.alloc o':=by
 simp only[World.alloc,push_set]
theorem push2_set(a:Array Obj)(x y z:Obj):((a.push x).push z).setIfInBounds a.size y=(a.push y).push z:=by
 apply Array.ext';rw[Array.toList_setIfInBounds,Array.toList_push,Array.toList_push,Array.toList_push,Array.toList_push,List.append_assoc,List.set_append_right _ _ (by simp)];simp
theorem set_new2(W:World)(o o' z:Obj):({(W.alloc o).alloc z with heap:=((W.alloc o).alloc z).heap.setIfInBounds W.heap.size o'}:World)=(W.alloc o').alloc z:=by
 simp only[World.alloc,push2_set]
theorem updA(W:World)(n clock:Nat)(es:Array MapEntry)(s:ByteArray)(val:Value)(hn:n=W.heap.size)(hf:Instr.findNow .string (.string s) es.toList 0=some none):(Instr.mapUpdate 60 (.map (some n)) (.string s) val).run Tryz.prog (W.alloc (.map es clock))=.ok () (W.alloc (.map (es.push {key:=.string s,val:=val,born:=clock}) (clock+1))):=by
 subst hn;rw[run_upd _ _ clock es s val (by rw[heap_alloc_new]) hf];rw[set_new]
theorem updB(W:World)(n clock:Nat)(es:Array MapEntry)(s:ByteArray)(val:Value)(z:Obj)(hn:n=W.heap.size)(hf:Instr.findNow .string (.string s) es.toList 0=some none):(Instr.mapUpdate 60 (.map (some n)) (.string s) val).run Tryz.prog ((W.alloc (.map es clock)).alloc z)=.ok () ((W.alloc (.map (es.push {key:=.string s,val:=val,born:=clock}) (clock+1))).alloc z):=by
 subst hn;rw[run_upd _ _ clock es s val (by rw[heap_alloc_old _ _ (by simp),heap_alloc_new]) hf];rw[set_new2]
theorem updAd(W:World)(n clock:Nat)(es:Array MapEntry)(s:ByteArray)(val:Value)(hn:n=W.heap.size)(hf:Instr.findNow .string (.string s) es.toList 0=some none):(Instr.mapUpdate 60 (.map (some n)) (.string s) val).run Tryz.prog (W.alloc (.map es clock)).drew=.ok () (W.alloc (.map (es.push {key:=.string s,val:=val,born:=clock}) (clock+1))).drew:=by
 have:=updA W.drew n clock es s val hn hf;exact this
theorem updBd(W:World)(n clock:Nat)(es:Array MapEntry)(s:ByteArray)(val:Value)(z:Obj)(hn:n=W.heap.size)(hf:Instr.findNow .string (.string s) es.toList 0=some none):(Instr.mapUpdate 60 (.map (some n)) (.string s) val).run Tryz.prog ((W.alloc (.map es clock)).alloc z).drew=.ok () ((W.alloc (.map (es.push {key:=.string s,val:=val,born:=clock}) (clock+1))).alloc z).drew:=by
 have:=updB W.drew n clock es s val z hn hf;exact this
theorem mk_map(t:TypeId)(w:World):(Instr.makeMap t none).run Tryz.prog w=.ok (.map (some w.heap.size)) (w.alloc (.map #[] 0)):=rfl
theorem ne_iat_nbf:((⟨#[105,97,116]⟩:ByteArray)==⟨#[110,98,102]⟩)=false:=by decide
theorem ne_iat_exp:((⟨#[105,97,116]⟩:ByteArray)==⟨#[101,120,112]⟩)=false:=by decide
theorem ne_nbf_iat:((⟨#[110,98,102]⟩:ByteArray)==⟨#[105,97,116]⟩)=false:=by decide
theorem ne_nbf_exp:((⟨#[110,98,102]⟩:ByteArray)==⟨#[101,120,112]⟩)=false:=by decide
theorem ne_exp_iat:((⟨#[101,120,112]⟩:ByteArray)==⟨#[105,97,116]⟩)=false:=by decide
theorem ne_exp_nbf:((⟨#[101,120,112]⟩:ByteArray)==⟨#[110,98,102]⟩)=false:=by decide
theorem up_iat_none_A(W:World)(n:Nat)(viat:Value)(hn:n=W.heap.size):(Instr.mapUpdate 60 (.map (some n)) (.string ⟨#[105,97,116]⟩) viat).run Tryz.prog (W.alloc (.map #[] 0))=.ok () (W.alloc (.map #[{key:=.string ⟨#[105,97,116]⟩,val:=viat,born:=0}] 1)):=updA W n 0 _ _ _ hn (by simp[Instr.findNow,Instr.sameNow,ne_iat_nbf,ne_iat_exp,ne_nbf_iat,ne_nbf_exp,ne_exp_iat,ne_exp_nbf])
theorem up_iat_none_B(W:World)(n:Nat)(viat:Value)(z:Obj)(hn:n=W.heap.size):(Instr.mapUpdate 60 (.map (some n)) (.string ⟨#[105,97,116]⟩) viat).run Tryz.prog ((W.alloc (.map #[] 0)).alloc z)=.ok () ((W.alloc (.map #[{key:=.string ⟨#[105,97,116]⟩,val:=viat,born:=0}] 1)).alloc z):=updB W n 0 _ _ _ z hn (by simp[Instr.findNow,Instr.sameNow,ne_iat_nbf,ne_iat_exp,ne_nbf_iat,ne_nbf_exp,ne_exp_iat,ne_exp_nbf])
theorem up_iat_none_Ad(W:World)(n:Nat)(viat:Value)(hn:n=W.heap.size):(Instr.mapUpdate 60 (.map (some n)) (.string ⟨#[105,97,116]⟩) viat).run Tryz.prog (W.alloc (.map #[] 0)).drew=.ok () (W.alloc (.map #[{key:=.string ⟨#[105,97,116]⟩,val:=viat,born:=0}] 1)).drew:=updAd W n 0 _ _ _ hn (by simp[Instr.findNow,Instr.sameNow,ne_iat_nbf,ne_iat_exp,ne_nbf_iat,ne_nbf_exp,ne_exp_iat,ne_exp_nbf])
theorem up_iat_none_Bd(W:World)(n:Nat)(viat:Value)(z:Obj)(hn:n=W.heap.size):(Instr.mapUpdate 60 (.map (some n)) (.string ⟨#[105,97,116]⟩) viat).run Tryz.prog ((W.alloc (.map #[] 0)).alloc z).drew=.ok () ((W.alloc (.map #[{key:=.string ⟨#[105,97,116]⟩,val:=viat,born:=0}] 1)).alloc z).drew:=updBd W n 0 _ _ _ z hn (by simp[Instr.findNow,Instr.sameNow,ne_iat_nbf,ne_iat_exp,ne_nbf_iat,ne_nbf_exp,ne_exp_iat,ne_exp_nbf])
theorem up_iat_nbf_A(W:World)(n:Nat)(vnbf viat:Value)(hn:n=W.heap.size):(Instr.mapUpdate 60 (.map (some n)) (.string ⟨#[105,97,116]⟩) viat).run Tryz.prog (W.alloc (.map #[{key:=.string ⟨#[110,98,102]⟩,val:=vnbf,born:=0}] 1))=.ok () (W.alloc (.map #[{key:=.string ⟨#[110,98,102]⟩,val:=vnbf,born:=0},{key:=.string ⟨#[105,97,116]⟩,val:=viat,born:=1}] 2)):=updA W n 1 _ _ _ hn (by simp[Instr.findNow,Instr.sameNow,ne_iat_nbf,ne_iat_exp,ne_nbf_iat,ne_nbf_exp,ne_exp_iat,ne_exp_nbf])
theorem up_iat_nbf_B(W:World)(n:Nat)(vnbf viat:Value)(z:Obj)(hn:n=W.heap.size):(Instr.mapUpdate 60 (.map (some n)) (.string ⟨#[105,97,116]⟩) viat).run Tryz.prog ((W.alloc (.map #[{key:=.string ⟨#[110,98,102]⟩,val:=vnbf,born:=0}] 1)).alloc z)=.ok () ((W.alloc (.map #[{key:=.string ⟨#[110,98,102]⟩,val:=vnbf,born:=0},{key:=.string ⟨#[105,97,116]⟩,val:=viat,born:=1}] 2)).alloc z):=updB W n 1 _ _ _ z hn (by simp[Instr.findNow,Instr.sameNow,ne_iat_nbf,ne_iat_exp,ne_nbf_iat,ne_nbf_exp,ne_exp_iat,ne_exp_nbf])
theorem up_iat_nbf_Ad(W:World)(n:Nat)(vnbf viat:Value)(hn:n=W.heap.size):(Instr.mapUpdate 60 (.map (some n)) (.string ⟨#[105,97,116]⟩) viat).run Tryz.prog (W.alloc (.map #[{key:=.string ⟨#[110,98,102]⟩,val:=vnbf,born:=0}] 1)).drew=.ok () (W.alloc (.map #[{key:=.string ⟨#[110,98,102]⟩,val:=vnbf,born:=0},{key:=.string ⟨#[105,97,116]⟩,val:=viat,born:=1}] 2)).drew:=updAd W n 1 _ _ _ hn (by simp[Instr.findNow,Instr.sameNow,ne_iat_nbf,ne_iat_exp,ne_nbf_iat,ne_nbf_exp,ne_exp_iat,ne_exp_nbf])
theorem up_iat_nbf_Bd(W:World)(n:Nat)(vnbf viat:Value)(z:Obj)(hn:n=W.heap.size):(Instr.mapUpdate 60 (.map (some n)) (.string ⟨#[105,97,116]⟩) viat).run Tryz.prog ((W.alloc (.map #[{key:=.string ⟨#[110,98,102]⟩,val:=vnbf,born:=0}] 1)).alloc z).drew=.ok () ((W.alloc (.map #[{key:=.string ⟨#[110,98,102]⟩,val:=vnbf,born:=0},{key:=.string ⟨#[105,97,116]⟩,val:=viat,born:=1}] 2)).alloc z).drew:=updBd W n 1 _ _ _ z hn (by simp[Instr.findNow,Instr.sameNow,ne_iat_nbf,ne_iat_exp,ne_nbf_iat,ne_nbf_exp,ne_exp_iat,ne_exp_nbf])
theorem up_iat_exp_A(W:World)(n:Nat)(vexp viat:Value)(hn:n=W.heap.size):(Instr.mapUpdate 60 (.map (some n)) (.string ⟨#[105,97,116]⟩) viat).run Tryz.prog (W.alloc (.map #[{key:=.string ⟨#[101,120,112]⟩,val:=vexp,born:=0}] 1))=.ok () (W.alloc (.map #[{key:=.string ⟨#[101,120,112]⟩,val:=vexp,born:=0},{key:=.string ⟨#[105,97,116]⟩,val:=viat,born:=1}] 2)):=updA W n 1 _ _ _ hn (by simp[Instr.findNow,Instr.sameNow,ne_iat_nbf,ne_iat_exp,ne_nbf_iat,ne_nbf_exp,ne_exp_iat,ne_exp_nbf])
theorem up_iat_exp_B(W:World)(n:Nat)(vexp viat:Value)(z:Obj)(hn:n=W.heap.size):(Instr.mapUpdate 60 (.map (some n)) (.string ⟨#[105,97,116]⟩) viat).run Tryz.prog ((W.alloc (.map #[{key:=.string ⟨#[101,120,112]⟩,val:=vexp,born:=0}] 1)).alloc z)=.ok () ((W.alloc (.map #[{key:=.string ⟨#[101,120,112]⟩,val:=vexp,born:=0},{key:=.string ⟨#[105,97,116]⟩,val:=viat,born:=1}] 2)).alloc z):=updB W n 1 _ _ _ z hn (by simp[Instr.findNow,Instr.sameNow,ne_iat_nbf,ne_iat_exp,ne_nbf_iat,ne_nbf_exp,ne_exp_iat,ne_exp_nbf])
theorem up_iat_exp_Ad(W:World)(n:Nat)(vexp viat:Value)(hn:n=W.heap.size):(Instr.mapUpdate 60 (.map (some n)) (.string ⟨#[105,97,116]⟩) viat).run Tryz.prog (W.alloc (.map #[{key:=.string ⟨#[101,120,112]⟩,val:=vexp,born:=0}] 1)).drew=.ok () (W.alloc (.map #[{key:=.string ⟨#[101,120,112]⟩,val:=vexp,born:=0},{key:=.string ⟨#[105,97,116]⟩,val:=viat,born:=1}] 2)).drew:=updAd W n 1 _ _ _ hn (by simp[Instr.findNow,Instr.sameNow,ne_iat_nbf,ne_iat_exp,ne_nbf_iat,ne_nbf_exp,ne_exp_iat,ne_exp_nbf])
theorem up_iat_exp_Bd(W:World)(n:Nat)(vexp viat:Value)(z:Obj)(hn:n=W.heap.size):(Instr.mapUpdate 60 (.map (some n)) (.string ⟨#[105,97,116]⟩) viat).run Tryz.prog ((W.alloc (.map #[{key:=.string ⟨#[101,120,112]⟩,val:=vexp,born:=0}] 1)).alloc z).drew=.ok () ((W.alloc (.map #[{key:=.string ⟨#[101,120,112]⟩,val:=vexp,born:=0},{key:=.string ⟨#[105,97,116]⟩,val:=viat,born:=1}] 2)).alloc z).drew:=updBd W n 1 _ _ _ z hn (by simp[Instr.findNow,Instr.sameNow,ne_iat_nbf,ne_iat_exp,ne_nbf_iat,ne_nbf_exp,ne_exp_iat,ne_exp_nbf])
theorem up_iat_nbfexp_A(W:World)(n:Nat)(vnbf vexp viat:Value)(hn:n=W.heap.size):(Instr.mapUpdate 60 (.map (some n)) (.string ⟨#[105,97,116]⟩) viat).run Tryz.prog (W.alloc (.map #[{key:=.string ⟨#[110,98,102]⟩,val:=vnbf,born:=0},{key:=.string ⟨#[101,120,112]⟩,val:=vexp,born:=1}] 2))=.ok () (W.alloc (.map #[{key:=.string ⟨#[110,98,102]⟩,val:=vnbf,born:=0},{key:=.string ⟨#[101,120,112]⟩,val:=vexp,born:=1},{key:=.string ⟨#[105,97,116]⟩,val:=viat,born:=2}] 3)):=updA W n 2 _ _ _ hn (by simp[Instr.findNow,Instr.sameNow,ne_iat_nbf,ne_iat_exp,ne_nbf_iat,ne_nbf_exp,ne_exp_iat,ne_exp_nbf])
theorem up_iat_nbfexp_B(W:World)(n:Nat)(vnbf vexp viat:Value)(z:Obj)(hn:n=W.heap.size):(Instr.mapUpdate 60 (.map (some n)) (.string ⟨#[105,97,116]⟩) viat).run Tryz.prog ((W.alloc (.map #[{key:=.string ⟨#[110,98,102]⟩,val:=vnbf,born:=0},{key:=.string ⟨#[101,120,112]⟩,val:=vexp,born:=1}] 2)).alloc z)=.ok () ((W.alloc (.map #[{key:=.string ⟨#[110,98,102]⟩,val:=vnbf,born:=0},{key:=.string ⟨#[101,120,112]⟩,val:=vexp,born:=1},{key:=.string ⟨#[105,97,116]⟩,val:=viat,born:=2}] 3)).alloc z):=updB W n 2 _ _ _ z hn (by simp[Instr.findNow,Instr.sameNow,ne_iat_nbf,ne_iat_exp,ne_nbf_iat,ne_nbf_exp,ne_exp_iat,ne_exp_nbf])
theorem up_iat_nbfexp_Ad(W:World)(n:Nat)(vnbf vexp viat:Value)(hn:n=W.heap.size):(Instr.mapUpdate 60 (.map (some n)) (.string ⟨#[105,97,116]⟩) viat).run Tryz.prog (W.alloc (.map #[{key:=.string ⟨#[110,98,102]⟩,val:=vnbf,born:=0},{key:=.string ⟨#[101,120,112]⟩,val:=vexp,born:=1}] 2)).drew=.ok () (W.alloc (.map #[{key:=.string ⟨#[110,98,102]⟩,val:=vnbf,born:=0},{key:=.string ⟨#[101,120,112]⟩,val:=vexp,born:=1},{key:=.string ⟨#[105,97,116]⟩,val:=viat,born:=2}] 3)).drew:=updAd W n 2 _ _ _ hn (by simp[Instr.findNow,Instr.sameNow,ne_iat_nbf,ne_iat_exp,ne_nbf_iat,ne_nbf_exp,ne_exp_iat,ne_exp_nbf])
theorem up_iat_nbfexp_Bd(W:World)(n:Nat)(vnbf vexp viat:Value)(z:Obj)(hn:n=W.heap.size):(Instr.mapUpdate 60 (.map (some n)) (.string ⟨#[105,97,116]⟩) viat).run Tryz.prog ((W.alloc (.map #[{key:=.string ⟨#[110,98,102]⟩,val:=vnbf,born:=0},{key:=.string ⟨#[101,120,112]⟩,val:=vexp,born:=1}] 2)).alloc z).drew=.ok () ((W.alloc (.map #[{key:=.string ⟨#[110,98,102]⟩,val:=vnbf,born:=0},{key:=.string ⟨#[101,120,112]⟩,val:=vexp,born:=1},{key:=.string ⟨#[105,97,116]⟩,val:=viat,born:=2}] 3)).alloc z).drew:=updBd W n 2 _ _ _ z hn (by simp[Instr.findNow,Instr.sameNow,ne_iat_nbf,ne_iat_exp,ne_nbf_iat,ne_nbf_exp,ne_exp_iat,ne_exp_nbf])
theorem up_iat_expnbf_A(W:World)(n:Nat)(vexp vnbf viat:Value)(hn:n=W.heap.size):(Instr.mapUpdate 60 (.map (some n)) (.string ⟨#[105,97,116]⟩) viat).run Tryz.prog (W.alloc (.map #[{key:=.string ⟨#[101,120,112]⟩,val:=vexp,born:=0},{key:=.string ⟨#[110,98,102]⟩,val:=vnbf,born:=1}] 2))=.ok () (W.alloc (.map #[{key:=.string ⟨#[101,120,112]⟩,val:=vexp,born:=0},{key:=.string ⟨#[110,98,102]⟩,val:=vnbf,born:=1},{key:=.string ⟨#[105,97,116]⟩,val:=viat,born:=2}] 3)):=updA W n 2 _ _ _ hn (by simp[Instr.findNow,Instr.sameNow,ne_iat_nbf,ne_iat_exp,ne_nbf_iat,ne_nbf_exp,ne_exp_iat,ne_exp_nbf])
theorem up_iat_expnbf_B(W:World)(n:Nat)(vexp vnbf viat:Value)(z:Obj)(hn:n=W.heap.size):(Instr.mapUpdate 60 (.map (some n)) (.string ⟨#[105,97,116]⟩) viat).run Tryz.prog ((W.alloc (.map #[{key:=.string ⟨#[101,120,112]⟩,val:=vexp,born:=0},{key:=.string ⟨#[110,98,102]⟩,val:=vnbf,born:=1}] 2)).alloc z)=.ok () ((W.alloc (.map #[{key:=.string ⟨#[101,120,112]⟩,val:=vexp,born:=0},{key:=.string ⟨#[110,98,102]⟩,val:=vnbf,born:=1},{key:=.string ⟨#[105,97,116]⟩,val:=viat,born:=2}] 3)).alloc z):=updB W n 2 _ _ _ z hn (by simp[Instr.findNow,Instr.sameNow,ne_iat_nbf,ne_iat_exp,ne_nbf_iat,ne_nbf_exp,ne_exp_iat,ne_exp_nbf])
theorem up_iat_expnbf_Ad(W:World)(n:Nat)(vexp vnbf viat:Value)(hn:n=W.heap.size):(Instr.mapUpdate 60 (.map (some n)) (.string ⟨#[105,97,116]⟩) viat).run Tryz.prog (W.alloc (.map #[{key:=.string ⟨#[101,120,112]⟩,val:=vexp,born:=0},{key:=.string ⟨#[110,98,102]⟩,val:=vnbf,born:=1}] 2)).drew=.ok () (W.alloc (.map #[{key:=.string ⟨#[101,120,112]⟩,val:=vexp,born:=0},{key:=.string ⟨#[110,98,102]⟩,val:=vnbf,born:=1},{key:=.string ⟨#[105,97,116]⟩,val:=viat,born:=2}] 3)).drew:=updAd W n 2 _ _ _ hn (by simp[Instr.findNow,Instr.sameNow,ne_iat_nbf,ne_iat_exp,ne_nbf_iat,ne_nbf_exp,ne_exp_iat,ne_exp_nbf])
theorem up_iat_expnbf_Bd(W:World)(n:Nat)(vexp vnbf viat:Value)(z:Obj)(hn:n=W.heap.size):(Instr.mapUpdate 60 (.map (some n)) (.string ⟨#[105,97,116]⟩) viat).run Tryz.prog ((W.alloc (.map #[{key:=.string ⟨#[101,120,112]⟩,val:=vexp,born:=0},{key:=.string ⟨#[110,98,102]⟩,val:=vnbf,born:=1}] 2)).alloc z).drew=.ok () ((W.alloc (.map #[{key:=.string ⟨#[101,120,112]⟩,val:=vexp,born:=0},{key:=.string ⟨#[110,98,102]⟩,val:=vnbf,born:=1},{key:=.string ⟨#[105,97,116]⟩,val:=viat,born:=2}] 3)).alloc z).drew:=updBd W n 2 _ _ _ z hn (by simp[Instr.findNow,Instr.sameNow,ne_iat_nbf,ne_iat_exp,ne_nbf_iat,ne_nbf_exp,ne_exp_iat,ne_exp_nbf])
theorem up_nbf_none_A(W:World)(n:Nat)(vnbf:Value)(hn:n=W.heap.size):(Instr.mapUpdate 60 (.map (some n)) (.string ⟨#[110,98,102]⟩) vnbf).run Tryz.prog (W.alloc (.map #[] 0))=.ok () (W.alloc (.map #[{key:=.string ⟨#[110,98,102]⟩,val:=vnbf,born:=0}] 1)):=updA W n 0 _ _ _ hn (by simp[Instr.findNow,Instr.sameNow,ne_iat_nbf,ne_iat_exp,ne_nbf_iat,ne_nbf_exp,ne_exp_iat,ne_exp_nbf])
theorem up_nbf_none_B(W:World)(n:Nat)(vnbf:Value)(z:Obj)(hn:n=W.heap.size):(Instr.mapUpdate 60 (.map (some n)) (.string ⟨#[110,98,102]⟩) vnbf).run Tryz.prog ((W.alloc (.map #[] 0)).alloc z)=.ok () ((W.alloc (.map #[{key:=.string ⟨#[110,98,102]⟩,val:=vnbf,born:=0}] 1)).alloc z):=updB W n 0 _ _ _ z hn (by simp[Instr.findNow,Instr.sameNow,ne_iat_nbf,ne_iat_exp,ne_nbf_iat,ne_nbf_exp,ne_exp_iat,ne_exp_nbf])
theorem up_nbf_none_Ad(W:World)(n:Nat)(vnbf:Value)(hn:n=W.heap.size):(Instr.mapUpdate 60 (.map (some n)) (.string ⟨#[110,98,102]⟩) vnbf).run Tryz.prog (W.alloc (.map #[] 0)).drew=.ok () (W.alloc (.map #[{key:=.string ⟨#[110,98,102]⟩,val:=vnbf,born:=0}] 1)).drew:=updAd W n 0 _ _ _ hn (by simp[Instr.findNow,Instr.sameNow,ne_iat_nbf,ne_iat_exp,ne_nbf_iat,ne_nbf_exp,ne_exp_iat,ne_exp_nbf])
theorem up_nbf_none_Bd(W:World)(n:Nat)(vnbf:Value)(z:Obj)(hn:n=W.heap.size):(Instr.mapUpdate 60 (.map (some n)) (.string ⟨#[110,98,102]⟩) vnbf).run Tryz.prog ((W.alloc (.map #[] 0)).alloc z).drew=.ok () ((W.alloc (.map #[{key:=.string ⟨#[110,98,102]⟩,val:=vnbf,born:=0}] 1)).alloc z).drew:=updBd W n 0 _ _ _ z hn (by simp[Instr.findNow,Instr.sameNow,ne_iat_nbf,ne_iat_exp,ne_nbf_iat,ne_nbf_exp,ne_exp_iat,ne_exp_nbf])
theorem up_nbf_iat_A(W:World)(n:Nat)(viat vnbf:Value)(hn:n=W.heap.size):(Instr.mapUpdate 60 (.map (some n)) (.string ⟨#[110,98,102]⟩) vnbf).run Tryz.prog (W.alloc (.map #[{key:=.string ⟨#[105,97,116]⟩,val:=viat,born:=0}] 1))=.ok () (W.alloc (.map #[{key:=.string ⟨#[105,97,116]⟩,val:=viat,born:=0},{key:=.string ⟨#[110,98,102]⟩,val:=vnbf,born:=1}] 2)):=updA W n 1 _ _ _ hn (by simp[Instr.findNow,Instr.sameNow,ne_iat_nbf,ne_iat_exp,ne_nbf_iat,ne_nbf_exp,ne_exp_iat,ne_exp_nbf])
theorem up_nbf_iat_B(W:World)(n:Nat)(viat vnbf:Value)(z:Obj)(hn:n=W.heap.size):(Instr.mapUpdate 60 (.map (some n)) (.string ⟨#[110,98,102]⟩) vnbf).run Tryz.prog ((W.alloc (.map #[{key:=.string ⟨#[105,97,116]⟩,val:=viat,born:=0}] 1)).alloc z)=.ok () ((W.alloc (.map #[{key:=.string ⟨#[105,97,116]⟩,val:=viat,born:=0},{key:=.string ⟨#[110,98,102]⟩,val:=vnbf,born:=1}] 2)).alloc z):=updB W n 1 _ _ _ z hn (by simp[Instr.findNow,Instr.sameNow,ne_iat_nbf,ne_iat_exp,ne_nbf_iat,ne_nbf_exp,ne_exp_iat,ne_exp_nbf])
theorem up_nbf_iat_Ad(W:World)(n:Nat)(viat vnbf:Value)(hn:n=W.heap.size):(Instr.mapUpdate 60 (.map (some n)) (.string ⟨#[110,98,102]⟩) vnbf).run Tryz.prog (W.alloc (.map #[{key:=.string ⟨#[105,97,116]⟩,val:=viat,born:=0}] 1)).drew=.ok () (W.alloc (.map #[{key:=.string ⟨#[105,97,116]⟩,val:=viat,born:=0},{key:=.string ⟨#[110,98,102]⟩,val:=vnbf,born:=1}] 2)).drew:=updAd W n 1 _ _ _ hn (by simp[Instr.findNow,Instr.sameNow,ne_iat_nbf,ne_iat_exp,ne_nbf_iat,ne_nbf_exp,ne_exp_iat,ne_exp_nbf])
theorem up_nbf_iat_Bd(W:World)(n:Nat)(viat vnbf:Value)(z:Obj)(hn:n=W.heap.size):(Instr.mapUpdate 60 (.map (some n)) (.string ⟨#[110,98,102]⟩) vnbf).run Tryz.prog ((W.alloc (.map #[{key:=.string ⟨#[105,97,116]⟩,val:=viat,born:=0}] 1)).alloc z).drew=.ok () ((W.alloc (.map #[{key:=.string ⟨#[105,97,116]⟩,val:=viat,born:=0},{key:=.string ⟨#[110,98,102]⟩,val:=vnbf,born:=1}] 2)).alloc z).drew:=updBd W n 1 _ _ _ z hn (by simp[Instr.findNow,Instr.sameNow,ne_iat_nbf,ne_iat_exp,ne_nbf_iat,ne_nbf_exp,ne_exp_iat,ne_exp_nbf])
theorem up_nbf_exp_A(W:World)(n:Nat)(vexp vnbf:Value)(hn:n=W.heap.size):(Instr.mapUpdate 60 (.map (some n)) (.string ⟨#[110,98,102]⟩) vnbf).run Tryz.prog (W.alloc (.map #[{key:=.string ⟨#[101,120,112]⟩,val:=vexp,born:=0}] 1))=.ok () (W.alloc (.map #[{key:=.string ⟨#[101,120,112]⟩,val:=vexp,born:=0},{key:=.string ⟨#[110,98,102]⟩,val:=vnbf,born:=1}] 2)):=updA W n 1 _ _ _ hn (by simp[Instr.findNow,Instr.sameNow,ne_iat_nbf,ne_iat_exp,ne_nbf_iat,ne_nbf_exp,ne_exp_iat,ne_exp_nbf])
theorem up_nbf_exp_B(W:World)(n:Nat)(vexp vnbf:Value)(z:Obj)(hn:n=W.heap.size):(Instr.mapUpdate 60 (.map (some n)) (.string ⟨#[110,98,102]⟩) vnbf).run Tryz.prog ((W.alloc (.map #[{key:=.string ⟨#[101,120,112]⟩,val:=vexp,born:=0}] 1)).alloc z)=.ok () ((W.alloc (.map #[{key:=.string ⟨#[101,120,112]⟩,val:=vexp,born:=0},{key:=.string ⟨#[110,98,102]⟩,val:=vnbf,born:=1}] 2)).alloc z):=updB W n 1 _ _ _ z hn (by simp[Instr.findNow,Instr.sameNow,ne_iat_nbf,ne_iat_exp,ne_nbf_iat,ne_nbf_exp,ne_exp_iat,ne_exp_nbf])
theorem up_nbf_exp_Ad(W:World)(n:Nat)(vexp vnbf:Value)(hn:n=W.heap.size):(Instr.mapUpdate 60 (.map (some n)) (.string ⟨#[110,98,102]⟩) vnbf).run Tryz.prog (W.alloc (.map #[{key:=.string ⟨#[101,120,112]⟩,val:=vexp,born:=0}] 1)).drew=.ok () (W.alloc (.map #[{key:=.string ⟨#[101,120,112]⟩,val:=vexp,born:=0},{key:=.string ⟨#[110,98,102]⟩,val:=vnbf,born:=1}] 2)).drew:=updAd W n 1 _ _ _ hn (by simp[Instr.findNow,Instr.sameNow,ne_iat_nbf,ne_iat_exp,ne_nbf_iat,ne_nbf_exp,ne_exp_iat,ne_exp_nbf])
theorem up_nbf_exp_Bd(W:World)(n:Nat)(vexp vnbf:Value)(z:Obj)(hn:n=W.heap.size):(Instr.mapUpdate 60 (.map (some n)) (.string ⟨#[110,98,102]⟩) vnbf).run Tryz.prog ((W.alloc (.map #[{key:=.string ⟨#[101,120,112]⟩,val:=vexp,born:=0}] 1)).alloc z).drew=.ok () ((W.alloc (.map #[{key:=.string ⟨#[101,120,112]⟩,val:=vexp,born:=0},{key:=.string ⟨#[110,98,102]⟩,val:=vnbf,born:=1}] 2)).alloc z).drew:=updBd W n 1 _ _ _ z hn (by simp[Instr.findNow,Instr.sameNow,ne_iat_nbf,ne_iat_exp,ne_nbf_iat,ne_nbf_exp,ne_exp_iat,ne_exp_nbf])
theorem up_nbf_iatexp_A(W:World)(n:Nat)(viat vexp vnbf:Value)(hn:n=W.heap.size):(Instr.mapUpdate 60 (.map (some n)) (.string ⟨#[110,98,102]⟩) vnbf).run Tryz.prog (W.alloc (.map #[{key:=.string ⟨#[105,97,116]⟩,val:=viat,born:=0},{key:=.string ⟨#[101,120,112]⟩,val:=vexp,born:=1}] 2))=.ok () (W.alloc (.map #[{key:=.string ⟨#[105,97,116]⟩,val:=viat,born:=0},{key:=.string ⟨#[101,120,112]⟩,val:=vexp,born:=1},{key:=.string ⟨#[110,98,102]⟩,val:=vnbf,born:=2}] 3)):=updA W n 2 _ _ _ hn (by simp[Instr.findNow,Instr.sameNow,ne_iat_nbf,ne_iat_exp,ne_nbf_iat,ne_nbf_exp,ne_exp_iat,ne_exp_nbf])
theorem up_nbf_iatexp_B(W:World)(n:Nat)(viat vexp vnbf:Value)(z:Obj)(hn:n=W.heap.size):(Instr.mapUpdate 60 (.map (some n)) (.string ⟨#[110,98,102]⟩) vnbf).run Tryz.prog ((W.alloc (.map #[{key:=.string ⟨#[105,97,116]⟩,val:=viat,born:=0},{key:=.string ⟨#[101,120,112]⟩,val:=vexp,born:=1}] 2)).alloc z)=.ok () ((W.alloc (.map #[{key:=.string ⟨#[105,97,116]⟩,val:=viat,born:=0},{key:=.string ⟨#[101,120,112]⟩,val:=vexp,born:=1},{key:=.string ⟨#[110,98,102]⟩,val:=vnbf,born:=2}] 3)).alloc z):=updB W n 2 _ _ _ z hn (by simp[Instr.findNow,Instr.sameNow,ne_iat_nbf,ne_iat_exp,ne_nbf_iat,ne_nbf_exp,ne_exp_iat,ne_exp_nbf])
theorem up_nbf_iatexp_Ad(W:World)(n:Nat)(viat vexp vnbf:Value)(hn:n=W.heap.size):(Instr.mapUpdate 60 (.map (some n)) (.string ⟨#[110,98,102]⟩) vnbf).run Tryz.prog (W.alloc (.map #[{key:=.string ⟨#[105,97,116]⟩,val:=viat,born:=0},{key:=.string ⟨#[101,120,112]⟩,val:=vexp,born:=1}] 2)).drew=.ok () (W.alloc (.map #[{key:=.string ⟨#[105,97,116]⟩,val:=viat,born:=0},{key:=.string ⟨#[101,120,112]⟩,val:=vexp,born:=1},{key:=.string ⟨#[110,98,102]⟩,val:=vnbf,born:=2}] 3)).drew:=updAd W n 2 _ _ _ hn (by simp[Instr.findNow,Instr.sameNow,ne_iat_nbf,ne_iat_exp,ne_nbf_iat,ne_nbf_exp,ne_exp_iat,ne_exp_nbf])
theorem up_nbf_iatexp_Bd(W:World)(n:Nat)(viat vexp vnbf:Value)(z:Obj)(hn:n=W.heap.size):(Instr.mapUpdate 60 (.map (some n)) (.string ⟨#[110,98,102]⟩) vnbf).run Tryz.prog ((W.alloc (.map #[{key:=.string ⟨#[105,97,116]⟩,val:=viat,born:=0},{key:=.string ⟨#[101,120,112]⟩,val:=vexp,born:=1}] 2)).alloc z).drew=.ok () ((W.alloc (.map #[{key:=.string ⟨#[105,97,116]⟩,val:=viat,born:=0},{key:=.string ⟨#[101,120,112]⟩,val:=vexp,born:=1},{key:=.string ⟨#[110,98,102]⟩,val:=vnbf,born:=2}] 3)).alloc z).drew:=updBd W n 2 _ _ _ z hn (by simp[Instr.findNow,Instr.sameNow,ne_iat_nbf,ne_iat_exp,ne_nbf_iat,ne_nbf_exp,ne_exp_iat,ne_exp_nbf])
theorem up_nbf_expiat_A(W:World)(n:Nat)(vexp viat vnbf:Value)(hn:n=W.heap.size):(Instr.mapUpdate 60 (.map (some n)) (.string ⟨#[110,98,102]⟩) vnbf).run Tryz.prog (W.alloc (.map #[{key:=.string ⟨#[101,120,112]⟩,val:=vexp,born:=0},{key:=.string ⟨#[105,97,116]⟩,val:=viat,born:=1}] 2))=.ok () (W.alloc (.map #[{key:=.string ⟨#[101,120,112]⟩,val:=vexp,born:=0},{key:=.string ⟨#[105,97,116]⟩,val:=viat,born:=1},{key:=.string ⟨#[110,98,102]⟩,val:=vnbf,born:=2}] 3)):=updA W n 2 _ _ _ hn (by simp[Instr.findNow,Instr.sameNow,ne_iat_nbf,ne_iat_exp,ne_nbf_iat,ne_nbf_exp,ne_exp_iat,ne_exp_nbf])
theorem up_nbf_expiat_B(W:World)(n:Nat)(vexp viat vnbf:Value)(z:Obj)(hn:n=W.heap.size):(Instr.mapUpdate 60 (.map (some n)) (.string ⟨#[110,98,102]⟩) vnbf).run Tryz.prog ((W.alloc (.map #[{key:=.string ⟨#[101,120,112]⟩,val:=vexp,born:=0},{key:=.string ⟨#[105,97,116]⟩,val:=viat,born:=1}] 2)).alloc z)=.ok () ((W.alloc (.map #[{key:=.string ⟨#[101,120,112]⟩,val:=vexp,born:=0},{key:=.string ⟨#[105,97,116]⟩,val:=viat,born:=1},{key:=.string ⟨#[110,98,102]⟩,val:=vnbf,born:=2}] 3)).alloc z):=updB W n 2 _ _ _ z hn (by simp[Instr.findNow,Instr.sameNow,ne_iat_nbf,ne_iat_exp,ne_nbf_iat,ne_nbf_exp,ne_exp_iat,ne_exp_nbf])
theorem up_nbf_expiat_Ad(W:World)(n:Nat)(vexp viat vnbf:Value)(hn:n=W.heap.size):(Instr.mapUpdate 60 (.map (some n)) (.string ⟨#[110,98,102]⟩) vnbf).run Tryz.prog (W.alloc (.map #[{key:=.string ⟨#[101,120,112]⟩,val:=vexp,born:=0},{key:=.string ⟨#[105,97,116]⟩,val:=viat,born:=1}] 2)).drew=.ok () (W.alloc (.map #[{key:=.string ⟨#[101,120,112]⟩,val:=vexp,born:=0},{key:=.string ⟨#[105,97,116]⟩,val:=viat,born:=1},{key:=.string ⟨#[110,98,102]⟩,val:=vnbf,born:=2}] 3)).drew:=updAd W n 2 _ _ _ hn (by simp[Instr.findNow,Instr.sameNow,ne_iat_nbf,ne_iat_exp,ne_nbf_iat,ne_nbf_exp,ne_exp_iat,ne_exp_nbf])
theorem up_nbf_expiat_Bd(W:World)(n:Nat)(vexp viat vnbf:Value)(z:Obj)(hn:n=W.heap.size):(Instr.mapUpdate 60 (.map (some n)) (.string ⟨#[110,98,102]⟩) vnbf).run Tryz.prog ((W.alloc (.map #[{key:=.string ⟨#[101,120,112]⟩,val:=vexp,born:=0},{key:=.string ⟨#[105,97,116]⟩,val:=viat,born:=1}] 2)).alloc z).drew=.ok () ((W.alloc (.map #[{key:=.string ⟨#[101,120,112]⟩,val:=vexp,born:=0},{key:=.string ⟨#[105,97,116]⟩,val:=viat,born:=1},{key:=.string ⟨#[110,98,102]⟩,val:=vnbf,born:=2}] 3)).alloc z).drew:=updBd W n 2 _ _ _ z hn (by simp[Instr.findNow,Instr.sameNow,ne_iat_nbf,ne_iat_exp,ne_nbf_iat,ne_nbf_exp,ne_exp_iat,ne_exp_nbf])
theorem up_exp_none_A(W:World)(n:Nat)(vexp:Value)(hn:n=W.heap.size):(Instr.mapUpdate 60 (.map (some n)) (.string ⟨#[101,120,112]⟩) vexp).run Tryz.prog (W.alloc (.map #[] 0))=.ok () (W.alloc (.map #[{key:=.string ⟨#[101,120,112]⟩,val:=vexp,born:=0}] 1)):=updA W n 0 _ _ _ hn (by simp[Instr.findNow,Instr.sameNow,ne_iat_nbf,ne_iat_exp,ne_nbf_iat,ne_nbf_exp,ne_exp_iat,ne_exp_nbf])
theorem up_exp_none_B(W:World)(n:Nat)(vexp:Value)(z:Obj)(hn:n=W.heap.size):(Instr.mapUpdate 60 (.map (some n)) (.string ⟨#[101,120,112]⟩) vexp).run Tryz.prog ((W.alloc (.map #[] 0)).alloc z)=.ok () ((W.alloc (.map #[{key:=.string ⟨#[101,120,112]⟩,val:=vexp,born:=0}] 1)).alloc z):=updB W n 0 _ _ _ z hn (by simp[Instr.findNow,Instr.sameNow,ne_iat_nbf,ne_iat_exp,ne_nbf_iat,ne_nbf_exp,ne_exp_iat,ne_exp_nbf])
theorem up_exp_none_Ad(W:World)(n:Nat)(vexp:Value)(hn:n=W.heap.size):(Instr.mapUpdate 60 (.map (some n)) (.string ⟨#[101,120,112]⟩) vexp).run Tryz.prog (W.alloc (.map #[] 0)).drew=.ok () (W.alloc (.map #[{key:=.string ⟨#[101,120,112]⟩,val:=vexp,born:=0}] 1)).drew:=updAd W n 0 _ _ _ hn (by simp[Instr.findNow,Instr.sameNow,ne_iat_nbf,ne_iat_exp,ne_nbf_iat,ne_nbf_exp,ne_exp_iat,ne_exp_nbf])
theorem up_exp_none_Bd(W:World)(n:Nat)(vexp:Value)(z:Obj)(hn:n=W.heap.size):(Instr.mapUpdate 60 (.map (some n)) (.string ⟨#[101,120,112]⟩) vexp).run Tryz.prog ((W.alloc (.map #[] 0)).alloc z).drew=.ok () ((W.alloc (.map #[{key:=.string ⟨#[101,120,112]⟩,val:=vexp,born:=0}] 1)).alloc z).drew:=updBd W n 0 _ _ _ z hn (by simp[Instr.findNow,Instr.sameNow,ne_iat_nbf,ne_iat_exp,ne_nbf_iat,ne_nbf_exp,ne_exp_iat,ne_exp_nbf])
theorem up_exp_iat_A(W:World)(n:Nat)(viat vexp:Value)(hn:n=W.heap.size):(Instr.mapUpdate 60 (.map (some n)) (.string ⟨#[101,120,112]⟩) vexp).run Tryz.prog (W.alloc (.map #[{key:=.string ⟨#[105,97,116]⟩,val:=viat,born:=0}] 1))=.ok () (W.alloc (.map #[{key:=.string ⟨#[105,97,116]⟩,val:=viat,born:=0},{key:=.string ⟨#[101,120,112]⟩,val:=vexp,born:=1}] 2)):=updA W n 1 _ _ _ hn (by simp[Instr.findNow,Instr.sameNow,ne_iat_nbf,ne_iat_exp,ne_nbf_iat,ne_nbf_exp,ne_exp_iat,ne_exp_nbf])
theorem up_exp_iat_B(W:World)(n:Nat)(viat vexp:Value)(z:Obj)(hn:n=W.heap.size):(Instr.mapUpdate 60 (.map (some n)) (.string ⟨#[101,120,112]⟩) vexp).run Tryz.prog ((W.alloc (.map #[{key:=.string ⟨#[105,97,116]⟩,val:=viat,born:=0}] 1)).alloc z)=.ok () ((W.alloc (.map #[{key:=.string ⟨#[105,97,116]⟩,val:=viat,born:=0},{key:=.string ⟨#[101,120,112]⟩,val:=vexp,born:=1}] 2)).alloc z):=updB W n 1 _ _ _ z hn (by simp[Instr.findNow,Instr.sameNow,ne_iat_nbf,ne_iat_exp,ne_nbf_iat,ne_nbf_exp,ne_exp_iat,ne_exp_nbf])
theorem up_exp_iat_Ad(W:World)(n:Nat)(viat vexp:Value)(hn:n=W.heap.size):(Instr.mapUpdate 60 (.map (some n)) (.string ⟨#[101,120,112]⟩) vexp).run Tryz.prog (W.alloc (.map #[{key:=.string ⟨#[105,97,116]⟩,val:=viat,born:=0}] 1)).drew=.ok () (W.alloc (.map #[{key:=.string ⟨#[105,97,116]⟩,val:=viat,born:=0},{key:=.string ⟨#[101,120,112]⟩,val:=vexp,born:=1}] 2)).drew:=updAd W n 1 _ _ _ hn (by simp[Instr.findNow,Instr.sameNow,ne_iat_nbf,ne_iat_exp,ne_nbf_iat,ne_nbf_exp,ne_exp_iat,ne_exp_nbf])
theorem up_exp_iat_Bd(W:World)(n:Nat)(viat vexp:Value)(z:Obj)(hn:n=W.heap.size):(Instr.mapUpdate 60 (.map (some n)) (.string ⟨#[101,120,112]⟩) vexp).run Tryz.prog ((W.alloc (.map #[{key:=.string ⟨#[105,97,116]⟩,val:=viat,born:=0}] 1)).alloc z).drew=.ok () ((W.alloc (.map #[{key:=.string ⟨#[105,97,116]⟩,val:=viat,born:=0},{key:=.string ⟨#[101,120,112]⟩,val:=vexp,born:=1}] 2)).alloc z).drew:=updBd W n 1 _ _ _ z hn (by simp[Instr.findNow,Instr.sameNow,ne_iat_nbf,ne_iat_exp,ne_nbf_iat,ne_nbf_exp,ne_exp_iat,ne_exp_nbf])
theorem up_exp_nbf_A(W:World)(n:Nat)(vnbf vexp:Value)(hn:n=W.heap.size):(Instr.mapUpdate 60 (.map (some n)) (.string ⟨#[101,120,112]⟩) vexp).run Tryz.prog (W.alloc (.map #[{key:=.string ⟨#[110,98,102]⟩,val:=vnbf,born:=0}] 1))=.ok () (W.alloc (.map #[{key:=.string ⟨#[110,98,102]⟩,val:=vnbf,born:=0},{key:=.string ⟨#[101,120,112]⟩,val:=vexp,born:=1}] 2)):=updA W n 1 _ _ _ hn (by simp[Instr.findNow,Instr.sameNow,ne_iat_nbf,ne_iat_exp,ne_nbf_iat,ne_nbf_exp,ne_exp_iat,ne_exp_nbf])
theorem up_exp_nbf_B(W:World)(n:Nat)(vnbf vexp:Value)(z:Obj)(hn:n=W.heap.size):(Instr.mapUpdate 60 (.map (some n)) (.string ⟨#[101,120,112]⟩) vexp).run Tryz.prog ((W.alloc (.map #[{key:=.string ⟨#[110,98,102]⟩,val:=vnbf,born:=0}] 1)).alloc z)=.ok () ((W.alloc (.map #[{key:=.string ⟨#[110,98,102]⟩,val:=vnbf,born:=0},{key:=.string ⟨#[101,120,112]⟩,val:=vexp,born:=1}] 2)).alloc z):=updB W n 1 _ _ _ z hn (by simp[Instr.findNow,Instr.sameNow,ne_iat_nbf,ne_iat_exp,ne_nbf_iat,ne_nbf_exp,ne_exp_iat,ne_exp_nbf])
theorem up_exp_nbf_Ad(W:World)(n:Nat)(vnbf vexp:Value)(hn:n=W.heap.size):(Instr.mapUpdate 60 (.map (some n)) (.string ⟨#[101,120,112]⟩) vexp).run Tryz.prog (W.alloc (.map #[{key:=.string ⟨#[110,98,102]⟩,val:=vnbf,born:=0}] 1)).drew=.ok () (W.alloc (.map #[{key:=.string ⟨#[110,98,102]⟩,val:=vnbf,born:=0},{key:=.string ⟨#[101,120,112]⟩,val:=vexp,born:=1}] 2)).drew:=updAd W n 1 _ _ _ hn (by simp[Instr.findNow,Instr.sameNow,ne_iat_nbf,ne_iat_exp,ne_nbf_iat,ne_nbf_exp,ne_exp_iat,ne_exp_nbf])
theorem up_exp_nbf_Bd(W:World)(n:Nat)(vnbf vexp:Value)(z:Obj)(hn:n=W.heap.size):(Instr.mapUpdate 60 (.map (some n)) (.string ⟨#[101,120,112]⟩) vexp).run Tryz.prog ((W.alloc (.map #[{key:=.string ⟨#[110,98,102]⟩,val:=vnbf,born:=0}] 1)).alloc z).drew=.ok () ((W.alloc (.map #[{key:=.string ⟨#[110,98,102]⟩,val:=vnbf,born:=0},{key:=.string ⟨#[101,120,112]⟩,val:=vexp,born:=1}] 2)).alloc z).drew:=updBd W n 1 _ _ _ z hn (by simp[Instr.findNow,Instr.sameNow,ne_iat_nbf,ne_iat_exp,ne_nbf_iat,ne_nbf_exp,ne_exp_iat,ne_exp_nbf])
theorem up_exp_iatnbf_A(W:World)(n:Nat)(viat vnbf vexp:Value)(hn:n=W.heap.size):(Instr.mapUpdate 60 (.map (some n)) (.string ⟨#[101,120,112]⟩) vexp).run Tryz.prog (W.alloc (.map #[{key:=.string ⟨#[105,97,116]⟩,val:=viat,born:=0},{key:=.string ⟨#[110,98,102]⟩,val:=vnbf,born:=1}] 2))=.ok () (W.alloc (.map #[{key:=.string ⟨#[105,97,116]⟩,val:=viat,born:=0},{key:=.string ⟨#[110,98,102]⟩,val:=vnbf,born:=1},{key:=.string ⟨#[101,120,112]⟩,val:=vexp,born:=2}] 3)):=updA W n 2 _ _ _ hn (by simp[Instr.findNow,Instr.sameNow,ne_iat_nbf,ne_iat_exp,ne_nbf_iat,ne_nbf_exp,ne_exp_iat,ne_exp_nbf])
theorem up_exp_iatnbf_B(W:World)(n:Nat)(viat vnbf vexp:Value)(z:Obj)(hn:n=W.heap.size):(Instr.mapUpdate 60 (.map (some n)) (.string ⟨#[101,120,112]⟩) vexp).run Tryz.prog ((W.alloc (.map #[{key:=.string ⟨#[105,97,116]⟩,val:=viat,born:=0},{key:=.string ⟨#[110,98,102]⟩,val:=vnbf,born:=1}] 2)).alloc z)=.ok () ((W.alloc (.map #[{key:=.string ⟨#[105,97,116]⟩,val:=viat,born:=0},{key:=.string ⟨#[110,98,102]⟩,val:=vnbf,born:=1},{key:=.string ⟨#[101,120,112]⟩,val:=vexp,born:=2}] 3)).alloc z):=updB W n 2 _ _ _ z hn (by simp[Instr.findNow,Instr.sameNow,ne_iat_nbf,ne_iat_exp,ne_nbf_iat,ne_nbf_exp,ne_exp_iat,ne_exp_nbf])
theorem up_exp_iatnbf_Ad(W:World)(n:Nat)(viat vnbf vexp:Value)(hn:n=W.heap.size):(Instr.mapUpdate 60 (.map (some n)) (.string ⟨#[101,120,112]⟩) vexp).run Tryz.prog (W.alloc (.map #[{key:=.string ⟨#[105,97,116]⟩,val:=viat,born:=0},{key:=.string ⟨#[110,98,102]⟩,val:=vnbf,born:=1}] 2)).drew=.ok () (W.alloc (.map #[{key:=.string ⟨#[105,97,116]⟩,val:=viat,born:=0},{key:=.string ⟨#[110,98,102]⟩,val:=vnbf,born:=1},{key:=.string ⟨#[101,120,112]⟩,val:=vexp,born:=2}] 3)).drew:=updAd W n 2 _ _ _ hn (by simp[Instr.findNow,Instr.sameNow,ne_iat_nbf,ne_iat_exp,ne_nbf_iat,ne_nbf_exp,ne_exp_iat,ne_exp_nbf])
theorem up_exp_iatnbf_Bd(W:World)(n:Nat)(viat vnbf vexp:Value)(z:Obj)(hn:n=W.heap.size):(Instr.mapUpdate 60 (.map (some n)) (.string ⟨#[101,120,112]⟩) vexp).run Tryz.prog ((W.alloc (.map #[{key:=.string ⟨#[105,97,116]⟩,val:=viat,born:=0},{key:=.string ⟨#[110,98,102]⟩,val:=vnbf,born:=1}] 2)).alloc z).drew=.ok () ((W.alloc (.map #[{key:=.string ⟨#[105,97,116]⟩,val:=viat,born:=0},{key:=.string ⟨#[110,98,102]⟩,val:=vnbf,born:=1},{key:=.string ⟨#[101,120,112]⟩,val:=vexp,born:=2}] 3)).alloc z).drew:=updBd W n 2 _ _ _ z hn (by simp[Instr.findNow,Instr.sameNow,ne_iat_nbf,ne_iat_exp,ne_nbf_iat,ne_nbf_exp,ne_exp_iat,ne_exp_nbf])
theorem up_exp_nbfiat_A(W:World)(n:Nat)(vnbf viat vexp:Value)(hn:n=W.heap.size):(Instr.mapUpdate 60 (.map (some n)) (.string ⟨#[101,120,112]⟩) vexp).run Tryz.prog (W.alloc (.map #[{key:=.string ⟨#[110,98,102]⟩,val:=vnbf,born:=0},{key:=.string ⟨#[105,97,116]⟩,val:=viat,born:=1}] 2))=.ok () (W.alloc (.map #[{key:=.string ⟨#[110,98,102]⟩,val:=vnbf,born:=0},{key:=.string ⟨#[105,97,116]⟩,val:=viat,born:=1},{key:=.string ⟨#[101,120,112]⟩,val:=vexp,born:=2}] 3)):=updA W n 2 _ _ _ hn (by simp[Instr.findNow,Instr.sameNow,ne_iat_nbf,ne_iat_exp,ne_nbf_iat,ne_nbf_exp,ne_exp_iat,ne_exp_nbf])
theorem up_exp_nbfiat_B(W:World)(n:Nat)(vnbf viat vexp:Value)(z:Obj)(hn:n=W.heap.size):(Instr.mapUpdate 60 (.map (some n)) (.string ⟨#[101,120,112]⟩) vexp).run Tryz.prog ((W.alloc (.map #[{key:=.string ⟨#[110,98,102]⟩,val:=vnbf,born:=0},{key:=.string ⟨#[105,97,116]⟩,val:=viat,born:=1}] 2)).alloc z)=.ok () ((W.alloc (.map #[{key:=.string ⟨#[110,98,102]⟩,val:=vnbf,born:=0},{key:=.string ⟨#[105,97,116]⟩,val:=viat,born:=1},{key:=.string ⟨#[101,120,112]⟩,val:=vexp,born:=2}] 3)).alloc z):=updB W n 2 _ _ _ z hn (by simp[Instr.findNow,Instr.sameNow,ne_iat_nbf,ne_iat_exp,ne_nbf_iat,ne_nbf_exp,ne_exp_iat,ne_exp_nbf])
theorem up_exp_nbfiat_Ad(W:World)(n:Nat)(vnbf viat vexp:Value)(hn:n=W.heap.size):(Instr.mapUpdate 60 (.map (some n)) (.string ⟨#[101,120,112]⟩) vexp).run Tryz.prog (W.alloc (.map #[{key:=.string ⟨#[110,98,102]⟩,val:=vnbf,born:=0},{key:=.string ⟨#[105,97,116]⟩,val:=viat,born:=1}] 2)).drew=.ok () (W.alloc (.map #[{key:=.string ⟨#[110,98,102]⟩,val:=vnbf,born:=0},{key:=.string ⟨#[105,97,116]⟩,val:=viat,born:=1},{key:=.string ⟨#[101,120,112]⟩,val:=vexp,born:=2}] 3)).drew:=updAd W n 2 _ _ _ hn (by simp[Instr.findNow,Instr.sameNow,ne_iat_nbf,ne_iat_exp,ne_nbf_iat,ne_nbf_exp,ne_exp_iat,ne_exp_nbf])
theorem up_exp_nbfiat_Bd(W:World)(n:Nat)(vnbf viat vexp:Value)(z:Obj)(hn:n=W.heap.size):(Instr.mapUpdate 60 (.map (some n)) (.string ⟨#[101,120,112]⟩) vexp).run Tryz.prog ((W.alloc (.map #[{key:=.string ⟨#[110,98,102]⟩,val:=vnbf,born:=0},{key:=.string ⟨#[105,97,116]⟩,val:=viat,born:=1}] 2)).alloc z).drew=.ok () ((W.alloc (.map #[{key:=.string ⟨#[110,98,102]⟩,val:=vnbf,born:=0},{key:=.string ⟨#[105,97,116]⟩,val:=viat,born:=1},{key:=.string ⟨#[101,120,112]⟩,val:=vexp,born:=2}] 3)).alloc z).drew:=updBd W n 2 _ _ _ z hn (by simp[Instr.findNow,Instr.sameNow,ne_iat_nbf,ne_iat_exp,ne_nbf_iat,ne_nbf_exp,ne_exp_iat,ne_exp_nbf])
theorem beqB(a b:ByteArray):(a==b)=decide (a=b):=by
 obtain⟨a⟩:=a;obtain⟨b⟩:=b;show(a==b)=_
 rw[Bool.eq_iff_iff,decide_eq_true_iff,beq_iff_eq];constructor
 ·intro h;rw[h]
 ·intro h;injection h
def lookV(bC:Nat)(s:ByteArray):Value:=if s=⟨#[105,97,116]⟩then .pointer (some ⟨bC,2,none⟩)else if s=⟨#[110,98,102]⟩then .pointer (some ⟨bC,3,none⟩)else if s=⟨#[101,120,112]⟩then .pointer (some ⟨bC,4,none⟩)else .pointer none
def LK(bC:Nat)(es:Array MapEntry):Prop:=∀s:ByteArray,∃r,Instr.findNow .string (.string s) es.toList 0=some r∧(match r with|some (_,v)=>v|none=>Value.pointer none)=lookV bC s
structure TT (bC b1 b2 b5 bm:Nat) (v:Value) (w:World):Prop where
 c1:w.cell? ⟨b1,0,none⟩=some v
 c2:w.cell? ⟨b2,0,none⟩=some (.pointer (some ⟨bC,0,none⟩))
 c5:w.cell? ⟨b5,0,none⟩=some (.map (some bm))
 mp:∃es clk,w.heap[bm]?=some (.map es clk)∧LK bC es
 n1:bC<b1
 n2:bC<b2
 n5:bC<b5
 nm:bC<bm
theorem run_look(w:World)(bC bm clk:Nat)(es:Array MapEntry)(s:ByteArray)(hb:w.heap[bm]?=some (.map es clk))(hk:LK bC es):(Instr.lookup 60 (.map (some bm)) (.string s) false).run Tryz.prog w=.ok (lookV bC s) w:=by
 obtain⟨r,h1,h2⟩:=hk s;have hc:∀e,(Instr.checkKey e 10000 9 (.string s)).run Tryz.prog w=.ok () w:=fun e=>MapKept.run_checkKey (k:=.string s) Tryz.underlying9 (by simp[MapKept.IsKey]) e 9999
 have hz:(zeroValue 59).run Tryz.prog w=.ok (.pointer none) w:=by kernel_rfl
 cases r with
 | none=>simp only at h2;simp[Instr.lookup,run_underlying mapT,MapKept.run_getObj_map hb,hc,MapKept.run_findKey Tryz.underlying9 h1,hz,Result.andThen,h2]
 | some q=>obtain⟨i,v⟩:=q;simp only at h2;simp[Instr.lookup,run_underlying mapT,MapKept.run_getObj_map hb,hc,MapKept.run_findKey Tryz.underlying9 h1,Result.andThen,h2]
theorem lk_iatnbfexp(bC:Nat):LK bC #[{key:=.string ⟨#[105,97,116]⟩,val:=.pointer (some ⟨bC,2,none⟩),born:=0},{key:=.string ⟨#[110,98,102]⟩,val:=.pointer (some ⟨bC,3,none⟩),born:=1},{key:=.string ⟨#[101,120,112]⟩,val:=.pointer (some ⟨bC,4,none⟩),born:=2}]:=by
 intro s;by_cases h1:s=⟨#[105,97,116]⟩
 ·subst h1;exact⟨_,rfl,rfl⟩
 ·by_cases h2:s=⟨#[110,98,102]⟩
  ·subst h2;exact⟨_,rfl,rfl⟩
  ·by_cases h3:s=⟨#[101,120,112]⟩
   ·subst h3;exact⟨_,rfl,rfl⟩
   ·refine⟨none,?_,?_⟩
    ·simp[Instr.findNow,Instr.sameNow,beqB,h1,h2,h3]
    ·simp[lookV,h1,h2,h3]
theorem lk_iatexpnbf(bC:Nat):LK bC #[{key:=.string ⟨#[105,97,116]⟩,val:=.pointer (some ⟨bC,2,none⟩),born:=0},{key:=.string ⟨#[101,120,112]⟩,val:=.pointer (some ⟨bC,4,none⟩),born:=1},{key:=.string ⟨#[110,98,102]⟩,val:=.pointer (some ⟨bC,3,none⟩),born:=2}]:=by
 intro s;by_cases h1:s=⟨#[105,97,116]⟩
 ·subst h1;exact⟨_,rfl,rfl⟩
 ·by_cases h2:s=⟨#[110,98,102]⟩
  ·subst h2;exact⟨_,rfl,rfl⟩
  ·by_cases h3:s=⟨#[101,120,112]⟩
   ·subst h3;exact⟨_,rfl,rfl⟩
   ·refine⟨none,?_,?_⟩
    ·simp[Instr.findNow,Instr.sameNow,beqB,h1,h2,h3]
    ·simp[lookV,h1,h2,h3]
theorem lk_nbfiatexp(bC:Nat):LK bC #[{key:=.string ⟨#[110,98,102]⟩,val:=.pointer (some ⟨bC,3,none⟩),born:=0},{key:=.string ⟨#[105,97,116]⟩,val:=.pointer (some ⟨bC,2,none⟩),born:=1},{key:=.string ⟨#[101,120,112]⟩,val:=.pointer (some ⟨bC,4,none⟩),born:=2}]:=by
 intro s;by_cases h1:s=⟨#[105,97,116]⟩
 ·subst h1;exact⟨_,rfl,rfl⟩
 ·by_cases h2:s=⟨#[110,98,102]⟩
  ·subst h2;exact⟨_,rfl,rfl⟩
  ·by_cases h3:s=⟨#[101,120,112]⟩
   ·subst h3;exact⟨_,rfl,rfl⟩
   ·refine⟨none,?_,?_⟩
    ·simp[Instr.findNow,Instr.sameNow,beqB,h1,h2,h3]
    ·simp[lookV,h1,h2,h3]
theorem lk_nbfexpiat(bC:Nat):LK bC #[{key:=.string ⟨#[110,98,102]⟩,val:=.pointer (some ⟨bC,3,none⟩),born:=0},{key:=.string ⟨#[101,120,112]⟩,val:=.pointer (some ⟨bC,4,none⟩),born:=1},{key:=.string ⟨#[105,97,116]⟩,val:=.pointer (some ⟨bC,2,none⟩),born:=2}]:=by
 intro s;by_cases h1:s=⟨#[105,97,116]⟩
 ·subst h1;exact⟨_,rfl,rfl⟩
 ·by_cases h2:s=⟨#[110,98,102]⟩
  ·subst h2;exact⟨_,rfl,rfl⟩
  ·by_cases h3:s=⟨#[101,120,112]⟩
   ·subst h3;exact⟨_,rfl,rfl⟩
   ·refine⟨none,?_,?_⟩
    ·simp[Instr.findNow,Instr.sameNow,beqB,h1,h2,h3]
    ·simp[lookV,h1,h2,h3]
theorem lk_expiatnbf(bC:Nat):LK bC #[{key:=.string ⟨#[101,120,112]⟩,val:=.pointer (some ⟨bC,4,none⟩),born:=0},{key:=.string ⟨#[105,97,116]⟩,val:=.pointer (some ⟨bC,2,none⟩),born:=1},{key:=.string ⟨#[110,98,102]⟩,val:=.pointer (some ⟨bC,3,none⟩),born:=2}]:=by
 intro s;by_cases h1:s=⟨#[105,97,116]⟩
 ·subst h1;exact⟨_,rfl,rfl⟩
 ·by_cases h2:s=⟨#[110,98,102]⟩
  ·subst h2;exact⟨_,rfl,rfl⟩
  ·by_cases h3:s=⟨#[101,120,112]⟩
   ·subst h3;exact⟨_,rfl,rfl⟩
   ·refine⟨none,?_,?_⟩
    ·simp[Instr.findNow,Instr.sameNow,beqB,h1,h2,h3]
    ·simp[lookV,h1,h2,h3]
theorem lk_expnbfiat(bC:Nat):LK bC #[{key:=.string ⟨#[101,120,112]⟩,val:=.pointer (some ⟨bC,4,none⟩),born:=0},{key:=.string ⟨#[110,98,102]⟩,val:=.pointer (some ⟨bC,3,none⟩),born:=1},{key:=.string ⟨#[105,97,116]⟩,val:=.pointer (some ⟨bC,2,none⟩),born:=2}]:=by
 intro s;by_cases h1:s=⟨#[105,97,116]⟩
 ·subst h1;exact⟨_,rfl,rfl⟩
 ·by_cases h2:s=⟨#[110,98,102]⟩
  ·subst h2;exact⟨_,rfl,rfl⟩
  ·by_cases h3:s=⟨#[101,120,112]⟩
   ·subst h3;exact⟨_,rfl,rfl⟩
   ·refine⟨none,?_,?_⟩
    ·simp[Instr.findNow,Instr.sameNow,beqB,h1,h2,h3]
    ·simp[lookV,h1,h2,h3]
theorem tt_a(W:World)(v:Value)(bC clk:Nat)(es:Array MapEntry)(h:bC<W.heap.size)(hk:LK bC es):TT bC W.heap.size (W.heap.size+1) (W.heap.size+1+1+1) (W.heap.size+1+1) v ((((W.alloc (.cells #[v] 36)).alloc (.cells #[.pointer (some ⟨bC,0,none⟩)] 44)).alloc (.map es clk)).alloc (.cells #[.map (some (W.heap.size+1+1))] 60)).drew:=by
 refine⟨?_,?_,?_,⟨es,clk,?_,hk⟩,by omega,by omega,by omega,by omega⟩
 ·show World.cell? (((W.alloc _).alloc _).alloc _|>.alloc _) _=_
  rw[World.cell?_alloc_lt _ _ _ (by simp;omega),World.cell?_alloc_lt _ _ _ (by simp;omega),World.cell?_alloc_lt _ _ _ (by simp)];simp
 ·show World.cell? (((W.alloc _).alloc _).alloc _|>.alloc _) _=_
  rw[World.cell?_alloc_lt _ _ _ (by simp),World.cell?_alloc_lt _ _ _ (by simp)];simp
 ·show World.cell? (((W.alloc _).alloc _).alloc _|>.alloc _) _=_
  have:=cell_of_row _ _ 0 _ _ _ (heap_alloc_new (((W.alloc (.cells #[v] 36)).alloc (.cells #[.pointer (some ⟨bC,0,none⟩)] 44)).alloc (.map es clk)) (.cells #[.map (some (W.heap.size+1+1))] 60));simpa using this
 ·show(((W.alloc _).alloc _).alloc _|>.alloc _).heap[_]?=_
  rw[heap_alloc_old _ _ (by simp)];have:=heap_alloc_new ((W.alloc (.cells #[v] 36)).alloc (.cells #[.pointer (some ⟨bC,0,none⟩)] 44)) (.map es clk);simpa using this
theorem tt_b(W:World)(v:Value)(bC clk:Nat)(es:Array MapEntry)(h:bC<W.heap.size)(hk:LK bC es):TT bC W.heap.size (W.heap.size+1) (W.heap.size+1+1) (W.heap.size+1+1+1) v ((((W.alloc (.cells #[v] 36)).alloc (.cells #[.pointer (some ⟨bC,0,none⟩)] 44)).alloc (.cells #[.map (some (W.heap.size+1+1+1))] 60)).alloc (.map es clk)).drew:=by
 refine⟨?_,?_,?_,⟨es,clk,?_,hk⟩,by omega,by omega,by omega,by omega⟩
 ·show World.cell? (((W.alloc _).alloc _).alloc _|>.alloc _) _=_
  rw[World.cell?_alloc_lt _ _ _ (by simp;omega),World.cell?_alloc_lt _ _ _ (by simp;omega),World.cell?_alloc_lt _ _ _ (by simp)];simp
 ·show World.cell? (((W.alloc _).alloc _).alloc _|>.alloc _) _=_
  rw[World.cell?_alloc_lt _ _ _ (by simp),World.cell?_alloc_lt _ _ _ (by simp)];simp
 ·show World.cell? (((W.alloc _).alloc _).alloc _|>.alloc _) _=_
  rw[World.cell?_alloc_lt _ _ _ (by simp)];have:=cell_of_row _ _ 0 _ _ _ (heap_alloc_new ((W.alloc (.cells #[v] 36)).alloc (.cells #[.pointer (some ⟨bC,0,none⟩)] 44)) (.cells #[.map (some (W.heap.size+1+1+1))] 60));simpa using this
 ·show(((W.alloc _).alloc _).alloc _|>.alloc _).heap[_]?=_
  have:=heap_alloc_new (((W.alloc (.cells #[v] 36)).alloc (.cells #[.pointer (some ⟨bC,0,none⟩)] 44)).alloc (.cells #[.map (some (W.heap.size+1+1+1))] 60)) (.map es clk);simpa using this
section
attribute [local go_sem] mk_map up_iat_none_A up_iat_none_B up_iat_none_Ad up_iat_none_Bd up_iat_nbf_A up_iat_nbf_B up_iat_nbf_Ad up_iat_nbf_Bd up_iat_exp_A up_iat_exp_B up_iat_exp_Ad up_iat_exp_Bd up_iat_nbfexp_A up_iat_nbfexp_B up_iat_nbfexp_Ad up_iat_nbfexp_Bd up_iat_expnbf_A up_iat_expnbf_B up_iat_expnbf_Ad up_iat_expnbf_Bd up_nbf_none_A up_nbf_none_B up_nbf_none_Ad up_nbf_none_Bd up_nbf_iat_A up_nbf_iat_B up_nbf_iat_Ad up_nbf_iat_Bd up_nbf_exp_A up_nbf_exp_B up_nbf_exp_Ad up_nbf_exp_Bd up_nbf_iatexp_A up_nbf_iatexp_B up_nbf_iatexp_Ad up_nbf_iatexp_Bd up_nbf_expiat_A up_nbf_expiat_B up_nbf_expiat_Ad up_nbf_expiat_Bd up_exp_none_A up_exp_none_B up_exp_none_Ad up_exp_none_Bd up_exp_iat_A up_exp_iat_B up_exp_iat_Ad up_exp_iat_Bd up_exp_nbf_A up_exp_nbf_B up_exp_nbf_Ad up_exp_nbf_Bd up_exp_iatnbf_A up_exp_iatnbf_B up_exp_iatnbf_Ad up_exp_iatnbf_Bd up_exp_nbfiat_A up_exp_nbfiat_B up_exp_nbfiat_Ad up_exp_nbfiat_Bd
theorem ctellTo(ad:Option Addr)(ln cap bC:Nat)(w:World)(h:bC<w.heap.size):Calls Tryz.prog 10 #[.agg #[.slice ad ln cap],.pointer (some ⟨bC,0,none⟩)] w fun r w'=>(∃b1 b2 b5 bm,r=.returned (.func (.func 17) #[] #[.pointer (some ⟨b2,0,none⟩),.pointer (some ⟨b1,0,none⟩),.pointer (some ⟨b5,0,none⟩)])∧TT bC b1 b2 b5 bm (.slice ad ln cap) w')∧Below w.heap.size w w':=by
 go_enter Tryz.func10,Tryz.ntmps10;go_wp2_with fail
 go_region
 all_goals go_wp2_with fail
 all_goals go_ret
 all_goals refine⟨?_,(dbal (dbal (dbal (dbal (Below.refl _ _) _) _) _) _).drew⟩
 all_goals first|exact⟨_,_,_,_,rfl,tt_a w _ bC _ _ h (lk_iatnbfexp bC)⟩|exact⟨_,_,_,_,rfl,tt_b w _ bC _ _ h (lk_iatnbfexp bC)⟩|exact⟨_,_,_,_,rfl,tt_a w _ bC _ _ h (lk_iatexpnbf bC)⟩|exact⟨_,_,_,_,rfl,tt_b w _ bC _ _ h (lk_iatexpnbf bC)⟩|exact⟨_,_,_,_,rfl,tt_a w _ bC _ _ h (lk_nbfiatexp bC)⟩|exact⟨_,_,_,_,rfl,tt_b w _ bC _ _ h (lk_nbfiatexp bC)⟩|exact⟨_,_,_,_,rfl,tt_a w _ bC _ _ h (lk_nbfexpiat bC)⟩|exact⟨_,_,_,_,rfl,tt_b w _ bC _ _ h (lk_nbfexpiat bC)⟩|exact⟨_,_,_,_,rfl,tt_a w _ bC _ _ h (lk_expiatnbf bC)⟩|exact⟨_,_,_,_,rfl,tt_b w _ bC _ _ h (lk_expiatnbf bC)⟩|exact⟨_,_,_,_,rfl,tt_a w _ bC _ _ h (lk_expnbfiat bC)⟩|exact⟨_,_,_,_,rfl,tt_b w _ bC _ _ h (lk_expnbfiat bC)⟩
end
structure Fr (b:Nat) (w w':World):Prop where
 os:w'.os=w.os
 tape:w'.tape=w.tape
 output:w'.output=w.output
 size:w.heap.size≤w'.heap.size
 block:∀k,k<w.heap.size→k≠b→w'.heap[k]?=w.heap[k]?
theorem Fr.of{b:Nat}{w w':World}(h:Below w.heap.size w w'):Fr b w w':=⟨h.os,h.tape,h.output,h.size,fun k hk _=>h.block k hk⟩
theorem Fr.trans{b:Nat}{w w' w'':World}(h:Fr b w w')(h':Fr b w' w''):Fr b w w'':=
 ⟨h'.os.trans h.os,h'.tape.trans h.tape,h'.output.trans h.output,Nat.le_trans h.size h'.size,fun k hk hb=>(h'.block k (Nat.lt_of_lt_of_le hk h.size) hb).trans (h.block k hk hb)⟩
theorem Fr.set(b k:Nat)(w:World)(u:Value):Fr b w (w.setCell ⟨b,k,none⟩ u):=by
 have h:Below b w (w.setCell ⟨b,k,none⟩ u):=(Below.refl b w).setCell (p:=⟨b,k,none⟩) (Nat.le_refl _) u;exact⟨h.os,h.tape,h.output,h.size,fun j hj hb=>Below.heap_setCell _ _ _ _ (by simp;omega)⟩
theorem Fr.cell{b:Nat}{w w':World}(h:Fr b w w'){g k:Nat}{v:Value}(hg:g≠b)(hc:w.cell? ⟨g,k,none⟩=some v):w'.cell? ⟨g,k,none⟩=some v:=by
 have hlt:g<w.heap.size:=World.block_lt_of_cell? w _ hc;have:=h.block g hlt hg;simp only[World.cell?]at hc ⊢;rw[this];exact hc
theorem Fr.low{b B:Nat}{w0 w w':World}(h:Fr b w w')(hb:Below B w0 w)(hB:B≤b)(hs:B≤w.heap.size):Below B w0 w':=
 ⟨h.os.trans hb.os,h.tape.trans hb.tape,h.output.trans hb.output,Nat.le_trans hb.size h.size,fun k hk=>(h.block k (by omega) (by omega)).trans (hb.block k hk)⟩
theorem TT.fr{bC b1 b2 b5 bm:Nat}{v:Value}{w w':World}(h:TT bC b1 b2 b5 bm v w)(hf:Fr bC w w'):TT bC b1 b2 b5 bm v w':=by
 obtain⟨es,clk,h1,h2⟩:=h.mp;have n1:=h.n1;have n2:=h.n2;have n5:=h.n5;have nm:=h.nm;refine⟨hf.cell (by omega) h.c1,hf.cell (by omega) h.c2,hf.cell (by omega) h.c5,⟨es,clk,?_,h2⟩,n1,n2,n5,nm⟩;rw[hf.block bm (Array.getElem?_eq_some_iff.1 h1).1 (by omega)];exact h1
theorem UFb.fr{b:Nat}{w w':World}{g:Nat}(h:UFb w g)(hf:Fr b w w')(hn:b<g):UFb w' g:=by
 obtain⟨cur,e,h⟩:=h;exact⟨cur,e,(hf.block g (Array.getElem?_eq_some_iff.1 h).1 (by omega)).trans h⟩
structure CS (bC:Nat) (C:Cl) (w:World):Prop where
 cs:∃ay ly cy,C5 w bC C.iss (.slice ay ly cy) C.iat C.nbf C.exp∧SR w (.slice ay ly cy) C.aud∧∀g o sp,ay=some ⟨g,o,sp⟩→bC<g∧UFb w g
 fz:∀k,w.frozen? ⟨bC,k,none⟩=false
theorem SR.fr{b:Nat}{w w':World}{ay:Option Addr}{ly cy:Nat}{zs:List ByteArray}(h:SR w (.slice ay ly cy) zs)(hf:Fr b w w')(hn:∀g o sp,ay=some ⟨g,o,sp⟩→b<g):SR w' (.slice ay ly cy) zs:=by
 obtain⟨ad,cap,h1,h0,h2⟩:=h;injection h1 with e1 e2 e3;subst e1 e2 e3;refine⟨ay,cy,rfl,h0,fun j z hj=>?_⟩;obtain⟨g,off,a,b'⟩:=h2 j z hj;exact⟨g,off,a,hf.cell (by have:=hn g off none a;omega) b'⟩
theorem CS.below{bC:Nat}{C:Cl}{w w':World}(h:CS bC C w)(hb:Below w.heap.size w w'):CS bC C w':=by
 obtain⟨ay,ly,cy,h1,h2,h3⟩:=h.cs;have hlt:bC<w.heap.size:=World.block_lt_of_cell? w _ h1.c0;exact⟨⟨ay,ly,cy,h1.low hb hlt,h2.below hb,fun g o sp hg=>⟨(h3 g o sp hg).1,(h3 g o sp hg).2.below hb⟩⟩,fun k=>(hb.frozen (p:=⟨bC,k,none⟩) hlt).trans (h.fz k)⟩
theorem cset{w:World}{b k j:Nat}{u v:Value}(h:w.cell? ⟨b,j,none⟩=some v)(hkj:k≠j):(w.setCell ⟨b,k,none⟩ u).cell? ⟨b,j,none⟩=some v:=(World.cell?_setCell_other _ _ _ _ (by intro h2;injection h2;omega)).trans h
theorem fset{w:World}{b k:Nat}{u:Value}(h:∀j,w.frozen? ⟨b,j,none⟩=false):∀j,(w.setCell ⟨b,k,none⟩ u).frozen? ⟨b,j,none⟩=false:=fun j=>by rw[World.frozen?_setCell];exact h j
theorem CS.iss{bC:Nat}{C:Cl}{w:World}(h:CS bC C w)(s:ByteArray):CS bC {C with iss:=s} (w.setCell ⟨bC,0,none⟩ (.string s)):=by
 obtain⟨ay,ly,cy,h1,h2,h3⟩:=h.cs;exact⟨⟨ay,ly,cy,⟨World.cell?_setCell_same _ _ _ h1.c0,cset h1.c1 (by omega),cset h1.c2 (by omega),cset h1.c3 (by omega),cset h1.c4 (by omega)⟩,h2.fr (Fr.set bC 0 w _) (fun g o sp hg=>(h3 g o sp hg).1),fun g o sp hg=>⟨(h3 g o sp hg).1,(h3 g o sp hg).2.fr (Fr.set bC 0 w _) (h3 g o sp hg).1⟩⟩,fset h.fz⟩
theorem CS.aud{bC:Nat}{C:Cl}{w:World}(h:CS bC C w){ay:Option Addr}{ly cy:Nat}{zs:List ByteArray}(hy:SR w (.slice ay ly cy) zs)(hn:∀g o sp,ay=some ⟨g,o,sp⟩→bC<g∧UFb w g):CS bC {C with aud:=zs} (w.setCell ⟨bC,1,none⟩ (.slice ay ly cy)):=by
 obtain⟨_,_,_,h1,_,_⟩:=h.cs;exact⟨⟨ay,ly,cy,⟨cset h1.c0 (by omega),World.cell?_setCell_same _ _ _ h1.c1,cset h1.c2 (by omega),cset h1.c3 (by omega),cset h1.c4 (by omega)⟩,hy.fr (Fr.set bC 1 w _) (fun g o sp hg=>(hn g o sp hg).1),fun g o sp hg=>⟨(hn g o sp hg).1,(hn g o sp hg).2.fr (Fr.set bC 1 w _) (hn g o sp hg).1⟩⟩,fset h.fz⟩
theorem CS.iat{bC:Nat}{C:Cl}{w:World}(h:CS bC C w)(q:Int):CS bC {C with iat:=q} (w.setCell ⟨bC,2,none⟩ (.int .i64 q)):=by
 obtain⟨ay,ly,cy,h1,h2,h3⟩:=h.cs;exact⟨⟨ay,ly,cy,⟨cset h1.c0 (by omega),cset h1.c1 (by omega),World.cell?_setCell_same _ _ _ h1.c2,cset h1.c3 (by omega),cset h1.c4 (by omega)⟩,h2.fr (Fr.set bC 2 w _) (fun g o sp hg=>(h3 g o sp hg).1),fun g o sp hg=>⟨(h3 g o sp hg).1,(h3 g o sp hg).2.fr (Fr.set bC 2 w _) (h3 g o sp hg).1⟩⟩,fset h.fz⟩
theorem CS.nbf{bC:Nat}{C:Cl}{w:World}(h:CS bC C w)(q:Int):CS bC {C with nbf:=q} (w.setCell ⟨bC,3,none⟩ (.int .i64 q)):=by
 obtain⟨ay,ly,cy,h1,h2,h3⟩:=h.cs;exact⟨⟨ay,ly,cy,⟨cset h1.c0 (by omega),cset h1.c1 (by omega),cset h1.c2 (by omega),World.cell?_setCell_same _ _ _ h1.c3,cset h1.c4 (by omega)⟩,h2.fr (Fr.set bC 3 w _) (fun g o sp hg=>(h3 g o sp hg).1),fun g o sp hg=>⟨(h3 g o sp hg).1,(h3 g o sp hg).2.fr (Fr.set bC 3 w _) (h3 g o sp hg).1⟩⟩,fset h.fz⟩
theorem CS.exp{bC:Nat}{C:Cl}{w:World}(h:CS bC C w)(q:Int):CS bC {C with exp:=q} (w.setCell ⟨bC,4,none⟩ (.int .i64 q)):=by
 obtain⟨ay,ly,cy,h1,h2,h3⟩:=h.cs;exact⟨⟨ay,ly,cy,⟨cset h1.c0 (by omega),cset h1.c1 (by omega),cset h1.c2 (by omega),cset h1.c3 (by omega),World.cell?_setCell_same _ _ _ h1.c4⟩,h2.fr (Fr.set bC 4 w _) (fun g o sp hg=>(h3 g o sp hg).1),fun g o sp hg=>⟨(h3 g o sp hg).1,(h3 g o sp hg).2.fr (Fr.set bC 4 w _) (h3 g o sp hg).1⟩⟩,fset h.fz⟩
theorem clook_iss(L:List Nd)(n:Nd)(adk:Option Addr)(capk bC b1 b2 b5 bm:Nat)(v:Value)(C:Cl)(w:World)(hT:TT bC b1 b2 b5 bm v w)(hC:CS bC C w)(hk:n.key=issS):Calls Tryz.prog 17 #[nodeV n adk capk,.pointer (some ⟨b2,0,none⟩),.pointer (some ⟨b1,0,none⟩),.pointer (some ⟨b5,0,none⟩)] w fun r w'=>r=.returned (.tuple #[.int .i64 (issE n).1,.int .i64 (issE n).2])∧CS bC (setC L n C) w'∧Fr bC w w':=by
 have hcs:Hid (setC L n C={C with iss:=⟨n.text.toArray⟩}):=by unfold setC;rw[if_pos hk];exact rfl
 have hck:=fun w1=>ccheckIss n adk capk w1
 have HC:=dhid hck;clear hck;unfold nodeV at HC;have e:nodeV n adk capk=.agg #[.int .i64 (n.kind:Int),.string ⟨#[105,115,115]⟩,.string ⟨n.text.toArray⟩,.int .i64 n.num,.slice adk n.kids.length capk,.int .i64 (n.at':Int)]:=by unfold nodeV;rw[hk];rfl
 rw[e];rw[hk]at HC;unfold issS at HC;clear e hk;have hlt:bC<w.heap.size:=by obtain⟨_,_,_,h1,_⟩:=hC.cs;exact World.block_lt_of_cell? w _ h1.c0
 have hb2:b2<w.heap.size:=World.block_lt_of_cell? w _ hT.c2;obtain⟨_,_,_,q5,_⟩:=hC.cs;have c2:=hT.c2;have z0:=q5.c0;have zf:=hC.fz 0;have a2:∀o,(w.alloc o).cell? ⟨b2,0,none⟩=some (.pointer (some ⟨bC,0,none⟩)):=fun o=>(World.cell?_alloc_lt _ _ _ hb2).trans c2
 have a0:∀o,(w.alloc o).cell? ⟨bC,0,none⟩=some (.string C.iss):=fun o=>(World.cell?_alloc_lt _ _ _ hlt).trans z0
 have af:∀o,(w.alloc o).frozen? ⟨bC,0,none⟩=false:=fun o=>((dbal (Below.refl w.heap.size w) o).frozen (p:=⟨bC,0,none⟩) hlt).trans zf
 have HT:=dhid hT;have HS:=dhid hC;clear hT hC q5 c2 z0 zf;go_enter Tryz.func17,Tryz.ntmps17;go_wp2_with fail
 refine(HC.out _).mono ?_;rintro r w1 ⟨rfl,hb⟩;have HB:=dhid hb;clear hb;go_wp2;go_ret2
 exact⟨rfl,by rw[hcs.out];exact((HS.out.iss _).below (dbal (Below.refl _ _) _)).below HB.out,((Fr.set bC 0 w _).trans (Fr.of (dbal (Below.refl _ _) _))).trans (Fr.of HB.out)⟩
theorem clook_iat(L:List Nd)(n:Nd)(adk:Option Addr)(capk bC b1 b2 b5 bm:Nat)(v:Value)(C:Cl)(w:World)(hT:TT bC b1 b2 b5 bm v w)(hC:CS bC C w)(hk:n.key=iatS):Calls Tryz.prog 17 #[nodeV n adk capk,.pointer (some ⟨b2,0,none⟩),.pointer (some ⟨b1,0,none⟩),.pointer (some ⟨b5,0,none⟩)] w fun r w'=>r=.returned (.tuple #[.int .i64 (numE n).1,.int .i64 (numE n).2])∧CS bC (setC L n C) w'∧Fr bC w w':=by
 have hcs:Hid (setC L n C={C with iat:=n.num}):=dhid (by unfold setC;simp[hk,issS,audS,iatS,nbfS,expS]);have hck:=fun w1=>ccheckNumber n adk capk w1
 have HC:=dhid hck;clear hck;unfold nodeV at HC;have e:nodeV n adk capk=.agg #[.int .i64 (n.kind:Int),.string ⟨#[105,97,116]⟩,.string ⟨n.text.toArray⟩,.int .i64 n.num,.slice adk n.kids.length capk,.int .i64 (n.at':Int)]:=by unfold nodeV;rw[hk];rfl
 rw[e];rw[hk]at HC;unfold iatS at HC;clear e hk;have hlt:bC<w.heap.size:=by obtain⟨_,_,_,h1,_⟩:=hC.cs;exact World.block_lt_of_cell? w _ h1.c0
 have hb5:b5<w.heap.size:=World.block_lt_of_cell? w _ hT.c5;obtain⟨_,_,_,q5,_⟩:=hC.cs;obtain⟨es,clk,hm1,hm2⟩:=hT.mp;have hbm:bm<w.heap.size:=(Array.getElem?_eq_some_iff.1 hm1).1;have c5:=hT.c5;have z0:=q5.c2;have zf:=hC.fz 2;have a5:∀o,(w.alloc o).cell? ⟨b5,0,none⟩=some (.map (some bm)):=fun o=>(World.cell?_alloc_lt _ _ _ hb5).trans c5
 have a0:∀o,(w.alloc o).cell? ⟨bC,2,none⟩=some (.int .i64 C.iat):=fun o=>(World.cell?_alloc_lt _ _ _ hlt).trans z0
 have af:∀o,(w.alloc o).frozen? ⟨bC,2,none⟩=false:=fun o=>((dbal (Below.refl w.heap.size w) o).frozen (p:=⟨bC,2,none⟩) hlt).trans zf
 have hlk:∀o,(Instr.lookup 60 (.map (some bm)) (.string ⟨#[105,97,116]⟩) false).run Tryz.prog (w.alloc o)=.ok (.pointer (some ⟨bC,2,none⟩)) (w.alloc o):=fun o=>run_look (w.alloc o) bC bm clk es _ (by rw[heap_alloc_old _ _ hbm];exact hm1) hm2
 have HT:=dhid hT;have HS:=dhid hC;clear hT hC q5 c5 z0 zf hm1 hm2;go_enter Tryz.func17,Tryz.ntmps17;go_wp2_with fail
 refine(HC.out _).mono ?_;rintro r w1 ⟨rfl,hb⟩;have HB:=dhid hb;clear hb;go_wp2;go_ret2
 exact⟨rfl,by rw[hcs.out];exact((HS.out.iat _).below (dbal (Below.refl _ _) _)).below HB.out,((Fr.set bC 2 w _).trans (Fr.of (dbal (Below.refl _ _) _))).trans (Fr.of HB.out)⟩
theorem clook_nbf(L:List Nd)(n:Nd)(adk:Option Addr)(capk bC b1 b2 b5 bm:Nat)(v:Value)(C:Cl)(w:World)(hT:TT bC b1 b2 b5 bm v w)(hC:CS bC C w)(hk:n.key=nbfS):Calls Tryz.prog 17 #[nodeV n adk capk,.pointer (some ⟨b2,0,none⟩),.pointer (some ⟨b1,0,none⟩),.pointer (some ⟨b5,0,none⟩)] w fun r w'=>r=.returned (.tuple #[.int .i64 (numE n).1,.int .i64 (numE n).2])∧CS bC (setC L n C) w'∧Fr bC w w':=by
 have hcs:Hid (setC L n C={C with nbf:=n.num}):=dhid (by unfold setC;simp[hk,issS,audS,iatS,nbfS,expS]);have hck:=fun w1=>ccheckNumber n adk capk w1
 have HC:=dhid hck;clear hck;unfold nodeV at HC;have e:nodeV n adk capk=.agg #[.int .i64 (n.kind:Int),.string ⟨#[110,98,102]⟩,.string ⟨n.text.toArray⟩,.int .i64 n.num,.slice adk n.kids.length capk,.int .i64 (n.at':Int)]:=by unfold nodeV;rw[hk];rfl
 rw[e];rw[hk]at HC;unfold nbfS at HC;clear e hk;have hlt:bC<w.heap.size:=by obtain⟨_,_,_,h1,_⟩:=hC.cs;exact World.block_lt_of_cell? w _ h1.c0
 have hb5:b5<w.heap.size:=World.block_lt_of_cell? w _ hT.c5;obtain⟨_,_,_,q5,_⟩:=hC.cs;obtain⟨es,clk,hm1,hm2⟩:=hT.mp;have hbm:bm<w.heap.size:=(Array.getElem?_eq_some_iff.1 hm1).1;have c5:=hT.c5;have z0:=q5.c3;have zf:=hC.fz 3;have a5:∀o,(w.alloc o).cell? ⟨b5,0,none⟩=some (.map (some bm)):=fun o=>(World.cell?_alloc_lt _ _ _ hb5).trans c5
 have a0:∀o,(w.alloc o).cell? ⟨bC,3,none⟩=some (.int .i64 C.nbf):=fun o=>(World.cell?_alloc_lt _ _ _ hlt).trans z0
 have af:∀o,(w.alloc o).frozen? ⟨bC,3,none⟩=false:=fun o=>((dbal (Below.refl w.heap.size w) o).frozen (p:=⟨bC,3,none⟩) hlt).trans zf
 have hlk:∀o,(Instr.lookup 60 (.map (some bm)) (.string ⟨#[110,98,102]⟩) false).run Tryz.prog (w.alloc o)=.ok (.pointer (some ⟨bC,3,none⟩)) (w.alloc o):=fun o=>run_look (w.alloc o) bC bm clk es _ (by rw[heap_alloc_old _ _ hbm];exact hm1) hm2
 have HT:=dhid hT;have HS:=dhid hC;clear hT hC q5 c5 z0 zf hm1 hm2;go_enter Tryz.func17,Tryz.ntmps17;go_wp2_with fail
 refine(HC.out _).mono ?_;rintro r w1 ⟨rfl,hb⟩;have HB:=dhid hb;clear hb;go_wp2;go_ret2
 exact⟨rfl,by rw[hcs.out];exact((HS.out.nbf _).below (dbal (Below.refl _ _) _)).below HB.out,((Fr.set bC 3 w _).trans (Fr.of (dbal (Below.refl _ _) _))).trans (Fr.of HB.out)⟩
theorem clook_exp(L:List Nd)(n:Nd)(adk:Option Addr)(capk bC b1 b2 b5 bm:Nat)(v:Value)(C:Cl)(w:World)(hT:TT bC b1 b2 b5 bm v w)(hC:CS bC C w)(hk:n.key=expS):Calls Tryz.prog 17 #[nodeV n adk capk,.pointer (some ⟨b2,0,none⟩),.pointer (some ⟨b1,0,none⟩),.pointer (some ⟨b5,0,none⟩)] w fun r w'=>r=.returned (.tuple #[.int .i64 (numE n).1,.int .i64 (numE n).2])∧CS bC (setC L n C) w'∧Fr bC w w':=by
 have hcs:Hid (setC L n C={C with exp:=n.num}):=dhid (by unfold setC;simp[hk,issS,audS,iatS,nbfS,expS]);have hck:=fun w1=>ccheckNumber n adk capk w1
 have HC:=dhid hck;clear hck;unfold nodeV at HC;have e:nodeV n adk capk=.agg #[.int .i64 (n.kind:Int),.string ⟨#[101,120,112]⟩,.string ⟨n.text.toArray⟩,.int .i64 n.num,.slice adk n.kids.length capk,.int .i64 (n.at':Int)]:=by unfold nodeV;rw[hk];rfl
 rw[e];rw[hk]at HC;unfold expS at HC;clear e hk;have hlt:bC<w.heap.size:=by obtain⟨_,_,_,h1,_⟩:=hC.cs;exact World.block_lt_of_cell? w _ h1.c0
 have hb5:b5<w.heap.size:=World.block_lt_of_cell? w _ hT.c5;obtain⟨_,_,_,q5,_⟩:=hC.cs;obtain⟨es,clk,hm1,hm2⟩:=hT.mp;have hbm:bm<w.heap.size:=(Array.getElem?_eq_some_iff.1 hm1).1;have c5:=hT.c5;have z0:=q5.c4;have zf:=hC.fz 4;have a5:∀o,(w.alloc o).cell? ⟨b5,0,none⟩=some (.map (some bm)):=fun o=>(World.cell?_alloc_lt _ _ _ hb5).trans c5
 have a0:∀o,(w.alloc o).cell? ⟨bC,4,none⟩=some (.int .i64 C.exp):=fun o=>(World.cell?_alloc_lt _ _ _ hlt).trans z0
 have af:∀o,(w.alloc o).frozen? ⟨bC,4,none⟩=false:=fun o=>((dbal (Below.refl w.heap.size w) o).frozen (p:=⟨bC,4,none⟩) hlt).trans zf
 have hlk:∀o,(Instr.lookup 60 (.map (some bm)) (.string ⟨#[101,120,112]⟩) false).run Tryz.prog (w.alloc o)=.ok (.pointer (some ⟨bC,4,none⟩)) (w.alloc o):=fun o=>run_look (w.alloc o) bC bm clk es _ (by rw[heap_alloc_old _ _ hbm];exact hm1) hm2
 have HT:=dhid hT;have HS:=dhid hC;clear hT hC q5 c5 z0 zf hm1 hm2;go_enter Tryz.func17,Tryz.ntmps17;go_wp2_with fail
 refine(HC.out _).mono ?_;rintro r w1 ⟨rfl,hb⟩;have HB:=dhid hb;clear hb;go_wp2;go_ret2
 exact⟨rfl,by rw[hcs.out];exact((HS.out.exp _).below (dbal (Below.refl _ _) _)).below HB.out,((Fr.set bC 4 w _).trans (Fr.of (dbal (Below.refl _ _) _))).trans (Fr.of HB.out)⟩
theorem clook_else(L:List Nd)(n:Nd)(adk:Option Addr)(capk bC b1 b2 b5 bm:Nat)(v:Value)(C:Cl)(w:World)(hT:TT bC b1 b2 b5 bm v w)(hC:CS bC C w)(h1:n.key≠issS)(h2:n.key≠audS)(h3:n.key≠iatS)(h4:n.key≠nbfS)(h5:n.key≠expS):Calls Tryz.prog 17 #[nodeV n adk capk,.pointer (some ⟨b2,0,none⟩),.pointer (some ⟨b1,0,none⟩),.pointer (some ⟨b5,0,none⟩)] w fun r w'=>r=.returned (.tuple #[.int .i64 0,.int .i64 0])∧CS bC (setC L n C) w'∧Fr bC w w':=by
 have hcs:Hid (setC L n C=C):=by unfold setC;rw[if_neg h1,if_neg h2,if_neg h3,if_neg h4,if_neg h5];exact rfl
 have hb5:b5<w.heap.size:=World.block_lt_of_cell? w _ hT.c5;obtain⟨es,clk,hm1,hm2⟩:=hT.mp;have hbm:bm<w.heap.size:=(Array.getElem?_eq_some_iff.1 hm1).1;have c5:=hT.c5;have q1:(n.key==[105,115,115])=false:=beq_eq_false_iff_ne.2 h1;have q2:(n.key==[97,117,100])=false:=beq_eq_false_iff_ne.2 h2;have a5:∀o,(w.alloc o).cell? ⟨b5,0,none⟩=some (.map (some bm)):=fun o=>(World.cell?_alloc_lt _ _ _ hb5).trans c5
 have hlv:lookV bC ⟨n.key.toArray⟩=.pointer none:=by
  unfold lookV;have f:∀l:List UInt8,n.key≠l→¬(⟨n.key.toArray⟩:ByteArray)=⟨l.toArray⟩:=fun l hl h=>hl (by injection h with h;simpa using h)
  rw[if_neg (f [105,97,116] h3),if_neg (f [110,98,102] h4),if_neg (f [101,120,112] h5)]
 have hlk:∀o,(Instr.lookup 60 (.map (some bm)) (.string ⟨n.key.toArray⟩) false).run Tryz.prog (w.alloc o)=.ok (.pointer none) (w.alloc o):=fun o=>by
  have:=run_look (w.alloc o) bC bm clk es ⟨n.key.toArray⟩ (by rw[heap_alloc_old _ _ hbm];exact hm1) hm2;rw[hlv]at this;exact this
 have HS:=dhid hC;unfold nodeV;clear hT hC c5 hm1 hm2 hlv h1 h2 h3 h4 h5;go_enter Tryz.func17,Tryz.ntmps17;go_wp2_with fail
 go_ret2
 exact⟨rfl,by rw[hcs.out];exact HS.out.below (dbal (Below.refl _ _) _),Fr.of (dbal (Below.refl _ _) _)⟩
theorem clook_aud(ad:Option Addr)(cap:Nat)(L:List Nd)(n:Nd)(adk:Option Addr)(capk bC b1 b2 b5 bm:Nat)(C:Cl)(w:World)(hT:TT bC b1 b2 b5 bm (.slice ad L.length cap) w)(hC:CS bC C w)(hk:n.key=audS)(hx:RR 58 (.slice ad L.length cap) L w)(hlen:L.length≤1000000)(hkc:KC w adk n.kids)(hki:∀c∈n.kids,c<L.length)(hkl:n.kids.length≤1000000):Calls Tryz.prog 17 #[nodeV n adk capk,.pointer (some ⟨b2,0,none⟩),.pointer (some ⟨b1,0,none⟩),.pointer (some ⟨b5,0,none⟩)] w fun r w'=>r=.returned (.tuple #[.int .i64 (audE L n).1,.int .i64 (audE L n).2])∧((audE L n).1=0→CS bC (setC L n C) w')∧Fr bC w w':=by
 have hcs:Hid (setC L n C={C with aud:=auds L n}):=dhid (by unfold setC;simp[hk,issS,audS]);have hra:=fun w1 (b1:Below w.heap.size w w1)=>creadAud ad cap L w1 (hx.below b1) hlen n adk capk (hkc.below b1) hki hkl
 have HR:=dhid hra;clear hra hx hkc hki;unfold nodeV at HR;have e:nodeV n adk capk=.agg #[.int .i64 (n.kind:Int),.string ⟨#[97,117,100]⟩,.string ⟨n.text.toArray⟩,.int .i64 n.num,.slice adk n.kids.length capk,.int .i64 (n.at':Int)]:=by unfold nodeV;rw[hk];rfl
 rw[e];rw[hk]at HR;unfold audS at HR;clear e hk;have hlt:bC<w.heap.size:=by obtain⟨_,_,_,h1,_⟩:=hC.cs;exact World.block_lt_of_cell? w _ h1.c0
 have hb2:b2<w.heap.size:=World.block_lt_of_cell? w _ hT.c2;have hb1:b1<w.heap.size:=World.block_lt_of_cell? w _ hT.c1;obtain⟨ay0,ly0,cy0,q5,hq6,hq7⟩:=hC.cs;have c2:=hT.c2;have c1:=hT.c1;have z0:=q5.c1;have zf:=hC.fz 1;have a2:∀o,(w.alloc o).cell? ⟨b2,0,none⟩=some (.pointer (some ⟨bC,0,none⟩)):=fun o=>(World.cell?_alloc_lt _ _ _ hb2).trans c2
 have a1:∀o,(w.alloc o).cell? ⟨b1,0,none⟩=some (.slice ad L.length cap):=fun o=>(World.cell?_alloc_lt _ _ _ hb1).trans c1
 have HT:=dhid hT;have HS:=dhid hC;clear hT hC q5 hq6 hq7;obtain⟨qe,hqe⟩:∃q,audE L n=q:=⟨_,rfl⟩;rw[hqe]at HR ⊢;clear hqe;go_enter Tryz.func17,Tryz.ntmps17;go_wp2_with fail
 have HB0:=dhid ((dbal (Below.refl w.heap.size w) (.cells #[.int .i64 (n.kind:Int),.string ⟨#[97,117,100]⟩,.string ⟨n.text.toArray⟩,.int .i64 n.num,.slice adk n.kids.length capk,.int .i64 (n.at':Int)] 58)).drew);go_region_with (go_at_call 19;refine(HR.out _ HB0.out).mono ?_;rintro r w1 ⟨⟨y,rfl,hsr,ay,cy,ly,rfl,hnw⟩,hb⟩;have HBw:=dhid (HB0.out.trans (hb.mono HB0.out.size));have s2:w1.cell? ⟨b2,0,none⟩=some (.pointer (some ⟨bC,0,none⟩)):=cell_kp HBw.out c2;have s1:w1.cell? ⟨bC,1,none⟩=some (.slice ay0 ly0 cy0):=cell_kp HBw.out z0;have sf:w1.frozen? ⟨bC,1,none⟩=false:=(HBw.out.frozen (p:=⟨bC,1,none⟩) hlt).trans zf;have HSR:=dhid hsr;have HNW:=dhid hnw;clear hb hsr hnw)
 all_goals go_wp2_with fail
 all_goals go_ret2
 all_goals refine⟨rfl,fun h=>?_,(Fr.of HBw.out).trans (Fr.set bC 1 w1 _)⟩
 all_goals rw[hcs.out]
 all_goals exact(HS.out.below HBw.out).aud (HSR.out h) (fun g o sp hg=>by refine⟨?_,(HNW.out g o sp hg).2⟩;have:=(HNW.out g o sp hg).1;have hs:w.heap.size≤(w.alloc (.cells #[.int .i64 (n.kind:Int),.string ⟨#[97,117,100]⟩,.string ⟨n.text.toArray⟩,.int .i64 n.num,.slice adk n.kids.length capk,.int .i64 (n.at':Int)] 58)).drew.heap.size:=HB0.out.size;omega)
theorem clook(ad:Option Addr)(cap:Nat)(L:List Nd)(n:Nd)(adk:Option Addr)(capk bC b1 b2 b5 bm:Nat)(C:Cl)(w:World)(hT:TT bC b1 b2 b5 bm (.slice ad L.length cap) w)(hC:CS bC C w)(hx:RR 58 (.slice ad L.length cap) L w)(hlen:L.length≤1000000)(hkc:KC w adk n.kids)(hki:∀c∈n.kids,c<L.length)(hkl:n.kids.length≤1000000):Calls Tryz.prog 17 #[nodeV n adk capk,.pointer (some ⟨b2,0,none⟩),.pointer (some ⟨b1,0,none⟩),.pointer (some ⟨b5,0,none⟩)] w fun r w'=>r=.returned (.tuple #[.int .i64 (clmE L n).1,.int .i64 (clmE L n).2])∧((clmE L n).1=0→CS bC (setC L n C) w')∧Fr bC w w':=by
 by_cases h1:n.key=issS
 ·rw[show clmE L n=issE n by unfold clmE;rw[if_pos h1]]
  exact(clook_iss L n adk capk bC b1 b2 b5 bm _ C w hT hC h1).mono fun r w' h=>⟨h.1,fun _=>h.2.1,h.2.2⟩
 ·by_cases h2:n.key=audS
  ·rw[show clmE L n=audE L n by unfold clmE;rw[if_neg h1,if_pos h2]]
   exact clook_aud ad cap L n adk capk bC b1 b2 b5 bm C w hT hC h2 hx hlen hkc hki hkl
  ·by_cases h3:n.key=iatS
   ·rw[show clmE L n=numE n by unfold clmE;rw[if_neg h1,if_neg h2,if_pos (.inl h3)]]
    exact(clook_iat L n adk capk bC b1 b2 b5 bm _ C w hT hC h3).mono fun r w' h=>⟨h.1,fun _=>h.2.1,h.2.2⟩
   ·by_cases h4:n.key=nbfS
    ·rw[show clmE L n=numE n by unfold clmE;rw[if_neg h1,if_neg h2,if_pos (.inr (.inl h4))]]
     exact(clook_nbf L n adk capk bC b1 b2 b5 bm _ C w hT hC h4).mono fun r w' h=>⟨h.1,fun _=>h.2.1,h.2.2⟩
    ·by_cases h5:n.key=expS
     ·rw[show clmE L n=numE n by unfold clmE;rw[if_neg h1,if_neg h2,if_pos (.inr (.inr h5))]]
      exact(clook_exp L n adk capk bC b1 b2 b5 bm _ C w hT hC h5).mono fun r w' h=>⟨h.1,fun _=>h.2.1,h.2.2⟩
     ·rw[show clmE L n=(0,0)by unfold clmE;rw[if_neg h1,if_neg h2,if_neg (by simp[h3,h4,h5])]]
      exact(clook_else L n adk capk bC b1 b2 b5 bm _ C w hT hC h1 h2 h3 h4 h5).mono fun r w' h=>⟨h.1,fun _=>h.2.1,h.2.2⟩
theorem ceach(ad:Option Addr)(cap:Nat)(L:List Nd)(hW:WFN L)(bC b1 b2 b5 bm:Nat)(C:Cl)(w0 w:World)(n0:Nd)(hn0:L[0]?=some n0)(hx:RR 58 (.slice ad L.length cap) L w0)(h0:w0.heap.size≤bC)(hb0:Below bC w0 w)(hT:TT bC b1 b2 b5 bm (.slice ad L.length cap) w)(hC:CS bC C w):Calls Tryz.prog 9 #[.agg #[.slice ad L.length cap],.func (.func 17) #[] #[.pointer (some ⟨b2,0,none⟩),.pointer (some ⟨b1,0,none⟩),.pointer (some ⟨b5,0,none⟩)]] w fun r w'=>
 r=.returned (.tuple #[.int .i64 (allE L n0.kids).1,.int .i64 (allE L n0.kids).2])∧((allE L n0.kids).1=0→CS bC (allC L n0.kids C) w')∧Fr bC w w':=by
 have hlen:=hW.len;have hki0:=hW.kids 0 n0 hn0;have hfew:=hW.few 0 n0 hn0;have hlt:bC<w.heap.size:=by obtain⟨_,_,_,h1,_⟩:=hC.cs;exact World.block_lt_of_cell? w _ h1.c0
 have hxw:∀w',Below bC w0 w'→RR 58 (.slice ad L.length cap) L w':=fun w' hb=>hx.below (hb.mono h0)
 obtain⟨g,adk,capk,rfl,_,hkb,hkc,e0,e1,e2,e3,e4,e5⟩:=hx.node hn0;have hg0:g<w0.heap.size:=World.block_lt_of_cell? w0 _ e0;have hgb:g<w.heap.size:=Nat.lt_of_lt_of_le hg0 hb0.size;have c4:w.cell? ⟨g,0*6+4,none⟩=some (.slice adk n0.kids.length capk):=by
  have:=hb0.block g (by omega);simp only[World.cell?]at e4 ⊢;rw[this];exact e4
 have hl0:0<L.length:=(List.getElem?_eq_some_iff.1 hn0).1;have kl0:(0:Int)<(L.length:Int):=by omega
 have a4:∀o,(w.alloc o).cell? ⟨g,4,none⟩=some (.slice adk n0.kids.length capk):=fun o=>by
  have:=c4;rw[Nat.zero_mul,Nat.zero_add]at this;exact(World.cell?_alloc_lt _ _ _ hgb).trans this
 have HXW:=dhid hxw;have HKC:=dhid hkc;have HKI:=dhid hki0;have HW:=dhid hW;have HT:=dhid hT;have HS:=dhid hC;have HB0:=dhid hb0;clear hx hxw hkc hki0 hW hT hC hb0 hn0 e0 e1 e2 e3 e4 e5 c4;go_enter Tryz.func9,Tryz.ntmps9;go_wp2_with fail
 clear a4;have HF0:=dhid (Fr.of (b:=bC) (dbal (Below.refl w.heap.size w) (.cells #[.slice (some ⟨g,0,none⟩) L.length cap] 36)));have HBx:Hid ((w.alloc (.cells #[.slice (some ⟨g,0,none⟩) L.length cap] 36)).cell? ⟨w.heap.size,0,none⟩=some (.slice (some ⟨g,0,none⟩) L.length cap)):=dhid (by simp);have HS2:=dhid (HS.out.below (dbal (Below.refl w.heap.size w) (.cells #[.slice (some ⟨g,0,none⟩) L.length cap] 36)));have HSZ:Hid ((w.alloc (.cells #[.slice (some ⟨g,0,none⟩) L.length cap] 36)).heap.size=w.heap.size+1):=dhid (by simp);clear HS;generalize w.alloc (.cells #[.slice (some ⟨g,0,none⟩) L.length cap] 36)=W at *;go_loopw [16] (fun iv wr=>∃(i:Nat) (D:Cl),i≤n0.kids.length∧iv=.int .i64 (i:Int)∧Hid (allE L n0.kids=allE L (n0.kids.drop i))∧Hid (allC L n0.kids C=allC L (n0.kids.drop i) D)∧CS bC D wr∧Fr bC W wr) (fun iv _=>n0.kids.length-(intOf iv).toNat)
 case atStart=>exact⟨0,C,by omega,rfl,rfl,rfl,HS2.out,Fr.of (Below.refl _ _)⟩
 case round=>
  obtain⟨i,D,hi,rfl,hno,hnc,hS,hF⟩:=hrel;have hFw:=HF0.out.trans hF;have hlow:=hFw.low HB0.out (Nat.le_refl _) (by omega);have HS3:=dhid hS;have HF:=dhid hF;have HFw:=dhid hFw;have bx:wr.cell? ⟨w.heap.size,0,none⟩=some (.slice (some ⟨g,0,none⟩) L.length cap):=hF.cell (by omega) HBx.out;by_cases hlt2:i<n0.kids.length
  ·have k1:(i:Int)<(n0.kids.length:Int):=by omega
   obtain⟨c,hc⟩:∃c,n0.kids[i]?=some c:=⟨_,List.getElem?_eq_getElem hlt2⟩;obtain⟨gk,rfl,ck0⟩:=HKC.out i c hc;have hgk0:gk<w0.heap.size:=World.block_lt_of_cell? w0 _ ck0;have hcl:=HKI.out c (List.mem_of_getElem? hc);obtain⟨m,hm⟩:∃m,L[c]?=some m:=⟨_,List.getElem?_eq_getElem hcl.2⟩;have hxr:=HXW.out wr hlow;obtain⟨g',adm,capm,e,_,_,hkm,d0,d1,d2,d3,d4,d5⟩:=hxr.node hm;obtain rfl:g=g':=by injection e with e;injection e
   have ck:wr.cell? ⟨gk,i,none⟩=some (.int .i64 (c:Int)):=by
    have:=hlow.block gk (by omega);simp only[World.cell?]at ck0 ⊢;rw[this];exact ck0
   have k2:(c:Int)<(L.length:Int):=by omega
   have k2b:(c:Int)≤1000000:=by omega
   have hst:=allE_step L n0.kids i c hc;have hsc:=allC_step L n0.kids i c D hc;rw[ndA_of hm]at hst hsc;have hcall:=clook (some ⟨g,0,none⟩) cap L m adm capm bC b1 b2 b5 bm D wr (HT.out.fr hFw) hS hxr hlen hkm (fun c' hc'=>(HW.out.kids c m hm c' hc').2) (HW.out.few c m hm);have HCL:=dhid hcall;unfold nodeV at HCL;have HSt:=dhid hst;have HSc:=dhid hsc;clear hc hm hxr hlow hcall hst hsc e hkm ck0 hS hF hFw;go_wp2_with fail
   refine HCL.out.mono ?_;rintro r w1 ⟨rfl,hset,hf⟩;have HSet:=dhid hset;have HF1:=dhid hf;clear hset hf HCL;by_cases he:(clmE L m).1=0
   ·have HD:=dhid (HSet.out he)
    have hst2:allE L (List.drop i n0.kids)=allE L (List.drop (i+1) n0.kids):=by rw[HSt.out,if_pos he]
    have HSt2:=dhid hst2;clear hst2 HSt;go_wp2_with fail
    go_roundw
    case rel=>exact⟨i+1,setC L m D,by omega,by go_num,by rw[hno.out,HSt2.out];exact rfl,by rw[hnc.out,HSc.out];exact rfl,HD.out,HF.out.trans HF1.out⟩
    case measure=>simp[intOf];omega
   ·have hst2:allE L n0.kids=clmE L m:=by rw[hno.out,HSt.out,if_neg he]
    have HSt2:=dhid hst2;clear hst2 HSt;go_wp2_with fail
    go_ret2
    exact⟨by rw[HSt2.out];rfl,fun h=>absurd (by rw[HSt2.out]at h;exact h) he,HFw.out.trans HF1.out⟩
  ·have k1:¬(i:Int)<(n0.kids.length:Int):=by omega
   have hd:n0.kids.drop i=[]:=List.drop_eq_nil_of_le (by omega);have HN:=dhid hno.out;have HC2:=dhid hnc.out;rw[hd]at HN HC2;clear hd hno hnc;go_wp2_with fail
   go_ret2
   exact⟨by rw[HN.out];rfl,fun _=>by rw[HC2.out];exact HS3.out,HFw.out⟩
end Go.Proofs.YtaghclgookfmnaaGreatDoor
