import Derived.Test.YtbbopknnoamkbaaGreatDoorD1
set_option maxHeartbeats 2000000
set_option maxRecDepth 4000
namespace Go.Proofs.YtbbopknnoamkbaaGreatDoor
open Go.RowKit
set_option linter.unusedVariables false
def nodeV(n:Nd)(adk:Option Addr)(capk:Nat):Value:=.agg #[.int .i64 (n.kind:Int),.string ⟨n.key.toArray⟩,.string ⟨n.text.toArray⟩,.int .i64 n.num,.slice adk n.kids.length capk,.int .i64 (n.at':Int)]
def KC(w:World)(adk:Option Addr)(kids:List Nat):Prop:=∀j c:Nat,kids[j]?=some c→∃gk,adk=some ⟨gk,0,none⟩∧w.cell? ⟨gk,j,none⟩=some (.int .i64 (c:Int))
theorem KC.below{w w':World}{adk:Option Addr}{kids:List Nat}(h:KC w adk kids)(hb:Below w.heap.size w w'):KC w' adk kids:=fun j c hj=>by
 obtain⟨gk,h1,h2⟩:=h j c hj;exact⟨gk,h1,cell_kp hb h2⟩
theorem ccheckIss(n:Nd)(adk:Option Addr)(capk:Nat)(w:World):Calls Tryz.prog 106 #[nodeV n adk capk] w fun r w'=>r=.returned (.tuple #[.int .i64 (issE n).1,.int .i64 (issE n).2])∧Below w.heap.size w w':=by
 unfold nodeV;by_cases h:n.kind=3
 ·rw[show issE n=(0,0)by unfold issE;rw[if_pos h],h]
  clear h;go_enter Tryz.func106,Tryz.ntmps106;go_wp2;go_ret2
  exact⟨rfl,dbal (Below.refl _ _) _⟩
 ·rw[show issE n=(6,(n.at':Int))by unfold issE;rw[if_neg h]]
  have k3:((n.kind:Int)==3)=false:=by simp;omega
  have k4:((n.kind:Int) != 3)=true:=by simp;omega
  clear h;go_enter Tryz.func106,Tryz.ntmps106;go_wp2_with fail
  go_quiet (fail);go_wp2_with fail
  go_ret2
  exact⟨rfl,dbN (dbal (Below.refl _ _) _) _⟩
theorem ccheckNumber(n:Nd)(adk:Option Addr)(capk:Nat)(w:World):Calls Tryz.prog 107 #[nodeV n adk capk] w fun r w'=>r=.returned (.tuple #[.int .i64 (numE n).1,.int .i64 (numE n).2])∧Below w.heap.size w w':=by
 unfold nodeV;by_cases h:n.kind=2
 ·by_cases h3:n.num<0
  ·rw[show numE n=(3,(n.at':Int))by unfold numE;rw[if_pos h,if_pos h3],h]
   clear h;go_enter Tryz.func107,Tryz.ntmps107;go_wp2_with fail
   go_quiet (fail);go_wp2_with fail
   go_ret2
   exact⟨rfl,dbN (dbal (Below.refl _ _) _) _⟩
  ·rw[show numE n=(0,0)by unfold numE;rw[if_pos h,if_neg h3],h]
   clear h;go_enter Tryz.func107,Tryz.ntmps107;go_wp2;go_ret2
   exact⟨rfl,dbal (Below.refl _ _) _⟩
 ·rw[show numE n=(6,(n.at':Int))by unfold numE;rw[if_neg h]]
  have k3:((n.kind:Int)==2)=false:=by simp;omega
  have k4:((n.kind:Int) != 2)=true:=by simp;omega
  clear h;go_enter Tryz.func107,Tryz.ntmps107;go_wp2_with fail
  go_quiet (fail);go_wp2_with fail
  go_ret2
  exact⟨rfl,dbN (dbal (Below.refl _ _) _) _⟩
def UFb(w:World)(g:Nat):Prop:=∃cur e,w.heap[g]?=some (.cells cur e (0,0))
theorem UFb.below{w w':World}{g:Nat}(h:UFb w g)(hb:Below w.heap.size w w'):UFb w' g:=by
 obtain⟨cur,e,h⟩:=h;exact⟨cur,e,(hb.block g (Array.getElem?_eq_some_iff.1 h).1).trans h⟩
theorem UFb.free{w:World}{g:Nat}(h:UFb w g)(k:Nat):w.frozen? ⟨g,k,none⟩=false:=by
 obtain⟨cur,e,h⟩:=h;simp[World.frozen?,h]
def NewS(B:Nat)(w:World)(y:Value):Prop:=∃ay cy ly,y=.slice ay ly cy∧∀g o sp,ay=some ⟨g,o,sp⟩→B≤g∧UFb w g
def audT(L:List Nd)(kids:List Nat):List ByteArray:=kids.map fun c=>⟨(ndA L c).text.toArray⟩
theorem creadAud(ad:Option Addr)(cap:Nat)(L:List Nd)(w:World)(hx:RR 42 (.slice ad L.length cap) L w)(hlen:L.length≤1000000)(n:Nd)(adk:Option Addr)(capk:Nat)(hkc:KC w adk n.kids)(hki:∀c∈n.kids,c<L.length)(hkl:n.kids.length≤1000000):Calls Tryz.prog 96 #[.agg #[.slice ad L.length cap],nodeV n adk capk] w fun r w'=>(∃y,r=.returned (.tuple #[y,.int .i64 (audE L n).1,.int .i64 (audE L n).2])∧((audE L n).1=0→SR w' y (auds L n))∧NewS w.heap.size w' y)∧Below w.heap.size w w':=by
 unfold nodeV;obtain⟨i0,hi0,hz0,hz1,hz2⟩:=sinfo_parts strinfo;have HI:=dhid hi0;have HX:=dhid hx;have HKC:=dhid hkc;have HKI:=dhid hki;clear hi0 hx hkc hki;by_cases h3:n.kind=3
 ·have e:audE L n=(0,0):=by unfold audE;rw[if_pos h3]
  have e2:auds L n=[⟨n.text.toArray⟩]:=by unfold auds;rw[if_pos h3]
  rw[e,e2,h3];clear e e2 h3;go_enter Tryz.func96,Tryz.ntmps96;go_wp2;go_ret3
  refine⟨⟨_,rfl,fun _=>⟨_,_,rfl,fun h=>(by cases h),fun j z hj=>?_⟩,⟨_,_,_,rfl,fun g o sp h=>by injection h with h;injection h with h1 h2;exact⟨by omega,_,_,by rw[←h1,←show((w.alloc (.cells #[.slice ad L.length cap] 92)).alloc (.cells #[.int .i64 3,.string ⟨n.key.toArray⟩,.string ⟨n.text.toArray⟩,.int .i64 n.num,.slice adk n.kids.length capk,.int .i64 (n.at':Int)] 42)).heap.size=w.heap.size+1+1 by simp];exact heap_alloc_new _ _⟩⟩⟩,dbal (dbal (dbal (Below.refl _ _) _) _) _⟩;match j with
  | 0=>
    simp at hj;subst hj;refine⟨_,_,rfl,?_⟩;have:=one_cellS ((w.alloc (.cells #[.slice ad L.length cap] 92)).alloc (.cells #[.int .i64 3,.string ⟨n.key.toArray⟩,.string ⟨n.text.toArray⟩,.int .i64 n.num,.slice adk n.kids.length capk,.int .i64 (n.at':Int)] 42)) (.string ⟨n.text.toArray⟩) 9 0 _ rfl;simpa [Addr.add]using this
  | j+1=>simp at hj
 ·have k3:((n.kind:Int)==3)=false:=by simp;omega
  by_cases h4:n.kind=4∧n.kids≠[]
  ·have e:audE L n=audF L n.kids:=by unfold audE;rw[if_neg h3,if_pos h4]
   have e2:auds L n=audT L n.kids:=by unfold auds audT;rw[if_neg h3]
   have hk4:((n.kind:Nat):Int)=4:=by omega
   rw[e,e2,hk4];clear hk4;have k5:((n.kids.length:Int)==0)=false:=by have:=h4.2;simp[this]
   clear e e2 h3 k3 h4;go_enter Tryz.func96,Tryz.ntmps96;go_wp2_with fail
   have hB:=dbal (dbal (Below.refl w.heap.size w) (.cells #[.slice ad L.length cap] 92)) (.cells #[.int .i64 4,.string ⟨n.key.toArray⟩,.string ⟨n.text.toArray⟩,.int .i64 n.num,.slice adk n.kids.length capk,.int .i64 (n.at':Int)] 42);have b0:((w.alloc (.cells #[.slice ad L.length cap] 92)).alloc (.cells #[.int .i64 4,.string ⟨n.key.toArray⟩,.string ⟨n.text.toArray⟩,.int .i64 n.num,.slice adk n.kids.length capk,.int .i64 (n.at':Int)] 42)).cell? ⟨w.heap.size,0,none⟩=some (.slice ad L.length cap):=by
    rw[World.cell?_alloc_lt _ _ _ (by simp)];simp
   have hsz0:((w.alloc (.cells #[.slice ad L.length cap] 92)).alloc (.cells #[.int .i64 4,.string ⟨n.key.toArray⟩,.string ⟨n.text.toArray⟩,.int .i64 n.num,.slice adk n.kids.length capk,.int .i64 (n.at':Int)] 42)).heap.size=w.heap.size+2:=by simp
   have HB:=dhid hB;have HB0:=dhid b0;have HSZ:=dhid hsz0;have HX2:=dhid (HX.out.below hB);have HKC2:=dhid (HKC.out.below hB);clear hB b0 hsz0 HX HKC;generalize (w.alloc (.cells #[.slice ad L.length cap] 92)).alloc (.cells #[.int .i64 4,.string ⟨n.key.toArray⟩,.string ⟨n.text.toArray⟩,.int .i64 n.num,.slice adk n.kids.length capk,.int .i64 (n.at':Int)] 42)=W at *;go_loopw [7,30] (fun tv iv wr=>∃i:Nat,i≤n.kids.length∧iv=.int .i64 (i:Int)∧Hid (audF L n.kids=audF L (n.kids.drop i))∧wr.ownsRow (w.heap.size+2) 9 1 tv (audT L (n.kids.take i)).length ((audT L (n.kids.take i)).map Value.string)∧Below (w.heap.size+2) W wr) (fun _ iv _=>n.kids.length-(intOf iv).toNat)
   case atStart=>exact⟨0,by omega,rfl,rfl,World.ownsRow_nil _ _ _ _,Below.refl _ _⟩
   case round=>
    obtain⟨i,hi,rfl,hno,ho,hb⟩:=hrel;have hbw:Below w.heap.size w wr:=HB.out.trans (hb.mono (by omega));have hb2:Below W.heap.size W wr:=by rw[HSZ.out];exact hb
    have c0:wr.cell? ⟨w.heap.size,0,none⟩=some (.slice ad L.length cap):=cell_kp hb2 HB0.out;by_cases hlt:i<n.kids.length
    ·have k1:(i:Int)<(n.kids.length:Int):=by omega
     obtain⟨c,hc⟩:∃c,n.kids[i]?=some c:=⟨_,List.getElem?_eq_getElem hlt⟩;obtain⟨gk,rfl,ck0⟩:=HKC2.out i c hc;have ck:=cell_kp hb2 ck0;have hcl:=HKI.out c (List.mem_of_getElem? hc);obtain⟨m,hm⟩:∃m,L[c]?=some m:=⟨_,List.getElem?_eq_getElem hcl⟩;obtain⟨g,_,_,rfl,_⟩:=HX2.out.node hm;obtain⟨d0',d1',d2',d3',d5'⟩:=HX2.out.cs hm;have d0:=cell_kp hb2 d0';have d2:=cell_kp hb2 d2';have d5:=cell_kp hb2 d5';have k2:(c:Int)<(L.length:Int):=by omega
     have k2b:(c:Int)≤1000000:=by omega
     have hst:=audF_step L n.kids i c hc;have ht:audT L (n.kids.take (i+1))=audT L (n.kids.take i)++[⟨m.text.toArray⟩]:=by
      unfold audT;rw[List.take_add_one,hc];simp[ndA_of hm]
     rw[ndA_of hm]at hst;clear hc hm d1' d3' d0' d2' d5' ck0 hb2;by_cases he:m.kind=3
     ·rw[if_pos he]at hst
      have HS:=dhid hst;have HT:=dhid ht;have HO:=dhid ho;have HBB:=dhid hb;have hwsz:=hb.size;have hw2:w.heap.size+2≤wr.heap.size:=by have:=HSZ.out;omega
      have hlen2:(audT L (n.kids.take i)).length≤8796093022208:=by unfold audT;rw[List.length_map,List.length_take];omega
      rw[show((m.kind:Nat):Int)=3 by omega]at d0;clear hst he d5 ht ho hb hbw hwsz;go_wp2_with (at_builtin;go_must (refine wp_oneStr rfl (.tmp 47) (.tmp 54) 55 rfl 9 i0 Tryz.underlying55 HI.out hz0 hz1 hz2 (w.heap.size+2) u7 (audT L (n.kids.take i)) ⟨m.text.toArray⟩ wr rfl HO.out hw2 hlen2 rfl ?_;intro y w4 ho4 hb4;rw[←HT.out]at ho4;have HO4:=dhid ho4;have HB4:=dhid (HBB.out.trans hb4);clear ho4 hb4))
      go_roundw
      case rel=>exact⟨i+1,by omega,by go_num,by rw[hno.out,HS.out];exact rfl,HO4.out,HB4.out⟩
      case measure=>simp[intOf];omega
     ·rw[if_neg he]at hst
      have HS:=dhid hst;have HBW:=dhid hbw;have he':((m.kind:Int)==3)=false:=by simp;omega
      have he2:((m.kind:Int) != 3)=true:=by simp;omega
      clear hst he ht ho hb hbw;go_wp2_with fail
      go_quiet (fail);go_wp2_with fail
      go_ret3
      refine⟨⟨_,by rw[hno.out,HS.out];rfl,fun h=>?_,⟨_,_,_,rfl,fun g o sp h=>by cases h⟩⟩,dbN HBW.out _⟩;rw[hno.out,HS.out]at h;simp at h
    ·have k1:¬(i:Int)<(n.kids.length:Int):=by omega
     rw[List.take_of_length_le (by omega)]at ho;have HO:=dhid ho;have HBW:=dhid hbw;obtain⟨ay,cy,hy⟩:=(SR.of ho).shape;have hgb:∀g o sp,ay=some ⟨g,o,sp⟩→w.heap.size≤g∧UFb wr g:=fun g o sp h=>by
      rcases ho.2 with⟨h1,_⟩|⟨g',c',cu,h1,h2,h3,_⟩
      ·rw[h1]at hy;injection hy with hy;rw[←hy]at h;cases h
      ·rw[h1]at hy;injection hy with hy;rw[←hy]at h;injection h with h;injection h with h;subst h;exact⟨by omega,_,_,h3⟩
     have HY:=dhid hy;have HGB:=dhid hgb;clear ho hb hbw hb2 hy hgb;go_wp2;go_ret3
     refine⟨⟨_,?_,fun h=>SR.of HO.out,⟨ay,cy,_,HY.out,HGB.out⟩⟩,HBW.out⟩;rw[hno.out,List.drop_of_length_le (by omega)];rfl
  ·have e:audE L n=(6,(n.at':Int)):=by unfold audE;rw[if_neg h3,if_neg h4]
   rw[e];by_cases h5:n.kind=4
   ·have h6:n.kids=[]:=by
     by_cases h:n.kids=[]
     ·exact h
     ·exact absurd ⟨h5,h⟩ h4
    have h7:n.kids.length=0:=by rw[h6];rfl
    rw[h5,h7];clear e h3 k3 h4 h5 h6 h7;go_enter Tryz.func96,Tryz.ntmps96;go_wp2_with fail
    go_quiet (fail);go_wp2_with fail
    go_ret3
    exact⟨⟨_,rfl,fun h=>by simp at h,⟨_,_,_,rfl,fun g o sp h=>by cases h⟩⟩,dbN (dbal (dbal (Below.refl _ _) _) _) _⟩
   ·have k4:((n.kind:Int)==4)=false:=by simp;omega
    have k5:((n.kind:Int) != 4)=true:=by simp;omega
    clear e h3 h4 h5;go_enter Tryz.func96,Tryz.ntmps96;go_wp2_with fail
    go_quiet (fail);go_wp2_with fail
    go_ret3
    exact⟨⟨_,rfl,fun h=>by simp at h,⟨_,_,_,rfl,fun g o sp h=>by cases h⟩⟩,dbN (dbal (dbal (Below.refl _ _) _) _) _⟩
set_option linter.unusedSimpArgs false
def hasK(L:List Nd)(name:List UInt8)(ks:List Nat):Bool:=ks.any fun c=>(ndA L c).key==name
theorem hasK_step(L:List Nd)(name:List UInt8)(ks:List Nat)(i:Nat)(c:Nat)(h:ks[i]?=some c):hasK L name (ks.drop i)=((ndA L c).key==name||hasK L name (ks.drop (i+1))):=by
 obtain⟨hi,rfl⟩:=List.getElem?_eq_some_iff.1 h;rw[List.drop_eq_getElem_cons hi];rfl
def lckL(L:List Nd)(ks:List Nat)(names:List (List UInt8)):Bool:=names.any fun z=>!hasK L z ks
theorem lckL_step(L:List Nd)(ks:List Nat)(names:List (List UInt8))(i:Nat)(z:List UInt8)(h:names[i]?=some z):lckL L ks (names.drop i)=(!hasK L z ks||lckL L ks (names.drop (i+1))):=by
 obtain⟨hi,rfl⟩:=List.getElem?_eq_some_iff.1 h;rw[List.drop_eq_getElem_cons hi];rfl
theorem memK_has(L:List Nd)(name:List UInt8)(ks:List Nat):(memK L name ks<0)↔hasK L name ks=false:=by
 induction ks with
 | nil=>simp[memK,hasK]
 | cons c ks ih=>
   by_cases h:(ndA L c).key=name
   ·simp[memK,hasK,h]
   ·have hb:((ndA L c).key==name)=false:=by simp[h]
    have e:hasK L name (c::ks)=hasK L name ks:=by simp[hasK,hb]
    rw[e,←ih];simp[memK,h]
theorem lackB_eq(L:List Nd)(ks:List Nat):lackB L ks=lckL L ks [issS,audS,iatS,nbfS,expS]:=by
 unfold lackB lckL;simp only[memK_has,List.any_cons,List.any_nil];cases hasK L issS ks<;>cases hasK L audS ks<;>cases hasK L iatS ks<;>cases hasK L nbfS ks<;>cases hasK L expS ks<;>rfl
def QIx(b:Bool)(r:Ending):Prop:=∃q:Int,r=.returned (.int .i64 q)∧decide (0≤q)=b
theorem clck11(ad:Option Addr)(cap:Nat)(L:List Nd)(hlen:L.length≤1000000)(w:World)(hx:RR 42 (.slice ad L.length cap) L w)(c:Nat)(hc:c<L.length)(name:List UInt8)(bo bn:Nat)(ho:w.cell? ⟨bo,0,none⟩=some (.slice ad L.length cap))(hn:w.cell? ⟨bn,0,none⟩=some (.string ⟨name.toArray⟩)):Calls Tryz.prog 100 #[.int .i64 (c:Int),.pointer (some ⟨bo,0,none⟩),.pointer (some ⟨bn,0,none⟩)] w fun r w'=>
 r=.returned (.bool ((ndA L c).key==name))∧Below w.heap.size w w':=by
 obtain⟨m,hm⟩:∃m,L[c]?=some m:=⟨_,List.getElem?_eq_getElem hc⟩;rw[ndA_of hm];obtain⟨g,adk,capk,rfl,_,hkb,hkc,d0,d1,d2,d3,d4,d5⟩:=hx.node hm;have k2:(c:Int)<(L.length:Int):=by omega
 clear hx hm hkc d0 d2 d3 d4 d5;go_enter Tryz.func100,Tryz.ntmps100;go_wp2_with fail
 go_quiet (fail);go_wp2_with fail
 go_ret;exact⟨rfl,dbN (Below.refl _ _) _⟩
theorem cidxI(ad:Option Addr)(cap:Nat)(L:List Nd)(hlen:L.length≤1000000)(w:World)(hx:RR 42 (.slice ad L.length cap) L w)(ks:List Nat)(adk:Option Addr)(capk:Nat)(hkc:KC w adk ks)(hki:∀c∈ks,c<L.length)(hkl:ks.length≤1000000)(name:List UInt8)(bo bn:Nat)(ho:w.cell? ⟨bo,0,none⟩=some (.slice ad L.length cap))(hn:w.cell? ⟨bn,0,none⟩=some (.string ⟨name.toArray⟩)):Calls Tryz.prog 135 #[.slice adk ks.length capk,.func (.func 100) #[] #[.pointer (some ⟨bo,0,none⟩),.pointer (some ⟨bn,0,none⟩)]] w fun r w'=>
 QIx (hasK L name ks) r∧Below w.heap.size w w':=by
 have hca:=fun w1 (hb:Below w.heap.size w w1) c hc=>clck11 ad cap L hlen w1 (hx.below hb) c hc name bo bn (cell_kp hb ho) (cell_kp hb hn)
 have HCA:=dhid hca;have HKC:=dhid hkc;have HKI:=dhid hki;clear hca hx hkc hki ho hn;go_enter Tryz.func135,Tryz.ntmps135;go_wp2_with fail
 go_loopw [8] (fun iv wr=>∃i:Nat,i≤ks.length∧iv=.int .i64 (i:Int)∧Below w.heap.size w wr∧Hid (hasK L name ks=hasK L name (ks.drop i))) (fun iv _=>ks.length-(intOf iv).toNat)
 case atStart=>exact⟨0,by omega,rfl,Below.refl _ _,rfl⟩
 case round=>
  obtain⟨i,hi,rfl,hb,hno⟩:=hrel;have HB:=dhid hb;by_cases hlt:i<ks.length
  ·have k1:(i:Int)<(ks.length:Int):=by omega
   obtain⟨c,hc⟩:∃c,ks[i]?=some c:=⟨_,List.getElem?_eq_getElem hlt⟩;obtain⟨gk,rfl,ck0⟩:=HKC.out i c hc;have ck:=cell_kp hb ck0;have hcl:=HKI.out c (List.mem_of_getElem? hc);have hst:=hasK_step L name ks i c hc;have HCL:=dhid (HCA.out wr hb c hcl);have HSt:=dhid hst;clear hc ck0 hst hb HCA;go_wp2_with fail
   refine HCL.out.mono ?_;rintro r w1 ⟨rfl,hb1⟩;have HB1:=dhid (HB.out.trans (hb1.mono HB.out.size));clear hb1 HCL;by_cases he:((ndA L c).key==name)=true
   ·have ht:hasK L name ks=true:=by rw[hno.out,HSt.out,he];rfl
    have HTt:=dhid ht;clear ht HSt;go_wp2_with fail
    go_ret;exact⟨⟨i,rfl,by rw[HTt.out];simp⟩,HB1.out⟩
   ·have he':((ndA L c).key==name)=false:=by simpa using he
    have hst2:hasK L name (ks.drop i)=hasK L name (ks.drop (i+1)):=by rw[HSt.out,he'];rfl
    have HSt2:=dhid hst2;clear hst2 HSt he;go_wp2_with fail
    go_roundw
    case rel=>exact⟨i+1,by omega,by go_num,HB1.out,by rw[hno.out,HSt2.out];exact rfl⟩
    case measure=>simp[intOf];omega
  ·have k1:¬(i:Int)<(ks.length:Int):=by omega
   have ht:hasK L name ks=false:=by rw[hno.out,List.drop_eq_nil_of_le (by omega)];rfl
   have HTt:=dhid ht;clear ht;go_wp2_with fail
   go_ret;exact⟨⟨-1,rfl,by rw[HTt.out];rfl⟩,HB.out⟩
theorem chasI(ad:Option Addr)(cap:Nat)(L:List Nd)(hlen:L.length≤1000000)(w:World)(hx:RR 42 (.slice ad L.length cap) L w)(ks:List Nat)(adk:Option Addr)(capk:Nat)(hkc:KC w adk ks)(hki:∀c∈ks,c<L.length)(hkl:ks.length≤1000000)(name:List UInt8)(bo bn:Nat)(ho:w.cell? ⟨bo,0,none⟩=some (.slice ad L.length cap))(hn:w.cell? ⟨bn,0,none⟩=some (.string ⟨name.toArray⟩)):Calls Tryz.prog 99 #[.slice adk ks.length capk,.func (.func 100) #[] #[.pointer (some ⟨bo,0,none⟩),.pointer (some ⟨bn,0,none⟩)]] w fun r w'=>
 r=.returned (.bool (hasK L name ks))∧Below w.heap.size w w':=by
 have HCL:=dhid (cidxI ad cap L hlen w hx ks adk capk hkc hki hkl name bo bn ho hn);clear hx hkc hki ho hn;go_enter Tryz.func99,Tryz.ntmps99;go_wp2_with fail
 refine HCL.out.mono ?_;rintro r w1 ⟨⟨q,rfl,hq⟩,hb1⟩;have HB1:=dhid hb1;have HQ:=dhid hq;clear hb1 HCL hq;go_wp2_with fail
 go_ret;exact⟨by rw[←HQ.out];rfl,HB1.out⟩
theorem clck1(ad:Option Addr)(cap:Nat)(L:List Nd)(hW:WFN L)(n0:Nd)(hn0:L[0]?=some n0)(w:World)(hx:RR 42 (.slice ad L.length cap) L w)(name:List UInt8)(bo:Nat)(ho:w.cell? ⟨bo,0,none⟩=some (.slice ad L.length cap)):Calls Tryz.prog 98 #[.string ⟨name.toArray⟩,.pointer (some ⟨bo,0,none⟩)] w fun r w'=>
 r=.returned (.bool (!hasK L name n0.kids))∧Below w.heap.size w w':=by
 have hlen:=hW.len;obtain⟨g,adk,capk,rfl,_,hkb,hkc,d0,d1,d2,d3,d4,d5⟩:=hx.node hn0;have hca:=chasI (some ⟨g,0,none⟩) cap L hlen (w.alloc (.cells #[.string ⟨name.toArray⟩] 9)) (hx.below (dbal (Below.refl _ _) _)) n0.kids adk capk (KC.below hkc (dbal (Below.refl _ _) _)) (fun c hc=>(hW.kids 0 n0 hn0 c hc).2) (hW.few 0 n0 hn0) name bo w.heap.size (cell_kp (dbal (Below.refl _ _) _) ho) (by simp);have HCA:=dhid hca;have hl0:0<L.length:=(List.getElem?_eq_some_iff.1 hn0).1;have kl0:(0:Int)<(L.length:Int):=by omega
 have hob:bo<w.heap.size:=World.block_lt_of_cell? w _ ho;have hgb:g<w.heap.size:=World.block_lt_of_cell? w _ d0;have a1:∀o,(w.alloc o).cell? ⟨bo,0,none⟩=some (.slice (some ⟨g,0,none⟩) L.length cap):=fun o=>(World.cell?_alloc_lt _ _ _ hob).trans ho
 have a4:∀o,(w.alloc o).cell? ⟨g,4,none⟩=some (.slice adk n0.kids.length capk):=fun o=>by
  have:=d4;rw[Nat.zero_mul,Nat.zero_add]at this;exact(World.cell?_alloc_lt _ _ _ hgb).trans this
 clear hx hkc hn0 d0 d1 d2 d3 d4 d5 hca hW ho;go_enter Tryz.func98,Tryz.ntmps98;go_wp2_with fail
 refine HCA.out.mono ?_;rintro r w1 ⟨rfl,hb1⟩;have HB1:=dhid ((dbal (Below.refl w.heap.size w) _).trans (hb1.mono (by simp)));clear hb1 HCA;go_wp2_with fail
 go_ret;exact⟨rfl,HB1.out⟩
def strV(l:List UInt8):ByteArray:=⟨l.toArray⟩
theorem cidxS(ad:Option Addr)(cap:Nat)(L:List Nd)(hW:WFN L)(n0:Nd)(hn0:L[0]?=some n0)(w:World)(hx:RR 42 (.slice ad L.length cap) L w)(names:List (List UInt8))(av:Option Addr)(cv:Nat)(hs:SR w (.slice av names.length cv) (names.map strV))(hnl:names.length≤1000000)(bo:Nat)(ho:w.cell? ⟨bo,0,none⟩=some (.slice ad L.length cap)):Calls Tryz.prog 134 #[.slice av names.length cv,.func (.func 98) #[] #[.pointer (some ⟨bo,0,none⟩)]] w fun r w'=>
 QIx (lckL L n0.kids names) r∧Below w.heap.size w w':=by
 have hca:=fun w1 (hb:Below w.heap.size w w1) name=>clck1 ad cap L hW n0 hn0 w1 (hx.below hb) name bo (cell_kp hb ho)
 have HCA:=dhid hca;have hat:∀(i:Nat) z,names[i]?=some z→∃g off,av=some ⟨g,off,none⟩∧w.cell? ⟨g,off+i,none⟩=some (.string ⟨z.toArray⟩):=by
  intro i z hz;obtain⟨ad',cap',h1,h0,h2⟩:=hs;injection h1 with e1 e2 e3;subst e1;exact h2 i (strV z) (by rw[List.getElem?_map,hz];rfl)
 have HAT:=dhid hat;clear hca hx hs ho hat hn0 hW;go_enter Tryz.func134,Tryz.ntmps134;go_wp2_with fail
 go_loopw [8] (fun iv wr=>∃i:Nat,i≤names.length∧iv=.int .i64 (i:Int)∧Below w.heap.size w wr∧Hid (lckL L n0.kids names=lckL L n0.kids (names.drop i))) (fun iv _=>names.length-(intOf iv).toNat)
 case atStart=>exact⟨0,by omega,rfl,Below.refl _ _,rfl⟩
 case round=>
  obtain⟨i,hi,rfl,hb,hno⟩:=hrel;have HB:=dhid hb;by_cases hlt:i<names.length
  ·have k1:(i:Int)<(names.length:Int):=by omega
   obtain⟨z,hz⟩:∃z,names[i]?=some z:=⟨_,List.getElem?_eq_getElem hlt⟩;obtain⟨gk,off,rfl,ck0⟩:=HAT.out i z hz;have ck:=cell_kp hb ck0;have hst:=lckL_step L n0.kids names i z hz;have HCL:=dhid (HCA.out wr hb z);have HSt:=dhid hst;clear hz ck0 hst hb HCA;go_wp2_with fail
   refine HCL.out.mono ?_;rintro r w1 ⟨rfl,hb1⟩;have HB1:=dhid (HB.out.trans (hb1.mono HB.out.size));clear hb1 HCL;by_cases he:hasK L z n0.kids=false
   ·have ht:lckL L n0.kids names=true:=by rw[hno.out,HSt.out,he];rfl
    have HTt:=dhid ht;clear ht HSt;go_wp2_with fail
    go_ret;exact⟨⟨i,rfl,by rw[HTt.out];simp⟩,HB1.out⟩
   ·have he':hasK L z n0.kids=true:=by simpa using he
    have hst2:lckL L n0.kids (names.drop i)=lckL L n0.kids (names.drop (i+1)):=by rw[HSt.out,he'];rfl
    have HSt2:=dhid hst2;clear hst2 HSt he;go_wp2_with fail
    go_roundw
    case rel=>exact⟨i+1,by omega,by go_num,HB1.out,by rw[hno.out,HSt2.out];exact rfl⟩
    case measure=>simp[intOf];omega
  ·have k1:¬(i:Int)<(names.length:Int):=by omega
   have ht:lckL L n0.kids names=false:=by rw[hno.out,List.drop_eq_nil_of_le (by omega)];rfl
   have HTt:=dhid ht;clear ht;go_wp2_with fail
   go_ret;exact⟨⟨-1,rfl,by rw[HTt.out];rfl⟩,HB.out⟩
theorem chasS(ad:Option Addr)(cap:Nat)(L:List Nd)(hW:WFN L)(n0:Nd)(hn0:L[0]?=some n0)(w:World)(hx:RR 42 (.slice ad L.length cap) L w)(names:List (List UInt8))(av:Option Addr)(cv:Nat)(hs:SR w (.slice av names.length cv) (names.map strV))(hnl:names.length≤1000000)(bo:Nat)(ho:w.cell? ⟨bo,0,none⟩=some (.slice ad L.length cap)):Calls Tryz.prog 97 #[.slice av names.length cv,.func (.func 98) #[] #[.pointer (some ⟨bo,0,none⟩)]] w fun r w'=>
 r=.returned (.bool (lckL L n0.kids names))∧Below w.heap.size w w':=by
 have HCL:=dhid (cidxS ad cap L hW n0 hn0 w hx names av cv hs hnl bo ho);clear hx hs hn0 ho hW;go_enter Tryz.func97,Tryz.ntmps97;go_wp2_with fail
 refine HCL.out.mono ?_;rintro r w1 ⟨⟨q,rfl,hq⟩,hb1⟩;have HB1:=dhid hb1;have HQ:=dhid hq;clear hb1 HCL hq;go_wp2_with fail
 go_ret;exact⟨by rw[←HQ.out];rfl,HB1.out⟩
theorem clacks(ad:Option Addr)(cap:Nat)(L:List Nd)(hW:WFN L)(n0:Nd)(hn0:L[0]?=some n0)(w:World)(hx:RR 42 (.slice ad L.length cap) L w)(names:List (List UInt8))(av:Option Addr)(cv:Nat)(hs:SR w (.slice av names.length cv) (names.map strV))(hnl:names.length≤1000000):Calls Tryz.prog 62 #[.agg #[.slice ad L.length cap],.slice av names.length cv] w fun r w'=>
 r=.returned (.bool (lckL L n0.kids names))∧Below w.heap.size w w':=by
 have HCL:=dhid (chasS ad cap L hW n0 hn0 (w.alloc (.cells #[.slice ad L.length cap] 92)) (hx.below (dbal (Below.refl _ _) _)) names av cv (hs.below (dbal (Below.refl _ _) _)) hnl w.heap.size (by simp));clear hx hs hn0 hW;go_enter Tryz.func62,Tryz.ntmps62;go_wp2_with fail
 refine HCL.out.mono ?_;rintro r w1 ⟨rfl,hb1⟩;have HB1:=dhid ((dbal (Below.refl w.heap.size w) _).trans (hb1.mono (by simp)));clear hb1 HCL;go_wp2_with fail
 go_ret;exact⟨rfl,HB1.out⟩
end Go.Proofs.YtbbopknnoamkbaaGreatDoor
