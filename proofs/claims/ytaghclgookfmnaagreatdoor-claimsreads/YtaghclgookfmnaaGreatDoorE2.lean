import Derived.Test.YtaghclgookfmnaaGreatDoorDRow
import Derived.Test.YtaghclgookfmnaaGreatDoorQName
import Derived.Test.YtaghclgookfmnaaGreatDoorE1
import Derived.WalkSpells
import Derived.BigQuiet
set_option maxHeartbeats 1000000
set_option maxRecDepth 4000
namespace Go.Proofs.YtaghclgookfmnaaGreatDoor
open Go.RowKit
set_option linter.unusedVariables false
def issS:List UInt8:=[105,115,115]
def audS:List UInt8:=[97,117,100]
def iatS:List UInt8:=[105,97,116]
def nbfS:List UInt8:=[110,98,102]
def expS:List UInt8:=[101,120,112]
def ndA(L:List Nd)(c:Nat):Nd:=match L[c]? with|some n=>n|none=>⟨0,[],[],0,[],0⟩
theorem ndA_of{L:List Nd}{c:Nat}{n:Nd}(h:L[c]?=some n):ndA L c=n:=by unfold ndA;rw[h]
def audF(L:List Nd):List Nat→Int×Int
 | []=>(0,0)
 | c::cs=>if(ndA L c).kind=3 then audF L cs else(6,((ndA L c).at':Int))
def audE(L:List Nd)(n:Nd):Int×Int:=if n.kind=3 then(0,0)else if n.kind=4∧n.kids≠[]then audF L n.kids else(6,(n.at':Int))
def numE(n:Nd):Int×Int:=if n.kind=2 then(if n.num<0 then(3,(n.at':Int))else(0,0))else(6,(n.at':Int))
def issE(n:Nd):Int×Int:=if n.kind=3 then(0,0)else(6,(n.at':Int))
def clmE(L:List Nd)(n:Nd):Int×Int:=if n.key=issS then issE n else if n.key=audS then audE L n else if n.key=iatS∨n.key=nbfS∨n.key=expS then numE n else(0,0)
def allE(L:List Nd):List Nat→Int×Int
 | []=>(0,0)
 | c::cs=>if(clmE L (ndA L c)).1=0 then allE L cs else clmE L (ndA L c)
def memK(L:List Nd)(name:List UInt8):List Nat→Int
 | []=> -1
 | c::cs=>if(ndA L c).key=name then(c:Int)else memK L name cs
def auds(L:List Nd)(n:Nd):List ByteArray:=if n.kind=3 then [⟨n.text.toArray⟩]else n.kids.map fun c=>⟨(ndA L c).text.toArray⟩
structure Cl where
 iss:ByteArray
 aud:List ByteArray
 iat:Int
 nbf:Int
 exp:Int
def cl0:Cl:=⟨⟨#[]⟩,[],0,0,0⟩
def setC(L:List Nd)(n:Nd)(c:Cl):Cl:=
 if n.key=issS then {c with iss:=⟨n.text.toArray⟩}else if n.key=audS then {c with aud:=auds L n}else if n.key=iatS then {c with iat:=n.num}else if n.key=nbfS then {c with nbf:=n.num}else if n.key=expS then {c with exp:=n.num}else c
def allC(L:List Nd):List Nat→Cl→Cl
 | [],c=>c
 | k::ks,c=>allC L ks (setC L (ndA L k) c)
def lackB(L:List Nd)(kids:List Nat):Bool:=decide (memK L issS kids<0∨memK L audS kids<0∨memK L iatS kids<0∨memK L nbfS kids<0∨memK L expS kids<0)
def rdC(L:List Nd):Cl×Int×Int:=
 if(ndA L 0).kind=5 then
  if(allE L (ndA L 0).kids).1=0 then
   if lackB L (ndA L 0).kids=true then(cl0,7,0)else(allC L (ndA L 0).kids cl0,0,0)
  else(cl0,allE L (ndA L 0).kids)
 else(cl0,6,((ndA L 0).at':Int))
theorem audF_step(L:List Nd)(ks:List Nat)(i:Nat)(c:Nat)(h:ks[i]?=some c):audF L (ks.drop i)=if(ndA L c).kind=3 then audF L (ks.drop (i+1))else(6,((ndA L c).at':Int)):=by
 obtain⟨hl,e⟩:=List.getElem?_eq_some_iff.1 h;rw[List.drop_eq_getElem_cons hl,e];rfl
theorem allE_step(L:List Nd)(ks:List Nat)(i:Nat)(c:Nat)(h:ks[i]?=some c):allE L (ks.drop i)=if(clmE L (ndA L c)).1=0 then allE L (ks.drop (i+1))else clmE L (ndA L c):=by
 obtain⟨hl,e⟩:=List.getElem?_eq_some_iff.1 h;rw[List.drop_eq_getElem_cons hl,e];rfl
theorem memK_step(L:List Nd)(name:List UInt8)(ks:List Nat)(i:Nat)(c:Nat)(h:ks[i]?=some c):memK L name (ks.drop i)=if(ndA L c).key=name then(c:Int)else memK L name (ks.drop (i+1)):=by
 obtain⟨hl,e⟩:=List.getElem?_eq_some_iff.1 h;rw[List.drop_eq_getElem_cons hl,e];rfl
theorem allC_step(L:List Nd)(ks:List Nat)(i:Nat)(c:Nat)(x:Cl)(h:ks[i]?=some c):allC L (ks.drop i) x=allC L (ks.drop (i+1)) (setC L (ndA L c) x):=by
 obtain⟨hl,e⟩:=List.getElem?_eq_some_iff.1 h;rw[List.drop_eq_getElem_cons hl,e];rfl
def DQ(B:Nat)(q:Cl×Int×Int)(r:Ending)(w':World):Prop:=
 ∃y,r=.returned (.tuple #[.agg #[.string q.1.iss,y,.int .i64 q.1.iat,.int .i64 q.1.nbf,.int .i64 q.1.exp],.int .i64 q.2.1,.int .i64 q.2.2])∧SR w' y q.1.aud∧∀g o sp l c,y=.slice (some ⟨g,o,sp⟩) l c→B≤g
theorem DQ.nil(B:Nat)(e a:Int)(w':World):DQ B (cl0,e,a) (.returned (.tuple #[.agg #[.string ⟨#[]⟩,.slice none 0 0,.int .i64 0,.int .i64 0,.int .i64 0],.int .i64 e,.int .i64 a])) w':=
 ⟨_,rfl,⟨none,0,rfl,fun _=>rfl,fun j z hj=>by simp[cl0]at hj⟩,fun g o sp l c h=>by cases h⟩
theorem dhid{p:Prop}(h:p):Hid p:=h
theorem IR.sh{w:World}{v:Value}{us:List Nat}(h:IR w v us):∃ad cap,v=.slice ad us.length cap:=by obtain⟨a,c,h,_⟩:=h;exact⟨a,c,h⟩
theorem RR.node{tN:TypeId}{ad:Option Addr}{ln cap:Nat}{L:List Nd}{w:World}(h:RR tN (.slice ad ln cap) L w){k:Nat}{n:Nd}(hn:L[k]?=some n):∃g adk capk,ad=some ⟨g,0,none⟩∧ln=L.length∧n.kids.length≤1000000000∧(∀j c:Nat,n.kids[j]?=some c→∃gk,adk=some ⟨gk,0,none⟩∧w.cell? ⟨gk,j,none⟩=some (.int .i64 (c:Int)))∧w.cell? ⟨g,k*6,none⟩=some (.int .i64 (n.kind:Int))∧w.cell? ⟨g,k*6+1,none⟩=some (.string ⟨n.key.toArray⟩)∧w.cell? ⟨g,k*6+2,none⟩=some (.string ⟨n.text.toArray⟩)∧w.cell? ⟨g,k*6+3,none⟩=some (.int .i64 n.num)∧w.cell? ⟨g,k*6+4,none⟩=some (.slice adk n.kids.length capk)∧w.cell? ⟨g,k*6+5,none⟩=some (.int .i64 (n.at':Int)):=by
 obtain⟨g,kv,e,⟨adk,capk,hk,hc⟩,hl,c0,c1,c2,c3,c4,c5⟩:=h.at' k n hn;injection e with e1 e2 _;rw[hk]at c4;exact⟨g,adk,capk,e1,e2,hl,hc,c0,c1,c2,c3,c4,c5⟩
theorem RR.cs{tN:TypeId}{g ln cap:Nat}{L:List Nd}{w:World}(h:RR tN (.slice (some ⟨g,0,none⟩) ln cap) L w){k:Nat}{n:Nd}(hn:L[k]?=some n):w.cell? ⟨g,k*6,none⟩=some (.int .i64 (n.kind:Int))∧w.cell? ⟨g,k*6+1,none⟩=some (.string ⟨n.key.toArray⟩)∧w.cell? ⟨g,k*6+2,none⟩=some (.string ⟨n.text.toArray⟩)∧w.cell? ⟨g,k*6+3,none⟩=some (.int .i64 n.num)∧w.cell? ⟨g,k*6+5,none⟩=some (.int .i64 (n.at':Int)):=by
 obtain⟨g',_,_,e,_,_,_,c0,c1,c2,c3,_,c5⟩:=h.node hn;obtain rfl:g=g':=by injection e with e;injection e
 exact⟨c0,c1,c2,c3,c5⟩
theorem bne_key{a b:List UInt8}(h:a≠b):((⟨a.toArray⟩:ByteArray).toList==(⟨b.toArray⟩:ByteArray).toList)=false:=by
 rw[beq_eq_false_iff_ne,ByteArray.toList_eq,ByteArray.toList_eq];simpa using h
theorem rmemK(v:Value)(L:List Nd)(w:World)(hx:RR 51 v L w)(hW:WFN L)(k:Nat)(n:Nd)(hn:L[k]?=some n)(name:List UInt8):Calls Tryz.prog 14 #[v,.int .i64 (k:Int),.string ⟨name.toArray⟩] w fun r w'=>r=.returned (.int .i64 (memK L name n.kids))∧w'=w:=by
 have hkl:k<L.length:=(List.getElem?_eq_some_iff.1 hn).1;have hlen:=hW.len;have hki:=hW.kids k n hn;obtain⟨ad,cap,rfl⟩:=hx.shape;obtain⟨g,adk,capk,rfl,_,hkb,hkc,c0,c1,c2,c3,c4,c5⟩:=hx.node hn;have HX:=dhid hx;have HKC:=dhid hkc;have HKI:=dhid hki;have k0:(k:Int)<(L.length:Int):=by omega
 have k0b:(k:Int)≤1000000:=by omega
 clear hx hkc hki hn hW c0 c1 c2 c3 c5;go_enter Tryz.func14,Tryz.ntmps14;go_wp2_with fail
 go_loopw [7] (fun iv wr=>∃i:Nat,i≤n.kids.length∧iv=.int .i64 (i:Int)∧wr=w∧Hid (memK L name n.kids=memK L name (n.kids.drop i))) (fun iv _=>n.kids.length-(intOf iv).toNat)
 case atStart=>exact⟨0,by omega,rfl,rfl,rfl⟩
 case round=>
  obtain⟨i,hi,rfl,rfl,hno⟩:=hrel;by_cases hlt:i<n.kids.length
  ·have k1:(i:Int)<(n.kids.length:Int):=by omega
   obtain⟨c,hc⟩:∃c,n.kids[i]?=some c:=⟨_,List.getElem?_eq_getElem hlt⟩;obtain⟨gk,rfl,ck⟩:=HKC.out i c hc;have hcl:=HKI.out c (List.mem_of_getElem? hc);obtain⟨m,hm⟩:∃m,L[c]?=some m:=⟨_,List.getElem?_eq_getElem hcl.2⟩;obtain⟨d0,d1,d2,d3,d5⟩:=HX.out.cs hm;clear d0 d2 d3 d5;have k2:(c:Int)<(L.length:Int):=by omega
   have hst:=memK_step L name n.kids i c hc;rw[ndA_of hm]at hst;clear hc hm;by_cases he:m.key=name
   ·rw[if_pos he]at hst
    have HS:=dhid hst;rw[he]at d1;clear hst he;go_wp2;go_ret;exact⟨by rw[hno.out,HS.out];rfl,rfl⟩
   ·rw[if_neg he]at hst
    have HS:=dhid hst;have he':(m.key==name)=false:=by simp[he]
    clear hst he;go_wp2_with fail
    go_roundw
    case rel=>exact⟨i+1,by omega,by go_num,trivial,by rw[hno.out,HS.out];exact rfl⟩
    case measure=>simp[intOf];omega
  ·have k1:¬(i:Int)<(n.kids.length:Int):=by omega
   go_wp2;go_ret;refine⟨?_,rfl⟩;rw[hno.out,List.drop_of_length_le (by omega)];rfl
theorem dbal{a w:World}(h:Below a.heap.size a w)(o:Obj):Below a.heap.size a (w.alloc o):=h.alloc h.size o
theorem dbN{B:Nat}{a w:World}(h:Below B a w)(n:Nat):Below B a (w.drewN n):=⟨h.os,h.tape,h.output,h.size,h.block⟩
theorem rwrongAud(v:Value)(L:List Nd)(w:World)(hx:RR 51 v L w)(hW:WFN L)(k:Nat)(n:Nd)(hn:L[k]?=some n):Calls Tryz.prog 28 #[v,.int .i64 (k:Int)] w fun r w'=>r=.returned (.tuple #[.int .i64 (audE L n).1,.int .i64 (audE L n).2])∧Below w.heap.size w w':=by
 have hkl:k<L.length:=(List.getElem?_eq_some_iff.1 hn).1;have hlen:=hW.len;have hki:=hW.kids k n hn;obtain⟨ad,cap,rfl⟩:=hx.shape;obtain⟨g,adk,capk,rfl,_,hkb,hkc,c0,c1,c2,c3,c4,c5⟩:=hx.node hn;have HX:=dhid hx;have HKC:=dhid hkc;have HKI:=dhid hki;have k0:(k:Int)<(L.length:Int):=by omega
 have k0b:(k:Int)≤1000000:=by omega
 have hglt:g<w.heap.size:=World.block_lt_of_cell? w _ c0;clear hx hkc hki hn hW;by_cases h3:n.kind=3
 ·have e:audE L n=(0,0):=by unfold audE;rw[if_pos h3]
  rw[e];have k3:((n.kind:Int)==3)=true:=by simp[h3]
  rw[h3]at c0;clear e h3 k3;go_enter Tryz.func28,Tryz.ntmps28;go_wp2;go_ret2
  exact⟨rfl,dbal (Below.refl _ _) _⟩
 ·have k3:((n.kind:Int)==3)=false:=by simp;omega
  by_cases h4:n.kind=4∧n.kids≠[]
  ·have e:audE L n=audF L n.kids:=by unfold audE;rw[if_neg h3,if_pos h4]
   rw[e];have k5:((n.kids.length:Int)==0)=false:=by have:=h4.2;simp[this]
   rw[h4.1]at c0;have h5:n.kids.length≠0:=by have:=h4.2;simpa using this
   clear e h3 k3 h4;go_enter Tryz.func28,Tryz.ntmps28;go_wp2_with fail
   have hB:=dbal (Below.refl w.heap.size w) (.cells #[.int .i64 4,.string ⟨n.key.toArray⟩,.string ⟨n.text.toArray⟩,.int .i64 n.num,.slice adk n.kids.length capk,.int .i64 (n.at':Int)] 51);have b4:(w.alloc (.cells #[.int .i64 4,.string ⟨n.key.toArray⟩,.string ⟨n.text.toArray⟩,.int .i64 n.num,.slice adk n.kids.length capk,.int .i64 (n.at':Int)] 51)).cell? ⟨w.heap.size,4,none⟩=some (.slice adk n.kids.length capk):=by simp
   have HB:=dhid hB;have HX2:=dhid (HX.out.below hB);have HKC2:Hid (∀j c:Nat,n.kids[j]?=some c→∃gk,adk=some ⟨gk,0,none⟩∧(w.alloc (.cells #[.int .i64 4,.string ⟨n.key.toArray⟩,.string ⟨n.text.toArray⟩,.int .i64 n.num,.slice adk n.kids.length capk,.int .i64 (n.at':Int)] 51)).cell? ⟨gk,j,none⟩=some (.int .i64 (c:Int))):=fun j c hj=>by
    obtain⟨gk,h1,h2⟩:=HKC.out j c hj;exact⟨gk,h1,cell_kp hB h2⟩
   clear hB c0 c1 c2 c3 c4 c5 HKC HX;generalize w.alloc (.cells #[.int .i64 4,.string ⟨n.key.toArray⟩,.string ⟨n.text.toArray⟩,.int .i64 n.num,.slice adk n.kids.length capk,.int .i64 (n.at':Int)] 51)=W at *;go_loopw [7] (fun iv wr=>∃i q:Nat,i≤n.kids.length∧iv=.int .i64 (i:Int)∧wr=W.drewN q∧Hid (audF L n.kids=audF L (n.kids.drop i))) (fun iv _=>n.kids.length-(intOf iv).toNat)
   case atStart=>exact⟨0,0,by omega,rfl,rfl,rfl⟩
   case round=>
    obtain⟨i,q,hi,rfl,rfl,hno⟩:=hrel;by_cases hlt:i<n.kids.length
    ·have k1:(i:Int)<(n.kids.length:Int):=by omega
     obtain⟨c,hc⟩:∃c,n.kids[i]?=some c:=⟨_,List.getElem?_eq_getElem hlt⟩;obtain⟨gk,rfl,ck⟩:=HKC2.out i c hc;have hcl:=HKI.out c (List.mem_of_getElem? hc);obtain⟨m,hm⟩:∃m,L[c]?=some m:=⟨_,List.getElem?_eq_getElem hcl.2⟩;obtain⟨d0,d1,d2,d3,d5⟩:=HX2.out.cs hm;have k2:(c:Int)<(L.length:Int):=by omega
     have k2b:(c:Int)≤1000000:=by omega
     have hst:=audF_step L n.kids i c hc;rw[ndA_of hm]at hst;clear hc hm d1 d2 d3;by_cases he:m.kind=3
     ·rw[if_pos he]at hst
      have HS:=dhid hst;rw[he]at d0;clear hst he d5;go_wp2_with fail
      go_roundw
      case rel=>exact⟨i+1,q,by omega,by go_num,rfl,by rw[hno.out,HS.out];exact rfl⟩
      case measure=>simp[intOf];omega
     ·rw[if_neg he]at hst
      have HS:=dhid hst;have he':((m.kind:Int)==3)=false:=by simp;omega
      have he2:((m.kind:Int) != 3)=true:=by simp;omega
      clear hst he;go_wp2_with fail
      go_quiet (fail);go_wp2_with fail
      go_ret2
      exact⟨by rw[hno.out,HS.out];rfl,dbN (dbN HB.out _) _⟩
    ·have k1:¬(i:Int)<(n.kids.length:Int):=by omega
     go_wp2;go_ret2
     refine⟨?_,dbN HB.out _⟩;rw[hno.out,List.drop_of_length_le (by omega)];rfl
  ·have e:audE L n=(6,(n.at':Int)):=by unfold audE;rw[if_neg h3,if_neg h4]
   rw[e];by_cases h5:n.kind=4
   ·have h6:n.kids=[]:=by
     by_cases h:n.kids=[]
     ·exact h
     ·exact absurd ⟨h5,h⟩ h4
    have h7:n.kids.length=0:=by rw[h6];rfl
    rw[h5]at c0;rw[h7]at c4;clear e h3 k3 h4 h5 h6 h7;go_enter Tryz.func28,Tryz.ntmps28;go_wp2_with fail
    go_quiet (fail);go_wp2_with fail
    go_ret2
    exact⟨rfl,dbN (dbal (Below.refl _ _) _) _⟩
   ·have k4:((n.kind:Int)==4)=false:=by simp;omega
    have k5:((n.kind:Int) != 4)=true:=by simp;omega
    clear e h3 h4 h5;go_enter Tryz.func28,Tryz.ntmps28;go_wp2_with fail
    go_quiet (fail);go_wp2_with fail
    go_ret2
    exact⟨rfl,dbN (dbal (Below.refl _ _) _) _⟩
theorem rwrong_iatS(v:Value)(L:List Nd)(w:World)(hx:RR 51 v L w)(hlen:L.length≤1000000)(k:Nat)(n:Nd)(hn:L[k]?=some n)(hk:n.key=iatS):Calls Tryz.prog 13 #[v,.int .i64 (k:Int)] w fun r w'=>r=.returned (.tuple #[.int .i64 (numE n).1,.int .i64 (numE n).2])∧Below w.heap.size w w':=by
 have hkl:k<L.length:=(List.getElem?_eq_some_iff.1 hn).1;obtain⟨ad,cap,rfl⟩:=hx.shape;obtain⟨g,adk,capk,rfl,_,hkb,hkc,c0,c1,c2,c3,c4,c5⟩:=hx.node hn;have k0:(k:Int)<(L.length:Int):=by omega
 have k0b:(k:Int)≤1000000:=by omega
 have hglt:g<w.heap.size:=World.block_lt_of_cell? w _ c0;rw[hk]at c1;clear hx hkc hn hk;unfold iatS at c1;by_cases h2:n.kind=2
 ·rw[h2]at c0
  by_cases h3:n.num<0
  ·have e:numE n=(3,(n.at':Int)):=by unfold numE;rw[if_pos h2,if_pos h3]
   rw[e];clear e h2;go_enter Tryz.func13,Tryz.ntmps13;go_wp2_with fail
   go_quiet (fail);go_wp2_with fail
   go_ret2
   exact⟨rfl,dbN (dbal (Below.refl _ _) _) _⟩
  ·have e:numE n=(0,0):=by unfold numE;rw[if_pos h2,if_neg h3]
   rw[e];clear e h2;go_enter Tryz.func13,Tryz.ntmps13;go_wp2;go_ret2
   exact⟨rfl,dbal (Below.refl _ _) _⟩
 ·have e:numE n=(6,(n.at':Int)):=by unfold numE;rw[if_neg h2]
  rw[e];have k3:((n.kind:Int)==2)=false:=by simp;omega
  have k4:((n.kind:Int) != 2)=true:=by simp;omega
  clear e h2;go_enter Tryz.func13,Tryz.ntmps13;go_wp2_with fail
  go_quiet (fail);go_wp2_with fail
  go_ret2
  exact⟨rfl,dbN (dbal (Below.refl _ _) _) _⟩
theorem rwrong_nbfS(v:Value)(L:List Nd)(w:World)(hx:RR 51 v L w)(hlen:L.length≤1000000)(k:Nat)(n:Nd)(hn:L[k]?=some n)(hk:n.key=nbfS):Calls Tryz.prog 13 #[v,.int .i64 (k:Int)] w fun r w'=>r=.returned (.tuple #[.int .i64 (numE n).1,.int .i64 (numE n).2])∧Below w.heap.size w w':=by
 have hkl:k<L.length:=(List.getElem?_eq_some_iff.1 hn).1;obtain⟨ad,cap,rfl⟩:=hx.shape;obtain⟨g,adk,capk,rfl,_,hkb,hkc,c0,c1,c2,c3,c4,c5⟩:=hx.node hn;have k0:(k:Int)<(L.length:Int):=by omega
 have k0b:(k:Int)≤1000000:=by omega
 have hglt:g<w.heap.size:=World.block_lt_of_cell? w _ c0;rw[hk]at c1;clear hx hkc hn hk;unfold nbfS at c1;by_cases h2:n.kind=2
 ·rw[h2]at c0
  by_cases h3:n.num<0
  ·have e:numE n=(3,(n.at':Int)):=by unfold numE;rw[if_pos h2,if_pos h3]
   rw[e];clear e h2;go_enter Tryz.func13,Tryz.ntmps13;go_wp2_with fail
   go_quiet (fail);go_wp2_with fail
   go_ret2
   exact⟨rfl,dbN (dbal (Below.refl _ _) _) _⟩
  ·have e:numE n=(0,0):=by unfold numE;rw[if_pos h2,if_neg h3]
   rw[e];clear e h2;go_enter Tryz.func13,Tryz.ntmps13;go_wp2;go_ret2
   exact⟨rfl,dbal (Below.refl _ _) _⟩
 ·have e:numE n=(6,(n.at':Int)):=by unfold numE;rw[if_neg h2]
  rw[e];have k3:((n.kind:Int)==2)=false:=by simp;omega
  have k4:((n.kind:Int) != 2)=true:=by simp;omega
  clear e h2;go_enter Tryz.func13,Tryz.ntmps13;go_wp2_with fail
  go_quiet (fail);go_wp2_with fail
  go_ret2
  exact⟨rfl,dbN (dbal (Below.refl _ _) _) _⟩
theorem rwrong_expS(v:Value)(L:List Nd)(w:World)(hx:RR 51 v L w)(hlen:L.length≤1000000)(k:Nat)(n:Nd)(hn:L[k]?=some n)(hk:n.key=expS):Calls Tryz.prog 13 #[v,.int .i64 (k:Int)] w fun r w'=>r=.returned (.tuple #[.int .i64 (numE n).1,.int .i64 (numE n).2])∧Below w.heap.size w w':=by
 have hkl:k<L.length:=(List.getElem?_eq_some_iff.1 hn).1;obtain⟨ad,cap,rfl⟩:=hx.shape;obtain⟨g,adk,capk,rfl,_,hkb,hkc,c0,c1,c2,c3,c4,c5⟩:=hx.node hn;have k0:(k:Int)<(L.length:Int):=by omega
 have k0b:(k:Int)≤1000000:=by omega
 have hglt:g<w.heap.size:=World.block_lt_of_cell? w _ c0;rw[hk]at c1;clear hx hkc hn hk;unfold expS at c1;by_cases h2:n.kind=2
 ·rw[h2]at c0
  by_cases h3:n.num<0
  ·have e:numE n=(3,(n.at':Int)):=by unfold numE;rw[if_pos h2,if_pos h3]
   rw[e];clear e h2;go_enter Tryz.func13,Tryz.ntmps13;go_wp2_with fail
   go_quiet (fail);go_wp2_with fail
   go_ret2
   exact⟨rfl,dbN (dbal (Below.refl _ _) _) _⟩
  ·have e:numE n=(0,0):=by unfold numE;rw[if_pos h2,if_neg h3]
   rw[e];clear e h2;go_enter Tryz.func13,Tryz.ntmps13;go_wp2;go_ret2
   exact⟨rfl,dbal (Below.refl _ _) _⟩
 ·have e:numE n=(6,(n.at':Int)):=by unfold numE;rw[if_neg h2]
  rw[e];have k3:((n.kind:Int)==2)=false:=by simp;omega
  have k4:((n.kind:Int) != 2)=true:=by simp;omega
  clear e h2;go_enter Tryz.func13,Tryz.ntmps13;go_wp2_with fail
  go_quiet (fail);go_wp2_with fail
  go_ret2
  exact⟨rfl,dbN (dbal (Below.refl _ _) _) _⟩
theorem rwrong_iss(v:Value)(L:List Nd)(w:World)(hx:RR 51 v L w)(hlen:L.length≤1000000)(k:Nat)(n:Nd)(hn:L[k]?=some n)(hk:n.key=issS):Calls Tryz.prog 13 #[v,.int .i64 (k:Int)] w fun r w'=>r=.returned (.tuple #[.int .i64 (issE n).1,.int .i64 (issE n).2])∧Below w.heap.size w w':=by
 have hkl:k<L.length:=(List.getElem?_eq_some_iff.1 hn).1;obtain⟨ad,cap,rfl⟩:=hx.shape;obtain⟨g,adk,capk,rfl,_,hkb,hkc,c0,c1,c2,c3,c4,c5⟩:=hx.node hn;have k0:(k:Int)<(L.length:Int):=by omega
 have k0b:(k:Int)≤1000000:=by omega
 have hglt:g<w.heap.size:=World.block_lt_of_cell? w _ c0;rw[hk]at c1;clear hx hkc hn hk;unfold issS at c1;by_cases h2:n.kind=3
 ·rw[h2]at c0
  have e:issE n=(0,0):=by unfold issE;rw[if_pos h2]
  rw[e];clear e h2;go_enter Tryz.func13,Tryz.ntmps13;go_wp2;go_ret2
  exact⟨rfl,dbal (Below.refl _ _) _⟩
 ·have e:issE n=(6,(n.at':Int)):=by unfold issE;rw[if_neg h2]
  rw[e];have k3:((n.kind:Int)==3)=false:=by simp;omega
  have k4:((n.kind:Int) != 3)=true:=by simp;omega
  clear e h2;go_enter Tryz.func13,Tryz.ntmps13;go_wp2_with fail
  go_quiet (fail);go_wp2_with fail
  go_ret2
  exact⟨rfl,dbN (dbal (Below.refl _ _) _) _⟩
theorem rwrong_aud(v:Value)(L:List Nd)(w:World)(hx:RR 51 v L w)(hW:WFN L)(k:Nat)(n:Nd)(hn:L[k]?=some n)(hk:n.key=audS):Calls Tryz.prog 13 #[v,.int .i64 (k:Int)] w fun r w'=>r=.returned (.tuple #[.int .i64 (audE L n).1,.int .i64 (audE L n).2])∧Below w.heap.size w w':=by
 have hlen:=hW.len;have hcall:=fun w1 (b1:Below w.heap.size w w1)=>rwrongAud v L w1 (hx.below b1) hW k n hn
 have HC:=dhid hcall;clear hcall;have hkl:k<L.length:=(List.getElem?_eq_some_iff.1 hn).1;obtain⟨ad,cap,rfl⟩:=hx.shape;obtain⟨g,adk,capk,rfl,_,hkb,hkc,c0,c1,c2,c3,c4,c5⟩:=hx.node hn;have k0:(k:Int)<(L.length:Int):=by omega
 have k0b:(k:Int)≤1000000:=by omega
 have hglt:g<w.heap.size:=World.block_lt_of_cell? w _ c0;rw[hk]at c1;clear hx hkc hn hk hW;unfold audS at c1;generalize audE L n=q at *;go_enter Tryz.func13,Tryz.ntmps13;go_wp2_with fail
 refine(HC.out _ (dbal (Below.refl _ _) _)).mono ?_;rintro r w1 ⟨rfl,hb⟩;have HB:=dhid ((dbal (Below.refl w.heap.size w) _).trans (hb.mono (by simp)));clear hb;go_wp2;go_ret2
 exact⟨rfl,HB.out⟩
theorem rwrong_else(v:Value)(L:List Nd)(w:World)(hx:RR 51 v L w)(hlen:L.length≤1000000)(k:Nat)(n:Nd)(hn:L[k]?=some n)(h1:n.key≠issS)(h2:n.key≠audS)(h3:n.key≠iatS)(h4:n.key≠nbfS)(h5:n.key≠expS):Calls Tryz.prog 13 #[v,.int .i64 (k:Int)] w fun r w'=>r=.returned (.tuple #[.int .i64 0,.int .i64 0])∧Below w.heap.size w w':=by
 have hkl:k<L.length:=(List.getElem?_eq_some_iff.1 hn).1;obtain⟨ad,cap,rfl⟩:=hx.shape;obtain⟨g,adk,capk,rfl,_,hkb,hkc,c0,c1,c2,c3,c4,c5⟩:=hx.node hn;have k0:(k:Int)<(L.length:Int):=by omega
 have k0b:(k:Int)≤1000000:=by omega
 have hglt:g<w.heap.size:=World.block_lt_of_cell? w _ c0;have q1:(n.key==[105,115,115])=false:=beq_eq_false_iff_ne.2 h1;have q2:(n.key==[97,117,100])=false:=beq_eq_false_iff_ne.2 h2;have q3:(n.key==[105,97,116])=false:=beq_eq_false_iff_ne.2 h3;have q4:(n.key==[110,98,102])=false:=beq_eq_false_iff_ne.2 h4;have q5:(n.key==[101,120,112])=false:=beq_eq_false_iff_ne.2 h5;clear hx hkc hn h1 h2 h3 h4 h5;go_enter Tryz.func13,Tryz.ntmps13;go_wp2;go_ret2
 exact⟨rfl,dbal (Below.refl _ _) _⟩
theorem rwrongClaim(v:Value)(L:List Nd)(w:World)(hx:RR 51 v L w)(hW:WFN L)(k:Nat)(n:Nd)(hn:L[k]?=some n):Calls Tryz.prog 13 #[v,.int .i64 (k:Int)] w fun r w'=>r=.returned (.tuple #[.int .i64 (clmE L n).1,.int .i64 (clmE L n).2])∧Below w.heap.size w w':=by
 by_cases h1:n.key=issS
 ·rw[show clmE L n=issE n by unfold clmE;rw[if_pos h1]]
  exact rwrong_iss v L w hx hW.len k n hn h1
 ·by_cases h2:n.key=audS
  ·rw[show clmE L n=audE L n by unfold clmE;rw[if_neg h1,if_pos h2]]
   exact rwrong_aud v L w hx hW k n hn h2
  ·by_cases h3:n.key=iatS
   ·rw[show clmE L n=numE n by unfold clmE;rw[if_neg h1,if_neg h2,if_pos (.inl h3)]]
    exact rwrong_iatS v L w hx hW.len k n hn h3
   ·by_cases h4:n.key=nbfS
    ·rw[show clmE L n=numE n by unfold clmE;rw[if_neg h1,if_neg h2,if_pos (.inr (.inl h4))]]
     exact rwrong_nbfS v L w hx hW.len k n hn h4
    ·by_cases h5:n.key=expS
     ·rw[show clmE L n=numE n by unfold clmE;rw[if_neg h1,if_neg h2,if_pos (.inr (.inr h5))]]
      exact rwrong_expS v L w hx hW.len k n hn h5
     ·rw[show clmE L n=(0,0)by unfold clmE;rw[if_neg h1,if_neg h2,if_neg (by simp[h3,h4,h5])]]
      exact rwrong_else v L w hx hW.len k n hn h1 h2 h3 h4 h5
end Go.Proofs.YtaghclgookfmnaaGreatDoor
