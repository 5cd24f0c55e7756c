import Derived.Test.YtbllepoagnfjnaaDoorJPureP
import Derived.Test.YtbllepoagnfjnaaDoorG1
import Derived.WalkSpells
import Derived.BigQuiet
namespace Go.Proofs.YtbllepoagnfjnaaDoor
open Go.RowKit
set_option linter.unusedVariables false
def IR(w:World)(v:Value)(us:List Nat):Prop:=
 ∃ad cap,v=.slice ad us.length cap∧∀j k:Nat,us[j]?=some k→∃g,ad=some ⟨g,0,none⟩∧w.cell? ⟨g,j,none⟩=some (.int .i64 (k:Int))
theorem IR.keep{w w':World}{v:Value}{us:List Nat}(h:IR w v us)(hc:∀g j u,w.cell? ⟨g,j,none⟩=some u→w'.cell? ⟨g,j,none⟩=some u):IR w' v us:=by
 obtain⟨ad,cap,h1,h2⟩:=h;refine⟨ad,cap,h1,fun j k hj=>?_⟩;obtain⟨g,a,b⟩:=h2 j k hj;exact⟨g,a,hc _ _ _ b⟩
theorem IR.drewN{w:World}{v:Value}{us:List Nat}(h:IR w v us)(n:Nat):IR (w.drewN n) v us:=h.keep fun g j u hc=>by simpa using hc
theorem cell_kp{w w':World}(h:Below w.heap.size w w'){g j:Nat}{u:Value}(hc:w.cell? ⟨g,j,none⟩=some u):w'.cell? ⟨g,j,none⟩=some u:=by
 by_cases hg:g<w.heap.size
 ·have:=h.block g hg
  simp only[World.cell?]at hc ⊢;rw[this];exact hc
 ·have:w.heap[g]?=none:=Array.getElem?_eq_none (by omega)
  simp[World.cell?,this]at hc
theorem IR.below{w w':World}{v:Value}{us:List Nat}(h:IR w v us)(hb:Below w.heap.size w w'):IR w' v us:=h.keep fun g j u hc=>cell_kp hb hc
structure RR (tN:TypeId) (v:Value) (ns:List Nd) (w:World):Prop where
 shape:∃ad cap,v=.slice ad ns.length cap
 at':∀(k:Nat) (n:Nd),ns[k]?=some n→∃g kv,v=.slice (some ⟨g,0,none⟩) ns.length (match v with| .slice _ _ c=>c|_=>0)∧IR w kv n.kids∧n.kids.length≤1000000000∧
  w.cell? ⟨g,k*6,none⟩=some (.int .i64 (n.kind:Int))∧w.cell? ⟨g,k*6+1,none⟩=some (.string ⟨n.key.toArray⟩)∧w.cell? ⟨g,k*6+2,none⟩=some (.string ⟨n.text.toArray⟩)∧
  w.cell? ⟨g,k*6+3,none⟩=some (.int .i64 n.num)∧w.cell? ⟨g,k*6+4,none⟩=some kv∧w.cell? ⟨g,k*6+5,none⟩=some (.int .i64 (n.at':Int))
theorem RR.below{tN:TypeId}{v:Value}{ns:List Nd}{w w':World}(h:RR tN v ns w)(hb:Below w.heap.size w w'):RR tN v ns w':=by
 refine⟨h.shape,fun k n hn=>?_⟩;obtain⟨g,kv,a,b,hl,c0,c1,c2,c3,c4,c5⟩:=h.at' k n hn;exact⟨g,kv,a,b.below hb,hl,cell_kp hb c0,cell_kp hb c1,cell_kp hb c2,cell_kp hb c3,cell_kp hb c4,cell_kp hb c5⟩
def issS:List UInt8:=[105,115,115]
def audS:List UInt8:=[97,117,100]
def iatS:List UInt8:=[105,97,116]
def nbfS:List UInt8:=[110,98,102]
def expS:List UInt8:=[101,120,112]
def ndA(L:List Nd)(c:Nat):Nd:=match L[c]? with|some n=>n|none=>⟨0,[],[],0,[],0⟩
theorem ndA_of{L:List Nd}{c:Nat}{n:Nd}(h:L[c]?=some n):ndA L c=n:=by unfold ndA;rw[h]
def audF(L:List Nd):List Nat→Int×Int
 | []=>(0,0)
 | c::cs=>if(ndA L c).kind=3 then audF L cs else(6,((ndA L c).at':Int))
def audE(L:List Nd)(n:Nd):Int×Int:=if n.kind=3 then(0,0)else if n.kind=4∧n.kids≠[]then audF L n.kids else(6,(n.at':Int))
def numE(n:Nd):Int×Int:=if n.kind=2 then(if n.num<0 then(3,(n.at':Int))else(0,0))else(6,(n.at':Int))
def issE(n:Nd):Int×Int:=if n.kind=3 then(0,0)else(6,(n.at':Int))
def clmE(L:List Nd)(n:Nd):Int×Int:=if n.key=issS then issE n else if n.key=audS then audE L n else if n.key=iatS∨n.key=nbfS∨n.key=expS then numE n else(0,0)
def allE(L:List Nd):List Nat→Int×Int
 | []=>(0,0)
 | c::cs=>if(clmE L (ndA L c)).1=0 then allE L cs else clmE L (ndA L c)
def memK(L:List Nd)(name:List UInt8):List Nat→Int
 | []=> -1
 | c::cs=>if(ndA L c).key=name then(c:Int)else memK L name cs
def auds(L:List Nd)(n:Nd):List ByteArray:=if n.kind=3 then [⟨n.text.toArray⟩]else n.kids.map fun c=>⟨(ndA L c).text.toArray⟩
structure Cl where
 iss:ByteArray
 aud:List ByteArray
 iat:Int
 nbf:Int
 exp:Int
def cl0:Cl:=⟨⟨#[]⟩,[],0,0,0⟩
def setC(L:List Nd)(n:Nd)(c:Cl):Cl:=
 if n.key=issS then {c with iss:=⟨n.text.toArray⟩}else if n.key=audS then {c with aud:=auds L n}else if n.key=iatS then {c with iat:=n.num}else if n.key=nbfS then {c with nbf:=n.num}else if n.key=expS then {c with exp:=n.num}else c
def allC(L:List Nd):List Nat→Cl→Cl
 | [],c=>c
 | k::ks,c=>allC L ks (setC L (ndA L k) c)
def lackB(L:List Nd)(kids:List Nat):Bool:=decide (memK L issS kids<0∨memK L audS kids<0∨memK L iatS kids<0∨memK L nbfS kids<0∨memK L expS kids<0)
def rdC(L:List Nd):Cl×Int×Int:=
 if(ndA L 0).kind=5 then
  if(allE L (ndA L 0).kids).1=0 then
   if lackB L (ndA L 0).kids=true then(cl0,7,0)else(allC L (ndA L 0).kids cl0,0,0)
  else(cl0,allE L (ndA L 0).kids)
 else(cl0,6,((ndA L 0).at':Int))
theorem audF_step(L:List Nd)(ks:List Nat)(i:Nat)(c:Nat)(h:ks[i]?=some c):audF L (ks.drop i)=if(ndA L c).kind=3 then audF L (ks.drop (i+1))else(6,((ndA L c).at':Int)):=by
 obtain⟨hl,e⟩:=List.getElem?_eq_some_iff.1 h;rw[List.drop_eq_getElem_cons hl,e];rfl
theorem allE_step(L:List Nd)(ks:List Nat)(i:Nat)(c:Nat)(h:ks[i]?=some c):allE L (ks.drop i)=if(clmE L (ndA L c)).1=0 then allE L (ks.drop (i+1))else clmE L (ndA L c):=by
 obtain⟨hl,e⟩:=List.getElem?_eq_some_iff.1 h;rw[List.drop_eq_getElem_cons hl,e];rfl
theorem memK_step(L:List Nd)(name:List UInt8)(ks:List Nat)(i:Nat)(c:Nat)(h:ks[i]?=some c):memK L name (ks.drop i)=if(ndA L c).key=name then(c:Int)else memK L name (ks.drop (i+1)):=by
 obtain⟨hl,e⟩:=List.getElem?_eq_some_iff.1 h;rw[List.drop_eq_getElem_cons hl,e];rfl
theorem allC_step(L:List Nd)(ks:List Nat)(i:Nat)(c:Nat)(x:Cl)(h:ks[i]?=some c):allC L (ks.drop i) x=allC L (ks.drop (i+1)) (setC L (ndA L c) x):=by
 obtain⟨hl,e⟩:=List.getElem?_eq_some_iff.1 h;rw[List.drop_eq_getElem_cons hl,e];rfl
theorem dhid{p:Prop}(h:p):Hid p:=h
theorem IR.sh{w:World}{v:Value}{us:List Nat}(h:IR w v us):∃ad cap,v=.slice ad us.length cap:=by obtain⟨a,c,h,_⟩:=h;exact⟨a,c,h⟩
theorem RR.node{tN:TypeId}{ad:Option Addr}{ln cap:Nat}{L:List Nd}{w:World}(h:RR tN (.slice ad ln cap) L w){k:Nat}{n:Nd}(hn:L[k]?=some n):∃g adk capk,ad=some ⟨g,0,none⟩∧ln=L.length∧n.kids.length≤1000000000∧(∀j c:Nat,n.kids[j]?=some c→∃gk,adk=some ⟨gk,0,none⟩∧w.cell? ⟨gk,j,none⟩=some (.int .i64 (c:Int)))∧w.cell? ⟨g,k*6,none⟩=some (.int .i64 (n.kind:Int))∧w.cell? ⟨g,k*6+1,none⟩=some (.string ⟨n.key.toArray⟩)∧w.cell? ⟨g,k*6+2,none⟩=some (.string ⟨n.text.toArray⟩)∧w.cell? ⟨g,k*6+3,none⟩=some (.int .i64 n.num)∧w.cell? ⟨g,k*6+4,none⟩=some (.slice adk n.kids.length capk)∧w.cell? ⟨g,k*6+5,none⟩=some (.int .i64 (n.at':Int)):=by
 obtain⟨g,kv,e,⟨adk,capk,hk,hc⟩,hl,c0,c1,c2,c3,c4,c5⟩:=h.at' k n hn;injection e with e1 e2 _;rw[hk]at c4;exact⟨g,adk,capk,e1,e2,hl,hc,c0,c1,c2,c3,c4,c5⟩
theorem RR.cs{tN:TypeId}{g ln cap:Nat}{L:List Nd}{w:World}(h:RR tN (.slice (some ⟨g,0,none⟩) ln cap) L w){k:Nat}{n:Nd}(hn:L[k]?=some n):w.cell? ⟨g,k*6,none⟩=some (.int .i64 (n.kind:Int))∧w.cell? ⟨g,k*6+1,none⟩=some (.string ⟨n.key.toArray⟩)∧w.cell? ⟨g,k*6+2,none⟩=some (.string ⟨n.text.toArray⟩)∧w.cell? ⟨g,k*6+3,none⟩=some (.int .i64 n.num)∧w.cell? ⟨g,k*6+5,none⟩=some (.int .i64 (n.at':Int)):=by
 obtain⟨g',_,_,e,_,_,_,c0,c1,c2,c3,_,c5⟩:=h.node hn;obtain rfl:g=g':=by injection e with e;injection e
 exact⟨c0,c1,c2,c3,c5⟩
theorem bne_key{a b:List UInt8}(h:a≠b):((⟨a.toArray⟩:ByteArray).toList==(⟨b.toArray⟩:ByteArray).toList)=false:=by
 rw[beq_eq_false_iff_ne,ByteArray.toList_eq,ByteArray.toList_eq];simpa using h
set_option maxRecDepth 4000 in
set_option maxHeartbeats 1000000 in
theorem rmemK(v:Value)(L:List Nd)(w:World)(hx:RR 63 v L w)(hW:WFN L)(k:Nat)(n:Nd)(hn:L[k]?=some n)(name:List UInt8):Calls Tryd.prog 18 #[v,.int .i64 (k:Int),.string ⟨name.toArray⟩] w fun r w'=>r=.returned (.int .i64 (memK L name n.kids))∧w'=w:=by
 have hkl:k<L.length:=(List.getElem?_eq_some_iff.1 hn).1;have hlen:=hW.len;have hki:=hW.kids k n hn;obtain⟨ad,cap,rfl⟩:=hx.shape;obtain⟨g,adk,capk,rfl,_,hkb,hkc,c0,c1,c2,c3,c4,c5⟩:=hx.node hn;have HX:=dhid hx;have HKC:=dhid hkc;have HKI:=dhid hki;have k0:(k:Int)<(L.length:Int):=by omega
 have k0b:(k:Int)≤1000000:=by omega
 clear hx hkc hki hn hW c0 c1 c2 c3 c5;go_enter Tryd.func18,Tryd.ntmps18;go_wp2_with fail
 go_loopw [7] (fun iv wr=>∃i:Nat,i≤n.kids.length∧iv=.int .i64 (i:Int)∧wr=w∧Hid (memK L name n.kids=memK L name (n.kids.drop i))) (fun iv _=>n.kids.length-(intOf iv).toNat)
 case atStart=>exact⟨0,by omega,rfl,rfl,rfl⟩
 case round=>
  obtain⟨i,hi,rfl,rfl,hno⟩:=hrel;by_cases hlt:i<n.kids.length
  ·have k1:(i:Int)<(n.kids.length:Int):=by omega
   obtain⟨c,hc⟩:∃c,n.kids[i]?=some c:=⟨_,List.getElem?_eq_getElem hlt⟩;obtain⟨gk,rfl,ck⟩:=HKC.out i c hc;have hcl:=HKI.out c (List.mem_of_getElem? hc);obtain⟨m,hm⟩:∃m,L[c]?=some m:=⟨_,List.getElem?_eq_getElem hcl.2⟩;obtain⟨d0,d1,d2,d3,d5⟩:=HX.out.cs hm;clear d0 d2 d3 d5;have k2:(c:Int)<(L.length:Int):=by omega
   have hst:=memK_step L name n.kids i c hc;rw[ndA_of hm]at hst;clear hc hm;by_cases he:m.key=name
   ·rw[if_pos he]at hst
    have HS:=dhid hst;rw[he]at d1;clear hst he;go_wp2;go_ret;exact⟨by rw[hno.out,HS.out];rfl,rfl⟩
   ·rw[if_neg he]at hst
    have HS:=dhid hst;have he':(m.key==name)=false:=by simp[he]
    clear hst he;go_wp2_with fail
    go_roundw
    case rel=>exact⟨i+1,by omega,by go_num,trivial,by rw[hno.out,HS.out];exact rfl⟩
    case measure=>simp[intOf];omega
  ·have k1:¬(i:Int)<(n.kids.length:Int):=by omega
   go_wp2;go_ret;refine⟨?_,rfl⟩;rw[hno.out,List.drop_of_length_le (by omega)];rfl
end Go.Proofs.YtbllepoagnfjnaaDoor
