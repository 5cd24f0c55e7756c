import Derived.Test.YtbbopknnoamkbaaGreatDoorProg
import Derived.WalkKit
import Derived.WalkSpells
import Derived.WalkLawsBesides
import Derived.Deep.QuietTactic
import Derived.BigQuiet
import Derived.Laws.Rows
import Derived.Laws.AppendOwn
import Derived.Laws.AppendOwnNone
import Derived.Deep.AppendSrc
import Derived.Deep.DeepAppendWide
import Derived.Deep.RegionHeld3
import Derived.KernelRfl
import Derived.Test.YtbbopknnoamkbaaGreatDoorD0
import Derived.Test.YtbbopknnoamkbaaGreatDoorG1
set_option maxHeartbeats 1000000
set_option maxRecDepth 4000
namespace Go.Proofs.YtbbopknnoamkbaaGreatDoor
open Go.RowKit
set_option linter.unusedVariables false
theorem hidd{p:Prop}(h:p):Hid p:=h
def SR(w:World)(v:Value)(zs:List ByteArray):Prop:=
 ∃ad cap,v=.slice ad zs.length cap∧(ad=none→cap=0)∧∀(j:Nat) (z:ByteArray),zs[j]?=some z→∃g off,ad=some ⟨g,off,none⟩∧w.cell? ⟨g,off+j,none⟩=some (.string z)
theorem scell_kp{w w':World}(h:Below w.heap.size w w'){g j:Nat}{u:Value}(hc:w.cell? ⟨g,j,none⟩=some u):w'.cell? ⟨g,j,none⟩=some u:=by
 by_cases hg:g<w.heap.size
 ·have:=h.block g hg
  simp only[World.cell?]at hc ⊢;rw[this];exact hc
 ·have:w.heap[g]?=none:=Array.getElem?_eq_none (by omega)
  simp[World.cell?,this]at hc
theorem SR.keep{w w':World}{v:Value}{zs:List ByteArray}(h:SR w v zs)(hc:∀g j u,w.cell? ⟨g,j,none⟩=some u→w'.cell? ⟨g,j,none⟩=some u):SR w' v zs:=by
 obtain⟨ad,cap,h1,h0,h2⟩:=h;refine⟨ad,cap,h1,h0,fun j k hj=>?_⟩;obtain⟨g,off,a,b⟩:=h2 j k hj;exact⟨g,off,a,hc _ _ _ b⟩
theorem SR.below{w w':World}{v:Value}{zs:List ByteArray}(h:SR w v zs)(hb:Below w.heap.size w w'):SR w' v zs:=h.keep fun g j u hc=>scell_kp hb hc
theorem SR.drewN{w:World}{v:Value}{zs:List ByteArray}(h:SR w v zs)(n:Nat):SR (w.drewN n) v zs:=h.keep fun g j u hc=>by simpa using hc
theorem SR.of{B:Nat}{e:TypeId}{w:World}{v:Value}{zs:List ByteArray}(h:w.ownsRow B e 1 v zs.length (zs.map Value.string)):SR w v zs:=by
 have hadd:∀(g j:Nat),(⟨g,0,none⟩:Addr).add j=⟨g,j,none⟩:=fun g j=>by unfold Addr.add;split<;>simp_all
 rcases h.2 with⟨a,b⟩|⟨g,c,cu,a,_⟩
 ·refine⟨none,0,by rw[a,b],fun _=>rfl,fun j k hj=>?_⟩
  obtain rfl:=List.length_eq_zero_iff.1 b;simp at hj
 ·refine⟨some ⟨g,0,none⟩,c,a,fun h=>(by cases h),fun j k hj=>⟨g,0,rfl,?_⟩⟩
  have:=h.cells (g:=g) (by rw[a];rfl) j (.string k) (by simp[hj]);rw[hadd]at this;rwa [Nat.zero_add]
theorem sbal{a w:World}(h:Below a.heap.size a w)(o:Obj):Below a.heap.size a (w.alloc o):=h.alloc h.size o
theorem sbdN{B:Nat}{a w:World}(h:Below B a w)(n:Nat):Below B a (w.drewN n):=⟨h.os,h.tape,h.output,h.size,h.block⟩
theorem strinfo:(Tryz.prog.info? 9).map (fun i=>(i.zero,i.size,i.bytes))=some (some (.string ByteArray.empty),1,16):=by kernel_rfl
theorem sinfo_parts{o:Option TypeInfo}{z:Value}{a b:Nat}(h:o.map (fun i=>(i.zero,i.size,i.bytes))=some (some z,a,b)):∃i,o=some i∧i.zero=some z∧i.size=a∧i.bytes=b:=by
 cases o with
 | none=>simp at h
 | some i=>simp at h;exact⟨i,rfl,h.1,h.2.1,h.2.2⟩
theorem lnumC(e:Int)(w:World):Calls Tryz.prog 18 #[.int .i64 e] w fun r w'=>r=.returned (.int .i64 e)∧w'=w:=by
 go_enter Tryz.func18,Tryz.ntmps18;go_wp2;go_ret;exact⟨rfl,rfl⟩
theorem SR.shape{w:World}{v:Value}{zs:List ByteArray}(h:SR w v zs):∃ad cap,v=.slice ad zs.length cap:=by
 obtain⟨ad,cap,h,_⟩:=h;exact⟨ad,cap,h⟩
structure C5 (W:World) (b:Nat) (iss:ByteArray) (x:Value) (iat nbf exp:Int):Prop where
 c0:W.cell? ⟨b,0,none⟩=some (.string iss)
 c1:W.cell? ⟨b,1,none⟩=some x
 c2:W.cell? ⟨b,2,none⟩=some (.int .i64 iat)
 c3:W.cell? ⟨b,3,none⟩=some (.int .i64 nbf)
 c4:W.cell? ⟨b,4,none⟩=some (.int .i64 exp)
theorem cell_lw{B:Nat}{W W':World}(hb:Below B W W'){b k:Nat}{v:Value}(hlt:b<B)(h:W.cell? ⟨b,k,none⟩=some v):W'.cell? ⟨b,k,none⟩=some v:=(hb.cell (p:=⟨b,k,none⟩) hlt).trans h
theorem C5.low{B:Nat}{W W':World}{b:Nat}{iss:ByteArray}{x:Value}{iat nbf exp:Int}(h:C5 W b iss x iat nbf exp)(hb:Below B W W')(hlt:b<B):C5 W' b iss x iat nbf exp:=
 ⟨cell_lw hb hlt h.c0,cell_lw hb hlt h.c1,cell_lw hb hlt h.c2,cell_lw hb hlt h.c3,cell_lw hb hlt h.c4⟩
theorem C5.new(W:World)(iss:ByteArray)(x:Value)(iat nbf exp:Int)(t:TypeId):C5 (W.alloc (.cells #[.string iss,x,.int .i64 iat,.int .i64 nbf,.int .i64 exp] t)) W.heap.size iss x iat nbf exp:=
 ⟨by simp,by simp,by simp,by simp,by simp⟩
theorem C5.set{W:World}{b:Nat}{iss:ByteArray}{x:Value}{iat nbf exp:Int}(h:C5 W b iss x iat nbf exp)(y:Value):C5 (W.setCell ⟨b,1,none⟩ y) b iss y iat nbf exp:=
 ⟨(World.cell?_setCell_other _ _ _ _ (by simp)).trans h.c0,World.cell?_setCell_same _ _ _ h.c1,(World.cell?_setCell_other _ _ _ _ (by simp)).trans h.c2,(World.cell?_setCell_other _ _ _ _ (by simp)).trans h.c3,(World.cell?_setCell_other _ _ _ _ (by simp)).trans h.c4⟩
theorem one_cellS(w:World)(y:Value)(e:TypeId):∀(j:Nat) (u:Value),[y][j]?=some u→(w.alloc (.cells #[y] e)).cell? ((⟨w.heap.size,0,none⟩:Addr).add j)=some u:=by
 intro j u h;match j with
 | 0=>simp at h;subst h;simp[Addr.add]
 | j+1=>simp at h
theorem wp_oneStr{P:Program}{ops:Array Oper}{rest:List Oper}{o:Oper}{a:Act}{Q:Exit→Act→World→Prop}(hgd:o.guard=none)(s x:Operand)(t:TypeId)(ho:o.op=.call {callee:=.builtin .append,args:= #[s,x],argTypes:= #[t,t]})
 (e:TypeId) (i:TypeInfo) (ht:P.underlying t=some (.slice e)) (hi:P.info? e=some i) (hz:i.zero=some (.string ByteArray.empty)) (hsize:i.size=1) (hby:i.bytes=16)
 (B:Nat) (v:Value) (xs:List ByteArray) (y:ByteArray) (w0:World) (hs:a.eval s=v) (hown:w0.ownsRow B e 1 v xs.length (xs.map Value.string)) (hB:B≤w0.heap.size) (hlen:xs.length≤8796093022208)
 (hx:a.eval x=.slice (some ⟨w0.heap.size,0,none⟩) 1 1)
 (h:∀v' w',w'.ownsRow B e 1 v' (xs++[y]).length ((xs++[y]).map Value.string)→Below B w0 w'→wpList P ops Q rest (a.put o.dst v') w'):wpList P ops Q (o::rest) a (w0.alloc (.cells #[.string y] e)):=by
 refine wpList_append_own_wide _ hgd s x t ho B e i (.string ByteArray.empty) 1 16 ht hi hz hsize hby rfl (by decide) v xs.length (xs.map Value.string) hs (hown.alloc _) ⟨w0.heap.size,0,none⟩ 1 1 [.string y] hx rfl (one_cellS w0 _ e) (by intro u hu;simp at hu;subst hu;rfl) (by unfold maxLen;omega) (by omega) (by simp;omega) ?_;intro v' w' h1 h2 _;refine h v' w' (by simpa using h1) (((Below.refl B w0).alloc hB _).grown h2 (by simp;omega) ?_);intro k hk;exact(hown.lt k hk).1
theorem row_kp{B:Nat}{e:TypeId}{k:Nat}{v:Value}{n:Nat}{xs:List Value}{w w':World}(h:w.ownsRow B e k v n xs)(hb:Below w.heap.size w w'):w'.ownsRow B e k v n xs:=
 h.kept (row:=none) ⟨hb.os,hb.tape,hb.output,hb.size,fun j hj _=>hb.block j hj⟩ (by cases hv:v.ownBlock<;>simp)
def issS:List UInt8:=[105,115,115]
def audS:List UInt8:=[97,117,100]
def iatS:List UInt8:=[105,97,116]
def nbfS:List UInt8:=[110,98,102]
def expS:List UInt8:=[101,120,112]
def ndA(L:List Nd)(c:Nat):Nd:=match L[c]? with|some n=>n|none=>⟨0,[],[],0,[],0⟩
theorem ndA_of{L:List Nd}{c:Nat}{n:Nd}(h:L[c]?=some n):ndA L c=n:=by unfold ndA;rw[h]
def audF(L:List Nd):List Nat→Int×Int
 | []=>(0,0)
 | c::cs=>if(ndA L c).kind=3 then audF L cs else(6,((ndA L c).at':Int))
def audE(L:List Nd)(n:Nd):Int×Int:=if n.kind=3 then(0,0)else if n.kind=4∧n.kids≠[]then audF L n.kids else(6,(n.at':Int))
def numE(n:Nd):Int×Int:=if n.kind=2 then(if n.num<0 then(3,(n.at':Int))else(0,0))else(6,(n.at':Int))
def issE(n:Nd):Int×Int:=if n.kind=3 then(0,0)else(6,(n.at':Int))
def clmE(L:List Nd)(n:Nd):Int×Int:=if n.key=issS then issE n else if n.key=audS then audE L n else if n.key=iatS∨n.key=nbfS∨n.key=expS then numE n else(0,0)
def allE(L:List Nd):List Nat→Int×Int
 | []=>(0,0)
 | c::cs=>if(clmE L (ndA L c)).1=0 then allE L cs else clmE L (ndA L c)
def memK(L:List Nd)(name:List UInt8):List Nat→Int
 | []=> -1
 | c::cs=>if(ndA L c).key=name then(c:Int)else memK L name cs
def auds(L:List Nd)(n:Nd):List ByteArray:=if n.kind=3 then [⟨n.text.toArray⟩]else n.kids.map fun c=>⟨(ndA L c).text.toArray⟩
structure Cl where
 iss:ByteArray
 aud:List ByteArray
 iat:Int
 nbf:Int
 exp:Int
def cl0:Cl:=⟨⟨#[]⟩,[],0,0,0⟩
def setC(L:List Nd)(n:Nd)(c:Cl):Cl:=
 if n.key=issS then {c with iss:=⟨n.text.toArray⟩}else if n.key=audS then {c with aud:=auds L n}else if n.key=iatS then {c with iat:=n.num}else if n.key=nbfS then {c with nbf:=n.num}else if n.key=expS then {c with exp:=n.num}else c
def allC(L:List Nd):List Nat→Cl→Cl
 | [],c=>c
 | k::ks,c=>allC L ks (setC L (ndA L k) c)
def lackB(L:List Nd)(kids:List Nat):Bool:=decide (memK L issS kids<0∨memK L audS kids<0∨memK L iatS kids<0∨memK L nbfS kids<0∨memK L expS kids<0)
def rdC(L:List Nd):Cl×Int×Int:=
 if(ndA L 0).kind=5 then
  if(allE L (ndA L 0).kids).1=0 then
   if lackB L (ndA L 0).kids=true then(cl0,7,0)else(allC L (ndA L 0).kids cl0,0,0)
  else(cl0,allE L (ndA L 0).kids)
 else(cl0,6,((ndA L 0).at':Int))
theorem audF_step(L:List Nd)(ks:List Nat)(i:Nat)(c:Nat)(h:ks[i]?=some c):audF L (ks.drop i)=if(ndA L c).kind=3 then audF L (ks.drop (i+1))else(6,((ndA L c).at':Int)):=by
 obtain⟨hl,e⟩:=List.getElem?_eq_some_iff.1 h;rw[List.drop_eq_getElem_cons hl,e];rfl
theorem allE_step(L:List Nd)(ks:List Nat)(i:Nat)(c:Nat)(h:ks[i]?=some c):allE L (ks.drop i)=if(clmE L (ndA L c)).1=0 then allE L (ks.drop (i+1))else clmE L (ndA L c):=by
 obtain⟨hl,e⟩:=List.getElem?_eq_some_iff.1 h;rw[List.drop_eq_getElem_cons hl,e];rfl
theorem memK_step(L:List Nd)(name:List UInt8)(ks:List Nat)(i:Nat)(c:Nat)(h:ks[i]?=some c):memK L name (ks.drop i)=if(ndA L c).key=name then(c:Int)else memK L name (ks.drop (i+1)):=by
 obtain⟨hl,e⟩:=List.getElem?_eq_some_iff.1 h;rw[List.drop_eq_getElem_cons hl,e];rfl
theorem allC_step(L:List Nd)(ks:List Nat)(i:Nat)(c:Nat)(x:Cl)(h:ks[i]?=some c):allC L (ks.drop i) x=allC L (ks.drop (i+1)) (setC L (ndA L c) x):=by
 obtain⟨hl,e⟩:=List.getElem?_eq_some_iff.1 h;rw[List.drop_eq_getElem_cons hl,e];rfl
theorem dhid{p:Prop}(h:p):Hid p:=h
theorem IR.sh{w:World}{v:Value}{us:List Nat}(h:IR w v us):∃ad cap,v=.slice ad us.length cap:=by obtain⟨a,c,h,_⟩:=h;exact⟨a,c,h⟩
theorem RR.node{tN:TypeId}{ad:Option Addr}{ln cap:Nat}{L:List Nd}{w:World}(h:RR tN (.slice ad ln cap) L w){k:Nat}{n:Nd}(hn:L[k]?=some n):∃g adk capk,ad=some ⟨g,0,none⟩∧ln=L.length∧n.kids.length≤1000000000∧(∀j c:Nat,n.kids[j]?=some c→∃gk,adk=some ⟨gk,0,none⟩∧w.cell? ⟨gk,j,none⟩=some (.int .i64 (c:Int)))∧w.cell? ⟨g,k*6,none⟩=some (.int .i64 (n.kind:Int))∧w.cell? ⟨g,k*6+1,none⟩=some (.string ⟨n.key.toArray⟩)∧w.cell? ⟨g,k*6+2,none⟩=some (.string ⟨n.text.toArray⟩)∧w.cell? ⟨g,k*6+3,none⟩=some (.int .i64 n.num)∧w.cell? ⟨g,k*6+4,none⟩=some (.slice adk n.kids.length capk)∧w.cell? ⟨g,k*6+5,none⟩=some (.int .i64 (n.at':Int)):=by
 obtain⟨g,kv,e,⟨adk,capk,hk,hc⟩,hl,c0,c1,c2,c3,c4,c5⟩:=h.at' k n hn;injection e with e1 e2 _;rw[hk]at c4;exact⟨g,adk,capk,e1,e2,hl,hc,c0,c1,c2,c3,c4,c5⟩
theorem RR.cs{tN:TypeId}{g ln cap:Nat}{L:List Nd}{w:World}(h:RR tN (.slice (some ⟨g,0,none⟩) ln cap) L w){k:Nat}{n:Nd}(hn:L[k]?=some n):w.cell? ⟨g,k*6,none⟩=some (.int .i64 (n.kind:Int))∧w.cell? ⟨g,k*6+1,none⟩=some (.string ⟨n.key.toArray⟩)∧w.cell? ⟨g,k*6+2,none⟩=some (.string ⟨n.text.toArray⟩)∧w.cell? ⟨g,k*6+3,none⟩=some (.int .i64 n.num)∧w.cell? ⟨g,k*6+5,none⟩=some (.int .i64 (n.at':Int)):=by
 obtain⟨g',_,_,e,_,_,_,c0,c1,c2,c3,_,c5⟩:=h.node hn;obtain rfl:g=g':=by injection e with e;injection e
 exact⟨c0,c1,c2,c3,c5⟩
theorem bne_key{a b:List UInt8}(h:a≠b):((⟨a.toArray⟩:ByteArray).toList==(⟨b.toArray⟩:ByteArray).toList)=false:=by
 rw[beq_eq_false_iff_ne,ByteArray.toList_eq,ByteArray.toList_eq];simpa using h
theorem rmemK(v:Value)(L:List Nd)(w:World)(hx:RR 87 v L w)(hW:WFN L)(k:Nat)(n:Nd)(hn:L[k]?=some n)(name:List UInt8):Calls Tryz.prog 66 #[v,.int .i64 (k:Int),.string ⟨name.toArray⟩] w fun r w'=>r=.returned (.int .i64 (memK L name n.kids))∧w'=w:=by
 have hkl:k<L.length:=(List.getElem?_eq_some_iff.1 hn).1;have hlen:=hW.len;have hki:=hW.kids k n hn;obtain⟨ad,cap,rfl⟩:=hx.shape;obtain⟨g,adk,capk,rfl,_,hkb,hkc,c0,c1,c2,c3,c4,c5⟩:=hx.node hn;have HX:=dhid hx;have HKC:=dhid hkc;have HKI:=dhid hki;have k0:(k:Int)<(L.length:Int):=by omega
 have k0b:(k:Int)≤1000000:=by omega
 clear hx hkc hki hn hW c0 c1 c2 c3 c5;go_enter Tryz.func66,Tryz.ntmps66;go_wp2_with fail
 go_loopw [7] (fun iv wr=>∃i:Nat,i≤n.kids.length∧iv=.int .i64 (i:Int)∧wr=w∧Hid (memK L name n.kids=memK L name (n.kids.drop i))) (fun iv _=>n.kids.length-(intOf iv).toNat)
 case atStart=>exact⟨0,by omega,rfl,rfl,rfl⟩
 case round=>
  obtain⟨i,hi,rfl,rfl,hno⟩:=hrel;by_cases hlt:i<n.kids.length
  ·have k1:(i:Int)<(n.kids.length:Int):=by omega
   obtain⟨c,hc⟩:∃c,n.kids[i]?=some c:=⟨_,List.getElem?_eq_getElem hlt⟩;obtain⟨gk,rfl,ck⟩:=HKC.out i c hc;have hcl:=HKI.out c (List.mem_of_getElem? hc);obtain⟨m,hm⟩:∃m,L[c]?=some m:=⟨_,List.getElem?_eq_getElem hcl.2⟩;obtain⟨d0,d1,d2,d3,d5⟩:=HX.out.cs hm;clear d0 d2 d3 d5;have k2:(c:Int)<(L.length:Int):=by omega
   have hst:=memK_step L name n.kids i c hc;rw[ndA_of hm]at hst;clear hc hm;by_cases he:m.key=name
   ·rw[if_pos he]at hst
    have HS:=dhid hst;rw[he]at d1;clear hst he;go_wp2;go_ret;exact⟨by rw[hno.out,HS.out];rfl,rfl⟩
   ·rw[if_neg he]at hst
    have HS:=dhid hst;have he':(m.key==name)=false:=by simp[he]
    clear hst he;go_wp2_with fail
    go_roundw
    case rel=>exact⟨i+1,by omega,by go_num,trivial,by rw[hno.out,HS.out];exact rfl⟩
    case measure=>simp[intOf];omega
  ·have k1:¬(i:Int)<(n.kids.length:Int):=by omega
   go_wp2;go_ret;refine⟨?_,rfl⟩;rw[hno.out,List.drop_of_length_le (by omega)];rfl
theorem dbal{a w:World}(h:Below a.heap.size a w)(o:Obj):Below a.heap.size a (w.alloc o):=h.alloc h.size o
theorem dbN{B:Nat}{a w:World}(h:Below B a w)(n:Nat):Below B a (w.drewN n):=⟨h.os,h.tape,h.output,h.size,h.block⟩
theorem rwrongAud(v:Value)(L:List Nd)(w:World)(hx:RR 87 v L w)(hW:WFN L)(k:Nat)(n:Nd)(hn:L[k]?=some n):Calls Tryz.prog 65 #[v,.int .i64 (k:Int)] w fun r w'=>r=.returned (.tuple #[.int .i64 (audE L n).1,.int .i64 (audE L n).2])∧Below w.heap.size w w':=by
 have hkl:k<L.length:=(List.getElem?_eq_some_iff.1 hn).1;have hlen:=hW.len;have hki:=hW.kids k n hn;obtain⟨ad,cap,rfl⟩:=hx.shape;obtain⟨g,adk,capk,rfl,_,hkb,hkc,c0,c1,c2,c3,c4,c5⟩:=hx.node hn;have HX:=dhid hx;have HKC:=dhid hkc;have HKI:=dhid hki;have k0:(k:Int)<(L.length:Int):=by omega
 have k0b:(k:Int)≤1000000:=by omega
 have hglt:g<w.heap.size:=World.block_lt_of_cell? w _ c0;clear hx hkc hki hn hW;by_cases h3:n.kind=3
 ·have e:audE L n=(0,0):=by unfold audE;rw[if_pos h3]
  rw[e];have k3:((n.kind:Int)==3)=true:=by simp[h3]
  rw[h3]at c0;clear e h3 k3;go_enter Tryz.func65,Tryz.ntmps65;go_wp2;go_ret2
  exact⟨rfl,dbal (Below.refl _ _) _⟩
 ·have k3:((n.kind:Int)==3)=false:=by simp;omega
  by_cases h4:n.kind=4∧n.kids≠[]
  ·have e:audE L n=audF L n.kids:=by unfold audE;rw[if_neg h3,if_pos h4]
   rw[e];have k5:((n.kids.length:Int)==0)=false:=by have:=h4.2;simp[this]
   rw[h4.1]at c0;have h5:n.kids.length≠0:=by have:=h4.2;simpa using this
   clear e h3 k3 h4;go_enter Tryz.func65,Tryz.ntmps65;go_wp2_with fail
   have hB:=dbal (Below.refl w.heap.size w) (.cells #[.int .i64 4,.string ⟨n.key.toArray⟩,.string ⟨n.text.toArray⟩,.int .i64 n.num,.slice adk n.kids.length capk,.int .i64 (n.at':Int)] 87);have b4:(w.alloc (.cells #[.int .i64 4,.string ⟨n.key.toArray⟩,.string ⟨n.text.toArray⟩,.int .i64 n.num,.slice adk n.kids.length capk,.int .i64 (n.at':Int)] 87)).cell? ⟨w.heap.size,4,none⟩=some (.slice adk n.kids.length capk):=by simp
   have HB:=dhid hB;have HX2:=dhid (HX.out.below hB);have HKC2:Hid (∀j c:Nat,n.kids[j]?=some c→∃gk,adk=some ⟨gk,0,none⟩∧(w.alloc (.cells #[.int .i64 4,.string ⟨n.key.toArray⟩,.string ⟨n.text.toArray⟩,.int .i64 n.num,.slice adk n.kids.length capk,.int .i64 (n.at':Int)] 87)).cell? ⟨gk,j,none⟩=some (.int .i64 (c:Int))):=fun j c hj=>by
    obtain⟨gk,h1,h2⟩:=HKC.out j c hj;exact⟨gk,h1,cell_kp hB h2⟩
   clear hB c0 c1 c2 c3 c4 c5 HKC HX;generalize w.alloc (.cells #[.int .i64 4,.string ⟨n.key.toArray⟩,.string ⟨n.text.toArray⟩,.int .i64 n.num,.slice adk n.kids.length capk,.int .i64 (n.at':Int)] 87)=W at *;go_loopw [7] (fun iv wr=>∃i q:Nat,i≤n.kids.length∧iv=.int .i64 (i:Int)∧wr=W.drewN q∧Hid (audF L n.kids=audF L (n.kids.drop i))) (fun iv _=>n.kids.length-(intOf iv).toNat)
   case atStart=>exact⟨0,0,by omega,rfl,rfl,rfl⟩
   case round=>
    obtain⟨i,q,hi,rfl,rfl,hno⟩:=hrel;by_cases hlt:i<n.kids.length
    ·have k1:(i:Int)<(n.kids.length:Int):=by omega
     obtain⟨c,hc⟩:∃c,n.kids[i]?=some c:=⟨_,List.getElem?_eq_getElem hlt⟩;obtain⟨gk,rfl,ck⟩:=HKC2.out i c hc;have hcl:=HKI.out c (List.mem_of_getElem? hc);obtain⟨m,hm⟩:∃m,L[c]?=some m:=⟨_,List.getElem?_eq_getElem hcl.2⟩;obtain⟨d0,d1,d2,d3,d5⟩:=HX2.out.cs hm;have k2:(c:Int)<(L.length:Int):=by omega
     have k2b:(c:Int)≤1000000:=by omega
     have hst:=audF_step L n.kids i c hc;rw[ndA_of hm]at hst;clear hc hm d1 d2 d3;by_cases he:m.kind=3
     ·rw[if_pos he]at hst
      have HS:=dhid hst;rw[he]at d0;clear hst he d5;go_wp2_with fail
      go_roundw
      case rel=>exact⟨i+1,q,by omega,by go_num,rfl,by rw[hno.out,HS.out];exact rfl⟩
      case measure=>simp[intOf];omega
     ·rw[if_neg he]at hst
      have HS:=dhid hst;have he':((m.kind:Int)==3)=false:=by simp;omega
      have he2:((m.kind:Int) != 3)=true:=by simp;omega
      clear hst he;go_wp2_with fail
      go_quiet (fail);go_wp2_with fail
      go_ret2
      exact⟨by rw[hno.out,HS.out];rfl,dbN (dbN HB.out _) _⟩
    ·have k1:¬(i:Int)<(n.kids.length:Int):=by omega
     go_wp2;go_ret2
     refine⟨?_,dbN HB.out _⟩;rw[hno.out,List.drop_of_length_le (by omega)];rfl
  ·have e:audE L n=(6,(n.at':Int)):=by unfold audE;rw[if_neg h3,if_neg h4]
   rw[e];by_cases h5:n.kind=4
   ·have h6:n.kids=[]:=by
     by_cases h:n.kids=[]
     ·exact h
     ·exact absurd ⟨h5,h⟩ h4
    have h7:n.kids.length=0:=by rw[h6];rfl
    rw[h5]at c0;rw[h7]at c4;clear e h3 k3 h4 h5 h6 h7;go_enter Tryz.func65,Tryz.ntmps65;go_wp2_with fail
    go_quiet (fail);go_wp2_with fail
    go_ret2
    exact⟨rfl,dbN (dbal (Below.refl _ _) _) _⟩
   ·have k4:((n.kind:Int)==4)=false:=by simp;omega
    have k5:((n.kind:Int) != 4)=true:=by simp;omega
    clear e h3 h4 h5;go_enter Tryz.func65,Tryz.ntmps65;go_wp2_with fail
    go_quiet (fail);go_wp2_with fail
    go_ret2
    exact⟨rfl,dbN (dbal (Below.refl _ _) _) _⟩
def refE(L:List Nd)(n:Nd):Int×Int:=if n.key=issS∨n.key=iatS∨n.key=nbfS∨n.key=expS then(4,(n.at':Int))else if n.key=audS then audE L n else(0,0)
def refA(L:List Nd):List Nat→Int×Int
 | []=>(0,0)
 | c::cs=>if(refE L (ndA L c)).1=0 then refA L cs else refE L (ndA L c)
theorem refA_step(L:List Nd)(ks:List Nat)(i:Nat)(c:Nat)(h:ks[i]?=some c):refA L (ks.drop i)=if(refE L (ndA L c)).1=0 then refA L (ks.drop (i+1))else refE L (ndA L c):=by
 obtain⟨hl,e⟩:=List.getElem?_eq_some_iff.1 h;rw[List.drop_eq_getElem_cons hl,e];rfl
theorem refA_none(L:List Nd):∀ks:List Nat,(refA L ks).1=0→∀c∈ks,¬((ndA L c).key=issS∨(ndA L c).key=iatS∨(ndA L c).key=nbfS∨(ndA L c).key=expS)
 | [],_,c,hc=>by simp at hc
 | k::ks,h,c,hc=>by
   rw[refA]at h;by_cases he:(refE L (ndA L k)).1=0
   ·rw[if_pos he]at h
    rcases List.mem_cons.1 hc with rfl|hc
    ·intro hn
     rw[refE,if_pos hn]at he;simp at he
    ·exact refA_none L ks h c hc
   ·rw[if_neg he]at h;exact absurd h he
end Go.Proofs.YtbbopknnoamkbaaGreatDoor
