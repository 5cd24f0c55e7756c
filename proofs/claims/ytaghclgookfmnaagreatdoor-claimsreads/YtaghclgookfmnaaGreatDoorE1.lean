import Derived.Test.YtaghclgookfmnaaGreatDoorProg
import Derived.WalkKit
import Derived.WalkSpells
import Derived.WalkLawsBesides
import Derived.Deep.QuietTactic
import Derived.BigQuiet
import Derived.Laws.Rows
import Derived.Laws.AppendOwn
import Derived.Laws.AppendOwnNone
import Derived.Deep.AppendSrc
import Derived.Deep.DeepAppendWide
import Derived.Deep.RegionHeld3
import Derived.KernelRfl
set_option maxHeartbeats 1000000
namespace Go.Proofs.YtaghclgookfmnaaGreatDoor
open Go.RowKit
set_option linter.unusedVariables false
theorem hidd{p:Prop}(h:p):Hid p:=h
def SR(w:World)(v:Value)(zs:List ByteArray):Prop:=
 ∃ad cap,v=.slice ad zs.length cap∧(ad=none→cap=0)∧∀(j:Nat) (z:ByteArray),zs[j]?=some z→∃g off,ad=some ⟨g,off,none⟩∧w.cell? ⟨g,off+j,none⟩=some (.string z)
theorem scell_kp{w w':World}(h:Below w.heap.size w w'){g j:Nat}{u:Value}(hc:w.cell? ⟨g,j,none⟩=some u):w'.cell? ⟨g,j,none⟩=some u:=by
 by_cases hg:g<w.heap.size
 ·have:=h.block g hg
  simp only[World.cell?]at hc ⊢;rw[this];exact hc
 ·have:w.heap[g]?=none:=Array.getElem?_eq_none (by omega)
  simp[World.cell?,this]at hc
theorem SR.keep{w w':World}{v:Value}{zs:List ByteArray}(h:SR w v zs)(hc:∀g j u,w.cell? ⟨g,j,none⟩=some u→w'.cell? ⟨g,j,none⟩=some u):SR w' v zs:=by
 obtain⟨ad,cap,h1,h0,h2⟩:=h;refine⟨ad,cap,h1,h0,fun j k hj=>?_⟩;obtain⟨g,off,a,b⟩:=h2 j k hj;exact⟨g,off,a,hc _ _ _ b⟩
theorem SR.below{w w':World}{v:Value}{zs:List ByteArray}(h:SR w v zs)(hb:Below w.heap.size w w'):SR w' v zs:=h.keep fun g j u hc=>scell_kp hb hc
theorem SR.drewN{w:World}{v:Value}{zs:List ByteArray}(h:SR w v zs)(n:Nat):SR (w.drewN n) v zs:=h.keep fun g j u hc=>by simpa using hc
theorem SR.of{B:Nat}{e:TypeId}{w:World}{v:Value}{zs:List ByteArray}(h:w.ownsRow B e 1 v zs.length (zs.map Value.string)):SR w v zs:=by
 have hadd:∀(g j:Nat),(⟨g,0,none⟩:Addr).add j=⟨g,j,none⟩:=fun g j=>by unfold Addr.add;split<;>simp_all
 rcases h.2 with⟨a,b⟩|⟨g,c,cu,a,_⟩
 ·refine⟨none,0,by rw[a,b],fun _=>rfl,fun j k hj=>?_⟩
  obtain rfl:=List.length_eq_zero_iff.1 b;simp at hj
 ·refine⟨some ⟨g,0,none⟩,c,a,fun h=>(by cases h),fun j k hj=>⟨g,0,rfl,?_⟩⟩
  have:=h.cells (g:=g) (by rw[a];rfl) j (.string k) (by simp[hj]);rw[hadd]at this;rwa [Nat.zero_add]
theorem sbal{a w:World}(h:Below a.heap.size a w)(o:Obj):Below a.heap.size a (w.alloc o):=h.alloc h.size o
theorem sbdN{B:Nat}{a w:World}(h:Below B a w)(n:Nat):Below B a (w.drewN n):=⟨h.os,h.tape,h.output,h.size,h.block⟩
theorem strinfo:(Tryz.prog.info? 9).map (fun i=>(i.zero,i.size,i.bytes))=some (some (.string ByteArray.empty),1,16):=by kernel_rfl
theorem sinfo_parts{o:Option TypeInfo}{z:Value}{a b:Nat}(h:o.map (fun i=>(i.zero,i.size,i.bytes))=some (some z,a,b)):∃i,o=some i∧i.zero=some z∧i.size=a∧i.bytes=b:=by
 cases o with
 | none=>simp at h
 | some i=>simp at h;exact⟨i,rfl,h.1,h.2.1,h.2.2⟩
theorem ltexts(x y:Value)(zs:List ByteArray)(w:World)(hx:SR w x zs)(hy:SR w y zs)(hl:zs.length≤140737488355328):Calls Tryz.prog 15 #[x,y] w fun r w'=>r=.returned (.bool true)∧Below w.heap.size w w':=by
 obtain⟨ad,cap,rfl,_,hx⟩:=hx;obtain⟨bd,cbp,rfl,_,hy⟩:=hy;have HX:=hidd hx;have HY:=hidd hy;clear hx hy;go_enter Tryz.func15,Tryz.ntmps15;go_wp2_with fail
 go_loopw [5] (fun iv wr=>∃i n:Nat,i≤zs.length∧iv=.int .i64 (i:Int)∧wr=w.drewN n) (fun iv _=>zs.length-(intOf iv).toNat)
 case atStart=>exact⟨0,0,by omega,rfl,rfl⟩
 case round=>
  obtain⟨i,n,hi,rfl,rfl⟩:=hrel;by_cases hlt:i<zs.length
  ·have k1:(i:Int)<(zs.length:Int):=by omega
   obtain⟨z,hz⟩:∃z,zs[i]?=some z:=⟨_,List.getElem?_eq_getElem hlt⟩;obtain⟨g,off,rfl,c1⟩:=HX.out i z hz;obtain⟨g2,off2,rfl,c2⟩:=HY.out i z hz;clear hz;go_wp2_with fail
   go_quiet (fail);go_wp2_with fail
   go_roundw
   case rel=>exact⟨i+1,n+nq,by omega,by go_num,by simp⟩
   case measure=>simp[intOf];omega
  ·have k1:¬(i:Int)<(zs.length:Int):=by omega
   go_wp2;go_ret;exact⟨rfl,sbdN (Below.refl _ _) n⟩
theorem lnumC(e:Int)(w:World):Calls Tryz.prog 7 #[.int .i64 e] w fun r w'=>r=.returned (.int .i64 e)∧w'=w:=by
 go_enter Tryz.func7,Tryz.ntmps7;go_wp2;go_ret;exact⟨rfl,rfl⟩
theorem SR.shape{w:World}{v:Value}{zs:List ByteArray}(h:SR w v zs):∃ad cap,v=.slice ad zs.length cap:=by
 obtain⟨ad,cap,h,_⟩:=h;exact⟨ad,cap,h⟩
set_option maxRecDepth 4000 in
theorem lsameC(iss:ByteArray)(x y:Value)(zs:List ByteArray)(iat nbf exp:Int)(w:World)(hx:SR w x zs)(hy:SR w y zs)(hl:zs.length≤8796093022208):Calls Tryz.prog 6 #[.agg #[.string iss,x,.int .i64 iat,.int .i64 nbf,.int .i64 exp],.agg #[.string iss,y,.int .i64 iat,.int .i64 nbf,.int .i64 exp]] w fun r w'=>r=.returned (.bool true)∧Below w.heap.size w w':=by
 have htx:=fun w1 (b1:Below w.heap.size w w1)=>ltexts x y zs w1 (hx.below b1) (hy.below b1) (by omega)
 have HT:=hidd htx;clear hx hy htx;go_enter Tryz.func6,Tryz.ntmps6;go_wp2_with fail
 refine(HT.out _ (sbal (sbal (Below.refl _ _) _) _)).mono ?_;rintro r w1 ⟨rfl,hb⟩;have c0:w1.cell? ⟨w.heap.size,0,none⟩=some (.string iss):=scell_kp hb (by simp);have c2:w1.cell? ⟨w.heap.size,2,none⟩=some (.int .i64 iat):=scell_kp hb (by simp);have c3:w1.cell? ⟨w.heap.size,3,none⟩=some (.int .i64 nbf):=scell_kp hb (by simp);have c4:w1.cell? ⟨w.heap.size,4,none⟩=some (.int .i64 exp):=scell_kp hb (by simp);have d0:w1.cell? ⟨w.heap.size+1,0,none⟩=some (.string iss):=scell_kp hb (by simp);have d2:w1.cell? ⟨w.heap.size+1,2,none⟩=some (.int .i64 iat):=scell_kp hb (by simp);have d3:w1.cell? ⟨w.heap.size+1,3,none⟩=some (.int .i64 nbf):=scell_kp hb (by simp);have d4:w1.cell? ⟨w.heap.size+1,4,none⟩=some (.int .i64 exp):=scell_kp hb (by simp);have HB:=hidd ((sbal (sbal (Below.refl w.heap.size w) _) _).trans (hb.mono (by simp;omega)));clear hb;go_wp2;go_ret;exact⟨rfl,HB.out⟩
structure C5 (W:World) (b:Nat) (iss:ByteArray) (x:Value) (iat nbf exp:Int):Prop where
 c0:W.cell? ⟨b,0,none⟩=some (.string iss)
 c1:W.cell? ⟨b,1,none⟩=some x
 c2:W.cell? ⟨b,2,none⟩=some (.int .i64 iat)
 c3:W.cell? ⟨b,3,none⟩=some (.int .i64 nbf)
 c4:W.cell? ⟨b,4,none⟩=some (.int .i64 exp)
theorem cell_lw{B:Nat}{W W':World}(hb:Below B W W'){b k:Nat}{v:Value}(hlt:b<B)(h:W.cell? ⟨b,k,none⟩=some v):W'.cell? ⟨b,k,none⟩=some v:=(hb.cell (p:=⟨b,k,none⟩) hlt).trans h
theorem C5.low{B:Nat}{W W':World}{b:Nat}{iss:ByteArray}{x:Value}{iat nbf exp:Int}(h:C5 W b iss x iat nbf exp)(hb:Below B W W')(hlt:b<B):C5 W' b iss x iat nbf exp:=
 ⟨cell_lw hb hlt h.c0,cell_lw hb hlt h.c1,cell_lw hb hlt h.c2,cell_lw hb hlt h.c3,cell_lw hb hlt h.c4⟩
theorem C5.new(W:World)(iss:ByteArray)(x:Value)(iat nbf exp:Int)(t:TypeId):C5 (W.alloc (.cells #[.string iss,x,.int .i64 iat,.int .i64 nbf,.int .i64 exp] t)) W.heap.size iss x iat nbf exp:=
 ⟨by simp,by simp,by simp,by simp,by simp⟩
theorem C5.set{W:World}{b:Nat}{iss:ByteArray}{x:Value}{iat nbf exp:Int}(h:C5 W b iss x iat nbf exp)(y:Value):C5 (W.setCell ⟨b,1,none⟩ y) b iss y iat nbf exp:=
 ⟨(World.cell?_setCell_other _ _ _ _ (by simp)).trans h.c0,World.cell?_setCell_same _ _ _ h.c1,(World.cell?_setCell_other _ _ _ _ (by simp)).trans h.c2,(World.cell?_setCell_other _ _ _ _ (by simp)).trans h.c3,(World.cell?_setCell_other _ _ _ _ (by simp)).trans h.c4⟩
theorem one_cellS(w:World)(y:Value)(e:TypeId):∀(j:Nat) (u:Value),[y][j]?=some u→(w.alloc (.cells #[y] e)).cell? ((⟨w.heap.size,0,none⟩:Addr).add j)=some u:=by
 intro j u h;match j with
 | 0=>simp at h;subst h;simp[Addr.add]
 | j+1=>simp at h
theorem wp_oneStr{P:Program}{ops:Array Oper}{rest:List Oper}{o:Oper}{a:Act}{Q:Exit→Act→World→Prop}(hgd:o.guard=none)(s x:Operand)(t:TypeId)(ho:o.op=.call {callee:=.builtin .append,args:= #[s,x],argTypes:= #[t,t]})
 (e:TypeId) (i:TypeInfo) (ht:P.underlying t=some (.slice e)) (hi:P.info? e=some i) (hz:i.zero=some (.string ByteArray.empty)) (hsize:i.size=1) (hby:i.bytes=16)
 (B:Nat) (v:Value) (xs:List ByteArray) (y:ByteArray) (w0:World) (hs:a.eval s=v) (hown:w0.ownsRow B e 1 v xs.length (xs.map Value.string)) (hB:B≤w0.heap.size) (hlen:xs.length≤8796093022208)
 (hx:a.eval x=.slice (some ⟨w0.heap.size,0,none⟩) 1 1)
 (h:∀v' w',w'.ownsRow B e 1 v' (xs++[y]).length ((xs++[y]).map Value.string)→Below B w0 w'→wpList P ops Q rest (a.put o.dst v') w'):wpList P ops Q (o::rest) a (w0.alloc (.cells #[.string y] e)):=by
 refine wpList_append_own_wide _ hgd s x t ho B e i (.string ByteArray.empty) 1 16 ht hi hz hsize hby rfl (by decide) v xs.length (xs.map Value.string) hs (hown.alloc _) ⟨w0.heap.size,0,none⟩ 1 1 [.string y] hx rfl (one_cellS w0 _ e) (by intro u hu;simp at hu;subst hu;rfl) (by unfold maxLen;omega) (by omega) (by simp;omega) ?_;intro v' w' h1 h2 _;refine h v' w' (by simpa using h1) (((Below.refl B w0).alloc hB _).grown h2 (by simp;omega) ?_);intro k hk;exact(hown.lt k hk).1
theorem row_kp{B:Nat}{e:TypeId}{k:Nat}{v:Value}{n:Nat}{xs:List Value}{w w':World}(h:w.ownsRow B e k v n xs)(hb:Below w.heap.size w w'):w'.ownsRow B e k v n xs:=
 h.kept (row:=none) ⟨hb.os,hb.tape,hb.output,hb.size,fun j hj _=>hb.block j hj⟩ (by cases hv:v.ownBlock<;>simp)
end Go.Proofs.YtaghclgookfmnaaGreatDoor
