import Derived.Test.YtfhjjbgjoclanafProg
import Derived.WalkKit
import Derived.WalkSpells
import Derived.WalkLawsBesides
import Derived.Deep.QuietTactic
import Derived.BigQuiet
import Derived.Laws.Rows
import Derived.Laws.AppendOwn
import Derived.Laws.AppendOwnNone
import Derived.Deep.AppendSrc
import Derived.Deep.DeepAppendWide
import Derived.Deep.RegionHeld3
import Derived.KernelRfl
set_option maxHeartbeats 400000
namespace Go.Proofs.Ytfhjjbgjoclanaf
open Go.RowKit
set_option linter.unusedVariables false
theorem hidd{p:Prop}(h:p):Hid p:=h
def SR(w:World)(v:Value)(zs:List ByteArray):Prop:=
 ∃ad cap,v=.slice ad zs.length cap∧(ad=none→cap=0)∧∀(j:Nat) (z:ByteArray),zs[j]?=some z→∃g off,ad=some ⟨g,off,none⟩∧w.cell? ⟨g,off+j,none⟩=some (.string z)
theorem scell_kp{w w':World}(h:Below w.heap.size w w'){g j:Nat}{u:Value}(hc:w.cell? ⟨g,j,none⟩=some u):w'.cell? ⟨g,j,none⟩=some u:=by
 by_cases hg:g<w.heap.size
 ·have:=h.block g hg
  simp only[World.cell?]at hc ⊢;rw[this];exact hc
 ·have:w.heap[g]?=none:=Array.getElem?_eq_none (by omega)
  simp[World.cell?,this]at hc
theorem SR.keep{w w':World}{v:Value}{zs:List ByteArray}(h:SR w v zs)(hc:∀g j u,w.cell? ⟨g,j,none⟩=some u→w'.cell? ⟨g,j,none⟩=some u):SR w' v zs:=by
 obtain⟨ad,cap,h1,h0,h2⟩:=h;refine⟨ad,cap,h1,h0,fun j k hj=>?_⟩;obtain⟨g,off,a,b⟩:=h2 j k hj;exact⟨g,off,a,hc _ _ _ b⟩
theorem SR.below{w w':World}{v:Value}{zs:List ByteArray}(h:SR w v zs)(hb:Below w.heap.size w w'):SR w' v zs:=h.keep fun g j u hc=>scell_kp hb hc
theorem SR.drewN{w:World}{v:Value}{zs:List ByteArray}(h:SR w v zs)(n:Nat):SR (w.drewN n) v zs:=h.keep fun g j u hc=>by simpa using hc
theorem SR.of{B:Nat}{e:TypeId}{w:World}{v:Value}{zs:List ByteArray}(h:w.ownsRow B e 1 v zs.length (zs.map Value.string)):SR w v zs:=by
 have hadd:∀(g j:Nat),(⟨g,0,none⟩:Addr).add j=⟨g,j,none⟩:=fun g j=>by unfold Addr.add;split<;>simp_all
 rcases h.2 with⟨a,b⟩|⟨g,c,cu,a,_⟩
 ·refine⟨none,0,by rw[a,b],fun _=>rfl,fun j k hj=>?_⟩
  obtain rfl:=List.length_eq_zero_iff.1 b;simp at hj
 ·refine⟨some ⟨g,0,none⟩,c,a,fun h=>(by cases h),fun j k hj=>⟨g,0,rfl,?_⟩⟩
  have:=h.cells (g:=g) (by rw[a];rfl) j (.string k) (by simp[hj]);rw[hadd]at this;rwa [Nat.zero_add]
theorem sbal{a w:World}(h:Below a.heap.size a w)(o:Obj):Below a.heap.size a (w.alloc o):=h.alloc h.size o
theorem sbdN{B:Nat}{a w:World}(h:Below B a w)(n:Nat):Below B a (w.drewN n):=⟨h.os,h.tape,h.output,h.size,h.block⟩
theorem strinfo:(Try.prog.info? 9).map (fun i=>(i.zero,i.size,i.bytes))=some (some (.string ByteArray.empty),1,16):=by kernel_rfl
theorem sinfo_parts{o:Option TypeInfo}{z:Value}{a b:Nat}(h:o.map (fun i=>(i.zero,i.size,i.bytes))=some (some z,a,b)):∃i,o=some i∧i.zero=some z∧i.size=a∧i.bytes=b:=by
 cases o with
 | none=>simp at h
 | some i=>simp at h;exact⟨i,rfl,h.1,h.2.1,h.2.2⟩
theorem ltexts(x y:Value)(zs:List ByteArray)(w:World)(hx:SR w x zs)(hy:SR w y zs)(hl:zs.length≤140737488355328):Calls Try.prog 11 #[x,y] w fun r w'=>r=.returned (.bool true)∧Below w.heap.size w w':=by
 obtain⟨ad,cap,rfl,_,hx⟩:=hx;obtain⟨bd,cbp,rfl,_,hy⟩:=hy;have HX:=hidd hx;have HY:=hidd hy;clear hx hy;go_enter Try.func11,Try.ntmps11;go_wp2_with fail
 go_loopw [5] (fun iv wr=>∃i n:Nat,i≤zs.length∧iv=.int .i64 (i:Int)∧wr=w.drewN n) (fun iv _=>zs.length-(intOf iv).toNat)
 case atStart=>exact⟨0,0,by omega,rfl,rfl⟩
 case round=>
  obtain⟨i,n,hi,rfl,rfl⟩:=hrel;by_cases hlt:i<zs.length
  ·have k1:(i:Int)<(zs.length:Int):=by omega
   obtain⟨z,hz⟩:∃z,zs[i]?=some z:=⟨_,List.getElem?_eq_getElem hlt⟩;obtain⟨g,off,rfl,c1⟩:=HX.out i z hz;obtain⟨g2,off2,rfl,c2⟩:=HY.out i z hz;clear hz;go_wp2_with fail
   go_quiet (fail);go_wp2_with fail
   go_roundw
   case rel=>exact⟨i+1,n+nq,by omega,by go_num,by simp⟩
   case measure=>simp[intOf];omega
  ·have k1:¬(i:Int)<(zs.length:Int):=by omega
   go_wp2;go_ret;exact⟨rfl,sbdN (Below.refl _ _) n⟩
theorem lnumC(e:Int)(w:World):Calls Try.prog 8 #[.int .i64 e] w fun r w'=>r=.returned (.int .i64 e)∧w'=w:=by
 go_enter Try.func8,Try.ntmps8;go_wp2;go_ret;exact⟨rfl,rfl⟩
end Go.Proofs.Ytfhjjbgjoclanaf
