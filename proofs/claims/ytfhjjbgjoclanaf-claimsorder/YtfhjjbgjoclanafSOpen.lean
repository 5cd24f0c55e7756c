import Derived.Test.YtfhjjbgjoclanafSRow
import Derived.ProofKit
import Derived.OpenShut
import Derived.ShutString
import Derived.ChangeOld
import Derived.Below
import Derived.SizedLaws
import Derived.SliceStrings
import Derived.Lib.SmallJoins
namespace Go.Proofs.Ytfhjjbgjoclanaf
open Go.ChangeShapes Go.WideShapes Go.ChangeAt Go.RowKit Go.Joins Go.Deep
set_option linter.unusedVariables false
theorem array5{α:Type}{cs:Array α}(h:cs.size=5):∃c0 c1 c2 c3 c4,cs= #[c0,c1,c2,c3,c4]:=by
 obtain⟨l⟩:=cs;match l,h with
 | [c0,c1,c2,c3,c4],_=>exact⟨c0,c1,c2,c3,c4,rfl⟩
section
variable {H:Type} {enc:TypeId×Value→H} {P:Program} {w:World} {base:Nat} {spare:Nat→Bool} {held:Bool}
theorem trod_struct5{t:TypeId}{f0 f1 f2 f3 f4:Field}{fuel:Nat}{cs:List Value}{x:DataW H×List MemPlace}(ht:P.underlying t=some (.struct #[f0,f1,f2,f3,f4]))(h:DataW.trod enc P w base spare held fuel t cs=some x):∃y0 y1 y2 y3 y4 n,x=(.agg [y0.1,y1.1,y2.1,y3.1,y4.1],y0.2++(y1.2++(y2.2++(y3.2++y4.2))))∧cs.length=P.cellsOf t∧DataW.trod enc P w base spare held n f0.type ((cs.drop f0.offset).take (P.cellsOf f0.type))=some y0∧DataW.trod enc P w base spare held n f1.type ((cs.drop f1.offset).take (P.cellsOf f1.type))=some y1∧DataW.trod enc P w base spare held n f2.type ((cs.drop f2.offset).take (P.cellsOf f2.type))=some y2∧DataW.trod enc P w base spare held n f3.type ((cs.drop f3.offset).take (P.cellsOf f3.type))=some y3∧DataW.trod enc P w base spare held n f4.type ((cs.drop f4.offset).take (P.cellsOf f4.type))=some y4:=by
 obtain⟨xs,n,_,rfl,hl,hlen,hf⟩:=DataW.trod_struct ht h;match xs,hlen with
 | [y0,y1,y2,y3,y4],_=>exact⟨y0,y1,y2,y3,y4,n,by simp,hl,by simpa using hf 0 f0 rfl,by simpa using hf 1 f1 rfl,by simpa using hf 2 f2 rfl,by simpa using hf 3 f3 rfl,by simpa using hf 4 f4 rfl⟩
theorem open_agg5{r:Reach}{b0:Nat}{t:TypeId}{f0 f1 f2 f3 f4:Field}{v:Value}{d:DataW H}{p:List MemPlace}(hs:P.underlying t=some (.struct #[f0,f1,f2,f3,f4]))(hone:oneCellFields P #[f0,f1,f2,f3,f4]=true)(hC:P.cellsOf t=5)(hv:Value.okWide P w r b0 t v)(h:DataW.Trod enc P w base spare held t v d p):∃(v0 v1 v2 v3 v4:Value) (y0 y1 y2 y3 y4:DataW H×List MemPlace) (n:Nat),v=.agg #[v0,v1,v2,v3,v4]∧d=.agg [y0.1,y1.1,y2.1,y3.1,y4.1]∧DataW.trod enc P w base spare held n f0.type [v0]=some y0∧DataW.trod enc P w base spare held n f1.type [v1]=some y1∧DataW.trod enc P w base spare held n f2.type [v2]=some y2∧DataW.trod enc P w base spare held n f3.type [v3]=some y3∧DataW.trod enc P w base spare held n f4.type [v4]=some y4:=by
 obtain⟨cs,rfl,hsz⟩:=okWide_struct hs hv;obtain⟨c0,c1,c2,c3,c4,rfl⟩:=array5 (hsz.trans hC);obtain⟨fuel,hf⟩:=h;obtain⟨y0,y1,y2,y3,y4,n,hx,_,h0,h1,h2,h3,h4⟩:=trod_struct5 hs hf;obtain⟨o0,k0⟩:=hone_of hone 0 f0 rfl;obtain⟨o1,k1⟩:=hone_of hone 1 f1 rfl;obtain⟨o2,k2⟩:=hone_of hone 2 f2 rfl;obtain⟨o3,k3⟩:=hone_of hone 3 f3 rfl;obtain⟨o4,k4⟩:=hone_of hone 4 f4 rfl;simp only[Prod.mk.injEq]at hx;exact⟨c0,c1,c2,c3,c4,y0,y1,y2,y3,y4,n,rfl,hx.1,by simpa [Value.cells,o0,k0]using h0,by simpa [Value.cells,o1,k1]using h1,by simpa [Value.cells,o2,k2]using h2,by simpa [Value.cells,o3,k3]using h3,by simpa [Value.cells,o4,k4]using h4⟩
end
theorem open_SR{H:Type}{enc:TypeId×Value→H}{P:Program}{W:World}{t e:TypeId}{fuel:Nat}{v:Value}{x:DataW H×List MemPlace}(ht:P.underlying t=some (.slice e))(he:P.underlying e=some .string)(hc:P.cellsOf e=1)(hby:P.bytesOf e=16)(h:DataW.trod enc P W 0 (fun _=>true) true fuel t [v]=some x)(hz:∀n∈x.1.weights P t,n≤reachBytes):∃zs,SR W v zs∧zs.length≤8796093021952:=by
 rcases open_strings ht he hc h with⟨hcs,_⟩|⟨a,l,c,ss,hcs,_,hl,hm,hlen,hx,hcell,_⟩
 ·simp at hcs
  subst hcs;exact⟨[],⟨none,0,rfl,fun _=>rfl,fun j z hj=>by simp at hj⟩,by simp⟩
 ·simp at hcs
  subst hcs;have hlen':ss.length=c:=by simpa using hlen
  have hll:(ss.take l).length=l:=by rw[List.length_take];omega
  refine⟨ss.take l,⟨some a,c,by rw[hll],fun h=>(by cases h),fun j z hj=>?_⟩,?_⟩
  ·have hjl:j<l:=by have:=(List.getElem?_eq_some_iff.1 hj).1;rw[hll]at this;exact this
   have hj':ss[j]?=some z:=by rw[List.getElem?_take]at hj;simpa [hjl]using hj
   have hc':=hcell j (by omega);rw[show ss.getD j ByteArray.empty=z from by simp[List.getD,hj']]at hc';obtain⟨b,off,spot⟩:=a;have hc0:=hcell 0 (by omega);have hspot:spot=none:=by simpa [Addr.add]using World.cell?_spot hc0
   subst hspot;refine⟨b,off,rfl,?_⟩;have hadd:(⟨b,off,none⟩:Addr).add j=⟨b,off+j,none⟩:=by unfold Addr.add;split<;>simp_all
   rwa [hadd]at hc'
  ·rw[hx]at hz
   have:=hz ((strs (H:=H) (ss.take l)).length*16+(strs (H:=H) (ss.drop l)).length*16) (by simp[DataW.weights,ht,hby,Nat.add_mul]);simp only[reachBytes,strs,List.length_map,List.length_take]at this;rw[List.length_take];omega
theorem open_claims{H:Type}{enc:TypeId×Value→H}{W:World}{r:Reach}{b0:Nat}{v:Value}{d:DataW H}{p:List MemPlace}(hv:Value.okWide Try.prog W r b0 24 v)(h:DataW.Trod enc Try.prog W 0 (fun _=>true) true 24 v d p)(hz:∀n∈d.weights Try.prog 24,n≤reachBytes):∃iss x iat nbf exp zs,v=.agg #[.string iss,x,.int .i64 iat,.int .i64 nbf,.int .i64 exp]∧SR W x zs∧zs.length≤8796093021952:=by
 obtain⟨v0,v1,v2,v3,v4,y0,y1,y2,y3,y4,n,rfl,rfl,h0,h1,h2,h3,h4⟩:=open_agg5 Try.underlying24 (by kernel_rfl) (by kernel_rfl) hv h;obtain⟨s0,e0,_⟩:=DataW.trod_string Try.underlying9 h0;obtain⟨s2,e2,_⟩:=DataW.trod_int Try.underlying3 h2;obtain⟨s3,e3,_⟩:=DataW.trod_int Try.underlying3 h3;obtain⟨s4,e4,_⟩:=DataW.trod_int Try.underlying3 h4;simp only[List.cons.injEq,and_true]at e0 e2 e3 e4;subst e0 e2 e3 e4;obtain⟨zs,hs,hl⟩:=open_SR Try.underlying22 Try.underlying9 (by kernel_rfl) (by kernel_rfl) h1 (fun n hn=>hz n (by
  simp only[DataW.weights,Try.underlying24];exact DataW.weights_mem_each (j:=1) rfl rfl n hn))
 exact⟨_,_,_,_,_,zs,rfl,hs,hl⟩
end Go.Proofs.Ytfhjjbgjoclanaf
