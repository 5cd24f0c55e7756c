import Derived.Test.YtbbopknnoamkbaaGreatDoorProg
import Derived.ProofKit
import Derived.OpenShut
import Derived.ShutString
import Derived.ChangeOld
import Derived.Below
import Derived.SizedLaws
import Derived.SliceStrings
import Derived.Lib.SmallJoins
namespace Go.Proofs.YtbbopknnoamkbaaGreatDoor
open Go.ChangeShapes Go.WideShapes Go.ChangeAt Go.RowKit Go.Joins Go.Deep
set_option linter.unusedVariables false
set_option maxRecDepth 4000
theorem array2{α:Type}{cs:Array α}(h:cs.size=2):∃c0 c1,cs= #[c0,c1]:=by
 obtain⟨l⟩:=cs;match l,h with
 | [c0,c1],_=>exact⟨c0,c1,rfl⟩
section
variable {H:Type} {enc:TypeId×Value→H} {P:Program} {w:World} {base:Nat} {spare:Nat→Bool} {held:Bool}
theorem open_agg2{r:Reach}{b0:Nat}{t:TypeId}{f0 f1:Field}{v:Value}{d:DataW H}{p:List MemPlace}(hs:P.underlying t=some (.struct #[f0,f1]))(hone:oneCellFields P #[f0,f1]=true)(hC:P.cellsOf t=2)(hv:Value.okWide P w r b0 t v)(h:DataW.Trod enc P w base spare held t v d p):∃(v0 v1:Value) (y0 y1:DataW H×List MemPlace) (n:Nat),v=.agg #[v0,v1]∧d=.agg [y0.1,y1.1]∧DataW.trod enc P w base spare held n f0.type [v0]=some y0∧DataW.trod enc P w base spare held n f1.type [v1]=some y1:=by
 obtain⟨cs,rfl,hsz⟩:=okWide_struct hs hv;obtain⟨c0,c1,rfl⟩:=array2 (hsz.trans hC);obtain⟨fuel,hf⟩:=h;obtain⟨xs,n,_,hx,hl,hlen,hf⟩:=DataW.trod_struct hs hf;match xs,hlen with
 | [y0,y1],_=>
   obtain⟨o0,k0⟩:=hone_of hone 0 f0 rfl;obtain⟨o1,k1⟩:=hone_of hone 1 f1 rfl;have h0:=hf 0 f0 rfl;have h1:=hf 1 f1 rfl;simp only[Prod.mk.injEq]at hx;exact⟨c0,c1,y0,y1,n,rfl,by simpa using hx.1,by simpa [Value.cells,o0,k0]using h0,by simpa [Value.cells,o1,k1]using h1⟩
end
theorem open_head{H:Type}{enc:TypeId×Value→H}{W:World}{r:Reach}{b0:Nat}{v:Value}{d:DataW H}{p:List MemPlace}(hv:Value.okWide Tryz.prog W r b0 46 v)(h:DataW.Trod enc Tryz.prog W 0 (fun _=>true) true 46 v d p)(hz:∀n∈d.weights Tryz.prog 46,n≤reachBytes):∃alg kid,v=.agg #[.int .i64 alg,.string kid]∧kid.size≤140737488351232:=by
 obtain⟨v0,v1,y0,y1,n,rfl,rfl,h0,h1⟩:=open_agg2 Tryz.underlying46 (by kernel_rfl) (by kernel_rfl) hv h;obtain⟨s0,e0,_⟩:=DataW.trod_int Tryz.underlying3 h0;obtain⟨s1,e1,x1⟩:=DataW.trod_string Tryz.underlying9 h1;simp only[List.cons.injEq,and_true]at e0 e1;subst e0 e1;refine⟨_,_,rfl,?_⟩;have hz2:(DataW.weightsEach Tryz.prog [3,9] [y0.1,y1.1]).all (· ≤reachBytes)=true:=List.all_eq_true.2 fun n hn=>by
  have:=hz n (by simp only[DataW.weights,Tryz.underlying46];exact hn);simpa using this
 rw[x1.1]at hz2;have:=sized_string hz2 (j:=1) (t:=9) rfl rfl;simpa [reachBytes]using this
end Go.Proofs.YtbbopknnoamkbaaGreatDoor
