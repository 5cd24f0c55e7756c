import Derived.Test.YtihboehpeehlmaaGreatDoorIPl
namespace Go.Proofs.YtihboehpeehlmaaGreatDoor.Dg
open Tryz
set_option maxRecDepth 4000
open Go.ChangeShapes Go.WideShapes Go.ChangeAt Go.RowKit Go.Joins Go.Deep
set_option linter.unusedVariables false
theorem wg{H:Type}{P:Program}{e:TypeId}{d:DataW H}{a:List (DataW H)}(b:d∈a){n:Nat}(c:n∈d.weights P e):n∈DataW.weightsAll P e a:=by
 induction a with
 | nil=>cases b
 | cons f a ih=>
   simp only[DataW.weightsAll,KX];rcases Ke.1 b with rfl|h
   ·exact .inl c
   ·exact .inr (ih h)
section
variable {H:Type} {enc:TypeId×Value->H} {P:Program} {w:Wd} {X:Nat} {Z:Nat->Bool} {Y:Bool}
theorem sI{t:TypeId}{f o p i m d:Field}{q:Nat}{a:rt}{x:DataW H×List MemPlace}(u:P.underlying t=some (.struct #[f,o,p,i,m,d]))(h:DataW.trod enc P w X Z Y q t a=some x):∃e c l g j k n,x=(.agg [e.1,c.1,l.1,g.1,j.1,k.1],e.2++(c.2++(l.2++(g.2++(j.2++k.2)))))/\a.length=P.cellsOf t/\DataW.trod enc P w X Z Y n f.type ((a.drop f.offset).take (P.cellsOf f.type))=some e/\DataW.trod enc P w X Z Y n o.type ((a.drop o.offset).take (P.cellsOf o.type))=some c/\DataW.trod enc P w X Z Y n p.type ((a.drop p.offset).take (P.cellsOf p.type))=some l/\DataW.trod enc P w X Z Y n i.type ((a.drop i.offset).take (P.cellsOf i.type))=some g/\DataW.trod enc P w X Z Y n m.type ((a.drop m.offset).take (P.cellsOf m.type))=some j/\DataW.trod enc P w X Z Y n d.type ((a.drop d.offset).take (P.cellsOf d.type))=some k:=by
 obtain⟨xs,n,_,rfl,r,s,b⟩:=DataW.trod_struct u h;match xs,s with
 | [e,c,l,g,j,k],_=>exact⟨e,c,l,g,j,k,n,by simp,r,by simpa using b 0 f rfl,by simpa using b 1 o rfl,by simpa using b 2 p rfl,by simpa using b 3 i rfl,by simpa using b 4 m rfl,by simpa using b 5 d rfl⟩
end
theorem Ep{H:Type}{enc:TypeId×Value->H}{W:Wd}{ar:Nat}{v:Value}{x:DataW H×List MemPlace}(h:DataW.trod enc prog W 0 (fun _=>true) true ar 22 [v]=some x)(hz:∀n∈x.1.weights prog 22,n<=reachBytes):∃y,OR W v y/\y.length<=2000000000000/\∀o∈y,o.s.size<=140737488351232:=by
 rcases open_slice underlying22 h with⟨g,_⟩|⟨a,l,c,m,n,D,Pl,g,_,hl,hm,an,hx,ai⟩
 ·simp at g
  subst g;exact⟨[],⟨none,0,rfl,fun j z d=>by simp at d⟩,by simp,fun k J=>by cases J⟩
 ·simp at g
  subst g;have au:m=c:=by simpa using an
  have am:prog.cellsOf 34=6:=by kernel_rfl
  have aq:prog.bytesOf 34=80:=by kernel_rfl
  have ad:∀i,i<l->∃k:DG,(W.cell? (a.add (i*6))=some (.int .i64 k.kind)/\W.cell? ((a.add (i*6)).add 1)=some (.int .i64 k.a)/\W.cell? ((a.add (i*6)).add 2)=some (.int .i64 k.b)/\W.cell? ((a.add (i*6)).add 3)=some (.string k.s)/\W.cell? ((a.add (i*6)).add 4)=some (.string k.t)/\W.cell? ((a.add (i*6)).add 5)=some (.slice k.va k.vl k.vc))/\∃z,D i=.agg [.lit (.int .i64 k.kind),.lit (.int .i64 k.a),.lit (.int .i64 k.b),.lit (.string k.s.data.toList),.lit (.string k.t.data.toList),z]:=by
   intro i hi;obtain⟨ak,V,h2⟩:=ai i (by omega);rw[am]at V;obtain⟨_,Z,f⟩:=World.cells?_some V;obtain⟨y0,y1,y2,y3,y4,Q,e,U,_,g0,g1,g2,g3,g4,g5⟩:=sI underlying34 h2;match ak,Z with
   | [c0,c1,c2,c3,c4,c5],_=>
     have A:prog.cellsOf 3=1:=by kernel_rfl
     have P:prog.cellsOf 9=1:=by kernel_rfl
     have cV:prog.cellsOf 32=1:=by kernel_rfl
     have ao:DataW.trod enc prog W 0 (fun _=>true) true e 3 [c0]=some y0:=by simpa [A]using g0
     have aa:DataW.trod enc prog W 0 (fun _=>true) true e 3 [c1]=some y1:=by simpa [A]using g1
     have ap:DataW.trod enc prog W 0 (fun _=>true) true e 3 [c2]=some y2:=by simpa [A]using g2
     have ah:DataW.trod enc prog W 0 (fun _=>true) true e 9 [c3]=some y3:=by simpa [P]using g3
     have af:DataW.trod enc prog W 0 (fun _=>true) true e 9 [c4]=some y4:=by simpa [P]using g4
     have ac:DataW.trod enc prog W 0 (fun _=>true) true e 32 [c5]=some Q:=by simpa [cV]using g5
     obtain⟨s0,X,f0,_⟩:=Nr M5 ao;obtain⟨s1,N,f1,_⟩:=Nr M5 aa;obtain⟨s2,R,f2,_⟩:=Nr M5 ap;obtain⟨s3,T,f3,_⟩:=DataW.trod_string Kl ah;obtain⟨s4,O,f4,_⟩:=DataW.trod_string Kl af;simp only[List.cons.injEq,and_true]at X N R T O;subst X N R T O;obtain⟨F,L,C,rfl⟩:∃F L C,c5=.slice F L C:=by
      rcases open_slice KT ac with⟨q,_⟩|⟨a',l',c',_,_,_,_,q,_⟩
      ·simp at q;exact⟨none,0,0,q⟩
      ·simp at q;exact⟨some a',l',c',q⟩
     simp only[Lh]at U;refine⟨⟨s0,s1,s2,s3,s4,F,L,C⟩,⟨?_,?_,?_,?_,?_,?_⟩,Q.1,?_⟩
     ·have:=f 0 (by omega);simpa [Addr.add]using this
     ·have:=f 1 (by omega);simpa using this
     ·have:=f 2 (by omega);simpa using this
     ·have:=f 3 (by omega);simpa using this
     ·have:=f 4 (by omega);simpa using this
     ·have:=f 5 (by omega);simpa using this
     ·rw[U.1,f0,f1,f2,f3,f4]
  haveI:Inhabited DG:=⟨⟨0,0,0,ByteArray.empty,ByteArray.empty,none,0,0⟩⟩
  obtain⟨K,B⟩:=choose_lt ad;have G:((List.range l).map K).length=l:=by simp
  have hw:∀n∈x.1.weights prog 22,n<=140737488351232:=fun n I=>by have:=hz n I;simpa [reachBytes]using this
  rw[hx]at hw;simp only[DataW.weights,underlying22,aq]at hw;refine⟨(List.range l).map K,⟨some a,c,by rw[G],fun j k d=>?_⟩,?_,fun k J=>?_⟩
  ·have r:j<l:=by have:=(JG.1 d).1;rw[G]at this;exact this
   have ag:K j=k:=by
    rw[KM,Mw r]at d;simpa using d
   obtain⟨⟨E,w,u,s,p,t⟩,_⟩:=B j r;rw[ag]at E w u s p t;obtain⟨b,al,ae⟩:=a;have aj:ae=none:=by
    have h0:=(B 0 (by omega)).1.1;simpa [Addr.add]using World.cell?_spot h0
   subst aj;have S:∀o i:Nat,(⟨b,o,none⟩:Addr).add i=⟨b,o+i,none⟩:=fun o i=>by unfold Addr.add;split<;>simp_all
   rw[S]at E w u s p t;rw[S]at w u s p t;exact⟨b,al,rfl,E,w,u,s,p,t⟩
  ·rw[G]
   have:=hw _ (List.mem_cons_self ..);simp at this;omega
  ·obtain⟨j,d,rfl⟩:=Ly.1 J
   have r:j<l:=List.mem_range.1 d;obtain⟨z,hD⟩:=(B j r).2;have ab:D j∈(List.range l).map D:=Ly.2 ⟨j,d,rfl⟩;have M:∀n,n∈(D j).weights prog 34->n<=140737488351232:=fun n I=>hw n (KE _ (List.mem_append_left _ (wg ab I)))
   rw[hD]at M;simp only[DataW.weights,underlying34]at M;have Y:=M (K j).s.data.toList.length (by simp[DataW.weightsEach,DataW.weights]);simpa using Y
end Go.Proofs.YtihboehpeehlmaaGreatDoor.Dg
