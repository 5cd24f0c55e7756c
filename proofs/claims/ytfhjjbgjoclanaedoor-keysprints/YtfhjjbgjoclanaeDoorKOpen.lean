import Derived.Test.YtfhjjbgjoclanaeDoorKRow
import Derived.ProofKit
import Derived.OpenShut
import Derived.ShutString
import Derived.ChangeOld
import Derived.Below
import Derived.SizedLaws
import Derived.Lib.SmallJoins
namespace Go.Proofs.YtfhjjbgjoclanaeDoor
open Go.ChangeShapes Go.WideShapes Go.ChangeAt Go.RowKit Go.Joins Go.Deep
set_option linter.unusedVariables false
theorem weights_in{H:Type}{P:Program}{e:TypeId}{d:DataW H}{ds:List (DataW H)}(hd:d∈ds){n:Nat}(hn:n∈d.weights P e):n∈DataW.weightsAll P e ds:=by
 induction ds with
 | nil=>cases hd
 | cons d0 ds ih=>
   simp only[DataW.weightsAll,List.mem_append];rcases List.mem_cons.1 hd with rfl|h
   ·exact .inl hn
   ·exact .inr (ih h)
theorem open_KR{H:Type}{enc:TypeId×Value→H}{W:World}{fuel:Nat}{v:Value}{x:DataW H×List MemPlace}(h:DataW.trod enc Tryd.prog W 0 (fun _=>true) true fuel 22 [v]=some x)(hz:∀n∈x.1.weights Tryd.prog 22,n≤reachBytes):∃ks,KR W v ks∧ks.length≤3518437208780∧∀k∈ks,k.kid.size≤140737488351232∧k.key.size≤140737488351232:=by
 rcases open_slice Tryd.underlying22 h with⟨hcs,_⟩|⟨a,l,c,m,n,D,Pl,hcs,_,hl,hm,hlen,hx,hel⟩
 ·simp at hcs
  subst hcs;exact⟨[],⟨none,0,rfl,by simp,fun j z hj=>by simp at hj⟩,by simp,fun k hk=>by cases hk⟩
 ·simp at hcs
  subst hcs;have hmc:m=c:=by simpa using hlen
  have hc3:Tryd.prog.cellsOf 37=3:=by kernel_rfl
  have hby:Tryd.prog.bytesOf 37=40:=by kernel_rfl
  have one:∀i,i<l→∃k:Ky,(W.cell? (a.add (i*3))=some (.int .i64 k.alg)∧W.cell? ((a.add (i*3)).add 1)=some (.string k.kid)∧W.cell? ((a.add (i*3)).add 2)=some (.string k.key))∧D i=.agg [.lit (.int .i64 k.alg),.lit (.string k.kid.data.toList),.lit (.string k.key.data.toList)]:=by
   intro i hi;obtain⟨cs',h1,h2⟩:=hel i (by omega);rw[hc3]at h1;obtain⟨_,hlen',hcell⟩:=World.cells?_some h1;obtain⟨y0,y1,y2,n',hd,_,g0,g1,g2⟩:=trod_struct3 Tryd.underlying37 h2;match cs',hlen' with
   | [c0,c1,c2],_=>
     have g0':DataW.trod enc Tryd.prog W 0 (fun _=>true) true n' 3 [c0]=some y0:=by simpa [show Tryd.prog.cellsOf 3=1 by kernel_rfl]using g0
     have g1':DataW.trod enc Tryd.prog W 0 (fun _=>true) true n' 9 [c1]=some y1:=by simpa [show Tryd.prog.cellsOf 9=1 by kernel_rfl]using g1
     have g2':DataW.trod enc Tryd.prog W 0 (fun _=>true) true n' 9 [c2]=some y2:=by simpa [show Tryd.prog.cellsOf 9=1 by kernel_rfl]using g2
     obtain⟨s0,e0,f0,_⟩:=DataW.trod_int Tryd.underlying3 g0';obtain⟨s1,e1,f1,_⟩:=DataW.trod_string Tryd.underlying9 g1';obtain⟨s2,e2,f2,_⟩:=DataW.trod_string Tryd.underlying9 g2';simp only[List.cons.injEq,and_true]at e0 e1 e2;subst e0 e1 e2;simp only[Prod.mk.injEq]at hd;refine⟨⟨s0,s1,s2⟩,⟨?_,?_,?_⟩,?_⟩
     ·have:=hcell 0 (by omega);simpa [Addr.add]using this
     ·have:=hcell 1 (by omega);simpa using this
     ·have:=hcell 2 (by omega);simpa using this
     ·rw[hd.1,f0,f1,f2]
  haveI:Inhabited Ky:=⟨⟨0,ByteArray.empty,ByteArray.empty⟩⟩
  obtain⟨K,hK⟩:=choose_lt one;have hll:((List.range l).map K).length=l:=by simp
  have hw:∀n∈x.1.weights Tryd.prog 22,n≤140737488351232:=fun n hn=>by have:=hz n hn;simpa [reachBytes]using this
  rw[hx]at hw;simp only[DataW.weights,Tryd.underlying22,hby]at hw;refine⟨(List.range l).map K,⟨some a,c,by rw[hll],by rw[hll];exact hl,fun j k hj=>?_⟩,?_,fun k hk=>?_⟩
  ·have hjl:j<l:=by have:=(List.getElem?_eq_some_iff.1 hj).1;rw[hll]at this;exact this
   have hkj:K j=k:=by
    rw[List.getElem?_map,List.getElem?_range hjl]at hj;simpa using hj
   obtain⟨⟨a0,a1,a2⟩,_⟩:=hK j hjl;rw[hkj]at a0 a1 a2;obtain⟨b,off,spot⟩:=a;have hspot:spot=none:=by
    have h0:=(hK 0 (by omega)).1.1;simpa [Addr.add]using World.cell?_spot h0
   subst hspot;have hadd:∀o i:Nat,(⟨b,o,none⟩:Addr).add i=⟨b,o+i,none⟩:=fun o i=>by unfold Addr.add;split<;>simp_all
   rw[hadd]at a0 a1 a2;rw[hadd]at a1 a2;exact⟨b,off,rfl,a0,a1,a2⟩
  ·rw[hll]
   have:=hw _ (List.mem_cons_self ..);simp at this;omega
  ·obtain⟨j,hj,rfl⟩:=List.mem_map.1 hk
   have hjl:j<l:=List.mem_range.1 hj;have hD:=(hK j hjl).2;have hmem:D j∈(List.range l).map D:=List.mem_map.2 ⟨j,hj,rfl⟩;have hin:∀n,n∈(D j).weights Tryd.prog 37→n≤140737488351232:=fun n hn=>hw n (List.mem_cons_of_mem _ (List.mem_append_left _ (weights_in hmem hn)))
   rw[hD]at hin;simp only[DataW.weights,Tryd.underlying37]at hin;have q1:=hin (K j).kid.data.toList.length (by simp[DataW.weightsEach,DataW.weights]);have q2:=hin (K j).key.data.toList.length (by simp[DataW.weightsEach,DataW.weights]);exact⟨by simpa using q1,by simpa using q2⟩
end Go.Proofs.YtfhjjbgjoclanaeDoor
