import Derived.Test.YtaghclgookfmnaaGreatDoorDRow
import Derived.Test.YtaghclgookfmnaaGreatDoorCPut
namespace Go.Proofs.YtaghclgookfmnaaGreatDoor
open Go.RowKit
set_option linter.unusedVariables false
theorem IR.of{B:Nat}{e:TypeId}{w:World}{v:Value}{us:List Nat}(h:w.ownsRow B e 1 v us.length (us.map iV)):IR w v us:=by
 have hadd:∀(g j:Nat),(⟨g,0,none⟩:Addr).add j=⟨g,j,none⟩:=fun g j=>by unfold Addr.add;split<;>simp_all
 rcases h.2 with⟨a,b⟩|⟨g,c,cu,a,_⟩
 ·refine⟨none,0,by rw[a,b],fun j k hj=>?_⟩
  obtain rfl:=List.length_eq_zero_iff.1 b;simp at hj
 ·refine⟨some ⟨g,0,none⟩,c,a,fun j k hj=>⟨g,rfl,?_⟩⟩
  have:=h.cells (g:=g) (by rw[a];rfl) j (iV k) (by simp[hj]);rwa [hadd]at this
theorem RR.of{B:Nat}{tN:TypeId}{v:Value}{kvs:List Value}{ns:List Nd}{w:World}(h:NK B tN v kvs ns w)(hk:∀n∈ns,n.kids.length≤1000000000):RR tN v ns w:=by
 refine⟨h.shape,fun k n hn=>?_⟩;have hkn:k<ns.length:=(List.getElem?_eq_some_iff.1 hn).1;obtain⟨kv,hkv⟩:∃kv,kvs[k]?=some kv:=⟨_,List.getElem?_eq_getElem (by have:=h.1;omega)⟩;obtain⟨ad,cap,rfl⟩:=h.shape;obtain⟨g,rfl⟩:∃g,ad=some ⟨g,0,none⟩:=by
  rcases h.2.1.2 with⟨e,h0⟩|⟨g,c,cu,e,_⟩
  ·omega
  ·injection e with e _ _;exact⟨g,e⟩
 have c:=fun j x hj hx=>(h.at (g:=g) rfl (u:=k) (j:=j) hn hkv hj (x:=x) hx).1
 exact⟨g,kv,rfl,IR.of (h.2.2.1 k n kv hn hkv),hk n (List.mem_of_getElem? hn),c 0 _ (by omega) rfl,c 1 _ (by omega) rfl,c 2 _ (by omega) rfl,c 3 _ (by omega) rfl,c 4 _ (by omega) rfl,c 5 _ (by omega) rfl⟩
end Go.Proofs.YtaghclgookfmnaaGreatDoor
