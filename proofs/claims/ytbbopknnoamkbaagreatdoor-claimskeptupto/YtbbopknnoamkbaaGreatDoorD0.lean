import Derived.Test.YtbbopknnoamkbaaGreatDoorJPureP
import Derived.Test.YtbbopknnoamkbaaGreatDoorK4
namespace Go.Proofs.YtbbopknnoamkbaaGreatDoor
open Go.RowKit
set_option linter.unusedVariables false
def IR(w:World)(v:Value)(us:List Nat):Prop:=
 ∃ad cap,v=.slice ad us.length cap∧∀j k:Nat,us[j]?=some k→∃g,ad=some ⟨g,0,none⟩∧w.cell? ⟨g,j,none⟩=some (.int .i64 (k:Int))
theorem IR.keep{w w':World}{v:Value}{us:List Nat}(h:IR w v us)(hc:∀g j u,w.cell? ⟨g,j,none⟩=some u→w'.cell? ⟨g,j,none⟩=some u):IR w' v us:=by
 obtain⟨ad,cap,h1,h2⟩:=h;refine⟨ad,cap,h1,fun j k hj=>?_⟩;obtain⟨g,a,b⟩:=h2 j k hj;exact⟨g,a,hc _ _ _ b⟩
theorem IR.drewN{w:World}{v:Value}{us:List Nat}(h:IR w v us)(n:Nat):IR (w.drewN n) v us:=h.keep fun g j u hc=>by simpa using hc
theorem cell_kp{w w':World}(h:Below w.heap.size w w'){g j:Nat}{u:Value}(hc:w.cell? ⟨g,j,none⟩=some u):w'.cell? ⟨g,j,none⟩=some u:=by
 by_cases hg:g<w.heap.size
 ·have:=h.block g hg
  simp only[World.cell?]at hc ⊢;rw[this];exact hc
 ·have:w.heap[g]?=none:=Array.getElem?_eq_none (by omega)
  simp[World.cell?,this]at hc
theorem IR.below{w w':World}{v:Value}{us:List Nat}(h:IR w v us)(hb:Below w.heap.size w w'):IR w' v us:=h.keep fun g j u hc=>cell_kp hb hc
structure RR (tN:TypeId) (v:Value) (ns:List Nd) (w:World):Prop where
 shape:∃ad cap,v=.slice ad ns.length cap
 at':∀(k:Nat) (n:Nd),ns[k]?=some n→∃g kv,v=.slice (some ⟨g,0,none⟩) ns.length (match v with| .slice _ _ c=>c|_=>0)∧IR w kv n.kids∧n.kids.length≤1000000000∧
  w.cell? ⟨g,k*6,none⟩=some (.int .i64 (n.kind:Int))∧w.cell? ⟨g,k*6+1,none⟩=some (.string ⟨n.key.toArray⟩)∧w.cell? ⟨g,k*6+2,none⟩=some (.string ⟨n.text.toArray⟩)∧
  w.cell? ⟨g,k*6+3,none⟩=some (.int .i64 n.num)∧w.cell? ⟨g,k*6+4,none⟩=some kv∧w.cell? ⟨g,k*6+5,none⟩=some (.int .i64 (n.at':Int))
theorem RR.below{tN:TypeId}{v:Value}{ns:List Nd}{w w':World}(h:RR tN v ns w)(hb:Below w.heap.size w w'):RR tN v ns w':=by
 refine⟨h.shape,fun k n hn=>?_⟩;obtain⟨g,kv,a,b,hl,c0,c1,c2,c3,c4,c5⟩:=h.at' k n hn;exact⟨g,kv,a,b.below hb,hl,cell_kp hb c0,cell_kp hb c1,cell_kp hb c2,cell_kp hb c3,cell_kp hb c4,cell_kp hb c5⟩
theorem IR.of{B:Nat}{e:TypeId}{w:World}{v:Value}{us:List Nat}(h:w.ownsRow B e 1 v us.length (us.map iV)):IR w v us:=by
 have hadd:∀(g j:Nat),(⟨g,0,none⟩:Addr).add j=⟨g,j,none⟩:=fun g j=>by unfold Addr.add;split<;>simp_all
 rcases h.2 with⟨a,b⟩|⟨g,c,cu,a,_⟩
 ·refine⟨none,0,by rw[a,b],fun j k hj=>?_⟩
  obtain rfl:=List.length_eq_zero_iff.1 b;simp at hj
 ·refine⟨some ⟨g,0,none⟩,c,a,fun j k hj=>⟨g,rfl,?_⟩⟩
  have:=h.cells (g:=g) (by rw[a];rfl) j (iV k) (by simp[hj]);rwa [hadd]at this
theorem RR.of{B:Nat}{tN:TypeId}{v:Value}{kvs:List Value}{ns:List Nd}{w:World}(h:NK B tN v kvs ns w)(hk:∀n∈ns,n.kids.length≤1000000000):RR tN v ns w:=by
 refine⟨h.shape,fun k n hn=>?_⟩;have hkn:k<ns.length:=(List.getElem?_eq_some_iff.1 hn).1;obtain⟨kv,hkv⟩:∃kv,kvs[k]?=some kv:=⟨_,List.getElem?_eq_getElem (by have:=h.1;omega)⟩;obtain⟨ad,cap,rfl⟩:=h.shape;obtain⟨g,rfl⟩:∃g,ad=some ⟨g,0,none⟩:=by
  rcases h.2.1.2 with⟨e,h0⟩|⟨g,c,cu,e,_⟩
  ·omega
  ·injection e with e _ _;exact⟨g,e⟩
 have c:=fun j x hj hx=>(h.at (g:=g) rfl (u:=k) (j:=j) hn hkv hj (x:=x) hx).1
 exact⟨g,kv,rfl,IR.of (h.2.2.1 k n kv hn hkv),hk n (List.mem_of_getElem? hn),c 0 _ (by omega) rfl,c 1 _ (by omega) rfl,c 2 _ (by omega) rfl,c 3 _ (by omega) rfl,c 4 _ (by omega) rfl,c 5 _ (by omega) rfl⟩
end Go.Proofs.YtbbopknnoamkbaaGreatDoor
