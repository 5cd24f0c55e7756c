import Derived.Test.YtaghclgookfmnaaGreatDoorJPureP
namespace Go.Proofs.YtaghclgookfmnaaGreatDoor
open Go.RowKit
set_option linter.unusedVariables false
def IR(w:World)(v:Value)(us:List Nat):Prop:=
 ∃ad cap,v=.slice ad us.length cap∧∀j k:Nat,us[j]?=some k→∃g,ad=some ⟨g,0,none⟩∧w.cell? ⟨g,j,none⟩=some (.int .i64 (k:Int))
theorem IR.keep{w w':World}{v:Value}{us:List Nat}(h:IR w v us)(hc:∀g j u,w.cell? ⟨g,j,none⟩=some u→w'.cell? ⟨g,j,none⟩=some u):IR w' v us:=by
 obtain⟨ad,cap,h1,h2⟩:=h;refine⟨ad,cap,h1,fun j k hj=>?_⟩;obtain⟨g,a,b⟩:=h2 j k hj;exact⟨g,a,hc _ _ _ b⟩
theorem IR.drewN{w:World}{v:Value}{us:List Nat}(h:IR w v us)(n:Nat):IR (w.drewN n) v us:=h.keep fun g j u hc=>by simpa using hc
theorem cell_kp{w w':World}(h:Below w.heap.size w w'){g j:Nat}{u:Value}(hc:w.cell? ⟨g,j,none⟩=some u):w'.cell? ⟨g,j,none⟩=some u:=by
 by_cases hg:g<w.heap.size
 ·have:=h.block g hg
  simp only[World.cell?]at hc ⊢;rw[this];exact hc
 ·have:w.heap[g]?=none:=Array.getElem?_eq_none (by omega)
  simp[World.cell?,this]at hc
theorem IR.below{w w':World}{v:Value}{us:List Nat}(h:IR w v us)(hb:Below w.heap.size w w'):IR w' v us:=h.keep fun g j u hc=>cell_kp hb hc
structure RR (tN:TypeId) (v:Value) (ns:List Nd) (w:World):Prop where
 shape:∃ad cap,v=.slice ad ns.length cap
 at':∀(k:Nat) (n:Nd),ns[k]?=some n→∃g kv,v=.slice (some ⟨g,0,none⟩) ns.length (match v with| .slice _ _ c=>c|_=>0)∧IR w kv n.kids∧n.kids.length≤1000000000∧
  w.cell? ⟨g,k*6,none⟩=some (.int .i64 (n.kind:Int))∧w.cell? ⟨g,k*6+1,none⟩=some (.string ⟨n.key.toArray⟩)∧w.cell? ⟨g,k*6+2,none⟩=some (.string ⟨n.text.toArray⟩)∧
  w.cell? ⟨g,k*6+3,none⟩=some (.int .i64 n.num)∧w.cell? ⟨g,k*6+4,none⟩=some kv∧w.cell? ⟨g,k*6+5,none⟩=some (.int .i64 (n.at':Int))
theorem RR.below{tN:TypeId}{v:Value}{ns:List Nd}{w w':World}(h:RR tN v ns w)(hb:Below w.heap.size w w'):RR tN v ns w':=by
 refine⟨h.shape,fun k n hn=>?_⟩;obtain⟨g,kv,a,b,hl,c0,c1,c2,c3,c4,c5⟩:=h.at' k n hn;exact⟨g,kv,a,b.below hb,hl,cell_kp hb c0,cell_kp hb c1,cell_kp hb c2,cell_kp hb c3,cell_kp hb c4,cell_kp hb c5⟩
end Go.Proofs.YtaghclgookfmnaaGreatDoor
