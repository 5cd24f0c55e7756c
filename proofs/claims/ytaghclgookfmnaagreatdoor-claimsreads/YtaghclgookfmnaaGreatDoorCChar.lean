import Derived.Test.YtaghclgookfmnaaGreatDoorCEsc
set_option maxHeartbeats 4000000
set_option maxRecDepth 100000
namespace Go.Proofs.YtaghclgookfmnaaGreatDoor
open Go.RowKit
set_option linter.unusedVariables false
structure GV (w:World):Prop where
 tabs:Lib.Utf8Tabs 0 1 w
 rng:∃tp p,w.var? Tryz.prog "strconv.ErrRange" =some #[.iface tp p]
theorem gn_range:Tryz.prog.globalNamed "strconv.ErrRange" =some 3:=by kernel_rfl
theorem GV.kept{w w':World}(h:GV w)(hk:∀k,k<8→w'.heap[k]?=w.heap[k]?):GV w':=by
 refine⟨⟨fun c hc=>?_,fun i hi=>⟨?_,?_⟩⟩,?_⟩
 ·have:=h.tabs.1 c hc;unfold World.cell? at this ⊢;simp only at this ⊢;rw[hk _ (by decide)];exact this
 ·have:=(h.tabs.2 i hi).1;unfold World.cell? at this ⊢;simp only at this ⊢;rw[hk _ (by decide)];exact this
 ·have:=(h.tabs.2 i hi).2;unfold World.cell? at this ⊢;simp only at this ⊢;rw[hk _ (by decide)];exact this
 ·obtain⟨tp,p,h2⟩:=h.rng
  refine⟨tp,p,?_⟩;unfold World.var? at h2 ⊢;rw[gn_range]at h2 ⊢;simp only[Option.bind_some]at h2 ⊢;rw[hk _ (by decide)];exact h2
theorem GV.onl{bp:Nat}{w w':World}(h:GV w)(ho:Onl bp w w')(hb:8≤bp)(hl:bp<w.heap.size):GV w':=
 h.kept fun k hk=>ho.block k (by omega) (fun e=>by injection e with e;omega)
def seqNat(n b0 b1 b2 b3:Nat):Nat:=
 if b0<128 then 1
 else if b0<194∨244<b0 then 0
 else if(1<n∧seqLo b0≤b1∧b1≤seqHi b0)∧(seqN b0≤2∨(2<n∧128≤b2∧b2≤191))∧(seqN b0≤3∨(3<n∧128≤b3∧b3≤191))then seqN b0 else 0
theorem dec_zero(n b0 b1 b2 b3:Nat)(hn:1≤n)(h0:b0<256)(h1:b1<256)(h2:b2<256)(h3:b3<256)(h:seqNat n b0 b1 b2 b3=0):Lib.decodeN n b0 b1 b2 b3=(65533,1):=by
 unfold seqNat seqLo seqHi seqN at h;unfold Lib.decodeN;repeat' split at h
 all_goals (try (exfalso;omega))
 all_goals (repeat' split)
 all_goals first|rfl|(exfalso;omega)
theorem dec_some(n b0 b1 b2 b3:Nat)(hn:1≤n)(h0:b0<256)(h1:b1<256)(h2:b2<256)(h3:b3<256)(h:seqNat n b0 b1 b2 b3≠0):(Lib.decodeN n b0 b1 b2 b3).2=seqNat n b0 b1 b2 b3∧¬((Lib.decodeN n b0 b1 b2 b3).1=65533∧(Lib.decodeN n b0 b1 b2 b3).2=1)∧(Lib.decodeN n b0 b1 b2 b3).1<1114112:=by
 generalize hq:seqNat n b0 b1 b2 b3=q at h ⊢;unfold seqNat seqLo seqHi seqN at hq;unfold Lib.decodeN;repeat' split at hq
 all_goals (try (exfalso;omega))
 all_goals (repeat' split)
 all_goals first|(exfalso;omega)|(refine⟨?_,?_,?_⟩<;>simp only<;>omega)
end Go.Proofs.YtaghclgookfmnaaGreatDoor
