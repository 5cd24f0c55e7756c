import Derived.Test.YtfhjjbgjoclanaeDoorTAlg
import Derived.ProofKit
import Derived.OpenShut
import Derived.Lib.LaidU8
import Derived.Lib.SmallJoins
namespace Go.Proofs.YtfhjjbgjoclanaeDoor
open Go.ChangeShapes Go.WideShapes Go.ChangeAt Go.RowKit Go.Joins Go.Deep
set_option linter.unusedVariables false
theorem gn_ways:Tryd.prog.globalNamed "notary/token.ways" =some 0:=by kernel_rfl
theorem way_of{w:World}{fuel:Nat}{cs:List Value}{p:List MemPlace}{a:Int}{s:List UInt8}(hl:cs.length=2)(h:DataW.trod (fun _=>()) Tryd.prog w 0 (fun _=>true) false fuel 63 cs=some (.agg [.lit (.int .i64 a),.lit (.string s)],p)):cs=[.int .i64 a,.string ⟨s.toArray⟩]:=by
 obtain⟨y0,y1,n,hd,_,g0,g1⟩:=trod_struct2 Tryd.underlying63 h;match cs,hl with
 | [c0,c1],_=>
   have g0':DataW.trod (fun _=>()) Tryd.prog w 0 (fun _=>true) false n 3 [c0]=some y0:=by simpa [show Tryd.prog.cellsOf 3=1 by kernel_rfl]using g0
   have g1':DataW.trod (fun _=>()) Tryd.prog w 0 (fun _=>true) false n 9 [c1]=some y1:=by simpa [show Tryd.prog.cellsOf 9=1 by kernel_rfl]using g1
   obtain⟨s0,e0,f0,_⟩:=DataW.trod_int Tryd.underlying3 g0';obtain⟨s1,e1,f1,_⟩:=DataW.trod_string Tryd.underlying9 g1';simp only[List.cons.injEq,and_true]at e0 e1;subst e0 e1;simp only[Prod.mk.injEq,f0,f1]at hd;obtain⟨hd,_⟩:=hd;injection hd with hd;injection hd with h0 hd;injection hd with h1 _;injection h0 with h0;injection h0 with _ h0;injection h1 with h1;injection h1 with h1;rw[h0,h1]
theorem wg_of{W:World}(h:Lib.VarReads Tryd.prog W "notary/token.ways" (.agg [.agg [.lit (.int .i64 256),.lit (.string [72,83,50,53,54])],.agg [.lit (.int .i64 384),.lit (.string [72,83,51,56,52])],.agg [.lit (.int .i64 512),.lit (.string [72,83,53,49,50])]])):WG W:=by
 obtain⟨g,t,cs,fuel,p,h1,h2,h3,h4⟩:=h;obtain rfl:=Option.some.inj (gn_ways.symm.trans h1);obtain rfl:t=64:=Option.some.inj (h2.symm.trans (show(Tryd.prog.globals[0]?).map (·.type)=some 64 by kernel_rfl));obtain⟨xs,m,_,hx,hlen,hxl,hel⟩:=DataW.trod_array Tryd.underlying64 h4;have hc2:Tryd.prog.cellsOf 63=2:=by kernel_rfl
 have hc6:Tryd.prog.cellsOf 64=6:=by kernel_rfl
 rw[hc6]at hlen;simp only[Prod.mk.injEq]at hx;have hxs:=hx.1;injection hxs with hxs;match xs,hxl with
 | [x0,x1,x2],_=>
   simp only[List.map_cons,List.map_nil]at hxs;injection hxs with q0 hxs;injection hxs with q1 hxs;injection hxs with q2 _;have e0:=hel 0 (by omega);have e1:=hel 1 (by omega);have e2:=hel 2 (by omega);obtain⟨x0,p0⟩:=x0;obtain⟨x1,p1⟩:=x1;obtain⟨x2,p2⟩:=x2;simp only at q0 q1 q2;subst q0 q1 q2;obtain⟨L⟩:=cs;simp only at hlen;match L,hlen with
   | [c0,c1,c2,c3,c4,c5],_=>
     simp only[hc2]at e0 e1 e2;have r0:=way_of (by simp) e0;have r1:=way_of (by simp) e1;have r2:=way_of (by simp) e2;simp at r0 r1 r2;obtain⟨rfl,rfl⟩:=r0;obtain⟨rfl,rfl⟩:=r1;obtain⟨rfl,rfl⟩:=r2;unfold World.var? at h3;rw[gn_ways]at h3;simp only[Option.bind_some]at h3;have hcell:∀k,W.cell? ⟨0,k,none⟩=(#[Value.int .i64 256,.string ⟨#[72,83,50,53,54]⟩,.int .i64 384,.string ⟨#[72,83,51,56,52]⟩,.int .i64 512,.string ⟨#[72,83,53,49,50]⟩]:Array Value)[k]?:=by
      intro k;cases hh:W.heap[0]? with
      | none=>simp[hh]at h3
      | some o=>
        cases o with
        | cells c t fr=>
          simp[hh]at h3;simp[World.cell?,hh,h3]
        | map es cl=>simp[hh]at h3
        | _=>simp[hh]at h3
     exact⟨hcell 0,hcell 1,hcell 2,hcell 3,hcell 4,hcell 5⟩
end Go.Proofs.YtfhjjbgjoclanaeDoor
