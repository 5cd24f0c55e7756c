import Derived.Test.YtbbopknnoamkbaaGreatDoorD2
import Derived.Test.YtbbopknnoamkbaaGreatDoorK7
import Derived.Test.YtbbopknnoamkbaaGreatDoorD0
import Derived.Test.YtbbopknnoamkbaaGreatDoorG1
import Derived.BigRegion
set_option maxHeartbeats 1000000
set_option maxRecDepth 4000
namespace Go.Proofs.YtbbopknnoamkbaaGreatDoor
open Go.RowKit
set_option linter.unusedVariables false
theorem cset2{w:World}{b g j:Nat}{u v:Value}(h:w.cell? ⟨g,j,none⟩=some v)(hb:g≠b):(w.setCell ⟨b,0,none⟩ u).cell? ⟨g,j,none⟩=some v:=(World.cell?_setCell_other _ _ _ _ (by intro h2;injection h2;omega)).trans h
theorem RR.setO{tN:TypeId}{v:Value}{L:List Nd}{w:World}{b:Nat}(h:RR tN v L w)(hl:0<L.length)(hz:w.cell? ⟨b,0,none⟩=some (.slice none 0 0))(u:Value):RR tN v L (w.setCell ⟨b,0,none⟩ u):=by
 refine⟨h.shape,fun k n hn=>?_⟩;obtain⟨g,kv,e,⟨adk,capk,hk,hc⟩,hkl,c0,c1,c2,c3,c4,c5⟩:=h.at' k n hn;have hgb:g≠b:=by
  obtain⟨n0,hn0⟩:∃n0,L[0]?=some n0:=⟨_,List.getElem?_eq_getElem hl⟩;obtain⟨g',kv',e',_,_,d0,_⟩:=h.at' 0 n0 hn0;rw[e]at e';injection e' with e' _ _;injection e' with e';injection e' with e';intro hh;rw[Nat.zero_mul,←e',hh,hz]at d0;cases d0
 refine⟨g,kv,e,⟨adk,capk,hk,fun j c hj=>?_⟩,hkl,cset2 c0 hgb,cset2 c1 hgb,cset2 c2 hgb,cset2 c3 hgb,cset2 c4 hgb,cset2 c5 hgb⟩;obtain⟨gk,ea,hcell⟩:=hc j c hj;refine⟨gk,ea,cset2 hcell ?_⟩;obtain⟨cz,hcz⟩:∃cz,n.kids[0]?=some cz:=⟨_,List.getElem?_eq_getElem (by have:=(List.getElem?_eq_some_iff.1 hj).1;omega)⟩;obtain⟨gz,ez,hz2⟩:=hc 0 cz hcz;rw[ea]at ez;injection ez with ez;injection ez with ez;intro hh;rw[←ez,hh,hz]at hz2;cases hz2
theorem cparse_nd(s:ByteArray)(w:World)(hg:9≤w.heap.size)(hG:GV w):Calls Tryz.prog 19 #[.string s] w fun r w'=>(match readL s.data.toList with
 | .ok t=>∃v,r=.returned (.tuple #[v,.int .i64 0,.int .i64 0])∧RR 42 v (flat 0 [] t) w'
 | .error (e,a)=>r=.returned (.tuple #[.slice none 0 0,.int .i64 (e:Int),.int .i64 (a:Int)])∧0<e)∧Below w.heap.size w w':=by
 refine(cparse s w hg hG).mono ?_;rintro r w' ⟨h,hb⟩;refine⟨?_,hb⟩;cases hR:readL s.data.toList with
 | error q=>obtain⟨e,a⟩:=q;rw[hR]at h;exact h
 | ok t=>
   rw[hR]at h;obtain⟨v,kvs,e,hN⟩:=h;obtain⟨hW,_⟩:=read_fit hR;exact⟨v,e,RR.of (kvs:=kvs) hN (fun n hn=>by obtain⟨k,hk⟩:=List.getElem?_of_mem hn;have:=hW.few k n hk;omega)⟩
theorem cpar_err(s:ByteArray)(w:World)(hg:9≤w.heap.size)(hG:GV w)(e a:Nat)(hR:readL s.data.toList=.error (e,a)):Calls Tryz.prog 59 #[.string s] w fun r w'=>r=.returned (.tuple #[.agg #[.slice none 0 0],.int .i64 (e:Int),.int .i64 (a:Int)])∧Below w.heap.size w w'∧0<e:=by
 have hrd:=cparse_nd s (w.alloc (.cells #[.slice none 0 0] 92)) (by simp;omega) (hG.kept fun k hk=>(dbal (Below.refl w.heap.size w) _).block k (by omega));simp only[hR]at hrd;have HR:=dhid hrd;clear hrd hR;go_enter Tryz.func59,Tryz.ntmps59;go_wp2_with fail
 refine HR.out.mono ?_;rintro r w1 ⟨⟨rfl,he⟩,hb⟩;have z0:w1.cell? ⟨w.heap.size,0,none⟩=some (.slice none 0 0):=cell_kp hb (by simp);have f0:∀k,w1.frozen? ⟨w.heap.size,k,none⟩=false:=fun k=>(hb.frozen (p:=⟨w.heap.size,k,none⟩) (by simp)).trans (by simp)
 have hne:((e:Int) != 0)=true:=by simp;omega
 have HB:=dhid ((dbal (Below.refl w.heap.size w) _).trans (hb.mono (by simp)));clear hb HR;go_wp2_with fail
 refine bodyPost_ret (v:=.tuple #[.agg #[.slice none 0 0],.int .i64 (e:Int),.int .i64 (a:Int)]) (by simp[results,Tryz.results59,go_sem,z0]) rfl ⟨rfl,?_,he⟩;exact HB.out.setCell (Nat.le_refl _) _
theorem cpar_kind(s:ByteArray)(w:World)(hg:9≤w.heap.size)(hG:GV w)(t:JT)(hR:readL s.data.toList=.ok t)(n0:Nd)(hn0:(flat 0 [] t)[0]?=some n0)(hk:n0.kind≠5):Calls Tryz.prog 59 #[.string s] w fun r w'=>r=.returned (.tuple #[.agg #[.slice none 0 0],.int .i64 6,.int .i64 (n0.at':Int)])∧Below w.heap.size w w':=by
 have hrd:=cparse_nd s (w.alloc (.cells #[.slice none 0 0] 92)) (by simp;omega) (hG.kept fun k hk=>(dbal (Below.refl w.heap.size w) _).block k (by omega));simp only[hR]at hrd;have HR:=dhid hrd;have hl0:0<(flat 0 [] t).length:=(List.getElem?_eq_some_iff.1 hn0).1;have hlen:=(read_fit hR).1.len;clear hrd hR;generalize flat 0 [] t=L at *;have kl0:(0:Int)<(L.length:Int):=by omega
 have hne:((n0.kind:Int) != 5)=true:=by simp;omega
 go_enter Tryz.func59,Tryz.ntmps59;go_wp2_with fail
 refine HR.out.mono ?_;rintro r w1 ⟨⟨v,rfl,hx⟩,hb⟩;have z0:w1.cell? ⟨w.heap.size,0,none⟩=some (.slice none 0 0):=cell_kp hb (by simp);have f0:∀k,w1.frozen? ⟨w.heap.size,k,none⟩=false:=fun k=>(hb.frozen (p:=⟨w.heap.size,k,none⟩) (by simp)).trans (by simp)
 have HB:=dhid ((dbal (Below.refl w.heap.size w) _).trans (hb.mono (by simp)));obtain⟨ad,cap,rfl⟩:=hx.shape;obtain⟨g,adk,capk,rfl,_,hkb,hkc,d0,d1,d2,d3,d4,d5⟩:=hx.node hn0;rw[Nat.zero_mul]at d0 d5;rw[Nat.zero_add]at d5;clear hb HR hx hkc d1 d2 d3 d4 hn0;go_wp2_with fail
 go_region
 all_goals go_wp2_with fail
 all_goals refine bodyPost_ret (v:=.tuple #[.agg #[.slice none 0 0],.int .i64 6,.int .i64 (n0.at':Int)]) (by simp[results,Tryz.results59,go_sem,z0]) rfl ⟨rfl,?_⟩
 all_goals exact(HB.out.setCell (Nat.le_refl _) _).drew
theorem cpar_ok(s:ByteArray)(w:World)(hg:9≤w.heap.size)(hG:GV w)(t:JT)(hR:readL s.data.toList=.ok t)(n0:Nd)(hn0:(flat 0 [] t)[0]?=some n0)(hk:n0.kind=5):Calls Tryz.prog 59 #[.string s] w fun r w'=>(∃v,r=.returned (.tuple #[.agg #[v],.int .i64 0,.int .i64 0])∧RR 42 v (flat 0 [] t) w')∧Below w.heap.size w w':=by
 have hrd:=cparse_nd s (w.alloc (.cells #[.slice none 0 0] 92)) (by simp;omega) (hG.kept fun k hk=>(dbal (Below.refl w.heap.size w) _).block k (by omega));simp only[hR]at hrd;have HR:=dhid hrd;have hl0:0<(flat 0 [] t).length:=(List.getElem?_eq_some_iff.1 hn0).1;have hlen:=(read_fit hR).1.len;clear hrd hR;generalize flat 0 [] t=L at *;have kl0:(0:Int)<(L.length:Int):=by omega
 go_enter Tryz.func59,Tryz.ntmps59;go_wp2_with fail
 refine HR.out.mono ?_;rintro r w1 ⟨⟨v,rfl,hx⟩,hb⟩;have z0:w1.cell? ⟨w.heap.size,0,none⟩=some (.slice none 0 0):=cell_kp hb (by simp);have f0:∀k,w1.frozen? ⟨w.heap.size,k,none⟩=false:=fun k=>(hb.frozen (p:=⟨w.heap.size,k,none⟩) (by simp)).trans (by simp)
 have HB:=dhid ((dbal (Below.refl w.heap.size w) _).trans (hb.mono (by simp)));obtain⟨ad,cap,rfl⟩:=hx.shape;obtain⟨g,adk,capk,rfl,_,hkb,hkc,d0,d1,d2,d3,d4,d5⟩:=hx.node hn0;rw[Nat.zero_mul,hk]at d0;have HX:=dhid hx;clear hb HR hx hkc d1 d2 d3 d4 d5 hn0;have HS:=dhid (HX.out.setO hl0 z0 (.slice (some ⟨g,0,none⟩) L.length cap));go_wp2_with fail
 refine bodyPost_ret (v:=.tuple #[.agg #[.slice (some ⟨g,0,none⟩) L.length cap],.int .i64 0,.int .i64 0]) (by simp[results,Tryz.results59,go_sem,z0]) rfl ⟨⟨_,rfl,HS.out⟩,?_⟩;exact HB.out.setCell (Nat.le_refl _) _
end Go.Proofs.YtbbopknnoamkbaaGreatDoor
