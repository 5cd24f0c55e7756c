import Derived.Test.YtaghclgookfmnaaGreatDoorCTake
import Derived.Defers
import Derived.Recover
set_option maxHeartbeats 1000000
namespace Go.Proofs.YtaghclgookfmnaaGreatDoor
open Go.RowKit
set_option linter.unusedVariables false
theorem as_fault(v:Value)(w:World):(Instr.typeAssert (.iface 77 v) 20 77 false).run Tryz.prog w=.ok v w:=by kernel_rfl
theorem ccatch_pan(b:Nat)(x y:Value)(e a:Nat)(older:List PanicEntry)(w:World)(hc:w.heap[b]?=some (.cells #[x,y] 77 (0,0))):CallsD Tryz.prog 41 #[.pointer (some ⟨b,0,none⟩)] (.panicking ({v:=.iface 77 (fv e a),recovered:=false}::older)) w fun r u' w'=>
 r=.returned (.tuple #[])∧u'=.panicking ({v:=.iface 77 (fv e a),recovered:=true}::older)∧w'=(w.setCell ⟨b,0,none⟩ (.int .i64 (e:Int))).setCell ⟨b,1,none⟩ (.int .i64 (a:Int)):=by
 have c0:w.cell? ⟨b,0,none⟩=some x:=by rw[cell_of_row w b 0 _ _ _ hc];rfl
 have c1:w.cell? ⟨b,1,none⟩=some y:=by rw[cell_of_row w b 1 _ _ _ hc];rfl
 have cf:∀k,w.frozen? ⟨b,k,none⟩=false:=by intro k;simp[World.frozen?,hc]
 refine callsD_of_wpS Tryz.func41 rfl fun c₀ cs hu=>?_
 apply wpS_seq;apply wpS_region;simp[wpOpsS,go_sem,recoverD,hu,Tryz.ntmps41,Exit.thenS];apply wpS_seq;apply wpS_region;simp[wpOpsS,go_sem,Exit.thenS,fv];refine wpS_cond (t:=true) (by simp[Act.eval,Array.replicate]) ?_;simp only[if_true];have hta:=as_fault;have f0:=cf 0;have f1:=cf 1;refine wpS_of_wp ?_;change Code.wp _ _ _ ⟨#[.pointer (some ⟨b,0,none⟩),.iface 77 (.agg #[.int .i64 (e:Int),.int .i64 (a:Int)]),.iface 77 (.agg #[.int .i64 (e:Int),.int .i64 (a:Int)]),.iface 77 (.agg #[.int .i64 (e:Int),.int .i64 (a:Int)]),.bool true,undef,undef],[]⟩ w;go_wp2;simp[bodyPostS,results,Tryz.results41]
theorem ccatch_idle(b:Nat)(w:World):CallsD Tryz.prog 41 #[.pointer (some ⟨b,0,none⟩)] .returning w fun r u' w'=>r=.returned (.tuple #[])∧u'=.returning∧w'=w:=by
 refine callsD_of_wpS Tryz.func41 rfl fun c₀ cs hu=>?_
 apply wpS_seq;apply wpS_region;simp[wpOpsS,go_sem,recoverD,hu,Tryz.ntmps41,Exit.thenS];apply wpS_seq;apply wpS_region;simp[wpOpsS,go_sem,Exit.thenS];refine wpS_cond (t:=false) (by simp[Act.eval,Array.replicate]) ?_;simp only[Bool.false_eq_true,if_false];refine wpS_of_wp (wp_skip ?_);cases c₀;simp_all [bodyPostS,results,Tryz.results41]
theorem ccatch_text_bad(bp:Nat)(w:World)(e:Nat)(S:Nat→World→Prop)(hr:Calls Tryz.prog 30 #[.pointer (some ⟨bp,0,none⟩)] (w.alloc (.cells #[.int .i64 0,.int .i64 0] 77)) fun r w2=>∃a,r=.panicked (flt e a)∧w2.heap[w.heap.size]?=some (.cells #[.int .i64 0,.int .i64 0] 77 (0,0))∧S a w2):Calls Tryz.prog 29 #[.func (.func 30) #[.pointer (some ⟨bp,0,none⟩)] #[]] w fun r w'=>∃a,r=.returned (fv e a)∧∃w2,S a w2∧Onl w.heap.size w2 w':=by
 have hmf:∀(fn:Fn) (first cap:Array Value) (w:World),(Instr.makeFunc fn first cap).run Tryz.prog w=.ok (.func fn first cap) w:=fun _ _ _ _=>rfl
 go_enter_defers Tryz.func29,Tryz.ntmps29
 go_wp2_with fail
 refine hr.mono ?_;rintro r w2 ⟨a,rfl,hc,hS⟩;go_wp2;refine leaves_cons (f:=41) (args:= #[.pointer (some ⟨w.heap.size,0,none⟩)]) (by simp) (by simp[go_sem]) ?_;refine(ccatch_pan w.heap.size _ _ e a [] _ hc).mono ?_;rintro r u' w3 ⟨rfl,rfl,rfl⟩;have c0:=cell_of_row w2 w.heap.size 0 _ _ _ hc;have c1:=cell_of_row w2 w.heap.size 1 _ _ _ hc;have O1:Onl w.heap.size w2 ((w2.setCell ⟨w.heap.size,0,none⟩ (.int .i64 (e:Int))).setCell ⟨w.heap.size,1,none⟩ (.int .i64 (a:Int))):=Onl.setCell (Onl.setCell (onl_refl _ w2) _ hc) _ (by rw[setCell_eq_setRow w2 _ 0 _ _ _ _ hc];exact setRow_heap w2 _ _ _ _ _ hc);simp[Leaves,settle,results,Tryz.results29,go_sem,c0,c1,fv];exact⟨a,rfl,w2,hS,O1⟩
theorem ccatch_text_ok(bp:Nat)(w:World)(S:World→Prop)(hr:Calls Tryz.prog 30 #[.pointer (some ⟨bp,0,none⟩)] (w.alloc (.cells #[.int .i64 0,.int .i64 0] 77)) fun r w2=>r=.returned (.tuple #[])∧w2.heap[w.heap.size]?=some (.cells #[.int .i64 0,.int .i64 0] 77 (0,0))∧S w2):Calls Tryz.prog 29 #[.func (.func 30) #[.pointer (some ⟨bp,0,none⟩)] #[]] w fun r w'=>r=.returned (fv 0 0)∧∃w2,S w2∧Onl w.heap.size w2 w':=by
 have hmf:∀(fn:Fn) (first cap:Array Value) (w:World),(Instr.makeFunc fn first cap).run Tryz.prog w=.ok (.func fn first cap) w:=fun _ _ _ _=>rfl
 go_enter_defers Tryz.func29,Tryz.ntmps29
 go_wp2_with fail
 refine hr.mono ?_;rintro r w2 ⟨rfl,hc,hS⟩;have c0:=cell_of_row w2 w.heap.size 0 _ _ _ hc;have c1:=cell_of_row w2 w.heap.size 1 _ _ _ hc;have f0:w2.frozen? ⟨w.heap.size,0,none⟩=false:=by simp[World.frozen?,hc]
 have f1:w2.frozen? ⟨w.heap.size,1,none⟩=false:=by simp[World.frozen?,hc]
 go_wp2;refine leaves_cons (f:=41) (args:= #[.pointer (some ⟨w.heap.size,0,none⟩)]) (by simp) (by simp[go_sem]) ?_;refine(ccatch_idle w.heap.size _).mono ?_;rintro r u' w3 ⟨rfl,rfl,rfl⟩;have O1:Onl w.heap.size w2 ((w2.setCell ⟨w.heap.size,0,none⟩ (.int .i64 0)).setCell ⟨w.heap.size,1,none⟩ (.int .i64 0)):=Onl.setCell (Onl.setCell (onl_refl _ w2) _ hc) _ (by rw[setCell_eq_setRow w2 _ 0 _ _ _ _ hc];exact setRow_heap w2 _ _ _ _ _ hc);simp[Leaves,settle,results,Tryz.results29,go_sem,c0,c1,fv];exact⟨w2,hS,O1⟩
theorem ccatch_try_bad(a1 a2:Nat)(w:World)(e:Nat)(S:Nat→World→Prop)(hr:Calls Tryz.prog 96 #[.pointer (some ⟨a1,0,none⟩),.pointer (some ⟨a2,0,none⟩)] (w.alloc (.cells #[.int .i64 0,.int .i64 0] 77)) fun r w2=>∃a,r=.panicked (flt e a)∧w2.heap[w.heap.size]?=some (.cells #[.int .i64 0,.int .i64 0] 77 (0,0))∧S a w2):Calls Tryz.prog 29 #[.func (.func 96) #[] #[.pointer (some ⟨a1,0,none⟩),.pointer (some ⟨a2,0,none⟩)]] w fun r w'=>∃a,r=.returned (fv e a)∧∃w2,S a w2∧Onl w.heap.size w2 w':=by
 have hmf:∀(fn:Fn) (first cap:Array Value) (w:World),(Instr.makeFunc fn first cap).run Tryz.prog w=.ok (.func fn first cap) w:=fun _ _ _ _=>rfl
 go_enter_defers Tryz.func29,Tryz.ntmps29
 go_wp2_with fail
 refine hr.mono ?_;rintro r w2 ⟨a,rfl,hc,hS⟩;go_wp2;refine leaves_cons (f:=41) (args:= #[.pointer (some ⟨w.heap.size,0,none⟩)]) (by simp) (by simp[go_sem]) ?_;refine(ccatch_pan w.heap.size _ _ e a [] _ hc).mono ?_;rintro r u' w3 ⟨rfl,rfl,rfl⟩;have c0:=cell_of_row w2 w.heap.size 0 _ _ _ hc;have c1:=cell_of_row w2 w.heap.size 1 _ _ _ hc;have O1:Onl w.heap.size w2 ((w2.setCell ⟨w.heap.size,0,none⟩ (.int .i64 (e:Int))).setCell ⟨w.heap.size,1,none⟩ (.int .i64 (a:Int))):=Onl.setCell (Onl.setCell (onl_refl _ w2) _ hc) _ (by rw[setCell_eq_setRow w2 _ 0 _ _ _ _ hc];exact setRow_heap w2 _ _ _ _ _ hc);simp[Leaves,settle,results,Tryz.results29,go_sem,c0,c1,fv];exact⟨a,rfl,w2,hS,O1⟩
theorem ccatch_try_ok(a1 a2:Nat)(w:World)(S:World→Prop)(hr:Calls Tryz.prog 96 #[.pointer (some ⟨a1,0,none⟩),.pointer (some ⟨a2,0,none⟩)] (w.alloc (.cells #[.int .i64 0,.int .i64 0] 77)) fun r w2=>r=.returned (.tuple #[])∧w2.heap[w.heap.size]?=some (.cells #[.int .i64 0,.int .i64 0] 77 (0,0))∧S w2):Calls Tryz.prog 29 #[.func (.func 96) #[] #[.pointer (some ⟨a1,0,none⟩),.pointer (some ⟨a2,0,none⟩)]] w fun r w'=>r=.returned (fv 0 0)∧∃w2,S w2∧Onl w.heap.size w2 w':=by
 have hmf:∀(fn:Fn) (first cap:Array Value) (w:World),(Instr.makeFunc fn first cap).run Tryz.prog w=.ok (.func fn first cap) w:=fun _ _ _ _=>rfl
 go_enter_defers Tryz.func29,Tryz.ntmps29
 go_wp2_with fail
 refine hr.mono ?_;rintro r w2 ⟨rfl,hc,hS⟩;have c0:=cell_of_row w2 w.heap.size 0 _ _ _ hc;have c1:=cell_of_row w2 w.heap.size 1 _ _ _ hc;have f0:w2.frozen? ⟨w.heap.size,0,none⟩=false:=by simp[World.frozen?,hc]
 have f1:w2.frozen? ⟨w.heap.size,1,none⟩=false:=by simp[World.frozen?,hc]
 go_wp2;refine leaves_cons (f:=41) (args:= #[.pointer (some ⟨w.heap.size,0,none⟩)]) (by simp) (by simp[go_sem]) ?_;refine(ccatch_idle w.heap.size _).mono ?_;rintro r u' w3 ⟨rfl,rfl,rfl⟩;have O1:Onl w.heap.size w2 ((w2.setCell ⟨w.heap.size,0,none⟩ (.int .i64 0)).setCell ⟨w.heap.size,1,none⟩ (.int .i64 0)):=Onl.setCell (Onl.setCell (onl_refl _ w2) _ hc) _ (by rw[setCell_eq_setRow w2 _ 0 _ _ _ _ hc];exact setRow_heap w2 _ _ _ _ _ hc);simp[Leaves,settle,results,Tryz.results29,go_sem,c0,c1,fv];exact⟨w2,hS,O1⟩
end Go.Proofs.YtaghclgookfmnaaGreatDoor
