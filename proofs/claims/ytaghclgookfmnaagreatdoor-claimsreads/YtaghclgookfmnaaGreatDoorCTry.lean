import Derived.Test.YtaghclgookfmnaaGreatDoorCSec
set_option maxHeartbeats 1000000
namespace Go.Proofs.YtaghclgookfmnaaGreatDoor
open Go.RowKit
set_option linter.unusedVariables false
structure Onl2 (bp a:Nat) (w w':World):Prop where
 os:w'.os=w.os
 tape:w'.tape=w.tape
 output:w'.output=w.output
 size:w.heap.size≤w'.heap.size
 block:∀k,k<w.heap.size→k≠bp→k≠a→w'.heap[k]?=w.heap[k]?
theorem Onl.two{bp a:Nat}{w w':World}(h:Onl bp w w'):Onl2 bp a w w':=⟨h.os,h.tape,h.output,h.size,fun k hk h1 _=>h.block k hk (fun e=>by injection e with e;exact h1 e)⟩
def secF(bp:Nat):Value:=.func (.func 87) #[.pointer (some ⟨bp,0,none⟩)] #[]
section
variable (bp:Nat) (s:ByteArray) (i:Nat) (vL:Value) (dp a1 a2:Nat) (w:World)
theorem ctry1_ok(hs:s.size≤140737488355328)(h:CD bp s i vL dp w)(hi:i≤s.size)(m:Nat)(hL:lowL (sfx s i)=some m)(h1:w.heap[a1]?=some (.cells #[secF bp] 108 (0,0)))(h2:w.heap[a2]?=some (.cells #[.int .i32 0] 21 (0,0)))(n2:bp≠a2):Calls Tryz.prog 96 #[.pointer (some ⟨a1,0,none⟩),.pointer (some ⟨a2,0,none⟩)] w fun r w'=>r=.returned (.tuple #[])∧CD bp s (i+6) vL dp w'∧w'.heap[a2]?=some (.cells #[.int .i32 (m:Int)] 21 (0,0))∧Onl2 bp a2 w w':=by
 have c1:w.cell? ⟨a1,0,none⟩=some (secF bp):=by rw[cell_of_row w a1 0 _ _ _ h1];rfl
 unfold secF at c1;have hc:=csec bp s i vL dp w hs h hi;rw[hL]at hc;have ha2:a2<w.heap.size:=(Array.getElem?_eq_some_iff.1 h2).1;clear hL h1;go_enter Tryz.func96,Tryz.ntmps96;go_wp2_with fail
 refine hc.mono ?_;rintro e w1 ⟨⟨rfl,g1⟩,o1⟩;clear hc c1;have h3:w1.heap[a2]?=some (.cells #[.int .i32 0] 21 (0,0)):=by rw[o1.block a2 ha2 (fun e=>by injection e with e;exact n2 e.symm)];exact h2
 have O1:Hid (Onl bp w w1):=o1;clear o1;have c2:w1.cell? ⟨a2,0,none⟩=some (.int .i32 0):=by rw[cell_of_row w1 a2 0 _ _ _ h3];rfl
 have f2:w1.frozen? ⟨a2,0,none⟩=false:=by simp[World.frozen?,h3]
 go_wp2;go_end0
 have e2:=setCell_eq_setRow w1 a2 0 _ _ _ (.int .i32 (m:Int)) h3;refine⟨rfl,?_,?_,?_⟩
 ·unfold CD;rw[e2,setRow_other w1 a2 bp _ n2];exact g1
 ·rw[e2];exact setRow_heap w1 a2 _ _ _ _ h3
 ·have o:=O1.out
  refine⟨by rw[e2];exact o.os,by rw[e2];exact o.tape,by rw[e2];exact o.output,by rw[e2];have:=o.size;simpa [World.setRow]using this,?_⟩;intro k hk k1 k2;rw[e2,setRow_other w1 a2 k _ k2];exact o.block k hk (fun e=>by injection e with e;exact k1 e)
theorem ctry1_bad(hs:s.size≤140737488355328)(h:CD bp s i vL dp w)(hi:i≤s.size)(hL:lowL (sfx s i)=none)(h1:w.heap[a1]?=some (.cells #[secF bp] 108 (0,0))):Calls Tryz.prog 96 #[.pointer (some ⟨a1,0,none⟩),.pointer (some ⟨a2,0,none⟩)] w fun r w'=>∃a j,r=.panicked (flt 2 a)∧CD bp s j vL dp w'∧Onl bp w w':=by
 have c1:w.cell? ⟨a1,0,none⟩=some (secF bp):=by rw[cell_of_row w a1 0 _ _ _ h1];rfl
 unfold secF at c1;have hc:=csec bp s i vL dp w hs h hi;rw[hL]at hc;clear hL h1;go_enter Tryz.func96,Tryz.ntmps96;go_wp2_with fail
 refine hc.mono ?_;rintro e w1 ⟨⟨a,j,rfl,g1⟩,o1⟩;clear hc c1;have O1:Hid (Onl bp w w1):=o1;clear o1;go_wp2;exact⟨rfl,_,_,rfl,g1,O1.out⟩
theorem cell_al{w:World}{b k:Nat}(hb:b<w.heap.size)(o:Obj):(w.alloc o).cell? ⟨b,k,none⟩=w.cell? ⟨b,k,none⟩:=by
 unfold World.cell?;simp[heap_alloc_old _ _ hb]
theorem frozen_al{w:World}{b k:Nat}(hb:b<w.heap.size)(o:Obj):(w.alloc o).frozen? ⟨b,k,none⟩=w.frozen? ⟨b,k,none⟩:=by
 unfold World.frozen?;simp[heap_alloc_old _ _ hb]
def TP(bp:Nat)(s:ByteArray)(i:Nat)(vL:Value)(dp:Nat)(r:Ending)(w':World):Option Nat→Prop
 | some m=>r=.returned (.tuple #[.int .i32 (m:Int),.bool true])∧CD bp s (i+6) vL dp w'
 | none=>r=.returned (.tuple #[.int .i32 0,.bool false])∧CD bp s i vL dp w'
theorem ctry(hs:s.size≤140737488355328)(h:CD bp s i vL dp w)(hi:i≤s.size):Calls Tryz.prog 86 #[.pointer (some ⟨bp,0,none⟩),secF bp] w fun r w'=>TP bp s i vL dp r w' (lowL (sfx s i))∧Onl bp w w':=by
 have hmf:∀(fn:Fn) (first cap:Array Value) (w:World),(Instr.makeFunc fn first cap).run Tryz.prog w=.ok (.func fn first cap) w:=fun _ _ _ _=>rfl
 have hlt:=h.lt;obtain⟨c0,c1,c2,c3,cf⟩:=h.cell;cases hL:lowL (sfx s i)with
 | some m=>
   generalize hW:(((w.alloc (.cells #[secF bp] 108)).alloc (.cells #[.int .i32 0] 21)).alloc (.cells #[.string s,.int .i64 (i:Int)] 73))=W;have hsz:W.heap.size=w.heap.size+3:=by subst hW;simp
   have b0:W.heap[w.heap.size]?=some (.cells #[secF bp] 108 (0,0)):=by
    subst hW;rw[heap_alloc_old _ _ (by simp;omega),heap_alloc_old _ _ (by simp),heap_alloc_new]
   have b1:W.heap[w.heap.size+1]?=some (.cells #[.int .i32 0] 21 (0,0)):=by
    subst hW;rw[heap_alloc_old _ _ (by simp)];have:=heap_alloc_new (w.alloc (.cells #[secF bp] 108)) (.cells #[.int .i32 0] 21);simpa using this
   have gW:CD bp s i vL dp W:=by subst hW;exact((h.alloc _).alloc _).alloc _
   have oW:Hid (Onl bp w W):=by subst hW;exact(((onl_refl bp w).alloc _).alloc _).alloc _
   have HW:Hid _:=hW;clear hW;have hT:=ctry1_ok bp s i vL dp w.heap.size (w.heap.size+1) (W.alloc (.cells #[.int .i64 0,.int .i64 0] 77)) hs (gW.alloc _) hi m hL (by rw[heap_alloc_old _ _ (by omega)];exact b0) (by rw[heap_alloc_old _ _ (by omega)];exact b1) (by omega)
   have hC:=ccatch_try_ok w.heap.size (w.heap.size+1) W (fun w2=>CD bp s (i+6) vL dp w2∧w2.heap[w.heap.size+1]?=some (.cells #[.int .i32 (m:Int)] 21 (0,0))∧Onl bp w w2)
    (hT.mono (by
      rintro r w2 ⟨rfl,g2,q2,o2⟩;refine⟨rfl,?_,g2,q2,?_⟩
      ·rw[o2.block W.heap.size (by simp) (by omega) (by omega)];exact heap_alloc_new W _
      ·have oW:=oW.out
       refine⟨o2.os.trans oW.os,o2.tape.trans oW.tape,o2.output.trans oW.output,by have:=o2.size;simp at this;omega,?_⟩;intro k hk hn;rw[o2.block k (by simp;omega) (fun e=>hn (by rw[e])) (by omega),heap_alloc_old _ _ (by omega)];exact oW.block k hk hn))
   have hC2:=hC.mono (R':=fun r w3=>r=.returned (fv 0 0)∧CD bp s (i+6) vL dp w3∧w3.heap[w.heap.size+1]?=some (.cells #[.int .i32 (m:Int)] 21 (0,0))∧Onl bp w w3∧w.heap.size+1<w3.heap.size) (by
    rintro r w3 ⟨rfl,w2,⟨g2,q2,o2⟩,o3⟩;have l2:w.heap.size+1<w2.heap.size:=(Array.getElem?_eq_some_iff.1 q2).1;have e1:w3.heap[w.heap.size+1]?=w2.heap[w.heap.size+1]?:=o3.block _ l2 (fun e=>by injection e with e;omega);refine⟨rfl,?_,e1.trans q2,?_,by have:=o3.size;omega⟩
    ·exact(o3.block bp g2.lt (fun e=>by injection e with e;omega)).trans g2
    ·exact⟨o3.os.trans o2.os,o3.tape.trans o2.tape,o3.output.trans o2.output,Nat.le_trans o2.size o3.size,fun k hk hn=>(o3.block k (by omega) (fun e=>by injection e with e;omega)).trans (o2.block k hk hn)⟩)
   clear hC;rw[←HW.out]at hC2;unfold secF at hC2 ⊢;clear hT b0 b1 gW hL oW HW hsz W;go_enter Tryz.func86,Tryz.ntmps86;go_wp2_with fail
   refine hC2.mono ?_;rintro e w3 ⟨rfl,g3,q3,o3,l3⟩;clear hC2 c0 c1 c2 c3 cf;unfold fv;have G3:Hid (CD bp s (i+6) vL dp w3):=g3;have O3:Hid (Onl bp w w3):=o3;have Q3:Hid _:=q3;have q4:w3.cell? ⟨w.heap.size+1,0,none⟩=some (.int .i32 (m:Int)):=by rw[cell_of_row w3 _ 0 _ _ _ q3];rfl
   have f4:w3.frozen? ⟨w.heap.size+1,0,none⟩=false:=by simp[World.frozen?,q3]
   have q5:∀o,(w3.alloc o).cell? ⟨w.heap.size+1,0,none⟩=some (.int .i32 (m:Int)):=fun o=>by rw[cell_al l3];exact q4
   have f5:∀o,(w3.alloc o).frozen? ⟨w.heap.size+1,0,none⟩=false:=fun o=>by rw[frozen_al l3];exact f4
   clear g3 o3 q3;go_wp2;have e2:=setCell_eq_setRow w3 (w.heap.size+1) 0 _ _ _ (.int .i32 (m:Int)) Q3.out;have r2:=setRow_heap w3 (w.heap.size+1) _ (#[.int .i32 (m:Int)]) _ _ Q3.out;have hcell:((w3.setCell ⟨w.heap.size+1,0,none⟩ (.int .i32 (m:Int))).alloc (.cells #[.int .i64 0,.int .i64 0] 77)).cell? ⟨w.heap.size+1,0,none⟩=some (.int .i32 (m:Int)):=by
    rw[e2,cell_al (by simpa [World.setRow]using l3)];exact cell_of_row _ _ 0 _ _ _ r2
   refine bodyPost_ret (v:=.tuple #[.int .i32 (m:Int),.bool true]) (by simp[results,Tryz.results86,go_sem,hcell]) rfl ?_;refine⟨⟨rfl,?_⟩,?_⟩
   ·refine CD.alloc ?_ _
    rw[e2];exact(setRow_other w3 _ bp _ (by omega)).trans G3.out
   ·refine Onl.alloc ?_ _
    exact Onl.setNew O3.out Q3.out (by omega) 0 _
 | none=>
   generalize hW:(((w.alloc (.cells #[secF bp] 108)).alloc (.cells #[.int .i32 0] 21)).alloc (.cells #[.string s,.int .i64 (i:Int)] 73))=W;have hsz:W.heap.size=w.heap.size+3:=by subst hW;simp
   have b0:W.heap[w.heap.size]?=some (.cells #[secF bp] 108 (0,0)):=by
    subst hW;rw[heap_alloc_old _ _ (by simp;omega),heap_alloc_old _ _ (by simp),heap_alloc_new]
   have b1:W.heap[w.heap.size+1]?=some (.cells #[.int .i32 0] 21 (0,0)):=by
    subst hW;rw[heap_alloc_old _ _ (by simp)];have:=heap_alloc_new (w.alloc (.cells #[secF bp] 108)) (.cells #[.int .i32 0] 21);simpa using this
   have b2:W.heap[w.heap.size+1+1]?=some (.cells #[.string s,.int .i64 (i:Int)] 73 (0,0)):=by
    subst hW;have:=heap_alloc_new ((w.alloc (.cells #[secF bp] 108)).alloc (.cells #[.int .i32 0] 21)) (.cells #[.string s,.int .i64 (i:Int)] 73);simpa using this
   have gW:CD bp s i vL dp W:=by subst hW;exact((h.alloc _).alloc _).alloc _
   have oW:Hid (Onl bp w W):=by subst hW;exact(((onl_refl bp w).alloc _).alloc _).alloc _
   have HW:Hid _:=hW;clear hW;have hT:=ctry1_bad bp s i vL dp w.heap.size (w.heap.size+1) (W.alloc (.cells #[.int .i64 0,.int .i64 0] 77)) hs (gW.alloc _) hi hL (by rw[heap_alloc_old _ _ (by omega)];exact b0)
   have hC:=ccatch_try_bad w.heap.size (w.heap.size+1) W 2 (fun _ w2=>(∃j,CD bp s j vL dp w2)∧w2.heap[w.heap.size+1]?=some (.cells #[.int .i32 0] 21 (0,0))∧w2.heap[w.heap.size+1+1]?=some (.cells #[.string s,.int .i64 (i:Int)] 73 (0,0))∧Onl bp w w2)
    (hT.mono (by
      rintro r w2 ⟨a,j,rfl,g2,o2⟩;have hz:∀k,k<W.heap.size→k≠bp→w2.heap[k]?=W.heap[k]?:=fun k hk hn=>by
       rw[o2.block k (by simp;omega) (fun e=>by injection e with e;exact hn e),heap_alloc_old _ _ hk]
      refine⟨a,rfl,?_,⟨j,g2⟩,?_,?_,?_⟩
      ·rw[o2.block W.heap.size (by simp) (fun e=>by injection e with e;omega)];exact heap_alloc_new W _
      ·rw[hz _ (by omega) (by omega)];exact b1
      ·rw[hz _ (by omega) (by omega)];exact b2
      ·have oW:=oW.out
       refine⟨o2.os.trans oW.os,o2.tape.trans oW.tape,o2.output.trans oW.output,by have:=o2.size;simp at this;omega,?_⟩;intro k hk hn;rw[hz k (by omega) (fun e=>hn (by rw[e]))];exact oW.block k hk hn))
   have hC2:=hC.mono (R':=fun r w3=>∃a,r=.returned (fv 2 a)∧(∃j,CD bp s j vL dp w3)∧w3.heap[w.heap.size+1]?=some (.cells #[.int .i32 0] 21 (0,0))∧w3.heap[w.heap.size+1+1]?=some (.cells #[.string s,.int .i64 (i:Int)] 73 (0,0))∧Onl bp w w3∧w.heap.size+1+1<w3.heap.size) (by
    rintro r w3 ⟨a,rfl,w2,⟨⟨j,g2⟩,q2,y2,o2⟩,o3⟩;have l2:w.heap.size+1+1<w2.heap.size:=(Array.getElem?_eq_some_iff.1 y2).1;have e1:w3.heap[w.heap.size+1]?=w2.heap[w.heap.size+1]?:=o3.block _ (by omega) (fun e=>by injection e with e;omega);have e2:w3.heap[w.heap.size+1+1]?=w2.heap[w.heap.size+1+1]?:=o3.block _ (by omega) (fun e=>by injection e with e;omega);refine⟨a,rfl,⟨j,?_⟩,e1.trans q2,e2.trans y2,?_,by have:=o3.size;omega⟩
    ·exact(o3.block bp g2.lt (fun e=>by injection e with e;omega)).trans g2
    ·exact⟨o3.os.trans o2.os,o3.tape.trans o2.tape,o3.output.trans o2.output,Nat.le_trans o2.size o3.size,fun k hk hn=>(o3.block k (by omega) (fun e=>by injection e with e;omega)).trans (o2.block k hk hn)⟩)
   clear hC;rw[←HW.out]at hC2;unfold secF at hC2 ⊢;clear hT b0 b1 b2 gW hL oW HW hsz W;go_enter Tryz.func86,Tryz.ntmps86;go_wp2_with fail
   refine hC2.mono ?_;rintro e w3 ⟨a,rfl,⟨j,g3⟩,q3,y3,o3,l3⟩;clear hC2 c0 c1 c2 c3 cf;unfold fv;have G3:Hid (CD bp s j vL dp w3):=g3;have O3:Hid (Onl bp w w3):=o3;have Q3:Hid _:=q3;have l2:w.heap.size+1<w3.heap.size:=by omega
   have lb:bp<w3.heap.size:=g3.lt;obtain⟨c0,c1,c2,c3,cf⟩:=g3.cell;have q5:w3.cell? ⟨w.heap.size+1,0,none⟩=some (.int .i32 0):=by rw[cell_of_row w3 _ 0 _ _ _ q3];rfl
   have f5:w3.frozen? ⟨w.heap.size+1,0,none⟩=false:=by simp[World.frozen?,q3]
   have y5:w3.cell? ⟨w.heap.size+1+1,0,none⟩=some (.string s):=by rw[cell_of_row w3 _ 0 _ _ _ y3];rfl
   have y6:w3.cell? ⟨w.heap.size+1+1,1,none⟩=some (.int .i64 (i:Int)):=by rw[cell_of_row w3 _ 1 _ _ _ y3];rfl
   have b7:=cf 0;have b8:=cf 1;have nb1:¬bp=w.heap.size+1:=by omega
   have nb2:¬w.heap.size+1=bp:=by omega
   clear g3 o3 q3 y3 c2 c3 cf;go_wp2;have g4:CD bp s j vL dp (w3.setCell ⟨bp,0,none⟩ (.string s)):=by
    unfold CD;rw[setCell_eq_setRow w3 bp 0 _ _ _ _ G3.out];exact setRow_heap w3 bp _ _ _ _ G3.out
   have o4:Onl bp w (w3.setCell ⟨bp,0,none⟩ (.string s)):=Onl.setCell O3.out _ G3.out;have q4:(w3.setCell ⟨bp,0,none⟩ (.string s)).heap[w.heap.size+1]?=some (.cells #[.int .i32 0] 21 (0,0)):=by
    rw[setCell_eq_setRow w3 bp 0 _ _ _ _ G3.out,setRow_other w3 bp _ _ nb2];exact Q3.out
   have g5:=g4.setI i;have o5:=Onl.setCell (k:=1) o4 (.int .i64 (i:Int)) g4;have q6:((w3.setCell ⟨bp,0,none⟩ (.string s)).setCell ⟨bp,1,none⟩ (.int .i64 (i:Int))).heap[w.heap.size+1]?=some (.cells #[.int .i32 0] 21 (0,0)):=by
    rw[setCell_eq_setRow _ bp 1 _ _ _ _ g4,setRow_other _ bp _ _ nb2];exact q4
   generalize (w3.setCell ⟨bp,0,none⟩ (.string s)).setCell ⟨bp,1,none⟩ (.int .i64 (i:Int))=w5 at g5 o5 q6 ⊢;have l5:w.heap.size+1<w5.heap.size:=(Array.getElem?_eq_some_iff.1 q6).1;have e2:=setCell_eq_setRow w5 (w.heap.size+1) 0 _ _ _ (.int .i32 0) q6;have r2:=setRow_heap w5 (w.heap.size+1) _ (#[.int .i32 0]) _ _ q6;have hcell:((w5.setCell ⟨w.heap.size+1,0,none⟩ (.int .i32 0)).alloc (.cells #[.int .i64 2,.int .i64 (a:Int)] 77)).cell? ⟨w.heap.size+1,0,none⟩=some (.int .i32 0):=by
    rw[e2,cell_al (by simpa [World.setRow]using l5)];exact cell_of_row _ _ 0 _ _ _ r2
   refine bodyPost_ret (v:=.tuple #[.int .i32 0,.bool false]) (by simp[results,Tryz.results86,go_sem,hcell]) rfl ?_;refine⟨⟨rfl,?_⟩,?_⟩
   ·refine CD.alloc ?_ _
    rw[e2];exact(setRow_other w5 _ bp _ (by omega)).trans g5
   ·refine Onl.alloc ?_ _
    exact Onl.setNew o5 q6 (by omega) 0 _
end
end Go.Proofs.YtaghclgookfmnaaGreatDoor
