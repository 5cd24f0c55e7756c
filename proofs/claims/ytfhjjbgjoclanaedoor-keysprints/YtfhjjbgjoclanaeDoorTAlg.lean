import Derived.Test.YtfhjjbgjoclanaeDoorTKid2
set_option maxHeartbeats 1000000
namespace Go.Proofs.YtfhjjbgjoclanaeDoor
open Go.RowKit
set_option linter.unusedVariables false
def nameB(alg:Int):ByteArray:=if alg=256 then⟨#[72,83,50,53,54]⟩else if alg=384 then⟨#[72,83,51,56,52]⟩else if alg=512 then⟨#[72,83,53,49,50]⟩else⟨#[]⟩
structure WG (w:World):Prop where
 g0:w.cell? ⟨0,0,none⟩=some (.int .i64 256)
 g1:w.cell? ⟨0,1,none⟩=some (.string ⟨#[72,83,50,53,54]⟩)
 g2:w.cell? ⟨0,2,none⟩=some (.int .i64 384)
 g3:w.cell? ⟨0,3,none⟩=some (.string ⟨#[72,83,51,56,52]⟩)
 g4:w.cell? ⟨0,4,none⟩=some (.int .i64 512)
 g5:w.cell? ⟨0,5,none⟩=some (.string ⟨#[72,83,53,49,50]⟩)
theorem tcell_kp{w w':World}(h:Below w.heap.size w w'){g j:Nat}{u:Value}(hc:w.cell? ⟨g,j,none⟩=some u):w'.cell? ⟨g,j,none⟩=some u:=by
 by_cases hg:g<w.heap.size
 ·have:=h.block g hg
  simp only[World.cell?]at hc ⊢;rw[this];exact hc
 ·have:w.heap[g]?=none:=Array.getElem?_eq_none (by omega)
  simp[World.cell?,this]at hc
theorem WG.below{w w':World}(h:WG w)(hb:Below w.heap.size w w'):WG w':=
 ⟨tcell_kp hb h.g0,tcell_kp hb h.g1,tcell_kp hb h.g2,tcell_kp hb h.g3,tcell_kp hb h.g4,tcell_kp hb h.g5⟩
theorem wp_index{P:Program}{ops:Array Oper}{rest:List Oper}{o:Oper}{a:Act}{Q:Exit→Act→World→Prop}{w:World}(hgd:o.guard=none)(t:Nat)(x y:Operand)(ho:o.op=.index t x y)(v:Value)(hr:(Instr.index t (a.eval x) (a.eval y)).run P w=.ok v w)(h:wpList P ops Q rest (a.put o.dst v) w):wpList P ops Q (o::rest) a w:=by
 refine wpList_plain hgd fun K hK=>?_
 unfold Oper.wp execOp;simp only[ho,Sem.run_bind,Sem.run_pure,hr,Result.andThen_ok];exact hK _ _ h
def waysA:Array Value:= #[.int .i64 256,.string ⟨#[72,83,50,53,54]⟩,.int .i64 384,.string ⟨#[72,83,51,56,52]⟩,.int .i64 512,.string ⟨#[72,83,53,49,50]⟩]
theorem ways0(w:World):(Instr.index 64 (.agg waysA) (.int .i64 0)).run Tryd.prog w=.ok (.agg #[.int .i64 256,.string ⟨#[72,83,50,53,54]⟩]) w:=by kernel_rfl
theorem ways1(w:World):(Instr.index 64 (.agg waysA) (.int .i64 1)).run Tryd.prog w=.ok (.agg #[.int .i64 384,.string ⟨#[72,83,51,56,52]⟩]) w:=by kernel_rfl
theorem ways2(w:World):(Instr.index 64 (.agg waysA) (.int .i64 2)).run Tryd.prog w=.ok (.agg #[.int .i64 512,.string ⟨#[72,83,53,49,50]⟩]) w:=by kernel_rfl
def Looked(alg:Int)(w:World)(iv:Value)(wr:World):Prop:=
 (iv=.int .i64 0∨(iv=.int .i64 1∧alg≠256)∨(iv=.int .i64 2∧alg≠256∧alg≠384)∨(iv=.int .i64 3∧alg≠256∧alg≠384∧alg≠512))∧Below w.heap.size w wr
theorem calgName(alg:Int)(w:World)(hG:WG w):Calls Tryd.prog 21 #[.int .i64 alg] w fun r w'=>r=.returned (.string (nameB alg))∧Below w.heap.size w w':=by
 obtain⟨g0,g1,g2,g3,g4,g5⟩:=hG;go_enter Tryd.func21,Tryd.ntmps21;go_wp2_with fail
 clear g0 g1 g2 g3 g4 g5;go_loopw [6] (fun iv wr=>Looked alg w iv wr) (fun iv _=>3-(intOf iv).toNat)
 case atStart=>exact⟨.inl rfl,Below.refl _ _⟩
 case round=>
  obtain⟨rfl|⟨rfl,h1⟩|⟨rfl,h1,h2⟩|⟨rfl,h1,h2,h3⟩,hb⟩:=hrel
  ·have HB:=thid hb
   clear hb;by_cases a1:alg=256
   ·subst a1
    go_wp2_with (refine wp_index rfl 64 _ _ rfl _ (ways0 _) ?_)
    go_ret;exact⟨rfl,tbal HB.out _⟩
   ·have a2:(256==alg)=false:=by simp;omega
    have HA:=thid a1;clear a1;go_wp2_with (refine wp_index rfl 64 _ _ rfl _ (ways0 _) ?_)
    go_roundw
    case rel=>exact⟨.inr (.inl ⟨rfl,HA.out⟩),tbal HB.out _⟩
    case measure=>simp[intOf]
  ·have HB:=thid hb
   have H1:=thid h1;clear hb h1;by_cases a1:alg=384
   ·subst a1
    go_wp2_with (refine wp_index rfl 64 _ _ rfl _ (ways1 _) ?_)
    go_ret;exact⟨rfl,tbal HB.out _⟩
   ·have a2:(384==alg)=false:=by simp;omega
    have HA:=thid a1;clear a1;go_wp2_with (refine wp_index rfl 64 _ _ rfl _ (ways1 _) ?_)
    go_roundw
    case rel=>exact⟨.inr (.inr (.inl ⟨rfl,H1.out,HA.out⟩)),tbal HB.out _⟩
    case measure=>simp[intOf]
  ·have HB:=thid hb
   have H1:=thid h1;have H2:=thid h2;clear hb h1 h2;by_cases a1:alg=512
   ·subst a1
    go_wp2_with (refine wp_index rfl 64 _ _ rfl _ (ways2 _) ?_)
    go_ret;exact⟨rfl,tbal HB.out _⟩
   ·have a2:(512==alg)=false:=by simp;omega
    have HA:=thid a1;clear a1;go_wp2_with (refine wp_index rfl 64 _ _ rfl _ (ways2 _) ?_)
    go_roundw
    case rel=>exact⟨.inr (.inr (.inr ⟨rfl,H1.out,H2.out,HA.out⟩)),tbal HB.out _⟩
    case measure=>simp[intOf]
  ·have HB:=thid hb
   have e:Hid (nameB alg=⟨#[]⟩):=by unfold nameB;rw[if_neg h1,if_neg h2,if_neg h3];exact rfl
   clear hb h1 h2 h3;go_wp2;go_ret;exact⟨by rw[e.out];rfl,HB.out⟩
def keyErr(alg:Int)(kid key:ByteArray):Int:=if sizeN alg=0 then 9 else if isKid kid=false then 11 else if fitsB alg key=false then 10 else 0
theorem name_none(alg:Int):nameB alg=⟨#[]⟩↔sizeN alg=0:=by
 unfold nameB sizeN;repeat' split
 all_goals simp
theorem ccheckKey(alg:Int)(kid key:ByteArray)(w:World)(hG:WG w)(h1:kid.size≤4611686018427387904)(h2:key.size≤4611686018427387904):Calls Tryd.prog 20 #[.agg #[.int .i64 alg,.string kid,.string key]] w fun r w'=>r=.returned (.int .i64 (keyErr alg kid key))∧Below w.heap.size w w':=by
 have hn:=fun w1 (b1:Below w.heap.size w w1)=>calgName alg w1 (hG.below b1)
 have hk:=fun w1=>cKid kid w1 h1
 have hf:=fun w1=>cfits alg key w1 h2
 have hnn:=name_none alg;have HE:Hid (keyErr alg kid key=if sizeN alg=0 then 9 else if isKid kid=false then 11 else if fitsB alg key=false then 10 else 0):=by unfold keyErr;exact rfl
 have HN:=thid hn;have HK:=thid hk;have HF:=thid hf;have HNN:=thid hnn;clear hn hk hf hnn hG;by_cases a1:sizeN alg=0
 ·have e:nameB alg=⟨#[]⟩:=HNN.out.2 a1
  have HN2:=HN.out;rw[e]at HN2;have HN3:=thid HN2;have A1:=thid a1;clear e HN2 HN a1;go_enter Tryd.func20,Tryd.ntmps20;go_wp2_with fail
  refine(HN3.out _ (tbal (Below.refl _ _) _)).mono ?_;rintro r w1 ⟨rfl,hb⟩;have HB:=thid ((tbal (Below.refl w.heap.size w) _).trans (hb.mono (by simp)));clear hb;go_wp2;go_ret;exact⟨by rw[HE.out,if_pos A1.out];rfl,HB.out⟩
 ·have hne:((nameB alg).toList==[])=false:=by
   rw[beq_eq_false_iff_ne,ByteArray.toList_eq];intro h2;exact a1 (HNN.out.1 (by
    generalize nameB alg=q at h2;cases q;simp at h2;simp[h2]))
  have A1:=thid a1;clear a1;generalize nameB alg=nm at *;go_enter Tryd.func20,Tryd.ntmps20;go_wp2_with fail
  refine(HN.out _ (tbal (Below.refl _ _) _)).mono ?_;rintro r w1 ⟨rfl,hb⟩;have c0:w1.cell? ⟨w.heap.size,0,none⟩=some (.int .i64 alg):=tcell_kp hb (by simp);have c1:w1.cell? ⟨w.heap.size,1,none⟩=some (.string kid):=tcell_kp hb (by simp);have c2:w1.cell? ⟨w.heap.size,2,none⟩=some (.string key):=tcell_kp hb (by simp);have HB:=thid ((tbal (Below.refl w.heap.size w) _).trans (hb.mono (by simp)));clear hb;go_wp2_with fail
  refine(HK.out _).mono ?_;rintro r w2 ⟨rfl,hw⟩;rw[hw];clear hw w2;by_cases b1:isKid kid=false
  ·rw[b1]
   have B1:=thid b1;clear b1;go_wp2;go_ret;exact⟨by rw[HE.out,if_neg A1.out,if_pos B1.out];rfl,HB.out⟩
  ·have b2:isKid kid=true:=by simpa using b1
   rw[b2];have B1:=thid b1;clear b1 b2;go_wp2_with fail
   refine(HF.out _).mono ?_;rintro r w2 ⟨rfl,hw⟩;rw[hw];clear hw w2;by_cases d1:fitsB alg key=false
   ·rw[d1]
    have D1:=thid d1;clear d1;go_wp2;go_ret;exact⟨by rw[HE.out,if_neg A1.out,if_neg B1.out,if_pos D1.out];rfl,HB.out⟩
   ·have d2:fitsB alg key=true:=by simpa using d1
    rw[d2];have D1:=thid d1;clear d1 d2;go_wp2;go_ret;exact⟨by rw[HE.out,if_neg A1.out,if_neg B1.out,if_neg D1.out];rfl,HB.out⟩
theorem rwrong(alg:Int)(kid key:ByteArray)(w:World)(h1:kid.size≤4611686018427387904)(h2:key.size≤4611686018427387904):Calls Tryd.prog 15 #[.int .i64 alg,.string kid,.string key] w fun r w'=>r=.returned (.int .i64 (keyErr alg kid key))∧w'=w:=by
 have hn:=fun w1=>rsize alg w1
 have hk:=fun w1=>rKid kid w1 h1
 have hf:=fun w1=>rfits alg key w1 h2
 have HE:Hid (keyErr alg kid key=if sizeN alg=0 then 9 else if isKid kid=false then 11 else if fitsB alg key=false then 10 else 0):=by unfold keyErr;exact rfl
 have HK:=thid hk;have HF:=thid hf;clear hk hf;generalize sizeN alg=q at *;have HN:=thid hn;clear hn;go_enter Tryd.func15,Tryd.ntmps15;go_wp2_with fail
 refine(HN.out _).mono ?_;rintro r w2 ⟨rfl,hw⟩;rw[hw];clear hw w2;by_cases a1:q=0
 ·subst a1
  go_wp2;go_ret;exact⟨by rw[HE.out,if_pos trivial];rfl,rfl⟩
 ·have a2:(q==0)=false:=by simp[a1]
  have A1:=thid a1;clear a1;go_wp2_with fail
  refine(HK.out _).mono ?_;rintro r w2 ⟨rfl,hw⟩;rw[hw];clear hw w2;by_cases b1:isKid kid=false
  ·rw[b1]
   have B1:=thid b1;clear b1;go_wp2;go_ret;exact⟨by rw[HE.out,if_neg A1.out,if_pos B1.out];rfl,rfl⟩
  ·have b2:isKid kid=true:=by simpa using b1
   rw[b2];have B1:=thid b1;clear b1 b2;go_wp2_with fail
   refine(HF.out _).mono ?_;rintro r w2 ⟨rfl,hw⟩;rw[hw];clear hw w2;by_cases d1:fitsB alg key=false
   ·rw[d1]
    have D1:=thid d1;clear d1;go_wp2;go_ret;exact⟨by rw[HE.out,if_neg A1.out,if_neg B1.out,if_pos D1.out];rfl,rfl⟩
   ·have d2:fitsB alg key=true:=by simpa using d1
    rw[d2];have D1:=thid d1;clear d1 d2;go_wp2;go_ret;exact⟨by rw[HE.out,if_neg A1.out,if_neg B1.out,if_neg D1.out];rfl,rfl⟩
end Go.Proofs.YtfhjjbgjoclanaeDoor
