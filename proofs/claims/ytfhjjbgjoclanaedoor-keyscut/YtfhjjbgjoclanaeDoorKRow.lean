import Derived.Test.YtfhjjbgjoclanaeDoorTAlg
import Derived.Laws.AppendOwn
import Derived.Laws.AppendOwnNone
import Derived.Deep.AppendSrc
import Derived.Deep.DeepAppendWide
set_option maxHeartbeats 1000000
namespace Go.Proofs.YtfhjjbgjoclanaeDoor
open Go.RowKit
set_option linter.unusedVariables false
structure Ky where
 alg:Int
 kid:ByteArray
 key:ByteArray
def kyV(k:Ky):List Value:=[.int .i64 k.alg,.string k.kid,.string k.key]
def KR(w:World)(v:Value)(ks:List Ky):Prop:=
 ∃ad cap,v=.slice ad ks.length cap∧ks.length≤cap∧∀(j:Nat) (k:Ky),ks[j]?=some k→∃g off,ad=some ⟨g,off,none⟩∧w.cell? ⟨g,off+j*3,none⟩=some (.int .i64 k.alg)∧w.cell? ⟨g,off+j*3+1,none⟩=some (.string k.kid)∧w.cell? ⟨g,off+j*3+2,none⟩=some (.string k.key)
theorem KR.keep{w w':World}{v:Value}{ks:List Ky}(h:KR w v ks)(hc:∀g j u,w.cell? ⟨g,j,none⟩=some u→w'.cell? ⟨g,j,none⟩=some u):KR w' v ks:=by
 obtain⟨ad,cap,h1,h0,h2⟩:=h;refine⟨ad,cap,h1,h0,fun j k hj=>?_⟩;obtain⟨g,off,a,b,c,d⟩:=h2 j k hj;exact⟨g,off,a,hc _ _ _ b,hc _ _ _ c,hc _ _ _ d⟩
theorem KR.below{w w':World}{v:Value}{ks:List Ky}(h:KR w v ks)(hb:Below w.heap.size w w'):KR w' v ks:=h.keep fun g j u hc=>tcell_kp hb hc
theorem KR.shape{w:World}{v:Value}{ks:List Ky}(h:KR w v ks):∃ad cap,v=.slice ad ks.length cap:=by
 obtain⟨ad,cap,h,_⟩:=h;exact⟨ad,cap,h⟩
theorem KR.take{w:World}{ad:Option Addr}{n cap:Nat}{ks:List Ky}(h:KR w (.slice ad n cap) ks)(m:Nat)(hm:m≤ks.length):KR w (.slice ad m cap) (ks.take m):=by
 obtain⟨ad',cap',h1,h0,h2⟩:=h;injection h1 with e1 e2 e3;subst e1 e3;refine⟨ad,cap,by rw[List.length_take,Nat.min_eq_left hm],by rw[List.length_take];omega,fun j k hj=>?_⟩;refine h2 j k ?_;rw[List.getElem?_take]at hj;by_cases hjm:j<m
 ·simpa [hjm]using hj
 ·simp[hjm]at hj
def flatK(ks:List Ky):List Value:=ks.flatMap kyV
theorem flatK_len(ks:List Ky):(flatK ks).length=ks.length*3:=by
 induction ks with
 | nil=>rfl
 | cons k ks ih=>simp only[flatK,List.flatMap_cons,List.length_append]at ih ⊢;rw[ih];simp[kyV];omega
theorem flatK_get(ks:List Ky)(j:Nat)(k:Ky)(h:ks[j]?=some k)(i:Nat)(v:Value)(hv:(kyV k)[i]?=some v):(flatK ks)[j*3+i]?=some v:=by
 have hi:i<3:=by have:=(List.getElem?_eq_some_iff.1 hv).1;simpa [kyV]using this
 induction ks generalizing j with
 | nil=>simp at h
 | cons k0 ks ih=>
   cases j with
   | zero=>
     simp at h;subst h;simp only[flatK,List.flatMap_cons,Nat.zero_mul,Nat.zero_add];rw[List.getElem?_append_left (by simp[kyV];omega)];exact hv
   | succ j=>
     simp at h;have:=ih j h;simp only[flatK,List.flatMap_cons]at this ⊢;rw[List.getElem?_append_right (by simp[kyV];omega)];rw[show(j+1)*3+i-(kyV k0).length=j*3+i by simp[kyV];omega];exact this
theorem flatK_snoc(ks:List Ky)(k:Ky):flatK (ks++[k])=flatK ks++kyV k:=by simp[flatK]
theorem KR.of{B:Nat}{e:TypeId}{w:World}{v:Value}{ks:List Ky}(h:w.ownsRow B e 3 v ks.length (flatK ks)):KR w v ks:=by
 have hadd:∀(g j:Nat),(⟨g,0,none⟩:Addr).add j=⟨g,j,none⟩:=fun g j=>by unfold Addr.add;split<;>simp_all
 rcases h.2 with⟨a,b⟩|⟨g,c,cu,a,_,_,hnc,_⟩
 ·refine⟨none,0,by rw[a,b],by omega,fun j k hj=>?_⟩
  obtain rfl:=List.length_eq_zero_iff.1 b;simp at hj
 ·refine⟨some ⟨g,0,none⟩,c,a,hnc,fun j k hj=>⟨g,0,rfl,?_⟩⟩
  have hc:=fun i x hx=>h.cells (g:=g) (by rw[a];rfl) (j*3+i) x (flatK_get ks j k hj i x hx)
  simp only[hadd]at hc;exact⟨by rw[Nat.zero_add];exact hc 0 _ rfl,by rw[Nat.zero_add];exact hc 1 _ rfl,by rw[Nat.zero_add];exact hc 2 _ rfl⟩
def findK(kid:ByteArray):List Ky→Nat→Int
 | [],_=> -1
 | k::ks,m=>if k.kid.data.toList=kid.data.toList then(m:Int)else findK kid ks (m+1)
theorem tne{a b:ByteArray}(h:¬a.data.toList=b.data.toList):(a.toList==b.toList)=false:=by
 rw[beq_eq_false_iff_ne,ByteArray.toList_eq,ByteArray.toList_eq];exact h
theorem teq{a b:ByteArray}(h:a.data.toList=b.data.toList):a=b:=by cases a;cases b;simp at h;simp[h]
theorem findK_bd(kid:ByteArray)(ks:List Ky)(m:Nat): -1≤findK kid ks m∧findK kid ks m<(m+ks.length+1:Nat):=by
 induction ks generalizing m with
 | nil=>simp[findK];omega
 | cons k ks ih=>
   unfold findK;split
   ·simp;omega
   ·have:=ih (m+1);simp only[List.length_cons];omega
theorem findK_drop(kid:ByteArray)(ks:List Ky)(i:Nat)(k:Ky)(h:ks[i]?=some k):findK kid (ks.drop i) i=if k.kid.data.toList=kid.data.toList then(i:Int)else findK kid (ks.drop (i+1)) (i+1):=by
 obtain⟨hl,e⟩:=List.getElem?_eq_some_iff.1 h;rw[List.drop_eq_getElem_cons hl,e];rfl
theorem rfind(x:Value)(ks:List Ky)(kid:ByteArray)(w:World)(hx:KR w x ks)(hl:ks.length≤140737488355328):Calls Tryd.prog 11 #[x,.string kid] w fun r w'=>r=.returned (.int .i64 (findK kid ks 0))∧w'=w:=by
 obtain⟨ad,cap,rfl,_,hx⟩:=hx;have HX:=thid hx;clear hx;go_enter Tryd.func11,Tryd.ntmps11;go_wp2_with fail
 go_loopw [5] (fun iv wr=>∃i:Nat,i≤ks.length∧iv=.int .i64 (i:Int)∧wr=w∧Hid (findK kid ks 0=findK kid (ks.drop i) i)) (fun iv _=>ks.length-(intOf iv).toNat)
 case atStart=>exact⟨0,by omega,rfl,rfl,rfl⟩
 case round=>
  obtain⟨i,hi,rfl,rfl,hno⟩:=hrel;by_cases hlt:i<ks.length
  ·have k1:(i:Int)<(ks.length:Int):=by omega
   obtain⟨k,hk⟩:∃k,ks[i]?=some k:=⟨_,List.getElem?_eq_getElem hlt⟩;obtain⟨g,off,rfl,_,c1,_⟩:=HX.out i k hk;have hd:=findK_drop kid ks i k hk;clear hk;by_cases he:k.kid.data.toList=kid.data.toList
   ·rw[if_pos he]at hd
    have HD:=thid hd;rw[teq he]at c1;clear hd he;go_wp2;go_ret;exact⟨by rw[hno.out,HD.out];rfl,rfl⟩
   ·rw[if_neg he]at hd
    have HD:=thid hd;have he':=tne he;clear hd he;go_wp2_with fail
    go_roundw
    case rel=>exact⟨i+1,by omega,by go_num,trivial,by rw[hno.out,HD.out];exact rfl⟩
    case measure=>simp[intOf];omega
  ·have k1:¬(i:Int)<(ks.length:Int):=by omega
   go_wp2;go_ret;refine⟨?_,rfl⟩;rw[hno.out,List.drop_of_length_le (by omega)];rfl
theorem cfind1(k:Ky)(kid:ByteArray)(b:Nat)(w:World)(c0:w.cell? ⟨b,0,none⟩=some (.string kid))(r0:Bool)(hr:r0=decide (k.kid.data.toList=kid.data.toList)):Calls Tryd.prog 19 #[.agg #[.int .i64 k.alg,.string k.kid,.string k.key],.pointer (some ⟨b,0,none⟩)] w fun r w'=>r=.returned (.bool r0)∧Below w.heap.size w w':=by
 have hlt:b<w.heap.size:=World.block_lt_of_cell? w _ c0;have d0:∀o,(w.alloc o).cell? ⟨b,0,none⟩=some (.string kid):=fun o=>by rw[World.cell?_alloc_lt _ _ _ hlt,c0]
 by_cases he:k.kid.data.toList=kid.data.toList
 ·rw[teq he]
  rw[decide_eq_true he]at hr;subst hr;clear he;go_enter Tryd.func19,Tryd.ntmps19;go_wp2;go_ret;exact⟨rfl,tbal (Below.refl _ _) _⟩
 ·have he':=tne he
  rw[decide_eq_false he]at hr;subst hr;clear he;go_enter Tryd.func19,Tryd.ntmps19;go_wp2;go_ret;exact⟨rfl,tbal (Below.refl _ _) _⟩
theorem cindexf(x:Value)(ks:List Ky)(kid:ByteArray)(b:Nat)(w:World)(hx:KR w x ks)(hl:ks.length≤140737488355328)(c0:w.cell? ⟨b,0,none⟩=some (.string kid)):Calls Tryd.prog 18 #[x,.func (.func 19) #[] #[.pointer (some ⟨b,0,none⟩)]] w fun r w'=>r=.returned (.int .i64 (findK kid ks 0))∧Below w.heap.size w w':=by
 obtain⟨ad,cap,rfl,_,hx⟩:=hx;have HX:=thid hx;have hcall:=fun(k:Ky) w1 (b1:Below w.heap.size w w1) r0 hr=>cfind1 k kid b w1 (tcell_kp b1 c0) r0 hr
 have HC:=thid hcall;clear hx hcall c0;go_enter Tryd.func18,Tryd.ntmps18;go_wp2_with fail
 go_loopw [8] (fun iv wr=>∃i:Nat,i≤ks.length∧iv=.int .i64 (i:Int)∧Below w.heap.size w wr∧Hid (findK kid ks 0=findK kid (ks.drop i) i)) (fun iv _=>ks.length-(intOf iv).toNat)
 case atStart=>exact⟨0,by omega,rfl,Below.refl _ _,rfl⟩
 case round=>
  obtain⟨i,hi,rfl,hb,hno⟩:=hrel;have HB:=thid hb;by_cases hlt:i<ks.length
  ·have k1:(i:Int)<(ks.length:Int):=by omega
   obtain⟨k,hk⟩:∃k,ks[i]?=some k:=⟨_,List.getElem?_eq_getElem hlt⟩;obtain⟨g,off,rfl,a0,a1,a2⟩:=HX.out i k hk;have c0:=tcell_kp hb a0;have c1:=tcell_kp hb a1;have c2:=tcell_kp hb a2;have hd:=findK_drop kid ks i k hk;clear hk a0 a1 a2 hb;have HD:=thid hd;clear hd;go_wp2_with fail
   refine(HC.out k _ HB.out _ rfl).mono ?_;rintro r w1 ⟨rfl,hb1⟩;have HB1:=thid (HB.out.trans (hb1.mono HB.out.size));clear hb1;by_cases he:k.kid.data.toList=kid.data.toList
   ·have e:=HD.out
    rw[if_pos he]at e;rw[decide_eq_true he];have HE:=thid e;clear e he;go_wp2;go_ret;exact⟨by rw[hno.out,HE.out];rfl,HB1.out⟩
   ·have e:=HD.out
    rw[if_neg he]at e;rw[decide_eq_false he];have HE:=thid e;clear e he;go_wp2_with fail
    go_roundw
    case rel=>exact⟨i+1,by omega,by go_num,HB1.out,by rw[hno.out,HE.out];exact rfl⟩
    case measure=>simp[intOf];omega
  ·have k1:¬(i:Int)<(ks.length:Int):=by omega
   clear hb;go_wp2;go_ret;refine⟨?_,HB.out⟩;rw[hno.out,List.drop_of_length_le (by omega)];rfl
theorem cfind(x:Value)(ks:List Ky)(kid:ByteArray)(w:World)(hx:KR w x ks)(hl:ks.length≤140737488355328):Calls Tryd.prog 8 #[x,.string kid] w fun r w'=>r=.returned (.int .i64 (findK kid ks 0))∧Below w.heap.size w w':=by
 have hc:=fun w1 (b1:Below w.heap.size w w1) b c0=>cindexf x ks kid b w1 (hx.below b1) hl c0
 have HC:=thid hc;clear hc hx;go_enter Tryd.func8,Tryd.ntmps8;go_wp2_with fail
 refine(HC.out _ (tbal (Below.refl _ _) _) w.heap.size (by simp)).mono ?_;rintro r w1 ⟨rfl,hb⟩;have HB:=thid ((tbal (Below.refl w.heap.size w) _).trans (hb.mono (by simp)));clear hb;go_wp2;go_ret;exact⟨rfl,HB.out⟩
end Go.Proofs.YtfhjjbgjoclanaeDoor
