import Derived.Test.YtbllepoagnfjnaaDoorT0
import Derived.Laws.AppendOwn
import Derived.Laws.AppendOwnNone
import Derived.Deep.AppendSrc
import Derived.Deep.DeepAppendWide
import Derived.Test.YtbllepoagnfjnaaDoorB0
import Derived.Lib.Join
import Derived.Test.YtbllepoagnfjnaaDoorShelf
set_option maxHeartbeats 2000000
namespace Go.Proofs.YtbllepoagnfjnaaDoor.Dg
set_option maxRecDepth 4000
open Go.RowKit
set_option linter.unusedVariables false
structure Ky where
 alg:Int
 kid:ByteArray
 key:ByteArray
def kyV(k:Ky):List Value:=[.int .i64 k.alg,.string k.kid,.string k.key]
def KR(w:World)(v:Value)(ks:List Ky):Prop:=
 ∃ad cap,v=.slice ad ks.length cap∧ks.length≤cap∧∀(j:Nat) (k:Ky),ks[j]?=some k→∃g off,ad=some ⟨g,off,none⟩∧w.cell? ⟨g,off+j*3,none⟩=some (.int .i64 k.alg)∧w.cell? ⟨g,off+j*3+1,none⟩=some (.string k.kid)∧w.cell? ⟨g,off+j*3+2,none⟩=some (.string k.key)
theorem KR.keep{w w':World}{v:Value}{ks:List Ky}(h:KR w v ks)(hc:∀g j u,w.cell? ⟨g,j,none⟩=some u→w'.cell? ⟨g,j,none⟩=some u):KR w' v ks:=by
 obtain⟨ad,cap,h1,h0,h2⟩:=h;refine⟨ad,cap,h1,h0,fun j k hj=>?_⟩;obtain⟨g,off,a,b,c,d⟩:=h2 j k hj;exact⟨g,off,a,hc _ _ _ b,hc _ _ _ c,hc _ _ _ d⟩
theorem KR.below{w w':World}{v:Value}{ks:List Ky}(h:KR w v ks)(hb:Below w.heap.size w w'):KR w' v ks:=h.keep fun g j u hc=>tcell_kp hb hc
theorem KR.shape{w:World}{v:Value}{ks:List Ky}(h:KR w v ks):∃ad cap,v=.slice ad ks.length cap:=by
 obtain⟨ad,cap,h,_⟩:=h;exact⟨ad,cap,h⟩
theorem KR.take{w:World}{ad:Option Addr}{n cap:Nat}{ks:List Ky}(h:KR w (.slice ad n cap) ks)(m:Nat)(hm:m≤ks.length):KR w (.slice ad m cap) (ks.take m):=by
 obtain⟨ad',cap',h1,h0,h2⟩:=h;injection h1 with e1 e2 e3;subst e1 e3;refine⟨ad,cap,by rw[List.length_take,Nat.min_eq_left hm],by rw[List.length_take];omega,fun j k hj=>?_⟩;refine h2 j k ?_;rw[List.getElem?_take]at hj;by_cases hjm:j<m
 ·simpa [hjm]using hj
 ·simp[hjm]at hj
def flatK(ks:List Ky):List Value:=ks.flatMap kyV
theorem flatK_len(ks:List Ky):(flatK ks).length=ks.length*3:=by
 induction ks with
 | nil=>rfl
 | cons k ks ih=>simp only[flatK,List.flatMap_cons,List.length_append]at ih ⊢;rw[ih];simp[kyV];omega
theorem flatK_get(ks:List Ky)(j:Nat)(k:Ky)(h:ks[j]?=some k)(i:Nat)(v:Value)(hv:(kyV k)[i]?=some v):(flatK ks)[j*3+i]?=some v:=by
 have hi:i<3:=by have:=(List.getElem?_eq_some_iff.1 hv).1;simpa [kyV]using this
 induction ks generalizing j with
 | nil=>simp at h
 | cons k0 ks ih=>
   cases j with
   | zero=>
     simp at h;subst h;simp only[flatK,List.flatMap_cons,Nat.zero_mul,Nat.zero_add];rw[List.getElem?_append_left (by simp[kyV];omega)];exact hv
   | succ j=>
     simp at h;have:=ih j h;simp only[flatK,List.flatMap_cons]at this ⊢;rw[List.getElem?_append_right (by simp[kyV];omega)];rw[show(j+1)*3+i-(kyV k0).length=j*3+i by simp[kyV];omega];exact this
theorem flatK_snoc(ks:List Ky)(k:Ky):flatK (ks++[k])=flatK ks++kyV k:=by simp[flatK]
theorem KR.of{B:Nat}{e:TypeId}{w:World}{v:Value}{ks:List Ky}(h:w.ownsRow B e 3 v ks.length (flatK ks)):KR w v ks:=by
 have hadd:∀(g j:Nat),(⟨g,0,none⟩:Addr).add j=⟨g,j,none⟩:=fun g j=>by unfold Addr.add;split<;>simp_all
 rcases h.2 with⟨a,b⟩|⟨g,c,cu,a,_,_,hnc,_⟩
 ·refine⟨none,0,by rw[a,b],by omega,fun j k hj=>?_⟩
  obtain rfl:=List.length_eq_zero_iff.1 b;simp at hj
 ·refine⟨some ⟨g,0,none⟩,c,a,hnc,fun j k hj=>⟨g,0,rfl,?_⟩⟩
  have hc:=fun i x hx=>h.cells (g:=g) (by rw[a];rfl) (j*3+i) x (flatK_get ks j k hj i x hx)
  simp only[hadd]at hc;exact⟨by rw[Nat.zero_add];exact hc 0 _ rfl,by rw[Nat.zero_add];exact hc 1 _ rfl,by rw[Nat.zero_add];exact hc 2 _ rfl⟩
def findK(kid:ByteArray):List Ky→Nat→Int
 | [],_=> -1
 | k::ks,m=>if k.kid.data.toList=kid.data.toList then(m:Int)else findK kid ks (m+1)
theorem tne{a b:ByteArray}(h:¬a.data.toList=b.data.toList):(a.toList==b.toList)=false:=by
 rw[beq_eq_false_iff_ne,ByteArray.toList_eq,ByteArray.toList_eq];exact h
theorem teq{a b:ByteArray}(h:a.data.toList=b.data.toList):a=b:=by cases a;cases b;simp at h;simp[h]
theorem findK_bd(kid:ByteArray)(ks:List Ky)(m:Nat): -1≤findK kid ks m∧findK kid ks m<(m+ks.length+1:Nat):=by
 induction ks generalizing m with
 | nil=>simp[findK];omega
 | cons k ks ih=>
   unfold findK;split
   ·simp;omega
   ·have:=ih (m+1);simp only[List.length_cons];omega
theorem findK_drop(kid:ByteArray)(ks:List Ky)(i:Nat)(k:Ky)(h:ks[i]?=some k):findK kid (ks.drop i) i=if k.kid.data.toList=kid.data.toList then(i:Int)else findK kid (ks.drop (i+1)) (i+1):=by
 obtain⟨hl,e⟩:=List.getElem?_eq_some_iff.1 h;rw[List.drop_eq_getElem_cons hl,e];rfl
theorem rfind(x:Value)(ks:List Ky)(kid:ByteArray)(w:World)(hx:KR w x ks)(hl:ks.length≤140737488355328):Calls Tryd.prog 22 #[x,.string kid] w fun r w'=>r=.returned (.int .i64 (findK kid ks 0))∧w'=w:=by
 obtain⟨ad,cap,rfl,_,hx⟩:=hx;have HX:=thid hx;clear hx;go_enter Tryd.func22,Tryd.ntmps22;go_wp2_with fail
 go_loopw [5] (fun iv wr=>∃i:Nat,i≤ks.length∧iv=.int .i64 (i:Int)∧wr=w∧Hid (findK kid ks 0=findK kid (ks.drop i) i)) (fun iv _=>ks.length-(intOf iv).toNat)
 case atStart=>exact⟨0,by omega,rfl,rfl,rfl⟩
 case round=>
  obtain⟨i,hi,rfl,rfl,hno⟩:=hrel;by_cases hlt:i<ks.length
  ·have k1:(i:Int)<(ks.length:Int):=by omega
   obtain⟨k,hk⟩:∃k,ks[i]?=some k:=⟨_,List.getElem?_eq_getElem hlt⟩;obtain⟨g,off,rfl,_,c1,_⟩:=HX.out i k hk;have hd:=findK_drop kid ks i k hk;clear hk;by_cases he:k.kid.data.toList=kid.data.toList
   ·rw[if_pos he]at hd
    have HD:=thid hd;rw[teq he]at c1;clear hd he;go_wp2;go_ret;exact⟨by rw[hno.out,HD.out];rfl,rfl⟩
   ·rw[if_neg he]at hd
    have HD:=thid hd;have he':=tne he;clear hd he;go_wp2_with fail
    go_roundw
    case rel=>exact⟨i+1,by omega,by go_num,trivial,by rw[hno.out,HD.out];exact rfl⟩
    case measure=>simp[intOf];omega
  ·have k1:¬(i:Int)<(ks.length:Int):=by omega
   go_wp2;go_ret;refine⟨?_,rfl⟩;rw[hno.out,List.drop_of_length_le (by omega)];rfl
theorem cfind1(k:Ky)(kid:ByteArray)(b:Nat)(w:World)(c0:w.cell? ⟨b,0,none⟩=some (.string kid))(r0:Bool)(hr:r0=decide (k.kid.data.toList=kid.data.toList)):Calls Tryd.prog 47 #[.agg #[.int .i64 k.alg,.string k.kid,.string k.key],.pointer (some ⟨b,0,none⟩)] w fun r w'=>r=.returned (.bool r0)∧Below w.heap.size w w':=by
 have hlt:b<w.heap.size:=World.block_lt_of_cell? w _ c0;have d0:∀o,(w.alloc o).cell? ⟨b,0,none⟩=some (.string kid):=fun o=>by rw[World.cell?_alloc_lt _ _ _ hlt,c0]
 by_cases he:k.kid.data.toList=kid.data.toList
 ·rw[teq he]
  rw[decide_eq_true he]at hr;subst hr;clear he;go_enter Tryd.func47,Tryd.ntmps47;go_wp2;go_ret;exact⟨rfl,tbal (Below.refl _ _) _⟩
 ·have he':=tne he
  rw[decide_eq_false he]at hr;subst hr;clear he;go_enter Tryd.func47,Tryd.ntmps47;go_wp2;go_ret;exact⟨rfl,tbal (Below.refl _ _) _⟩
theorem cindexf(x:Value)(ks:List Ky)(kid:ByteArray)(b:Nat)(w:World)(hx:KR w x ks)(hl:ks.length≤140737488355328)(c0:w.cell? ⟨b,0,none⟩=some (.string kid)):Calls Tryd.prog 46 #[x,.func (.func 47) #[] #[.pointer (some ⟨b,0,none⟩)]] w fun r w'=>r=.returned (.int .i64 (findK kid ks 0))∧Below w.heap.size w w':=by
 obtain⟨ad,cap,rfl,_,hx⟩:=hx;have HX:=thid hx;have hcall:=fun(k:Ky) w1 (b1:Below w.heap.size w w1) r0 hr=>cfind1 k kid b w1 (tcell_kp b1 c0) r0 hr
 have HC:=thid hcall;clear hx hcall c0;go_enter Tryd.func46,Tryd.ntmps46;go_wp2_with fail
 go_loopw [8] (fun iv wr=>∃i:Nat,i≤ks.length∧iv=.int .i64 (i:Int)∧Below w.heap.size w wr∧Hid (findK kid ks 0=findK kid (ks.drop i) i)) (fun iv _=>ks.length-(intOf iv).toNat)
 case atStart=>exact⟨0,by omega,rfl,Below.refl _ _,rfl⟩
 case round=>
  obtain⟨i,hi,rfl,hb,hno⟩:=hrel;have HB:=thid hb;by_cases hlt:i<ks.length
  ·have k1:(i:Int)<(ks.length:Int):=by omega
   obtain⟨k,hk⟩:∃k,ks[i]?=some k:=⟨_,List.getElem?_eq_getElem hlt⟩;obtain⟨g,off,rfl,a0,a1,a2⟩:=HX.out i k hk;have c0:=tcell_kp hb a0;have c1:=tcell_kp hb a1;have c2:=tcell_kp hb a2;have hd:=findK_drop kid ks i k hk;clear hk a0 a1 a2 hb;have HD:=thid hd;clear hd;go_wp2_with fail
   refine(HC.out k _ HB.out _ rfl).mono ?_;rintro r w1 ⟨rfl,hb1⟩;have HB1:=thid (HB.out.trans (hb1.mono HB.out.size));clear hb1;by_cases he:k.kid.data.toList=kid.data.toList
   ·have e:=HD.out
    rw[if_pos he]at e;rw[decide_eq_true he];have HE:=thid e;clear e he;go_wp2;go_ret;exact⟨by rw[hno.out,HE.out];rfl,HB1.out⟩
   ·have e:=HD.out
    rw[if_neg he]at e;rw[decide_eq_false he];have HE:=thid e;clear e he;go_wp2_with fail
    go_roundw
    case rel=>exact⟨i+1,by omega,by go_num,HB1.out,by rw[hno.out,HE.out];exact rfl⟩
    case measure=>simp[intOf];omega
  ·have k1:¬(i:Int)<(ks.length:Int):=by omega
   clear hb;go_wp2;go_ret;refine⟨?_,HB.out⟩;rw[hno.out,List.drop_of_length_le (by omega)];rfl
theorem cfind(x:Value)(ks:List Ky)(kid:ByteArray)(w:World)(hx:KR w x ks)(hl:ks.length≤140737488355328):Calls Tryd.prog 28 #[x,.string kid] w fun r w'=>r=.returned (.int .i64 (findK kid ks 0))∧Below w.heap.size w w':=by
 have hc:=fun w1 (b1:Below w.heap.size w w1) b c0=>cindexf x ks kid b w1 (hx.below b1) hl c0
 have HC:=thid hc;clear hc hx;go_enter Tryd.func28,Tryd.ntmps28;go_wp2_with fail
 refine(HC.out _ (tbal (Below.refl _ _) _) w.heap.size (by simp)).mono ?_;rintro r w1 ⟨rfl,hb⟩;have HB:=thid ((tbal (Below.refl w.heap.size w) _).trans (hb.mono (by simp)));clear hb;go_wp2;go_ret;exact⟨rfl,HB.out⟩
def errK(done:List Ky)(k:Ky):Int:=
 if 20≤done.length then 8 else if keyErr k.alg k.kid k.key=0 then(if 0≤findK k.kid done 0 then 4 else 0)else keyErr k.alg k.kid k.key
def objL(k:Ky):List UInt8:=
 [123,34,97,108,103,34,58,34]++((nameB k.alg).data.toList++([34,44,34,107,34,58,34]++(enc (dB k.key) k.key.size++([34,44,34,107,105,100,34,58,34]++(k.kid.data.toList++[34,44,34,107,116,121,34,58,34,111,99,116,34,125])))))
def prS(done:List Ky):List Ky→Option (Int×Nat)
 | []=>none
 | k::ks=>if errK done k=0 then prS (done++[k]) ks else some (errK done k,done.length)
def headK:List UInt8:=[123,34,107,101,121,115,34,58,91]
def textK(ks:List Ky):List UInt8:=headK++Lib.join (ks.map objL) [44]++[93,125]
def prT(ks:List Ky):List UInt8×Int×Nat:=match prS [] ks with|none=>(textK ks,0,0)|some (e,i)=>([],e,i)
theorem prS_at(ks:List Ky)(i:Nat)(k:Ky)(h:ks[i]?=some k):prS (ks.take i) (ks.drop i)=if errK (ks.take i) k=0 then prS (ks.take (i+1)) (ks.drop (i+1))else some (errK (ks.take i) k,i):=by
 obtain⟨hl,e⟩:=List.getElem?_eq_some_iff.1 h;rw[List.drop_eq_getElem_cons hl,e];have ht:ks.take (i+1)=ks.take i++[k]:=by rw[List.take_add_one,h];rfl
 have hlen:(ks.take i).length=i:=by rw[List.length_take];omega
 rw[ht];conv=>lhs;unfold prS
 rw[hlen]
theorem errK_bd{done:List Ky}{k:Ky}(h:errK done k=0):done.length<20∧keyErr k.alg k.kid k.key=0:=by
 unfold errK at h;split at h
 ·omega
 ·rename_i h1
  split at h
  ·rename_i h2;exact⟨by omega,h2⟩
  ·rename_i h2;exact absurd h h2
theorem key_small{alg:Int}{kid key:ByteArray}(h:keyErr alg kid key=0):(alg=256∨alg=384∨alg=512)∧1≤kid.size∧kid.size≤40∧key.size≤200:=by
 unfold keyErr at h;split at h
 ·omega
 ·rename_i h1
  split at h
  ·omega
  ·rename_i h2
   split at h
   ·omega
   ·rename_i h3
    refine⟨?_,?_⟩
    ·unfold sizeN at h1
     repeat' split at h1
     all_goals omega
    ·have h2':isKid kid=true:=by simpa using h2
     have h3':fitsB alg key=true:=by simpa using h3
     unfold isKid at h2';unfold fitsB at h3';simp only[Bool.and_eq_true,decide_eq_true_eq]at h2' h3';exact⟨h2'.1.1,h2'.1.2,h3'.2.2⟩
theorem join_snoc(xs:List (List UInt8))(x sep:List UInt8)(h:xs≠[]):Lib.join (xs++[x]) sep=Lib.join xs sep++(sep++x):=by
 induction xs with
 | nil=>exact absurd rfl h
 | cons y ys ih=>
   cases ys with
   | nil=>simp[Lib.join,List.intercalate]
   | cons z zs=>
     have:=ih (by simp);simp only[Lib.join,List.intercalate,List.cons_append,List.intersperse_cons_cons,List.flatten_cons]at this ⊢;rw[this];simp[List.append_assoc]
theorem find_take(kid:ByteArray)(ks:List Ky)(i:Nat)(m:Nat)(k:Ky)(h:ks[i]?=some k)(hk:k.kid.data.toList=kid.data.toList):(findK kid ks m<((m+i:Nat):Int))↔0≤findK kid (ks.take i) m:=by
 induction ks generalizing i m with
 | nil=>simp at h
 | cons k0 ks ih=>
   cases i with
   | zero=>
     simp at h;subst h;simp[findK,hk]
   | succ i=>
     simp at h;simp only[List.take_succ_cons];unfold findK;split
     ·constructor
      ·intro _;omega
      ·intro _;omega
     ·have:=ih i (m+1) h
      rw[show m+1+i=m+(i+1)by omega]at this;exact this
theorem prS_ok{ks:List Ky}:∀{done:List Ky},prS done ks=none→∀k∈ks,keyErr k.alg k.kid k.key=0:=by
 induction ks with
 | nil=>intro done _ k hk;cases hk
 | cons k0 ks ih=>
   intro done h k hk;unfold prS at h;split at h
   ·rename_i h0
    rcases List.mem_cons.1 hk with rfl|hk
    ·exact(errK_bd h0).2
    ·exact ih h k hk
   ·cases h
theorem prS_len{ks:List Ky}:∀{done:List Ky},prS done ks=none→ks≠[]→done.length+ks.length≤20:=by
 induction ks with
 | nil=>intro done _ h;exact absurd rfl h
 | cons k0 ks ih=>
   intro done h _;unfold prS at h;split at h
   ·rename_i h0
    have h1:=(errK_bd h0).1;cases ks with
    | nil=>simp;omega
    | cons k1 ks=>have:=ih h (by simp);simp at this ⊢;omega
   ·cases h
theorem ccheckK(x:Value)(done:List Ky)(k:Ky)(w:World)(hx:KR w x done)(hG:WG w)(hl:done.length≤140737488355328)(h1:k.kid.size≤4611686018427387904)(h2:k.key.size≤4611686018427387904):Calls Tryd.prog 37 #[x,.agg #[.int .i64 k.alg,.string k.kid,.string k.key]] w fun r w'=>r=.returned (.int .i64 (errK done k))∧Below w.heap.size w w':=by
 have hck:=fun w1 (b1:Below w.heap.size w w1)=>ccheckKey k.alg k.kid k.key w1 (hG.below b1) h1 h2
 have hfd:=fun w1 (b1:Below w.heap.size w w1)=>cfind x done k.kid w1 (hx.below b1) hl
 have HE:Hid (errK done k=if 20≤done.length then 8 else if keyErr k.alg k.kid k.key=0 then(if 0≤findK k.kid done 0 then 4 else 0)else keyErr k.alg k.kid k.key):=by unfold errK;exact rfl
 obtain⟨ad,cap,rfl⟩:=hx.shape;have HC:=thid hck;have HF:=thid hfd;clear hck hfd hx hG;by_cases a1:20≤done.length
 ·have k1:(20:Int)≤(done.length:Int):=by omega
  go_enter Tryd.func37,Tryd.ntmps37;go_wp2;go_ret;exact⟨by rw[HE.out,if_pos a1];rfl,tbal (Below.refl _ _) _⟩
 ·have k1:¬(20:Int)≤(done.length:Int):=by omega
  have A1:=thid a1;clear a1;go_enter Tryd.func37,Tryd.ntmps37;go_wp2_with fail
  refine(HC.out _ (tbal (Below.refl _ _) _)).mono ?_;rintro r w1 ⟨rfl,hb⟩;have c1:w1.cell? ⟨w.heap.size,1,none⟩=some (.string k.kid):=tcell_kp hb (by simp);have HB:=thid ((tbal (Below.refl w.heap.size w) _).trans (hb.mono (by simp)));clear hb;by_cases b1:keyErr k.alg k.kid k.key=0
  ·rw[b1]
   have B1:=thid b1;clear b1;go_wp2_with fail
   refine(HF.out _ HB.out).mono ?_;rintro r w2 ⟨rfl,hb⟩;have HB2:=thid (HB.out.trans (hb.mono HB.out.size));clear hb;by_cases d1:0≤findK k.kid done 0
   ·have D1:=thid d1
    go_wp2;go_ret;exact⟨by rw[HE.out,if_neg A1.out,if_pos B1.out,if_pos D1.out];rfl,HB2.out⟩
   ·have D1:=thid d1
    go_wp2;go_ret;exact⟨by rw[HE.out,if_neg A1.out,if_pos B1.out,if_neg (by have:=D1.out;omega)];rfl,HB2.out⟩
  ·have B1:=thid b1
   have b2:(keyErr k.alg k.kid k.key != 0)=true:=by simp[b1]
   clear b1;generalize keyErr k.alg k.kid k.key=q at *;go_wp2;go_ret;exact⟨by rw[HE.out,if_neg A1.out,if_neg B1.out];rfl,HB.out⟩
theorem cat_assoc(a b c:ByteArray):a++b++c=a++(b++c):=by
 apply teq;simp
theorem str_list{a b:ByteArray}(h:a.data.toList=b.data.toList):Ending.returned (.string a)=.returned (.string b):=by rw[teq h]
theorem cwriteK(k:Ky)(w:World)(hG:WG w)(h0:keyErr k.alg k.kid k.key=0):Calls Tryd.prog 38 #[.agg #[.int .i64 k.alg,.string k.kid,.string k.key]] w fun r w'=>r=.returned (.string ⟨(objL k).toArray⟩)∧Below w.heap.size w w':=by
 obtain⟨h1,h2,h3,h4⟩:=key_small h0;have hnm:=fun w1 (b1:Below w.heap.size w w1)=>calgName k.alg w1 (hG.below b1)
 have hen:=fun w1=>encode_any k.key w1 (by omega)
 have hns:(nameB k.alg).size≤5:=by rcases h1 with h|h|h<;>rw[h]<;>decide
 have hel:(enc (dB k.key) k.key.size).length≤1000:=by rw[enc_length];omega
 have HN:=thid hnm;have HE:=thid hen;clear hnm hen hG h0 h1;obtain⟨E,hE⟩:∃E:ByteArray,E=⟨(enc (dB k.key) k.key.size).toArray⟩:=⟨_,rfl⟩;rw[←hE]at HE;have hEs:E.size≤1000:=by rw[hE];show(enc (dB k.key) k.key.size).toArray.size≤1000;simpa using hel
 have HEq:Hid (objL k=[123,34,97,108,103,34,58,34]++((nameB k.alg).data.toList++([34,44,34,107,34,58,34]++(E.data.toList++([34,44,34,107,105,100,34,58,34]++(k.kid.data.toList++[34,44,34,107,116,121,34,58,34,111,99,116,34,125])))))):=by rw[hE];exact rfl
 clear hE hel;generalize nameB k.alg=nm at *;have z0:¬9223372036854775807<8+nm.size:=by omega
 have z1:¬9223372036854775807<8+nm.size+7:=by omega
 have z2:¬9223372036854775807<8+nm.size+7+E.size:=by omega
 have z3:¬9223372036854775807<8+nm.size+7+E.size+9:=by omega
 have z4:¬9223372036854775807<8+nm.size+7+E.size+9+k.kid.size:=by omega
 have z5:¬9223372036854775807<8+nm.size+7+E.size+9+k.kid.size+9:=by omega
 have z6:¬9223372036854775807<8+nm.size+7+E.size+9+k.kid.size+9+3:=by omega
 have z7:¬9223372036854775807<8+nm.size+7+E.size+9+k.kid.size+9+3+2:=by omega
 go_enter Tryd.func38,Tryd.ntmps38;go_wp2_with fail
 have HB0:=thid ((tbal (Below.refl w.heap.size w) (.cells #[.int .i64 k.alg,.string k.kid,.string k.key] 72)).drew);have HCS:Hid (∀wx,Below (w.heap.size+1) (w.alloc (.cells #[.int .i64 k.alg,.string k.kid,.string k.key] 72)) wx→wx.cell? ⟨w.heap.size,0,none⟩=some (.int .i64 k.alg)∧wx.cell? ⟨w.heap.size,1,none⟩=some (.string k.kid)∧wx.cell? ⟨w.heap.size,2,none⟩=some (.string k.key)):=fun wx hb=>
  ⟨(hb.cell (p:=⟨w.heap.size,0,none⟩) (by simp)).trans (by simp),(hb.cell (p:=⟨w.heap.size,1,none⟩) (by simp)).trans (by simp),(hb.cell (p:=⟨w.heap.size,2,none⟩) (by simp)).trans (by simp)⟩
 go_region_held3 (fun w'=>w'.cell? ⟨w.heap.size,0,none⟩=some (.int .i64 k.alg)∧w'.cell? ⟨w.heap.size,1,none⟩=some (.string k.kid)∧w'.cell? ⟨w.heap.size,2,none⟩=some (.string k.key)) (go_keep) (first|(go_at_call 43;refine(HN.out _ (by first|exact HBe.out.1|exact HB0.out)).mono ?_;rintro e wn ⟨rfl,hbn⟩;have HBn:Hid (Below w.heap.size w wn∧Below (w.heap.size+1) (w.alloc (.cells #[.int .i64 k.alg,.string k.kid,.string k.key] 72)) wn):=(by first|exact⟨HBe.out.1.trans (hbn.mono HBe.out.1.size),HBe.out.2.trans (hbn.mono (by have:=HBe.out.2.size;simp at this;omega))⟩|exact⟨HB0.out.trans (hbn.mono HB0.out.size),(Below.refl _ _).drew.trans (hbn.mono (by simp))⟩);obtain⟨s0,s1,s2⟩:=HCS.out _ HBn.out.2;clear hbn)|(go_at_call 57;refine(HE.out _).mono ?_;rintro e we ⟨rfl,hbe⟩;have HBe:Hid (Below w.heap.size w we∧Below (w.heap.size+1) (w.alloc (.cells #[.int .i64 k.alg,.string k.kid,.string k.key] 72)) we):=(by first|exact⟨HBn.out.1.trans (hbe.mono HBn.out.1.size),HBn.out.2.trans (hbe.mono (by have:=HBn.out.2.size;simp at this;omega))⟩|exact⟨HB0.out.trans (hbe.mono HB0.out.size),(Below.refl _ _).drew.trans (hbe.mono (by simp))⟩);obtain⟨s0,s1,s2⟩:=HCS.out _ HBe.out.2;clear hbe))
 all_goals go_wp2_with fail
 all_goals go_ret
 all_goals refine⟨str_list ?_,by first|exact HBe.out.1|exact HBn.out.1⟩
 all_goals rw[HEq.out]
 all_goals simp
theorem strinfoK:(Tryd.prog.info? 9).map (fun i=>(i.zero,i.size,i.bytes))=some (some (.string ByteArray.empty),1,16):=by kernel_rfl
theorem kinfo_parts2{o:Option TypeInfo}{z:Value}{a b:Nat}(h:o.map (fun i=>(i.zero,i.size,i.bytes))=some (some z,a,b)):∃i,o=some i∧i.zero=some z∧i.size=a∧i.bytes=b:=by
 cases o with
 | none=>simp at h
 | some i=>simp at h;exact⟨i,rfl,h.1,h.2.1,h.2.2⟩
theorem one_cellT(w:World)(y:Value)(e:TypeId):∀(j:Nat) (u:Value),[y][j]?=some u→(w.alloc (.cells #[y] e)).cell? ((⟨w.heap.size,0,none⟩:Addr).add j)=some u:=by
 intro j u h;match j with
 | 0=>simp at h;subst h;simp[Addr.add]
 | j+1=>simp at h
theorem wp_appT{P:Program}{ops:Array Oper}{rest:List Oper}{o:Oper}{a:Act}{Q:Exit→Act→World→Prop}(hgd:o.guard=none)(s x:Operand)(t:TypeId)(ho:o.op=.call {callee:=.builtin .append,args:= #[s,x],argTypes:= #[t,t]})
 (e:TypeId) (i:TypeInfo) (ht:P.underlying t=some (.slice e)) (hi:P.info? e=some i) (hz:i.zero=some (.string ByteArray.empty)) (hsize:i.size=1) (hby:i.bytes=16)
 (B:Nat) (v:Value) (xs:List ByteArray) (y:ByteArray) (w0:World) (hs:a.eval s=v) (hown:w0.ownsRow B e 1 v xs.length (xs.map Value.string)) (hB:B≤w0.heap.size) (hlen:xs.length≤8796093022208)
 (hx:a.eval x=.slice (some ⟨w0.heap.size,0,none⟩) 1 1)
 (h:∀v' w',w'.ownsRow B e 1 v' (xs++[y]).length ((xs++[y]).map Value.string)→Below B w0 w'→wpList P ops Q rest (a.put o.dst v') w'):wpList P ops Q (o::rest) a (w0.alloc (.cells #[.string y] e)):=by
 refine wpList_append_own_wide _ hgd s x t ho B e i (.string ByteArray.empty) 1 16 ht hi hz hsize hby rfl (by decide) v xs.length (xs.map Value.string) hs (hown.alloc _) ⟨w0.heap.size,0,none⟩ 1 1 [.string y] hx rfl (one_cellT w0 _ e) (by intro u hu;simp at hu;subst hu;rfl) (by unfold maxLen;omega) (by omega) (by simp;omega) ?_;intro v' w' h1 h2 _;refine h v' w' (by simpa using h1) (((Below.refl B w0).alloc hB _).grown h2 (by simp;omega) ?_);intro k hk;exact(hown.lt k hk).1
theorem row_kpT{B:Nat}{e:TypeId}{k:Nat}{v:Value}{n:Nat}{xs:List Value}{w w':World}(h:w.ownsRow B e k v n xs)(hb:Below w.heap.size w w'):w'.ownsRow B e k v n xs:=
 h.kept (row:=none) ⟨hb.os,hb.tape,hb.output,hb.size,fun j hj _=>hb.block j hj⟩ (by cases hv:v.ownBlock<;>simp)
def objB(k:Ky):ByteArray:=⟨(objL k).toArray⟩
theorem objL_len{k:Ky}(h:keyErr k.alg k.kid k.key=0):(objL k).length≤400:=by
 obtain⟨h1,h2,h3,h4⟩:=key_small h;have hns:(nameB k.alg).data.toList.length≤5:=by rcases h1 with h|h|h<;>rw[h]<;>decide
 have hk:k.kid.data.toList.length≤40:=by simpa using h3
 unfold objL;simp only[List.length_append,List.length_cons,List.length_nil,enc_length];omega
theorem join_len(ls:List (List UInt8))(h:∀l∈ls,l.length≤400):(Lib.join ls [44]).length≤401*ls.length:=by
 induction ls with
 | nil=>simp[Lib.join]
 | cons l ls ih=>
   have h1:=h l (by simp);have h2:=ih fun x hx=>h x (by simp[hx])
   cases ls with
   | nil=>rw[Lib.join_one];simp;omega
   | cons z zs=>
     have:Lib.join (l::z::zs) [44]=l++([44]++Lib.join (z::zs) [44]):=by simp[Lib.join,List.intercalate]
     rw[this];simp only[List.length_append,List.length_cons,List.length_nil]at h2 ⊢;omega
theorem str3{a b:ByteArray}{x y x' y':Value}(h:a.data.toList=b.data.toList)(hx:x=x')(hy:y=y'):Ending.returned (.tuple #[.string a,x,y])=.returned (.tuple #[.string b,x',y']):=by rw[teq h,hx,hy]
structure Prn (ks:List Ky) (w:World) (ov iv:Value) (i:Nat) (wr:World):Prop where
 le:i≤ks.length
 iv:iv=.int .i64 (i:Int)
 row:wr.ownsRow w.heap.size 9 1 ov ((ks.take i).map objB).length (((ks.take i).map objB).map Value.string)
 bel:Below w.heap.size w wr
 so:prS [] ks=prS (ks.take i) (ks.drop i)
 few:i≤20
 ok:∀k∈ks.take i,keyErr k.alg k.kid k.key=0
set_option maxRecDepth 4000 in
theorem cprintK(x:Value)(ks:List Ky)(w:World)(hx:KR w x ks)(hG:WG w)(hl:ks.length≤140737488355328)(hb:∀k∈ks,k.kid.size≤4611686018427387904∧k.key.size≤4611686018427387904):Calls Tryd.prog 23 #[x] w fun r w'=>r=.returned (.tuple #[.string ⟨(prT ks).1.toArray⟩,.int .i64 (prT ks).2.1,.int .i64 ((prT ks).2.2:Int)])∧Below w.heap.size w w':=by
 obtain⟨i0,hi0,hz0,hz1,hz2⟩:=kinfo_parts2 strinfoK;have HI:=thid hi0;have HK:=thid hx;obtain⟨ad,cap,rfl,hlc,hx⟩:=hx;have HX:=thid hx;have HG:=thid hG;have HZ:=thid hb;have hp:Hid (prT ks=match prS [] ks with|none=>(textK ks,0,0)|some (e,i)=>([],e,i)):=by unfold prT;exact rfl
 clear hx hi0 hG hb;generalize prT ks=T at *;go_enter Tryd.func23,Tryd.ntmps23;go_wp2_with fail
 go_loopw [5,11] (fun ov iv wr=>∃i:Nat,Prn ks w ov iv i wr) (fun _ iv _=>ks.length-(intOf iv).toNat)
 case atStart=>exact⟨0,⟨Nat.zero_le _,rfl,World.ownsRow_nil _ _ _ _,Below.refl _ _,rfl,by omega,fun k hk=>by simp at hk⟩⟩
 case round=>
  obtain⟨i,hP⟩:=hrel;obtain rfl:=hP.iv;have HP:=thid hP;have hle:=hP.le;have hfew:=hP.few;have hwsz:=hP.bel.size;clear hP;by_cases hlt:i<ks.length
  ·have k1:(i:Int)<(ks.length:Int):=by omega
   have k2:(i:Int)≤(cap:Int):=by omega
   obtain⟨k,hk⟩:∃k,ks[i]?=some k:=⟨_,List.getElem?_eq_getElem hlt⟩;obtain⟨g,off,rfl,a0,a1,a2⟩:=HX.out i k hk;have c0:=tcell_kp HP.out.bel a0;have c1:=tcell_kp HP.out.bel a1;have c2:=tcell_kp HP.out.bel a2;have ht:ks.take (i+1)=ks.take i++[k]:=by rw[List.take_add_one,hk];rfl
   have hso:=prS_at ks i k hk;have hkm:k∈ks:=List.mem_of_getElem? hk;have HT:=thid ht;have HSo:=thid hso;have hzz:=HZ.out k hkm;have hti:(ks.take i).length=i:=by rw[List.length_take];omega
   have hcall:=fun w1 (b1:Below w.heap.size w w1)=>ccheckK _ (ks.take i) k w1 ((HK.out.take i (by omega)).below b1) (HG.out.below b1) (by omega) hzz.1 hzz.2
   have HCall:=thid hcall;clear ht hso hk a0 a1 a2 hcall hkm;have HB0:=thid ((HP.out.bel.alloc hwsz (.cells #[.int .i64 k.alg,.string k.kid,.string k.key] 72)).drew);go_wp2_with fail
   go_region_with (go_at_call 37;refine(HCall.out _ HB0.out).mono ?_;rintro e w1 ⟨rfl,hb1⟩;have d0:w1.cell? ⟨wr.heap.size,0,none⟩=some (.int .i64 k.alg):=tcell_kp hb1 (by simp);have d1:w1.cell? ⟨wr.heap.size,1,none⟩=some (.string k.kid):=tcell_kp hb1 (by simp);have d2:w1.cell? ⟨wr.heap.size,2,none⟩=some (.string k.key):=tcell_kp hb1 (by simp);have HB1:=thid (HB0.out.trans (hb1.mono HB0.out.size));have HR1:=thid (row_kpT (HP.out.row.alloc _).drew hb1);clear hb1)
   all_goals
    obtain⟨q,hq⟩:∃q,errK (ks.take i) k=q:=⟨_,rfl⟩;rw[hq];by_cases e0:q=0
    ·subst e0
     have hok:=(errK_bd hq).2;have hfw:=(errK_bd hq).1;rw[hti]at hfw;have hso2:=HSo.out;rw[if_pos hq]at hso2;have HSo2:=thid hso2;have hwk:=fun w1 (b1:Below w.heap.size w w1)=>cwriteK k w1 (HG.out.below b1) hok
     have HW:=thid hwk;have HOk:=thid hok;have hm:(ks.take (i+1)).map objB=(ks.take i).map objB++[objB k]:=by rw[HT.out,List.map_append];rfl
     have HM:=thid hm;have hlen:((ks.take i).map objB).length≤8796093022208:=by rw[List.length_map];omega
     clear hq hso2 hwk hok hm;go_wp2_with fail
     refine(HW.out _ HB1.out).mono ?_;rintro r w2 ⟨rfl,hb2⟩;have HB2:=thid (HB1.out.trans (hb2.mono HB1.out.size));have HR2:=thid (row_kpT HR1.out hb2);have hw2:=HB2.out.size;clear hb2 HR1 d0 d1 d2;go_wp2_with (at_builtin;go_must (refine wp_appT rfl (.tmp 25) (.tmp 28) 32 rfl 9 i0 Tryd.underlying32 HI.out hz0 hz1 hz2 w.heap.size u5 ((ks.take i).map objB) (objB k) w2 rfl HR2.out hw2 hlen rfl ?_;intro y w3 ho3 hb3;rw[←HM.out]at ho3;have HR3:=thid ho3;have HB3:=thid (HB2.out.trans hb3);clear ho3 hb3))
     go_roundw
     case rel=>exact⟨i+1,⟨by omega,by go_num,HR3.out,HB3.out,by rw[HP.out.so,HSo2.out],by omega,fun k' hk'=>by
      rw[HT.out]at hk';rcases List.mem_append.1 hk' with h|h
      ·exact HP.out.ok k' h
      ·rw[List.mem_singleton.1 h];exact HOk.out⟩⟩
     case measure=>simp[intOf];omega
    ·have HQ:=thid hq
     have E0:=thid e0;have e2:(q != 0)=true:=by simp[e0]
     have hso2:=HSo.out;rw[if_neg (by rw[hq];exact e0),hq]at hso2;have HSo2:=thid hso2;clear hq e0 hso2;go_wp2_with fail
     go_ret3
     refine⟨?_,HB1.out⟩;rw[hp.out,HP.out.so,HSo2.out];rfl
  ·have k1:¬(i:Int)<(ks.length:Int):=by omega
   obtain rfl:i=ks.length:=by omega
   have hrow:=HP.out.row;have hso:=HP.out.so;have hok:=HP.out.ok;rw[List.take_length]at hrow hok;rw[List.take_length,List.drop_length]at hso;have hso':prS [] ks=none:=hso.trans rfl;have HT:=hp.out;rw[hso']at HT;have HT2:=thid HT;have HBl:=thid HP.out.bel;have hjl:(Lib.join (ks.map objL) [44]).length≤401*ks.length:=by
    have:=join_len (ks.map objL) (fun l hl=>by obtain⟨k,hk,rfl⟩:=List.mem_map.1 hl;exact objL_len (hok k hk));simpa using this
   have hmm:((ks.map objB).map (·.data.toList))=ks.map objL:=by rw[List.map_map];apply List.map_congr_left;intro k _;rfl
   have hjoin:Calls Tryd.prog 39 #[u5,.string ⟨#[44]⟩] wr fun e w'=>e=.returned (.string ⟨(Lib.join (ks.map objL) [44]).toArray⟩)∧Below wr.heap.size wr w':=by
    have hadd:∀(g j:Nat),(⟨g,0,none⟩:Addr).add j=⟨g,j,none⟩:=fun g j=>by unfold Addr.add;split<;>simp_all
    rcases hrow.2 with⟨ha,h0⟩|⟨g,c,cu,ha,hg1,hg2,hnc,_⟩
    ·have:ks=[]:=by simpa using h0
     subst this;rw[ha];exact(Tryd.strings_Join_none none 0 ⟨#[44]⟩ wr).mono fun e w' hh=>⟨hh.1,by rw[hh.2];exact Below.refl _ _⟩
    ·rw[ha]
     have hc:=hrow.cells (g:=g) (by rw[ha];rfl);have:=Tryd.strings_Join g 0 c (ks.map objB) ⟨#[44]⟩ wr (fun j x hj=>by
      have:=hc j (.string x) (by rw[List.getElem?_map,hj];rfl);rw[hadd]at this;rwa [Nat.zero_add]) (hrow.lt g (by rw[ha];rfl)).2 (by rw[List.length_map];omega) hnc (by rw[hmm];show(Lib.join (ks.map objL) [44]).length≤_;omega)
     rw[hmm]at this;exact this
   have HJ:=thid hjoin;have hJs:∃J:ByteArray,J=⟨(Lib.join (ks.map objL) [44]).toArray⟩:=⟨_,rfl⟩;obtain⟨J,hJ⟩:=hJs;have HJ2:=HJ.out;rw[←hJ]at HJ2;have HJ3:=thid HJ2;have hJsz:J.size≤10000:=by rw[hJ];show(Lib.join (ks.map objL) [44]).toArray.size≤10000;simp;omega
   have HJeq:Hid (textK ks=headK++J.data.toList++[93,125]):=by rw[hJ];exact rfl
   clear hrow hso hok hso' HT hjl hmm hjoin HJ hJ HJ2 HP;go_wp2_with fail
   refine HJ3.out.mono ?_;rintro r w2 ⟨rfl,hb2⟩;have HB2:=thid (HBl.out.trans (hb2.mono HBl.out.size));clear hb2;go_wp2;go_ret3
   refine⟨?_,HB2.out⟩;rw[HT2.out];refine str3 ?_ rfl rfl;rw[HJeq.out];simp[headK]
end Go.Proofs.YtbllepoagnfjnaaDoor.Dg
