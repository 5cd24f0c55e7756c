import Derived.Test.YtbllepoagnfjnaaDoorProg
import Derived.WalkKit
import Derived.WalkSpells
import Derived.WalkLawsBesides
import Derived.Deep.QuietTactic
import Derived.BigQuiet
import Derived.Laws.Rows
import Derived.Deep.RegionHeld3
import Derived.KernelRfl
import Derived.ProofKit
import Derived.OpenShut
import Derived.Lib.LaidU8
import Derived.Lib.SmallJoins
set_option maxHeartbeats 2000000
namespace Go.Proofs.YtbllepoagnfjnaaDoor.Dg
set_option maxRecDepth 4000
open Go.RowKit
set_option linter.unusedVariables false
theorem thid{p:Prop}(h:p):Hid p:=h
theorem tbal{a w:World}(h:Below a.heap.size a w)(o:Obj):Below a.heap.size a (w.alloc o):=h.alloc h.size o
theorem tret_bool{a b:Bool}(h:a=b):Ending.returned (.bool a)=.returned (.bool b):=by rw[h]
def kidZ(z:Int):Bool:=decide ((65≤z∧z≤90)∨(97≤z∧z≤122)∨(48≤z∧z≤57)∨z=45∨z=95)
def kidL(l:List UInt8):Bool:=l.all fun c=>kidZ (c.toNat:Int)
def isKid(s:ByteArray):Bool:=decide (1≤s.size∧s.size≤40)&&kidL s.data.toList
theorem kid_snoc(s:ByteArray)(k:Nat)(h:k<s.size):kidL (s.data.toList.take (k+1))=(kidL (s.data.toList.take k)&&kidZ (s[k].toNat:Int)):=by
 have e:s.data.toList.take (k+1)=s.data.toList.take k++[s[k]]:=by
  rw[List.take_succ_eq_append_getElem (by simpa using h)];rfl
 unfold kidL;rw[e,List.all_append];simp
theorem kid_no{s:ByteArray}{k:Nat}(h:kidL (s.data.toList.take k)=false):kidL s.data.toList=false:=by
 unfold kidL at *;have:=List.take_append_drop k s.data.toList;rw[←this,List.all_append,h];rfl
theorem kid_all{s:ByteArray}{k:Nat}(hk:s.size≤k):s.data.toList.take k=s.data.toList:=List.take_of_length_le (by simpa using hk)
theorem cofKid(z:Int)(h0:0≤z)(h1:z≤255)(w:World):Calls Tryd.prog 63 #[.int .u8 z] w fun r w'=>r=.returned (.bool (kidZ z))∧w'=w:=by
 by_cases a1:65≤z∧z≤90
 ·obtain⟨a2,a3⟩:=a1
  rw[show kidZ z=true by unfold kidZ;simp;omega];go_enter Tryd.func63,Tryd.ntmps63;go_wp2;go_ret;exact⟨rfl,rfl⟩
 ·by_cases b1:97≤z∧z≤122
  ·obtain⟨b2,b3⟩:=b1
   rw[show kidZ z=true by unfold kidZ;simp;omega];clear a1;have a2:¬z≤90:=by omega
   go_enter Tryd.func63,Tryd.ntmps63;go_wp2;go_ret;exact⟨rfl,rfl⟩
  ·by_cases c1:48≤z∧z≤57
   ·obtain⟨c2,c3⟩:=c1
    rw[show kidZ z=true by unfold kidZ;simp;omega];clear a1 b1;have a2:¬65≤z:=by omega
    have b2:¬97≤z:=by omega
    go_enter Tryd.func63,Tryd.ntmps63;go_wp2;go_ret;exact⟨rfl,rfl⟩
   ·by_cases d1:z=45
    ·subst d1
     rw[show kidZ 45=true by decide];clear a1 b1 c1;go_enter Tryd.func63,Tryd.ntmps63;go_wp2;go_ret;exact⟨rfl,rfl⟩
    ·by_cases e1:z=95
     ·subst e1
      rw[show kidZ 95=true by decide];clear a1 b1 c1 d1;go_enter Tryd.func63,Tryd.ntmps63;go_wp2;go_ret;exact⟨rfl,rfl⟩
     ·rw[show kidZ z=false by unfold kidZ;simp;omega]
      have d2:(z==45)=false:=by simp[d1]
      have e2:(z==95)=false:=by simp[e1]
      clear d1 e1;go_enter Tryd.func63,Tryd.ntmps63;go_wp2;all_goals first|(exfalso;omega)|skip
      all_goals go_ret
      all_goals exact⟨rfl,rfl⟩
theorem tdigit(z:Int)(h0:0≤z)(h1:z≤255)(w:World):Calls Tryd.prog 51 #[.int .u8 z] w fun r w'=>r=.returned (.bool (decide (48≤z∧z≤57)))∧w'=w:=by
 by_cases a1:48≤z
 ·by_cases a2:z≤57
  ·rw[show decide (48≤z∧z≤57)=true by simp;omega]
   go_enter Tryd.func51,Tryd.ntmps51;go_wp2;go_ret;exact⟨rfl,rfl⟩
  ·rw[show decide (48≤z∧z≤57)=false by simp;omega]
   go_enter Tryd.func51,Tryd.ntmps51;go_wp2;go_ret;exact⟨rfl,rfl⟩
 ·rw[show decide (48≤z∧z≤57)=false by simp;omega]
  go_enter Tryd.func51,Tryd.ntmps51;go_wp2;go_ret;exact⟨rfl,rfl⟩
theorem cKid(s:ByteArray)(w:World)(hs:s.size≤4611686018427387904):Calls Tryd.prog 44 #[.string s] w fun r w'=>r=.returned (.bool (isKid s))∧w'=w:=by
 have hk:=fun z h0 h1 w'=>cofKid z h0 h1 w'
 by_cases h1:1≤s.size
 ·by_cases h2:s.size≤40
  ·have e:isKid s=kidL s.data.toList:=by unfold isKid;simp[h1,h2]
   rw[e];have k1:¬(s.size:Int)<1:=by omega
   have k2:¬(40:Int)<(s.size:Int):=by omega
   have HK:=thid hk;clear hk e;go_enter Tryd.func44,Tryd.ntmps44;go_wp2_with fail
   go_loopw [14] (fun iv wr=>∃k:Nat,k≤s.size∧iv=.int .i64 (k:Int)∧wr=w∧Hid (kidL (s.data.toList.take k)=true)) (fun iv _=>s.size-(intOf iv).toNat)
   case atStart=>exact⟨0,by omega,rfl,rfl,rfl⟩
   case round=>
    obtain⟨k,hk,rfl,rfl,hyes⟩:=hrel;by_cases hlt:k<s.size
    ·have k3:(k:Int)<(s.size:Int):=by omega
     have hc:s[k].toNat<256:=s[k].toNat_lt;obtain⟨b,hb⟩:∃b,kidZ (s[k].toNat:Int)=b:=⟨_,rfl⟩;have hcall:=fun w'=>HK.out (s[k].toNat:Int) (by omega) (by omega) w'
     rw[hb]at hcall;have HB:=thid hb;clear hb;go_wp2_with fail
     refine(hcall _).mono ?_;rintro r w1 ⟨rfl,hw⟩;rw[hw];clear hw w1;cases b with
     | true=>
       go_wp2_with fail
       go_roundw
       case rel=>exact⟨k+1,by omega,by go_num,trivial,by rw[kid_snoc s k hlt,hyes.out,HB.out];exact rfl⟩
       case measure=>simp[intOf];omega
     | false=>
       go_wp2;go_ret;refine⟨tret_bool ?_,rfl⟩;rw[kid_no (k:=k+1) (by rw[kid_snoc s k hlt,hyes.out,HB.out];rfl)]
    ·have k3:¬(k:Int)<(s.size:Int):=by omega
     go_wp2;go_ret;refine⟨tret_bool ?_,rfl⟩;have:=hyes.out;rw[kid_all (by omega)]at this;exact this.symm
  ·have e:isKid s=false:=by unfold isKid;simp[h2]
   rw[e];have k1:¬(s.size:Int)<1:=by omega
   have k2:(40:Int)<(s.size:Int):=by omega
   clear hk e;go_enter Tryd.func44,Tryd.ntmps44;go_wp2;go_ret;exact⟨rfl,rfl⟩
 ·have e:isKid s=false:=by unfold isKid;simp[h1]
  rw[e];have k1:(s.size:Int)<1:=by omega
  clear hk e;go_enter Tryd.func44,Tryd.ntmps44;go_wp2;go_ret;exact⟨rfl,rfl⟩
theorem rKid(s:ByteArray)(w:World)(hs:s.size≤4611686018427387904):Calls Tryd.prog 56 #[.string s] w fun r w'=>r=.returned (.bool (isKid s))∧w'=w:=by
 have hk:=fun z h0 h1 w'=>tdigit z h0 h1 w'
 have HK:=thid hk;clear hk;go_enter Tryd.func56,Tryd.ntmps56;go_wp2_with fail
 go_loopw [3] (fun iv wr=>∃k:Nat,k≤s.size∧iv=.int .i64 (k:Int)∧wr=w∧Hid (kidL (s.data.toList.take k)=true)) (fun iv _=>s.size-(intOf iv).toNat)
 case atStart=>exact⟨0,by omega,rfl,rfl,rfl⟩
 case round=>
  obtain⟨k,hk,rfl,rfl,hyes⟩:=hrel;by_cases hlt:k<s.size
  ·have k3:(k:Int)<(s.size:Int):=by omega
   have hc:s[k].toNat<256:=s[k].toNat_lt;have hstep:=thid (kid_snoc s k hlt);go_wp2_with fail
   have z0:(0:Int)≤(s[k].toNat:Int):=by omega
   have z1:(s[k].toNat:Int)≤255:=by omega
   clear hc;generalize (s[k].toNat:Int)=z at *;refine(HK.out z z0 z1 _).mono ?_;rintro r w1 ⟨rfl,hw⟩;rw[hw];clear hw w1;by_cases a1:48≤z∧z≤57
   ·rw[decide_eq_true a1]
    have hz:Hid (kidZ z=true):=by unfold kidZ;exact decide_eq_true (.inr (.inr (.inl a1)))
    go_wp2_with fail
    go_roundw
    case rel=>exact⟨k+1,by omega,by go_num,trivial,by rw[hstep.out,hyes.out,hz.out];exact rfl⟩
    case measure=>simp[intOf];omega
   ·rw[decide_eq_false a1]
    by_cases b1:65≤z∧z≤90
    ·obtain⟨b2,b3⟩:=b1
     have hz:Hid (kidZ z=true):=by unfold kidZ;exact decide_eq_true (.inl ⟨b2,b3⟩)
     clear a1;go_wp2_with fail
     go_roundw
     case rel=>exact⟨k+1,by omega,by go_num,trivial,by rw[hstep.out,hyes.out,hz.out];exact rfl⟩
     case measure=>simp[intOf];omega
    ·by_cases c1:97≤z∧z≤122
     ·obtain⟨c2,c3⟩:=c1
      have hz:Hid (kidZ z=true):=by unfold kidZ;exact decide_eq_true (.inr (.inl ⟨c2,c3⟩))
      have b2:65≤z:=by omega
      have b3:¬z≤90:=by omega
      clear a1 b1;go_wp2_with fail
      go_roundw
      case rel=>exact⟨k+1,by omega,by go_num,trivial,by rw[hstep.out,hyes.out,hz.out];exact rfl⟩
      case measure=>simp[intOf];omega
     ·by_cases d1:z=45
      ·subst d1
       have hz:Hid (kidZ 45=true):=thid (by decide);clear a1 b1 c1;go_wp2_with fail
       go_roundw
       case rel=>exact⟨k+1,by omega,by go_num,trivial,by rw[hstep.out,hyes.out,hz.out];exact rfl⟩
       case measure=>simp[intOf];omega
      ·by_cases e1:z=95
       ·subst e1
        have hz:Hid (kidZ 95=true):=thid (by decide);clear a1 b1 c1 d1;go_wp2_with fail
        go_roundw
        case rel=>exact⟨k+1,by omega,by go_num,trivial,by rw[hstep.out,hyes.out,hz.out];exact rfl⟩
        case measure=>simp[intOf];omega
       ·have hz:Hid (kidZ z=false):=by unfold kidZ;exact decide_eq_false (by omega)
        have d2:(z==45)=false:=by simp[d1]
        have e2:(z==95)=false:=by simp[e1]
        have d3:(z != 45)=true:=by simp[d1]
        have e3:(z != 95)=true:=by simp[e1]
        clear d1 e1;by_cases p1:65≤z
        ·have p2:¬z≤90:=by omega
         have p3:decide (z≤90)=false:=decide_eq_false p2;by_cases q1:97≤z
         ·have q2:¬z≤122:=by omega
          have q3:decide (z≤122)=false:=decide_eq_false q2;clear a1 b1 c1;go_wp2;go_ret;refine⟨tret_bool ?_,rfl⟩;unfold isKid;rw[kid_no (k:=k+1) (by rw[hstep.out,hyes.out,hz.out];rfl)];simp
         ·clear a1 b1 c1
          go_wp2;go_ret;refine⟨tret_bool ?_,rfl⟩;unfold isKid;rw[kid_no (k:=k+1) (by rw[hstep.out,hyes.out,hz.out];rfl)];simp
        ·have q1:¬97≤z:=by omega
         clear a1 b1 c1;go_wp2;go_ret;refine⟨tret_bool ?_,rfl⟩;unfold isKid;rw[kid_no (k:=k+1) (by rw[hstep.out,hyes.out,hz.out];rfl)];simp
  ·have k3:¬(k:Int)<(s.size:Int):=by omega
   have e:isKid s=decide (1≤s.size∧s.size≤40):=by
    unfold isKid;have:=hyes.out;rw[kid_all (by omega)]at this;rw[this,Bool.and_true]
   have HE:=thid e;clear e;by_cases h1:1≤s.size
   ·by_cases h2:s.size≤40
    ·have m1:(1:Int)≤(s.size:Int):=by omega
     have m2:(s.size:Int)≤40:=by omega
     go_wp2;go_ret;exact⟨tret_bool (by rw[HE.out];simp;omega),rfl⟩
    ·have m1:(1:Int)≤(s.size:Int):=by omega
     have m2:¬(s.size:Int)≤40:=by omega
     go_wp2;go_ret;exact⟨tret_bool (by rw[HE.out];simp;omega),rfl⟩
   ·have m1:¬(1:Int)≤(s.size:Int):=by omega
    go_wp2;go_ret;exact⟨tret_bool (by rw[HE.out];simp;omega),rfl⟩
def sizeN(alg:Int):Int:=if alg=256 then 32 else if alg=384 then 48 else if alg=512 then 64 else 0
theorem sizeN_bd(alg:Int):0≤sizeN alg∧sizeN alg≤64:=by
 unfold sizeN;repeat' split
 all_goals omega
theorem csize(alg:Int)(w:World):Calls Tryd.prog 64 #[.int .i64 alg] w fun r w'=>r=.returned (.int .i64 (sizeN alg))∧w'=w:=by
 by_cases a1:alg=256
 ·subst a1
  rw[show sizeN 256=32 from rfl];go_enter Tryd.func64,Tryd.ntmps64;go_wp2;go_ret;exact⟨rfl,rfl⟩
 ·by_cases b1:alg=384
  ·subst b1
   rw[show sizeN 384=48 from rfl];clear a1;go_enter Tryd.func64,Tryd.ntmps64;go_wp2;go_ret;exact⟨rfl,rfl⟩
  ·by_cases c1:alg=512
   ·subst c1
    rw[show sizeN 512=64 from rfl];clear a1 b1;go_enter Tryd.func64,Tryd.ntmps64;go_wp2;go_ret;exact⟨rfl,rfl⟩
   ·rw[show sizeN alg=0 by unfold sizeN;simp[a1,b1,c1]]
    have a2:(alg==256)=false:=by simp[a1]
    have b2:(alg==384)=false:=by simp[b1]
    have c2:(alg==512)=false:=by simp[c1]
    clear a1 b1 c1;go_enter Tryd.func64,Tryd.ntmps64;go_wp2;go_ret;exact⟨rfl,rfl⟩
theorem rsize(alg:Int)(w:World):Calls Tryd.prog 36 #[.int .i64 alg] w fun r w'=>r=.returned (.int .i64 (sizeN alg))∧w'=w:=by
 by_cases a1:alg=256
 ·subst a1
  rw[show sizeN 256=32 from rfl];go_enter Tryd.func36,Tryd.ntmps36;go_wp2;go_ret;exact⟨rfl,rfl⟩
 ·by_cases b1:alg=384
  ·subst b1
   rw[show sizeN 384=48 from rfl];clear a1;go_enter Tryd.func36,Tryd.ntmps36;go_wp2;go_ret;exact⟨rfl,rfl⟩
  ·by_cases c1:alg=512
   ·subst c1
    rw[show sizeN 512=64 from rfl];clear a1 b1;go_enter Tryd.func36,Tryd.ntmps36;go_wp2;go_ret;exact⟨rfl,rfl⟩
   ·rw[show sizeN alg=0 by unfold sizeN;simp[a1,b1,c1]]
    have a2:(alg==256)=false:=by simp[a1]
    have b2:(alg==384)=false:=by simp[b1]
    have c2:(alg==512)=false:=by simp[c1]
    clear a1 b1 c1;go_enter Tryd.func36,Tryd.ntmps36;go_wp2;go_ret;exact⟨rfl,rfl⟩
def fitsB(alg:Int)(key:ByteArray):Bool:=decide (0<sizeN alg∧sizeN alg≤(key.size:Int)∧key.size≤200)
theorem cfits(alg:Int)(key:ByteArray)(w:World)(hs:key.size≤4611686018427387904):Calls Tryd.prog 45 #[.string key,.int .i64 alg] w fun r w'=>r=.returned (.bool (fitsB alg key))∧w'=w:=by
 have hsz:=fun w'=>csize alg w'
 have hb:=sizeN_bd alg;have HE:Hid (fitsB alg key=decide (0<sizeN alg∧sizeN alg≤(key.size:Int)∧key.size≤200)):=by unfold fitsB;exact rfl
 generalize sizeN alg=q at *;obtain⟨b0,b1⟩:=hb;go_enter Tryd.func45,Tryd.ntmps45;go_wp2_with fail
 refine(hsz _).mono ?_;rintro r w1 ⟨rfl,hw⟩;rw[hw];clear hw w1 hsz;by_cases h1:0<q
 ·by_cases h2:q≤(key.size:Int)
  ·by_cases h3:(key.size:Int)≤200
   ·go_wp2
    go_ret;exact⟨tret_bool (by rw[HE.out];simp;omega),rfl⟩
   ·go_wp2
    go_ret;exact⟨tret_bool (by rw[HE.out,decide_eq_false (p:=0<q∧q≤(key.size:Int)∧key.size≤200) (by omega)];first|done|(simp;omega)),rfl⟩
  ·go_wp2
   go_ret;exact⟨tret_bool (by rw[HE.out];simp;omega),rfl⟩
 ·go_wp2
  go_ret;exact⟨tret_bool (by rw[HE.out];simp;omega),rfl⟩
theorem rfits(alg:Int)(key:ByteArray)(w:World)(hs:key.size≤4611686018427387904):Calls Tryd.prog 21 #[.int .i64 alg,.string key] w fun r w'=>r=.returned (.bool (fitsB alg key))∧w'=w:=by
 have hsz:=fun w'=>rsize alg w'
 have hb:=sizeN_bd alg;have HE:Hid (fitsB alg key=decide (0<sizeN alg∧sizeN alg≤(key.size:Int)∧key.size≤200)):=by unfold fitsB;exact rfl
 generalize sizeN alg=q at *;obtain⟨b0,b1⟩:=hb;by_cases h1:0<q
 ·by_cases h2:q≤(key.size:Int)
  ·by_cases h3:(key.size:Int)≤200
   ·go_enter Tryd.func21,Tryd.ntmps21
    go_wp2_with (go_at_call 36;refine(hsz _).mono ?_;rintro e' w' ⟨rfl,hw⟩;have hw2:=hw.symm;subst hw2)
    go_ret;exact⟨tret_bool (by rw[HE.out];simp;omega),rfl⟩
   ·go_enter Tryd.func21,Tryd.ntmps21
    go_wp2_with (go_at_call 36;refine(hsz _).mono ?_;rintro e' w' ⟨rfl,hw⟩;have hw2:=hw.symm;subst hw2)
    go_ret;exact⟨tret_bool (by rw[HE.out,decide_eq_false (p:=0<q∧q≤(key.size:Int)∧key.size≤200) (by omega)];first|done|(simp;omega)),rfl⟩
  ·go_enter Tryd.func21,Tryd.ntmps21
   go_wp2_with (go_at_call 36;refine(hsz _).mono ?_;rintro e' w' ⟨rfl,hw⟩;have hw2:=hw.symm;subst hw2)
   go_ret;exact⟨tret_bool (by rw[HE.out];simp;omega),rfl⟩
 ·go_enter Tryd.func21,Tryd.ntmps21
  go_wp2_with (go_at_call 36;refine(hsz _).mono ?_;rintro e' w' ⟨rfl,hw⟩;have hw2:=hw.symm;subst hw2)
  go_ret;exact⟨tret_bool (by rw[HE.out];simp;omega),rfl⟩
def nameB(alg:Int):ByteArray:=if alg=256 then⟨#[72,83,50,53,54]⟩else if alg=384 then⟨#[72,83,51,56,52]⟩else if alg=512 then⟨#[72,83,53,49,50]⟩else⟨#[]⟩
structure WG (w:World):Prop where
 g0:w.cell? ⟨2,0,none⟩=some (.int .i64 256)
 g1:w.cell? ⟨2,1,none⟩=some (.string ⟨#[72,83,50,53,54]⟩)
 g2:w.cell? ⟨2,2,none⟩=some (.int .i64 384)
 g3:w.cell? ⟨2,3,none⟩=some (.string ⟨#[72,83,51,56,52]⟩)
 g4:w.cell? ⟨2,4,none⟩=some (.int .i64 512)
 g5:w.cell? ⟨2,5,none⟩=some (.string ⟨#[72,83,53,49,50]⟩)
theorem tcell_kp{w w':World}(h:Below w.heap.size w w'){g j:Nat}{u:Value}(hc:w.cell? ⟨g,j,none⟩=some u):w'.cell? ⟨g,j,none⟩=some u:=by
 by_cases hg:g<w.heap.size
 ·have:=h.block g hg
  simp only[World.cell?]at hc ⊢;rw[this];exact hc
 ·have:w.heap[g]?=none:=Array.getElem?_eq_none (by omega)
  simp[World.cell?,this]at hc
theorem WG.below{w w':World}(h:WG w)(hb:Below w.heap.size w w'):WG w':=
 ⟨tcell_kp hb h.g0,tcell_kp hb h.g1,tcell_kp hb h.g2,tcell_kp hb h.g3,tcell_kp hb h.g4,tcell_kp hb h.g5⟩
theorem wp_index{P:Program}{ops:Array Oper}{rest:List Oper}{o:Oper}{a:Act}{Q:Exit→Act→World→Prop}{w:World}(hgd:o.guard=none)(t:Nat)(x y:Operand)(ho:o.op=.index t x y)(v:Value)(hr:(Instr.index t (a.eval x) (a.eval y)).run P w=.ok v w)(h:wpList P ops Q rest (a.put o.dst v) w):wpList P ops Q (o::rest) a w:=by
 refine wpList_plain hgd fun K hK=>?_
 unfold Oper.wp execOp;simp only[ho,Sem.run_bind,Sem.run_pure,hr,Result.andThen_ok];exact hK _ _ h
def waysA:Array Value:= #[.int .i64 256,.string ⟨#[72,83,50,53,54]⟩,.int .i64 384,.string ⟨#[72,83,51,56,52]⟩,.int .i64 512,.string ⟨#[72,83,53,49,50]⟩]
theorem ways0(w:World):(Instr.index 115 (.agg waysA) (.int .i64 0)).run Tryd.prog w=.ok (.agg #[.int .i64 256,.string ⟨#[72,83,50,53,54]⟩]) w:=by kernel_rfl
theorem ways1(w:World):(Instr.index 115 (.agg waysA) (.int .i64 1)).run Tryd.prog w=.ok (.agg #[.int .i64 384,.string ⟨#[72,83,51,56,52]⟩]) w:=by kernel_rfl
theorem ways2(w:World):(Instr.index 115 (.agg waysA) (.int .i64 2)).run Tryd.prog w=.ok (.agg #[.int .i64 512,.string ⟨#[72,83,53,49,50]⟩]) w:=by kernel_rfl
def Looked(alg:Int)(w:World)(iv:Value)(wr:World):Prop:=
 (iv=.int .i64 0∨(iv=.int .i64 1∧alg≠256)∨(iv=.int .i64 2∧alg≠256∧alg≠384)∨(iv=.int .i64 3∧alg≠256∧alg≠384∧alg≠512))∧Below w.heap.size w wr
theorem calgName(alg:Int)(w:World)(hG:WG w):Calls Tryd.prog 43 #[.int .i64 alg] w fun r w'=>r=.returned (.string (nameB alg))∧Below w.heap.size w w':=by
 obtain⟨g0,g1,g2,g3,g4,g5⟩:=hG;go_enter Tryd.func43,Tryd.ntmps43;go_wp2_with fail
 clear g0 g1 g2 g3 g4 g5;go_loopw [6] (fun iv wr=>Looked alg w iv wr) (fun iv _=>3-(intOf iv).toNat)
 case atStart=>exact⟨.inl rfl,Below.refl _ _⟩
 case round=>
  obtain⟨rfl|⟨rfl,h1⟩|⟨rfl,h1,h2⟩|⟨rfl,h1,h2,h3⟩,hb⟩:=hrel
  ·have HB:=thid hb
   clear hb;by_cases a1:alg=256
   ·subst a1
    go_wp2_with (refine wp_index rfl 115 _ _ rfl _ (ways0 _) ?_)
    go_ret;exact⟨rfl,tbal HB.out _⟩
   ·have a2:(256==alg)=false:=by simp;omega
    have HA:=thid a1;clear a1;go_wp2_with (refine wp_index rfl 115 _ _ rfl _ (ways0 _) ?_)
    go_roundw
    case rel=>exact⟨.inr (.inl ⟨rfl,HA.out⟩),tbal HB.out _⟩
    case measure=>simp[intOf]
  ·have HB:=thid hb
   have H1:=thid h1;clear hb h1;by_cases a1:alg=384
   ·subst a1
    go_wp2_with (refine wp_index rfl 115 _ _ rfl _ (ways1 _) ?_)
    go_ret;exact⟨rfl,tbal HB.out _⟩
   ·have a2:(384==alg)=false:=by simp;omega
    have HA:=thid a1;clear a1;go_wp2_with (refine wp_index rfl 115 _ _ rfl _ (ways1 _) ?_)
    go_roundw
    case rel=>exact⟨.inr (.inr (.inl ⟨rfl,H1.out,HA.out⟩)),tbal HB.out _⟩
    case measure=>simp[intOf]
  ·have HB:=thid hb
   have H1:=thid h1;have H2:=thid h2;clear hb h1 h2;by_cases a1:alg=512
   ·subst a1
    go_wp2_with (refine wp_index rfl 115 _ _ rfl _ (ways2 _) ?_)
    go_ret;exact⟨rfl,tbal HB.out _⟩
   ·have a2:(512==alg)=false:=by simp;omega
    have HA:=thid a1;clear a1;go_wp2_with (refine wp_index rfl 115 _ _ rfl _ (ways2 _) ?_)
    go_roundw
    case rel=>exact⟨.inr (.inr (.inr ⟨rfl,H1.out,H2.out,HA.out⟩)),tbal HB.out _⟩
    case measure=>simp[intOf]
  ·have HB:=thid hb
   have e:Hid (nameB alg=⟨#[]⟩):=by unfold nameB;rw[if_neg h1,if_neg h2,if_neg h3];exact rfl
   clear hb h1 h2 h3;go_wp2;go_ret;exact⟨by rw[e.out];rfl,HB.out⟩
def keyErr(alg:Int)(kid key:ByteArray):Int:=if sizeN alg=0 then 9 else if isKid kid=false then 11 else if fitsB alg key=false then 10 else 0
theorem name_none(alg:Int):nameB alg=⟨#[]⟩↔sizeN alg=0:=by
 unfold nameB sizeN;repeat' split
 all_goals simp
theorem ccheckKey(alg:Int)(kid key:ByteArray)(w:World)(hG:WG w)(h1:kid.size≤4611686018427387904)(h2:key.size≤4611686018427387904):Calls Tryd.prog 27 #[.agg #[.int .i64 alg,.string kid,.string key]] w fun r w'=>r=.returned (.int .i64 (keyErr alg kid key))∧Below w.heap.size w w':=by
 have hn:=fun w1 (b1:Below w.heap.size w w1)=>calgName alg w1 (hG.below b1)
 have hk:=fun w1=>cKid kid w1 h1
 have hf:=fun w1=>cfits alg key w1 h2
 have hnn:=name_none alg;have HE:Hid (keyErr alg kid key=if sizeN alg=0 then 9 else if isKid kid=false then 11 else if fitsB alg key=false then 10 else 0):=by unfold keyErr;exact rfl
 have HN:=thid hn;have HK:=thid hk;have HF:=thid hf;have HNN:=thid hnn;clear hn hk hf hnn hG;by_cases a1:sizeN alg=0
 ·have e:nameB alg=⟨#[]⟩:=HNN.out.2 a1
  have HN2:=HN.out;rw[e]at HN2;have HN3:=thid HN2;have A1:=thid a1;clear e HN2 HN a1;go_enter Tryd.func27,Tryd.ntmps27;go_wp2_with fail
  refine(HN3.out _ (tbal (Below.refl _ _) _)).mono ?_;rintro r w1 ⟨rfl,hb⟩;have HB:=thid ((tbal (Below.refl w.heap.size w) _).trans (hb.mono (by simp)));clear hb;go_wp2;go_ret;exact⟨by rw[HE.out,if_pos A1.out];rfl,HB.out⟩
 ·have hne:((nameB alg).toList==[])=false:=by
   rw[beq_eq_false_iff_ne,ByteArray.toList_eq];intro h2;exact a1 (HNN.out.1 (by
    generalize nameB alg=q at h2;cases q;simp at h2;simp[h2]))
  have A1:=thid a1;clear a1;generalize nameB alg=nm at *;go_enter Tryd.func27,Tryd.ntmps27;go_wp2_with fail
  refine(HN.out _ (tbal (Below.refl _ _) _)).mono ?_;rintro r w1 ⟨rfl,hb⟩;have c0:w1.cell? ⟨w.heap.size,0,none⟩=some (.int .i64 alg):=tcell_kp hb (by simp);have c1:w1.cell? ⟨w.heap.size,1,none⟩=some (.string kid):=tcell_kp hb (by simp);have c2:w1.cell? ⟨w.heap.size,2,none⟩=some (.string key):=tcell_kp hb (by simp);have HB:=thid ((tbal (Below.refl w.heap.size w) _).trans (hb.mono (by simp)));clear hb;go_wp2_with fail
  refine(HK.out _).mono ?_;rintro r w2 ⟨rfl,hw⟩;rw[hw];clear hw w2;by_cases b1:isKid kid=false
  ·rw[b1]
   have B1:=thid b1;clear b1;go_wp2;go_ret;exact⟨by rw[HE.out,if_neg A1.out,if_pos B1.out];rfl,HB.out⟩
  ·have b2:isKid kid=true:=by simpa using b1
   rw[b2];have B1:=thid b1;clear b1 b2;go_wp2_with fail
   refine(HF.out _).mono ?_;rintro r w2 ⟨rfl,hw⟩;rw[hw];clear hw w2;by_cases d1:fitsB alg key=false
   ·rw[d1]
    have D1:=thid d1;clear d1;go_wp2;go_ret;exact⟨by rw[HE.out,if_neg A1.out,if_neg B1.out,if_pos D1.out];rfl,HB.out⟩
   ·have d2:fitsB alg key=true:=by simpa using d1
    rw[d2];have D1:=thid d1;clear d1 d2;go_wp2;go_ret;exact⟨by rw[HE.out,if_neg A1.out,if_neg B1.out,if_neg D1.out];rfl,HB.out⟩
open Go.ChangeShapes Go.WideShapes Go.ChangeAt Go.Joins Go.Deep
theorem gn_ways:Tryd.prog.globalNamed "notary/token.ways" =some 2:=by kernel_rfl
theorem way_of{w:World}{fuel:Nat}{cs:List Value}{p:List MemPlace}{a:Int}{s:List UInt8}(hl:cs.length=2)(h:DataW.trod (fun _=>()) Tryd.prog w 0 (fun _=>true) false fuel 114 cs=some (.agg [.lit (.int .i64 a),.lit (.string s)],p)):cs=[.int .i64 a,.string ⟨s.toArray⟩]:=by
 obtain⟨y0,y1,n,hd,_,g0,g1⟩:=trod_struct2 Tryd.underlying114 h;match cs,hl with
 | [c0,c1],_=>
   have g0':DataW.trod (fun _=>()) Tryd.prog w 0 (fun _=>true) false n 3 [c0]=some y0:=by simpa [show Tryd.prog.cellsOf 3=1 by kernel_rfl]using g0
   have g1':DataW.trod (fun _=>()) Tryd.prog w 0 (fun _=>true) false n 9 [c1]=some y1:=by simpa [show Tryd.prog.cellsOf 9=1 by kernel_rfl]using g1
   obtain⟨s0,e0,f0,_⟩:=DataW.trod_int Tryd.underlying3 g0';obtain⟨s1,e1,f1,_⟩:=DataW.trod_string Tryd.underlying9 g1';simp only[List.cons.injEq,and_true]at e0 e1;subst e0 e1;simp only[Prod.mk.injEq,f0,f1]at hd;obtain⟨hd,_⟩:=hd;injection hd with hd;injection hd with h0 hd;injection hd with h1 _;injection h0 with h0;injection h0 with _ h0;injection h1 with h1;injection h1 with h1;rw[h0,h1]
theorem wg_of{W:World}(h:Lib.VarReads Tryd.prog W "notary/token.ways" (.agg [.agg [.lit (.int .i64 256),.lit (.string [72,83,50,53,54])],.agg [.lit (.int .i64 384),.lit (.string [72,83,51,56,52])],.agg [.lit (.int .i64 512),.lit (.string [72,83,53,49,50])]])):WG W:=by
 obtain⟨g,t,cs,fuel,p,h1,h2,h3,h4⟩:=h;obtain rfl:=Option.some.inj (gn_ways.symm.trans h1);obtain rfl:t=115:=Option.some.inj (h2.symm.trans (show(Tryd.prog.globals[2]?).map (·.type)=some 115 by kernel_rfl));obtain⟨xs,m,_,hx,hlen,hxl,hel⟩:=DataW.trod_array Tryd.underlying115 h4;have hc2:Tryd.prog.cellsOf 114=2:=by kernel_rfl
 have hc6:Tryd.prog.cellsOf 115=6:=by kernel_rfl
 rw[hc6]at hlen;simp only[Prod.mk.injEq]at hx;have hxs:=hx.1;injection hxs with hxs;match xs,hxl with
 | [x0,x1,x2],_=>
   simp only[List.map_cons,List.map_nil]at hxs;injection hxs with q0 hxs;injection hxs with q1 hxs;injection hxs with q2 _;have e0:=hel 0 (by omega);have e1:=hel 1 (by omega);have e2:=hel 2 (by omega);obtain⟨x0,p0⟩:=x0;obtain⟨x1,p1⟩:=x1;obtain⟨x2,p2⟩:=x2;simp only at q0 q1 q2;subst q0 q1 q2;obtain⟨L⟩:=cs;simp only at hlen;match L,hlen with
   | [c0,c1,c2,c3,c4,c5],_=>
     simp only[hc2]at e0 e1 e2;have r0:=way_of (by simp) e0;have r1:=way_of (by simp) e1;have r2:=way_of (by simp) e2;simp at r0 r1 r2;obtain⟨rfl,rfl⟩:=r0;obtain⟨rfl,rfl⟩:=r1;obtain⟨rfl,rfl⟩:=r2;unfold World.var? at h3;rw[gn_ways]at h3;simp only[Option.bind_some]at h3;have hcell:∀k,W.cell? ⟨2,k,none⟩=(#[Value.int .i64 256,.string ⟨#[72,83,50,53,54]⟩,.int .i64 384,.string ⟨#[72,83,51,56,52]⟩,.int .i64 512,.string ⟨#[72,83,53,49,50]⟩]:Array Value)[k]?:=by
      intro k;cases hh:W.heap[2]? with
      | none=>simp[hh]at h3
      | some o=>
        cases o with
        | cells c t fr=>
          simp[hh]at h3;simp[World.cell?,hh,h3]
        | map es cl=>simp[hh]at h3
        | _=>simp[hh]at h3
     exact⟨hcell 0,hcell 1,hcell 2,hcell 3,hcell 4,hcell 5⟩
end Go.Proofs.YtbllepoagnfjnaaDoor.Dg
