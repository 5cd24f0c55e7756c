import Derived.Test.YtfhjjbgjoclanaeDoorTKid
set_option maxHeartbeats 2000000
namespace Go.Proofs.YtfhjjbgjoclanaeDoor
open Go.RowKit
set_option linter.unusedVariables false
theorem rKid(s:ByteArray)(w:World)(hs:s.size≤4611686018427387904):Calls Tryd.prog 27 #[.string s] w fun r w'=>r=.returned (.bool (isKid s))∧w'=w:=by
 have hk:=fun z h0 h1 w'=>tdigit z h0 h1 w'
 have HK:=thid hk;clear hk;go_enter Tryd.func27,Tryd.ntmps27;go_wp2_with fail
 go_loopw [3] (fun iv wr=>∃k:Nat,k≤s.size∧iv=.int .i64 (k:Int)∧wr=w∧Hid (kidL (s.data.toList.take k)=true)) (fun iv _=>s.size-(intOf iv).toNat)
 case atStart=>exact⟨0,by omega,rfl,rfl,rfl⟩
 case round=>
  obtain⟨k,hk,rfl,rfl,hyes⟩:=hrel;by_cases hlt:k<s.size
  ·have k3:(k:Int)<(s.size:Int):=by omega
   have hc:s[k].toNat<256:=s[k].toNat_lt;have hstep:=thid (kid_snoc s k hlt);go_wp2_with fail
   have z0:(0:Int)≤(s[k].toNat:Int):=by omega
   have z1:(s[k].toNat:Int)≤255:=by omega
   clear hc;generalize (s[k].toNat:Int)=z at *;refine(HK.out z z0 z1 _).mono ?_;rintro r w1 ⟨rfl,hw⟩;rw[hw];clear hw w1;by_cases a1:48≤z∧z≤57
   ·rw[decide_eq_true a1]
    have hz:Hid (kidZ z=true):=by unfold kidZ;exact decide_eq_true (.inr (.inr (.inl a1)))
    go_wp2_with fail
    go_roundw
    case rel=>exact⟨k+1,by omega,by go_num,trivial,by rw[hstep.out,hyes.out,hz.out];exact rfl⟩
    case measure=>simp[intOf];omega
   ·rw[decide_eq_false a1]
    by_cases b1:65≤z∧z≤90
    ·obtain⟨b2,b3⟩:=b1
     have hz:Hid (kidZ z=true):=by unfold kidZ;exact decide_eq_true (.inl ⟨b2,b3⟩)
     clear a1;go_wp2_with fail
     go_roundw
     case rel=>exact⟨k+1,by omega,by go_num,trivial,by rw[hstep.out,hyes.out,hz.out];exact rfl⟩
     case measure=>simp[intOf];omega
    ·by_cases c1:97≤z∧z≤122
     ·obtain⟨c2,c3⟩:=c1
      have hz:Hid (kidZ z=true):=by unfold kidZ;exact decide_eq_true (.inr (.inl ⟨c2,c3⟩))
      have b2:65≤z:=by omega
      have b3:¬z≤90:=by omega
      clear a1 b1;go_wp2_with fail
      go_roundw
      case rel=>exact⟨k+1,by omega,by go_num,trivial,by rw[hstep.out,hyes.out,hz.out];exact rfl⟩
      case measure=>simp[intOf];omega
     ·by_cases d1:z=45
      ·subst d1
       have hz:Hid (kidZ 45=true):=thid (by decide);clear a1 b1 c1;go_wp2_with fail
       go_roundw
       case rel=>exact⟨k+1,by omega,by go_num,trivial,by rw[hstep.out,hyes.out,hz.out];exact rfl⟩
       case measure=>simp[intOf];omega
      ·by_cases e1:z=95
       ·subst e1
        have hz:Hid (kidZ 95=true):=thid (by decide);clear a1 b1 c1 d1;go_wp2_with fail
        go_roundw
        case rel=>exact⟨k+1,by omega,by go_num,trivial,by rw[hstep.out,hyes.out,hz.out];exact rfl⟩
        case measure=>simp[intOf];omega
       ·have hz:Hid (kidZ z=false):=by unfold kidZ;exact decide_eq_false (by omega)
        have d2:(z==45)=false:=by simp[d1]
        have e2:(z==95)=false:=by simp[e1]
        have d3:(z != 45)=true:=by simp[d1]
        have e3:(z != 95)=true:=by simp[e1]
        clear d1 e1;by_cases p1:65≤z
        ·have p2:¬z≤90:=by omega
         have p3:decide (z≤90)=false:=decide_eq_false p2;by_cases q1:97≤z
         ·have q2:¬z≤122:=by omega
          have q3:decide (z≤122)=false:=decide_eq_false q2;clear a1 b1 c1;go_wp2;go_ret;refine⟨tret_bool ?_,rfl⟩;unfold isKid;rw[kid_no (k:=k+1) (by rw[hstep.out,hyes.out,hz.out];rfl)];simp
         ·clear a1 b1 c1
          go_wp2;go_ret;refine⟨tret_bool ?_,rfl⟩;unfold isKid;rw[kid_no (k:=k+1) (by rw[hstep.out,hyes.out,hz.out];rfl)];simp
        ·have q1:¬97≤z:=by omega
         clear a1 b1 c1;go_wp2;go_ret;refine⟨tret_bool ?_,rfl⟩;unfold isKid;rw[kid_no (k:=k+1) (by rw[hstep.out,hyes.out,hz.out];rfl)];simp
  ·have k3:¬(k:Int)<(s.size:Int):=by omega
   have e:isKid s=decide (1≤s.size∧s.size≤40):=by
    unfold isKid;have:=hyes.out;rw[kid_all (by omega)]at this;rw[this,Bool.and_true]
   have HE:=thid e;clear e;by_cases h1:1≤s.size
   ·by_cases h2:s.size≤40
    ·have m1:(1:Int)≤(s.size:Int):=by omega
     have m2:(s.size:Int)≤40:=by omega
     go_wp2;go_ret;exact⟨tret_bool (by rw[HE.out];simp;omega),rfl⟩
    ·have m1:(1:Int)≤(s.size:Int):=by omega
     have m2:¬(s.size:Int)≤40:=by omega
     go_wp2;go_ret;exact⟨tret_bool (by rw[HE.out];simp;omega),rfl⟩
   ·have m1:¬(1:Int)≤(s.size:Int):=by omega
    go_wp2;go_ret;exact⟨tret_bool (by rw[HE.out];simp;omega),rfl⟩
def sizeN(alg:Int):Int:=if alg=256 then 32 else if alg=384 then 48 else if alg=512 then 64 else 0
theorem sizeN_bd(alg:Int):0≤sizeN alg∧sizeN alg≤64:=by
 unfold sizeN;repeat' split
 all_goals omega
theorem csize(alg:Int)(w:World):Calls Tryd.prog 37 #[.int .i64 alg] w fun r w'=>r=.returned (.int .i64 (sizeN alg))∧w'=w:=by
 by_cases a1:alg=256
 ·subst a1
  rw[show sizeN 256=32 from rfl];go_enter Tryd.func37,Tryd.ntmps37;go_wp2;go_ret;exact⟨rfl,rfl⟩
 ·by_cases b1:alg=384
  ·subst b1
   rw[show sizeN 384=48 from rfl];clear a1;go_enter Tryd.func37,Tryd.ntmps37;go_wp2;go_ret;exact⟨rfl,rfl⟩
  ·by_cases c1:alg=512
   ·subst c1
    rw[show sizeN 512=64 from rfl];clear a1 b1;go_enter Tryd.func37,Tryd.ntmps37;go_wp2;go_ret;exact⟨rfl,rfl⟩
   ·rw[show sizeN alg=0 by unfold sizeN;simp[a1,b1,c1]]
    have a2:(alg==256)=false:=by simp[a1]
    have b2:(alg==384)=false:=by simp[b1]
    have c2:(alg==512)=false:=by simp[c1]
    clear a1 b1 c1;go_enter Tryd.func37,Tryd.ntmps37;go_wp2;go_ret;exact⟨rfl,rfl⟩
theorem rsize(alg:Int)(w:World):Calls Tryd.prog 26 #[.int .i64 alg] w fun r w'=>r=.returned (.int .i64 (sizeN alg))∧w'=w:=by
 by_cases a1:alg=256
 ·subst a1
  rw[show sizeN 256=32 from rfl];go_enter Tryd.func26,Tryd.ntmps26;go_wp2;go_ret;exact⟨rfl,rfl⟩
 ·by_cases b1:alg=384
  ·subst b1
   rw[show sizeN 384=48 from rfl];clear a1;go_enter Tryd.func26,Tryd.ntmps26;go_wp2;go_ret;exact⟨rfl,rfl⟩
  ·by_cases c1:alg=512
   ·subst c1
    rw[show sizeN 512=64 from rfl];clear a1 b1;go_enter Tryd.func26,Tryd.ntmps26;go_wp2;go_ret;exact⟨rfl,rfl⟩
   ·rw[show sizeN alg=0 by unfold sizeN;simp[a1,b1,c1]]
    have a2:(alg==256)=false:=by simp[a1]
    have b2:(alg==384)=false:=by simp[b1]
    have c2:(alg==512)=false:=by simp[c1]
    clear a1 b1 c1;go_enter Tryd.func26,Tryd.ntmps26;go_wp2;go_ret;exact⟨rfl,rfl⟩
def fitsB(alg:Int)(key:ByteArray):Bool:=decide (0<sizeN alg∧sizeN alg≤(key.size:Int)∧key.size≤200)
theorem cfits(alg:Int)(key:ByteArray)(w:World)(hs:key.size≤4611686018427387904):Calls Tryd.prog 31 #[.string key,.int .i64 alg] w fun r w'=>r=.returned (.bool (fitsB alg key))∧w'=w:=by
 have hsz:=fun w'=>csize alg w'
 have hb:=sizeN_bd alg;have HE:Hid (fitsB alg key=decide (0<sizeN alg∧sizeN alg≤(key.size:Int)∧key.size≤200)):=by unfold fitsB;exact rfl
 generalize sizeN alg=q at *;obtain⟨b0,b1⟩:=hb;go_enter Tryd.func31,Tryd.ntmps31;go_wp2_with fail
 refine(hsz _).mono ?_;rintro r w1 ⟨rfl,hw⟩;rw[hw];clear hw w1 hsz;by_cases h1:0<q
 ·by_cases h2:q≤(key.size:Int)
  ·by_cases h3:(key.size:Int)≤200
   ·go_wp2
    go_ret;exact⟨tret_bool (by rw[HE.out];simp;omega),rfl⟩
   ·go_wp2
    go_ret;exact⟨tret_bool (by rw[HE.out,decide_eq_false (p:=0<q∧q≤(key.size:Int)∧key.size≤200) (by omega)];first|done|(simp;omega)),rfl⟩
  ·go_wp2
   go_ret;exact⟨tret_bool (by rw[HE.out];simp;omega),rfl⟩
 ·go_wp2
  go_ret;exact⟨tret_bool (by rw[HE.out];simp;omega),rfl⟩
theorem rfits(alg:Int)(key:ByteArray)(w:World)(hs:key.size≤4611686018427387904):Calls Tryd.prog 28 #[.int .i64 alg,.string key] w fun r w'=>r=.returned (.bool (fitsB alg key))∧w'=w:=by
 have hsz:=fun w'=>rsize alg w'
 have hb:=sizeN_bd alg;have HE:Hid (fitsB alg key=decide (0<sizeN alg∧sizeN alg≤(key.size:Int)∧key.size≤200)):=by unfold fitsB;exact rfl
 generalize sizeN alg=q at *;obtain⟨b0,b1⟩:=hb;by_cases h1:0<q
 ·by_cases h2:q≤(key.size:Int)
  ·by_cases h3:(key.size:Int)≤200
   ·go_enter Tryd.func28,Tryd.ntmps28
    go_wp2_with (go_at_call 26;refine(hsz _).mono ?_;rintro e' w' ⟨rfl,hw⟩;have hw2:=hw.symm;subst hw2)
    go_ret;exact⟨tret_bool (by rw[HE.out];simp;omega),rfl⟩
   ·go_enter Tryd.func28,Tryd.ntmps28
    go_wp2_with (go_at_call 26;refine(hsz _).mono ?_;rintro e' w' ⟨rfl,hw⟩;have hw2:=hw.symm;subst hw2)
    go_ret;exact⟨tret_bool (by rw[HE.out,decide_eq_false (p:=0<q∧q≤(key.size:Int)∧key.size≤200) (by omega)];first|done|(simp;omega)),rfl⟩
  ·go_enter Tryd.func28,Tryd.ntmps28
   go_wp2_with (go_at_call 26;refine(hsz _).mono ?_;rintro e' w' ⟨rfl,hw⟩;have hw2:=hw.symm;subst hw2)
   go_ret;exact⟨tret_bool (by rw[HE.out];simp;omega),rfl⟩
 ·go_enter Tryd.func28,Tryd.ntmps28
  go_wp2_with (go_at_call 26;refine(hsz _).mono ?_;rintro e' w' ⟨rfl,hw⟩;have hw2:=hw.symm;subst hw2)
  go_ret;exact⟨tret_bool (by rw[HE.out];simp;omega),rfl⟩
end Go.Proofs.YtfhjjbgjoclanaeDoor
