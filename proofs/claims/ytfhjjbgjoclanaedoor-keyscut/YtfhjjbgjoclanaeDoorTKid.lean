import Derived.Test.YtfhjjbgjoclanaeDoorProg
import Derived.WalkKit
import Derived.WalkSpells
import Derived.WalkLawsBesides
import Derived.Deep.QuietTactic
import Derived.BigQuiet
import Derived.Laws.Rows
import Derived.Deep.RegionHeld3
import Derived.KernelRfl
set_option maxHeartbeats 1000000
namespace Go.Proofs.YtfhjjbgjoclanaeDoor
open Go.RowKit
set_option linter.unusedVariables false
theorem thid{p:Prop}(h:p):Hid p:=h
theorem tbal{a w:World}(h:Below a.heap.size a w)(o:Obj):Below a.heap.size a (w.alloc o):=h.alloc h.size o
theorem tret_bool{a b:Bool}(h:a=b):Ending.returned (.bool a)=.returned (.bool b):=by rw[h]
def kidZ(z:Int):Bool:=decide ((65≤z∧z≤90)∨(97≤z∧z≤122)∨(48≤z∧z≤57)∨z=45∨z=95)
def kidL(l:List UInt8):Bool:=l.all fun c=>kidZ (c.toNat:Int)
def isKid(s:ByteArray):Bool:=decide (1≤s.size∧s.size≤40)&&kidL s.data.toList
theorem kid_snoc(s:ByteArray)(k:Nat)(h:k<s.size):kidL (s.data.toList.take (k+1))=(kidL (s.data.toList.take k)&&kidZ (s[k].toNat:Int)):=by
 have e:s.data.toList.take (k+1)=s.data.toList.take k++[s[k]]:=by
  rw[List.take_succ_eq_append_getElem (by simpa using h)];rfl
 unfold kidL;rw[e,List.all_append];simp
theorem kid_no{s:ByteArray}{k:Nat}(h:kidL (s.data.toList.take k)=false):kidL s.data.toList=false:=by
 unfold kidL at *;have:=List.take_append_drop k s.data.toList;rw[←this,List.all_append,h];rfl
theorem kid_all{s:ByteArray}{k:Nat}(hk:s.size≤k):s.data.toList.take k=s.data.toList:=List.take_of_length_le (by simpa using hk)
theorem cofKid(z:Int)(h0:0≤z)(h1:z≤255)(w:World):Calls Tryd.prog 36 #[.int .u8 z] w fun r w'=>r=.returned (.bool (kidZ z))∧w'=w:=by
 by_cases a1:65≤z∧z≤90
 ·obtain⟨a2,a3⟩:=a1
  rw[show kidZ z=true by unfold kidZ;simp;omega];go_enter Tryd.func36,Tryd.ntmps36;go_wp2;go_ret;exact⟨rfl,rfl⟩
 ·by_cases b1:97≤z∧z≤122
  ·obtain⟨b2,b3⟩:=b1
   rw[show kidZ z=true by unfold kidZ;simp;omega];clear a1;have a2:¬z≤90:=by omega
   go_enter Tryd.func36,Tryd.ntmps36;go_wp2;go_ret;exact⟨rfl,rfl⟩
  ·by_cases c1:48≤z∧z≤57
   ·obtain⟨c2,c3⟩:=c1
    rw[show kidZ z=true by unfold kidZ;simp;omega];clear a1 b1;have a2:¬65≤z:=by omega
    have b2:¬97≤z:=by omega
    go_enter Tryd.func36,Tryd.ntmps36;go_wp2;go_ret;exact⟨rfl,rfl⟩
   ·by_cases d1:z=45
    ·subst d1
     rw[show kidZ 45=true by decide];clear a1 b1 c1;go_enter Tryd.func36,Tryd.ntmps36;go_wp2;go_ret;exact⟨rfl,rfl⟩
    ·by_cases e1:z=95
     ·subst e1
      rw[show kidZ 95=true by decide];clear a1 b1 c1 d1;go_enter Tryd.func36,Tryd.ntmps36;go_wp2;go_ret;exact⟨rfl,rfl⟩
     ·rw[show kidZ z=false by unfold kidZ;simp;omega]
      have d2:(z==45)=false:=by simp[d1]
      have e2:(z==95)=false:=by simp[e1]
      clear d1 e1;go_enter Tryd.func36,Tryd.ntmps36;go_wp2;all_goals first|(exfalso;omega)|skip
      all_goals go_ret
      all_goals exact⟨rfl,rfl⟩
theorem tdigit(z:Int)(h0:0≤z)(h1:z≤255)(w:World):Calls Tryd.prog 35 #[.int .u8 z] w fun r w'=>r=.returned (.bool (decide (48≤z∧z≤57)))∧w'=w:=by
 by_cases a1:48≤z
 ·by_cases a2:z≤57
  ·rw[show decide (48≤z∧z≤57)=true by simp;omega]
   go_enter Tryd.func35,Tryd.ntmps35;go_wp2;go_ret;exact⟨rfl,rfl⟩
  ·rw[show decide (48≤z∧z≤57)=false by simp;omega]
   go_enter Tryd.func35,Tryd.ntmps35;go_wp2;go_ret;exact⟨rfl,rfl⟩
 ·rw[show decide (48≤z∧z≤57)=false by simp;omega]
  go_enter Tryd.func35,Tryd.ntmps35;go_wp2;go_ret;exact⟨rfl,rfl⟩
theorem cKid(s:ByteArray)(w:World)(hs:s.size≤4611686018427387904):Calls Tryd.prog 30 #[.string s] w fun r w'=>r=.returned (.bool (isKid s))∧w'=w:=by
 have hk:=fun z h0 h1 w'=>cofKid z h0 h1 w'
 by_cases h1:1≤s.size
 ·by_cases h2:s.size≤40
  ·have e:isKid s=kidL s.data.toList:=by unfold isKid;simp[h1,h2]
   rw[e];have k1:¬(s.size:Int)<1:=by omega
   have k2:¬(40:Int)<(s.size:Int):=by omega
   have HK:=thid hk;clear hk e;go_enter Tryd.func30,Tryd.ntmps30;go_wp2_with fail
   go_loopw [14] (fun iv wr=>∃k:Nat,k≤s.size∧iv=.int .i64 (k:Int)∧wr=w∧Hid (kidL (s.data.toList.take k)=true)) (fun iv _=>s.size-(intOf iv).toNat)
   case atStart=>exact⟨0,by omega,rfl,rfl,rfl⟩
   case round=>
    obtain⟨k,hk,rfl,rfl,hyes⟩:=hrel;by_cases hlt:k<s.size
    ·have k3:(k:Int)<(s.size:Int):=by omega
     have hc:s[k].toNat<256:=s[k].toNat_lt;obtain⟨b,hb⟩:∃b,kidZ (s[k].toNat:Int)=b:=⟨_,rfl⟩;have hcall:=fun w'=>HK.out (s[k].toNat:Int) (by omega) (by omega) w'
     rw[hb]at hcall;have HB:=thid hb;clear hb;go_wp2_with fail
     refine(hcall _).mono ?_;rintro r w1 ⟨rfl,hw⟩;rw[hw];clear hw w1;cases b with
     | true=>
       go_wp2_with fail
       go_roundw
       case rel=>exact⟨k+1,by omega,by go_num,trivial,by rw[kid_snoc s k hlt,hyes.out,HB.out];exact rfl⟩
       case measure=>simp[intOf];omega
     | false=>
       go_wp2;go_ret;refine⟨tret_bool ?_,rfl⟩;rw[kid_no (k:=k+1) (by rw[kid_snoc s k hlt,hyes.out,HB.out];rfl)]
    ·have k3:¬(k:Int)<(s.size:Int):=by omega
     go_wp2;go_ret;refine⟨tret_bool ?_,rfl⟩;have:=hyes.out;rw[kid_all (by omega)]at this;exact this.symm
  ·have e:isKid s=false:=by unfold isKid;simp[h2]
   rw[e];have k1:¬(s.size:Int)<1:=by omega
   have k2:(40:Int)<(s.size:Int):=by omega
   clear hk e;go_enter Tryd.func30,Tryd.ntmps30;go_wp2;go_ret;exact⟨rfl,rfl⟩
 ·have e:isKid s=false:=by unfold isKid;simp[h1]
  rw[e];have k1:(s.size:Int)<1:=by omega
  clear hk e;go_enter Tryd.func30,Tryd.ntmps30;go_wp2;go_ret;exact⟨rfl,rfl⟩
end Go.Proofs.YtfhjjbgjoclanaeDoor
