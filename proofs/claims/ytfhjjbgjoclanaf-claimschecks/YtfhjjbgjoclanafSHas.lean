import Derived.Test.YtfhjjbgjoclanafSRow
set_option maxHeartbeats 400000
namespace Go.Proofs.Ytfhjjbgjoclanaf
open Go.RowKit
set_option linter.unusedVariables false
theorem sne{a b:ByteArray}(h:a≠b):(a.toList==b.toList)=false:=by
 rw[beq_eq_false_iff_ne,ByteArray.toList_eq,ByteArray.toList_eq];intro h2;exact h (by cases a;cases b;simp at h2;simp[h2])
theorem none_so{zs:List ByteArray}{s:ByteArray}{i:Nat}(h:∀j,j<i→zs[j]?≠some s)(hi:zs.length≤i):s∉zs:=fun hm=>by
 obtain⟨j,hj⟩:=List.getElem?_of_mem hm;exact h j (by have:=(List.getElem?_eq_some_iff.1 hj).1;omega) hj
theorem rholds(x:Value)(zs:List ByteArray)(s:ByteArray)(w:World)(hx:SR w x zs)(hl:zs.length≤140737488355328)(b:Bool)(hb:b=true↔s∈zs):Calls Try.prog 12 #[x,.string s] w fun r w'=>r=.returned (.bool b)∧Below w.heap.size w w':=by
 obtain⟨ad,cap,rfl,_,hx⟩:=hx;have HX:=hidd hx;have HB0:=hidd hb;clear hx hb;go_enter Try.func12,Try.ntmps12;go_wp2_with fail
 go_loopw [5] (fun iv wr=>∃i:Nat,i≤zs.length∧iv=.int .i64 (i:Int)∧wr=w∧Hid (∀j,j<i→zs[j]?≠some s)) (fun iv _=>zs.length-(intOf iv).toNat)
 case atStart=>exact⟨0,by omega,rfl,rfl,fun j hj=>by omega⟩
 case round=>
  obtain⟨i,hi,rfl,rfl,hno⟩:=hrel;by_cases hlt:i<zs.length
  ·have k1:(i:Int)<(zs.length:Int):=by omega
   obtain⟨z,hz⟩:∃z,zs[i]?=some z:=⟨_,List.getElem?_eq_getElem hlt⟩;obtain⟨g,off,rfl,c1⟩:=HX.out i z hz;have HZ:=hidd hz;clear hz;by_cases he:z=s
   ·subst he
    go_wp2;go_ret;refine⟨?_,Below.refl _ _⟩;rw[HB0.out.2 (List.mem_of_getElem? HZ.out)];rfl
   ·have he':=sne he
    have HE:=hidd he;clear he;go_wp2_with fail
    go_roundw
    case rel=>
     refine⟨i+1,by omega,by go_num,trivial,fun j hj=>?_⟩;by_cases hji:j=i
     ·subst hji;rw[HZ.out];intro h;injection h with h;exact HE.out h
     ·exact hno.out j (by omega)
    case measure=>simp[intOf];omega
  ·have k1:¬(i:Int)<(zs.length:Int):=by omega
   go_wp2;go_ret;refine⟨?_,Below.refl _ _⟩;have h0:=none_so hno.out (by omega);cases b with
   | true=>exact absurd (HB0.out.1 rfl) h0
   | false=>rfl
theorem cindex(x:Value)(zs:List ByteArray)(s:ByteArray)(w:World)(hx:SR w x zs)(hl:zs.length≤140737488355328):Calls Try.prog 13 #[x,.string s] w fun r w'=>(∃k:Int,r=.returned (.int .i64 k)∧(0≤k↔s∈zs))∧Below w.heap.size w w':=by
 obtain⟨ad,cap,rfl,_,hx⟩:=hx;have HX:=hidd hx;clear hx;go_enter Try.func13,Try.ntmps13;go_wp2_with fail
 go_loopw [8] (fun iv wr=>∃i:Nat,i≤zs.length∧iv=.int .i64 (i:Int)∧wr=w∧Hid (∀j,j<i→zs[j]?≠some s)) (fun iv _=>zs.length-(intOf iv).toNat)
 case atStart=>exact⟨0,by omega,rfl,rfl,fun j hj=>by omega⟩
 case round=>
  obtain⟨i,hi,rfl,rfl,hno⟩:=hrel;by_cases hlt:i<zs.length
  ·have k1:(i:Int)<(zs.length:Int):=by omega
   obtain⟨z,hz⟩:∃z,zs[i]?=some z:=⟨_,List.getElem?_eq_getElem hlt⟩;obtain⟨g,off,rfl,c1⟩:=HX.out i z hz;have HZ:=hidd hz;clear hz;by_cases he:s=z
   ·subst he
    go_wp2;go_ret;exact⟨⟨_,rfl,by simp[List.mem_of_getElem? HZ.out]⟩,Below.refl _ _⟩
   ·have he':=sne he
    have HE:=hidd he;clear he;go_wp2_with fail
    go_roundw
    case rel=>
     refine⟨i+1,by omega,by go_num,trivial,fun j hj=>?_⟩;by_cases hji:j=i
     ·subst hji;rw[HZ.out];intro h;injection h with h;exact HE.out h.symm
     ·exact hno.out j (by omega)
    case measure=>simp[intOf];omega
  ·have k1:¬(i:Int)<(zs.length:Int):=by omega
   go_wp2;go_ret;exact⟨⟨_,rfl,by simp[none_so hno.out (by omega)]⟩,Below.refl _ _⟩
theorem ccontains(x:Value)(zs:List ByteArray)(s:ByteArray)(w:World)(hx:SR w x zs)(hl:zs.length≤140737488355328)(b:Bool)(hb:b=true↔s∈zs):Calls Try.prog 10 #[x,.string s] w fun r w'=>r=.returned (.bool b)∧Below w.heap.size w w':=by
 have h:=hidd (cindex x zs s w hx hl);have HB0:=hidd hb;clear hx hb;go_enter Try.func10,Try.ntmps10;go_wp2_with fail
 refine h.out.mono ?_;rintro r w1 ⟨⟨k,rfl,hk⟩,hb⟩;have HK:=hidd hk;have HB:=hidd hb;clear hk hb;go_wp2;go_ret;refine⟨?_,HB.out⟩;have e:b=decide (0≤k):=by rw[Bool.eq_iff_iff,HB0.out,decide_eq_true_iff];exact HK.out.symm
 rw[e];rfl
end Go.Proofs.Ytfhjjbgjoclanaf
