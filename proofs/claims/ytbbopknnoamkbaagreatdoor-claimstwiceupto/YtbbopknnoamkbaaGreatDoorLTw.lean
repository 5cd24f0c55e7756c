import Derived.Test.YtbbopknnoamkbaaGreatDoorDMv
import Derived.Test.YtbbopknnoamkbaaGreatDoorQTw
namespace Go.Proofs.YtbbopknnoamkbaaGreatDoor
open Go.RowKit
set_option linter.unusedVariables false
set_option maxRecDepth 4000 in
set_option maxHeartbeats 2000000 in
theorem ltwice(s:ByteArray)(il:List UInt8)(a ttl:Int)(w:World)(hg:9≤w.heap.size)(hG:GV w)(htab:Lib.TabBelow Tryz.prog w.heap.size w "internal/strconv.uint64pow10" .u64 Lib.pow10Tab)(hs:s.size≤140737488351232)(hil:il.length≤1048576)(ha0: -9223372036854775808≤a)(ha1:a≤9223372036854775807)(ht0: -9223372036854775808≤ttl)(ht1:ttl≤9223372036854775807):Calls Tryz.prog 15 #[.string s,.string ⟨il.toArray⟩,.int .i64 a,.int .i64 ttl] w fun r w'=>r=.returned (.bool true)∧Below w.heap.size w w':=by
 have hc:=cmake s il a ttl w hg hG htab hil ha0 ha1 ht0 ht1;have hr:=fun w1=>rmake s il a ttl w1 hs hil ha0 ha1 ht0 ht1
 have htw:∀T p,mkR s.data.toList il a ttl=(T,0,p)→(mkR T il a ttl).1=[]∧(mkR T il a ttl).2.1=4:=fun T p h=>twice h
 generalize mkR s.data.toList il a ttl=R at hc hr htw;obtain⟨R1,R2,R3⟩:=R;have ha:=fun w1 (hb:Below w.heap.size w w1)=>cmake ⟨R1.toArray⟩ il a ttl w1 (by have:=hb.size;omega) (hG.kept fun k hk=>hb.block k (by omega)) (fun w2 hb2=>htab w2 (hb.trans (hb2.mono hb.size))) hil ha0 ha1 ht0 ht1
 have el:(⟨R1.toArray⟩:ByteArray).data.toList=R1:=by simp
 rw[el]at ha;have htw2:R2=0→(mkR R1 il a ttl).1=[]∧(mkR R1 il a ttl).2.1=4:=fun e=>htw R1 R3 (by rw[e])
 generalize mkR R1 il a ttl=A at ha htw2;obtain⟨A1,A2,A3⟩:=A;have HC:=dhid hc;have HR:=dhid hr;have HA:=dhid ha;have HT:=dhid htw2;clear hc hr htab hG htw ha htw2 el;go_enter Tryz.func15,Tryz.ntmps15;go_wp2_with fail
 refine HC.out.mono ?_;rintro r w1 ⟨rfl,hb1⟩;have HB1:=dhid hb1;clear hb1 HC;go_wp2_with fail
 refine(HR.out w1).mono ?_;rintro r w2 ⟨rfl,hb2⟩;have HB2:=dhid (HB1.out.trans (hb2.mono HB1.out.size));clear hb2 HR;go_wp2_with fail
 refine(lnumC R2 w2).mono ?_;rintro r w3 ⟨rfl,hw3⟩;rw[hw3];clear hw3 w3;by_cases h0:R2=0
 ·obtain⟨e1,e2⟩:=HT.out h0
  subst h0 e1 e2;go_wp2_with fail
  refine(HA.out w2 HB2.out).mono ?_;rintro r w4 ⟨rfl,hb4⟩;have HB4:=dhid (HB2.out.trans (hb4.mono HB2.out.size));clear hb4 HA;go_wp2_with fail
  refine(lnumC 4 w4).mono ?_;rintro r w5 ⟨rfl,hw5⟩;rw[hw5];clear hw5 w5;go_wp2_with fail
  go_ret;exact⟨rfl,HB4.out⟩
 ·have k1:(R2 != 0)=true:=by simp[h0]
  go_wp2_with fail
  refine(lnumC R2 w2).mono ?_;rintro r w5 ⟨rfl,hw5⟩;rw[hw5];clear hw5 w5;go_wp2_with fail
  go_ret;exact⟨rfl,HB2.out⟩
end Go.Proofs.YtbbopknnoamkbaaGreatDoor
