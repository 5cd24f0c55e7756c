import Derived.Test.YtbbopknnoamkbaaGreatDoorDMv
namespace Go.Proofs.YtbbopknnoamkbaaGreatDoor
open Go.RowKit
set_option linter.unusedVariables false
set_option maxRecDepth 4000 in
set_option maxHeartbeats 2000000 in
theorem lmakes(s:ByteArray)(il:List UInt8)(a ttl:Int)(w:World)(hg:9≤w.heap.size)(hG:GV w)(htab:Lib.TabBelow Tryz.prog w.heap.size w "internal/strconv.uint64pow10" .u64 Lib.pow10Tab)(hs:s.size≤140737488351232)(hil:il.length≤1048576)(ha0: -9223372036854775808≤a)(ha1:a≤9223372036854775807)(ht0: -9223372036854775808≤ttl)(ht1:ttl≤9223372036854775807):Calls Tryz.prog 12 #[.string s,.string ⟨il.toArray⟩,.int .i64 a,.int .i64 ttl] w fun r w'=>r=.returned (.bool true)∧Below w.heap.size w w':=by
 have hc:=cmake s il a ttl w hg hG htab hil ha0 ha1 ht0 ht1;have hr:=fun w1=>rmake s il a ttl w1 hs hil ha0 ha1 ht0 ht1
 generalize mkR s.data.toList il a ttl=R at hc hr;obtain⟨R1,R2,R3⟩:=R;have HC:=dhid hc;have HR:=dhid hr;clear hc hr htab hG;go_enter Tryz.func12,Tryz.ntmps12;go_wp2_with fail
 refine HC.out.mono ?_;rintro r w1 ⟨rfl,hb1⟩;have HB1:=dhid hb1;clear hb1 HC;go_wp2_with fail
 refine(HR.out w1).mono ?_;rintro r w2 ⟨rfl,hb2⟩;have HB2:=dhid (HB1.out.trans (hb2.mono HB1.out.size));clear hb2 HR;go_wp2_with fail
 refine(lnumC R2 w2).mono ?_;rintro r w3 ⟨rfl,hw3⟩;rw[hw3];clear hw3 w3;go_wp2_with fail
 go_ret;exact⟨rfl,HB2.out⟩
end Go.Proofs.YtbbopknnoamkbaaGreatDoor
