import Derived.Test.YtbbopknnoamkbaaGreatDoorN6
import Derived.Test.YtbbopknnoamkbaaGreatDoorNR3
import Derived.Test.YtbbopknnoamkbaaGreatDoorX5
import Derived.Test.YtbbopknnoamkbaaGreatDoorG1
set_option maxHeartbeats 4000000
namespace Go.Proofs.YtbbopknnoamkbaaGreatDoor
open Go.RowKit
set_option linter.unusedVariables false
theorem rprint(s:ByteArray)(w:World)(hs:s.size≤140737488351232)(hg:∀t,readL s.data.toList=.ok t→WFN (flat 0 [] t)∧Short (flat 0 [] t)):Calls Tryz.prog 17 #[.string s] w fun r w'=>r=.returned (.tuple #[.string ⟨(prF (readL s.data.toList)).1.toArray⟩,.int .i64 ((prF (readL s.data.toList)).2.1:Int),.int .i64 ((prF (readL s.data.toList)).2.2:Int)])∧Below w.heap.size w w':=by
 have hr:=rread s w hs;generalize hR:readL s.data.toList=R at hr hg ⊢;clear hR;match R,hr,hg with
 | .error (e,a),hr,hg=>
   go_enter Tryz.func17,Tryz.ntmps17;go_wp2_with fail
   refine hr.mono ?_;rintro r w1 ⟨hj,b1⟩;have B1:Hid (Below w.heap.size w w1):=b1;clear b1 hr;obtain⟨rfl,he⟩:=hj;have he':((e:Int)==0)=false:=by simp;omega
   have he2:(e==0)=false:=by simp;omega
   clear hg;go_wp2;go_ret3
   exact⟨rfl,B1.out⟩
 | .ok t,hr,hg=>
   go_enter Tryz.func17,Tryz.ntmps17;go_wp2_with fail
   refine hr.mono ?_;rintro r w1 ⟨hj,b1⟩;have B1:Hid (Below w.heap.size w w1):=b1;clear b1 hr;obtain⟨v,rfl,hN⟩:=hj;obtain⟨hW,hS⟩:=hg t rfl;have hpos:0<(flat 0 [] t).length:=by rw[flat_length];have:=size_pos t;omega
   obtain⟨g,cap,rfl⟩:∃g cap,v=.slice (some ⟨g,0,none⟩) (flat 0 [] t).length cap:=by
    obtain⟨kvs,k1,k2,k3,k4⟩:=hN;rcases k2.2 with⟨_,h⟩|⟨g,c,cu,a,_⟩
    ·omega
    ·exact⟨g,c,a⟩
   have hf:=rform _ g cap _ hW hS (flat 0 [] t).length 0 hpos (by omega) w1 hN;clear hg hN hW hS hpos;go_wp2_with fail
   refine hf.mono ?_;rintro r w2 ⟨rfl,b2⟩;have B2:Hid (Below w.heap.size w w2):=B1.out.trans ⟨b2.os,b2.tape,b2.output,b2.size,fun k hk=>b2.block k (Nat.lt_of_lt_of_le hk B1.out.size)⟩;clear b2 hf;go_wp2;go_ret3
   exact⟨rfl,B2.out⟩
set_option maxRecDepth 4000 in
theorem lprint(s:ByteArray)(w:World)(hg:9≤w.heap.size)(hG:GV w)(htab:Lib.TabBelow Tryz.prog w.heap.size w "internal/strconv.uint64pow10" .u64 Lib.pow10Tab)(hs:s.size≤140737488351232):Calls Tryz.prog 3 #[.string s] w fun r w'=>r=.returned (.bool true)∧Below w.heap.size w w':=by
 have hp:=cprint s w hg hG htab;have hr:=fun w'=>rprint s w' hs (fun t h=>read_fit h)
 generalize prF (readL s.data.toList)=R at hp hr;obtain⟨F,E,A⟩:=R;simp only at hp hr;go_enter Tryz.func3,Tryz.ntmps3;go_wp2_with fail
 refine hp.mono ?_;rintro r w1 ⟨rfl,b1⟩;have B1:=Lib.hid b1;clear b1 hp;go_wp2_with fail
 refine(hr w1).mono ?_;rintro r w2 ⟨rfl,b2⟩;have hz1:=B1.out.size;have B2:Hid (Below w.heap.size w w2):=B1.out.trans (b2.mono hz1);clear b2 hr;have hnm:=fun w'=>lnumN (E:Int) w'
 go_wp2_with (go_at_call 18;refine(hnm _).mono ?_;rintro e w' ⟨rfl,rfl⟩)
 go_ret;exact⟨rfl,B2.out⟩
end Go.Proofs.YtbbopknnoamkbaaGreatDoor
