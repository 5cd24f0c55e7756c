import Derived.Test.YtbbopknnoamkbaaGreatDoorX5
import Derived.Test.YtbbopknnoamkbaaGreatDoorN6
namespace Go.Proofs.YtbbopknnoamkbaaGreatDoor
open Go.RowKit
set_option linter.unusedVariables false
set_option maxRecDepth 4000 in
set_option maxHeartbeats 4000000 in
theorem lnumbers(n:Int)(h0: -9223372036854775808≤n)(h1:n≤9223372036854775807)(w:World)(hg:9≤w.heap.size)(hG:GV w)(htab:Lib.TabBelow Tryz.prog w.heap.size w "internal/strconv.uint64pow10" .u64 Lib.pow10Tab):Calls Tryz.prog 7 #[.int .i64 n] w fun r w'=>r=.returned (.bool true)∧Below w.heap.size w w':=by
 have hd:=rdecimal n h0 h1 w;have hdl:(⟨(decI n).toArray⟩:ByteArray).data.toList=decI n:=by simp
 have hR:=readL_dec n h0 h1;have hpr:∀w1,Below w.heap.size w w1→Calls Tryz.prog 16 #[.string ⟨(decI n).toArray⟩] w1 fun r w'=>r=.returned (.tuple #[.string ⟨(prF (numR n)).1.toArray⟩,.int .i64 ((prF (numR n)).2.1:Int),.int .i64 ((prF (numR n)).2.2:Int)])∧Below w1.heap.size w1 w':=fun w1 b1=>by
  have hz:=b1.size;have:=cprint ⟨(decI n).toArray⟩ w1 (by omega) (hG.kept fun k hk=>b1.block k (by omega)) (fun w' hb=>htab w' (b1.trans (hb.mono hz)));rwa [hdl,hR]at this
 have hpa:∀w1,Below w.heap.size w w1→Calls Tryz.prog 19 #[.string ⟨(decI n).toArray⟩] w1 fun r w'=>PP (w1.heap.size+1) (numR n) r w'∧Below w1.heap.size w1 w':=fun w1 b1=>by
  have hz:=b1.size;have:=cparse ⟨(decI n).toArray⟩ w1 (by omega) (hG.kept fun k hk=>b1.block k (by omega));rwa [hdl,hR]at this
 have hnm:=fun e w'=>lnumN e w'
 clear hdl hR htab;by_cases hb:n< -9007199254740991∨9007199254740991<n
 ·have e0:numR n=.error (3,0):=by unfold numR;rw[if_pos hb]
  rw[e0]at hpr hpa;generalize (⟨(decI n).toArray⟩:ByteArray)=T at hd hpr hpa;clear e0;have HPR:=Lib.hid hpr;have HPA:=Lib.hid hpa;clear hpr hpa hG;rcases hb with i1|i1
  ·go_enter Tryz.func7,Tryz.ntmps7
   go_wp2_with fail
   refine hd.mono ?_;rintro r w1 ⟨rfl,b1⟩;have B1:=Lib.hid b1;have hq:=HPR.out w1 b1;clear b1 hd;go_wp2_with fail
   refine hq.mono ?_;rintro r w2 ⟨rfl,b2⟩;have B2:Hid (Below w.heap.size w w2):=B1.out.trans (b2.mono B1.out.size);have hq2:=HPA.out w2 B2.out;clear b2 hq;go_wp2_with fail
   refine hq2.mono ?_;rintro r w3 ⟨⟨rfl,_⟩,b3⟩;have B3:Hid (Below w.heap.size w w3):=B2.out.trans (b3.mono B2.out.size);clear b3 hq2;go_wp2_with (go_at_call 18;refine(hnm _ _).mono ?_;rintro e w' ⟨rfl,rfl⟩)
   go_ret;exact⟨rfl,B3.out⟩
  ·have i2:¬n< -9007199254740991:=by omega
   go_enter Tryz.func7,Tryz.ntmps7;go_wp2_with fail
   refine hd.mono ?_;rintro r w1 ⟨rfl,b1⟩;have B1:=Lib.hid b1;have hq:=HPR.out w1 b1;clear b1 hd;go_wp2_with fail
   refine hq.mono ?_;rintro r w2 ⟨rfl,b2⟩;have B2:Hid (Below w.heap.size w w2):=B1.out.trans (b2.mono B1.out.size);have hq2:=HPA.out w2 B2.out;clear b2 hq;go_wp2_with fail
   refine hq2.mono ?_;rintro r w3 ⟨⟨rfl,_⟩,b3⟩;have B3:Hid (Below w.heap.size w w3):=B2.out.trans (b3.mono B2.out.size);clear b3 hq2;go_wp2_with (go_at_call 18;refine(hnm _ _).mono ?_;rintro e w' ⟨rfl,rfl⟩)
   go_ret;exact⟨rfl,B3.out⟩
 ·have e0:numR n=.ok (.int n 0):=by unfold numR;rw[if_neg hb]
  have i1:¬n< -9007199254740991:=by omega
  have i2:¬9007199254740991<n:=by omega
  rw[e0]at hpr hpa;have e1:prF (.ok (.int n 0))=(decI n,0,0):=by unfold prF;simp only;rw[form_int]
  rw[e1]at hpr;generalize (⟨(decI n).toArray⟩:ByteArray)=T at hd hpr hpa;have HPR:=Lib.hid hpr;have HPA:=Lib.hid hpa;clear hpr hpa hG e0 e1 hb;go_enter Tryz.func7,Tryz.ntmps7;go_wp2_with fail
  refine hd.mono ?_;rintro r w1 ⟨rfl,b1⟩;have B1:=Lib.hid b1;have hq:=HPR.out w1 b1;clear b1 hd;go_wp2_with fail
  refine hq.mono ?_;rintro r w2 ⟨rfl,b2⟩;have B2:Hid (Below w.heap.size w w2):=B1.out.trans (b2.mono B1.out.size);have hq2:=HPA.out w2 B2.out;clear b2 hq;go_wp2_with fail
  refine hq2.mono ?_;rintro r w3 ⟨⟨v,kvs,rfl,hK⟩,b3⟩;have B3:Hid (Below w.heap.size w w3):=B2.out.trans (b3.mono B2.out.size);have hfl:flat 0 [] (.int n 0)=[⟨2,[],[],n,[],0⟩]:=rfl;rw[hfl]at hK;obtain⟨kv,hkv⟩:∃kv,kvs[0]?=some kv:=⟨_,List.getElem?_eq_getElem (by have:=hK.1;simp at this;omega)⟩;obtain⟨g,cap,rfl⟩:∃g cap,v=.slice (some ⟨g,0,none⟩) 1 cap:=by
   rcases hK.2.1.2 with⟨_,b⟩|⟨g,c,cu,a,_⟩
   ·simp at b
   ·exact⟨g,c,a⟩
  have c0:=(hK.at (g:=g) rfl (u:=0) (j:=0) (n:=⟨2,[],[],n,[],0⟩) rfl hkv (by omega) rfl).1;have c3:=(hK.at (g:=g) rfl (u:=0) (j:=3) (n:=⟨2,[],[],n,[],0⟩) rfl hkv (by omega) rfl).1;simp only[Nat.zero_mul,Nat.zero_add]at c0 c3;clear b3 hq2 hK hkv hfl;go_wp2_with (go_at_call 18;refine(hnm _ _).mono ?_;rintro e w' ⟨rfl,rfl⟩)
  go_ret;exact⟨rfl,B3.out⟩
end Go.Proofs.YtbbopknnoamkbaaGreatDoor
