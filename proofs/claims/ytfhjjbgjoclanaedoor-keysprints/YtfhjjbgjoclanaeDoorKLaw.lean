import Derived.Test.YtfhjjbgjoclanaeDoorKRef
import Derived.Test.YtfhjjbgjoclanaeDoorKList
namespace Go.Proofs.YtfhjjbgjoclanaeDoor
open Go.RowKit
set_option linter.unusedVariables false
set_option maxRecDepth 4000 in
set_option maxHeartbeats 2000000 in
theorem lkeysPrints(x:Value)(ks:List Ky)(kid:ByteArray)(w:World)(hx:KR w x ks)(hG:WG w)(hl:ks.length≤3518437208780)(hb:∀k∈ks,k.kid.size≤4611686018427387904∧k.key.size≤4611686018427387904):Calls Tryd.prog 3 #[x,.string kid] w fun r w'=>r=.returned (.bool true)∧Below w.heap.size w w':=by
 have hkl:=fun w1 (b1:Below w.heap.size w w1)=>lkeyList x ks w1 (hx.below b1) hl
 have hpr:=fun y w1 (b1:Below w.heap.size w w1) (hy:KR w1 y ks)=>cprintK y ks w1 hy (hG.below b1) (by omega) hb
 have hrp:=fun w1 (b1:Below w.heap.size w w1)=>rprintK x ks w1 (hx.below b1) (by omega) hb
 have hfd:=fun y w1 (hy:KR w1 y ks)=>cfind y ks kid w1 hy (by omega)
 have hrf:=fun w1 (b1:Below w.heap.size w w1)=>rfind x ks kid w1 (hx.below b1) (by omega)
 have hsm:=fun y z w1 (hy:KR w1 y ks) (hz:KR w1 z ks)=>lsameK y z ks w1 hy hz hl
 have hnum:=fun e w1=>lnumK e w1
 have HKL:=thid hkl;have HPR:=thid hpr;have HRP:=thid hrp;have HFD:=thid hfd;have HRF:=thid hrf;have HSM:=thid hsm;obtain⟨ad,cap,rfl⟩:=hx.shape;clear hkl hpr hrp hfd hrf hsm hx hG hb;generalize prT ks=T at *;generalize findK kid ks 0=q at *;go_enter Tryd.func3,Tryd.ntmps3;go_wp2_with fail
 refine(HKL.out _ (Below.refl _ _)).mono ?_;rintro r w1 ⟨⟨y,rfl,ho⟩,hb⟩;have B1:=thid hb;have Y1:=thid (KR.of ho);obtain⟨ady,capy,rfl⟩:=(KR.of ho).shape;clear ho hb;go_wp2_with fail
 refine(HPR.out _ _ B1.out Y1.out).mono ?_;rintro r w2 ⟨rfl,hb⟩;have B2:=thid (B1.out.trans (hb.mono B1.out.size));have Y2:=thid (Y1.out.below hb);clear hb;go_wp2_with fail
 refine(HRP.out _ B2.out).mono ?_;rintro r w3 ⟨rfl,hb⟩;have B3:=thid (B2.out.trans (hb.mono B2.out.size));have Y3:=thid (Y2.out.below hb);clear hb;go_wp2_with fail
 refine(HFD.out _ _ Y3.out).mono ?_;rintro r w4 ⟨rfl,hb⟩;have B4:=thid (B3.out.trans (hb.mono B3.out.size));have Y4:=thid (Y3.out.below hb);clear hb;go_wp2_with fail
 refine(HKL.out _ B4.out).mono ?_;rintro r w5 ⟨⟨z,rfl,ho⟩,hb⟩;have B5:=thid (B4.out.trans (hb.mono B4.out.size));have Y5:=thid (Y4.out.below hb);have Z5:=thid (KR.of ho);obtain⟨adz,capz,rfl⟩:=(KR.of ho).shape;clear ho hb;go_wp2_with fail
 refine(HSM.out _ _ _ Y5.out Z5.out).mono ?_;rintro r w6 ⟨rfl,hb⟩;have B6:=thid (B5.out.trans (hb.mono B5.out.size));clear hb;have hfc:=HRF.out _ B6.out;go_wp2_with (first|(go_at_call 10;refine(hnum _ _).mono ?_;rintro e' w' ⟨rfl,hw⟩;have hw2:=hw.symm;subst hw2)|(go_at_call 11;refine hfc.mono ?_;rintro e' w' ⟨rfl,hw⟩;have hw2:=hw.symm;subst hw2))
 go_ret;exact⟨rfl,B6.out⟩
end Go.Proofs.YtfhjjbgjoclanaeDoor
