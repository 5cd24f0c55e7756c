import Derived.Test.YtfhjjbgjoclanafSSaid
namespace Go.Proofs.Ytfhjjbgjoclanaf
open Go.RowKit
set_option linter.unusedVariables false
set_option maxRecDepth 4000 in
set_option maxHeartbeats 1000000 in
theorem lchecks(iss0:ByteArray)(x:Value)(zs:List ByteArray)(iat nbf exp now lee:Int)(iss aud:ByteArray)(w:World)(hx:SR w x zs)(hl:zs.length≤8796093022208):Calls Try.prog 3 #[.agg #[.string iss0,x,.int .i64 iat,.int .i64 nbf,.int .i64 exp],.int .i64 now,.int .i64 lee,.string iss,.string aud] w fun r w'=>r=.returned (.bool true)∧Below w.heap.size w w':=by
 obtain⟨adx,capx,rfl⟩:=hx.shape;obtain⟨a,ha⟩:∃a:Bool,a=true↔aud∈zs:=by
  by_cases h:aud∈zs
  ·exact⟨true,by simp[h]⟩
  ·exact⟨false,by simp[h]⟩
 obtain⟨i,hi⟩:∃i:Bool,i=true↔iss0=iss:=by
  by_cases h:iss0=iss
  ·exact⟨true,by simp[h]⟩
  ·exact⟨false,by simp[h]⟩
 have hsd:=fun w1 (b1:Below w.heap.size w w1)=>lsaid iss0 _ zs iat nbf exp w1 (hx.below b1) hl
 have hck:=fun y w1 (hy:SR w1 y zs)=>ccheck iss0 y zs iat nbf exp now lee iss aud w1 hy (by omega) a ha i hi
 have hrk:=fun w1 (b1:Below w.heap.size w w1)=>rcheck iss0 _ zs iat nbf exp now lee iss aud w1 (hx.below b1) (by omega) a ha i hi
 have hsm:=fun y w1 (b1:Below w.heap.size w w1) (hy:SR w1 y zs)=>lsameC iss0 y _ zs iat nbf exp w1 hy (hx.below b1) hl
 have HS:=hidd hsd;have HC:=hidd hck;have HR:=hidd hrk;have HM:=hidd hsm;clear hsd hck hrk hsm hx ha hi;generalize chkN i a nbf exp now lee=q at *;go_enter Try.func3,Try.ntmps3;go_wp2_with fail
 refine(HS.out _ (sbal (Below.refl _ _) _)).mono ?_;rintro r w1 ⟨⟨y,rfl,hy⟩,hb⟩;have c0:w1.cell? ⟨w.heap.size,0,none⟩=some (.string iss0):=scell_kp hb (by simp);have c1:w1.cell? ⟨w.heap.size,1,none⟩=some (.slice adx zs.length capx):=scell_kp hb (by simp);have c2:w1.cell? ⟨w.heap.size,2,none⟩=some (.int .i64 iat):=scell_kp hb (by simp);have c3:w1.cell? ⟨w.heap.size,3,none⟩=some (.int .i64 nbf):=scell_kp hb (by simp);have c4:w1.cell? ⟨w.heap.size,4,none⟩=some (.int .i64 exp):=scell_kp hb (by simp);obtain⟨ad,cap,rfl⟩:=hy.shape;have HB:=hidd ((sbal (Below.refl w.heap.size w) _).trans (hb.mono (by simp)));have HY:=hidd hy;clear hb hy HS;go_wp2_with fail
 refine(HC.out _ _ (HY.out.below (sbal (Below.refl _ _) _))).mono ?_;rintro r w2 ⟨rfl,hb⟩;have hb1:=(sbal (Below.refl w1.heap.size w1) _).trans (hb.mono (by simp));have d0:w2.cell? ⟨w1.heap.size,0,none⟩=some (.string iss0):=scell_kp hb (by simp);have d1:w2.cell? ⟨w1.heap.size,1,none⟩=some (.slice ad zs.length cap):=scell_kp hb (by simp);have d2:w2.cell? ⟨w1.heap.size,2,none⟩=some (.int .i64 iat):=scell_kp hb (by simp);have d3:w2.cell? ⟨w1.heap.size,3,none⟩=some (.int .i64 nbf):=scell_kp hb (by simp);have d4:w2.cell? ⟨w1.heap.size,4,none⟩=some (.int .i64 exp):=scell_kp hb (by simp);have f0:=scell_kp hb1 c0;have f1:=scell_kp hb1 c1;have f2:=scell_kp hb1 c2;have f3:=scell_kp hb1 c3;have f4:=scell_kp hb1 c4;have HB2:=hidd (HB.out.trans (hb1.mono HB.out.size));have HY2:=hidd (HY.out.below hb1);clear hb hb1 HB HY HC c0 c1 c2 c3 c4;go_wp2_with fail
 refine(HM.out _ _ HB2.out HY2.out).mono ?_;rintro r w3 ⟨rfl,hb⟩;have c0:=scell_kp hb f0;have c1:=scell_kp hb f1;have c2:=scell_kp hb f2;have c3:=scell_kp hb f3;have c4:=scell_kp hb f4;have HB3:=hidd (HB2.out.trans (hb.mono HB2.out.size));clear hb HB2 HY2 HM d0 d1 d2 d3 d4 f0 f1 f2 f3 f4;go_wp2_with fail
 have HD3:=hidd HB3.out.drew;have hcall:=HR.out w3.drew HD3.out;have hnum:=fun w'=>lnumC q w'
 go_region_with (first|(go_at_call 8;refine(hnum _).mono ?_;rintro e' w' ⟨rfl,hw⟩;have hw2:=hw.symm;subst hw2)|(go_at_call 9;refine hcall.mono ?_;rintro e w4 ⟨rfl,hb4⟩;have HB4:=hidd (HD3.out.trans (hb4.mono HD3.out.size));clear hb4))
 all_goals go_wp2_with fail
 all_goals (go_ret;exact⟨rfl,HB4.out⟩)
end Go.Proofs.Ytfhjjbgjoclanaf
