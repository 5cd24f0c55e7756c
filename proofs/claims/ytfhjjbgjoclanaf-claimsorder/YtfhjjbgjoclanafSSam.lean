import Derived.Test.YtfhjjbgjoclanafSRow
namespace Go.Proofs.Ytfhjjbgjoclanaf
open Go.RowKit
set_option linter.unusedVariables false
theorem SR.shape{w:World}{v:Value}{zs:List ByteArray}(h:SR w v zs):∃ad cap,v=.slice ad zs.length cap:=by
 obtain⟨ad,cap,h,_⟩:=h;exact⟨ad,cap,h⟩
set_option maxRecDepth 4000 in
set_option maxHeartbeats 1000000 in
theorem lsameC(iss:ByteArray)(x y:Value)(zs:List ByteArray)(iat nbf exp:Int)(w:World)(hx:SR w x zs)(hy:SR w y zs)(hl:zs.length≤8796093022208):Calls Try.prog 7 #[.agg #[.string iss,x,.int .i64 iat,.int .i64 nbf,.int .i64 exp],.agg #[.string iss,y,.int .i64 iat,.int .i64 nbf,.int .i64 exp]] w fun r w'=>r=.returned (.bool true)∧Below w.heap.size w w':=by
 have htx:=fun w1 (b1:Below w.heap.size w w1)=>ltexts x y zs w1 (hx.below b1) (hy.below b1) (by omega)
 have HT:=hidd htx;clear hx hy htx;go_enter Try.func7,Try.ntmps7;go_wp2_with fail
 refine(HT.out _ (sbal (sbal (Below.refl _ _) _) _)).mono ?_;rintro r w1 ⟨rfl,hb⟩;have c0:w1.cell? ⟨w.heap.size,0,none⟩=some (.string iss):=scell_kp hb (by simp);have c2:w1.cell? ⟨w.heap.size,2,none⟩=some (.int .i64 iat):=scell_kp hb (by simp);have c3:w1.cell? ⟨w.heap.size,3,none⟩=some (.int .i64 nbf):=scell_kp hb (by simp);have c4:w1.cell? ⟨w.heap.size,4,none⟩=some (.int .i64 exp):=scell_kp hb (by simp);have d0:w1.cell? ⟨w.heap.size+1,0,none⟩=some (.string iss):=scell_kp hb (by simp);have d2:w1.cell? ⟨w.heap.size+1,2,none⟩=some (.int .i64 iat):=scell_kp hb (by simp);have d3:w1.cell? ⟨w.heap.size+1,3,none⟩=some (.int .i64 nbf):=scell_kp hb (by simp);have d4:w1.cell? ⟨w.heap.size+1,4,none⟩=some (.int .i64 exp):=scell_kp hb (by simp);have HB:=hidd ((sbal (sbal (Below.refl w.heap.size w) _) _).trans (hb.mono (by simp;omega)));clear hb;go_wp2;go_ret;exact⟨rfl,HB.out⟩
end Go.Proofs.Ytfhjjbgjoclanaf
