import Derived.Test.YtfhjjbgjoclanafSHas
set_option maxHeartbeats 1000000
set_option maxRecDepth 4000
namespace Go.Proofs.Ytfhjjbgjoclanaf
open Go.RowKit
set_option linter.unusedVariables false
def chkN(i a:Bool)(nbf exp now lee:Int):Int:=
 if now<0∨9007199254740991<now∨lee<0∨1000000<lee then 3 else if i=false then 15 else if a=false then 16 else if now+lee<nbf then 17 else if exp≤now-lee then 18 else 0
def claimsV(iss:ByteArray)(x:Value)(iat nbf exp:Int):Value:=.agg #[.string iss,x,.int .i64 iat,.int .i64 nbf,.int .i64 exp]
theorem ccheck(iss0:ByteArray)(x:Value)(zs:List ByteArray)(iat nbf exp now lee:Int)(iss aud:ByteArray)(w:World)(hx:SR w x zs)(hl:zs.length≤140737488355328)(a:Bool)(ha:a=true↔aud∈zs)(i:Bool)(hi:i=true↔iss0=iss):Calls Try.prog 6 #[.agg #[.string iss0,x,.int .i64 iat,.int .i64 nbf,.int .i64 exp],.int .i64 now,.int .i64 lee,.string iss,.string aud] w fun r w'=>r=.returned (.int .i64 (chkN i a nbf exp now lee))∧Below w.heap.size w w':=by
 by_cases hr:now<0∨9007199254740991<now∨lee<0∨1000000<lee
 ·have e:chkN i a nbf exp now lee=3:=by unfold chkN;rw[if_pos hr]
  rw[e];clear hx ha hi e;by_cases h1:now<0
  ·clear hr
   go_enter Try.func6,Try.ntmps6;go_wp2;go_ret;exact⟨rfl,sbal (Below.refl _ _) _⟩
  ·by_cases h2:9007199254740991<now
   ·clear hr
    go_enter Try.func6,Try.ntmps6;go_wp2;go_ret;exact⟨rfl,sbal (Below.refl _ _) _⟩
   ·by_cases h3:lee<0
    ·clear hr
     go_enter Try.func6,Try.ntmps6;go_wp2;go_ret;exact⟨rfl,sbal (Below.refl _ _) _⟩
    ·have h4:1000000<lee:=by omega
     clear hr;go_enter Try.func6,Try.ntmps6;go_wp2;go_ret;exact⟨rfl,sbal (Below.refl _ _) _⟩
 ·have h1:¬now<0:=by omega
  have h2:¬9007199254740991<now:=by omega
  have h3:¬lee<0:=by omega
  have h4:¬1000000<lee:=by omega
  by_cases hi':iss0=iss
  ·obtain rfl:=hi'
   obtain rfl:i=true:=hi.2 rfl;have hcont:=fun w1 (b1:Below w.heap.size w w1)=>ccontains x zs aud w1 (hx.below b1) hl a ha
   have HC:=hidd hcont;have E:Hid (chkN true a nbf exp now lee=if a=false then 16 else if now+lee<nbf then 17 else if exp≤now-lee then 18 else 0):=by unfold chkN;rw[if_neg hr,if_neg (by simp)];exact rfl
   clear hx ha hi hcont hr;go_enter Try.func6,Try.ntmps6;go_wp2_with fail
   refine(HC.out _ (sbal (Below.refl _ _) _)).mono ?_;rintro r w1 ⟨rfl,hb⟩;have c3:w1.cell? ⟨w.heap.size,3,none⟩=some (.int .i64 nbf):=scell_kp hb (by simp);have c4:w1.cell? ⟨w.heap.size,4,none⟩=some (.int .i64 exp):=scell_kp hb (by simp);have HB:=hidd ((sbal (Below.refl w.heap.size w) _).trans (hb.mono (by simp)));clear hb;cases a with
   | false=>
     go_wp2;go_ret;exact⟨by rw[E.out];rfl,HB.out⟩
   | true=>
     by_cases h5:now+lee<nbf
     ·go_wp2
      go_ret;exact⟨by rw[E.out,if_neg (by simp),if_pos (by omega)];rfl,HB.out⟩
     ·by_cases h6:exp≤now-lee
      ·go_wp2
       go_ret;exact⟨by rw[E.out,if_neg (by simp),if_neg (by omega),if_pos (by omega)];rfl,HB.out⟩
      ·go_wp2
       go_ret;exact⟨by rw[E.out,if_neg (by simp),if_neg (by omega),if_neg (by omega)];rfl,HB.out⟩
  ·have hne:=sne hi'
   have e:chkN i a nbf exp now lee=15:=by
    unfold chkN;rw[if_neg hr,if_pos];cases i with
    | true=>exact absurd (hi.1 rfl) hi'
    | false=>rfl
   rw[e];clear hx ha hi e hr hi';go_enter Try.func6,Try.ntmps6;go_wp2;go_ret;exact⟨rfl,sbal (Below.refl _ _) _⟩
theorem rcheck(iss0:ByteArray)(x:Value)(zs:List ByteArray)(iat nbf exp now lee:Int)(iss aud:ByteArray)(w:World)(hx:SR w x zs)(hl:zs.length≤140737488355328)(a:Bool)(ha:a=true↔aud∈zs)(i:Bool)(hi:i=true↔iss0=iss):Calls Try.prog 9 #[.agg #[.string iss0,x,.int .i64 iat,.int .i64 nbf,.int .i64 exp],.int .i64 now,.int .i64 lee,.string iss,.string aud] w fun r w'=>r=.returned (.int .i64 (chkN i a nbf exp now lee))∧Below w.heap.size w w':=by
 by_cases hr:now<0∨9007199254740991<now∨lee<0∨1000000<lee
 ·have e:chkN i a nbf exp now lee=3:=by unfold chkN;rw[if_pos hr]
  rw[e];clear hx ha hi e;by_cases h1:now<0
  ·clear hr
   go_enter Try.func9,Try.ntmps9;go_wp2;go_ret;exact⟨rfl,sbal (Below.refl _ _) _⟩
  ·by_cases h2:9007199254740991<now
   ·clear hr
    go_enter Try.func9,Try.ntmps9;go_wp2;go_ret;exact⟨rfl,sbal (Below.refl _ _) _⟩
   ·by_cases h3:lee<0
    ·clear hr
     go_enter Try.func9,Try.ntmps9;go_wp2;go_ret;exact⟨rfl,sbal (Below.refl _ _) _⟩
    ·have h4:1000000<lee:=by omega
     clear hr;go_enter Try.func9,Try.ntmps9;go_wp2;go_ret;exact⟨rfl,sbal (Below.refl _ _) _⟩
 ·have h1:¬now<0:=by omega
  have h2:¬9007199254740991<now:=by omega
  have h3:¬lee<0:=by omega
  have h4:¬1000000<lee:=by omega
  by_cases hi':iss0=iss
  ·obtain rfl:=hi'
   obtain rfl:i=true:=hi.2 rfl;have hcont:=fun w1 (b1:Below w.heap.size w w1)=>rholds x zs aud w1 (hx.below b1) hl a ha
   have HC:=hidd hcont;have E:Hid (chkN true a nbf exp now lee=if a=false then 16 else if now+lee<nbf then 17 else if exp≤now-lee then 18 else 0):=by unfold chkN;rw[if_neg hr,if_neg (by simp)];exact rfl
   clear hx ha hi hcont hr;go_enter Try.func9,Try.ntmps9;go_wp2_with fail
   refine(HC.out _ (sbal (Below.refl _ _) _)).mono ?_;rintro r w1 ⟨rfl,hb⟩;have c3:w1.cell? ⟨w.heap.size,3,none⟩=some (.int .i64 nbf):=scell_kp hb (by simp);have c4:w1.cell? ⟨w.heap.size,4,none⟩=some (.int .i64 exp):=scell_kp hb (by simp);have HB:=hidd ((sbal (Below.refl w.heap.size w) _).trans (hb.mono (by simp)));clear hb;cases a with
   | false=>
     go_wp2;go_ret;exact⟨by rw[E.out];rfl,HB.out⟩
   | true=>
     by_cases h5:now+lee<nbf
     ·go_wp2
      go_ret;exact⟨by rw[E.out,if_neg (by simp),if_pos (by omega)];rfl,HB.out⟩
     ·by_cases h6:exp≤now-lee
      ·go_wp2
       go_ret;exact⟨by rw[E.out,if_neg (by simp),if_neg (by omega),if_pos (by omega)];rfl,HB.out⟩
      ·go_wp2
       go_ret;exact⟨by rw[E.out,if_neg (by simp),if_neg (by omega),if_neg (by omega)];rfl,HB.out⟩
  ·have hne:=sne hi'
   have e:chkN i a nbf exp now lee=15:=by
    unfold chkN;rw[if_neg hr,if_pos];cases i with
    | true=>exact absurd (hi.1 rfl) hi'
    | false=>rfl
   rw[e];clear hx ha hi e hr hi';go_enter Try.func9,Try.ntmps9;go_wp2;go_ret;exact⟨rfl,sbal (Below.refl _ _) _⟩
end Go.Proofs.Ytfhjjbgjoclanaf
