import Derived.Test.YtfhjjbgjoclanafSChk
import Derived.Test.YtfhjjbgjoclanafSSam
namespace Go.Proofs.Ytfhjjbgjoclanaf
open Go.RowKit
set_option linter.unusedVariables false
theorem wp_copyS{P:Program}{ops:Array Oper}{rest:List Oper}{o:Oper}{a:Act}{Q:Exit→Act→World→Prop}(hgd:o.guard=none)(s x:Operand)(t:TypeId)(ho:o.op=.call {callee:=.builtin .append,args:= #[s,x],argTypes:= #[t,t]})
 (e:TypeId) (i:TypeInfo) (ht:P.underlying t=some (.slice e)) (hi:P.info? e=some i) (hz:i.zero=some (.string ByteArray.empty)) (hsize:i.size=1) (hby:i.bytes=16)
 (v:Value) (zs:List ByteArray) (w:World) (hs:a.eval s=.slice none 0 0) (hx:a.eval x=v) (hrow:SR w v zs) (hlen:zs.length≤8796093022208)
 (h:∀v' w',w'.ownsRow w.heap.size e 1 v' zs.length (zs.map Value.string)→Below w.heap.size w w'→wpList P ops Q rest (a.put o.dst v') w'):wpList P ops Q (o::rest) a w:=by
 obtain⟨ad,cap,rfl,h0,hc⟩:=hrow;cases ad with
 | none=>
   obtain rfl:=h0 rfl;obtain rfl:zs=[]:=by
    cases zs with
    | nil=>rfl
    | cons z zs=>obtain⟨g,off,e,_⟩:=hc 0 z rfl;cases e
   refine wpList_append_own_none hgd s x t ho w.heap.size e i 1 ht hi _ 0 [] hs (World.ownsRow_nil _ _ _ _) hx (h _ _ ?_ (Below.refl _ _));exact World.ownsRow_nil _ _ _ _
 | some ad=>
   have hadd:∀(g o j:Nat),(⟨g,o,none⟩:Addr).add j=⟨g,o+j,none⟩:=fun g o j=>by unfold Addr.add;split<;>simp_all
   refine wpList_append_own_wide _ hgd s x t ho w.heap.size e i (.string ByteArray.empty) 1 16 ht hi hz hsize hby rfl (by decide) _ 0 [] hs (World.ownsRow_nil _ _ _ _) ad zs.length cap (zs.map Value.string) hx (by simp) ?_ ?_ (by unfold maxLen;omega) (by omega) (Nat.le_refl _) ?_
   ·intro j u hu
    rw[List.getElem?_map]at hu;cases hz:zs[j]? with
    | none=>rw[hz]at hu;cases hu
    | some z=>
      rw[hz]at hu;simp at hu;subst hu;obtain⟨g,off,e,hc'⟩:=hc j z hz;injection e with e;subst e;rw[hadd];exact hc'
   ·intro u hu
    obtain⟨k,_,rfl⟩:=List.mem_map.1 hu;rfl
   ·intro v' w' h1 h2 _
    rw[Nat.zero_add,List.nil_append]at h1;exact h v' w' h1 ((Below.refl _ _).grown h2 (Nat.le_refl _) (by intro k hk;simp[Value.ownBlock]at hk))
set_option maxRecDepth 4000 in
set_option maxHeartbeats 1000000 in
theorem lsaid(iss:ByteArray)(x:Value)(zs:List ByteArray)(iat nbf exp:Int)(w:World)(hx:SR w x zs)(hl:zs.length≤8796093022208):Calls Try.prog 5 #[.agg #[.string iss,x,.int .i64 iat,.int .i64 nbf,.int .i64 exp]] w fun r w'=>(∃y,r=.returned (.agg #[.string iss,y,.int .i64 iat,.int .i64 nbf,.int .i64 exp])∧SR w' y zs)∧Below w.heap.size w w':=by
 obtain⟨i0,hi,hz0,hz1,hz2⟩:=sinfo_parts strinfo;have HX:=hidd hx;have HI:=hidd hi;clear hx hi;go_enter Try.func5,Try.ntmps5;go_wp2_with (at_builtin;refine wp_copyS rfl _ _ _ rfl 9 i0 Try.underlying22 HI.out hz0 hz1 hz2 x zs _ rfl rfl (HX.out.below (sbal (sbal (Below.refl _ _) _) _)) hl ?_;intro y w1 ho hb;have c0:w1.cell? ⟨w.heap.size,0,none⟩=some (.string iss):=scell_kp hb (by simp);have c2:w1.cell? ⟨w.heap.size,2,none⟩=some (.int .i64 iat):=scell_kp hb (by simp);have c3:w1.cell? ⟨w.heap.size,3,none⟩=some (.int .i64 nbf):=scell_kp hb (by simp);have c4:w1.cell? ⟨w.heap.size,4,none⟩=some (.int .i64 exp):=scell_kp hb (by simp);have f0:∀k,w1.frozen? ⟨w.heap.size+1,k,none⟩=false:=(fun k=>(hb.frozen (p:=⟨w.heap.size+1,k,none⟩) (by simp)).trans (by simp));have e0:w1.cell? ⟨w.heap.size+1,0,none⟩=some (Value.string ⟨#[]⟩):=scell_kp hb (by simp);have e1:w1.cell? ⟨w.heap.size+1,1,none⟩=some (Value.slice none 0 0):=scell_kp hb (by simp);have e2:w1.cell? ⟨w.heap.size+1,2,none⟩=some (Value.int .i64 0):=scell_kp hb (by simp);have e3:w1.cell? ⟨w.heap.size+1,3,none⟩=some (Value.int .i64 0):=scell_kp hb (by simp);have e4:w1.cell? ⟨w.heap.size+1,4,none⟩=some (Value.int .i64 0):=scell_kp hb (by simp);obtain⟨ad,cap,rfl⟩:=(SR.of ho).shape;have HO:=hidd ho;have HB:=hidd hb;clear ho hb)
 refine bodyPost_ret (v:=.agg #[.string iss,.slice ad zs.length cap,.int .i64 iat,.int .i64 nbf,.int .i64 exp]) (by simp[results,Try.results5,go_sem,e0,e1,e2,e3,e4]) rfl ⟨⟨_,rfl,?_⟩,?_⟩
 ·refine SR.of (B:=w.heap.size+2) (e:=9) ?_
  repeat' (refine ownsRow_setCell_below ?_ (by simp) _)
  have:=HO.out;simpa using this
 ·refine Below.setCell ?_ (by simp) _
  refine Below.setCell ?_ (by simp) _;refine Below.setCell ?_ (by simp) _;refine Below.setCell ?_ (by simp) _;refine Below.setCell ?_ (by simp) _;exact(sbal (sbal (Below.refl _ _) _) _).trans (HB.out.mono (by simp;omega))
end Go.Proofs.Ytfhjjbgjoclanaf
