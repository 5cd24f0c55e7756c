import Derived.Test.YtfhjjbgjoclanafSSaid
import Derived.Test.YtfhjjbgjoclanafSApp
namespace Go.Proofs.Ytfhjjbgjoclanaf
open Go.RowKit
set_option linter.unusedVariables false
theorem drop_rev(zs:List ByteArray)(j:Nat)(z:ByteArray)(h:zs[j]?=some z):(zs.drop j).reverse=(zs.drop (j+1)).reverse++[z]:=by
 obtain⟨hl,e⟩:=List.getElem?_eq_some_iff.1 h;rw[List.drop_eq_getElem_cons hl,List.reverse_cons,e]
def Turning(zs:List ByteArray)(bb:Nat)(W3:World)(tv iv:Value)(wr:World):Prop:=
 ∃m:Nat,m≤zs.length∧iv=.int .i64 ((m:Int)-1)∧wr.ownsRow (bb+1) 9 1 tv (zs.drop m).reverse.length ((zs.drop m).reverse.map Value.string)∧Below (bb+1) W3 wr
set_option maxRecDepth 10000 in
set_option maxHeartbeats 2000000 in
theorem lorder(iss0:ByteArray)(x:Value)(zs:List ByteArray)(iat nbf exp now lee:Int)(iss aud more:ByteArray)(w:World)(hx:SR w x zs)(hl:zs.length≤8796093022200):Calls Try.prog 4 #[.agg #[.string iss0,x,.int .i64 iat,.int .i64 nbf,.int .i64 exp],.int .i64 now,.int .i64 lee,.string iss,.string aud,.string more] w fun r w'=>r=.returned (.bool true)∧Below w.heap.size w w':=by
 obtain⟨i0,hi0,hz0,hz1,hz2⟩:=sinfo_parts strinfo;have HI:=hidd hi0;clear hi0;obtain⟨adx,capx,rfl⟩:=hx.shape;obtain⟨a,ha⟩:∃a:Bool,a=true↔aud∈zs:=by
  by_cases h:aud∈zs
  ·exact⟨true,by simp[h]⟩
  ·exact⟨false,by simp[h]⟩
 obtain⟨a',ha'⟩:∃a:Bool,a=true↔aud∈zs.reverse++[more]:=by
  by_cases h:aud∈zs.reverse++[more]
  ·exact⟨true,by simp only[h]⟩
  ·exact⟨false,by simp only[h];simp⟩
 have har:a=true↔aud∈zs.reverse:=by rw[ha];simp
 obtain⟨i,hi⟩:∃i:Bool,i=true↔iss0=iss:=by
  by_cases h:iss0=iss
  ·exact⟨true,by simp[h]⟩
  ·exact⟨false,by simp[h]⟩
 have hlast:chkN i a nbf exp now lee=0→chkN i a' nbf exp now lee=0:=by
  intro h0;have e:a'=true:=by
   cases a with
   | true=>exact ha'.2 (by simp only[List.mem_append];exact .inl (har.1 rfl))
   | false=>
     exfalso;unfold chkN at h0;split at h0
     ·omega
     ·split at h0
      ·omega
      ·simp at h0
  have e2:a=true:=by
   cases a with
   | true=>rfl
   | false=>
     exfalso;unfold chkN at h0;split at h0
     ·omega
     ·split at h0
      ·omega
      ·simp at h0
  rw[e];rw[e2]at h0;exact h0
 have hsd:=fun w1 (b1:Below w.heap.size w w1)=>lsaid iss0 _ zs iat nbf exp w1 (hx.below b1) (by omega)
 have hck:=fun y w1 (hy:SR w1 y zs)=>ccheck iss0 y zs iat nbf exp now lee iss aud w1 hy (by omega) a ha i hi
 have hck2:=fun y w1 (hy:SR w1 y zs.reverse)=>ccheck iss0 y zs.reverse iat nbf exp now lee iss aud w1 hy (by simp;omega) a har i hi
 have hck3:=fun y w1 (hy:SR w1 y (zs.reverse++[more]))=>ccheck iss0 y (zs.reverse++[more]) iat nbf exp now lee iss aud w1 hy (by simp;omega) a' ha' i hi
 have hrk:=fun w1 (b1:Below w.heap.size w w1)=>rcheck iss0 _ zs iat nbf exp now lee iss aud w1 (hx.below b1) (by omega) a ha i hi
 have hx2:∀j z,zs[j]?=some z→∃g off,adx=some ⟨g,off,none⟩∧w.cell? ⟨g,off+j,none⟩=some (.string z):=by
  obtain⟨ad,cap,e,_,h⟩:=hx;injection e with e _ _;rw[e];exact h
 have HS:=hidd hsd;have HC:=hidd hck;have HC2:=hidd hck2;have HC3:=hidd hck3;have HR:=hidd hrk;have HX:=hidd hx2;have HL:=hidd hlast;clear hsd hck hck2 hck3 hrk hx2 hlast hx ha ha' har hi;generalize chkN i a nbf exp now lee=q at *;generalize chkN i a' nbf exp now lee=q' at *;go_enter Try.func4,Try.ntmps4;go_wp2_with fail
 refine(HS.out _ (sbal (Below.refl _ _) _)).mono ?_;rintro r w1 ⟨⟨y1,rfl,hy1⟩,hb⟩;have k0:=C5.low (C5.new w iss0 (.slice adx zs.length capx) iat nbf exp 24) hb (by simp);obtain⟨ad1,cap1,rfl⟩:=hy1.shape;have B1:=hidd ((sbal (Below.refl w.heap.size w) _).trans (hb.mono (by simp)));have Z1:w.heap.size<w1.heap.size:=by have:=hb.size;simp at this;omega
 have HY1:=hidd hy1;have K0:=hidd k0;obtain⟨c0,c1,c2,c3,c4⟩:=k0;clear hb hy1;go_wp2_with fail
 refine(HS.out _ (B1.out.alloc B1.out.size _)).mono ?_;rintro r w2 ⟨⟨y2,rfl,hy2⟩,hb⟩;have A2:=hidd (C5.low (C5.new w1 iss0 (.slice ad1 zs.length cap1) iat nbf exp 25) hb (by simp));have D2:=hidd ((sbal (Below.refl w1.heap.size w1) _).trans (hb.mono (by simp)));have K2:=hidd (K0.out.low D2.out Z1);have Z2:w1.heap.size<w2.heap.size:=by have:=hb.size;simp at this;omega
 obtain⟨ad2,cap2,rfl⟩:=hy2.shape;clear hb hy2 c0 c1 c2 c3 c4;have p1:∀o,(w2.alloc o).cell? ⟨w.heap.size,1,none⟩=some (.slice adx zs.length capx):=fun o=>(K2.out.low (sbal (Below.refl _ w2) o) (by omega)).c1
 go_wp2_with fail
 clear p1;have A3:=hidd (A2.out.low (sbal (Below.refl _ w2) (.cells #[.string iss0,.slice ad2 zs.length cap2,.int .i64 iat,.int .i64 nbf,.int .i64 exp] 25)) Z2);have B3:=hidd (C5.new w2 iss0 (.slice ad2 zs.length cap2) iat nbf exp 25);have K3:=hidd (K2.out.low (sbal (Below.refl _ w2) (.cells #[.string iss0,.slice ad2 zs.length cap2,.int .i64 iat,.int .i64 nbf,.int .i64 exp] 25)) (by omega));have E3:=hidd (D2.out.alloc D2.out.size (.cells #[.string iss0,.slice ad2 zs.length cap2,.int .i64 iat,.int .i64 nbf,.int .i64 exp] 25));have F3:Hid (∀k,(w2.alloc (.cells #[.string iss0,.slice ad2 zs.length cap2,.int .i64 iat,.int .i64 nbf,.int .i64 exp] 25)).frozen? ⟨w2.heap.size,k,none⟩=false):=fun k=>by simp
 have Z3:w2.heap.size+1≤(w2.alloc (.cells #[.string iss0,.slice ad2 zs.length cap2,.int .i64 iat,.int .i64 nbf,.int .i64 exp] 25)).heap.size:=by simp
 generalize hW3:w2.alloc (.cells #[.string iss0,.slice ad2 zs.length cap2,.int .i64 iat,.int .i64 nbf,.int .i64 exp] 25)=W3 at *;clear hW3 A2 K2 D2 K0 HS;generalize hbb:w2.heap.size=bb at *;clear hbb w2;go_loopw [15,16] (fun tv iv wr=>Turning zs bb W3 tv iv wr) (fun _ iv _=>(intOf iv+1).toNat)
 case atStart=>exact⟨zs.length,Nat.le_refl _,rfl,by rw[List.drop_length];exact World.ownsRow_nil _ _ _ _,Below.refl _ _⟩
 case round=>
  obtain⟨m,hm,rfl,ho,hb⟩:=hrel;have q1:=(K3.out.low hb (by omega)).c1;cases m with
  | succ j=>
    obtain⟨z,hz⟩:∃z,zs[j]?=some z:=⟨_,List.getElem?_eq_getElem (by omega)⟩;obtain⟨g,off,rfl,cw⟩:=HX.out j z hz;have hgw:g<w.heap.size:=World.block_lt_of_cell? w _ cw;have cz:wr.cell? ⟨g,off+j,none⟩=some (.string z):=cell_lw hb (by omega) (cell_lw E3.out (by omega) (cell_lw B1.out hgw cw));have ho2:=ho;rw[show(((j+1:Nat):Int)-1)=(j:Int)by omega];have k1:(j:Int)<(zs.length:Int):=by omega
    have hd:=drop_rev zs j z hz;have HO:=hidd ho;have HB:=hidd hb;have HD:=hidd hd;have hlen:(zs.drop (j+1)).reverse.length≤8796093022208:=by simp;omega
    have hsz:=hb.size;clear ho hb hd cw hz ho2;go_wp2_with (at_builtin;go_must (refine wp_oneStr rfl (.tmp 33) (.tmp 39) 22 rfl 9 i0 Try.underlying22 HI.out hz0 hz1 hz2 (bb+1) u15 (zs.drop (j+1)).reverse z wr rfl HO.out (by omega) hlen rfl ?_;intro y w4 ho4 hb4;rw[←HD.out]at ho4);have HO4:=hidd ho4;have HB4:=hidd (HB.out.trans hb4);clear ho4 hb4)
    go_roundw
    case rel=>exact⟨j,by omega,by first|rfl|go_num,HO4.out,HB4.out⟩
    case measure=>simp[intOf]
  | zero=>
    rw[show(((0:Nat):Int)-1)= -1 by omega];rw[List.drop_zero]at ho;obtain⟨adt,capt,hu⟩:=(SR.of ho).shape;rw[List.length_reverse]at hu;subst hu;have hsz:=hb.size;have Q3:=hidd (B3.out.low hb (by omega));have q3:=Q3.out.c1;have f3:wr.frozen? ⟨bb,1,none⟩=false:=(hb.frozen (p:=⟨bb,1,none⟩) (by simp)).trans (F3.out 1);have A4:=A3.out.low hb (by omega);have LS:=hidd ((hb.mono (Nat.le_succ bb)).setCell (p:=⟨bb,1,none⟩) (Nat.le_refl _) (.slice adt zs.length capt));have a0:=A4.c0;have a1:=A4.c1;have a2:=A4.c2;have a3:=A4.c3;have a4:=A4.c4;have HO:=hidd (ownsRow_setCell_below (a:=⟨bb,1,none⟩) ho (by simp) (.slice adt zs.length capt));clear ho hb;go_wp2_with fail
    refine(HC.out _ _ (HY1.out.below (E3.out.trans (LS.out.mono (by omega))))).mono ?_;rintro r w4 ⟨rfl,hb4⟩;have hsS:(wr.setCell ⟨bb,1,none⟩ (.slice adt zs.length capt)).heap.size=wr.heap.size:=by simp[World.setCell]
    have L4:=hidd (LS.out.trans (hb4.mono (by omega)));have Q4:=hidd ((Q3.out.set (.slice adt zs.length capt)).low hb4 (by omega));have HO4:=hidd (row_kp HO.out hb4);have F4:w4.frozen? ⟨bb,1,none⟩=false:=(hb4.frozen (p:=⟨bb,1,none⟩) (by simp only[hsS];omega)).trans (by simp[f3]);have hs4:wr.heap.size≤w4.heap.size:=by have:=hb4.size;omega
    clear hb4 a0 a1 a2 a3 a4 q3 f3 HO LS Q3 hsS;obtain⟨c0,c1,c2,c3,c4⟩:=Q4.out;go_wp2_with fail
    refine(HC2.out _ _ (SR.of HO4.out)).mono ?_;rintro r w5 ⟨rfl,hb5⟩;have hs5:wr.heap.size≤w5.heap.size:=by have:=hb5.size;omega
    have L5:=hidd (L4.out.trans (hb5.mono (by omega)));have Q5:=hidd (Q4.out.low hb5 (by omega));have HO5:=hidd (row_kp HO4.out hb5);have F5:w5.frozen? ⟨bb,1,none⟩=false:=(hb5.frozen (p:=⟨bb,1,none⟩) (by simp only[];omega)).trans F4;clear hb5 c0 c1 c2 c3 c4 HO4 Q4 L4 F4;have c1:=Q5.out.c1;have hlen:zs.reverse.length≤8796093022208:=by simp;omega
    go_wp2_with (at_builtin;go_must (refine wp_oneStr rfl (.tmp 56) (.tmp 58) 22 rfl 9 i0 Try.underlying22 HI.out hz0 hz1 hz2 (bb+1) (.slice adt zs.length capt) zs.reverse more w5 rfl HO5.out (by omega) hlen rfl ?_;intro y w6 ho6 hb6;obtain⟨ad6,cap6,hy6⟩:=(SR.of ho6).shape;generalize (zs.reverse++[more]).length=n6 at hy6;subst hy6;have Q6:=hidd (Q5.out.low hb6 (by omega));have L6:=hidd (L5.out.trans (hb6.mono (Nat.le_succ bb)));have c6:=Q6.out.c1;have d0:=Q6.out.c0;have d2:=Q6.out.c2;have d3:=Q6.out.c3;have d4:=Q6.out.c4;have f6:w6.frozen? ⟨bb,1,none⟩=false:=(hb6.frozen (p:=⟨bb,1,none⟩) (by simp)).trans F5;have HO6:=hidd ho6;have hs6:=hb6.size;clear ho6 hb6))
    have HOS:=hidd (ownsRow_setCell_below (a:=⟨bb,1,none⟩) HO6.out (by simp) (.slice ad6 n6 cap6));refine(HC3.out _ _ (SR.of HOS.out)).mono ?_;rintro r w7 ⟨rfl,hb7⟩;have hsS:(w6.setCell ⟨bb,1,none⟩ (.slice ad6 n6 cap6)).heap.size=w6.heap.size:=by simp[World.setCell]
    have L7:=hidd ((L6.out.setCell (p:=⟨bb,1,none⟩) (Nat.le_refl _) (.slice ad6 n6 cap6)).trans (hb7.mono (by omega)));clear hb7 c6 d0 d2 d3 d4 f6 HOS HO6 Q6 L6;obtain⟨e0,e1,e2,e3,e4⟩:=K3.out.low L7.out (by omega);have B7:=hidd (B1.out.trans ((E3.out.trans (L7.out.mono (by omega))).mono (by omega)));go_wp2_with fail
    refine(HR.out _ B7.out).mono ?_;rintro r w8 ⟨rfl,hb8⟩;have B8:=hidd (B7.out.trans (hb8.mono B7.out.size));clear hb8 e0 e1 e2 e3 e4;have hnum:=fun e w'=>lnumC e w'
    by_cases hq:q=0
    ·obtain rfl:=hq
     obtain rfl:=HL.out rfl;go_wp2_with (go_at_call 8;refine(hnum _ _).mono ?_;rintro e' w' ⟨rfl,hw⟩;have hw2:=hw.symm;subst hw2)
     go_ret;exact⟨rfl,B8.out⟩
    ·have hqb:(q != 0)=true:=by simp[hq]
     go_wp2_with (go_at_call 8;refine(hnum _ _).mono ?_;rintro e' w' ⟨rfl,hw⟩;have hw2:=hw.symm;subst hw2)
     go_ret;exact⟨rfl,B8.out⟩
end Go.Proofs.Ytfhjjbgjoclanaf
