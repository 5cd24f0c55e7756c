import Derived.Test.YtbbopknnoamkbaaGreatDoorDMv
import Derived.Test.YtbbopknnoamkbaaGreatDoorQHd
import Derived.Test.YtbbopknnoamkbaaGreatDoorR2
namespace Go.Proofs.YtbbopknnoamkbaaGreatDoor
open Go.RowKit
set_option linter.unusedVariables false
set_option linter.unusedSimpArgs false
theorem mkR_err(s il:List UInt8)(a ttl:Int):(mkR s il a ttl).2.1≠0→(mkR s il a ttl).1=[]:=by
 unfold mkR;cases readL s with
 | error q=>obtain⟨e,p⟩:=q;intro _;rfl
 | ok t=>
   dsimp only;unfold mkT;repeat' split
   all_goals first|(intro _;rfl)|skip
   unfold mkF;repeat' split
   all_goals first|(intro _;rfl)|(intro h;exact absurd rfl h)
theorem chk_ok(a b now lee:Int)(r1:0≤now)(r2:now≤9007199254740991)(r3:0≤lee)(r4:lee≤1000000):(chkN true true a b now lee==0)=(decide (a≤now+lee)&&decide (now-lee<b)):=by
 unfold chkN;rw[if_neg (by omega),if_neg (by simp),if_neg (by simp)];by_cases h1:now+lee<a
 ·rw[if_pos h1,decide_eq_false (by omega:¬a≤now+lee)];rfl
 ·rw[if_neg h1,decide_eq_true (by omega:a≤now+lee)]
  by_cases h2:b≤now-lee
  ·rw[if_pos h2,decide_eq_false (by omega:¬now-lee<b)];rfl
  ·rw[if_neg h2,decide_eq_true (by omega:now-lee<b)];rfl
theorem hold_read(T:List UInt8)(c:Cl)(t:JT)(h:readL T=.ok t)(h2:rdC (flat 0 [] t)=(c,0,0))(w:World)(hg:9≤w.heap.size)(hG:GV w):Calls Tryz.prog 35 #[.string ⟨T.toArray⟩] w fun r w'=>(∃ay cy,r=.returned (.tuple #[.agg #[.string c.iss,.slice ay c.aud.length cy,.int .i64 c.iat,.int .i64 c.nbf,.int .i64 c.exp],.int .i64 0,.int .i64 0])∧SR w' (.slice ay c.aud.length cy) c.aud)∧Below w.heap.size w w':=by
 have el:(⟨T.toArray⟩:ByteArray).data.toList=T:=by simp
 have hq:rdCR (readL (⟨T.toArray⟩:ByteArray).data.toList)=(c,0,0):=by rw[el,h];exact h2
 have hc:=cread ⟨T.toArray⟩ w hg hG;rw[hq]at hc;refine hc.mono ?_;rintro r w' ⟨⟨ay,ly,cy,e,hs,_⟩,hb⟩;obtain⟨ad,cap,hv⟩:=hs.shape;injection hv with v1 v2 v3;subst v2;exact⟨⟨ay,cy,e,hs⟩,hb⟩
set_option maxRecDepth 10000 in
set_option maxHeartbeats 8000000 in
theorem lhold(s:ByteArray)(il:List UInt8)(a ttl now lee:Int)(w:World)(hg:9≤w.heap.size)(hG:GV w)(htab:Lib.TabBelow Tryz.prog w.heap.size w "internal/strconv.uint64pow10" .u64 Lib.pow10Tab)(hs:s.size≤140737488351232)(hil:il.length≤1048576)(ha0: -9223372036854775808≤a)(ha1:a≤9223372036854775807)(ht0: -9223372036854775808≤ttl)(ht1:ttl≤9223372036854775807)(hn0: -9223372036854775808≤now)(hn1:now≤9223372036854775807)(hl0: -9223372036854775808≤lee)(hl1:lee≤9223372036854775807):Calls Tryz.prog 13 #[.string s,.string ⟨il.toArray⟩,.int .i64 a,.int .i64 ttl,.int .i64 now,.int .i64 lee] w fun r w'=>r=.returned (.bool true)∧Below w.heap.size w w':=by
 have hc:=cmake s il a ttl w hg hG htab hil ha0 ha1 ht0 ht1;have hr:=fun w1=>rmake s il a ttl w1 hs hil ha0 ha1 ht0 ht1
 have hh:∀T p,mkR s.data.toList il a ttl=(T,0,p)→_:=fun T p h=>hold h
 have he:=mkR_err s.data.toList il a ttl;generalize mkR s.data.toList il a ttl=R at hc hr hh he;obtain⟨R1,R2,R3⟩:=R;dsimp only at he;have HC:=dhid hc;have HR:=dhid hr;clear hc hr;by_cases h0:R2=0
 ·subst h0
  obtain⟨t,⟨iss,aud,iat,nbf,exp⟩,h1,h2,h3,h4,h5,h6,h7,h8,h9,b1,b2,b3⟩:=hh R1 R3 rfl;dsimp only at h4 h5 h6 h7 h8 h9;replace h4:=h4.symm
  replace h5:=h5.symm
  replace h6:=h6.symm
  replace h7:=h7.symm
  subst h4 h5 h6 h7;clear ha0 ht0 ha1 ht1;have el:(⟨R1.toArray⟩:ByteArray).data.toList=R1:=by simp
  have hrd:=fun w1 (hb:Below w.heap.size w w1)=>hold_read R1 _ t h1 h3 w1 (by have:=hb.size;omega) (hG.kept fun k hk=>hb.block k (by omega))
  have hpr:=fun w1 (hb:Below w.heap.size w w1)=>cprint ⟨R1.toArray⟩ w1 (by have:=hb.size;omega) (hG.kept fun k hk=>hb.block k (by omega)) (fun w2 hb2=>htab w2 (hb.trans (hb2.mono hb.size)))
  rw[el,h1]at hpr;simp only[h2]at hpr;have hlen:0<aud.length:=List.length_pos_iff.2 h8;obtain⟨z,hz⟩:∃z,aud[aud.length-1]?=some z:=⟨_,List.getElem?_eq_getElem (by omega)⟩;have hck:=fun x w1 (hx:SR w1 x aud)=>ccheck ⟨il.toArray⟩ x aud a a (a+ttl) now lee ⟨il.toArray⟩ z w1 hx (by omega) true (by simp[List.mem_of_getElem? hz]) true (by simp)
  have HP:=dhid hpr;have HD:=dhid hrd;have HK:=dhid hck;have HZ:=dhid hz;clear hpr hrd hck hz h1 h2 h3 h8 hh he hG htab;go_enter Tryz.func13,Tryz.ntmps13;go_wp2_with fail
  refine HC.out.mono ?_;rintro r w1 ⟨rfl,hb1⟩;have HB1:=dhid hb1;clear hb1 HC;go_wp2_with fail
  refine(HR.out w1).mono ?_;rintro r w2 ⟨rfl,hb2⟩;have HB2:=dhid (HB1.out.trans (hb2.mono HB1.out.size));clear hb2 HR HB1;go_wp2_with fail
  refine(lnumC 0 w2).mono ?_;rintro r w3 ⟨rfl,hw3⟩;rw[hw3];clear hw3 w3;go_wp2_with fail
  refine(HD.out w2 HB2.out).mono ?_;rintro r w3 ⟨⟨ay,cy,rfl,hsr⟩,hb3⟩;have HB3:=dhid (HB2.out.trans (hb3.mono HB2.out.size));have HS:=dhid hsr;clear hb3 HB2 hsr HD;go_wp2_with fail
  refine(HP.out _ (dbal HB3.out _)).mono ?_;rintro r w4 ⟨rfl,hb4⟩;have c0:w4.cell? ⟨w3.heap.size,0,none⟩=some (.string ⟨il.toArray⟩):=cell_kp hb4 (by simp);have c1:w4.cell? ⟨w3.heap.size,1,none⟩=some (.slice ay aud.length cy):=cell_kp hb4 (by simp);have c2:w4.cell? ⟨w3.heap.size,2,none⟩=some (.int .i64 a):=cell_kp hb4 (by simp);have c3:w4.cell? ⟨w3.heap.size,3,none⟩=some (.int .i64 a):=cell_kp hb4 (by simp);have c4:w4.cell? ⟨w3.heap.size,4,none⟩=some (.int .i64 (a+ttl)):=cell_kp hb4 (by simp);have HB4:=dhid ((dbal HB3.out _).trans (hb4.mono (by have:=HB3.out.size;simp;omega)));have HS4:=dhid (HS.out.below ((dbal (Below.refl w3.heap.size w3) _).trans (hb4.mono (by simp))));have k0:¬((aud.length:Int)=0):=by omega
  have k1:((aud.length:Int)==0)=false:=beq_eq_false_iff_ne.2 k0;clear hb4 HB3 HS HP;go_wp2_with fail
  refine(lnumC 0 w4).mono ?_;rintro r w5 ⟨rfl,hw5⟩;rw[hw5];clear hw5 w5;go_wp2_with fail
  refine(lnumC 0 w4).mono ?_;rintro r w5 ⟨rfl,hw5⟩;rw[hw5];clear hw5 w5;obtain⟨ad,cap,hv,_,hcz⟩:=HS4.out;obtain⟨g,off,e8,cz⟩:=hcz (aud.length-1) z HZ.out;injection hv with v1 v2 v3;subst v1 v3 e8;obtain⟨m,hm⟩:∃m,aud.length-1=m:=⟨_,rfl⟩;rw[hm]at cz;have kx:IntKind.i64.wrap ((aud.length:Int)-1)=(m:Int):=by rw[i64w _ (by omega)];omega
  have ky:(0:Int)≤(m:Int):=by omega
  have kz:(m:Int)<(aud.length:Int):=by omega
  have kl:(m:Int)≤1000000:=by omega
  clear hm;have HSd:Hid (∀w5,(∀g j u,w4.cell? ⟨g,j,none⟩=some u→w5.cell? ⟨g,j,none⟩=some u)→SR w5 (.slice (some ⟨g,off,none⟩) aud.length cy) aud):=fun w5 h5=>HS4.out.keep h5
  clear hcz v2;go_wp2_with fail
  all_goals first|(go_ret;exact⟨rfl,HB4.out⟩)|skip
  have r1:0≤now:=by omega
  have r2:now≤9007199254740991:=by omega
  have r3:0≤lee:=by omega
  have r4:lee≤1000000:=by omega
  have hck:∃C,C=chkN true true a (a+ttl) now lee:=⟨_,rfl⟩;obtain⟨C,hC⟩:=hck;rw[←hC]at HK;have HC:=dhid hC;clear hC;go_region_with (go_at_call 36;refine(HK.out _ _ (HSd.out _ (fun g j u hc=>by simpa using hc))).mono ?_;rintro r w5 ⟨rfl,hb5⟩;have HB5:Hid (Below w.heap.size w w5):=HB4.out.drew.trans (hb5.mono HB4.out.drew.size);clear hb5)
  all_goals have s1:IntKind.i64.wrap (now+lee)=now+lee:=i64w _ (by omega)
  all_goals have s2:IntKind.i64.wrap (now-lee)=now-lee:=i64w _ (by omega)
  all_goals have s3:IntKind.i64.wrap (a+ttl)=a+ttl:=i64w _ (by omega)
  all_goals clear c0 c1 c2 c3 c4 cz HK HSd HS4
  all_goals go_wp2_with (refine(lnumC C w5).mono ?_;rintro r w6 ⟨rfl,hw6⟩;rw[hw6];clear hw6 w6)
  all_goals go_ret
  all_goals refine⟨?_,HB5.out⟩
  all_goals rw[HC.out,chk_ok a (a+ttl) now lee r1 r2 r3 r4]
  all_goals (by_cases q:a≤now+lee<;>first|omega|simp[q])
 ·obtain rfl:=he h0
  have k1:(R2 != 0)=true:=by simp[h0]
  clear hh he hG htab;go_enter Tryz.func13,Tryz.ntmps13;go_wp2_with fail
  refine HC.out.mono ?_;rintro r w1 ⟨rfl,hb1⟩;have HB1:=dhid hb1;clear hb1 HC;go_wp2_with fail
  refine(HR.out w1).mono ?_;rintro r w2 ⟨rfl,hb2⟩;have HB2:=dhid (HB1.out.trans (hb2.mono HB1.out.size));clear hb2 HR HB1;go_wp2_with fail
  refine(lnumC R2 w2).mono ?_;rintro r w3 ⟨rfl,hw3⟩;rw[hw3];clear hw3 w3;go_wp2_with fail
  go_ret;exact⟨rfl,HB2.out⟩
end Go.Proofs.YtbbopknnoamkbaaGreatDoor
