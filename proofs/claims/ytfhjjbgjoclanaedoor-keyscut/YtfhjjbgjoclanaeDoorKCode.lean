import Derived.Test.YtfhjjbgjoclanaeDoorKSpec
import Derived.Test.YtfhjjbgjoclanaeDoorBEnc
set_option maxHeartbeats 2000000
namespace Go.Proofs.YtfhjjbgjoclanaeDoor
open Go.RowKit
set_option linter.unusedVariables false
theorem ccheckK(x:Value)(done:List Ky)(k:Ky)(w:World)(hx:KR w x done)(hG:WG w)(hl:done.length≤140737488355328)(h1:k.kid.size≤4611686018427387904)(h2:k.key.size≤4611686018427387904):Calls Tryd.prog 12 #[x,.agg #[.int .i64 k.alg,.string k.kid,.string k.key]] w fun r w'=>r=.returned (.int .i64 (errK done k))∧Below w.heap.size w w':=by
 have hck:=fun w1 (b1:Below w.heap.size w w1)=>ccheckKey k.alg k.kid k.key w1 (hG.below b1) h1 h2
 have hfd:=fun w1 (b1:Below w.heap.size w w1)=>cfind x done k.kid w1 (hx.below b1) hl
 have HE:Hid (errK done k=if 20≤done.length then 8 else if keyErr k.alg k.kid k.key=0 then(if 0≤findK k.kid done 0 then 4 else 0)else keyErr k.alg k.kid k.key):=by unfold errK;exact rfl
 obtain⟨ad,cap,rfl⟩:=hx.shape;have HC:=thid hck;have HF:=thid hfd;clear hck hfd hx hG;by_cases a1:20≤done.length
 ·have k1:(20:Int)≤(done.length:Int):=by omega
  go_enter Tryd.func12,Tryd.ntmps12;go_wp2;go_ret;exact⟨by rw[HE.out,if_pos a1];rfl,tbal (Below.refl _ _) _⟩
 ·have k1:¬(20:Int)≤(done.length:Int):=by omega
  have A1:=thid a1;clear a1;go_enter Tryd.func12,Tryd.ntmps12;go_wp2_with fail
  refine(HC.out _ (tbal (Below.refl _ _) _)).mono ?_;rintro r w1 ⟨rfl,hb⟩;have c1:w1.cell? ⟨w.heap.size,1,none⟩=some (.string k.kid):=tcell_kp hb (by simp);have HB:=thid ((tbal (Below.refl w.heap.size w) _).trans (hb.mono (by simp)));clear hb;by_cases b1:keyErr k.alg k.kid k.key=0
  ·rw[b1]
   have B1:=thid b1;clear b1;go_wp2_with fail
   refine(HF.out _ HB.out).mono ?_;rintro r w2 ⟨rfl,hb⟩;have HB2:=thid (HB.out.trans (hb.mono HB.out.size));clear hb;by_cases d1:0≤findK k.kid done 0
   ·have D1:=thid d1
    go_wp2;go_ret;exact⟨by rw[HE.out,if_neg A1.out,if_pos B1.out,if_pos D1.out];rfl,HB2.out⟩
   ·have D1:=thid d1
    go_wp2;go_ret;exact⟨by rw[HE.out,if_neg A1.out,if_pos B1.out,if_neg (by have:=D1.out;omega)];rfl,HB2.out⟩
  ·have B1:=thid b1
   have b2:(keyErr k.alg k.kid k.key != 0)=true:=by simp[b1]
   clear b1;generalize keyErr k.alg k.kid k.key=q at *;go_wp2;go_ret;exact⟨by rw[HE.out,if_neg A1.out,if_neg B1.out];rfl,HB.out⟩
theorem cat_assoc(a b c:ByteArray):a++b++c=a++(b++c):=by
 apply teq;simp
theorem str_list{a b:ByteArray}(h:a.data.toList=b.data.toList):Ending.returned (.string a)=.returned (.string b):=by rw[teq h]
theorem cwriteK(k:Ky)(w:World)(hG:WG w)(h0:keyErr k.alg k.kid k.key=0):Calls Tryd.prog 13 #[.agg #[.int .i64 k.alg,.string k.kid,.string k.key]] w fun r w'=>r=.returned (.string ⟨(objL k).toArray⟩)∧Below w.heap.size w w':=by
 obtain⟨h1,h2,h3,h4⟩:=key_small h0;have hnm:=fun w1 (b1:Below w.heap.size w w1)=>calgName k.alg w1 (hG.below b1)
 have hen:=fun w1=>encode_any k.key w1 (by omega)
 have hns:(nameB k.alg).size≤5:=by rcases h1 with h|h|h<;>rw[h]<;>decide
 have hel:(enc (dB k.key) k.key.size).length≤1000:=by rw[enc_length];omega
 have HN:=thid hnm;have HE:=thid hen;clear hnm hen hG h0 h1;obtain⟨E,hE⟩:∃E:ByteArray,E=⟨(enc (dB k.key) k.key.size).toArray⟩:=⟨_,rfl⟩;rw[←hE]at HE;have hEs:E.size≤1000:=by rw[hE];show(enc (dB k.key) k.key.size).toArray.size≤1000;simpa using hel
 have HEq:Hid (objL k=[123,34,97,108,103,34,58,34]++((nameB k.alg).data.toList++([34,44,34,107,34,58,34]++(E.data.toList++([34,44,34,107,105,100,34,58,34]++(k.kid.data.toList++[34,44,34,107,116,121,34,58,34,111,99,116,34,125])))))):=by rw[hE];exact rfl
 clear hE hel;generalize nameB k.alg=nm at *;have z0:¬9223372036854775807<8+nm.size:=by omega
 have z1:¬9223372036854775807<8+nm.size+7:=by omega
 have z2:¬9223372036854775807<8+nm.size+7+E.size:=by omega
 have z3:¬9223372036854775807<8+nm.size+7+E.size+9:=by omega
 have z4:¬9223372036854775807<8+nm.size+7+E.size+9+k.kid.size:=by omega
 have z5:¬9223372036854775807<8+nm.size+7+E.size+9+k.kid.size+9:=by omega
 have z6:¬9223372036854775807<8+nm.size+7+E.size+9+k.kid.size+9+3:=by omega
 have z7:¬9223372036854775807<8+nm.size+7+E.size+9+k.kid.size+9+3+2:=by omega
 go_enter Tryd.func13,Tryd.ntmps13;go_wp2_with fail
 have HB0:=thid ((tbal (Below.refl w.heap.size w) (.cells #[.int .i64 k.alg,.string k.kid,.string k.key] 38)).drew);have HCS:Hid (∀wx,Below (w.heap.size+1) (w.alloc (.cells #[.int .i64 k.alg,.string k.kid,.string k.key] 38)) wx→wx.cell? ⟨w.heap.size,0,none⟩=some (.int .i64 k.alg)∧wx.cell? ⟨w.heap.size,1,none⟩=some (.string k.kid)∧wx.cell? ⟨w.heap.size,2,none⟩=some (.string k.key)):=fun wx hb=>
  ⟨(hb.cell (p:=⟨w.heap.size,0,none⟩) (by simp)).trans (by simp),(hb.cell (p:=⟨w.heap.size,1,none⟩) (by simp)).trans (by simp),(hb.cell (p:=⟨w.heap.size,2,none⟩) (by simp)).trans (by simp)⟩
 go_region_held3 (fun w'=>w'.cell? ⟨w.heap.size,0,none⟩=some (.int .i64 k.alg)∧w'.cell? ⟨w.heap.size,1,none⟩=some (.string k.kid)∧w'.cell? ⟨w.heap.size,2,none⟩=some (.string k.key)) (go_keep) (first|(go_at_call 21;refine(HN.out _ (by first|exact HBe.out.1|exact HB0.out)).mono ?_;rintro e wn ⟨rfl,hbn⟩;have HBn:Hid (Below w.heap.size w wn∧Below (w.heap.size+1) (w.alloc (.cells #[.int .i64 k.alg,.string k.kid,.string k.key] 38)) wn):=(by first|exact⟨HBe.out.1.trans (hbn.mono HBe.out.1.size),HBe.out.2.trans (hbn.mono (by have:=HBe.out.2.size;simp at this;omega))⟩|exact⟨HB0.out.trans (hbn.mono HB0.out.size),(Below.refl _ _).drew.trans (hbn.mono (by simp))⟩);obtain⟨s0,s1,s2⟩:=HCS.out _ HBn.out.2;clear hbn)|(go_at_call 22;refine(HE.out _).mono ?_;rintro e we ⟨rfl,hbe⟩;have HBe:Hid (Below w.heap.size w we∧Below (w.heap.size+1) (w.alloc (.cells #[.int .i64 k.alg,.string k.kid,.string k.key] 38)) we):=(by first|exact⟨HBn.out.1.trans (hbe.mono HBn.out.1.size),HBn.out.2.trans (hbe.mono (by have:=HBn.out.2.size;simp at this;omega))⟩|exact⟨HB0.out.trans (hbe.mono HB0.out.size),(Below.refl _ _).drew.trans (hbe.mono (by simp))⟩);obtain⟨s0,s1,s2⟩:=HCS.out _ HBe.out.2;clear hbe))
 all_goals go_wp2_with fail
 all_goals go_ret
 all_goals refine⟨str_list ?_,by first|exact HBe.out.1|exact HBn.out.1⟩
 all_goals rw[HEq.out]
 all_goals simp
end Go.Proofs.YtfhjjbgjoclanaeDoor
