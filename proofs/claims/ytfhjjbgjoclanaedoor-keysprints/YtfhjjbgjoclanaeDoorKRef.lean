import Derived.Test.YtfhjjbgjoclanaeDoorKPrt
import Derived.Test.YtfhjjbgjoclanaeDoorBREnc
import Derived.Test.YtfhjjbgjoclanaeDoorTNam
namespace Go.Proofs.YtfhjjbgjoclanaeDoor
open Go.RowKit
set_option linter.unusedVariables false
def outK(ks:List Ky):List UInt8:=headK++Lib.join (ks.map objL) [44]
theorem outK_step(ks:List Ky)(k:Ky):outK (ks++[k])=outK ks++((if ks=[]then []else [44])++objL k):=by
 unfold outK;rw[List.map_append];cases ks with
 | nil=>simp[Lib.join,List.intercalate]
 | cons k0 ks=>rw[show List.map objL [k]=[objL k]from rfl,join_snoc _ _ _ (by simp)];simp
theorem errK_of{ks:List Ky}{i:Nat}{k:Ky}(hk:ks[i]?=some k)(hi:i<20):errK (ks.take i) k=if keyErr k.alg k.kid k.key=0 then(if findK k.kid ks 0<(i:Int)then 4 else 0)else keyErr k.alg k.kid k.key:=by
 have hl:(ks.take i).length=i:=by have:=(List.getElem?_eq_some_iff.1 hk).1;rw[List.length_take];omega
 unfold errK;rw[hl,if_neg (by omega)];have:=find_take k.kid ks i 0 k hk rfl;rw[Nat.zero_add]at this;by_cases h:keyErr k.alg k.kid k.key=0
 ·rw[if_pos h,if_pos h]
  by_cases h2:findK k.kid ks 0<(i:Int)
  ·rw[if_pos h2,if_pos (this.1 h2)]
  ·rw[if_neg h2,if_neg (fun h3=>h2 (this.2 h3))]
 ·rw[if_neg h,if_neg h]
theorem errK_many{ks:List Ky}{i:Nat}{k:Ky}(hk:ks[i]?=some k)(hi:20≤i):errK (ks.take i) k=8:=by
 have hl:(ks.take i).length=i:=by have:=(List.getElem?_eq_some_iff.1 hk).1;rw[List.length_take];omega
 unfold errK;rw[hl,if_pos hi]
structure Ref (ks:List Ky) (w:World) (ov iv:Value) (i:Nat) (wr:World) (O:ByteArray):Prop where
 le:i≤ks.length
 iv:iv=.int .i64 (i:Int)
 ov:ov=.string O
 out:O.data.toList=outK (ks.take i)
 bel:Below w.heap.size w wr
 so:prS [] ks=prS (ks.take i) (ks.drop i)
 few:i≤20
 ok:∀k∈ks.take i,keyErr k.alg k.kid k.key=0
theorem outK_len{ks:List Ky}(h:∀k∈ks,keyErr k.alg k.kid k.key=0):(outK ks).length≤9+401*ks.length:=by
 have:=join_len (ks.map objL) (fun l hl=>by obtain⟨k,hk,rfl⟩:=List.mem_map.1 hl;exact objL_len (h k hk));unfold outK headK;simp at this ⊢;omega
set_option maxRecDepth 10000 in
set_option maxHeartbeats 2000000 in
theorem rprintK(x:Value)(ks:List Ky)(w:World)(hx:KR w x ks)(hl:ks.length≤140737488355328)(hb:∀k∈ks,k.kid.size≤4611686018427387904∧k.key.size≤4611686018427387904):Calls Tryd.prog 7 #[x] w fun r w'=>r=.returned (.tuple #[.string ⟨(prT ks).1.toArray⟩,.int .i64 (prT ks).2.1,.int .i64 ((prT ks).2.2:Int)])∧Below w.heap.size w w':=by
 have HK:=thid hx;obtain⟨ad,cap,rfl,hlc,hx⟩:=hx;have HX:=thid hx;have HZ:=thid hb;have hp:Hid (prT ks=match prS [] ks with|none=>(textK ks,0,0)|some (e,i)=>([],e,i)):=by unfold prT;exact rfl
 clear hx hb;generalize prT ks=T at *;go_enter Tryd.func7,Tryd.ntmps7;go_wp2_with fail
 go_loopw [5,6] (fun ov iv wr=>∃(i:Nat) (O:ByteArray),Ref ks w ov iv i wr O) (fun _ iv _=>ks.length-(intOf iv).toNat)
 case atStart=>exact⟨0,⟨#[123,34,107,101,121,115,34,58,91]⟩,⟨Nat.zero_le _,rfl,rfl,rfl,Below.refl _ _,rfl,by omega,fun k hk=>by simp at hk⟩⟩
 case round=>
  obtain⟨i,O,hP⟩:=hrel;obtain rfl:=hP.iv;obtain rfl:=hP.ov;have HP:=thid hP;have hle:=hP.le;have hfew:=hP.few;have hwsz:=hP.bel.size;have hOs:O.size≤10000:=by
   have h1:=outK_len hP.ok;rw[←hP.out]at h1;have h2:(ks.take i).length≤20:=by rw[List.length_take];omega
   have h3:O.data.toList.length=O.size:=by simp
   omega
  clear hP;by_cases hlt:i<ks.length
  ·have k1:(i:Int)<(ks.length:Int):=by omega
   obtain⟨k,hk⟩:∃k,ks[i]?=some k:=⟨_,List.getElem?_eq_getElem hlt⟩;obtain⟨g,off,rfl,a0,a1,a2⟩:=HX.out i k hk;have c0:=tcell_kp HP.out.bel a0;have c1:=tcell_kp HP.out.bel a1;have c2:=tcell_kp HP.out.bel a2;have ht:ks.take (i+1)=ks.take i++[k]:=by rw[List.take_add_one,hk];rfl
   have hso:=prS_at ks i k hk;have hkm:k∈ks:=List.mem_of_getElem? hk;have HT:=thid ht;have HSo:=thid hso;have hzz:=HZ.out k hkm;by_cases hmany:20≤i
   ·have k3:(20:Int)≤(i:Int):=by omega
    have he:=errK_many hk hmany;have hso2:=HSo.out;rw[he,if_neg (by omega)]at hso2;have HSo2:=thid hso2;clear ht hso hk a0 a1 a2 hkm he hso2;go_wp2_with fail
    go_ret3
    refine⟨?_,HP.out.bel⟩;rw[hp.out,HP.out.so,HSo2.out];rfl
   ·have k3:¬(20:Int)≤(i:Int):=by omega
    have he:=errK_of hk (by omega);have HE:=thid he;have hwk:=fun w1=>rwrong k.alg k.kid k.key w1 hzz.1 hzz.2
    have hfd:=fun w1 (b1:Below w.heap.size w w1)=>rfind _ ks k.kid w1 (HK.out.below b1) hl
    have HW:=thid hwk;have HF:=thid hfd;clear ht hso hk a0 a1 a2 hkm he hwk hfd;have hwr:=fun n=>HW.out (wr.drewN n)
    go_wp2_with fail
    go_quiet ((go_at_call 15;exact Calls.quiet_of_same (HW.out _)));have HBq:Hid (Below w.heap.size w (wr.drewN nq)):=⟨HP.out.bel.os,HP.out.bel.tape,HP.out.bel.output,HP.out.bel.size,HP.out.bel.block⟩;by_cases hke:keyErr k.alg k.kid k.key=0
    ·have he2:=HE.out
     rw[if_pos hke]at he2;have HE2:=thid he2;have HKe:=thid hke;rw[hke];obtain⟨s1,s2,s3,s4⟩:=key_small hke;have hnm:=fun w1 (b1:Below w.heap.size w w1)=>rname k.alg w1 s1
     have hen:=fun w1=>rencode_any k.key w1 (by omega)
     have hns:(nameB k.alg).size≤5:=by rcases s1 with h|h|h<;>rw[h]<;>decide
     obtain⟨E,hE⟩:∃E:ByteArray,E=⟨(enc (dB k.key) k.key.size).toArray⟩:=⟨_,rfl⟩;rw[←hE]at hen;have hEs:E.size≤1000:=by rw[hE];show(enc (dB k.key) k.key.size).toArray.size≤1000;rw[List.size_toArray,enc_length];omega
     have HObj:Hid (objL k=[123,34,97,108,103,34,58,34]++((nameB k.alg).data.toList++([34,44,34,107,34,58,34]++(E.data.toList++([34,44,34,107,105,100,34,58,34]++(k.kid.data.toList++[34,44,34,107,116,121,34,58,34,111,99,116,34,125])))))):=by rw[hE];exact rfl
     have HNm:=thid hnm;have HEn:=thid hen;have d0:(wr.drewN nq).cell? ⟨g,off+i*3,none⟩=some (.int .i64 k.alg):=by simpa using c0
     have d1:(wr.drewN nq).cell? ⟨g,off+i*3+1,none⟩=some (.string k.kid):=by simpa using c1
     have d2:(wr.drewN nq).cell? ⟨g,off+i*3+2,none⟩=some (.string k.key):=by simpa using c2
     clear hke he2 hwr hnm hen hE s1;generalize nameB k.alg=nm at *;go_wp2_with fail
     refine(HF.out _ HBq.out).mono ?_;rintro r w2 ⟨rfl,hw⟩;rw[hw];clear hw w2;by_cases hf:findK k.kid ks 0<(i:Int)
     ·have he3:=HE2.out
      rw[if_pos hf]at he3;have hso2:=HSo.out;rw[he3,if_neg (by omega)]at hso2;have HSo2:=thid hso2;clear he3 hso2 c0 c1 c2;go_wp2_with fail
      go_ret3
      refine⟨?_,HBq.out⟩;rw[hp.out,HP.out.so,HSo2.out];rfl
     ·have he3:=HE2.out
      rw[if_neg hf]at he3;have hso2:=HSo.out;rw[if_pos he3]at hso2;have HSo2:=thid hso2;clear he3 hso2 c0 c1 c2;by_cases hi0:i=0
      ·have HComma:Hid ((if ks.take i=[]then []else [(44:UInt8)])=[]):=if_pos (by rw[hi0];rfl)
       have k4:¬(0:Int)<(i:Int):=by omega
       have HI0:=thid hi0;clear hi0;go_wp2_with fail
       refine(HNm.out _ HBq.out).mono ?_;rintro r w2 ⟨rfl,hb2⟩;have e0:=tcell_kp hb2 d0;have e1:=tcell_kp hb2 d1;have e2:=tcell_kp hb2 d2;have HB2:=thid (HBq.out.trans (hb2.mono HBq.out.size));clear hb2 d0 d1 d2;go_wp2_with fail
       refine(HEn.out _).mono ?_;rintro r w3 ⟨rfl,hb3⟩;have f0:=tcell_kp hb3 e0;have f1:=tcell_kp hb3 e1;have f2:=tcell_kp hb3 e2;have HB3:=thid (HB2.out.trans (hb3.mono HB2.out.size));clear hb3 e0 e1 e2;go_wp2_with fail
       go_roundw
       case rel=>exact⟨i+1,_,⟨by omega,by go_num,rfl,by rw[HT.out,outK_step,HObj.out,HComma.out,←HP.out.out];simp,HB3.out,by rw[HP.out.so,HSo2.out],by omega,fun k' hk'=>by
        rw[HT.out]at hk';rcases List.mem_append.1 hk' with h|h
        ·exact HP.out.ok k' h
        ·rw[List.mem_singleton.1 h];exact HKe.out⟩⟩
       case measure=>simp[intOf];omega
      ·have HComma:Hid ((if ks.take i=[]then []else [(44:UInt8)])=[44]):=if_neg (fun h=>by have:=congrArg List.length h;rw[List.length_take,List.length_nil]at this;omega)
       have k4:(0:Int)<(i:Int):=by omega
       have HI0:=thid hi0;clear hi0;go_wp2_with fail
       refine(HNm.out _ HBq.out).mono ?_;rintro r w2 ⟨rfl,hb2⟩;have e0:=tcell_kp hb2 d0;have e1:=tcell_kp hb2 d1;have e2:=tcell_kp hb2 d2;have HB2:=thid (HBq.out.trans (hb2.mono HBq.out.size));clear hb2 d0 d1 d2;go_wp2_with fail
       refine(HEn.out _).mono ?_;rintro r w3 ⟨rfl,hb3⟩;have f0:=tcell_kp hb3 e0;have f1:=tcell_kp hb3 e1;have f2:=tcell_kp hb3 e2;have HB3:=thid (HB2.out.trans (hb3.mono HB2.out.size));clear hb3 e0 e1 e2;go_wp2_with fail
       go_roundw
       case rel=>exact⟨i+1,_,⟨by omega,by go_num,rfl,by rw[HT.out,outK_step,HObj.out,HComma.out,←HP.out.out];simp,HB3.out,by rw[HP.out.so,HSo2.out],by omega,fun k' hk'=>by
        rw[HT.out]at hk';rcases List.mem_append.1 hk' with h|h
        ·exact HP.out.ok k' h
        ·rw[List.mem_singleton.1 h];exact HKe.out⟩⟩
       case measure=>simp[intOf];omega
    ·have he2:=HE.out
     rw[if_neg hke]at he2;have hso2:=HSo.out;rw[he2,if_neg hke]at hso2;have HSo2:=thid hso2;have e1:(keyErr k.alg k.kid k.key==0)=false:=by simp[hke]
     have e2:(keyErr k.alg k.kid k.key != 0)=true:=by simp[hke]
     clear hke he2 hso2 hwr;generalize keyErr k.alg k.kid k.key=q at *;go_wp2_with fail
     go_ret3
     refine⟨?_,HBq.out⟩;rw[hp.out,HP.out.so,HSo2.out];rfl
  ·have k1:¬(i:Int)<(ks.length:Int):=by omega
   obtain rfl:i=ks.length:=by omega
   have hso:=HP.out.so;have hout:=HP.out.out;rw[List.take_length]at hout;rw[List.take_length,List.drop_length]at hso;have hso':prS [] ks=none:=hso.trans rfl;have HT:=hp.out;rw[hso']at HT;have HT2:=thid HT;have HBl:=thid HP.out.bel;have HOut:=thid hout;clear hso hso' HT hout HP;go_wp2;go_ret3
   refine⟨?_,HBl.out⟩;rw[HT2.out];refine str3 ?_ rfl rfl;have:textK ks=outK ks++[93,125]:=rfl;rw[this,←HOut.out];simp
end Go.Proofs.YtfhjjbgjoclanaeDoor
