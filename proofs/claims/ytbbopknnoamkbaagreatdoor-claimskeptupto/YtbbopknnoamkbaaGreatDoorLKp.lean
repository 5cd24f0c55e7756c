import Derived.Test.YtbbopknnoamkbaaGreatDoorDMv
import Derived.Test.YtbbopknnoamkbaaGreatDoorQKp
import Derived.Test.YtbbopknnoamkbaaGreatDoorA5
import Derived.BigQuiet
import Derived.BigRegion
namespace Go.Proofs.YtbbopknnoamkbaaGreatDoor
open Go.RowKit
set_option linter.unusedVariables false
set_option linter.unusedSimpArgs false
theorem lalikeK(x y:Value)(L M:List Nd)(hwL:WFN L)(hwM:WFN M):∀(f:Nat) (t u:JT) (i k:Nat) (key:List UInt8) (w:World),t.size≤f→Sub L i key t→Sub M k key u→Al t u→RR 42 x L w→RR 42 y M w→Calls Tryz.prog 22 #[x,.int .i64 (i:Int),y,.int .i64 (k:Int)] w fun r w'=>r=.returned (.bool true)∧Below w.heap.size w w':=by
 intro f;induction f with
 | zero=>intro t u i k key w h;have:=size_pos t;omega
 | succ f ih=>
   intro t u i k key w hf hL hM hA hx hy;obtain⟨a,b,ha,hb,hp⟩:=alk_pair L M (AlkAt x y w) t u i k key hL hM hA (fun p q key' t' u' s1 s2 a2 hlt w' hb'=>ih t' u' p q key' w' (by omega) s1 s2 a2 (hx.below hb') (hy.below hb'));exact lalike1 x y L M w hx hy hwL hwM i k a b ha hb hp
theorem flat_allK(t:JT)(c:Nat):(allK (flat 0 [] t)).count c=if 0<c∧c<(flat 0 [] t).length then 1 else 0:=by
 rw[flat_cnt,flat_length,Nat.zero_add]
structure KP (x y:Value) (L M:List Nd) (kl km:List Nat):Prop where
 wl:WFN L
 wm:WFN M
 l0:∃n0,L[0]?=some n0∧n0.kids=kl
 m0:∃n0,M[0]?=some n0∧n0.kids=km
 len:km.length=kl.length+4
 one:∀(j c:Nat),kl[j]?=some c→∃(y0 d:Nat),km[y0]?=some d∧keyL M d=keyL L c∧(∀(y' d':Nat),km[y']?=some d'→keyL M d'=keyL L c→y'=y0)∧(∀w,RR 42 x L w→RR 42 y M w→Calls Tryz.prog 22 #[x,.int .i64 (c:Int),y,.int .i64 (d:Int)] w fun r w'=>r=.returned (.bool true)∧Below w.heap.size w w')
theorem kp_of{s T:List UInt8}{ms us:List (List UInt8×JT)}{i:Nat}(x y:Value)(hs:readL s=.ok (.obj ms i))(hT:readL T=.ok (.obj us 0))(hlen:us.length=ms.length+4)(h:∀(j:Nat) (n:List UInt8) (t:JT),ms[j]?=some (n,t)→∃(y:Nat) (u:JT),us[y]?=some (n,u)∧Al t u∧∀(y':Nat) (u':JT),us[y']?=some (n,u')→y'=y):KP x y (flat 0 [] (.obj ms i)) (flat 0 [] (.obj us 0)) (startsM 1 ms) (startsM 1 us):=by
 have hL:=(read_fit hs).1;have hM:=(read_fit hT).1;have sL:SubM (flat 0 [] (.obj ms i)) 1 ms:=Sub.obj (i:=i) (key:=[]) (fun j hj=>by rw[Nat.zero_add]);have sM:SubM (flat 0 [] (.obj us 0)) 1 us:=Sub.obj (i:=0) (key:=[]) (fun j hj=>by rw[Nat.zero_add]);refine⟨hL,hM,⟨_,by rw[flat];rfl,rfl⟩,⟨_,by rw[flat];rfl,rfl⟩,by rw[startsM_len,startsM_len,hlen],fun j c hj=>?_⟩;obtain⟨n,t,e1,s1⟩:=subM_get _ ms 1 sL j c hj;obtain⟨y0,u,e2,ha,huq⟩:=h j n t e1;have hyl:y0<(startsM 1 us).length:=by rw[startsM_len];exact(List.getElem?_eq_some_iff.1 e2).1
 obtain⟨d,hd⟩:∃d,(startsM 1 us)[y0]?=some d:=⟨_,List.getElem?_eq_getElem hyl⟩;obtain⟨n',u',e3,s3⟩:=subM_get _ us 1 sM y0 d hd;rw[e2]at e3;injection e3 with e3;injection e3 with e4 e5;subst e4 e5;refine⟨y0,d,hd,by rw[s3.key,s1.key],fun y' d' hy' hk=>?_,fun w hx hy=>lalikeK x y _ _ hL hM t.size t u c d n w (Nat.le_refl _) s1 s3 ha hx hy⟩;obtain⟨n2,u2,e6,s6⟩:=subM_get _ us 1 sM y' d' hy';rw[s6.key,s1.key]at hk;subst hk;exact huq y' u2 e6
set_option maxRecDepth 10000 in
set_option maxHeartbeats 8000000 in
theorem lkept(s:ByteArray)(il:List UInt8)(a ttl:Int)(w:World)(hg:9≤w.heap.size)(hG:GV w)(htab:Lib.TabBelow Tryz.prog w.heap.size w "internal/strconv.uint64pow10" .u64 Lib.pow10Tab)(hs:s.size≤140737488351232)(hil:il.length≤1048576)(ha0: -9223372036854775808≤a)(ha1:a≤9223372036854775807)(ht0: -9223372036854775808≤ttl)(ht1:ttl≤9223372036854775807):Calls Tryz.prog 14 #[.string s,.string ⟨il.toArray⟩,.int .i64 a,.int .i64 ttl] w fun r w'=>r=.returned (.bool true)∧Below w.heap.size w w':=by
 have hc:=cmake s il a ttl w hg hG htab hil ha0 ha1 ht0 ht1;have hr:=fun w1=>rmake s il a ttl w1 hs hil ha0 ha1 ht0 ht1
 have hkp:∀T p,mkR s.data.toList il a ttl=(T,0,p)→∃t1 t2 kl km,readL s.data.toList=.ok t1∧readL T=.ok t2∧∀x y,KP x y (flat 0 [] t1) (flat 0 [] t2) kl km:=fun T p h=>by
  obtain⟨ms,i,us,h1,h2,h3,h4⟩:=kept h;exact⟨_,_,_,_,h1,h2,fun x y=>kp_of x y h1 h2 h3 h4⟩
 generalize mkR s.data.toList il a ttl=R at hc hr hkp;obtain⟨R1,R2,R3⟩:=R;have hpa:=fun(x:ByteArray) w1 (hb:Below w.heap.size w w1)=>cparse_nd x w1 (by have:=hb.size;omega) (hG.kept fun k hk=>hb.block k (by omega))
 have HC:=dhid hc;have HR:=dhid hr;have HPA:=dhid hpa;have HKP:=dhid (hkp R1 R3);clear hc hr htab hG hkp hpa;go_enter Tryz.func14,Tryz.ntmps14;go_wp2_with fail
 refine HC.out.mono ?_;rintro r w1 ⟨rfl,hb1⟩;have HB1:=dhid hb1;clear hb1 HC;go_wp2_with fail
 refine(HR.out w1).mono ?_;rintro r w2 ⟨rfl,hb2⟩;have HB2:=dhid (HB1.out.trans (hb2.mono HB1.out.size));clear hb2 HR HB1;go_wp2_with fail
 refine(lnumC R2 w2).mono ?_;rintro r w3 ⟨rfl,hw3⟩;rw[hw3];clear hw3 w3;by_cases h0:R2=0
 ·subst h0
  obtain⟨t1,t2,kl,km,e1,e2,hK⟩:=HKP.out rfl;have hp1:=HPA.out s w2 HB2.out;simp only[e1]at hp1;have hz1:=flat_allK t1;have hz2:=flat_allK t2;have hq1:0<(flat 0 [] t1).length:=by rw[flat_length];exact size_pos t1
  have hq2:0<(flat 0 [] t2).length:=by rw[flat_length];exact size_pos t2
  have hp2:=fun w4 hb=>HPA.out ⟨R1.toArray⟩ w4 hb
  have el:(⟨R1.toArray⟩:ByteArray).data.toList=R1:=by simp
  rw[el]at hp2;simp only[e2]at hp2;generalize flat 0 [] t1=L at *;generalize flat 0 [] t2=M at *;have HP1:=dhid hp1;have HP2:=dhid hp2;have HZ:=dhid (And.intro hz1 hz2);have HK:=dhid hK;clear hp1 hp2 hz1 hz2 hK e1 e2 el HKP HPA;go_wp2_with fail
  refine HP1.out.mono ?_;rintro r w3 ⟨⟨v,rfl,hx⟩,hb3⟩;have HB3:=dhid (HB2.out.trans (hb3.mono HB2.out.size));obtain⟨ad1,cap1,rfl⟩:=hx.shape;have HX:=dhid hx;clear hb3 hx HP1 HB2;go_wp2_with fail
  refine(HP2.out w3 HB3.out).mono ?_;rintro r w4 ⟨⟨v2,rfl,hy⟩,hb4⟩;have HB4:=dhid (HB3.out.trans (hb4.mono HB3.out.size));obtain⟨ad2,cap2,rfl⟩:=hy.shape;have HX4:=dhid (HX.out.below hb4);have HY4:=dhid hy;clear hb4 hy HP2 HB3 HX;go_wp2_with fail
  refine(lnumC 0 w4).mono ?_;rintro r w5 ⟨rfl,hw5⟩;rw[hw5];clear hw5 w5;go_wp2_with fail
  refine(lnumC 0 w4).mono ?_;rintro r w5 ⟨rfl,hw5⟩;rw[hw5];clear hw5 w5;have u1:¬((L.length:Int)=0):=by omega
  have u2:¬((M.length:Int)=0):=by omega
  have u3:((L.length:Int)==0)=false:=beq_eq_false_iff_ne.2 u1;have u4:((M.length:Int)==0)=false:=beq_eq_false_iff_ne.2 u2;go_wp2_with fail
  refine(lgrown (.slice ad1 L.length cap1) L w4 HX4.out (HK.out (.slice ad1 L.length cap1) (.slice ad2 M.length cap2)).wl hq1 HZ.out.1).mono ?_;rintro r w5 ⟨rfl,hb5⟩;have HB5:=dhid (HB4.out.trans (hb5.mono HB4.out.size));have HX5:=dhid (HX4.out.below hb5);have HY5:=dhid (HY4.out.below hb5);clear hb5 HX4 HY4 HB4;go_wp2_with fail
  refine(lgrown (.slice ad2 M.length cap2) M w5 HY5.out (HK.out (.slice ad1 L.length cap1) (.slice ad2 M.length cap2)).wm hq2 HZ.out.2).mono ?_;rintro r w6 ⟨rfl,hb6⟩;have HB6:=dhid (HB5.out.trans (hb6.mono HB5.out.size));have hx6:=HX5.out.below hb6;have hy6:=HY5.out.below hb6;have hkp:=HK.out (.slice ad1 L.length cap1) (.slice ad2 M.length cap2);obtain⟨nl,hnl,ekl⟩:=hkp.l0;obtain⟨nm,hnm,ekm⟩:=hkp.m0;have hkle:=hkp.len;have hfl:=hkp.wl.few 0 nl hnl;have hfm:=hkp.wm.few 0 nm hnm;have hll:=hkp.wl.len;have hml:=hkp.wm.len;rw[ekl]at hfl;rw[ekm]at hfm;obtain⟨g1,adk1,capk1,rfl,_,_,hkc1,a0,_,_,_,a4,_⟩:=hx6.node hnl;obtain⟨g2,adk2,capk2,rfl,_,_,hkc2,b0,_,_,_,b4,_⟩:=hy6.node hnm;rw[Nat.zero_mul,Nat.zero_add,ekl]at a4;rw[Nat.zero_mul,Nat.zero_add,ekm]at b4;rw[ekl]at hkc1;rw[ekm]at hkc2;have hkl:=hkp.wl.kids 0 nl hnl;have hkm:=hkp.wm.kids 0 nm hnm;rw[ekl]at hkl;rw[ekm]at hkm;have HKC:=dhid (And.intro hkc1 hkc2);have HKI:=dhid (And.intro hkl hkm);have HX6:=dhid hx6;have HY6:=dhid hy6;have HKP:=dhid hkp;have HA4:=dhid a4;have HB4:=dhid b4;have hq1':(0:Int)<(L.length:Int):=by omega
  have hq2':(0:Int)<(M.length:Int):=by omega
  have hle:((km.length:Int))=(kl.length:Int)+4:=by omega
  have HLE:=dhid hkle;clear hb6 HX5 HY5 HB5 hx6 hy6 hkp hnl hnm ekl ekm hkc1 hkc2 a0 b0 hkl hkm HK HZ hkle;go_wp2_with fail
  go_quiet (fail);rename_i nq;generalize hW:w6.drewN nq=W at *;have HW:Hid (Below w6.heap.size w6 W):=by rw[←hW];exact dbN (Below.refl _ _) nq
  clear hW;clear a4 b4 hle u1 u2 u3 u4;go_wp2_with fail
  go_loopw [23] (fun iv wr=>∃i:Nat,i≤kl.length∧iv=.int .i64 (i:Int)∧Below w6.heap.size w6 wr) (fun iv _=>kl.length-(intOf iv).toNat)
  case atStart=>exact⟨0,by omega,rfl,HW.out⟩
  case round=>
   obtain⟨i,hi,rfl,hb⟩:=hrel;have HBr:=dhid hb;have a4:=cell_kp hb HA4.out;by_cases hlt:i<kl.length
   ·have k1:(i:Int)<(kl.length:Int):=by omega
    have k1b:(i:Int)≤1000000:=by omega
    obtain⟨c,hc⟩:∃c,kl[i]?=some c:=⟨_,List.getElem?_eq_getElem hlt⟩;obtain⟨gk1,rfl,ck0⟩:=HKC.out.1 i c hc;have hcb:=HKI.out.1 c (List.mem_of_getElem? hc);obtain⟨nc,hnc⟩:∃nc,L[c]?=some nc:=⟨_,List.getElem?_eq_getElem hcb.2⟩;obtain⟨y0,d,hd,hkey,huq,hcall⟩:=HKP.out.one i c hc;have hy0:y0<km.length:=(List.getElem?_eq_some_iff.1 hd).1;have HCK:=dhid ck0;have HCL:=dhid hcall;have HUQ:=dhid (And.intro hd (And.intro hkey huq));have HNC:=dhid hnc;have kc:(c:Int)<(L.length:Int):=by omega
    clear hc ck0 hcall hd hkey huq hnc;go_wp2_with fail
    clear a4;go_loopw [24,25] (fun fv kv wx=>∃(k:Nat) (b:Bool),k≤km.length∧kv=.int .i64 (k:Int)∧fv=.bool b∧b=decide (y0<k)∧Below w6.heap.size w6 wx) (fun _ kv _=>km.length-(intOf kv).toNat)
    case atStart=>exact⟨0,false,by omega,rfl,rfl,by simp,HBr.out⟩
    case round=>
     obtain⟨k,b,hk,rfl,rfl,hbk,hb2⟩:=hrel;have HBx:=dhid hb2;have a4:=cell_kp hb2 HA4.out;have b4:=cell_kp hb2 HB4.out;have ck:=cell_kp hb2 HCK.out;by_cases hlt2:k<km.length
     ·have k2:(k:Int)<(km.length:Int):=by omega
      have k2b:(k:Int)≤1000000:=by omega
      obtain⟨d',hd'⟩:∃d',km[k]?=some d':=⟨_,List.getElem?_eq_getElem hlt2⟩;obtain⟨gk2,rfl,dk0⟩:=HKC.out.2 k d' hd';have dk:=cell_kp hb2 dk0;have hdb:=HKI.out.2 d' (List.mem_of_getElem? hd');obtain⟨nd',hnd⟩:∃n,M[d']?=some n:=⟨_,List.getElem?_eq_getElem hdb.2⟩;have kd:(d':Int)<(M.length:Int):=by omega
      have hxr:=HX6.out.below hb2;have hyr:=HY6.out.below hb2;have p1:=(hxr.cs HNC.out).2.1;have p2:=(hyr.cs hnd).2.1;have eL:keyL L c=nc.key:=keyL_of HNC.out;have eM:keyL M d'=nd'.key:=keyL_of hnd;by_cases hky:k=y0
      ·have hdd:d'=d:=by
        have h9:=HUQ.out.1;rw[←hky,hd']at h9;injection h9
       have hkeq:nd'.key=nc.key:=by rw[←eM,←eL,hdd];exact HUQ.out.2.1
       rw[hkeq]at p2;have hcl:=fun w' (hb':Below wr.heap.size wr w')=>HCL.out w' (hxr.below hb') (hyr.below hb')
       rw[←hdd]at hcl;have HCQ:=dhid hcl;have HYK:=dhid hky;clear hcl hxr hyr eL eM hdd hkeq hnd dk0 hd' hb2 hky hbk;go_wp2_with fail
       go_quiet (fail);have hcall2:=HCQ.out (wr.drewN nq).drew (dbN (Below.refl _ _) nq).drew;clear HCQ;go_wp2_with fail
       go_region_with (go_at_call 22;refine hcall2.mono ?_;rintro e w3 ⟨rfl,hb3⟩;have HB7:Hid (Below w6.heap.size w6 w3):=(dbN HBx.out nq).drew.trans (hb3.mono (dbN HBx.out nq).drew.size);clear hb3)
       all_goals go_wp2_with fail
       all_goals (
        go_roundw
        case rel=>exact⟨k+1,true,by omega,by go_num,rfl,(decide_eq_true (by have:=HYK.out;omega)).symm,HB7.out⟩
        case measure=>simp[intOf];omega)
      ·have hne:(nd'.key==nc.key)=false:=beq_eq_false_iff_ne.2 (fun e=>hky (HUQ.out.2.2 k d' hd' (by rw[eM,eL,e])))
       have HBK:Hid (b=decide (y0<k+1)):=dhid (by rw[hbk];exact decide_eq_decide.2 (by omega));clear hxr hyr eL eM hnd dk0 hd' hb2 hbk;go_wp2_with fail
       go_quiet (fail);go_wp2_with fail
       go_roundw
       case rel=>exact⟨k+1,b,by omega,by go_num,rfl,HBK.out,dbN HBx.out _⟩
       case measure=>simp[intOf];omega
     ·have k2:¬(k:Int)<(km.length:Int):=by omega
      obtain rfl:b=true:=by rw[hbk];exact decide_eq_true (by omega)
      clear hbk hb2 ck;go_wp2_with fail
      refine⟨⟨i+1,by omega,by go_num,HBx.out⟩,?_⟩;simp[intOf];omega
   ·have k1:¬(i:Int)<(kl.length:Int):=by omega
    have HBz:Hid (Below w.heap.size w wr):=HB6.out.trans (hb.mono HB6.out.size);clear hb;go_wp2_with fail
    go_ret;exact⟨rfl,HBz.out⟩
 ·have k1:(R2 != 0)=true:=by simp[h0]
  go_wp2_with fail
  refine(lnumC R2 w2).mono ?_;rintro r w5 ⟨rfl,hw5⟩;rw[hw5];clear hw5 w5;go_wp2_with fail
  go_ret;exact⟨rfl,HB2.out⟩
end Go.Proofs.YtbbopknnoamkbaaGreatDoor
