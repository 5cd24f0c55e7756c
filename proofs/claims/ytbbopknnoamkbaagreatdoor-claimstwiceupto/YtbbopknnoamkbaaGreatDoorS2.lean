import Derived.Test.YtbbopknnoamkbaaGreatDoorX5
import Derived.Test.YtbbopknnoamkbaaGreatDoorM1
import Derived.Test.YtbbopknnoamkbaaGreatDoorD0
import Derived.Test.YtbbopknnoamkbaaGreatDoorDRfs
import Derived.Test.YtbbopknnoamkbaaGreatDoorDPar
import Derived.Test.YtbbopknnoamkbaaGreatDoorShelfV
import Derived.Shelf.Unicode.ValidAny
set_option maxHeartbeats 4000000
set_option maxRecDepth 4000
namespace Go.Proofs.YtbbopknnoamkbaaGreatDoor
open Go.RowKit
set_option linter.unusedVariables false
theorem cquote(s:ByteArray)(hs:s.size≤100000000)(w:World):Calls Tryz.prog 104 #[.string s] w fun r w'=>r=.returned (.string ⟨(strT s.data.toList).toArray⟩)∧Below w.heap.size w w':=by
 have hZ:WZ w.heap.size (.slice none 0 0) (.slice none 0 0) [] (w.alloc (.cells #[.slice none 0 0,.slice none 0 0] 109)):=⟨heap_alloc_new w _,⟨rfl,.inl ⟨rfl,rfl⟩⟩⟩;have hwf:=wstring _ _ _ _ _ s hs (by simp only[List.length_nil];omega) hZ;rw[List.nil_append]at hwf;have HWF:=Lib.hid hwf;clear hZ hwf;go_enter Tryz.func104,Tryz.ntmps104;go_wp2_with fail
 refine HWF.out.mono ?_;rintro r w3 ⟨rfl,v3,z3,ch3⟩;have q1:=z3.wd.cell.2.1;have hs3:=(OwnZ.of rfl z3.row).b.str (P:=Tryz.prog) (t:=78) (d:=9) Tryz.underlying78 Tryz.underlying5 Tryz.underlying9;have HB3:Hid (Below w.heap.size w w3):=by
  have hs4:=ch3.size;simp at hs4;refine⟨ch3.os,ch3.tape,ch3.output,by omega,fun k hk=>?_⟩;rw[ch3.block k (by simp;omega) (by omega) (fun hx=>by
   rcases hx with hx|⟨_,hm,_⟩
   ·simp[Value.ownBlock]at hx
   ·simp at hm),heap_alloc_old _ _ (by omega)]
 obtain⟨ad3,cap3,rfl⟩:=z3.shape;clear z3 ch3 HWF;go_wp2;go_ret;exact⟨rfl,HB3.out⟩
theorem trim_last(pre:List UInt8):Lib.trimSuffix (pre++[125]) [125]=pre:=by
 unfold Lib.trimSuffix Lib.hasSuffix;rw[if_pos (by simp[List.isSuffixOf_iff_suffix])];simp
theorem cseal(s:ByteArray)(il:List UInt8)(a ttl:Int)(w:World)(hg:9≤w.heap.size)(hG:GV w)(htab:Lib.TabBelow Tryz.prog w.heap.size w "internal/strconv.uint64pow10" .u64 Lib.pow10Tab)(t:JT)(hR:readL s.data.toList=.ok t)(pre:List UInt8)(hpre:fmT t=pre++[125])(hil:il.length≤1048576)(h0:0≤a)(h1:1≤ttl)(h2:a+ttl≤9007199254740991):Calls Tryz.prog 64 #[.string s,.string ⟨il.toArray⟩,.int .i64 a,.int .i64 ttl] w fun r w'=>r=.returned (.tuple #[.string ⟨(prF (readL (pre++fourT il a (a+ttl)++[125]))).1.toArray⟩,.int .i64 ((prF (readL (pre++fourT il a (a+ttl)++[125]))).2.1:Int),.int .i64 ((prF (readL (pre++fourT il a (a+ttl)++[125]))).2.2:Int)])∧Below w.heap.size w w':=by
 have hfl:=(readL_fit hR);have hp0:=cprint s w hg hG htab;rw[hR,prF_form,hpre]at hp0;have hpl:pre.length≤65536:=by have h:=hfl.1;rw[hpre,List.length_append,List.length_cons,List.length_nil]at h;have:=hfl.2.2.2;omega
 obtain⟨P0,hP0,hP0s⟩:∃x:ByteArray,x=⟨(pre++[125]).toArray⟩∧x.size=pre.length+1:=⟨_,rfl,by show(pre++[125]).toArray.size=_;simp⟩;obtain⟨P,hP,hPs⟩:∃x:ByteArray,x=⟨pre.toArray⟩∧x.size=pre.length:=⟨_,rfl,by show pre.toArray.size=_;simp⟩;have htr:=fun w1=>Tryz.strings_TrimSuffix P0 ⟨#[125]⟩ w1 (by omega)
 have etr:(⟨(Lib.trimSuffix P0.data.toList (⟨#[125]⟩:ByteArray).data.toList).toArray⟩:ByteArray)=P:=by rw[hP0,hP];show(⟨(Lib.trimSuffix (pre++[125]) [125]).toArray⟩:ByteArray)=_;rw[trim_last]
 rw[etr]at htr;have hql:=strT_len il;obtain⟨Q,hQ,hQs⟩:∃x:ByteArray,x=⟨(strT il).toArray⟩∧x.size=(strT il).length:=⟨_,rfl,by show(strT il).toArray.size=_;simp⟩;have hqu:=fun w1=>cquote ⟨il.toArray⟩ (by show il.toArray.size≤_;simp;omega) w1
 have eil:(⟨il.toArray⟩:ByteArray).data.toList=il:=by simp
 rw[eil,←hQ]at hqu;have d1l:=decI_len a (by omega) (by omega);have d2l:=decI_len (a+ttl) (by omega) (by omega);obtain⟨D1,hD1,hD1s⟩:∃x:ByteArray,x=⟨(decI a).toArray⟩∧x.size=(decI a).length:=⟨_,rfl,by show(decI a).toArray.size=_;simp⟩;obtain⟨D2,hD2,hD2s⟩:∃x:ByteArray,x=⟨(decI (a+ttl)).toArray⟩∧x.size=(decI (a+ttl)).length:=⟨_,rfl,by show(decI (a+ttl)).toArray.size=_;simp⟩;have hi1:=fun w1 (hb:Below w.heap.size w w1)=>Tryz.strconv_Itoa a (by omega) (by omega) w1 (htab w1 hb)
 have hi2:=fun w1 (hb:Below w.heap.size w w1)=>Tryz.strconv_Itoa (a+ttl) (by omega) (by omega) w1 (htab w1 hb)
 rw[←decI_eq,←hD1]at hi1;rw[←decI_eq,←hD2]at hi2;have hp2:=fun w1 (hb:Below w.heap.size w w1)=>cprint (P++⟨#[44,34,105,115,115,34,58]⟩++Q++⟨#[44,34,105,97,116,34,58]⟩++D1++⟨#[44,34,110,98,102,34,58]⟩++D1++⟨#[44,34,101,120,112,34,58]⟩++D2++⟨#[125]⟩) w1 (by have:=hb.size;omega) (hG.kept fun k hk=>hb.block k (by omega)) (fun w2 hb2=>htab w2 (hb.trans (hb2.mono hb.size)))
 have ex:(P++⟨#[44,34,105,115,115,34,58]⟩++Q++⟨#[44,34,105,97,116,34,58]⟩++D1++⟨#[44,34,110,98,102,34,58]⟩++D1++⟨#[44,34,101,120,112,34,58]⟩++D2++⟨#[125]⟩:ByteArray).data.toList=pre++fourT il a (a+ttl)++[125]:=by
  rw[hP,hQ,hD1,hD2];simp[fourT]
 rw[ex]at hp2;generalize prF (readL (pre++fourT il a (a+ttl)++[125]))=R at *;rw[←hP0]at hp0;have HP0:=Lib.hid hp0;have HTR:=Lib.hid htr;have HQU:=Lib.hid hqu;have HI1:=Lib.hid hi1;have HI2:=Lib.hid hi2;have HP2:=Lib.hid hp2;clear hp0 htr hqu hi1 hi2 hp2 ex etr hP0 hP hQ hD1 hD2 eil hfl hR hpre htab hG;go_enter Tryz.func64,Tryz.ntmps64;go_wp2_with fail
 refine HP0.out.mono ?_;rintro r w1 ⟨rfl,hb1⟩;have HB1:=Lib.hid hb1;clear hb1 HP0;go_wp2_with fail
 refine(HI1.out w1 HB1.out).mono ?_;rintro r w2 ⟨rfl,k2,os2,hw2⟩;have HB2:Hid (Below w.heap.size w w2):=by rw[hw2];exact HB1.out.trans ((Lib.below_grow w1.heap.size w1 (Nat.le_refl _) k2 os2).mono HB1.out.size)
 clear hw2 HI1;go_wp2_with fail
 refine(HTR.out w2).mono ?_;rintro r w3 ⟨rfl,hw3⟩;rw[hw3];clear hw3 w3 HTR;go_wp2_with fail
 refine(HQU.out w2).mono ?_;rintro r w4 ⟨rfl,hb4⟩;have HB4:Hid (Below w.heap.size w w4):=HB2.out.trans (hb4.mono HB2.out.size);clear hb4 HQU;go_wp2_with fail
 refine(HI2.out w4 HB4.out).mono ?_;rintro r w5 ⟨rfl,k5,os5,hw5⟩;have HB5:Hid (Below w.heap.size w w5):=by rw[hw5];exact HB4.out.trans ((Lib.below_grow w4.heap.size w4 (Nat.le_refl _) k5 os5).mono HB4.out.size)
 clear hw5 HI2;go_wp2_with fail
 refine(HP2.out w5 HB5.out).mono ?_;rintro r w6 ⟨rfl,hb6⟩;have HB6:Hid (Below w.heap.size w w6):=HB5.out.trans (hb6.mono HB5.out.size);clear hb6 HP2;go_wp2_with fail
 go_ret3
 exact⟨rfl,HB6.out⟩
set_option linter.unusedSimpArgs false
theorem cvalid(il:List UInt8)(w:World)(hG:GV w)(hil:il.length≤1048576):Calls Tryz.prog 63 #[.string ⟨il.toArray⟩] w fun r w'=>r=.returned (.bool (Lib.validD il))∧Below w.heap.size w w':=by
 have h:=Any.utf8_ValidString Tryz.laysValid ⟨il.toArray⟩ w (by show il.toArray.size≤_;simp;omega) hG.tabs;have el:(⟨il.toArray⟩:ByteArray).data.toList=il:=by simp
 rw[el]at h;exact h
theorem lck1(L:List Nd)(ks:List Nat):lckL L ks [audS]=decide (memK L audS ks<0):=by
 have h:=memK_has L audS ks;unfold lckL;simp only[List.any_cons,List.any_nil,Bool.or_false];cases hb:hasK L audS ks with
 | true=>rw[hb]at h;have:¬memK L audS ks<0:=fun x=>by have:=h.1 x;simp at this
         simp[this]
 | false=>have:=h.2 hb;simp[this]
theorem sr1(w:World):SR (w.alloc (.cells #[.string ⟨#[97,117,100]⟩] 9)) (.slice (some ⟨w.heap.size,0,none⟩) 1 1) ([audS].map strV):=by
 refine⟨some ⟨w.heap.size,0,none⟩,1,rfl,(fun h=>by cases h),fun j z hj=>⟨_,_,rfl,?_⟩⟩;match j with
 | 0=>simp at hj;subst hj;simp;rfl
 | j+1=>simp at hj
theorem cmake_bad(s:ByteArray)(il:List UInt8)(a ttl:Int)(w:World)(hg:9≤w.heap.size)(hG:GV w)(e p:Int)(hp:Calls Tryz.prog 59 #[.string s] w fun r w'=>r=.returned (.tuple #[.agg #[.slice none 0 0],.int .i64 e,.int .i64 p])∧Below w.heap.size w w'∧e≠0):Calls Tryz.prog 33 #[.string s,.string ⟨il.toArray⟩,.int .i64 a,.int .i64 ttl] w fun r w'=>r=.returned (.tuple #[.string ⟨([]:List UInt8).toArray⟩,.int .i64 e,.int .i64 p])∧Below w.heap.size w w':=by
 have HP:=dhid hp;clear hp;go_enter Tryz.func33,Tryz.ntmps33;go_wp2_with fail
 refine HP.out.mono ?_;rintro r w1 ⟨rfl,hb,he⟩;have he2:(e != 0)=true:=by simp[he]
 have HB:=dhid (hb.trans ((dbal (Below.refl w1.heap.size w1) (.cells #[.slice none 0 0] 92)).mono hb.size));clear hb HP;go_wp2_with fail
 go_ret3
 exact⟨rfl,HB.out⟩
theorem cmake_ref(s:ByteArray)(il:List UInt8)(a ttl:Int)(w:World)(hg:9≤w.heap.size)(hG:GV w)(t:JT)(hR:readL s.data.toList=.ok t)(n0:Nd)(hn0:(flat 0 [] t)[0]?=some n0)(hk:n0.kind=5)(hE:(refA (flat 0 [] t) n0.kids).1≠0):Calls Tryz.prog 33 #[.string s,.string ⟨il.toArray⟩,.int .i64 a,.int .i64 ttl] w fun r w'=>r=.returned (.tuple #[.string ⟨([]:List UInt8).toArray⟩,.int .i64 (refA (flat 0 [] t) n0.kids).1,.int .i64 (refA (flat 0 [] t) n0.kids).2])∧Below w.heap.size w w':=by
 have hp:=cpar_ok s w hg hG t hR n0 hn0 hk;have HP:=dhid hp;have hW:=(read_fit hR).1;have HW:=dhid hW;have HN0:=dhid hn0;have HG:=dhid hG;clear hp hW hn0 hk hG hR;generalize flat 0 [] t=L at *;go_enter Tryz.func33,Tryz.ntmps33;go_wp2_with fail
 refine HP.out.mono ?_;rintro r w1 ⟨⟨v,rfl,hx⟩,hb⟩;obtain⟨ad,cap,rfl⟩:=hx.shape;have HBO:=dhid (hb.trans ((dbal (Below.refl w1.heap.size w1) (.cells #[.slice ad L.length cap] 92)).mono hb.size));have HXO:=dhid (hx.below (dbal (Below.refl w1.heap.size w1) (.cells #[.slice ad L.length cap] 92)));have HE:=dhid (ceachR ad cap L HW.out (w1.alloc (.cells #[.slice ad L.length cap] 92)) n0 HN0.out HXO.out);have HO:Hid ((w1.alloc (.cells #[.slice ad L.length cap] 92)).cell? ⟨w1.heap.size,0,none⟩=some (.slice ad L.length cap)):=dhid (by simp);clear hb hx HP;go_wp2_with fail
 refine HE.out.mono ?_;rintro r w2 ⟨rfl,hb2⟩;have HB:=dhid (HBO.out.trans (hb2.mono HBO.out.size));have he2:((refA L n0.kids).1 != 0)=true:=by simp[hE]
 clear hb2 HE HXO HO;go_wp2_with fail
 go_ret3
 exact⟨rfl,HB.out⟩
theorem cmake_deny(s:ByteArray)(il:List UInt8)(a ttl:Int)(w:World)(hg:9≤w.heap.size)(hG:GV w)(t:JT)(hR:readL s.data.toList=.ok t)(n0:Nd)(hn0:(flat 0 [] t)[0]?=some n0)(hk:n0.kind=5)(hE:(refA (flat 0 [] t) n0.kids).1=0)(hil:il.length≤1048576)(ha0: -9223372036854775808≤a)(ha1:a≤9223372036854775807)(ht0: -9223372036854775808≤ttl)(ht1:ttl≤9223372036854775807)(q:Int)(hq7:memK (flat 0 [] t) audS n0.kids<0→q=7)(hq2:¬memK (flat 0 [] t) audS n0.kids<0→Lib.validD il=false→q=2)(hq3:¬memK (flat 0 [] t) audS n0.kids<0→Lib.validD il=true→q=3∧(a<0∨ttl<1∨9007199254740991-ttl<a)):Calls Tryz.prog 33 #[.string s,.string ⟨il.toArray⟩,.int .i64 a,.int .i64 ttl] w fun r w'=>r=.returned (.tuple #[.string ⟨([]:List UInt8).toArray⟩,.int .i64 q,.int .i64 0])∧Below w.heap.size w w':=by
 have HQ7:=dhid hq7;have HQ2:=dhid hq2;have HQ3:=dhid hq3;clear hq7 hq2 hq3;have hp:=cpar_ok s w hg hG t hR n0 hn0 hk;have HP:=dhid hp;have hW:=(read_fit hR).1;have HW:=dhid hW;have HN0:=dhid hn0;have HG:=dhid hG;clear hp hW hn0 hk hG hR;generalize flat 0 [] t=L at *;go_enter Tryz.func33,Tryz.ntmps33;go_wp2_with fail
 refine HP.out.mono ?_;rintro r w1 ⟨⟨v,rfl,hx⟩,hb⟩;obtain⟨ad,cap,rfl⟩:=hx.shape;have HBO:=dhid (hb.trans ((dbal (Below.refl w1.heap.size w1) (.cells #[.slice ad L.length cap] 92)).mono hb.size));have HXO:=dhid (hx.below (dbal (Below.refl w1.heap.size w1) (.cells #[.slice ad L.length cap] 92)));have HE:=dhid (ceachR ad cap L HW.out (w1.alloc (.cells #[.slice ad L.length cap] 92)) n0 HN0.out HXO.out);have HO:Hid ((w1.alloc (.cells #[.slice ad L.length cap] 92)).cell? ⟨w1.heap.size,0,none⟩=some (.slice ad L.length cap)):=dhid (by simp);clear hb hx HP;go_wp2_with fail
 refine HE.out.mono ?_;rintro r w2 ⟨rfl,hb2⟩;have HB:=dhid (HBO.out.trans (hb2.mono HBO.out.size));have o2:=cell_kp hb2 HO.out;have HX2:=dhid (HXO.out.below hb2);clear hb2 HE HXO HO;have HL:=dhid (clacks ad cap L HW.out n0 HN0.out (w2.alloc (.cells #[.string ⟨#[97,117,100]⟩] 9)) (HX2.out.below (dbal (Below.refl _ _) _)) [audS] (some ⟨w2.heap.size,0,none⟩) 1 (sr1 w2) (by decide));have HB3:=dhid (HB.out.trans ((dbal (Below.refl w2.heap.size w2) (.cells #[.string ⟨#[97,117,100]⟩] 9)).mono HB.out.size));rw[lck1]at HL;go_wp2_with fail
 refine HL.out.mono ?_;rintro r w3 ⟨rfl,hb3⟩;have HB4:Hid (Below w.heap.size w w3):=HB3.out.trans (hb3.mono HB3.out.size);clear hb3 HL HB3 HB HX2 o2;by_cases hA:memK L audS n0.kids<0
 ·have hd:decide (memK L audS n0.kids<0)=true:=decide_eq_true hA
  obtain rfl:=HQ7.out hA;rw[hd];clear hA hd;go_wp2_with fail
  go_ret3
  exact⟨rfl,HB4.out⟩
 have hq2:=HQ2.out (by omega);have hq3:=HQ3.out (by omega);have hd:decide (memK L audS n0.kids<0)=false:=decide_eq_false (by omega);rw[hd];have HV:=dhid (cvalid il w3 (HG.out.kept fun k hk=>HB4.out.block k (by omega)) hil);have HZ2:=dhid hq2;have HZ3:=dhid hq3;clear hA hd hq2 hq3;go_wp2_with fail
 refine HV.out.mono ?_;rintro r w4 ⟨rfl,hb4⟩;have HB5:Hid (Below w.heap.size w w4):=HB4.out.trans (hb4.mono HB4.out.size);clear hb4 HV HB4;cases hU:Lib.validD il with
 | false=>
   obtain rfl:=HZ2.out hU;go_wp2_with fail
   go_ret3
   exact⟨rfl,HB5.out⟩
 | true=>
   obtain⟨rfl,hr⟩:=HZ3.out hU;have HRG:=dhid hr;clear hr;by_cases r1:a<0
   ·go_wp2_with fail
    go_ret3
    exact⟨rfl,HB5.out⟩
   by_cases r2:ttl<1
   ·go_wp2_with fail
    go_ret3
    exact⟨rfl,HB5.out⟩
   have r4:9007199254740991-ttl<a:=by have:=HRG.out;omega
   go_wp2_with fail
   go_ret3
   exact⟨rfl,HB5.out⟩
theorem cmake_ok(s:ByteArray)(il:List UInt8)(a ttl:Int)(w:World)(hg:9≤w.heap.size)(hG:GV w)(t:JT)(hR:readL s.data.toList=.ok t)(n0:Nd)(hn0:(flat 0 [] t)[0]?=some n0)(hk:n0.kind=5)(hE:(refA (flat 0 [] t) n0.kids).1=0)(hA:¬memK (flat 0 [] t) audS n0.kids<0)(hil:il.length≤1048576)(hU:Lib.validD il=true)(hr:¬(a<0∨ttl<1∨9007199254740991-ttl<a))(htab:Lib.TabBelow Tryz.prog w.heap.size w "internal/strconv.uint64pow10" .u64 Lib.pow10Tab)(pre:List UInt8)(hpre:fmT t=pre++[125])(R:List UInt8×Int×Int)(hRR:((prF (readL (pre++fourT il a (a+ttl)++[125]))).1,((prF (readL (pre++fourT il a (a+ttl)++[125]))).2.1:Int),((prF (readL (pre++fourT il a (a+ttl)++[125]))).2.2:Int))=R):Calls Tryz.prog 33 #[.string s,.string ⟨il.toArray⟩,.int .i64 a,.int .i64 ttl] w fun r w'=>r=.returned (.tuple #[.string ⟨R.1.toArray⟩,.int .i64 R.2.1,.int .i64 R.2.2])∧Below w.heap.size w w':=by
 have hsl:=fun w1 (hb:Below w.heap.size w w1)=>cseal s il a ttl w1 (by have:=hb.size;omega) (hG.kept fun k hk=>hb.block k (by omega)) (fun w2 hb2=>htab w2 (hb.trans (hb2.mono hb.size))) t hR pre hpre hil (by omega) (by omega) (by omega)
 have e1:(prF (readL (pre++fourT il a (a+ttl)++[125]))).1=R.1:=by rw[←hRR]
 have e2:((prF (readL (pre++fourT il a (a+ttl)++[125]))).2.1:Int)=R.2.1:=by rw[←hRR]
 have e3:((prF (readL (pre++fourT il a (a+ttl)++[125]))).2.2:Int)=R.2.2:=by rw[←hRR]
 rw[e1,e2,e3]at hsl;have HSL:=dhid hsl;clear hsl e1 e2 e3 hRR hpre htab;have hp:=cpar_ok s w hg hG t hR n0 hn0 hk;have HP:=dhid hp;have hW:=(read_fit hR).1;have HW:=dhid hW;have HN0:=dhid hn0;have HG:=dhid hG;clear hp hW hn0 hk hG hR;generalize flat 0 [] t=L at *;go_enter Tryz.func33,Tryz.ntmps33;go_wp2_with fail
 refine HP.out.mono ?_;rintro r w1 ⟨⟨v,rfl,hx⟩,hb⟩;obtain⟨ad,cap,rfl⟩:=hx.shape;have HBO:=dhid (hb.trans ((dbal (Below.refl w1.heap.size w1) (.cells #[.slice ad L.length cap] 92)).mono hb.size));have HXO:=dhid (hx.below (dbal (Below.refl w1.heap.size w1) (.cells #[.slice ad L.length cap] 92)));have HE:=dhid (ceachR ad cap L HW.out (w1.alloc (.cells #[.slice ad L.length cap] 92)) n0 HN0.out HXO.out);have HO:Hid ((w1.alloc (.cells #[.slice ad L.length cap] 92)).cell? ⟨w1.heap.size,0,none⟩=some (.slice ad L.length cap)):=dhid (by simp);clear hb hx HP;go_wp2_with fail
 refine HE.out.mono ?_;rintro r w2 ⟨rfl,hb2⟩;have HB:=dhid (HBO.out.trans (hb2.mono HBO.out.size));have o2:=cell_kp hb2 HO.out;have HX2:=dhid (HXO.out.below hb2);clear hb2 HE HXO HO;have HL:=dhid (clacks ad cap L HW.out n0 HN0.out (w2.alloc (.cells #[.string ⟨#[97,117,100]⟩] 9)) (HX2.out.below (dbal (Below.refl _ _) _)) [audS] (some ⟨w2.heap.size,0,none⟩) 1 (sr1 w2) (by decide));have HB3:=dhid (HB.out.trans ((dbal (Below.refl w2.heap.size w2) (.cells #[.string ⟨#[97,117,100]⟩] 9)).mono HB.out.size));rw[lck1]at HL;go_wp2_with fail
 refine HL.out.mono ?_;rintro r w3 ⟨rfl,hb3⟩;have HB4:Hid (Below w.heap.size w w3):=HB3.out.trans (hb3.mono HB3.out.size);clear hb3 HL HB3 HB HX2 o2;have hd:decide (memK L audS n0.kids<0)=false:=decide_eq_false (by omega);rw[hd];have HV:=dhid (cvalid il w3 (HG.out.kept fun k hk=>HB4.out.block k (by omega)) hil);rw[hU]at HV;clear hA hd;go_wp2_with fail
 refine HV.out.mono ?_;rintro r w4 ⟨rfl,hb4⟩;have HB5:Hid (Below w.heap.size w w4):=HB4.out.trans (hb4.mono HB4.out.size);clear hb4 HV HB4;have r1:¬a<0:=by omega
 have r2:¬ttl<1:=by omega
 have r4:¬9007199254740991-ttl<a:=by omega
 clear hr;go_wp2_with fail
 refine(HSL.out w4 HB5.out).mono ?_;rintro r w5 ⟨rfl,hb5⟩;have HB6:Hid (Below w.heap.size w w5):=HB5.out.trans (hb5.mono HB5.out.size);clear hb5 HSL;go_wp2_with fail
 go_ret3
 exact⟨rfl,HB6.out⟩
end Go.Proofs.YtbbopknnoamkbaaGreatDoor
