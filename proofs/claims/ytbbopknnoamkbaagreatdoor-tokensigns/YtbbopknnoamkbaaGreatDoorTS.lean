import Derived.Test.YtbbopknnoamkbaaGreatDoorT0
import Derived.Deep.RegionHeld3
import Derived.Test.YtbbopknnoamkbaaGreatDoorGF
import Derived.Test.YtbbopknnoamkbaaGreatDoorHE
import Derived.Test.YtbbopknnoamkbaaGreatDoorB0
import Derived.Test.YtbbopknnoamkbaaGreatDoorX5
import Derived.Test.YtbbopknnoamkbaaGreatDoorN6
import Derived.Test.YtbbopknnoamkbaaGreatDoorNR3
import Derived.Test.YtbbopknnoamkbaaGreatDoorQPos
import Derived.Test.YtbbopknnoamkbaaGreatDoorShelf
import Derived.Test.YtbbopknnoamkbaaGreatDoorD0
set_option maxHeartbeats 8000000
set_option maxRecDepth 8000
namespace Go.Proofs.YtbbopknnoamkbaaGreatDoor.Dg
set_option maxRecDepth 4000
open Go.RowKit
set_option linter.unusedVariables false
set_option linter.unusedSimpArgs false
def headB(alg:Int)(kid:ByteArray):ByteArray:=⟨#[123,34,97,108,103,34,58,34]⟩++nameB alg++⟨#[34,44,34,107,105,100,34,58,34]⟩++kid++⟨#[34,44,34,116,121,112,34,58,34,74,87,84,34,125]⟩
theorem headB_size(alg:Int)(kid:ByteArray):(headB alg kid).size≤36+kid.size:=by
 have h:(nameB alg).size≤5:=by
  unfold nameB;repeat' split
  all_goals decide
 simp only[headB,ByteArray.size_append];have e1:(⟨#[123,34,97,108,103,34,58,34]⟩:ByteArray).size=8:=rfl;have e2:(⟨#[34,44,34,107,105,100,34,58,34]⟩:ByteArray).size=9:=rfl;have e3:(⟨#[34,44,34,116,121,112,34,58,34,74,87,84,34,125]⟩:ByteArray).size=14:=rfl;omega
theorem cwriteHead(alg:Int)(kid:ByteArray)(w:World)(hG:WG w)(hk:kid.size≤40):Calls Tryz.prog 50 #[.agg #[.int .i64 alg,.string kid]] w fun r w'=>r=.returned (.string (headB alg kid))∧Below w.heap.size w w':=by
 have hnm:=fun w1 (b1:Below w.heap.size w w1)=>calgName alg w1 (hG.below b1)
 have hns:(nameB alg).size≤5:=by
  unfold nameB;repeat' split
  all_goals decide
 unfold headB;have HN:=thid hnm;clear hnm hG;generalize nameB alg=nm at *;have z0:¬9223372036854775807<8+nm.size:=by omega
 have z1:¬9223372036854775807<8+nm.size+9:=by omega
 have z2:¬9223372036854775807<8+nm.size+9+kid.size:=by omega
 have z3:¬9223372036854775807<8+nm.size+9+kid.size+14:=by omega
 go_enter Tryz.func50,Tryz.ntmps50;go_wp2_with fail
 have HB0:=thid ((tbal (Below.refl w.heap.size w) (.cells #[.int .i64 alg,.string kid] 48)).drew);have HCS:Hid (∀wx,Below (w.heap.size+1) (w.alloc (.cells #[.int .i64 alg,.string kid] 48)) wx→wx.cell? ⟨w.heap.size,0,none⟩=some (.int .i64 alg)∧wx.cell? ⟨w.heap.size,1,none⟩=some (.string kid)):=fun wx hb=>
  ⟨(hb.cell (p:=⟨w.heap.size,0,none⟩) (by simp)).trans (by simp),(hb.cell (p:=⟨w.heap.size,1,none⟩) (by simp)).trans (by simp)⟩
 go_region_held3 (fun w'=>w'.cell? ⟨w.heap.size,0,none⟩=some (.int .i64 alg)∧w'.cell? ⟨w.heap.size,1,none⟩=some (.string kid)) (go_keep) (first|(go_at_call 83;refine(HN.out _ (by exact HB0.out)).mono ?_;rintro e wn ⟨rfl,hbn⟩;have HBn:Hid (Below w.heap.size w wn∧Below (w.heap.size+1) (w.alloc (.cells #[.int .i64 alg,.string kid] 48)) wn):=(by exact⟨HB0.out.trans (hbn.mono HB0.out.size),(Below.refl _ _).drew.trans (hbn.mono (by simp))⟩);obtain⟨s0,s1⟩:=HCS.out _ HBn.out.2;clear hbn))
 all_goals go_wp2_with fail
 all_goals go_ret
 all_goals exact⟨rfl,HBn.out.1⟩
theorem rhead(alg:Int)(kid:ByteArray)(w:World)(ha:alg=256∨alg=384∨alg=512)(hk:kid.size≤40):Calls Tryz.prog 54 #[.agg #[.int .i64 alg,.string kid]] w fun r w'=>r=.returned (.string (headB alg kid))∧Below w.heap.size w w':=by
 have hnm:=fun w1=>rname alg w1 ha
 have hns:(nameB alg).size≤5:=by
  unfold nameB;repeat' split
  all_goals decide
 unfold headB;have HN:=thid hnm;clear hnm ha;generalize nameB alg=nm at *;have z0:¬9223372036854775807<8+nm.size:=by omega
 have z1:¬9223372036854775807<8+nm.size+9:=by omega
 have z2:¬9223372036854775807<8+nm.size+9+kid.size:=by omega
 have z3:¬9223372036854775807<8+nm.size+9+kid.size+14:=by omega
 go_enter Tryz.func54,Tryz.ntmps54;go_wp2_with fail
 refine(HN.out _).mono ?_;rintro r w1 ⟨rfl,hb⟩;have c1:w1.cell? ⟨w.heap.size,1,none⟩=some (.string kid):=tcell_kp hb (by simp);have HB:=thid ((tbal (Below.refl w.heap.size w) _).trans (hb.mono (by simp)));clear hb HN;go_wp2;go_ret;exact⟨rfl,HB.out⟩
def encB(x:ByteArray):ByteArray:=⟨(enc (dB x) x.size).toArray⟩
def macB(alg:Int)(key d:ByteArray):ByteArray:=⟨(codeMac alg key.data.toList d.data.toList).toArray⟩
def signedB(alg:Int)(kid form:ByteArray):ByteArray:=encB (headB alg kid)++⟨#[46]⟩++encB form
def tokenB(alg:Int)(kid key form:ByteArray):ByteArray:=signedB alg kid form++⟨#[46]⟩++encB (macB alg key (signedB alg kid form))
def isO:JT→Bool
 | .obj _ _=>true
 | _=>false
def sgR(alg:Int)(kid key:ByteArray)(R:Except (Nat×Nat) JT):ByteArray×Int×Int:=
 if keyErr alg kid key=0 then
  match R with
  | .error (e,a)=>(⟨#[]⟩,(e:Int),(a:Int))
  | .ok t=>if isO t=true then(if(tokenB alg kid key ⟨(fmT t).toArray⟩).size≤65536 then(tokenB alg kid key ⟨(fmT t).toArray⟩,0,0)else(⟨#[]⟩,1,0))else(⟨#[]⟩,6,0)
 else(⟨#[]⟩,keyErr alg kid key,0)
theorem sg_small{alg:Int}{kid key:ByteArray}(h:keyErr alg kid key=0):(alg=256∨alg=384∨alg=512)∧1≤kid.size∧kid.size≤40∧key.size≤200:=by
 unfold keyErr at h;split at h
 ·omega
 ·rename_i h1
  split at h
  ·omega
  ·rename_i h2
   split at h
   ·omega
   ·rename_i h3
    refine⟨?_,?_⟩
    ·unfold sizeN at h1
     by_cases a1:alg=256
     ·exact .inl a1
     ·by_cases a2:alg=384
      ·exact .inr (.inl a2)
      ·by_cases a3:alg=512
       ·exact .inr (.inr a3)
       ·rw[if_neg a1,if_neg a2,if_neg a3]at h1;exact absurd rfl h1
    ·simp only[isKid,fitsB,Bool.not_eq_false,Bool.and_eq_true,decide_eq_true_eq]at h2 h3
     omega
theorem encB_size(x:ByteArray):(encB x).size≤2*x.size+2:=by
 have:(encB x).size=(enc (dB x) x.size).length:=by show(enc (dB x) x.size).toArray.size=_;simp
 rw[this,enc_length];omega
theorem fm_brace(t:JT):([123]:List UInt8).isPrefixOf (fmT t)=isO t:=by
 cases t with
 | null i=>rfl
 | truth b i=>cases b<;>rfl
 | int n i=>
   rw[fmT];obtain⟨x,_,⟨_,e,_⟩|⟨_,e⟩⟩:=decI_abs n
   ·rw[e];rfl
   ·obtain⟨c,r,e2,hd,_⟩:=decN_head x
    rw[e,e2];have:(123==c)=false:=by
     rw[beq_eq_false_iff_ne];rintro rfl;exact absurd hd (by decide)
    simp[List.isPrefixOf,this,isO]
 | str s i=>rw[fmT];rfl
 | arr ts i=>rw[fmT];rfl
 | obj ms i=>rw[fmT];rfl
theorem mac_len(alg:Int)(key d:ByteArray):(macB alg key d).size≤64:=by
 have h:(macB alg key d).size=(codeMac alg key.data.toList d.data.toList).length:=by show(codeMac alg key.data.toList d.data.toList).toArray.size=_;simp
 rw[h];cases ha:isAlg alg with
 | true=>
   have:=mac_length alg key.data.toList d.data.toList ha;unfold sizeL at this;split at this<;>(try split at this)<;>(try split at this)<;>omega
 | false=>unfold codeMac;rw[ha,if_neg (by simp)];simp
theorem cisO(s:ByteArray)(w:World):Calls Tryz.prog 48 #[.string s] w fun r w'=>r=.returned (.bool (([123]:List UInt8).isPrefixOf s.data.toList))∧w'=w:=by
 have h:=Tryz.strings_HasPrefix s ⟨#[123]⟩ w;go_enter Tryz.func48,Tryz.ntmps48;go_wp2_with fail
 refine h.mono ?_;rintro r w1 ⟨rfl,hw⟩;rw[hw];clear hw h;go_wp2;go_ret;exact⟨rfl,rfl⟩
theorem tb_size(alg:Int)(kid key form:ByteArray)(hk:kid.size≤40)(hf:form.size≤1000000000):(encB (headB alg kid)).size≤1000∧(encB form).size≤3000000000∧(signedB alg kid form).size≤4000000000∧(encB (macB alg key (signedB alg kid form))).size≤1000∧(encB (headB alg kid)++(⟨#[46]⟩:ByteArray)).size≤1001:=by
 have h1:=encB_size (headB alg kid);have h2:=headB_size alg kid;have h3:=encB_size form;have h4:=encB_size (macB alg key (signedB alg kid form));have h5:=mac_len alg key (signedB alg kid form);have h6:(signedB alg kid form).size=(encB (headB alg kid)).size+1+(encB form).size:=by simp only[signedB,ByteArray.size_append];rfl
 have h7:(encB (headB alg kid)++(⟨#[46]⟩:ByteArray)).size=(encB (headB alg kid)).size+1:=by simp only[ByteArray.size_append];rfl
 omega
theorem csign(alg:Int)(kid key claims:ByteArray)(w:World)(hg:9≤w.heap.size)(hG:GV w)(htab:Lib.TabBelow Tryz.prog w.heap.size w "internal/strconv.uint64pow10" .u64 Lib.pow10Tab)(hW:WG w)(h1:kid.size≤4611686018427387904)(h2:key.size≤4611686018427387904):Calls Tryz.prog 27 #[.agg #[.int .i64 alg,.string kid],.string key,.string claims] w fun r w'=>r=.returned (.tuple #[.string (sgR alg kid key (readL claims.data.toList)).1,.int .i64 (sgR alg kid key (readL claims.data.toList)).2.1,.int .i64 (sgR alg kid key (readL claims.data.toList)).2.2])∧Below w.heap.size w w':=by
 have hck:=fun w1 (hb:Below w.heap.size w w1)=>ccheckKey alg kid key w1 (hW.below hb) h1 h2
 have hpr:=fun w1 (hb:Below w.heap.size w w1)=>cprint claims w1 (by have:=hb.size;omega) (hG.kept fun k hk=>hb.block k (by omega)) (fun w2 hb2=>htab w2 (hb.trans (hb2.mono hb.size)))
 have HCK:=thid hck;have HPR:=thid hpr;clear hck hpr hG htab;by_cases h0:keyErr alg kid key=0
 ·obtain⟨ha,hk1,hk2,hk3⟩:=sg_small h0
  have hwh:=fun w1 (hb:Below w.heap.size w w1)=>cwriteHead alg kid w1 (hW.below hb) hk2
  have HWH:=thid hwh;rw[h0]at HCK;unfold sgR;rw[if_pos h0];clear hwh hW h0 h1 h2;cases hR:readL claims.data.toList with
  | error q=>
    obtain⟨e,a⟩:=q;have he:=readL_err hR;rw[hR]at HPR;have k2:((e:Int) != 0)=true:=by simp;omega
    have k3:¬((e:Int)=0):=by omega
    unfold prF at HPR;dsimp only at HPR ⊢;clear hR HWH;go_enter Tryz.func27,Tryz.ntmps27;go_wp2_with fail
    refine(HCK.out _ (tbal (Below.refl _ _) _)).mono ?_;rintro r w1 ⟨rfl,hb1⟩;have HB1:=thid ((tbal (Below.refl w.heap.size w) _).trans (hb1.mono (by simp)));clear hb1 HCK;go_wp2_with fail
    refine(HPR.out _ HB1.out).mono ?_;rintro r w2 ⟨rfl,hb2⟩;have HB2:=thid (HB1.out.trans (hb2.mono HB1.out.size));clear hb2 HPR HB1;go_wp2;go_ret3
    exact⟨rfl,HB2.out⟩
  | ok t=>
    have hfs:(⟨(fmT t).toArray⟩:ByteArray).size≤1000000000:=by
     have h3:=(read_fit hR).2.one (flat 0 [] t).length 0;have h4:=prF_form t;unfold prF at h4;dsimp only at h4;have h5:formN (flat 0 [] t) (flat 0 [] t).length 0=fmT t:=by injection h4
     rw[h5]at h3;show(fmT t).toArray.size≤_
     simpa using h3
    rw[hR,prF_form]at HPR;have hio:=fun w1=>cisO ⟨(fmT t).toArray⟩ w1
    have el:(⟨(fmT t).toArray⟩:ByteArray).data.toList=fmT t:=by simp
    rw[el,fm_brace]at hio;dsimp only at HPR ⊢;clear hR el;generalize (⟨(fmT t).toArray⟩:ByteArray)=form at *;have HIO:=thid hio;clear hio;cases ho:isO t with
    | false=>
      rw[ho]at HIO;rw[if_neg (by simp)];clear HWH;go_enter Tryz.func27,Tryz.ntmps27;go_wp2_with fail
      refine(HCK.out _ (tbal (Below.refl _ _) _)).mono ?_;rintro r w1 ⟨rfl,hb1⟩;have HB1:=thid ((tbal (Below.refl w.heap.size w) _).trans (hb1.mono (by simp)));clear hb1 HCK;go_wp2_with fail
      refine(HPR.out _ HB1.out).mono ?_;rintro r w2 ⟨rfl,hb2⟩;have HB2:=thid (HB1.out.trans (hb2.mono HB1.out.size));clear hb2 HPR HB1;go_wp2_with fail
      refine(HIO.out _).mono ?_;rintro r w3 ⟨rfl,hw3⟩;rw[hw3];clear hw3 w3 HIO;go_wp2;go_ret3
      exact⟨rfl,HB2.out⟩
    | true=>
      rw[ho]at HIO;rw[if_pos rfl];obtain⟨z1,z2,z3,z4,z5⟩:=tb_size alg kid key form hk2 hfs;have hzh:=headB_size alg kid;have hzm:=mac_len alg key (signedB alg kid form);have he1:=fun w1=>encode_any (headB alg kid) w1 (by omega)
      have he2:=fun w1=>encode_any form w1 (by omega)
      have he3:=fun w1=>encode_any (macB alg key (signedB alg kid form)) w1 (by omega)
      have hma:=fun w1=>mac_any alg key (signedB alg kid form) w1 (by omega) (by omega)
      have e0:encB (headB alg kid)++(⟨#[46]⟩:ByteArray)++encB form=signedB alg kid form:=rfl;change ∀w1,Calls _ _ _ _ fun e w'=>e=.returned (.string (encB (headB alg kid)))∧_ at he1
      change ∀w1,Calls _ _ _ _ fun e w'=>e=.returned (.string (encB form))∧_ at he2
      change ∀w1,Calls _ _ _ _ fun e w'=>e=.returned (.string (encB (macB alg key (signedB alg kid form))))∧_ at he3
      change ∀w1,Calls _ _ _ _ fun e w'=>e=.returned (.string (macB alg key (signedB alg kid form)))∧_ at hma
      unfold tokenB;generalize signedB alg kid form=SG at *;generalize macB alg key SG=MB at *;generalize headB alg kid=HD at *;generalize encB HD=E1 at *;generalize encB form=E2 at *;generalize encB MB=E3 at *;have HE1:=thid he1;have HE2:=thid he2;have HE3:=thid he3;have HMA:=thid hma;have E0:=thid e0;obtain⟨X,hX⟩:∃X:ByteArray×Int×Int,X=(if(SG++(⟨#[46]⟩:ByteArray)++E3).size≤65536 then(SG++(⟨#[46]⟩:ByteArray)++E3,0,0)else(⟨#[]⟩,1,0)):=⟨_,rfl⟩;rw[←hX];have HX:=thid hX;clear he1 he2 he3 hma e0 hX;go_enter Tryz.func27,Tryz.ntmps27;go_wp2_with fail
      refine(HCK.out _ (tbal (Below.refl _ _) _)).mono ?_;rintro r w1 ⟨rfl,hb1⟩;have c0:w1.cell? ⟨w.heap.size,0,none⟩=some (.int .i64 alg):=tcell_kp hb1 (by simp);have c1:w1.cell? ⟨w.heap.size,1,none⟩=some (.string kid):=tcell_kp hb1 (by simp);have C1:=thid (And.intro c0 c1);have HB1:=thid ((tbal (Below.refl w.heap.size w) _).trans (hb1.mono (by simp)));clear hb1 HCK c0 c1;go_wp2_with fail
      refine(HPR.out _ HB1.out).mono ?_;rintro r w2 ⟨rfl,hb2⟩;have c0:w2.cell? ⟨w.heap.size,0,none⟩=some (.int .i64 alg):=tcell_kp hb2 C1.out.1;have c1:w2.cell? ⟨w.heap.size,1,none⟩=some (.string kid):=tcell_kp hb2 C1.out.2;have HB2:=thid (HB1.out.trans (hb2.mono HB1.out.size));clear hb2 HPR HB1 C1;go_wp2_with fail
      refine(HIO.out _).mono ?_;rintro r w3 ⟨rfl,hw3⟩;rw[hw3];clear hw3 w3 HIO;go_wp2_with fail
      refine(HWH.out _ HB2.out).mono ?_;rintro r w3 ⟨rfl,hb3⟩;have C3:=thid (And.intro (tcell_kp hb3 c0) (tcell_kp hb3 c1));have HB3:=thid (HB2.out.trans (hb3.mono HB2.out.size));clear hb3 HWH HB2 c0 c1;go_wp2_with fail
      refine(HE1.out _).mono ?_;rintro r w4 ⟨rfl,hb4⟩;have C4:=thid (And.intro (tcell_kp hb4 C3.out.1) (tcell_kp hb4 C3.out.2));have HB4:=thid (HB3.out.trans (hb4.mono HB3.out.size));clear hb4 HE1 HB3 C3;go_wp2_with fail
      refine(HE2.out _).mono ?_;rintro r w5 ⟨rfl,hb5⟩;have c0:w5.cell? ⟨w.heap.size,0,none⟩=some (.int .i64 alg):=tcell_kp hb5 C4.out.1;have c1:w5.cell? ⟨w.heap.size,1,none⟩=some (.string kid):=tcell_kp hb5 C4.out.2;have HB5:=thid (HB4.out.trans (hb5.mono HB4.out.size));clear hb5 HE2 HB4 C4;have q1:¬9223372036854775807<E1.size+1:=by omega
      have q2:¬9223372036854775807<E1.size+1+E2.size:=by omega
      go_wp2_with fail
      rw[E0.out];refine(HMA.out _).mono ?_;rintro r w6 ⟨rfl,hb6⟩;have HB6:=thid (HB5.out.trans (hb6.mono HB5.out.size));clear hb6 HMA HB5 c0 c1;go_wp2_with fail
      refine(HE3.out _).mono ?_;rintro r w7 ⟨rfl,hb7⟩;have HB7:=thid (HB6.out.trans (hb7.mono HB6.out.size));clear hb7 HE3 HB6;have q3:¬9223372036854775807<SG.size+1:=by omega
      have q4:¬9223372036854775807<SG.size+1+E3.size:=by omega
      have q5:(SG++(⟨#[46]⟩:ByteArray)++E3).size=SG.size+1+E3.size:=by simp only[ByteArray.size_append];rfl
      by_cases hl:(SG++(⟨#[46]⟩:ByteArray)++E3).size≤65536
      ·have hX:=HX.out
       rw[if_pos hl]at hX;subst hX;clear HX;rw[q5]at hl;have q6:¬(65536:Int)<((SG.size+1+E3.size:Nat):Int):=by omega
       go_wp2;go_ret3
       exact⟨rfl,HB7.out⟩
      ·have hX:=HX.out
       rw[if_neg hl]at hX;subst hX;clear HX;rw[q5]at hl;have q6:(65536:Int)<((SG.size+1+E3.size:Nat):Int):=by omega
       go_wp2;go_ret3
       exact⟨rfl,HB7.out⟩
 ·unfold sgR
  rw[if_neg h0];have k1:((keyErr alg kid key) != 0)=true:=by simp[h0]
  generalize keyErr alg kid key=E at *;clear HPR hW;dsimp only;go_enter Tryz.func27,Tryz.ntmps27;go_wp2_with fail
  refine(HCK.out _ (tbal (Below.refl _ _) _)).mono ?_;rintro r w1 ⟨rfl,hb1⟩;have HB1:=thid ((tbal (Below.refl w.heap.size w) _).trans (hb1.mono (by simp)));clear hb1 HCK;go_wp2;go_ret3
  exact⟨rfl,HB1.out⟩
theorem kind0(t:JT):∃n,(flat 0 [] t)[0]?=some n∧(n.kind=5↔isO t=true):=by
 cases t<;>rw[flat]<;>exact⟨_,rfl,by simp[isO]⟩
theorem tb_sizeR(alg:Int)(kid key form:ByteArray)(hk:kid.size≤40)(hf:form.size≤1000000000):(encB (headB alg kid)).size≤1000∧(encB form).size≤3000000000∧(signedB alg kid form).size≤4000000000∧(encB (macB alg key (signedB alg kid form))).size≤1000:=by
 have h1:=encB_size (headB alg kid);have h2:=headB_size alg kid;have h3:=encB_size form;have h4:=encB_size (macB alg key (signedB alg kid form));have h5:=mac_len alg key (signedB alg kid form);have h6:(signedB alg kid form).size=(encB (headB alg kid)).size+1+(encB form).size:=by simp only[signedB,ByteArray.size_append];rfl
 omega
theorem nodes_up{B:Nat}{tN:TypeId}{v:Value}{L:List Nd}{w w':World}(h:Nodes B tN v L w)(hb:Below w.heap.size w w'):Nodes B tN v L w':=by
 obtain⟨kvs,k1,k2,k3,k4⟩:=h;exact⟨kvs,k1,ownsRow_sub k2 (fun g _ hg=>hb.block g hg),fun k n kv a b=>ownsRow_sub (k3 k n kv a b) (fun g _ hg=>hb.block g hg),k4⟩
theorem rsign(alg:Int)(kid key claims:ByteArray)(w:World)(h1:kid.size≤4611686018427387904)(h2:key.size≤4611686018427387904)(hs:claims.size≤140737488351232):Calls Tryz.prog 29 #[.agg #[.int .i64 alg,.string kid],.string key,.string claims] w fun r w'=>r=.returned (.tuple #[.string (sgR alg kid key (readL claims.data.toList)).1,.int .i64 (sgR alg kid key (readL claims.data.toList)).2.1,.int .i64 (sgR alg kid key (readL claims.data.toList)).2.2])∧Below w.heap.size w w':=by
 have hck:=fun w1=>rwrong alg kid key w1 h1 h2
 have hrd:=fun w1=>rread claims w1 hs
 have HCK:=thid hck;have HRD:=thid hrd;clear hck hrd;by_cases h0:keyErr alg kid key=0
 ·obtain⟨ha,hk1,hk2,hk3⟩:=sg_small h0
  have hwh:=fun w1=>rhead alg kid w1 ha hk2
  have HWH:=thid hwh;rw[h0]at HCK;unfold sgR;rw[if_pos h0];clear hwh h0 h1 h2 ha;cases hR:readL claims.data.toList with
  | error q=>
    obtain⟨e,a⟩:=q;rw[hR]at HRD;dsimp only at HRD ⊢;clear hR HWH;go_enter Tryz.func29,Tryz.ntmps29;go_wp2_with fail
    refine(HCK.out _).mono ?_;rintro r w1 ⟨rfl,hw1⟩;rw[hw1];clear hw1 w1 HCK;go_wp2_with fail
    refine(HRD.out _).mono ?_;rintro r w2 ⟨⟨rfl,he⟩,hb2⟩;have HB2:=thid ((tbal (Below.refl w.heap.size w) _).trans (hb2.mono (by simp)));have k2:((e:Int) != 0)=true:=by simp;omega
    have k3:¬((e:Int)=0):=by omega
    clear hb2 HRD he;go_wp2;go_ret3
    exact⟨rfl,HB2.out⟩
  | ok t=>
    have hfit:=read_fit hR;have h5:formN (flat 0 [] t) (flat 0 [] t).length 0=fmT t:=by have h4:=prF_form t;unfold prF at h4;dsimp only at h4;injection h4
    have hfs:(⟨(fmT t).toArray⟩:ByteArray).size≤1000000000:=by
     have h3:=hfit.2.one (flat 0 [] t).length 0;rw[h5]at h3;show(fmT t).toArray.size≤_
     simpa using h3
    have hpos:0<(flat 0 [] t).length:=by rw[flat_length];have:=size_pos t;omega
    have hfm:=fun g cap w1 hN=>rform (w.heap.size+2) g cap (flat 0 [] t) hfit.1 hfit.2 (flat 0 [] t).length 0 hpos (by omega) w1 hN
    rw[h5]at hfm;obtain⟨n0,hn0,hk0⟩:=kind0 t;have hW:=hfit.1;have hll:=hW.len;rw[hR]at HRD;have HFM:=thid hfm;have HW:=thid hW;have HN0:=thid hn0;have hpo:(0:Int)<((flat 0 [] t).length:Int):=by omega
    have hrd2:∀w1,Calls Tryz.prog 20 #[.string claims] w1 fun r w'=>(∃v,r=.returned (.tuple #[v,.int .i64 0,.int .i64 0])∧Nodes (w1.heap.size+1) 87 v (flat 0 [] t) w')∧Below w1.heap.size w1 w':=HRD.out
    have HR2:=thid hrd2;dsimp only;clear hR HRD hrd2 hfm hfit h5 hW hn0 hpos;generalize (⟨(fmT t).toArray⟩:ByteArray)=form at *;generalize flat 0 [] t=L at *;cases ho:isO t with
    | false=>
      have hk5:((n0.kind:Int) != 5)=true:=by
       have:n0.kind≠5:=fun h=>by rw[hk0.1 h]at ho;cases ho
       simp;omega
      have hk5b:¬((n0.kind:Int)=5):=by simpa using hk5
      rw[if_neg (by simp)];clear HWH HFM hk0;go_enter Tryz.func29,Tryz.ntmps29;go_wp2_with fail
      refine(HCK.out _).mono ?_;rintro r w1 ⟨rfl,hw1⟩;rw[hw1];clear hw1 w1 HCK;go_wp2_with fail
      refine(HR2.out _).mono ?_;rintro r w2 ⟨⟨v,rfl,kvs,hN⟩,hb2⟩;have hrr:RR 87 v L w2:=RR.of (kvs:=kvs) hN (fun n hn=>by obtain⟨k,hk⟩:=List.getElem?_of_mem hn;have:=HW.out.few k n hk;omega);obtain⟨ad,cap,rfl⟩:=hrr.shape;obtain⟨g,kv,eg,_,_,c0,_⟩:=hrr.at' 0 n0 HN0.out;injection eg with eg _ _;subst eg;rw[Nat.zero_mul]at c0;have HB2:=thid ((tbal (Below.refl w.heap.size w) _).trans (hb2.mono (by simp)));clear hb2 HR2 hN hrr;go_wp2;go_ret3
      exact⟨rfl,HB2.out⟩
    | true=>
      have hk5:n0.kind=5:=hk0.2 ho;rw[if_pos rfl];obtain⟨z1,z2,z3,z4⟩:=tb_sizeR alg kid key form hk2 hfs;have hzh:=headB_size alg kid;have hzm:=mac_len alg key (signedB alg kid form);have he1:=fun w1=>rencode_any (headB alg kid) w1 (by omega)
      have he2:=fun w1=>rencode_any form w1 (by omega)
      have he3:=fun w1=>rencode_any (macB alg key (signedB alg kid form)) w1 (by omega)
      have hma:=fun w1=>rmac_any alg key (signedB alg kid form) w1 (by omega) (by omega)
      have e0:encB (headB alg kid)++(⟨#[46]⟩:ByteArray)++encB form=signedB alg kid form:=rfl;change ∀w1,Calls _ _ _ _ fun e w'=>e=.returned (.string (encB (headB alg kid)))∧_ at he1
      change ∀w1,Calls _ _ _ _ fun e w'=>e=.returned (.string (encB form))∧_ at he2
      change ∀w1,Calls _ _ _ _ fun e w'=>e=.returned (.string (encB (macB alg key (signedB alg kid form))))∧_ at he3
      change ∀w1,Calls _ _ _ _ fun e w'=>e=.returned (.string (macB alg key (signedB alg kid form)))∧_ at hma
      unfold tokenB;generalize signedB alg kid form=SG at *;generalize macB alg key SG=MB at *;generalize headB alg kid=HD at *;generalize encB HD=E1 at *;generalize encB form=E2 at *;generalize encB MB=E3 at *;have HE1:=thid he1;have HE2:=thid he2;have HE3:=thid he3;have HMA:=thid hma;have E0:=thid e0;obtain⟨X,hX⟩:∃X:ByteArray×Int×Int,X=(if(SG++(⟨#[46]⟩:ByteArray)++E3).size≤65536 then(SG++(⟨#[46]⟩:ByteArray)++E3,0,0)else(⟨#[]⟩,1,0)):=⟨_,rfl⟩;rw[←hX];have HX:=thid hX;clear he1 he2 he3 hma e0 hk0 hX;go_enter Tryz.func29,Tryz.ntmps29;go_wp2_with fail
      refine(HCK.out _).mono ?_;rintro r w1 ⟨rfl,hw1⟩;rw[hw1];clear hw1 w1 HCK;go_wp2_with fail
      refine(HR2.out _).mono ?_;rintro r w2 ⟨⟨v,rfl,kvs,hN⟩,hb2⟩;have hrr:RR 87 v L w2:=RR.of (kvs:=kvs) hN (fun n hn=>by obtain⟨k,hk⟩:=List.getElem?_of_mem hn;have:=HW.out.few k n hk;omega);obtain⟨ad,cap,rfl⟩:=hrr.shape;obtain⟨g,kv,eg,_,_,c0,_⟩:=hrr.at' 0 n0 HN0.out;injection eg with eg _ _;subst eg;rw[Nat.zero_mul,hk5]at c0;have d0:w2.cell? ⟨w.heap.size,0,none⟩=some (.int .i64 alg):=tcell_kp hb2 (by simp);have d1:w2.cell? ⟨w.heap.size,1,none⟩=some (.string kid):=tcell_kp hb2 (by simp);have HB2:=thid ((tbal (Below.refl w.heap.size w) _).trans (hb2.mono (by simp)));have hN2:Nodes (w.heap.size+2) 87 (.slice (some ⟨g,0,none⟩) L.length cap) L w2:=⟨kvs,by simpa using hN⟩;have HN2:=thid hN2;clear hb2 HR2 hN hrr hN2;go_wp2_with fail
      refine(HWH.out _).mono ?_;rintro r w3 ⟨rfl,hb3⟩;have HB3:=thid (HB2.out.trans (hb3.mono HB2.out.size));have C3:=thid (And.intro (tcell_kp hb3 d0) (tcell_kp hb3 d1));have hN3:Nodes (w.heap.size+2) 87 (.slice (some ⟨g,0,none⟩) L.length cap) L w3:=nodes_up HN2.out hb3;have HN3:=thid hN3;clear hb3 HB2 HN2 hN3 d0 d1 c0 HWH;go_wp2_with fail
      refine(HE1.out _).mono ?_;rintro r w4 ⟨rfl,hb4⟩;have HB4:=thid (HB3.out.trans (hb4.mono HB3.out.size));have C4:=thid (And.intro (tcell_kp hb4 C3.out.1) (tcell_kp hb4 C3.out.2));have hf4:=HFM.out g cap w4 (nodes_up HN3.out hb4);clear hb4 HB3 HN3 C3 HE1;go_wp2_with fail
      refine hf4.mono ?_;rintro r w5 ⟨rfl,hb5⟩;have HB5:=thid (HB4.out.trans (hb5.mono HB4.out.size));have C5:=thid (And.intro (tcell_kp hb5 C4.out.1) (tcell_kp hb5 C4.out.2));clear hb5 HB4 C4 hf4 HFM;go_wp2_with fail
      refine(HE2.out _).mono ?_;rintro r w6 ⟨rfl,hb6⟩;have HB6:=thid (HB5.out.trans (hb6.mono HB5.out.size));have d0:w6.cell? ⟨w.heap.size,0,none⟩=some (.int .i64 alg):=tcell_kp hb6 C5.out.1;have d1:w6.cell? ⟨w.heap.size,1,none⟩=some (.string kid):=tcell_kp hb6 C5.out.2;clear hb6 HB5 C5 HE2;have q1:¬9223372036854775807<E1.size+1:=by omega
      have q2:¬9223372036854775807<E1.size+1+E2.size:=by omega
      go_wp2_with fail
      rw[E0.out];refine(HMA.out _).mono ?_;rintro r w7 ⟨rfl,hb7⟩;have HB7:=thid (HB6.out.trans (hb7.mono HB6.out.size));clear hb7 HMA HB6 d0 d1;go_wp2_with fail
      refine(HE3.out _).mono ?_;rintro r w8 ⟨rfl,hb8⟩;have HB8:=thid (HB7.out.trans (hb8.mono HB7.out.size));clear hb8 HE3 HB7;have q3:¬9223372036854775807<SG.size+1:=by omega
      have q4:¬9223372036854775807<SG.size+1+E3.size:=by omega
      have q5:(SG++(⟨#[46]⟩:ByteArray)++E3).size=SG.size+1+E3.size:=by simp only[ByteArray.size_append];rfl
      have q7:SG.size=E1.size+1+E2.size:=by rw[←E0.out];simp only[ByteArray.size_append];rfl
      by_cases hl:(SG++(⟨#[46]⟩:ByteArray)++E3).size≤65536
      ·have hX:=HX.out
       rw[if_pos hl]at hX;subst hX;clear HX;rw[q5]at hl;have q6:¬(65536:Int)<(E1.size:Int)+1+(E2.size:Int)+1+(E3.size:Int):=by omega
       go_wp2;go_ret3
       exact⟨by rw[E0.out];rfl,HB8.out⟩
      ·have hX:=HX.out
       rw[if_neg hl]at hX;subst hX;clear HX;rw[q5]at hl;have q6:(65536:Int)<(E1.size:Int)+1+(E2.size:Int)+1+(E3.size:Int):=by omega
       go_wp2;go_ret3
       exact⟨rfl,HB8.out⟩
 ·unfold sgR
  rw[if_neg h0];have k1:((keyErr alg kid key) != 0)=true:=by simp[h0]
  generalize keyErr alg kid key=E at *;clear HRD;dsimp only;go_enter Tryz.func29,Tryz.ntmps29;go_wp2_with fail
  refine(HCK.out _).mono ?_;rintro r w1 ⟨rfl,hw1⟩;rw[hw1];clear hw1 w1 HCK;go_wp2;go_ret3
  exact⟨rfl,tbal (Below.refl w.heap.size w) _⟩
theorem lheadL(alg:Int)(kid:ByteArray)(w:World):Calls Tryz.prog 28 #[.agg #[.int .i64 alg,.string kid]] w fun r w'=>r=.returned (.agg #[.int .i64 alg,.string kid])∧Below w.heap.size w w':=by
 go_enter Tryz.func28,Tryz.ntmps28;go_wp2_with fail
 refine bodyPost_ret (v:=.agg #[.int .i64 alg,.string kid]) (by simp[results,Tryz.results28,go_sem]) rfl ⟨rfl,tbal (tbal (Below.refl w.heap.size w) _) _⟩
theorem lsigns(alg:Int)(kid key claims:ByteArray)(w:World)(hg:9≤w.heap.size)(hG:GV w)(htab:Lib.TabBelow Tryz.prog w.heap.size w "internal/strconv.uint64pow10" .u64 Lib.pow10Tab)(hW:WG w)(h1:kid.size≤4611686018427387904)(h2:key.size≤4611686018427387904)(hs:claims.size≤140737488351232):Calls Tryz.prog 10 #[.agg #[.int .i64 alg,.string kid],.string key,.string claims] w fun r w'=>r=.returned (.bool true)∧Below w.heap.size w w':=by
 have hc:=fun w1 (hb:Below w.heap.size w w1)=>csign alg kid key claims w1 (by have:=hb.size;omega) (hG.kept fun k hk=>hb.block k (by omega)) (fun w2 hb2=>htab w2 (hb.trans (hb2.mono hb.size))) (hW.below hb) h1 h2
 have hr:=fun w1=>rsign alg kid key claims w1 h1 h2 hs
 have hk:=fun w1=>cKid kid w1 h1
 have hk2:=fun w1=>rKid kid w1 h1
 have hh:=fun w1=>lheadL alg kid w1
 generalize sgR alg kid key (readL claims.data.toList)=R at hc hr;obtain⟨R1,R2,R3⟩:=R;dsimp only at hc hr;generalize isKid kid=K at hk hk2;have HC:=thid hc;have HR:=thid hr;have HK:=thid hk;have HK2:=thid hk2;have HH:=thid hh;clear hc hr hk hk2 hh hG htab hW;go_enter Tryz.func10,Tryz.ntmps10;go_wp2_with fail
 refine(HH.out _).mono ?_;rintro r w1 ⟨rfl,hb1⟩;have c0:w1.cell? ⟨w.heap.size,0,none⟩=some (.int .i64 alg):=tcell_kp hb1 (by simp);have c1:w1.cell? ⟨w.heap.size,1,none⟩=some (.string kid):=tcell_kp hb1 (by simp);have C1:=thid (And.intro c0 c1);have HB1:=thid ((tbal (Below.refl w.heap.size w) _).trans (hb1.mono (by simp)));clear hb1 HH c0 c1;go_wp2_with fail
 refine(HC.out _ HB1.out).mono ?_;rintro r w2 ⟨rfl,hb2⟩;have c0:w2.cell? ⟨w.heap.size,0,none⟩=some (.int .i64 alg):=tcell_kp hb2 C1.out.1;have c1:w2.cell? ⟨w.heap.size,1,none⟩=some (.string kid):=tcell_kp hb2 C1.out.2;have HB2:=thid (HB1.out.trans (hb2.mono HB1.out.size));clear hb2 HC HB1 C1;go_wp2_with fail
 refine(HR.out _).mono ?_;rintro r w3 ⟨rfl,hb3⟩;have d0:w3.cell? ⟨w.heap.size,0,none⟩=some (.int .i64 alg):=tcell_kp hb3 c0;have d1:w3.cell? ⟨w.heap.size,1,none⟩=some (.string kid):=tcell_kp hb3 c1;have HB3:=thid (HB2.out.trans (hb3.mono HB2.out.size));clear hb3 HR HB2 c0 c1;go_wp2_with fail
 refine(HK.out _).mono ?_;rintro r w4 ⟨rfl,hw4⟩;rw[hw4];clear hw4 w4 HK;have hnm:=fun w'=>lnumN R2 w'
 go_wp2_with (first|(go_at_call 18;refine(hnm _).mono ?_;rintro e w' ⟨rfl,rfl⟩)|(go_at_call 31;refine(HK2.out _).mono ?_;rintro e w' ⟨rfl,rfl⟩))
 go_ret;exact⟨rfl,HB3.out⟩
end Go.Proofs.YtbbopknnoamkbaaGreatDoor.Dg
