import Derived.Test.YtbbopknnoamkbaaGreatDoorTS
import Derived.Test.YtbbopknnoamkbaaGreatDoorB1
namespace Go.Proofs.YtbbopknnoamkbaaGreatDoor.Dg
set_option maxRecDepth 4000
open Go.RowKit
set_option linter.unusedVariables false
set_option linter.unusedSimpArgs false
theorem four1(L:ByteArray)(i:Nat)(hi:i<L.size)(x:Nat)(hx:x<64)(hxe:L[i]=sg x):(L.extract i (i+1)++(⟨#[65,65,65]⟩:ByteArray)).size=4∧∃v:Nat→Nat,∀k (h:k<(L.extract i (i+1)++(⟨#[65,65,65]⟩:ByteArray)).size),v k<64∧(L.extract i (i+1)++(⟨#[65,65,65]⟩:ByteArray))[k]=sg (v k):=by
 have hs1:(L.extract i (i+1)).size=1:=by simp;omega
 have hs3:(⟨#[65,65,65]⟩:ByteArray).size=3:=rfl;have hs:(L.extract i (i+1)++(⟨#[65,65,65]⟩:ByteArray)).size=4:=by rw[ByteArray.size_append,hs1,hs3]
 refine⟨hs,fun k=>if k=0 then x else 0,?_⟩;intro k hk;have hk4:k<4:=by omega
 match k,hk4,hk with
 | 0,_,hk=>
   refine⟨by simpa using hx,?_⟩;rw[ByteArray.getElem_append_left (by omega)];simpa [ByteArray.getElem_extract]using hxe
 | 1,_,hk=>
   refine⟨by simp,?_⟩;rw[ByteArray.getElem_append_right (by omega)];simp[hs1];rfl
 | 2,_,hk=>
   refine⟨by simp,?_⟩;rw[ByteArray.getElem_append_right (by omega)];simp[hs1];rfl
 | 3,_,hk=>
   refine⟨by simp,?_⟩;rw[ByteArray.getElem_append_right (by omega)];simp[hs1];rfl
theorem sg_dot:∀x,x<64→sg x≠46:=by decide +kernel
structure Tok (T:ByteArray):Prop where
 sign:∀(k:Nat) (h:k<T.size),T[k]=46∨∃x,x<64∧T[k]=sg x
 dots:T.data.toList.count 46=2
theorem mem_of(T:ByteArray)(k:Nat)(h:k<T.size):T[k]∈T.data.toList:=by
 have h':k<T.data.toList.length:=by simpa using h
 exact(show T.data.toList[k]∈_ from List.getElem_mem h')
theorem enc_dots(x:ByteArray):(encB x).data.toList.count 46=0:=by
 rw[List.count_eq_zero];intro h;have h2:(46:UInt8)∈enc (dB x) x.size:=by simpa [encB]using h
 obtain⟨y,hy,e⟩:=sign_of_enc (dB x) (dB_lt x) x.size _ h2;exact sg_dot y hy e.symm
theorem tok_of(alg:Int)(kid key form:ByteArray):Tok (tokenB alg kid key form):=by
 have e:(tokenB alg kid key form).data.toList=(encB (headB alg kid)).data.toList++[46]++(encB form).data.toList++[46]++(encB (macB alg key (signedB alg kid form))).data.toList:=by
  unfold tokenB;simp only[signedB,ByteArray.data_append,Array.toList_append]
 have en:∀x:ByteArray,∀b∈(encB x).data.toList,∃y,y<64∧b=sg y:=fun x b hb=>sign_of_enc (dB x) (dB_lt x) x.size b (by simpa [encB]using hb)
 refine⟨fun k h=>?_,?_⟩
 ·have hm:=mem_of (tokenB alg kid key form) k h
  generalize (tokenB alg kid key form)[k]=b at hm;rw[e]at hm;simp only[List.mem_append,List.mem_singleton]at hm;rcases hm with(((hm|hm)|hm)|hm)|hm
  ·exact .inr (en _ _ hm)
  ·exact .inl hm
  ·exact .inr (en _ _ hm)
  ·exact .inl hm
  ·exact .inr (en _ _ hm)
 ·rw[e]
  simp only[List.count_append,enc_dots];rfl
theorem sgR_tok(alg:Int)(kid key:ByteArray)(R:Except (Nat×Nat) JT)(he:∀e a,R=.error (e,a)→0<e):(Tok (sgR alg kid key R).1∧(sgR alg kid key R).1.size≤65536∧0<(sgR alg kid key R).1.size∧(sgR alg kid key R).2.1=0)∨((sgR alg kid key R).1=⟨#[]⟩∧(sgR alg kid key R).2.1≠0):=by
 unfold sgR;by_cases h0:keyErr alg kid key=0
 ·rw[if_pos h0]
  match R,he with
  | .error (e,a),he=>exact .inr ⟨rfl,by have:=he e a rfl;dsimp only;omega⟩
  | .ok t,_=>
    dsimp only;split
    ·split
     ·refine .inl ⟨tok_of _ _ _ _,by assumption,?_,rfl⟩
      have:(tokenB alg kid key ⟨(fmT t).toArray⟩).size=(signedB alg kid ⟨(fmT t).toArray⟩).size+1+(encB (macB alg key (signedB alg kid ⟨(fmT t).toArray⟩))).size:=by simp only[tokenB,ByteArray.size_append];rfl
      dsimp only;omega
     ·exact .inr ⟨rfl,by decide⟩
    ·exact .inr ⟨rfl,by decide⟩
 ·rw[if_neg h0];exact .inr ⟨rfl,h0⟩
theorem count_snoc(T:ByteArray)(k:Nat)(h:k<T.size):(T.data.toList.take (k+1)).count 46=(T.data.toList.take k).count 46+if T[k]=46 then 1 else 0:=by
 have h':k<T.data.toList.length:=by simpa using h
 rw[List.take_add_one,List.getElem?_eq_getElem h',List.count_append];have:T.data.toList[k]=T[k]:=rfl;rw[this];simp[List.count_singleton]
set_option maxRecDepth 8000 in
set_option maxHeartbeats 8000000 in
theorem lclean(alg:Int)(kid key claims:ByteArray)(w:World)(hg:9≤w.heap.size)(hG:GV w)(htab:Lib.TabBelow Tryz.prog w.heap.size w "internal/strconv.uint64pow10" .u64 Lib.pow10Tab)(hW:WG w)(h1:kid.size≤4611686018427387904)(h2:key.size≤4611686018427387904)(hs:claims.size≤140737488351232):Calls Tryz.prog 11 #[.agg #[.int .i64 alg,.string kid],.string key,.string claims] w fun r w'=>r=.returned (.bool true)∧Below w.heap.size w w':=by
 have hc:=fun w1 (hb:Below w.heap.size w w1)=>csign alg kid key claims w1 (by have:=hb.size;omega) (hG.kept fun k hk=>hb.block k (by omega)) (fun w2 hb2=>htab w2 (hb.trans (hb2.mono hb.size))) (hW.below hb) h1 h2
 have hr:=fun w1=>rsign alg kid key claims w1 h1 h2 hs
 have hh:=fun w1=>lheadL alg kid w1
 have ht:=sgR_tok alg kid key (readL claims.data.toList) (fun e a h=>readL_err h);generalize sgR alg kid key (readL claims.data.toList)=R at hc hr ht;obtain⟨R1,R2,R3⟩:=R;dsimp only at hc hr ht;have HC:=thid hc;have HR:=thid hr;have HH:=thid hh;have hnm:=fun w'=>lnumN R2 w'
 clear hc hr hh hG htab hW;rcases ht with⟨ht,hl,hp,rfl⟩|⟨rfl,h0⟩
 ·have e0:R1.toList≠[]:=by
   intro h;rw[ByteArray.toList_eq]at h;have:R1.size=0:=by show R1.data.size=0;rw[←Array.length_toList,h];rfl
   omega
  have e1:R1.toList.isEmpty=false:=by
   cases h:R1.toList with
   | nil=>exact absurd h e0
   | cons c r=>rfl
  have HT:=thid ht;clear e0 ht;go_enter Tryz.func11,Tryz.ntmps11;go_wp2_with fail
  refine(HH.out _).mono ?_;rintro r w1 ⟨rfl,hb1⟩;have c0:w1.cell? ⟨w.heap.size,0,none⟩=some (.int .i64 alg):=tcell_kp hb1 (by simp);have c1:w1.cell? ⟨w.heap.size,1,none⟩=some (.string kid):=tcell_kp hb1 (by simp);have HB1:=thid ((tbal (Below.refl w.heap.size w) _).trans (hb1.mono (by simp)));clear hb1 HH;go_wp2_with fail
  refine(HC.out _ HB1.out).mono ?_;rintro r w2 ⟨rfl,hb2⟩;have d0:w2.cell? ⟨w.heap.size,0,none⟩=some (.int .i64 alg):=tcell_kp hb2 c0;have d1:w2.cell? ⟨w.heap.size,1,none⟩=some (.string kid):=tcell_kp hb2 c1;have HB2:=thid (HB1.out.trans (hb2.mono HB1.out.size));clear hb2 HC HB1 c0 c1;go_wp2_with fail
  refine(HR.out _).mono ?_;rintro r w3 ⟨rfl,hb3⟩;have HB3:=thid (HB2.out.trans (hb3.mono HB2.out.size));clear hb3 HR HB2 d0 d1;go_wp2_with (refine(hnm _).mono ?_;rintro e w' ⟨rfl,rfl⟩)
  have hlz:(R1.size:Int)≤65536:=by omega
  go_loopw [13,14] (fun dv iv wr=>∃k:Nat,k≤R1.size∧iv=.int .i64 (k:Int)∧dv=.int .i64 (((R1.data.toList.take k).count 46:Nat):Int)∧Below w.heap.size w wr) (fun _ iv _=>R1.size-(intOf iv).toNat)
  case atStart=>exact⟨0,by omega,rfl,rfl,HB3.out⟩
  case round=>
   obtain⟨k,hk,rfl,rfl,hB⟩:=hrel;have HBk:=thid hB;clear hB;by_cases hlt:k<R1.size
   ·have hlt':(k:Int)<(R1.size:Int):=by omega
    have hcs:=count_snoc R1 k hlt;have hcb:(R1.data.toList.take k).count 46≤k:=by have:=List.count_le_length (a:=(46:UInt8)) (l:=R1.data.toList.take k);rw[List.length_take]at this;omega
    rcases HT.out.sign k hlt with hd|⟨x,hx,hxe⟩
    ·rw[if_pos hd]at hcs
     have hd':(R1[k].toNat:Int)=46:=by rw[hd];rfl
     have hci:IntKind.i64.wrap ((((R1.data.toList.take k).count 46:Nat):Int)+1)=(((R1.data.toList.take k).count 46:Nat):Int)+1:=i64w _ (by omega);have HCS:=thid hcs;clear hcs;go_wp2_with fail
     exact⟨⟨k+1,by omega,by go_num,by rw[HCS.out];go_num,HBk.out⟩,by simp[intOf];omega⟩
    ·have hne:R1[k]≠46:=by rw[hxe];exact sg_dot x hx
     rw[if_neg hne,Nat.add_zero]at hcs;have hd':((R1[k].toNat:Int)==46)=false:=by
      rw[beq_eq_false_iff_ne];intro h
      exact hne (UInt8.toNat_inj.1 (by have:R1[k].toNat=46:=by omega
                                       rw[this];rfl))
     have hd2:¬(R1[k].toNat:Int)=46:=by simpa using hd'
     obtain⟨hf4,v,hfv⟩:=four1 R1 k hlt x hx hxe;have hdc:=fun w=>rdecode4 _ v w hf4 hfv
     have HCS:=thid hcs;clear hf4 hfv hcs hne hxe;go_wp2_with fail
     refine(hdc _).mono ?_;rintro e w5 ⟨⟨r,rfl⟩,hB5⟩;have HB5:Hid (Below w.heap.size w w5):=HBk.out.trans (hB5.mono HBk.out.size);clear hdc hB5;go_wp2_with fail
     exact⟨⟨k+1,by omega,by go_num,by rw[HCS.out];rfl,HB5.out⟩,by simp[intOf];omega⟩
   ·have hlt':(R1.size:Int)≤(k:Int):=by omega
    have hlt2:¬(k:Int)<(R1.size:Int):=by omega
    have h2c:(R1.data.toList.take k).count 46=2:=by rw[List.take_of_length_le (by simp;omega)];exact HT.out.dots
    rw[h2c];go_wp2_with fail
    go_ret;exact⟨rfl,HBk.out⟩
 ·have k1:(R2 != 0)=true:=by simp[h0]
  have k2:(R2==0)=false:=by simp[h0]
  go_enter Tryz.func11,Tryz.ntmps11;go_wp2_with fail
  refine(HH.out _).mono ?_;rintro r w1 ⟨rfl,hb1⟩;have c0:w1.cell? ⟨w.heap.size,0,none⟩=some (.int .i64 alg):=tcell_kp hb1 (by simp);have c1:w1.cell? ⟨w.heap.size,1,none⟩=some (.string kid):=tcell_kp hb1 (by simp);have HB1:=thid ((tbal (Below.refl w.heap.size w) _).trans (hb1.mono (by simp)));clear hb1 HH;go_wp2_with fail
  refine(HC.out _ HB1.out).mono ?_;rintro r w2 ⟨rfl,hb2⟩;have d0:w2.cell? ⟨w.heap.size,0,none⟩=some (.int .i64 alg):=tcell_kp hb2 c0;have d1:w2.cell? ⟨w.heap.size,1,none⟩=some (.string kid):=tcell_kp hb2 c1;have HB2:=thid (HB1.out.trans (hb2.mono HB1.out.size));clear hb2 HC HB1 c0 c1;go_wp2_with fail
  refine(HR.out _).mono ?_;rintro r w3 ⟨rfl,hb3⟩;have HB3:=thid (HB2.out.trans (hb3.mono HB2.out.size));clear hb3 HR HB2 d0 d1;go_wp2_with (refine(hnm _).mono ?_;rintro e w' ⟨rfl,rfl⟩)
  go_loopw [14] (fun iv wr=>iv=.int .i64 0∧Below w.heap.size w wr) (fun _ _=>0)
  case atStart=>exact⟨rfl,HB3.out⟩
  case round=>
   obtain⟨rfl,hB⟩:=hrel;have HBk:=thid hB;clear hB;go_wp2_with fail
   go_ret;exact⟨rfl,HBk.out⟩
end Go.Proofs.YtbbopknnoamkbaaGreatDoor.Dg
