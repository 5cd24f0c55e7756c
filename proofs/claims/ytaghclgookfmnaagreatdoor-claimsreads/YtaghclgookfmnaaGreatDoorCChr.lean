import Derived.Test.YtaghclgookfmnaaGreatDoorCChar
set_option maxHeartbeats 1000000
namespace Go.Proofs.YtaghclgookfmnaaGreatDoor
open Go.RowKit
set_option linter.unusedVariables false
theorem goes_get(t:ByteArray)(k lo hi:Nat)(hlo:0<lo):goesL (sfx t 0) k lo hi=decide (k<t.size∧lo≤(t.get! k).toNat∧(t.get! k).toNat≤hi):=by
 by_cases h:k<t.size
 ·rw[goesL,show(sfx t 0)[k]?=some t[k]by have:=sfx_get t 0 k (by omega);simpa using this,Utf8W.get!_of_lt t k h]
  simp[h]
 ·rw[goesL,sfx_get_none t 0 k (by omega)];simp[h]
theorem seqLen_nat(t:ByteArray)(h:0<t.size):seqLen (sfx t 0)=seqNat t.size (t.get! 0).toNat (t.get! 1).toNat (t.get! 2).toNat (t.get! 3).toNat:=by
 have e0:sfx t 0=t[0]::sfx t 1:=sfx_cons t 0 h;have g0:t.get! 0=t[0]:=Utf8W.get!_of_lt t 0 h;have lo0:0<seqLo t[0].toNat:=by unfold seqLo;(repeat' split)<;>omega
 have e1:=goes_get t 1 (seqLo t[0].toNat) (seqHi t[0].toNat) lo0;have e2:=goes_get t 2 128 191 (by omega);have e3:=goes_get t 3 128 191 (by omega);rw[e0]at e1 e2 e3 ⊢;rw[seqLen,seqNat,g0,e1,e2,e3];simp only[Bool.and_eq_true,Bool.or_eq_true,decide_eq_true_eq,and_assoc]
theorem sfx_extract(s:ByteArray)(i:Nat)(h:i≤s.size):sfx (s.extract i s.size) 0=sfx s i:=by
 unfold sfx;rw[extract_list,List.drop_zero,List.take_of_length_le (by simp)]
theorem size_extract'(s:ByteArray)(i:Nat)(h:i≤s.size):(s.extract i s.size).size=s.size-i:=by simp
theorem chr_dec(s:ByteArray)(i:Nat)(h:i<s.size):(seqLen (sfx s i)=0→Lib.decodeGo (s.extract i s.size)=(65533,1))∧(seqLen (sfx s i)≠0→(Lib.decodeGo (s.extract i s.size)).2=seqLen (sfx s i)∧¬((Lib.decodeGo (s.extract i s.size)).1=65533∧(Lib.decodeGo (s.extract i s.size)).2=1)):=by
 have hz:=size_extract' s i (by omega);rw[←sfx_extract s i (by omega)];generalize s.extract i s.size=t at hz;have ht:0<t.size:=by omega
 rw[seqLen_nat t ht];unfold Lib.decodeGo;rw[if_neg (by omega),Lib.decode_at];have b:∀k,(t.get! k).toNat<256:=fun k=>(t.get! k).toNat_lt
 exact⟨fun h=>dec_zero t.size _ _ _ _ (by omega) (b 0) (b 1) (b 2) (b 3) h,fun h=>⟨(dec_some t.size _ _ _ _ (by omega) (b 0) (b 1) (b 2) (b 3) h).1,(dec_some t.size _ _ _ _ (by omega) (b 0) (b 1) (b 2) (b 3) h).2.1⟩⟩
theorem seqLen_le(s:ByteArray)(i:Nat):i+seqLen (sfx s i)≤s.size∨seqLen (sfx s i)=0:=by
 by_cases h:i<s.size
 ·have hz:=size_extract' s i (by omega)
  rw[←sfx_extract s i (by omega)];generalize s.extract i s.size=t at hz;rw[seqLen_nat t (by omega)];unfold seqNat seqN;repeat' split
  all_goals omega
 ·rw[sfx_nil s i (by omega)];exact .inr rfl
section
variable (bp:Nat) (s:ByteArray) (i:Nat) (vL:Value) (dp:Nat) (w:World)
theorem cdecode(hbp:8≤bp)(t:ByteArray)(h:CD bp s i vL dp w)(hG:GV w):Calls Tryz.prog 81 #[.string t] w fun e w'=>e=.returned (.tuple #[.int .i32 ((Lib.decodeGo t).1:Int),.int .i64 ((Lib.decodeGo t).2:Int)])∧CD bp s i vL dp w'∧Onl bp w w':=by
 refine(Tryz.utf8_DecodeRuneInString t w hG.tabs).mono ?_;rintro e w' ⟨rfl,hb⟩;exact⟨rfl,(hb.block bp h.lt).trans h,onl_below hb⟩
theorem cchar_bad(hs:s.size≤140737488355328)(hbp:8≤bp)(h:CD bp s i vL dp w)(hG:GV w)(hi:i≤s.size)(hb:(pk (sfx s i)).toNat<32∨seqLen (sfx s i)=0):Calls Tryz.prog 75 #[.pointer (some ⟨bp,0,none⟩)] w fun r w'=>r=.panicked (flt 2 i)∧CD bp s i vL dp w'∧Onl bp w w':=by
 have hd:=cdecode bp s i vL dp w hbp (s.extract i s.size) h hG;have hp:=fun w' h'=>cpeek bp s i vL dp w' h' hi
 have hf:=fun w' h'=>cfail bp s i vL dp w' h'
 obtain⟨c0,c1,c2,c3,cf⟩:=h.cell;have hi':(i:Int)≤(s.size:Int):=by omega
 by_cases h32:(pk (sfx s i)).toNat<32
 ·have h32':((pk (sfx s i)).toNat:Int)<32:=by omega
  clear hb h32;generalize Lib.decodeGo (s.extract i s.size)=D at hd;go_enter Tryz.func75,Tryz.ntmps75;go_wp2_with fail
  refine hd.mono ?_;rintro e w1 ⟨rfl,g1,o1⟩;have O1:Hid (Onl bp w w1):=o1;clear o1 hd c0 c1 c2 c3 cf;go_wp2_with fail
  refine(hp w1 g1).mono ?_;rintro e w2 ⟨rfl,g2,o2⟩;have O2:Hid (Onl bp w w2):=O1.out.trans o2;clear o2 hp O1;go_wp2_with fail
  refine(hf w2 g2).mono ?_;rintro e w3 ⟨rfl,rfl⟩;clear hf;go_wp2;exact⟨rfl,rfl,g2,O2.out⟩
 ·have h0:seqLen (sfx s i)=0:=by rcases hb with hb|hb;exact absurd hb h32;exact hb
  have his:i<s.size:=by
   by_cases his:i<s.size
   ·exact his
   ·rw[sfx_nil s i (by omega)]at h32;exact absurd (by decide) h32
  rw[(chr_dec s i his).1 h0]at hd;have h32':¬((pk (sfx s i)).toNat:Int)<32:=by omega
  clear hb h32 h0;go_enter Tryz.func75,Tryz.ntmps75;go_wp2_with fail
  refine hd.mono ?_;rintro e w1 ⟨rfl,g1,o1⟩;have O1:Hid (Onl bp w w1):=o1;clear o1 hd c0 c1 c2 c3 cf;go_wp2_with fail
  refine(hp w1 g1).mono ?_;rintro e w2 ⟨rfl,g2,o2⟩;have O2:Hid (Onl bp w w2):=O1.out.trans o2;clear o2 hp O1;go_wp2_with fail
  refine(hf w2 g2).mono ?_;rintro e w3 ⟨rfl,rfl⟩;clear hf;go_wp2;exact⟨rfl,rfl,g2,O2.out⟩
theorem cchar_ok(hs:s.size≤140737488355328)(hbp:8≤bp)(h:CD bp s i vL dp w)(hG:GV w)(h32:¬(pk (sfx s i)).toNat<32)(hq:seqLen (sfx s i)≠0):Calls Tryz.prog 75 #[.pointer (some ⟨bp,0,none⟩)] w fun r w'=>r=.returned (.string (s.extract i (i+seqLen (sfx s i))))∧CD bp s (i+seqLen (sfx s i)) vL dp w'∧Onl bp w w':=by
 have his:i<s.size:=by
  by_cases his:i<s.size
  ·exact his
  ·rw[sfx_nil s i (by omega)]at h32;exact absurd (by decide) h32
 have hd:=cdecode bp s i vL dp w hbp (s.extract i s.size) h hG;obtain⟨hD,hN⟩:=(chr_dec s i his).2 hq;have hle:i+seqLen (sfx s i)≤s.size:=by rcases seqLen_le s i with h|h;exact h;exact absurd h hq
 have hp:=fun w' h'=>cpeek bp s i vL dp w' h' (by omega)
 obtain⟨c0,c1,c2,c3,cf⟩:=h.cell;have hi':(i:Int)≤(s.size:Int):=by omega
 have h32':¬((pk (sfx s i)).toNat:Int)<32:=by omega
 rw[hD]at hd hN;generalize (Lib.decodeGo (s.extract i s.size)).1=R at hd hN;generalize seqLen (sfx s i)=K at *;have hKb:(K:Int)+(i:Int)≤140737488355328:=by omega
 have hK0:(i:Int)≤(i:Int)+(K:Int):=by omega
 have hK1:(i:Int)+(K:Int)≤(s.size:Int):=by omega
 by_cases hR:R=65533
 ·have hK:((K:Int)==1)=false:=by rw[beq_eq_false_iff_ne];intro e;exact hN ⟨hR,by omega⟩
  subst hR;clear hN h32 hD;go_enter Tryz.func75,Tryz.ntmps75;go_wp2_with fail
  refine hd.mono ?_;rintro e w1 ⟨rfl,g1,o1⟩;have O1:Hid (Onl bp w w1):=o1;clear o1 hd c0 c1 c2 c3 cf;go_wp2_with fail
  refine(hp w1 g1).mono ?_;rintro e w2 ⟨rfl,g2,o2⟩;have O2:Hid (Onl bp w w2):=O1.out.trans o2;clear o2 hp O1;obtain⟨c0,c1,c2,c3,cf⟩:=g2.cell;have f1:=cf 1;go_wp2_with fail
  have g3:CD bp s (i+K) vL dp (w2.setCell ⟨bp,1,none⟩ (.int .i64 ((i:Int)+(K:Int)))):=g2.setI (i+K);have O3:Hid (Onl bp w (w2.setCell ⟨bp,1,none⟩ (.int .i64 ((i:Int)+(K:Int))))):=Onl.setCell O2.out _ g2;generalize w2.setCell ⟨bp,1,none⟩ (.int .i64 ((i:Int)+(K:Int)))=w3 at g3 O3;clear c0 c1 c2 c3 cf f1 g2 O2 w2;obtain⟨c0,c1,c2,c3,cf⟩:=g3.cell;rw[show((i+K:Nat):Int)=(i:Int)+(K:Int)by omega]at c1;go_quiet (fail);go_wp2;go_ret;refine⟨?_,g3.drewN _,Onl.drewN O3.out _⟩;rfl
 ·have hR':((R:Int)==65533)=false:=by rw[beq_eq_false_iff_ne];intro e;exact hR (by omega)
  clear hN h32 hD hR;go_enter Tryz.func75,Tryz.ntmps75;go_wp2_with fail
  refine hd.mono ?_;rintro e w1 ⟨rfl,g1,o1⟩;have O1:Hid (Onl bp w w1):=o1;clear o1 hd c0 c1 c2 c3 cf;go_wp2_with fail
  refine(hp w1 g1).mono ?_;rintro e w2 ⟨rfl,g2,o2⟩;have O2:Hid (Onl bp w w2):=O1.out.trans o2;clear o2 hp O1;obtain⟨c0,c1,c2,c3,cf⟩:=g2.cell;have f1:=cf 1;go_wp2_with fail
  have g3:CD bp s (i+K) vL dp (w2.setCell ⟨bp,1,none⟩ (.int .i64 ((i:Int)+(K:Int)))):=g2.setI (i+K);have O3:Hid (Onl bp w (w2.setCell ⟨bp,1,none⟩ (.int .i64 ((i:Int)+(K:Int))))):=Onl.setCell O2.out _ g2;generalize w2.setCell ⟨bp,1,none⟩ (.int .i64 ((i:Int)+(K:Int)))=w3 at g3 O3;clear c0 c1 c2 c3 cf f1 g2 O2 w2;obtain⟨c0,c1,c2,c3,cf⟩:=g3.cell;rw[show((i+K:Nat):Int)=(i:Int)+(K:Int)by omega]at c1;go_quiet (fail);go_wp2;go_ret;refine⟨?_,g3.drewN _,Onl.drewN O3.out _⟩;rfl
end
end Go.Proofs.YtaghclgookfmnaaGreatDoor
