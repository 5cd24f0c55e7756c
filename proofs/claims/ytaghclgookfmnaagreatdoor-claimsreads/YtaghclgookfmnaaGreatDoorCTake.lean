import Derived.Test.YtaghclgookfmnaaGreatDoorCRd
set_option maxHeartbeats 1000000
namespace Go.Proofs.YtaghclgookfmnaaGreatDoor
open Go.RowKit
set_option linter.unusedVariables false
def run(p:UInt8→Bool):List UInt8→Nat|[]=>0|c::r=>if p c then run p r+1 else 0
theorem run_le(p:UInt8→Bool)(l:List UInt8):run p l≤l.length:=by
 induction l with
 | nil=>simp[run]
 | cons c r ih=>rw[run];split<;>simp<;>omega
theorem run_cons(p:UInt8→Bool)(s:ByteArray)(i:Nat)(h:i<s.size)(hb:p s[i]=true):run p (sfx s i)=run p (sfx s (i+1))+1:=by rw[sfx_cons s i h,run,if_pos hb]
theorem run_zero(p:UInt8→Bool)(l:List UInt8)(h0:p 0=false)(h:p (pk l)=false):run p l=0:=by
 match l with
 | []=>rfl
 | c::r=>rw[run,if_neg (by simpa [pk]using h)]
theorem run_nb(l:List UInt8):run isB l=nb l:=by
 induction l with
 | nil=>rfl
 | cons c r ih=>rw[run,nb,ih]
theorem run_nd(l:List UInt8):run isD l=nd l:=by
 induction l with
 | nil=>rfl
 | cons c r ih=>rw[run,nd,ih]
theorem run_nl(l:List UInt8):run isL l=nl l:=by
 induction l with
 | nil=>rfl
 | cons c r ih=>rw[run,nl,ih]
def Kind(K:Nat)(p:UInt8→Bool):Prop:=∀(c:UInt8) (w:World),Calls Tryz.prog K #[.int .u8 (c.toNat:Int)] w fun e w'=>e=.returned (.bool (p c))∧w'=w
theorem kblank:Kind 49 isB:=by
 intro c w;by_cases h1:c=32
 ·subst h1
  go_enter Tryz.func49,Tryz.ntmps49;go_wp2;go_ret;exact⟨rfl,rfl⟩
 ·by_cases h2:c=9
  ·subst h2
   go_enter Tryz.func49,Tryz.ntmps49;go_wp2;go_ret;exact⟨rfl,rfl⟩
  ·by_cases h3:c=10
   ·subst h3
    go_enter Tryz.func49,Tryz.ntmps49;go_wp2;go_ret;exact⟨rfl,rfl⟩
   ·have e1:((c.toNat:Int)==32)=false:=by rw[beq_eq_false_iff_ne];intro e;exact h1 (UInt8.toNat_inj.1 (by simpa using by omega))
    have e2:((c.toNat:Int)==9)=false:=by rw[beq_eq_false_iff_ne];intro e;exact h2 (UInt8.toNat_inj.1 (by simpa using by omega))
    have e3:((c.toNat:Int)==10)=false:=by rw[beq_eq_false_iff_ne];intro e;exact h3 (UInt8.toNat_inj.1 (by simpa using by omega))
    have e4:isB c=((c.toNat:Int)==13):=by
     have b1:(c==32)=false:=beq_eq_false_iff_ne.2 h1;have b2:(c==9)=false:=beq_eq_false_iff_ne.2 h2;have b3:(c==10)=false:=beq_eq_false_iff_ne.2 h3;rw[isB,b1,b2,b3,Bool.false_or,Bool.false_or,Bool.false_or,Bool.eq_iff_iff,beq_iff_eq,beq_iff_eq];constructor
     ·rintro rfl;rfl
     ·intro e;exact UInt8.toNat_inj.1 (by simpa using by omega)
    rw[e4];clear e4 h1 h2 h3;go_enter Tryz.func49,Tryz.ntmps49;go_wp2;go_ret;exact⟨rfl,rfl⟩
theorem kdigit:Kind 65 isD:=by
 intro c w;by_cases h1:48≤c.toNat
 ·have h1':(48:Int)≤(c.toNat:Int):=by omega
  by_cases h2:c.toNat≤57
  ·have h2':(c.toNat:Int)≤57:=by omega
   go_enter Tryz.func65,Tryz.ntmps65;go_wp2;go_ret;exact⟨by simp[isD,h1,h2],rfl⟩
  ·have h2':(57:Int)<(c.toNat:Int):=by omega
   go_enter Tryz.func65,Tryz.ntmps65;go_wp2;go_ret;exact⟨by simp[isD,h2];omega,rfl⟩
 ·have h1':(c.toNat:Int)<48:=by omega
  go_enter Tryz.func65,Tryz.ntmps65;go_wp2;go_ret;exact⟨by simp[isD,h1],rfl⟩
theorem ksmall:Kind 77 isL:=by
 intro c w;by_cases h1:97≤c.toNat
 ·have h1':(97:Int)≤(c.toNat:Int):=by omega
  by_cases h2:c.toNat≤122
  ·have h2':(c.toNat:Int)≤122:=by omega
   go_enter Tryz.func77,Tryz.ntmps77;go_wp2;go_ret;exact⟨by simp[isL,h1,h2],rfl⟩
  ·have h2':(122:Int)<(c.toNat:Int):=by omega
   go_enter Tryz.func77,Tryz.ntmps77;go_wp2;go_ret;exact⟨by simp[isL,h2];omega,rfl⟩
 ·have h1':(c.toNat:Int)<97:=by omega
  go_enter Tryz.func77,Tryz.ntmps77;go_wp2;go_ret;exact⟨by simp[isL,h1],rfl⟩
theorem cpos_rd{bp:Nat}{s:ByteArray}{i:Nat}{vL:Value}{dp:Nat}{w:World}(h:CD bp s i vL dp w):posOf (w.cell? ⟨bp,1,none⟩)=i:=by rw[h.cell.2.1];rfl
theorem cpos_set{bp:Nat}{s:ByteArray}{i:Nat}{vL:Value}{dp:Nat}{w:World}(h:CD bp s i vL dp w)(k:Nat):posOf ((w.setCell ⟨bp,1,none⟩ (.int .i64 ((k:Int)+1))).cell? ⟨bp,1,none⟩)=k+1:=cpos_rd (h.setI (k+1))
theorem ctakeAll_blank(bp:Nat)(s:ByteArray)(i:Nat)(vL:Value)(dp:Nat)(w:World)(hs:s.size≤140737488355328)(h:CD bp s i vL dp w)(hi:i≤s.size):Calls Tryz.prog 48 #[.pointer (some ⟨bp,0,none⟩),.func (.func 49) #[] #[]] w fun r w'=>r=.returned (.string (s.extract i (i+run isB (sfx s i))))∧CD bp s (i+run isB (sfx s i)) vL dp w'∧Onl bp w w':=by
 generalize hE:i+run isB (sfx s i)=E;have hEs:E≤s.size:=by have:=run_le isB (sfx s i);rw[sfx_length]at this;omega
 have HE:Hid (i+run isB (sfx s i)=E):=hE;clear hE;obtain⟨c0,c1,c2,c3,cf⟩:=h.cell;go_enter Tryz.func48,Tryz.ntmps48;go_wp2_with fail
 clear c0 c1 c2 c3 cf;go_loopw [10] (fun v wr=>∃k:Nat,k≤s.size∧i≤k∧k+run isB (sfx s k)=E∧CD bp s k vL dp wr∧Onl bp w wr) (fun _ wr=>s.size-posOf (wr.cell? ⟨bp,1,none⟩))
 case atStart=>exact⟨i,hi,Nat.le_refl _,HE.out,h,onl_refl bp w⟩
 case round=>
  clear h HE;obtain⟨k,hk,hik,hE,h,ho⟩:=hrel;have HK:Hid (k+run isB (sfx s k)=E):=hE;have HO:Hid (Onl bp w wr):=ho;have hm:posOf (wr.cell? ⟨bp,1,none⟩)=k:=cpos_rd h;have HM:Hid (posOf (wr.cell? ⟨bp,1,none⟩)=k):=hm;clear hE ho hm;have hp:=cpeek bp s k vL dp wr h hk;have hk2:k≤140737488355328:=by omega
  have hkk:=fun w'=>kblank (pk (sfx s k)) w'
  go_wp2_with fail
  refine hp.mono ?_;rintro e w1 ⟨rfl,h1,o1⟩;clear hp;have HO1:Hid (Onl bp w w1):=HO.out.trans o1;clear o1 HO;cases hq:isB (pk (sfx s k))with
  | true=>
    rw[hq]at hkk;have hks:k<s.size:=by
     by_cases hx:k<s.size
     ·exact hx
     ·rw[sfx_nil s k (by omega)]at hq;cases hq
    have hE2:=HK.out;rw[run_cons isB s k hks (by rw[sfx_cons s k hks]at hq;exact hq)]at hE2;have HE2:Hid (k+(run isB (sfx s (k+1))+1)=E):=hE2;clear hE2 HK hq;go_wp2_with fail
    refine(hkk _).mono ?_;rintro e w2 ⟨rfl,rfl⟩;clear hkk;obtain⟨c0,c1,c2,c3,cf⟩:=h1.cell;have f1:=cf 1;go_wp2;refine⟨⟨k+1,by omega,by omega,by have:=HE2.out;omega,h1.setI (k+1),Onl.setCell HO1.out _ h1⟩,?_⟩;rw[HM.out,cpos_set h1 k];omega
  | false=>
    rw[hq]at hkk;have hE2:=HK.out;rw[run_zero isB _ rfl hq]at hE2;have hE3:k=E:=by omega
    subst hE3;clear hE2 HK hq HM;go_wp2_with fail
    refine(hkk _).mono ?_;rintro e w2 ⟨rfl,rfl⟩;clear hkk;obtain⟨c0,c1,c2,c3,cf⟩:=h1.cell;have hik':(i:Int)≤(k:Int):=by omega
    have hks':(k:Int)≤(s.size:Int):=by omega
    go_wp2_with fail
    go_quiet (fail);go_wp2;go_ret;exact⟨rfl,h1.drewN _,Onl.drewN HO1.out _⟩
theorem ctakeAll_digit(bp:Nat)(s:ByteArray)(i:Nat)(vL:Value)(dp:Nat)(w:World)(hs:s.size≤140737488355328)(h:CD bp s i vL dp w)(hi:i≤s.size):Calls Tryz.prog 48 #[.pointer (some ⟨bp,0,none⟩),.func (.func 65) #[] #[]] w fun r w'=>r=.returned (.string (s.extract i (i+run isD (sfx s i))))∧CD bp s (i+run isD (sfx s i)) vL dp w'∧Onl bp w w':=by
 generalize hE:i+run isD (sfx s i)=E;have hEs:E≤s.size:=by have:=run_le isD (sfx s i);rw[sfx_length]at this;omega
 have HE:Hid (i+run isD (sfx s i)=E):=hE;clear hE;obtain⟨c0,c1,c2,c3,cf⟩:=h.cell;go_enter Tryz.func48,Tryz.ntmps48;go_wp2_with fail
 clear c0 c1 c2 c3 cf;go_loopw [10] (fun v wr=>∃k:Nat,k≤s.size∧i≤k∧k+run isD (sfx s k)=E∧CD bp s k vL dp wr∧Onl bp w wr) (fun _ wr=>s.size-posOf (wr.cell? ⟨bp,1,none⟩))
 case atStart=>exact⟨i,hi,Nat.le_refl _,HE.out,h,onl_refl bp w⟩
 case round=>
  clear h HE;obtain⟨k,hk,hik,hE,h,ho⟩:=hrel;have HK:Hid (k+run isD (sfx s k)=E):=hE;have HO:Hid (Onl bp w wr):=ho;have hm:posOf (wr.cell? ⟨bp,1,none⟩)=k:=cpos_rd h;have HM:Hid (posOf (wr.cell? ⟨bp,1,none⟩)=k):=hm;clear hE ho hm;have hp:=cpeek bp s k vL dp wr h hk;have hk2:k≤140737488355328:=by omega
  have hkk:=fun w'=>kdigit (pk (sfx s k)) w'
  go_wp2_with fail
  refine hp.mono ?_;rintro e w1 ⟨rfl,h1,o1⟩;clear hp;have HO1:Hid (Onl bp w w1):=HO.out.trans o1;clear o1 HO;cases hq:isD (pk (sfx s k))with
  | true=>
    rw[hq]at hkk;have hks:k<s.size:=by
     by_cases hx:k<s.size
     ·exact hx
     ·rw[sfx_nil s k (by omega)]at hq;cases hq
    have hE2:=HK.out;rw[run_cons isD s k hks (by rw[sfx_cons s k hks]at hq;exact hq)]at hE2;have HE2:Hid (k+(run isD (sfx s (k+1))+1)=E):=hE2;clear hE2 HK hq;go_wp2_with fail
    refine(hkk _).mono ?_;rintro e w2 ⟨rfl,rfl⟩;clear hkk;obtain⟨c0,c1,c2,c3,cf⟩:=h1.cell;have f1:=cf 1;go_wp2;refine⟨⟨k+1,by omega,by omega,by have:=HE2.out;omega,h1.setI (k+1),Onl.setCell HO1.out _ h1⟩,?_⟩;rw[HM.out,cpos_set h1 k];omega
  | false=>
    rw[hq]at hkk;have hE2:=HK.out;rw[run_zero isD _ rfl hq]at hE2;have hE3:k=E:=by omega
    subst hE3;clear hE2 HK hq HM;go_wp2_with fail
    refine(hkk _).mono ?_;rintro e w2 ⟨rfl,rfl⟩;clear hkk;obtain⟨c0,c1,c2,c3,cf⟩:=h1.cell;have hik':(i:Int)≤(k:Int):=by omega
    have hks':(k:Int)≤(s.size:Int):=by omega
    go_wp2_with fail
    go_quiet (fail);go_wp2;go_ret;exact⟨rfl,h1.drewN _,Onl.drewN HO1.out _⟩
theorem ctakeAll_small(bp:Nat)(s:ByteArray)(i:Nat)(vL:Value)(dp:Nat)(w:World)(hs:s.size≤140737488355328)(h:CD bp s i vL dp w)(hi:i≤s.size):Calls Tryz.prog 48 #[.pointer (some ⟨bp,0,none⟩),.func (.func 77) #[] #[]] w fun r w'=>r=.returned (.string (s.extract i (i+run isL (sfx s i))))∧CD bp s (i+run isL (sfx s i)) vL dp w'∧Onl bp w w':=by
 generalize hE:i+run isL (sfx s i)=E;have hEs:E≤s.size:=by have:=run_le isL (sfx s i);rw[sfx_length]at this;omega
 have HE:Hid (i+run isL (sfx s i)=E):=hE;clear hE;obtain⟨c0,c1,c2,c3,cf⟩:=h.cell;go_enter Tryz.func48,Tryz.ntmps48;go_wp2_with fail
 clear c0 c1 c2 c3 cf;go_loopw [10] (fun v wr=>∃k:Nat,k≤s.size∧i≤k∧k+run isL (sfx s k)=E∧CD bp s k vL dp wr∧Onl bp w wr) (fun _ wr=>s.size-posOf (wr.cell? ⟨bp,1,none⟩))
 case atStart=>exact⟨i,hi,Nat.le_refl _,HE.out,h,onl_refl bp w⟩
 case round=>
  clear h HE;obtain⟨k,hk,hik,hE,h,ho⟩:=hrel;have HK:Hid (k+run isL (sfx s k)=E):=hE;have HO:Hid (Onl bp w wr):=ho;have hm:posOf (wr.cell? ⟨bp,1,none⟩)=k:=cpos_rd h;have HM:Hid (posOf (wr.cell? ⟨bp,1,none⟩)=k):=hm;clear hE ho hm;have hp:=cpeek bp s k vL dp wr h hk;have hk2:k≤140737488355328:=by omega
  have hkk:=fun w'=>ksmall (pk (sfx s k)) w'
  go_wp2_with fail
  refine hp.mono ?_;rintro e w1 ⟨rfl,h1,o1⟩;clear hp;have HO1:Hid (Onl bp w w1):=HO.out.trans o1;clear o1 HO;cases hq:isL (pk (sfx s k))with
  | true=>
    rw[hq]at hkk;have hks:k<s.size:=by
     by_cases hx:k<s.size
     ·exact hx
     ·rw[sfx_nil s k (by omega)]at hq;cases hq
    have hE2:=HK.out;rw[run_cons isL s k hks (by rw[sfx_cons s k hks]at hq;exact hq)]at hE2;have HE2:Hid (k+(run isL (sfx s (k+1))+1)=E):=hE2;clear hE2 HK hq;go_wp2_with fail
    refine(hkk _).mono ?_;rintro e w2 ⟨rfl,rfl⟩;clear hkk;obtain⟨c0,c1,c2,c3,cf⟩:=h1.cell;have f1:=cf 1;go_wp2;refine⟨⟨k+1,by omega,by omega,by have:=HE2.out;omega,h1.setI (k+1),Onl.setCell HO1.out _ h1⟩,?_⟩;rw[HM.out,cpos_set h1 k];omega
  | false=>
    rw[hq]at hkk;have hE2:=HK.out;rw[run_zero isL _ rfl hq]at hE2;have hE3:k=E:=by omega
    subst hE3;clear hE2 HK hq HM;go_wp2_with fail
    refine(hkk _).mono ?_;rintro e w2 ⟨rfl,rfl⟩;clear hkk;obtain⟨c0,c1,c2,c3,cf⟩:=h1.cell;have hik':(i:Int)≤(k:Int):=by omega
    have hks':(k:Int)≤(s.size:Int):=by omega
    go_wp2_with fail
    go_quiet (fail);go_wp2;go_ret;exact⟨rfl,h1.drewN _,Onl.drewN HO1.out _⟩
theorem cblanks(bp:Nat)(s:ByteArray)(i:Nat)(vL:Value)(dp:Nat)(w:World)(hs:s.size≤140737488355328)(h:CD bp s i vL dp w)(hi:i≤s.size):Calls Tryz.prog 42 #[.pointer (some ⟨bp,0,none⟩)] w fun r w'=>r=.returned (.tuple #[])∧CD bp s (i+nb (sfx s i)) vL dp w'∧Onl bp w w':=by
 have ht:=ctakeAll_blank bp s i vL dp w hs h hi;rw[run_nb]at ht;generalize i+nb (sfx s i)=E at ht ⊢;go_enter Tryz.func42,Tryz.ntmps42;go_wp2_with fail
 refine ht.mono ?_;rintro e w1 ⟨rfl,h1,o1⟩;clear ht;have HO:Hid _:=o1;clear o1;go_wp2;go_end0
 exact⟨rfl,h1,HO.out⟩
end Go.Proofs.YtaghclgookfmnaaGreatDoor
