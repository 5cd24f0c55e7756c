import Derived.Test.YtaghclgookfmnaaGreatDoorCCatch
import Derived.Test.YtaghclgookfmnaaGreatDoorShelf
namespace Go.Proofs.YtaghclgookfmnaaGreatDoor
open Go.RowKit
set_option linter.unusedVariables false
def hexS:ByteArray:=⟨#[48,49,50,51,52,53,54,55,56,57,97,98,99,100,101,102,65,66,67,68,69,70]⟩
def hexX(c:UInt8):Int:=Lib.indexByte hexS.data.toList c
def hexOk(c:UInt8):Bool:=match hexv c with
 | none=>decide (hexX c= -1)
 | some d=>decide (0≤hexX c)&&decide (hexX c≤21)&&decide (d<16)&&(if 15<hexX c then decide (hexX c-6=(d:Int))else decide (hexX c=(d:Int)))
theorem hexOk_all:∀n,n<256→hexOk (UInt8.ofNat n)=true:=by decide +kernel
theorem hexOk_c(c:UInt8):hexOk c=true:=by have:=hexOk_all c.toNat c.toNat_lt;rwa [UInt8.ofNat_toNat]at this
theorem hexX_none{c:UInt8}(h:hexv c=none):hexX c= -1:=by have:=hexOk_c c;rw[hexOk,h]at this;simpa using this
theorem hexX_some{c:UInt8}{d:Nat}(h:hexv c=some d):0≤hexX c∧hexX c≤21∧d<16∧(15<hexX c→hexX c-6=(d:Int))∧(¬15<hexX c→hexX c=(d:Int)):=by
 have:=hexOk_c c;rw[hexOk,h]at this;simp only[Bool.and_eq_true,decide_eq_true_eq]at this;obtain⟨⟨⟨a,b⟩,c'⟩,e⟩:=this;refine⟨a,b,c',?_,?_⟩
 ·intro hh;rw[if_pos hh]at e;simpa using e
 ·intro hh;rw[if_neg hh]at e;simpa using e
theorem cfourG_none{k n o:Nat}{l:List UInt8}(h:hexv (pk l)=none):fourG (k+1) n l o=(none,o):=by
 match l with
 | []=>rfl
 | c::r=>rw[fourG];rw[show pk (c::r)=c from rfl]at h;rw[h]
theorem cfourG_some{s:ByteArray}{i k n o d:Nat}(h:hexv (pk (sfx s i))=some d):i<s.size∧fourG (k+1) n (sfx s i) o=fourG k (16*n+d) (sfx s (i+1)) (o+1):=by
 by_cases hi:i<s.size
 ·refine⟨hi,?_⟩
  rw[sfx_cons s i hi]at h ⊢;rw[fourG];rw[show pk (s[i]::sfx s (i+1))=s[i]from rfl]at h;rw[h]
 ·rw[sfx_nil s i (by omega)]at h;cases h
theorem cidx(c:UInt8)(w:World):Calls Tryz.prog 80 #[.string ⟨#[48,49,50,51,52,53,54,55,56,57,97,98,99,100,101,102,65,66,67,68,69,70]⟩,.int .u8 (c.toNat:Int)] w fun e w'=>e=.returned (.int .i64 (hexX c))∧w'=w:=by
 have h:=Tryz.strings_IndexByte hexS (c.toNat:Int) w;rw[show((c.toNat:Int).toNat.toUInt8)=c by simp]at h;exact h
def FP(bp:Nat)(s:ByteArray)(i:Nat)(vL:Value)(dp:Nat)(r:Ending)(w':World):Option Nat×Nat→Prop
 | (some n,_)=>r=.returned (.int .i32 (n:Int))∧CD bp s (i+4) vL dp w'
 | (none,o)=>r=.panicked (flt 2 (i+o))∧CD bp s (i+o) vL dp w'
set_option maxHeartbeats 1000000 in
theorem cfour(bp:Nat)(s:ByteArray)(i:Nat)(vL:Value)(dp:Nat)(w:World)(hs:s.size≤140737488355328)(h:CD bp s i vL dp w)(hi:i≤s.size):Calls Tryz.prog 84 #[.pointer (some ⟨bp,0,none⟩)] w fun r w'=>FP bp s i vL dp r w' (four4 (sfx s i))∧Onl bp w w':=by
 generalize hE:four4 (sfx s i)=E;have HE:Hid (four4 (sfx s i)=E):=hE;clear hE;go_enter Tryz.func84,Tryz.ntmps84;go_wp2_with fail
 go_loopw [3,5] (fun nv kv wr=>∃k N:Nat,k≤4∧i+k≤s.size∧N<16^k∧nv=.int .i64 (N:Int)∧kv=.int .i64 (k:Int)∧fourG (4-k) N (sfx s (i+k)) k=E∧CD bp s (i+k) vL dp wr∧Onl bp w wr) (fun _ kv _=>4-(intOf kv).toNat)
 case atStart=>exact⟨0,0,by omega,hi,by decide,rfl,rfl,HE.out,h,onl_refl bp w⟩
 case round=>
  clear h HE;obtain⟨k,N,hk,hik,hN,rfl,rfl,hE,h,ho⟩:=hrel;have HK:Hid (fourG (4-k) N (sfx s (i+k)) k=E):=hE;have HO:Hid (Onl bp w wr):=ho;clear hE ho;have HN:Hid (N<16^k):=hN;clear hN;by_cases hk4:k<4
  ·have hk4':(k:Int)<4:=by omega
   have hN':(N:Int)≤4096:=by
    have:=HN.out;have h2:16^k≤16^3:=Nat.pow_le_pow_right (by omega) (by omega);omega
   have hp:=cpeek bp s (i+k) vL dp wr h hik;have hx:=fun w'=>cidx (pk (sfx s (i+k))) w'
   have hik2:i+k≤140737488355328:=by omega
   cases hq:hexv (pk (sfx s (i+k)))with
   | none=>
     rw[hexX_none hq]at hx;have hE2:=HK.out;rw[show 4-k=3-k+1 by omega,cfourG_none hq]at hE2;subst hE2;clear HK hq;go_wp2_with fail
     refine hp.mono ?_;rintro e w1 ⟨rfl,h1,o1⟩;clear hp;have HO1:Hid (Onl bp w w1):=HO.out.trans o1;clear o1 HO;go_wp2_with fail
     refine(hx _).mono ?_;rintro e w2 ⟨rfl,rfl⟩;clear hx;have hf:=cfail bp s (i+k) vL dp w2 h1;go_wp2_with fail
     refine hf.mono ?_;rintro e w3 ⟨rfl,rfl⟩;clear hf;go_wp2;exact⟨rfl,⟨rfl,h1⟩,HO1.out⟩
   | some d=>
     obtain⟨hks,hg⟩:=cfourG_some (k:=3-k) (n:=N) (o:=k) hq;obtain⟨x0,x1,hd,xa,xb⟩:=hexX_some hq;have hE2:=HK.out;rw[show 4-k=3-k+1 by omega,hg]at hE2;have HE2:Hid (fourG (4-(k+1)) (16*N+d) (sfx s (i+(k+1))) (k+1)=E):=by rw[show 4-(k+1)=3-k by omega];exact hE2
     have hN2:Hid (16*N+d<16^(k+1)):=by show 16*N+d<16^(k+1);rw[Nat.pow_succ];have:=HN.out;omega
     clear HK hq hE2 hg HN;generalize hexX (pk (sfx s (i+k)))=X at hx x0 x1 xa xb;by_cases hX:15<X
     ·have hXd:X-6=(d:Int):=xa hX
      clear xa xb;have hXe:X=(d:Int)+6:=by omega
      subst hXe;have hX0:¬((d:Int)+6<0):=by omega
      clear hXd x0 x1;go_wp2_with fail
      refine hp.mono ?_;rintro e w1 ⟨rfl,h1,o1⟩;clear hp;have HO1:Hid (Onl bp w w1):=HO.out.trans o1;clear o1 HO;go_wp2_with fail
      refine(hx _).mono ?_;rintro e w2 ⟨rfl,rfl⟩;clear hx;obtain⟨c0,c1,c2,c3,cf⟩:=h1.cell;have f1:=cf 1;go_wp2;refine⟨⟨k+1,16*N+d,by omega,by omega,hN2.out,by rw[show((16*N+d:Nat):Int)=(N:Int)*16+(d:Int)by omega],by rw[show((k+1:Nat):Int)=(k:Int)+1 by omega],HE2.out,h1.setI (i+(k+1)),Onl.setCell HO1.out _ h1⟩,?_⟩;simp only[intOf];omega
     ·have hXd:X=(d:Int):=xb hX
      clear xa xb;subst hXd;have hX0:¬((d:Int)<0):=by omega
      clear x0 x1;go_wp2_with fail
      refine hp.mono ?_;rintro e w1 ⟨rfl,h1,o1⟩;clear hp;have HO1:Hid (Onl bp w w1):=HO.out.trans o1;clear o1 HO;go_wp2_with fail
      refine(hx _).mono ?_;rintro e w2 ⟨rfl,rfl⟩;clear hx;obtain⟨c0,c1,c2,c3,cf⟩:=h1.cell;have f1:=cf 1;go_wp2;refine⟨⟨k+1,16*N+d,by omega,by omega,hN2.out,by rw[show((16*N+d:Nat):Int)=(N:Int)*16+(d:Int)by omega],by rw[show((k+1:Nat):Int)=(k:Int)+1 by omega],HE2.out,h1.setI (i+(k+1)),Onl.setCell HO1.out _ h1⟩,?_⟩;simp only[intOf];omega
  ·have hk4':k=4:=by omega
   subst hk4';have hN':(N:Int)<65536:=by have:=HN.out;omega
   have hE2:=HK.out;rw[show 4-4=0 from rfl,fourG]at hE2;subst hE2;clear HK HN;go_wp2;go_ret;exact⟨⟨rfl,h⟩,HO.out⟩
end Go.Proofs.YtaghclgookfmnaaGreatDoor
