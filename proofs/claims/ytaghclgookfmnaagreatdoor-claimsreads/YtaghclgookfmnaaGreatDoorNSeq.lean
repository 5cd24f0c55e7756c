import Derived.Test.YtaghclgookfmnaaGreatDoorQNum
import Derived.WalkSpells
set_option maxHeartbeats 1000000
namespace Go.Proofs.YtaghclgookfmnaaGreatDoor
open Go.RowKit
set_option linter.unusedVariables false
theorem rdigit(c:UInt8)(w:World):Calls Tryz.prog 36 #[.int .u8 (c.toNat:Int)] w fun e w'=>e=.returned (.bool (isD c))∧w'=w:=by
 by_cases h1:48≤c.toNat
 ·have h1':(48:Int)≤(c.toNat:Int):=by omega
  by_cases h2:c.toNat≤57
  ·have h2':(c.toNat:Int)≤57:=by omega
   go_enter Tryz.func36,Tryz.ntmps36;go_wp2;go_ret;exact⟨by simp[isD,h1,h2],rfl⟩
  ·have h2':(57:Int)<(c.toNat:Int):=by omega
   go_enter Tryz.func36,Tryz.ntmps36;go_wp2;go_ret;exact⟨by simp[isD,h2];omega,rfl⟩
 ·have h1':(c.toNat:Int)<48:=by omega
  go_enter Tryz.func36,Tryz.ntmps36;go_wp2;go_ret;exact⟨by simp[isD,h1],rfl⟩
theorem rgoes(s:ByteArray)(i k lo hi:Nat)(w:World):Calls Tryz.prog 57 #[.string s,.int .i64 ((i:Int)+(k:Int)),.int .u8 (lo:Int),.int .u8 (hi:Int)] w fun e w'=>e=.returned (.bool (goesL (sfx s i) k lo hi))∧w'=w:=by
 by_cases h:i+k<s.size
 ·have h':(i:Int)+(k:Int)<(s.size:Int):=by omega
  have hg:=sfx_get s i k h;have HG:Hid _:=hg;clear hg;by_cases h1:lo≤s[i+k].toNat
  ·have h1':(lo:Int)≤(s[i+k].toNat:Int):=by omega
   by_cases h2:s[i+k].toNat≤hi
   ·have h2':(s[i+k].toNat:Int)≤(hi:Int):=by omega
    go_enter Tryz.func57,Tryz.ntmps57;go_wp2;go_ret;exact⟨by rw[goesL,HG.out];simp[h1,h2],rfl⟩
   ·have h2':(hi:Int)<(s[i+k].toNat:Int):=by omega
    go_enter Tryz.func57,Tryz.ntmps57;go_wp2;go_ret;exact⟨by rw[goesL,HG.out];simp[h2],rfl⟩
  ·have h1':(s[i+k].toNat:Int)<(lo:Int):=by omega
   go_enter Tryz.func57,Tryz.ntmps57;go_wp2;go_ret;exact⟨by rw[goesL,HG.out];simp[h1],rfl⟩
 ·have h':(s.size:Int)≤(i:Int)+(k:Int):=by omega
  have hg:=sfx_get_none s i k (by omega);have HG:Hid _:=hg;clear hg;go_enter Tryz.func57,Tryz.ntmps57;go_wp2;go_ret;exact⟨by rw[goesL,HG.out];simp,rfl⟩
theorem rhex(c:UInt8)(w:World):Calls Tryz.prog 68 #[.int .u8 (c.toNat:Int)] w fun e w'=>e=.returned (.int .i64 (optI (hexv c)))∧w'=w:=by
 have hd:=rdigit c;by_cases h0:48≤c.toNat∧c.toNat≤57
 ·have e0:isD c=true:=by simp[isD,h0]
  have ev:hexv c=some (c.toNat-48):=by simp[hexv,h0]
  rw[e0]at hd;rw[ev,optI_some];obtain⟨h1,h2⟩:=h0;clear e0 ev;go_enter Tryz.func68,Tryz.ntmps68;go_wp2_with fail
  refine(hd _).mono ?_;rintro e w1 ⟨rfl,hw1⟩;rw[hw1];clear hw1 w1;go_wp2;go_ret;exact⟨ret_int (by omega),rfl⟩
 ·have e0:isD c=false:=by simp[isD];omega
  rw[e0]at hd;clear e0;by_cases h1:65≤c.toNat∧c.toNat≤70
  ·have ev:hexv c=some (c.toNat-55):=by simp[hexv,h0,h1]
   rw[ev,optI_some];obtain⟨h1,h2⟩:=h1;have h1':(65:Int)≤(c.toNat:Int):=by omega
   have h2':(c.toNat:Int)≤70:=by omega
   clear ev h0;go_enter Tryz.func68,Tryz.ntmps68;go_wp2_with fail
   refine(hd _).mono ?_;rintro e w1 ⟨rfl,hw1⟩;rw[hw1];clear hw1 w1;go_wp2;go_ret;exact⟨ret_int (by omega),rfl⟩
  ·by_cases h2:97≤c.toNat∧c.toNat≤102
   ·have ev:hexv c=some (c.toNat-87):=by simp[hexv,h0,h1,h2]
    rw[ev,optI_some];obtain⟨h3,h4⟩:=h2;have h1':(97:Int)≤(c.toNat:Int):=by omega
    have h2':(c.toNat:Int)≤102:=by omega
    have h5':(70:Int)<(c.toNat:Int):=by omega
    have h6':(65:Int)≤(c.toNat:Int):=by omega
    clear ev h0 h1;go_enter Tryz.func68,Tryz.ntmps68;go_wp2_with fail
    refine(hd _).mono ?_;rintro e w1 ⟨rfl,hw1⟩;rw[hw1];clear hw1 w1;go_wp2;go_ret;exact⟨ret_int (by omega),rfl⟩
   ·have ev:hexv c=none:=by simp[hexv,h0,h1,h2]
    rw[ev,optI_none];clear ev;have hq:c.toNat<65∨(70<c.toNat∧c.toNat<97)∨102<c.toNat:=by omega
    clear h0 h1 h2;rcases hq with h|⟨h,h'⟩|h
    all_goals
     go_enter Tryz.func68,Tryz.ntmps68;go_wp2_with fail
     refine(hd _).mono ?_;rintro e w1 ⟨rfl,hw1⟩;rw[hw1];clear hw1 w1;go_wp2;all_goals go_ret
     all_goals exact⟨rfl,rfl⟩
theorem rfour(s:ByteArray)(i:Nat)(w:World)(hi:i≤140737488355328):Calls Tryz.prog 55 #[.string s,.int .i64 (i:Int)] w fun e w'=>e=.returned (.tuple #[.int .i64 (optI (four4 (sfx s i)).1),.int .i64 ((i+(four4 (sfx s i)).2:Nat):Int)])∧w'=w:=by
 go_enter Tryz.func55,Tryz.ntmps55;go_wp2_with fail
 go_loopw [6,7] (fun n k wr=>∃j m:Nat,j≤4∧n=.int .i64 (m:Int)∧m<16^j∧k=.int .i64 ((i+j:Nat):Int)∧four4 (sfx s i)=fourG (4-j) m (sfx s (i+j)) j∧wr=w) (fun _ k _=>i+4-(intOf k).toNat)
 case atStart=>exact⟨0,0,by omega,rfl,by decide,rfl,rfl,rfl⟩
 case round=>
  obtain⟨j,m,hj,rfl,hm,rfl,hf,hwr⟩:=hrel;rw[hwr];clear hwr wr;have HF:Hid (four4 (sfx s i)=fourG (4-j) m (sfx s (i+j)) j):=hf;clear hf;have hm4:m<65536:=Nat.lt_of_lt_of_le hm (show 16^j≤16^4 from Nat.pow_le_pow_right (by omega) hj);generalize hk:i+j=k;have HK:Hid (i+j=k):=hk;by_cases hj4:j<4
  ·have hj4':(k:Int)<(i:Int)+4:=by omega
   by_cases hs:k<s.size
   ·have hs':(k:Int)<(s.size:Int):=by omega
    have hx:=rhex s[k];have hc:=sfx_cons s k hs;have e4:4-j=(3-j)+1:=by omega
    have hf2:=HF.out;rw[hk,hc,e4,fourG]at hf2;cases hv:hexv s[k]with
    | none=>
      rw[hv,optI_none]at hx;rw[hv]at hf2;have HF2:Hid _:=hf2;clear hf2 hv hc hk e4;go_wp2_with fail
      refine(hx _).mono ?_;rintro e w1 ⟨rfl,hw1⟩;rw[hw1];clear hw1 w1 hx;go_wp2;go_ret2
      exact⟨by rw[HF2.out,HK.out];rfl,rfl⟩
    | some d=>
      rw[hv,optI_some]at hx;rw[hv]at hf2;have hd16:d<16:=by
       unfold hexv at hv;split at hv
       ·injection hv with hv;omega
       ·split at hv
        ·injection hv with hv;omega
        ·split at hv
         ·injection hv with hv;omega
         ·cases hv
      have HF2:Hid _:=hf2;clear hf2 hv hc hk e4;go_wp2_with fail
      refine(hx _).mono ?_;rintro e w1 ⟨rfl,hw1⟩;rw[hw1];clear hw1 w1 hx;go_wp2;refine⟨⟨j+1,16*m+d,by omega,by go_num,?_,congrArg (Value.int .i64) (by have:=HK.out;omega),?_,trivial⟩,by simp[intOf];omega⟩
      ·rw[Nat.pow_succ];omega
      ·rw[HF2.out,←Nat.add_assoc,HK.out,show 4-(j+1)=3-j by omega]
   ·have hs':(s.size:Int)≤(k:Int):=by omega
    have hf2:=HF.out;rw[hk,sfx_nil s k (by omega),show 4-j=(3-j)+1 by omega,fourG]at hf2;have HF2:Hid _:=hf2;clear hf2 hk;go_wp2;go_ret2
    exact⟨by rw[HF2.out,HK.out];rfl,rfl⟩
  ·have hj4':(i:Int)+4≤(k:Int):=by omega
   have hf2:=HF.out;rw[show 4-j=0 by omega,fourG]at hf2;have HF2:Hid _:=hf2;clear hf2 hk;go_wp2;go_ret2
   refine⟨?_,rfl⟩;rw[HF2.out];have:i+j=i+4:=by have:=HK.out;omega
   rw[this];rfl
theorem rlow(s:ByteArray)(i:Nat)(w:World)(hi:i≤140737488355000):Calls Tryz.prog 70 #[.string s,.int .i64 (i:Int)] w fun e w'=>e=.returned (.int .i64 (optI (lowL (sfx s i))))∧w'=w:=by
 by_cases h0:i+1<s.size
 ·have h0':(i:Int)+1<(s.size:Int):=by omega
  have h1':(i:Int)<(s.size:Int):=by omega
  have h0b:decide ((s.size:Int)≤(i:Int)+1)=false:=by simp;omega
  have hi0:i<s.size:=by omega
  have hc:sfx s i=s[i]::s[i+1]::sfx s (i+2):=by rw[sfx_cons s i hi0,sfx_cons s (i+1) h0]
  by_cases ha:s[i]=92
  ·have hA:((s[i].toNat:Int) != 92)=false:=by rw[ha];rfl
   by_cases hb:s[i+1]=117
   ·have hl:lowL (sfx s i)=lowN (four4 (sfx s (i+2))).1:=by rw[hc,lowL,if_pos ⟨ha,hb⟩];rfl
    have hB:((s[i+1].toNat:Int) != 117)=false:=by rw[hb];rfl
    have hf:=fun w=>rfour s (i+2) w (by omega)
    rw[hl];generalize (four4 (sfx s (i+2))).1=F1 at hf;generalize i+2+(four4 (sfx s (i+2))).2=F2 at hf;have hX:(optI F1<56320∧optI (lowN F1)= -1)∨(57343<optI F1∧optI (lowN F1)= -1)∨(56320≤optI F1∧optI F1≤57343∧optI (lowN F1)=optI F1):=by
     match F1 with
     | none=>left;exact⟨by rw[optI_none];omega,rfl⟩
     | some n=>
       rw[optI_some];by_cases h5:56320≤n
       ·by_cases h6:n≤57343
        ·right;right;exact⟨by omega,by omega,by simp[lowN,h5,h6,optI]⟩
        ·right;left;exact⟨by omega,by simp[lowN,h6,optI]⟩
       ·left;exact⟨by omega,by simp[lowN,h5,optI]⟩
    generalize optI F1=X at hX hf;clear hl hc ha hb;rcases hX with⟨hX,he⟩|⟨hX,he⟩|⟨hX,hX2,he⟩
    all_goals
     rw[he];clear he;go_enter Tryz.func70,Tryz.ntmps70;go_wp2_with fail
     refine(hf _).mono ?_;rintro e w1 ⟨rfl,hw1⟩;rw[hw1];clear hw1 w1 hf;go_wp2;all_goals go_ret
     all_goals exact⟨rfl,rfl⟩
   ·have hl:lowL (sfx s i)=none:=by rw[hc,lowL,if_neg (fun h=>hb h.2)]
    have hB:((s[i+1].toNat:Int) != 117)=true:=u8_bne (k:=117) (by omega) hb;rw[hl,optI_none];clear hl hc ha hb;go_enter Tryz.func70,Tryz.ntmps70;go_wp2;go_ret;exact⟨rfl,rfl⟩
  ·have hl:lowL (sfx s i)=none:=by rw[hc,lowL,if_neg (fun h=>ha h.1)]
   have hA:((s[i].toNat:Int) != 92)=true:=u8_bne (k:=92) (by omega) ha;rw[hl,optI_none];clear hl hc ha;go_enter Tryz.func70,Tryz.ntmps70;go_wp2;go_ret;exact⟨rfl,rfl⟩
 ·have h0':(s.size:Int)≤(i:Int)+1:=by omega
  have hl:lowL (sfx s i)=none:=by
   have:=sfx_length s i;match hs:sfx s i with
   | []=>rfl
   | [_]=>rfl
   | _::_::_=>rw[hs]at this;simp at this;omega
  rw[hl,optI_none];clear hl;go_enter Tryz.func70,Tryz.ntmps70;go_wp2;go_ret;exact⟨rfl,rfl⟩
section
attribute [local go_sem] conv1 conv2 conv3 conv4
theorem rwr1(x:Int)(w:World)(c1:UInt8)(h0:0≤x)(h1:x<128)(e1:x=(c1.toNat:Int)):Calls Tryz.prog 69 #[.int .i64 x] w fun e w'=>e=.returned (.string ⟨#[c1]⟩)∧Below w.heap.size w w':=by
 subst e1;go_enter Tryz.func69,Tryz.ntmps69;go_wp2;go_ret;exact⟨rfl,bal (brf _) _⟩
theorem rwr2(x:Int)(w:World)(c1 c2:UInt8)(h0:128≤x)(h1:x<2048)(e1:192+x/64=(c1.toNat:Int))(e2:128+x%64=(c2.toNat:Int)):Calls Tryz.prog 69 #[.int .i64 x] w fun e w'=>e=.returned (.string ⟨#[c1,c2]⟩)∧Below w.heap.size w w':=by
 have a0:decide (x<128)=false:=by simp;omega
 go_enter Tryz.func69,Tryz.ntmps69;go_wp2;go_ret;exact⟨rfl,bal (brf _) _⟩
theorem rwr3(x:Int)(w:World)(c1 c2 c3:UInt8)(h0:2048≤x)(h1:x<65536)(e1:224+x/4096=(c1.toNat:Int))(e2:128+x/64%64=(c2.toNat:Int))(e3:128+x%64=(c3.toNat:Int)):Calls Tryz.prog 69 #[.int .i64 x] w fun e w'=>e=.returned (.string ⟨#[c1,c2,c3]⟩)∧Below w.heap.size w w':=by
 have a0:decide (x<128)=false:=by simp;omega
 have a1:decide (x<2048)=false:=by simp;omega
 go_enter Tryz.func69,Tryz.ntmps69;go_wp2;go_ret;exact⟨rfl,bal (brf _) _⟩
theorem rwr4(x:Int)(w:World)(c1 c2 c3 c4:UInt8)(h0:65536≤x)(h1:x<1114112)(e1:240+x/262144=(c1.toNat:Int))(e2:128+x/4096%64=(c2.toNat:Int))(e3:128+x/64%64=(c3.toNat:Int))(e4:128+x%64=(c4.toNat:Int)):Calls Tryz.prog 69 #[.int .i64 x] w fun e w'=>e=.returned (.string ⟨#[c1,c2,c3,c4]⟩)∧Below w.heap.size w w':=by
 have a0:decide (x<128)=false:=by simp;omega
 have a1:decide (x<2048)=false:=by simp;omega
 have a2:decide (x<65536)=false:=by simp;omega
 go_enter Tryz.func69,Tryz.ntmps69;go_wp2;go_ret;exact⟨rfl,bal (brf _) _⟩
theorem rwritten(n:Nat)(w:World)(hn:n<1114112):Calls Tryz.prog 69 #[.int .i64 (n:Int)] w fun e w'=>e=.returned (.string ⟨(wr8 n).toArray⟩)∧Below w.heap.size w w':=by
 by_cases h1:n<128
 ·have hw:wr8 n=[UInt8.ofNat n]:=by simp[wr8,h1]
  rw[hw];exact rwr1 n w _ (by omega) (by omega) (byte_of _ n rfl (by omega))
 ·by_cases h2:n<2048
  ·have hw:wr8 n=[UInt8.ofNat (192+n/64),UInt8.ofNat (128+n%64)]:=by simp[wr8,h1,h2]
   rw[hw];exact rwr2 n w _ _ (by omega) (by omega) (byte_of _ (192+n/64) (by omega) (by omega)) (byte_of _ (128+n%64) (by omega) (by omega))
  ·by_cases h3:n<65536
   ·have hw:wr8 n=[UInt8.ofNat (224+n/4096),UInt8.ofNat (128+n/64%64),UInt8.ofNat (128+n%64)]:=by simp[wr8,h1,h2,h3]
    rw[hw];exact rwr3 n w _ _ _ (by omega) (by omega) (byte_of _ (224+n/4096) (by omega) (by omega)) (byte_of _ (128+n/64%64) (by omega) (by omega)) (byte_of _ (128+n%64) (by omega) (by omega))
   ·have hw:wr8 n=[UInt8.ofNat (240+n/262144),UInt8.ofNat (128+n/4096%64),UInt8.ofNat (128+n/64%64),UInt8.ofNat (128+n%64)]:=by simp[wr8,h1,h2,h3]
    rw[hw];exact rwr4 n w _ _ _ _ (by omega) (by omega) (byte_of _ (240+n/262144) (by omega) (by omega)) (byte_of _ (128+n/4096%64) (by omega) (by omega)) (byte_of _ (128+n/64%64) (by omega) (by omega)) (byte_of _ (128+n%64) (by omega) (by omega))
end
theorem rsequence(s:ByteArray)(i:Nat)(w:World)(hi:i<s.size)(hs:s.size≤140737488351232):Calls Tryz.prog 47 #[.string s,.int .i64 (i:Int)] w fun e w'=>e=.returned (.int .i64 (seqLen (sfx s i):Int))∧w'=w:=by
 have hi':(i:Int)<(s.size:Int):=by omega
 have hl:seqLen (sfx s i)=if s[i].toNat<128 then 1 else if s[i].toNat<194∨244<s[i].toNat then 0 else if okS (sfx s i) (seqLo s[i].toNat) (seqHi s[i].toNat) (seqN s[i].toNat)=true then seqN s[i].toNat else 0:=by
  rw[sfx_cons s i hi];rfl
 by_cases h1:s[i].toNat<128
 ·rw[hl,if_pos h1]
  have h1':(s[i].toNat:Int)<128:=by omega
  clear hl h1;go_enter Tryz.func47,Tryz.ntmps47;go_wp2;go_ret;exact⟨rfl,rfl⟩
 ·have a1:decide ((s[i].toNat:Int)<128)=false:=by simp;omega
  by_cases h2:s[i].toNat<194∨244<s[i].toNat
  ·rw[hl,if_neg h1,if_pos h2]
   clear hl;by_cases h3:s[i].toNat<194
   ·have h3':(s[i].toNat:Int)<194:=by omega
    clear h1 h2 h3;go_enter Tryz.func47,Tryz.ntmps47;go_wp2;go_ret;exact⟨rfl,rfl⟩
   ·have h3':(244:Int)<(s[i].toNat:Int):=by omega
    have a2:decide ((s[i].toNat:Int)<194)=false:=by simp;omega
    clear h1 h2 h3;go_enter Tryz.func47,Tryz.ntmps47;go_wp2;go_ret;exact⟨rfl,rfl⟩
  ·rw[hl,if_neg h1,if_neg h2]
   have a2:decide ((s[i].toNat:Int)<194)=false:=by simp;omega
   have a3:decide ((244:Int)<(s[i].toNat:Int))=false:=by simp;omega
   have hg:=fun k lo hi w=>rgoes s i k lo hi w
   have hk:=seq_kinds s[i].toNat (by omega) (by omega);clear hl h1 h2;rcases hk with⟨h,n1,n2,n3⟩|⟨h,n1,n2,n3⟩|⟨h,n1,n2,n3⟩|⟨h,h',h'',n1,n2,n3⟩|⟨h,n1,n2,n3⟩|⟨h,n1,n2,n3⟩|⟨h,h',n1,n2,n3⟩
   ·rw[n1,n2,n3]
    have b1:decide ((224:Int)≤(s[i].toNat:Int))=false:=by simp;omega
    have b2:decide ((240:Int)≤(s[i].toNat:Int))=false:=by simp;omega
    have c1:((s[i].toNat:Int)==224)=false:=by simp;omega
    have c2:((s[i].toNat:Int)==237)=false:=by simp;omega
    have c3:((s[i].toNat:Int)==240)=false:=by simp;omega
    have c4:((s[i].toNat:Int)==244)=false:=by simp;omega
    clear h;clear n1 n2 n3;generalize hR:(if okS (sfx s i) 128 191 2=true then 2 else 0)=R;have HR:Hid _:=hR;clear hR;go_enter Tryz.func47,Tryz.ntmps47;go_wp2_with fail
    refine(hg 1 128 191 _).mono ?_;rintro e w1 ⟨rfl,hw1⟩;rw[hw1];clear hw1 w1;rw[←okS2];go_wp2_with fail
    go_loopw [9,10] (fun ok k wr=>∃j:Nat,2≤j∧j≤2∧k=.int .i64 (j:Int)∧ok=.bool (okS (sfx s i) 128 191 j)∧wr=w) (fun _ k _=>4-(intOf k).toNat)
    case atStart=>exact⟨2,by omega,by omega,rfl,rfl,rfl⟩
    case round=>
     obtain⟨j,hj2,hjn,rfl,rfl,hwr⟩:=hrel;rw[hwr];clear hwr wr;by_cases hlt:j<2
     ·have hlt':(j:Int)<2:=by omega
      have e1:=okS_succ (sfx s i) 128 191 j hj2 (by omega);generalize hb:okS (sfx s i) 128 191 j=b at e1;have HE:Hid _:=e1;clear e1 hb;cases b
      all_goals
       go_wp2_with fail
       refine(hg j 128 191 _).mono ?_;rintro e w1 ⟨rfl,hw1⟩;rw[hw1];clear hw1 w1;go_wp2;exact⟨⟨j+1,by omega,by omega,by go_num,by rw[HE.out];simp,trivial⟩,by simp[intOf];omega⟩
     ·have hlt':(2:Int)≤(j:Int):=by omega
      have hjN:j=2:=by omega
      have HJ:Hid (j=2):=hjN;clear hjN;generalize hb:okS (sfx s i) 128 191 j=b;have HB:Hid (okS (sfx s i) 128 191 j=b):=hb;clear hb;clear hj2 hjn hlt hg a1 a2 a3 b1 b2 c1 c2 c3 c4;cases b
      ·go_wp2
       go_ret;refine⟨ret_int ?_,rfl⟩;have e:=HB.out;rw[HJ.out]at e;rw[←HR.out,e];rfl
      ·go_wp2
       go_ret;refine⟨ret_int ?_,rfl⟩;have e:=HB.out;rw[HJ.out]at e;rw[←HR.out,e];rfl
   ·rw[n1,n2,n3]
    have b1:decide ((224:Int)≤(s[i].toNat:Int))=true:=by simp;omega
    have b2:decide ((240:Int)≤(s[i].toNat:Int))=false:=by simp;omega
    have c1:((s[i].toNat:Int)==224)=true:=by simp;omega
    have c2:((s[i].toNat:Int)==237)=false:=by simp;omega
    have c3:((s[i].toNat:Int)==240)=false:=by simp;omega
    have c4:((s[i].toNat:Int)==244)=false:=by simp;omega
    clear h;clear n1 n2 n3;generalize hR:(if okS (sfx s i) 160 191 3=true then 3 else 0)=R;have HR:Hid _:=hR;clear hR;go_enter Tryz.func47,Tryz.ntmps47;go_wp2_with fail
    refine(hg 1 160 191 _).mono ?_;rintro e w1 ⟨rfl,hw1⟩;rw[hw1];clear hw1 w1;rw[←okS2];go_wp2_with fail
    go_loopw [9,10] (fun ok k wr=>∃j:Nat,2≤j∧j≤3∧k=.int .i64 (j:Int)∧ok=.bool (okS (sfx s i) 160 191 j)∧wr=w) (fun _ k _=>4-(intOf k).toNat)
    case atStart=>exact⟨2,by omega,by omega,rfl,rfl,rfl⟩
    case round=>
     obtain⟨j,hj2,hjn,rfl,rfl,hwr⟩:=hrel;rw[hwr];clear hwr wr;by_cases hlt:j<3
     ·have hlt':(j:Int)<3:=by omega
      have e1:=okS_succ (sfx s i) 160 191 j hj2 (by omega);generalize hb:okS (sfx s i) 160 191 j=b at e1;have HE:Hid _:=e1;clear e1 hb;cases b
      all_goals
       go_wp2_with fail
       refine(hg j 128 191 _).mono ?_;rintro e w1 ⟨rfl,hw1⟩;rw[hw1];clear hw1 w1;go_wp2;exact⟨⟨j+1,by omega,by omega,by go_num,by rw[HE.out];simp,trivial⟩,by simp[intOf];omega⟩
     ·have hlt':(3:Int)≤(j:Int):=by omega
      have hjN:j=3:=by omega
      have HJ:Hid (j=3):=hjN;clear hjN;generalize hb:okS (sfx s i) 160 191 j=b;have HB:Hid (okS (sfx s i) 160 191 j=b):=hb;clear hb;clear hj2 hjn hlt hg a1 a2 a3 b1 b2 c1 c2 c3 c4;cases b
      ·go_wp2
       go_ret;refine⟨ret_int ?_,rfl⟩;have e:=HB.out;rw[HJ.out]at e;rw[←HR.out,e];rfl
      ·go_wp2
       go_ret;refine⟨ret_int ?_,rfl⟩;have e:=HB.out;rw[HJ.out]at e;rw[←HR.out,e];rfl
   ·rw[n1,n2,n3]
    have b1:decide ((224:Int)≤(s[i].toNat:Int))=true:=by simp;omega
    have b2:decide ((240:Int)≤(s[i].toNat:Int))=false:=by simp;omega
    have c1:((s[i].toNat:Int)==224)=false:=by simp;omega
    have c2:((s[i].toNat:Int)==237)=true:=by simp;omega
    have c3:((s[i].toNat:Int)==240)=false:=by simp;omega
    have c4:((s[i].toNat:Int)==244)=false:=by simp;omega
    clear h;clear n1 n2 n3;generalize hR:(if okS (sfx s i) 128 159 3=true then 3 else 0)=R;have HR:Hid _:=hR;clear hR;go_enter Tryz.func47,Tryz.ntmps47;go_wp2_with fail
    refine(hg 1 128 159 _).mono ?_;rintro e w1 ⟨rfl,hw1⟩;rw[hw1];clear hw1 w1;rw[←okS2];go_wp2_with fail
    go_loopw [9,10] (fun ok k wr=>∃j:Nat,2≤j∧j≤3∧k=.int .i64 (j:Int)∧ok=.bool (okS (sfx s i) 128 159 j)∧wr=w) (fun _ k _=>4-(intOf k).toNat)
    case atStart=>exact⟨2,by omega,by omega,rfl,rfl,rfl⟩
    case round=>
     obtain⟨j,hj2,hjn,rfl,rfl,hwr⟩:=hrel;rw[hwr];clear hwr wr;by_cases hlt:j<3
     ·have hlt':(j:Int)<3:=by omega
      have e1:=okS_succ (sfx s i) 128 159 j hj2 (by omega);generalize hb:okS (sfx s i) 128 159 j=b at e1;have HE:Hid _:=e1;clear e1 hb;cases b
      all_goals
       go_wp2_with fail
       refine(hg j 128 191 _).mono ?_;rintro e w1 ⟨rfl,hw1⟩;rw[hw1];clear hw1 w1;go_wp2;exact⟨⟨j+1,by omega,by omega,by go_num,by rw[HE.out];simp,trivial⟩,by simp[intOf];omega⟩
     ·have hlt':(3:Int)≤(j:Int):=by omega
      have hjN:j=3:=by omega
      have HJ:Hid (j=3):=hjN;clear hjN;generalize hb:okS (sfx s i) 128 159 j=b;have HB:Hid (okS (sfx s i) 128 159 j=b):=hb;clear hb;clear hj2 hjn hlt hg a1 a2 a3 b1 b2 c1 c2 c3 c4;cases b
      ·go_wp2
       go_ret;refine⟨ret_int ?_,rfl⟩;have e:=HB.out;rw[HJ.out]at e;rw[←HR.out,e];rfl
      ·go_wp2
       go_ret;refine⟨ret_int ?_,rfl⟩;have e:=HB.out;rw[HJ.out]at e;rw[←HR.out,e];rfl
   ·rw[n1,n2,n3]
    have b1:decide ((224:Int)≤(s[i].toNat:Int))=true:=by simp;omega
    have b2:decide ((240:Int)≤(s[i].toNat:Int))=false:=by simp;omega
    have c1:((s[i].toNat:Int)==224)=false:=by simp;omega
    have c2:((s[i].toNat:Int)==237)=false:=by simp;omega
    have c3:((s[i].toNat:Int)==240)=false:=by simp;omega
    have c4:((s[i].toNat:Int)==244)=false:=by simp;omega
    clear h h' h'';clear n1 n2 n3;generalize hR:(if okS (sfx s i) 128 191 3=true then 3 else 0)=R;have HR:Hid _:=hR;clear hR;go_enter Tryz.func47,Tryz.ntmps47;go_wp2_with fail
    refine(hg 1 128 191 _).mono ?_;rintro e w1 ⟨rfl,hw1⟩;rw[hw1];clear hw1 w1;rw[←okS2];go_wp2_with fail
    go_loopw [9,10] (fun ok k wr=>∃j:Nat,2≤j∧j≤3∧k=.int .i64 (j:Int)∧ok=.bool (okS (sfx s i) 128 191 j)∧wr=w) (fun _ k _=>4-(intOf k).toNat)
    case atStart=>exact⟨2,by omega,by omega,rfl,rfl,rfl⟩
    case round=>
     obtain⟨j,hj2,hjn,rfl,rfl,hwr⟩:=hrel;rw[hwr];clear hwr wr;by_cases hlt:j<3
     ·have hlt':(j:Int)<3:=by omega
      have e1:=okS_succ (sfx s i) 128 191 j hj2 (by omega);generalize hb:okS (sfx s i) 128 191 j=b at e1;have HE:Hid _:=e1;clear e1 hb;cases b
      all_goals
       go_wp2_with fail
       refine(hg j 128 191 _).mono ?_;rintro e w1 ⟨rfl,hw1⟩;rw[hw1];clear hw1 w1;go_wp2;exact⟨⟨j+1,by omega,by omega,by go_num,by rw[HE.out];simp,trivial⟩,by simp[intOf];omega⟩
     ·have hlt':(3:Int)≤(j:Int):=by omega
      have hjN:j=3:=by omega
      have HJ:Hid (j=3):=hjN;clear hjN;generalize hb:okS (sfx s i) 128 191 j=b;have HB:Hid (okS (sfx s i) 128 191 j=b):=hb;clear hb;clear hj2 hjn hlt hg a1 a2 a3 b1 b2 c1 c2 c3 c4;cases b
      ·go_wp2
       go_ret;refine⟨ret_int ?_,rfl⟩;have e:=HB.out;rw[HJ.out]at e;rw[←HR.out,e];rfl
      ·go_wp2
       go_ret;refine⟨ret_int ?_,rfl⟩;have e:=HB.out;rw[HJ.out]at e;rw[←HR.out,e];rfl
   ·rw[n1,n2,n3]
    have b1:decide ((224:Int)≤(s[i].toNat:Int))=true:=by simp;omega
    have b2:decide ((240:Int)≤(s[i].toNat:Int))=true:=by simp;omega
    have c1:((s[i].toNat:Int)==224)=false:=by simp;omega
    have c2:((s[i].toNat:Int)==237)=false:=by simp;omega
    have c3:((s[i].toNat:Int)==240)=true:=by simp;omega
    have c4:((s[i].toNat:Int)==244)=false:=by simp;omega
    clear h;clear n1 n2 n3;generalize hR:(if okS (sfx s i) 144 191 4=true then 4 else 0)=R;have HR:Hid _:=hR;clear hR;go_enter Tryz.func47,Tryz.ntmps47;go_wp2_with fail
    refine(hg 1 144 191 _).mono ?_;rintro e w1 ⟨rfl,hw1⟩;rw[hw1];clear hw1 w1;rw[←okS2];go_wp2_with fail
    go_loopw [9,10] (fun ok k wr=>∃j:Nat,2≤j∧j≤4∧k=.int .i64 (j:Int)∧ok=.bool (okS (sfx s i) 144 191 j)∧wr=w) (fun _ k _=>4-(intOf k).toNat)
    case atStart=>exact⟨2,by omega,by omega,rfl,rfl,rfl⟩
    case round=>
     obtain⟨j,hj2,hjn,rfl,rfl,hwr⟩:=hrel;rw[hwr];clear hwr wr;by_cases hlt:j<4
     ·have hlt':(j:Int)<4:=by omega
      have e1:=okS_succ (sfx s i) 144 191 j hj2 (by omega);generalize hb:okS (sfx s i) 144 191 j=b at e1;have HE:Hid _:=e1;clear e1 hb;cases b
      all_goals
       go_wp2_with fail
       refine(hg j 128 191 _).mono ?_;rintro e w1 ⟨rfl,hw1⟩;rw[hw1];clear hw1 w1;go_wp2;exact⟨⟨j+1,by omega,by omega,by go_num,by rw[HE.out];simp,trivial⟩,by simp[intOf];omega⟩
     ·have hlt':(4:Int)≤(j:Int):=by omega
      have hjN:j=4:=by omega
      have HJ:Hid (j=4):=hjN;clear hjN;generalize hb:okS (sfx s i) 144 191 j=b;have HB:Hid (okS (sfx s i) 144 191 j=b):=hb;clear hb;clear hj2 hjn hlt hg a1 a2 a3 b1 b2 c1 c2 c3 c4;cases b
      ·go_wp2
       go_ret;refine⟨ret_int ?_,rfl⟩;have e:=HB.out;rw[HJ.out]at e;rw[←HR.out,e];rfl
      ·go_wp2
       go_ret;refine⟨ret_int ?_,rfl⟩;have e:=HB.out;rw[HJ.out]at e;rw[←HR.out,e];rfl
   ·rw[n1,n2,n3]
    have b1:decide ((224:Int)≤(s[i].toNat:Int))=true:=by simp;omega
    have b2:decide ((240:Int)≤(s[i].toNat:Int))=true:=by simp;omega
    have c1:((s[i].toNat:Int)==224)=false:=by simp;omega
    have c2:((s[i].toNat:Int)==237)=false:=by simp;omega
    have c3:((s[i].toNat:Int)==240)=false:=by simp;omega
    have c4:((s[i].toNat:Int)==244)=true:=by simp;omega
    clear h;clear n1 n2 n3;generalize hR:(if okS (sfx s i) 128 143 4=true then 4 else 0)=R;have HR:Hid _:=hR;clear hR;go_enter Tryz.func47,Tryz.ntmps47;go_wp2_with fail
    refine(hg 1 128 143 _).mono ?_;rintro e w1 ⟨rfl,hw1⟩;rw[hw1];clear hw1 w1;rw[←okS2];go_wp2_with fail
    go_loopw [9,10] (fun ok k wr=>∃j:Nat,2≤j∧j≤4∧k=.int .i64 (j:Int)∧ok=.bool (okS (sfx s i) 128 143 j)∧wr=w) (fun _ k _=>4-(intOf k).toNat)
    case atStart=>exact⟨2,by omega,by omega,rfl,rfl,rfl⟩
    case round=>
     obtain⟨j,hj2,hjn,rfl,rfl,hwr⟩:=hrel;rw[hwr];clear hwr wr;by_cases hlt:j<4
     ·have hlt':(j:Int)<4:=by omega
      have e1:=okS_succ (sfx s i) 128 143 j hj2 (by omega);generalize hb:okS (sfx s i) 128 143 j=b at e1;have HE:Hid _:=e1;clear e1 hb;cases b
      all_goals
       go_wp2_with fail
       refine(hg j 128 191 _).mono ?_;rintro e w1 ⟨rfl,hw1⟩;rw[hw1];clear hw1 w1;go_wp2;exact⟨⟨j+1,by omega,by omega,by go_num,by rw[HE.out];simp,trivial⟩,by simp[intOf];omega⟩
     ·have hlt':(4:Int)≤(j:Int):=by omega
      have hjN:j=4:=by omega
      have HJ:Hid (j=4):=hjN;clear hjN;generalize hb:okS (sfx s i) 128 143 j=b;have HB:Hid (okS (sfx s i) 128 143 j=b):=hb;clear hb;clear hj2 hjn hlt hg a1 a2 a3 b1 b2 c1 c2 c3 c4;cases b
      ·go_wp2
       go_ret;refine⟨ret_int ?_,rfl⟩;have e:=HB.out;rw[HJ.out]at e;rw[←HR.out,e];rfl
      ·go_wp2
       go_ret;refine⟨ret_int ?_,rfl⟩;have e:=HB.out;rw[HJ.out]at e;rw[←HR.out,e];rfl
   ·rw[n1,n2,n3]
    have b1:decide ((224:Int)≤(s[i].toNat:Int))=true:=by simp;omega
    have b2:decide ((240:Int)≤(s[i].toNat:Int))=true:=by simp;omega
    have c1:((s[i].toNat:Int)==224)=false:=by simp;omega
    have c2:((s[i].toNat:Int)==237)=false:=by simp;omega
    have c3:((s[i].toNat:Int)==240)=false:=by simp;omega
    have c4:((s[i].toNat:Int)==244)=false:=by simp;omega
    clear h h';clear n1 n2 n3;generalize hR:(if okS (sfx s i) 128 191 4=true then 4 else 0)=R;have HR:Hid _:=hR;clear hR;go_enter Tryz.func47,Tryz.ntmps47;go_wp2_with fail
    refine(hg 1 128 191 _).mono ?_;rintro e w1 ⟨rfl,hw1⟩;rw[hw1];clear hw1 w1;rw[←okS2];go_wp2_with fail
    go_loopw [9,10] (fun ok k wr=>∃j:Nat,2≤j∧j≤4∧k=.int .i64 (j:Int)∧ok=.bool (okS (sfx s i) 128 191 j)∧wr=w) (fun _ k _=>4-(intOf k).toNat)
    case atStart=>exact⟨2,by omega,by omega,rfl,rfl,rfl⟩
    case round=>
     obtain⟨j,hj2,hjn,rfl,rfl,hwr⟩:=hrel;rw[hwr];clear hwr wr;by_cases hlt:j<4
     ·have hlt':(j:Int)<4:=by omega
      have e1:=okS_succ (sfx s i) 128 191 j hj2 (by omega);generalize hb:okS (sfx s i) 128 191 j=b at e1;have HE:Hid _:=e1;clear e1 hb;cases b
      all_goals
       go_wp2_with fail
       refine(hg j 128 191 _).mono ?_;rintro e w1 ⟨rfl,hw1⟩;rw[hw1];clear hw1 w1;go_wp2;exact⟨⟨j+1,by omega,by omega,by go_num,by rw[HE.out];simp,trivial⟩,by simp[intOf];omega⟩
     ·have hlt':(4:Int)≤(j:Int):=by omega
      have hjN:j=4:=by omega
      have HJ:Hid (j=4):=hjN;clear hjN;generalize hb:okS (sfx s i) 128 191 j=b;have HB:Hid (okS (sfx s i) 128 191 j=b):=hb;clear hb;clear hj2 hjn hlt hg a1 a2 a3 b1 b2 c1 c2 c3 c4;cases b
      ·go_wp2
       go_ret;refine⟨ret_int ?_,rfl⟩;have e:=HB.out;rw[HJ.out]at e;rw[←HR.out,e];rfl
      ·go_wp2
       go_ret;refine⟨ret_int ?_,rfl⟩;have e:=HB.out;rw[HJ.out]at e;rw[←HR.out,e];rfl
end Go.Proofs.YtaghclgookfmnaaGreatDoor
