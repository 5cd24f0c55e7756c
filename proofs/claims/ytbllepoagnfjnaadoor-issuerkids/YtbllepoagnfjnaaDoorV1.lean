import Derived.Test.YtbllepoagnfjnaaDoorNSeq
import Derived.Test.YtbllepoagnfjnaaDoorG1
import Derived.Test.YtbllepoagnfjnaaDoorJPureP
import Derived.Lib.DecodeN
import Derived.Shelf.Unicode.DecodeAny
import Derived.Lib.ValidU
set_option maxHeartbeats 4000000
set_option maxRecDepth 100000
namespace Go.Proofs.YtbllepoagnfjnaaDoor
open Go.RowKit
set_option linter.unusedVariables false
theorem hidR{p:Prop}(h:p):Hid p:=h
theorem u8_none(l:List UInt8)(h0:l≠[])(h:seqLen l=0):¬U8 l:=fun hu=>by
 cases hu with
 | nil=>exact h0 rfl
 | cons a r ha hs _=>
   rw[seqLen_app a r ha hs]at h;exact ha (List.length_eq_zero_iff.1 h)
theorem u8_step(l:List UInt8)(h:seqLen l≠0):U8 l↔U8 (l.drop (seqLen l)):=by
 constructor
 ·intro hu
  cases hu with
  | nil=>exact absurd rfl h
  | cons a r ha hs hr=>rw[seqLen_app a r ha hs,List.drop_left' rfl];exact hr
 ·intro hu
  obtain⟨h1,h2⟩:=seqLen_take l h;have hl:(l.take (seqLen l)).length=seqLen l:=by rw[List.length_take];omega
  have:=U8.cons (l.take (seqLen l)) (l.drop (seqLen l)) (fun e=>by rw[e]at hl;simp at hl;omega) (by rw[h1,hl]) hu;rwa [List.take_append_drop]at this
def RB(l:List UInt8)(r:Ending):Prop:=∃b,r=.returned (.bool b)∧(b=true↔U8 l)
theorem rright(s:ByteArray)(w:World)(hs:s.size≤140737488351232):Calls Tryd.prog 25 #[.string s] w fun r w'=>RB s.data.toList r∧w'=w:=by
 go_enter Tryd.func25,Tryd.ntmps25;go_wp2;go_loopw [3] (fun iv wr=>∃j:Nat,iv=.int .i64 (j:Int)∧j≤s.size∧wr=w∧(U8 (sfx s j)↔U8 s.data.toList)) (fun iv _=>s.size-(intOf iv).toNat)
 case atStart=>exact⟨0,rfl,Nat.zero_le _,rfl,Iff.rfl⟩
 case round=>
  obtain⟨j,rfl,hj,rfl,hU⟩:=hrel;by_cases hlt:j<s.size
  ·have k1:(j:Int)<(s.size:Int):=by omega
   have hq:=rsequence s j wr hlt hs;have hne:sfx s j≠[]:=fun e=>by have:=congrArg List.length e;rw[sfx_length]at this;simp at this;omega
   by_cases h0:seqLen (sfx s j)=0
   ·have HU:=hidR (fun h=>u8_none _ hne h0 (hU.2 h))
    rw[h0]at hq;clear hU hne h0;go_wp2_with (go_at_call 41;refine hq.mono ?_;rintro e w' ⟨rfl,rfl⟩)
    go_ret;exact⟨⟨false,rfl,by simpa using HU.out⟩,rfl⟩
   ·have h2:=(seqLen_take _ h0).2
    rw[sfx_length]at h2;have HU:=hidR ((u8_step _ h0).symm.trans hU);rw[sfx_drop]at HU;generalize seqLen (sfx s j)=q at *;have k2:¬((q:Int)=0):=by omega
    clear hU hne;go_wp2_with (go_at_call 41;refine hq.mono ?_;rintro e w' ⟨rfl,rfl⟩)
    go_roundw
    case rel=>exact⟨j+q,by go_num,by omega,(by first|rfl|trivial),HU.out⟩
    case measure=>simp[intOf];omega
  ·obtain rfl:j=s.size:=by omega
   have k1:¬(s.size:Int)<(s.size:Int):=by omega
   have HU:=hidR (hU.1 (by rw[sfx_nil s s.size (Nat.le_refl _)];exact .nil));clear hU;go_wp2;go_ret;exact⟨⟨true,rfl,by simpa using HU.out⟩,rfl⟩
def seqNat(n b0 b1 b2 b3:Nat):Nat:=
 if b0<128 then 1
 else if b0<194∨244<b0 then 0
 else if(1<n∧seqLo b0≤b1∧b1≤seqHi b0)∧(seqN b0≤2∨(2<n∧128≤b2∧b2≤191))∧(seqN b0≤3∨(3<n∧128≤b3∧b3≤191))then seqN b0 else 0
theorem dec_zero(n b0 b1 b2 b3:Nat)(hn:1≤n)(h0:b0<256)(h1:b1<256)(h2:b2<256)(h3:b3<256)(h:seqNat n b0 b1 b2 b3=0):Lib.decodeN n b0 b1 b2 b3=(65533,1):=by
 unfold seqNat seqLo seqHi seqN at h;unfold Lib.decodeN;repeat' split at h
 all_goals (try (exfalso;omega))
 all_goals (repeat' split)
 all_goals first|rfl|(exfalso;omega)
theorem dec_some(n b0 b1 b2 b3:Nat)(hn:1≤n)(h0:b0<256)(h1:b1<256)(h2:b2<256)(h3:b3<256)(h:seqNat n b0 b1 b2 b3≠0):(Lib.decodeN n b0 b1 b2 b3).2=seqNat n b0 b1 b2 b3∧¬((Lib.decodeN n b0 b1 b2 b3).1=65533∧(Lib.decodeN n b0 b1 b2 b3).2=1)∧(Lib.decodeN n b0 b1 b2 b3).1<1114112:=by
 generalize hq:seqNat n b0 b1 b2 b3=q at h ⊢;unfold seqNat seqLo seqHi seqN at hq;unfold Lib.decodeN;repeat' split at hq
 all_goals (try (exfalso;omega))
 all_goals (repeat' split)
 all_goals first|(exfalso;omega)|(refine⟨?_,?_,?_⟩<;>simp only<;>omega)
theorem goes_get(t:ByteArray)(k lo hi:Nat)(hlo:0<lo):goesL (sfx t 0) k lo hi=decide (k<t.size∧lo≤(t.get! k).toNat∧(t.get! k).toNat≤hi):=by
 by_cases h:k<t.size
 ·rw[goesL,show(sfx t 0)[k]?=some t[k]by have:=sfx_get t 0 k (by omega);simpa using this,Utf8W.get!_of_lt t k h]
  simp[h]
 ·rw[goesL,sfx_get_none t 0 k (by omega)];simp[h]
theorem seqLen_nat(t:ByteArray)(h:0<t.size):seqLen (sfx t 0)=seqNat t.size (t.get! 0).toNat (t.get! 1).toNat (t.get! 2).toNat (t.get! 3).toNat:=by
 have e0:sfx t 0=t[0]::sfx t 1:=sfx_cons t 0 h;have g0:t.get! 0=t[0]:=Utf8W.get!_of_lt t 0 h;have lo0:0<seqLo t[0].toNat:=by unfold seqLo;(repeat' split)<;>omega
 have e1:=goes_get t 1 (seqLo t[0].toNat) (seqHi t[0].toNat) lo0;have e2:=goes_get t 2 128 191 (by omega);have e3:=goes_get t 3 128 191 (by omega);rw[e0]at e1 e2 e3 ⊢;rw[seqLen,seqNat,g0,e1,e2,e3];simp only[Bool.and_eq_true,Bool.or_eq_true,decide_eq_true_eq,and_assoc]
theorem dec_list(t:ByteArray)(ht:0<t.size):(seqLen (sfx t 0)=0→Utf8.decode t 0=(65533,1))∧(seqLen (sfx t 0)≠0→(Utf8.decode t 0).2=seqLen (sfx t 0)∧¬((Utf8.decode t 0).1=65533∧(Utf8.decode t 0).2=1)):=by
 rw[seqLen_nat t ht,Lib.decode_at];have b:∀k,(t.get! k).toNat<256:=fun k=>(t.get! k).toNat_lt
 exact⟨fun h=>dec_zero t.size _ _ _ _ (by omega) (b 0) (b 1) (b 2) (b 3) h,fun h=>⟨(dec_some t.size _ _ _ _ (by omega) (b 0) (b 1) (b 2) (b 3) h).1,(dec_some t.size _ _ _ _ (by omega) (b 0) (b 1) (b 2) (b 3) h).2.1⟩⟩
theorem valid_go:∀(n:Nat) (l:List UInt8),l.length≤n→(Lib.validGoD n l=true↔U8 l)
 | 0,l,h=>by
   obtain rfl:l=[]:=List.eq_nil_of_length_eq_zero (by omega);exact⟨fun _=>.nil,fun _=>rfl⟩
 | n+1,l,h=>by
   by_cases h0:l=[]
   ·subst h0;exact⟨fun _=>.nil,fun _=>rfl⟩
   ·have hp:=List.length_pos_iff.2 h0
    have hd:=dec_list ⟨l.toArray⟩ (by show 0<l.toArray.size;simpa using hp);have e:sfx ⟨l.toArray⟩ 0=l:=by simp[sfx]
    rw[e]at hd;rw[Lib.validGoD,if_neg h0];unfold Lib.decodeL;by_cases hs:seqLen l=0
    ·rw[hd.1 hs]
     exact⟨fun h=>by simp at h,fun h=>absurd h (u8_none l h0 hs)⟩
    ·obtain⟨e2,e3⟩:=hd.2 hs
     rw[if_neg e3,e2,u8_step l hs];exact valid_go n _ (by rw[List.length_drop];omega)
theorem valid_u8(l:List UInt8):Lib.validD l=true↔U8 l:=valid_go l.length l (Nat.le_refl _)
end Go.Proofs.YtbllepoagnfjnaaDoor
