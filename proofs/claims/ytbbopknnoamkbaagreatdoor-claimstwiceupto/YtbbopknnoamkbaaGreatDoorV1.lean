import Derived.Test.YtbbopknnoamkbaaGreatDoorNSeq
import Derived.Test.YtbbopknnoamkbaaGreatDoorG1
import Derived.Test.YtbbopknnoamkbaaGreatDoorK2
import Derived.Lib.ValidU
namespace Go.Proofs.YtbbopknnoamkbaaGreatDoor
open Go.RowKit
set_option linter.unusedVariables false
theorem hidR{p:Prop}(h:p):Hid p:=h
theorem u8_none(l:List UInt8)(h0:l≠[])(h:seqLen l=0):¬U8 l:=fun hu=>by
 cases hu with
 | nil=>exact h0 rfl
 | cons a r ha hs _=>
   rw[seqLen_app a r ha hs]at h;exact ha (List.length_eq_zero_iff.1 h)
theorem u8_step(l:List UInt8)(h:seqLen l≠0):U8 l↔U8 (l.drop (seqLen l)):=by
 constructor
 ·intro hu
  cases hu with
  | nil=>exact absurd rfl h
  | cons a r ha hs hr=>rw[seqLen_app a r ha hs,List.drop_left' rfl];exact hr
 ·intro hu
  obtain⟨h1,h2⟩:=seqLen_take l h;have hl:(l.take (seqLen l)).length=seqLen l:=by rw[List.length_take];omega
  have:=U8.cons (l.take (seqLen l)) (l.drop (seqLen l)) (fun e=>by rw[e]at hl;simp at hl;omega) (by rw[h1,hl]) hu;rwa [List.take_append_drop]at this
def RB(l:List UInt8)(r:Ending):Prop:=∃b,r=.returned (.bool b)∧(b=true↔U8 l)
set_option maxRecDepth 4000 in
set_option maxHeartbeats 2000000 in
theorem rright(s:ByteArray)(w:World)(hs:s.size≤140737488351232):Calls Tryz.prog 23 #[.string s] w fun r w'=>RB s.data.toList r∧w'=w:=by
 go_enter Tryz.func23,Tryz.ntmps23;go_wp2;go_loopw [3] (fun iv wr=>∃j:Nat,iv=.int .i64 (j:Int)∧j≤s.size∧wr=w∧(U8 (sfx s j)↔U8 s.data.toList)) (fun iv _=>s.size-(intOf iv).toNat)
 case atStart=>exact⟨0,rfl,Nat.zero_le _,rfl,Iff.rfl⟩
 case round=>
  obtain⟨j,rfl,hj,rfl,hU⟩:=hrel;by_cases hlt:j<s.size
  ·have k1:(j:Int)<(s.size:Int):=by omega
   have hq:=rsequence s j wr hlt hs;have hne:sfx s j≠[]:=fun e=>by have:=congrArg List.length e;rw[sfx_length]at this;simp at this;omega
   by_cases h0:seqLen (sfx s j)=0
   ·have HU:=hidR (fun h=>u8_none _ hne h0 (hU.2 h))
    rw[h0]at hq;clear hU hne h0;go_wp2_with (go_at_call 44;refine hq.mono ?_;rintro e w' ⟨rfl,rfl⟩)
    go_ret;exact⟨⟨false,rfl,by simpa using HU.out⟩,rfl⟩
   ·have h2:=(seqLen_take _ h0).2
    rw[sfx_length]at h2;have HU:=hidR ((u8_step _ h0).symm.trans hU);rw[sfx_drop]at HU;generalize seqLen (sfx s j)=q at *;have k2:¬((q:Int)=0):=by omega
    clear hU hne;go_wp2_with (go_at_call 44;refine hq.mono ?_;rintro e w' ⟨rfl,rfl⟩)
    go_roundw
    case rel=>exact⟨j+q,by go_num,by omega,(by first|rfl|trivial),HU.out⟩
    case measure=>simp[intOf];omega
  ·obtain rfl:j=s.size:=by omega
   have k1:¬(s.size:Int)<(s.size:Int):=by omega
   have HU:=hidR (hU.1 (by rw[sfx_nil s s.size (Nat.le_refl _)];exact .nil));clear hU;go_wp2;go_ret;exact⟨⟨true,rfl,by simpa using HU.out⟩,rfl⟩
theorem dec_list(t:ByteArray)(ht:0<t.size):(seqLen (sfx t 0)=0→Utf8.decode t 0=(65533,1))∧(seqLen (sfx t 0)≠0→(Utf8.decode t 0).2=seqLen (sfx t 0)∧¬((Utf8.decode t 0).1=65533∧(Utf8.decode t 0).2=1)):=by
 rw[seqLen_nat t ht,Lib.decode_at];have b:∀k,(t.get! k).toNat<256:=fun k=>(t.get! k).toNat_lt
 exact⟨fun h=>dec_zero t.size _ _ _ _ (by omega) (b 0) (b 1) (b 2) (b 3) h,fun h=>⟨(dec_some t.size _ _ _ _ (by omega) (b 0) (b 1) (b 2) (b 3) h).1,(dec_some t.size _ _ _ _ (by omega) (b 0) (b 1) (b 2) (b 3) h).2.1⟩⟩
theorem valid_go:∀(n:Nat) (l:List UInt8),l.length≤n→(Lib.validGoD n l=true↔U8 l)
 | 0,l,h=>by
   obtain rfl:l=[]:=List.eq_nil_of_length_eq_zero (by omega);exact⟨fun _=>.nil,fun _=>rfl⟩
 | n+1,l,h=>by
   by_cases h0:l=[]
   ·subst h0;exact⟨fun _=>.nil,fun _=>rfl⟩
   ·have hp:=List.length_pos_iff.2 h0
    have hd:=dec_list ⟨l.toArray⟩ (by show 0<l.toArray.size;simpa using hp);have e:sfx ⟨l.toArray⟩ 0=l:=by simp[sfx]
    rw[e]at hd;rw[Lib.validGoD,if_neg h0];unfold Lib.decodeL;by_cases hs:seqLen l=0
    ·rw[hd.1 hs]
     exact⟨fun h=>by simp at h,fun h=>absurd h (u8_none l h0 hs)⟩
    ·obtain⟨e2,e3⟩:=hd.2 hs
     rw[if_neg e3,e2,u8_step l hs];exact valid_go n _ (by rw[List.length_drop];omega)
theorem valid_u8(l:List UInt8):Lib.validD l=true↔U8 l:=valid_go l.length l (Nat.le_refl _)
end Go.Proofs.YtbbopknnoamkbaaGreatDoor
