import Derived.Test.YtbbopknnoamkbaaGreatDoorX5
import Derived.Test.YtbbopknnoamkbaaGreatDoorN5
import Derived.Test.YtbbopknnoamkbaaGreatDoorU2
set_option maxHeartbeats 4000000
set_option maxRecDepth 100000
namespace Go.Proofs.YtbbopknnoamkbaaGreatDoor
open Go.RowKit
set_option linter.unusedVariables false
theorem u8_none(l:List UInt8)(h0:l≠[])(h:seqLen l=0):¬U8 l:=fun hu=>by
 cases hu with
 | nil=>exact h0 rfl
 | cons a r ha hs _=>
   rw[seqLen_app a r ha hs]at h;exact ha (List.length_eq_zero_iff.1 h)
theorem u8_step(l:List UInt8)(h:seqLen l≠0):U8 l↔U8 (l.drop (seqLen l)):=by
 constructor
 ·intro hu
  cases hu with
  | nil=>exact absurd rfl h
  | cons a r ha hs hr=>rw[seqLen_app a r ha hs,List.drop_left' rfl];exact hr
 ·intro hu
  obtain⟨h1,h2⟩:=seqLen_take l h;have hl:(l.take (seqLen l)).length=seqLen l:=by rw[List.length_take];omega
  have:=U8.cons (l.take (seqLen l)) (l.drop (seqLen l)) (fun e=>by rw[e]at hl;simp at hl;omega) (by rw[h1,hl]) hu;rwa [List.take_append_drop]at this
def RB(l:List UInt8)(r:Ending):Prop:=∃b,r=.returned (.bool b)∧(b=true↔U8 l)
theorem rright(s:ByteArray)(w:World)(hs:s.size≤140737488351232):Calls Tryz.prog 23 #[.string s] w fun r w'=>RB s.data.toList r∧w'=w:=by
 go_enter Tryz.func23,Tryz.ntmps23;go_wp2;go_loopw [3] (fun iv wr=>∃j:Nat,iv=.int .i64 (j:Int)∧j≤s.size∧wr=w∧(U8 (sfx s j)↔U8 s.data.toList)) (fun iv _=>s.size-(intOf iv).toNat)
 case atStart=>exact⟨0,rfl,Nat.zero_le _,rfl,Iff.rfl⟩
 case round=>
  obtain⟨j,rfl,hj,rfl,hU⟩:=hrel;by_cases hlt:j<s.size
  ·have k1:(j:Int)<(s.size:Int):=by omega
   have hq:=rsequence s j wr hlt hs;have hne:sfx s j≠[]:=fun e=>by have:=congrArg List.length e;rw[sfx_length]at this;simp at this;omega
   by_cases h0:seqLen (sfx s j)=0
   ·have HU:=Lib.hid (fun h=>u8_none _ hne h0 (hU.2 h))
    rw[h0]at hq;clear hU hne h0;go_wp2_with (go_at_call 44;refine hq.mono ?_;rintro e w' ⟨rfl,rfl⟩)
    go_ret;exact⟨⟨false,rfl,by simpa using HU.out⟩,rfl⟩
   ·have h2:=(seqLen_take _ h0).2
    rw[sfx_length]at h2;have HU:=Lib.hid ((u8_step _ h0).symm.trans hU);rw[sfx_drop]at HU;generalize seqLen (sfx s j)=q at *;have k2:¬((q:Int)=0):=by omega
    clear hU hne;go_wp2_with (go_at_call 44;refine hq.mono ?_;rintro e w' ⟨rfl,rfl⟩)
    go_roundw
    case rel=>exact⟨j+q,by go_num,by omega,(by first|rfl|trivial),HU.out⟩
    case measure=>simp[intOf];omega
  ·obtain rfl:j=s.size:=by omega
   have k1:¬(s.size:Int)<(s.size:Int):=by omega
   have HU:=Lib.hid (hU.1 (by rw[sfx_nil s s.size (Nat.le_refl _)];exact .nil));clear hU;go_wp2;go_ret;exact⟨⟨true,rfl,by simpa using HU.out⟩,rfl⟩
theorem ba_eta(s:ByteArray):(⟨s.data.toList.toArray⟩:ByteArray)=s:=by simp
theorem byte_is{c d:UInt8}(h:c=d):((c.toNat:Int)==(d.toNat:Int))=true:=by subst h;simp
theorem byte_no{c d:UInt8}(h:¬c=d):((c.toNat:Int)==(d.toNat:Int))=false:=by
 have:¬c.toNat=d.toNat:=fun e=>h (UInt8.toNat_inj.1 e)
 simp;omega
theorem quoted_list(s:ByteArray):((⟨#[34]⟩:ByteArray)++s++⟨#[34]⟩).data.toList=34::s.data.toList++[34]:=by simp
theorem lstrings(s:ByteArray)(w:World)(hg:9≤w.heap.size)(hG:GV w)(htab:Lib.TabBelow Tryz.prog w.heap.size w "internal/strconv.uint64pow10" .u64 Lib.pow10Tab)(hs:s.size≤140737488351232):Calls Tryz.prog 8 #[.string s] w fun r w'=>r=.returned (.bool true)∧Below w.heap.size w w':=by
 have hrt:=rright s w hs;have hnm:=fun e w'=>lnumN e w'
 by_cases hbig:65536<6*s.size+2
 ·have i1:(65536:Int)<6*(s.size:Int)+2:=by omega
  go_enter Tryz.func8,Tryz.ntmps8;go_wp2_with (go_at_call 23;refine hrt.mono ?_;rintro e w' ⟨⟨b,rfl,_⟩,rfl⟩)
  go_ret;exact⟨rfl,Below.refl _ _⟩
 ·have i1:decide ((65536:Int)<6*(s.size:Int)+2)=false:=by simp;omega
  have HBIG:=Lib.hid hbig;clear hbig;by_cases hu:U8 s.data.toList
  ·have hst:=rstrT s w (by have:=HBIG.out;omega)
   have hlenT:(strT s.data.toList).length≤65536:=by have:=strT_len s.data.toList;simp at this;have:=HBIG.out;omega
   have hR:=readL_strT hu hlenT;have hdl:(⟨(strT s.data.toList).toArray⟩:ByteArray).data.toList=strT s.data.toList:=by simp
   have e1:prF (.ok (.str s.data.toList 0))=(strT s.data.toList,0,0):=by unfold prF;simp only;rw[form_str]
   have hpr:∀w1,Below w.heap.size w w1→Calls Tryz.prog 16 #[.string ⟨(strT s.data.toList).toArray⟩] w1 fun r w'=>r=.returned (.tuple #[.string ⟨(strT s.data.toList).toArray⟩,.int .i64 0,.int .i64 0])∧Below w1.heap.size w1 w':=fun w1 b1=>by
    have hz:=b1.size;have:=cprint ⟨(strT s.data.toList).toArray⟩ w1 (by omega) (hG.kept fun k hk=>b1.block k (by omega)) (fun w' hb=>htab w' (b1.trans (hb.mono hz)));rw[hdl,hR,e1]at this;exact this
   have hpa:∀w1,Below w.heap.size w w1→Calls Tryz.prog 19 #[.string ⟨(strT s.data.toList).toArray⟩] w1 fun r w'=>(∃v kvs,r=.returned (.tuple #[v,.int .i64 0,.int .i64 0])∧NK (w1.heap.size+1) 42 v kvs [⟨3,[],s.data.toList,0,[],0⟩] w')∧Below w1.heap.size w1 w':=fun w1 b1=>by
    have hz:=b1.size;have:=cparse ⟨(strT s.data.toList).toArray⟩ w1 (by omega) (hG.kept fun k hk=>b1.block k (by omega));rw[hdl,hR]at this;exact this
   generalize (⟨(strT s.data.toList).toArray⟩:ByteArray)=T at hst hpr hpa;have HPR:=Lib.hid hpr;have HPA:=Lib.hid hpa;have HU:=Lib.hid hu;clear hpr hpa hu hG htab hR hdl e1 hlenT;go_enter Tryz.func8,Tryz.ntmps8;go_wp2_with fail
   refine hrt.mono ?_;rintro r w' ⟨⟨b,rfl,hb⟩,rfl⟩;obtain rfl:b=true:=hb.2 HU.out;clear hb hrt;go_wp2_with fail
   refine hst.mono ?_;rintro r w1 ⟨rfl,b1⟩;have B1:=Lib.hid b1;have hq:=HPA.out w1 b1;clear b1 hst;go_wp2_with fail
   refine hq.mono ?_;rintro r w2 ⟨⟨v,kvs,rfl,hK⟩,b2⟩;have B2:Hid (Below w'.heap.size w' w2):=B1.out.trans (b2.mono B1.out.size);have hq2:=HPR.out w2 B2.out;obtain⟨kv,hkv⟩:∃kv,kvs[0]?=some kv:=⟨_,List.getElem?_eq_getElem (by have:=hK.1;simp at this;omega)⟩;obtain⟨g,cap,rfl⟩:∃g cap,v=.slice (some ⟨g,0,none⟩) 1 cap:=by
    rcases hK.2.1.2 with⟨_,b⟩|⟨g,c,cu,a,_⟩
    ·simp at b
    ·exact⟨g,c,a⟩
   have hglt:g<w2.heap.size:=(ownBlock_lt hK.2.1 (g:=g) rfl).2.1;have c0:=(hK.at (g:=g) rfl (u:=0) (j:=0) (n:=⟨3,[],s.data.toList,0,[],0⟩) rfl hkv (by omega) rfl).1;have c2:=(hK.at (g:=g) rfl (u:=0) (j:=2) (n:=⟨3,[],s.data.toList,0,[],0⟩) rfl hkv (by omega) rfl).1;simp only[Nat.zero_mul,Nat.zero_add]at c0 c2;rw[ba_eta]at c2;have C0:=Lib.hid c0;have C2:=Lib.hid c2;clear b2 hq hK hkv c0 c2;go_wp2_with fail
   refine hq2.mono ?_;rintro r w3 ⟨rfl,b3⟩;have B3:Hid (Below w'.heap.size w' w3):=B2.out.trans (b3.mono B2.out.size);have c0:=(World.cell?_of_block (a:=⟨g,0,none⟩) (b3.block g hglt)).trans C0.out;have c2:=(World.cell?_of_block (a:=⟨g,2,none⟩) (b3.block g hglt)).trans C2.out;clear b3 hq2 C0 C2 hglt;go_wp2_with (go_at_call 18;refine(hnm _ _).mono ?_;rintro e w' ⟨rfl,rfl⟩)
   go_ret;exact⟨rfl,B3.out⟩
  ·have HU:=Lib.hid hu
   have hpa:(∀c∈s.data.toList,c≠34∧c≠92)→∃p:Nat,Calls Tryz.prog 19 #[.string ((⟨#[34]⟩:ByteArray)++s++⟨#[34]⟩)] w fun r w'=>r=.returned (.tuple #[.slice none 0 0,.int .i64 2,.int .i64 (p:Int)])∧Below w.heap.size w w':=fun hc=>by
    obtain⟨p,hR⟩:=readL_wrong hc hu (by have:=HBIG.out;simp;omega);refine⟨p,?_⟩;have:=cparse ((⟨#[34]⟩:ByteArray)++s++⟨#[34]⟩) w hg hG;rw[quoted_list,hR]at this;refine this.mono ?_;rintro r w' ⟨⟨rfl,_⟩,hb⟩;exact⟨rfl,hb⟩
   have HPA:=Lib.hid hpa;clear hpa hu hG htab;go_enter Tryz.func8,Tryz.ntmps8;go_wp2_with fail
   refine hrt.mono ?_;rintro r w' ⟨⟨b,rfl,hb⟩,rfl⟩;obtain rfl:b=false:=by
    cases b with
    | false=>rfl
    | true=>exact absurd (hb.1 rfl) HU.out
   clear hb hrt;go_wp2_with fail
   go_loopw [4] (fun iv wr=>∃j:Nat,iv=.int .i64 (j:Int)∧j≤s.size∧wr=w'∧∀c∈s.data.toList.take j,c≠34∧c≠92) (fun iv _=>s.size-(intOf iv).toNat)
   case atStart=>exact⟨0,rfl,Nat.zero_le _,rfl,fun c hc=>by simp at hc⟩
   case round=>
    obtain⟨j,rfl,hj,rfl,hA⟩:=hrel;have HA:=Lib.hid hA;clear hA;by_cases hlt:j<s.size
    ·have k1:(j:Int)<(s.size:Int):=by omega
     by_cases h34:s[j]=34
     ·have b34:((s[j].toNat:Int)==34)=true:=byte_is h34
      clear h34;go_wp2;go_ret;exact⟨rfl,Below.refl _ _⟩
     ·by_cases h92:s[j]=92
      ·have b34:((s[j].toNat:Int)==34)=false:=byte_no h34
       have b92:((s[j].toNat:Int)==92)=true:=byte_is h92;clear h34 h92;go_wp2;go_ret;exact⟨rfl,Below.refl _ _⟩
      ·have HB:Hid (∀c∈s.data.toList.take (j+1),c≠34∧c≠92):=fun c hc=>by
        rw[List.take_add_one,List.getElem?_eq_getElem (show j<s.data.toList.length by simpa using hlt)]at hc;rcases List.mem_append.1 hc with hc|hc
        ·exact HA.out c hc
        ·simp at hc
         subst hc;exact⟨h34,h92⟩
       have b34:((s[j].toNat:Int)==34)=false:=byte_no h34;have b92:((s[j].toNat:Int)==92)=false:=byte_no h92;clear h34 h92;go_wp2_with fail
       go_roundw
       case rel=>exact⟨j+1,by go_num,by omega,(by first|rfl|trivial),HB.out⟩
       case measure=>simp[intOf];omega
    ·obtain rfl:j=s.size:=by omega
     have k1:¬(s.size:Int)<(s.size:Int):=by omega
     obtain⟨p,hq⟩:=HPA.out (fun c hc=>HA.out c (by rw[List.take_of_length_le (by simp)];exact hc));clear HA HPA;go_wp2_with fail
     refine hq.mono ?_;rintro r w1 ⟨rfl,b1⟩;have B1:=Lib.hid b1;clear b1 hq;go_wp2_with (go_at_call 18;refine(hnm _ _).mono ?_;rintro e w' ⟨rfl,rfl⟩)
     go_ret;exact⟨rfl,B1.out⟩
end Go.Proofs.YtbbopknnoamkbaaGreatDoor
