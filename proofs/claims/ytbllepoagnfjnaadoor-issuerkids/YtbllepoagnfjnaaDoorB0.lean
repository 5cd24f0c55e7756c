import Derived.Test.YtbllepoagnfjnaaDoorJPureP
import Derived.Deep.DeepAppendWide
import Derived.Deep.RegionHeld3
import Derived.Test.YtbllepoagnfjnaaDoorProg
import Derived.WalkSpells
import Derived.WalkLawsBesides
import Derived.BigQuiet
import Derived.Laws.MakeOwn
set_option maxHeartbeats 1000000
namespace Go.Proofs.YtbllepoagnfjnaaDoor.Dg
set_option maxRecDepth 4000
open Go.RowKit
set_option linter.unusedVariables false
def signsB:ByteArray:=⟨#[65,66,67,68,69,70,71,72,73,74,75,76,77,78,79,80,81,82,83,84,85,86,87,88,89,90,97,98,99,100,101,102,103,104,105,106,107,108,109,110,111,112,113,114,115,116,117,118,119,120,121,122,48,49,50,51,52,53,54,55,56,57,45,95]⟩
def sg(n:Nat):UInt8:=signsB.data.getD n 0
def stp(k p c:Nat):List UInt8:=if k%3=0 then [sg (c/4)]else if k%3=1 then [sg (p%4*16+c/16)]else [sg (p%16*4+c/64),sg (c%64)]
def pre(d:Nat→Nat):Nat→List UInt8|0=>[]|k+1=>pre d k++stp k (d (k-1)) (d k)
def tl(d:Nat→Nat)(k:Nat):List UInt8:=if k%3=0 then []else if k%3=1 then [sg (d (k-1)%4*16)]else [sg (d (k-1)%16*4)]
def enc(d:Nat→Nat)(n:Nat):List UInt8:=pre d n++tl d n
theorem stp_length(k p c:Nat):(stp k p c).length=(if k%3=2 then 2 else 1):=by
 unfold stp;have:k%3=0∨k%3=1∨k%3=2:=by omega
 rcases this with h|h|h<;>simp[h]
theorem pre_length(d:Nat→Nat)(k:Nat):(pre d k).length=4*(k/3)+k%3:=by
 induction k with
 | zero=>rfl
 | succ k ih=>
   rw[pre,List.length_append,ih,stp_length];split<;>omega
theorem tl_length(d:Nat→Nat)(k:Nat):(tl d k).length=(if k%3=0 then 0 else 1):=by
 unfold tl;have:k%3=0∨k%3=1∨k%3=2:=by omega
 rcases this with h|h|h<;>simp[h]
theorem enc_length(d:Nat→Nat)(k:Nat):(enc d k).length=(4*k+2)/3:=by
 rw[enc,List.length_append,pre_length,tl_length];have h3:k%3=0∨k%3=1∨k%3=2:=by omega
 rcases h3 with h|h|h<;>simp[h]<;>omega
def dB(s:ByteArray)(k:Nat):Nat:=(s.data.getD k 0).toNat
theorem dB_at(s:ByteArray)(k:Nat)(h:k<s.size):dB s k=(s[k]'h).toNat:=by
 unfold dB;have h':k<s.data.size:=h;rw[Array.getD_eq_getD_getElem?,Array.getElem?_eq_getElem h'];rfl
theorem dB_lt(s:ByteArray)(k:Nat):dB s k<256:=(s.data.getD k 0).toNat_lt
theorem or_byte(x:BitVec 32)(b:Nat)(hb:b<256):(x<<<8|||BitVec.ofNat 32 b).toNat=x.toNat*256%4294967296+b:=by
 rw[BitVec.toNat_or,BitVec.toNat_shiftLeft,BitVec.toNat_ofNat,Nat.shiftLeft_eq];have e1:x.toNat*2^8%2^32=(x.toNat%2^24)<<<8:=by rw[Nat.shiftLeft_eq];omega
 have e2:b%2^32=b:=by omega
 rw[e1,e2,←Nat.shiftLeft_add_eq_or_of_lt (by omega),Nat.shiftLeft_eq]
theorem take_grp(x:BitVec 32)(k p c j m:Nat)(hc:c<256)(hp:0<k→x.toNat%256=p)(hm:6*j+m=2*(k%3)+8)(h6:6≤m):(stp k p c).take (j+1)=(stp k p c).take j++[sg (((x<<<8|||BitVec.ofNat 32 c)>>>(m-6)).toNat%64)]:=by
 rw[BitVec.toNat_ushiftRight,or_byte x c hc,Nat.shiftRight_eq_div_pow];unfold stp;have h3:k%3=0∨k%3=1∨k%3=2:=by omega
 rcases h3 with h|h|h
 ·obtain rfl:j=0:=by omega
  obtain rfl:m=8:=by omega
  simp[h];congr 1;omega
 ·obtain rfl:j=0:=by omega
  obtain rfl:m=10:=by omega
  have:=hp (by omega);simp[h];congr 1;omega
 ·have:=hp (by omega)
  have hj:j=0∨j=1:=by omega
  rcases hj with rfl|rfl
  ·obtain rfl:m=12:=by omega
   simp[h];congr 1;omega
  ·obtain rfl:m=6:=by omega
   simp[h];congr 1;omega
theorem take_end(k p c j m:Nat)(hm:6*j+m=2*(k%3)+8)(h6:m<6):(stp k p c).take j=stp k p c∧m=2*((k+1)%3):=by
 refine⟨List.take_of_length_le ?_,by omega⟩;rw[stp_length];split<;>omega
theorem tl_grp(x:BitVec 32)(d:Nat→Nat)(k:Nat)(hp:0<k→x.toNat%256=d (k-1))(h0:2*(k%3)≠0):tl d k=[sg ((x<<<(6-2*(k%3))).toNat%64)]:=by
 rw[BitVec.toNat_shiftLeft,Nat.shiftLeft_eq];unfold tl;have:=hp (by omega);have h3:k%3=1∨k%3=2:=by omega
 rcases h3 with h|h
 ·simp[h];congr 1;omega
 ·simp[h];congr 1;omega
theorem appW{P:Program}(W:World)(t ty e:TypeId)(i:TypeInfo)(ht:P.underlying t=some (.slice e))(hi:P.info? e=some i)(hz:i.zero=some (.int .u8 0))(hsize:i.size=1)(hby:i.bytes=1)(B:Nat)(v:Value)(l:List UInt8)(b:UInt8)(ad:Addr)(hown:OwnB B e v l W)(hB:B≤W.heap.size)(hlen:l.length+1≤220000000000000)(hnew:∀j u,[byteV b][j]?=some u→W.cell? (ad.add j)=some u):∃v' w',(Builtin.append_ #[t,t] ty #[v,.slice (some ad) 1 1]).run P W=.ok v' w'∧OwnB B e v' (l++[b]) w'∧Below B W w':=by
 have hW:Below B W W:=Below.refl _ _;have h63:l.length+1≤maxLen:=by unfold maxLen;omega
 rcases hown with⟨rfl,rfl⟩|⟨g,cap,cur,fz,rfl,hBg,hg,hfz,hlc,hcm,hcs,htk⟩
 ·obtain⟨v',w',r1,r2,r3,_⟩:=run_append_own (P:=P) W B t ty e i (.int .u8 0) 1 1 ht hi hz hsize hby rfl (by decide) (.slice none 0 0) 0 [] ⟨by simp,.inl ⟨rfl,rfl⟩⟩ ad 1 1 [byteV b] rfl hnew
   (by intro u hu;simp at hu;subst hu;rfl) (by unfold maxLen;omega) (by omega) (by omega)
  refine⟨v',w',r1,?_,hW.trans ⟨r3.os,r3.tape,r3.output,r3.size,fun k hk=>r3.block k (by omega) (by simp[Value.ownBlock])⟩⟩;rcases r2.2 with⟨_,h0⟩|⟨g,cap,cur,hv,hb,hg,hn,hm,hs,htake⟩
  ·omega
  ·exact .inr ⟨g,cap,cur,(0,0),hv,hb,hg,.inl (Nat.zero_le _),hn,hm,by omega,by simpa using htake⟩
 ·by_cases hroom:l.length+1≤cap
  ·have hf:=run_firstCells_some (P:=P) W 1 1 ad 1 1 [byteV b] rfl hnew
   have hcell:W.cell? ⟨g,l.length,none⟩=some cur[l.length]:=by simp[World.cell?,hg]
   have hfro:W.frozen? ⟨g,l.length,none⟩=false:=by
    obtain⟨lo,hi'⟩:=fz;simp only[World.frozen?,hg,Bool.and_eq_false_iff,decide_eq_false_iff_not];simp only at hfz;omega
   have hadd:(⟨g,l.length,none⟩:Addr).add 0=⟨g,l.length,none⟩:=by unfold Addr.add;split<;>simp_all
   have hst:(storeCells ⟨g,l.length,none⟩ [byteV b] 0).run P W=.ok () (W.setRow g (cur.setIfInBounds l.length (byteV b))):=by
    simp only[storeCells,Sem.run_bind,hadd];rw[run_store P W _ (byteV b) _ rfl,hcell];simp[hfro,setCell_eq_setRow W g l.length cur e fz (byteV b) hg]
   refine⟨.slice (some ⟨g,0,none⟩) (l.length+1) cap,W.setRow g (cur.setIfInBounds l.length (byteV b)),?_,?_,below_setRow hW hBg _⟩
   ·simp[Builtin.append_,run_underlying ht,sizeOf,typeInfo,hi,hsize,Builtin.lenOf,hroom,hf,Addr.add_lit,hst]
   ·refine .inr ⟨g,cap,_,fz,by simp,hBg,setRow_heap W g cur _ e _ hg,?_,by simpa using hroom,hcm,by simpa using hcs,?_⟩
    ·rcases hfz with h|h
     ·left;simp;omega
     ·exact .inr h
    ·rw[List.length_append,List.length_singleton,Array.toList_setIfInBounds,List.take_succ_eq_append_getElem (by simp;omega)]
     rw[List.take_set_of_le (Nat.le_refl _),htk];simp
  ·have holds:=OwnB.cells (B:=B) (cap:=cap) hg htk
   have hr:=run_append_grow (P:=P) W t ty e i (.int .u8 0) ht hi hz ⟨g,0,none⟩ l.length cap (l.map byteV) (by rw[hsize];simp) holds ad 1 1 [byteV b] (by rw[hsize];rfl) hnew (by omega) (by unfold maxLen at h63;omega)
    (by rw[hby];exact growslice_fits_wide (by omega) (by omega))
   refine⟨_,_,hr,grown_own (P:=P) W e B l b _ (by omega) (grownCap_ge W _ _ e) (grownCap_le_maxLen W _ _ e h63),?_⟩;exact(hW.drew).alloc (by show B≤W.heap.size;omega) _
theorem new_cell{w:World}(v:Value)(e:TypeId)(n:Nat):∀j u,[v][j]?=some u→((w.alloc (.cells #[v] e)).drewN n).cell? ((⟨w.heap.size,0,none⟩:Addr).add j)=some u:=by
 intro j u hu;exact one_cell w v e j u hu
theorem wp_appW{P:Program}{ops:Array Oper}{rest:List Oper}{o:Oper}{a:Act}{Q:Exit→Act→World→Prop}{w:World}(hgd:o.guard=none)(s x:Operand)(t:TypeId)(ho:o.op=.call {callee:=.builtin .append,args:= #[s,x],argTypes:= #[t,t]})
 (e:TypeId) (i:TypeInfo) (ht:P.underlying t=some (.slice e)) (hi:P.info? e=some i) (hz:i.zero=some (.int .u8 0)) (hsize:i.size=1) (hby:i.bytes=1)
 (B:Nat) (v:Value) (l:List UInt8) (b:UInt8) (ad:Addr) (hs:a.eval s=v) (hx:a.eval x=.slice (some ad) 1 1) (hlen:l.length+1≤220000000000000)
 (hown:OwnB B e v l w) (hB:B≤w.heap.size)
 (hnew:∀j u,[byteV b][j]?=some u→w.cell? (ad.add j)=some u)
 (h:∀v' w',OwnB B e v' (l++[b]) w'→Below B w w'→wpList P ops Q rest (a.put o.dst v') w'):wpList P ops Q (o::rest) a w:=by
 refine wpList_plain hgd fun K hK=>?_
 obtain⟨v',w',hr,h2,h3⟩:=appW (P:=P) w t o.type e i ht hi hz hsize hby B v l b ad hown hB hlen hnew;unfold Oper.wp execOp;simp only[ho,resolve,invoke,builtin,Sem.run_bind,Sem.run_pure,Result.andThen_ok,List.map_toArray,List.map_cons,List.map_nil,hs,hx,hr];exact hK _ _ (h v' w' h2 h3)
theorem stepW{P:Program}{ops:Array Oper}{o:Oper}{a:Act}{w:World}{K:Act→World→Prop}{Q:Exit→Act→World→Prop}{E:Prop}(hgd:o.guard=none)(s x:Operand)(t:TypeId)(ho:o.op=.call {callee:=.builtin .append,args:= #[s,x],argTypes:= #[t,t]})
 (e:TypeId) (i:TypeInfo) (ht:P.underlying t=some (.slice e)) (hi:P.info? e=some i) (hz:i.zero=some (.int .u8 0)) (hsize:i.size=1) (hby:i.bytes=1)
 (B:Nat) (v:Value) (l:List UInt8) (b:UInt8) (ad:Addr) (hs:a.eval s=v) (hx:a.eval x=.slice (some ad) 1 1) (hlen:l.length+1≤220000000000000)
 (hown:OwnB B e v l w) (hB:B≤w.heap.size)
 (hnew:∀j u,[byteV b][j]?=some u→w.cell? (ad.add j)=some u)
 (h:∀v' w',OwnB B e v' (l++[b]) w'→Below B w w'→K (a.put o.dst v') w'):
 if Region.wanted o (yielded ops a.tmps)=true then Oper.wp P o a w K Q else E:=by
 have hw:Region.wanted o (yielded ops a.tmps)=true:=by simp[Region.wanted,hgd]
 rw[if_pos hw];obtain⟨v',w',hr,h2,h3⟩:=appW (P:=P) w t o.type e i ht hi hz hsize hby B v l b ad hown hB hlen hnew;unfold Oper.wp execOp;simp only[ho,resolve,invoke,builtin,Sem.run_bind,Sem.run_pure,Result.andThen_ok,List.map_toArray,List.map_cons,List.map_nil,hs,hx,hr];exact h v' w' h2 h3
section
def lo6(x:BitVec 32):Nat:=x.toNat%64
theorem lo6_lt(x:BitVec 32):lo6 x<64:=Nat.mod_lt _ (by omega)
theorem and63(x:BitVec 32):bits .and .u32 (eW x) 63=(lo6 x:Int):=by
 have e:(63:Int)=eW 63#32:=rfl;rw[e,and32];unfold eW lo6;rw[BitVec.toNat_and];have:=Nat.and_two_pow_sub_one_eq_mod x.toNat 6;exact congrArg Int.ofNat this
attribute [local go_sem] and63
theorem sg_at(n:Nat)(h:n<64):sg n=signsB[n]'h:=by
 unfold sg;rw[Array.getD_eq_getD_getElem?,Array.getElem?_eq_getElem (by exact h)];rfl
theorem sign_any(x:BitVec 32)(w:World):Calls Tryd.prog 67 #[.int .u32 (eW x)] w fun e w'=>e=.returned (.int .u8 ((sg (lo6 x)).toNat:Int))∧w'=w:=by
 have h0:=lo6_lt x;have h1:(lo6 x:Int)<64:=by omega
 go_enter Tryd.func67,Tryd.ntmps67;go_wp2;go_ret;refine⟨?_,rfl⟩;rw[sg_at _ h0];rfl
end
section
theorem or_b(x:BitVec 32)(b:UInt8):bits .or .u32 (eW x*256%4294967296) ((b.toNat:Int)%4294967296)=eW (x<<<8|||BitVec.ofNat 32 b.toNat):=by
 have e:(b.toNat:Int)%4294967296=eW (BitVec.ofNat 32 b.toNat):=by
  unfold eW;rw[BitVec.toNat_ofNat];have:=b.toNat_lt;omega
 have e2:eW x*(256:Int)%(4294967296:Int)=eW (x<<<8):=by have:=shl32 x 8;rw[IntKind.wrap_u32']at this;exact this
 rw[e,e2,or32]
theorem shl_m(x:BitVec 32)(n:Nat):eW x*(2:Int)^n%(4294967296:Int)=eW (x<<<n):=by have:=shl32 x n;rw[IntKind.wrap_u32']at this;exact this
attribute [local go_sem] shr_eW shr_eW_min or_b shl32 shl_m
theorem u8infoB:(Tryd.prog.info? 5).map (fun i=>(i.zero,i.size,i.bytes))=some (some (.int .u8 0),1,1):=by kernel_rfl
theorem own_made(w:World)(e:TypeId)(c:Nat)(hc:c≤maxLen)(cur:Array Value)(hs:cur.size=c):OwnB w.heap.size e (.slice (some ⟨w.heap.size,0,none⟩) 0 c) [] (w.alloc (.cells cur e)):=
 .inr ⟨w.heap.size,c,cur,(0,0),rfl,Nat.le_refl _,heap_alloc_new _ _,.inl (Nat.zero_le _),Nat.zero_le _,hc,hs,by simp⟩
theorem _root_.Go.Proofs.YtbllepoagnfjnaaDoor.OwnB.alloc_own{B:Nat}{e:TypeId}{v:Value}{l:List UInt8}{w:World}(h:OwnB B e v l w)(o:Obj):OwnB B e v l (w.alloc o):=
 h.below (bal (brf w) o) (Nat.le_refl _)
theorem encode_any(s:ByteArray)(w:World)(hs:s.size≤140737488351232):Calls Tryd.prog 57 #[.string s] w fun e w'=>e=.returned (.string ⟨(enc (dB s) s.size).toArray⟩)∧Below w.heap.size w w':=by
 obtain⟨i0,hi,hz0,hz1,hz2⟩:=info_parts u8infoB;have hmk:∀W:World,(Instr.makeSlice 84 (.int .i64 0) (.int .i64 ((s.size:Int)/3*4+4))).run Tryd.prog W=.ok (.slice (some ⟨W.heap.size,0,none⟩) 0 (s.size/3*4+4)) (W.alloc (.cells (madeCells (Value.int .u8 0).cells (s.size/3*4+4)) 5)):=fun W=>by
  have:=run_make (P:=Tryd.prog) W 84 5 i0 (.int .u8 0) Tryd.underlying84 hi hz0 .i64 .i64 0 ((s.size:Int)/3*4+4) (by omega) (by omega) (by rw[hz2];omega) (by omega);rw[hz1,Nat.mul_one,show((s.size:Int)/3*4+4).toNat=s.size/3*4+4 by omega]at this;exact this
 have HI:Hid _:=hi;clear hi;go_enter Tryd.func57,Tryd.ntmps57;go_wp2_with fail
 go_loopw [3,4,5,15] (fun o bt h i wr=>∃(k:Nat) (X:BitVec 32),k≤s.size∧i=.int .i64 k∧bt=.int .u32 (eW X)∧h=.int .i64 ((2*(k%3):Nat):Int)∧(0<k→X.toNat%256=dB s (k-1))∧OwnB w.heap.size 5 o (pre (dB s) k) wr∧Below w.heap.size w wr) (fun _ _ _ i _=>s.size-(intOf i).toNat)
 case atStart=>exact⟨0,0#32,by omega,rfl,rfl,rfl,by omega,own_made w _ _ (by unfold maxLen;omega) _ (size_madeCells _ _),bal (brf _) _⟩
 case round=>
  obtain⟨k,X,hk,rfl,rfl,rfl,hX,ho,hb⟩:=hrel;have HX:Hid (0<k→X.toNat%256=dB s (k-1)):=hX;have HO:Hid (OwnB w.heap.size 5 _ (pre (dB s) k) wr):=ho;clear hX ho hmk;have hm2:2*(k%3)≤4:=by omega
  generalize hm:2*(k%3)=m at hm2;have HM:Hid (2*(k%3)=m):=hm;clear hm;by_cases hlt:k<s.size
  ·have ht:(k:Int)<(s.size:Int):=by omega
   have hd:=dB_at s k hlt;have HD:Hid (dB s k=s[k].toNat):=hd;clear hd;go_wp2_with fail
   go_loopw [3,5] (fun o h wx=>∃j q:Nat,6*j+q=m+8∧h=.int .i64 (q:Int)∧OwnB w.heap.size 5 o (pre (dB s) k++(stp k (dB s (k-1)) (dB s k)).take j) wx∧Below w.heap.size w wx) (fun _ h _=>(intOf h).toNat)
   case atStart=>exact⟨0,m+8,by omega,by go_num,by rw[List.take_zero,List.append_nil];exact HO.out,hb⟩
   case round=>
    clear HO hb;obtain⟨j,q,hq,rfl,ho,hb⟩:=hrel;have hq12:q≤12:=by omega
    have HO:Hid (OwnB w.heap.size 5 _ (pre (dB s) k++(stp k (dB s (k-1)) (dB s k)).take j) wr):=ho;have HQ:Hid (6*j+q=m+8):=hq;clear ho hq;by_cases h6:6≤q
    ·have h60:(0:Int)≤(q:Int)-6:=by omega
     have h6':(6:Int)≤(q:Int):=by omega
     have ht6:((q:Int)-6).toNat=q-6:=by omega
     have hbs:=hb.size;have hl:(pre (dB s) k++(stp k (dB s (k-1)) (dB s k)).take j).length+1≤220000000000000:=by
      rw[List.length_append,pre_length,List.length_take];have:=stp_length k (dB s (k-1)) (dB s k);split at this<;>omega
     go_wp2_with (first|(go_at_call 67;refine(sign_any _ _).mono ?_;rintro e w1 ⟨rfl,hw1⟩;rw[hw1];clear hw1 w1)|(refine wp_appW rfl (.tmp 31) (.tmp 37) 84 rfl 5 i0 Tryd.underlying84 HI.out hz0 hz1 hz2 w.heap.size _ _ _ ⟨wr.heap.size,0,none⟩ rfl rfl hl (HO.out.alloc_own _) (by simp;omega) (one_cell _ _ _) ?_;intro v3 w3 ho3 hb3;have HO3:Hid _:=ho3;clear ho3))
     have hb4:Below w.heap.size w w3:=(bal hb _).trans hb3;have hg:(stp k (dB s (k-1)) (dB s k)).take (j+1)=(stp k (dB s (k-1)) (dB s k)).take j++[sg (lo6 ((X<<<8|||BitVec.ofNat 32 s[k].toNat)>>>(q-6)))]:=by
      have:=take_grp X k (dB s (k-1)) (dB s k) j q (dB_lt s k) HX.out (by rw[HM.out];exact HQ.out) h6;rw[this,HD.out];rfl
     go_roundw
     case rel=>exact⟨j+1,q-6,by have:=HQ.out;omega,by go_num,by rw[hg,←List.append_assoc];exact HO3.out,hb4⟩
     case measure=>simp[intOf];omega
    ·have h6':(q:Int)<6:=by omega
     have he:=take_end k (dB s (k-1)) (dB s k) j q (by rw[HM.out];exact HQ.out) (by omega);have HE:Hid _:=he;clear he;go_wp2_with fail
     refine⟨⟨k+1,X<<<8|||BitVec.ofNat 32 s[k].toNat,by omega,by go_num,rfl,by rw[HE.out.2],fun _=>?_,?_,hb⟩,by simp[intOf];omega⟩
     ·have e0:=or_byte X s[k].toNat s[k].toNat_lt
      rw[e0,Nat.add_sub_cancel,HD.out];have:=s[k].toNat_lt;omega
     ·rw[pre,←HE.out.1];exact HO.out
  ·obtain rfl:k=s.size:=by omega
   by_cases h0:m=0
   ·have hs:=HO.out.str (P:=Tryd.prog) (t:=84) (d:=9) Tryd.underlying84 Tryd.underlying5 Tryd.underlying9
    subst h0;have ht:tl (dB s) s.size=[]:=by unfold tl;rw[if_pos (by have:=HM.out;omega)]
    have HT:Hid _:=ht;clear ht;go_wp2;go_ret;refine⟨?_,hb⟩;rw[enc,HT.out,List.append_nil];rfl
   ·have h0':(0:Int)<(m:Int):=by omega
    have h61:(0:Int)≤6-(m:Int):=by omega
    have ht6:(6-(m:Int)).toNat=6-m:=by omega
    have hbs:=hb.size;have hl:(pre (dB s) s.size).length+1≤220000000000000:=by rw[pre_length];omega
    have ht:tl (dB s) s.size=[sg (lo6 (X<<<(6-m)))]:=by
     have:=tl_grp X (dB s) s.size HX.out (by rw[HM.out];exact h0);rw[HM.out]at this;exact this
    have HT:Hid _:=ht;clear ht;go_wp2_with (first|(go_at_call 67;refine(sign_any _ _).mono ?_;rintro e w1 ⟨rfl,hw1⟩;rw[hw1];clear hw1 w1)|(refine wp_appW rfl (.tmp 42) (.tmp 48) 84 rfl 5 i0 Tryd.underlying84 HI.out hz0 hz1 hz2 w.heap.size _ _ _ ⟨wr.heap.size,0,none⟩ rfl rfl hl (HO.out.alloc_own _) (by simp;omega) (one_cell _ _ _) ?_;intro v3 w3 ho3 hb3;have hs3:=ho3.str (P:=Tryd.prog) (t:=84) (d:=9) Tryd.underlying84 Tryd.underlying5 Tryd.underlying9;clear ho3))
    go_ret;refine⟨?_,(bal hb _).trans hb3⟩;rw[enc,HT.out];rfl
end
end Go.Proofs.YtbllepoagnfjnaaDoor.Dg
