import Derived.Test.YtbbopknnoamkbaaGreatDoorH5
import Derived.Test.YtbbopknnoamkbaaGreatDoorJPureP
import Derived.Deep.DeepCutAuto
import Derived.BigRegion
set_option maxHeartbeats 1000000
namespace Go.Proofs.YtbbopknnoamkbaaGreatDoor.Dg
set_option maxRecDepth 4000
open Go.RowKit
set_option linter.unusedVariables false
section
attribute [local go_sem] shr_eW shr_eW_min shl32 or32 xor32 and32 add32 not32 add32m add32m3 alloc_drewN
theorem bsize32(bp:Nat)(w:World)(hc:w.cell? ⟨bp,0,none⟩=some (.int .i64 4)):Calls Tryz.prog 157 #[.pointer (some ⟨bp,0,none⟩)] w fun e w'=>e=.returned (.int .i64 64)∧w'=w:=by
 go_enter Tryz.func157,Tryz.ntmps157;go_wp2;go_ret;exact⟨rfl,rfl⟩
theorem blockx32(bp kb:Nat)(s:St 32)(t:ByteArray)(w:World)(p:Way 32)(ht:t.size=64)(hp:Plan32 p w bp kb):Calls Tryz.prog 190 #[.pointer (some ⟨bp,0,none⟩),.agg #[.int .u32 (eW s.a),.int .u32 (eW s.b),.int .u32 (eW s.c),.int .u32 (eW s.d),.int .u32 (eW s.e),.int .u32 (eW s.f),.int .u32 (eW s.g),.int .u32 (eW s.h)],.string t] w fun e w'=>(∃u:St 32,u=blockS p 4 s t.data.toList∧e=.returned (.agg #[.int .u32 (eW u.a),.int .u32 (eW u.b),.int .u32 (eW u.c),.int .u32 (eW u.d),.int .u32 (eW u.e),.int .u32 (eW u.f),.int .u32 (eW u.g),.int .u32 (eW u.h)]))∧Below w.heap.size w w':=
 (block32 bp kb s t w p ht hp).mono fun e w' ⟨he,hb⟩=>⟨⟨_,rfl,he⟩,hb⟩
structure InvB32 (p:Way 32) (w:World) (bp kb:Nat) (v:St 32) (wr:World):Prop where
 plan0:Plan32 p w bp kb
 h0:wr.heap[w.heap.size]?=some (.cells (st32 v) 152 (0,0))
 h1:wr.heap[w.heap.size+1]?=some (.cells (st32 ⟨0,0,0,0,0,0,0,0⟩) 152 (0,0))
 below:Below w.heap.size w wr
theorem InvB32.plan{p:Way 32}{w wr:World}{bp kb:Nat}{v:St 32}(h:InvB32 p w bp kb v wr):Plan32 p wr bp kb:=h.plan0.up h.below h.plan0.lt h.plan0.ltk
theorem InvB32.step{p:Way 32}{w wr w2:World}{bp kb:Nat}{v:St 32}(h:InvB32 p w bp kb v wr)(hb:Below wr.heap.size wr w2)(v':St 32):InvB32 p w bp kb v' (put32 w2 w.heap.size v'):=by
 have l0:w.heap.size<wr.heap.size:=(Array.getElem?_eq_some_iff.1 h.h0).1;have l1:w.heap.size+1<wr.heap.size:=(Array.getElem?_eq_some_iff.1 h.h1).1;refine⟨h.plan0,put32_same v' (by rw[hb.block _ l0];exact h.h0),?_,h.below.trans (put32_below v' (hb.mono (by omega)) (Nat.le_refl _))⟩;rw[put32_other _ (by omega),hb.block _ l1,h.h1]
theorem blocks32(bp kb:Nat)(s:St 32)(t:ByteArray)(m:Nat)(w:World)(p:Way 32)(ht:t.size=m*64)(hm:t.size≤4611686018427387904)(hp:Plan32 p w bp kb):Calls Tryz.prog 158 #[.pointer (some ⟨bp,0,none⟩),.agg #[.int .u32 (eW s.a),.int .u32 (eW s.b),.int .u32 (eW s.c),.int .u32 (eW s.d),.int .u32 (eW s.e),.int .u32 (eW s.f),.int .u32 (eW s.g),.int .u32 (eW s.h)],.string t] w fun e w'=>e=.returned (.agg (st32 (blocksTo p 4 64 s t.data.toList m)))∧Below w.heap.size w w':=by
 have hlt:=hp.lt;have hltk:=hp.ltk;have HT:Hid (t.size=m*64):=ht;clear ht;have c0:=hp.c0;go_enter Tryz.func158,Tryz.ntmps158;go_wp2_with (go_at_call 157;refine(bsize32 bp _ (cell2 c0 _ _)).mono ?_;rintro e1 w1 ⟨rfl,rfl⟩)
 go_loopw [8] (fun i wr=>∃k:Nat,k≤m∧i=.int .i64 ((k*64:Nat):Int)∧InvB32 p w bp kb (blocksTo p 4 64 s t.data.toList k) wr) (fun i _=>t.size-(intOf i).toNat)
 case atStart=>
  refine⟨0,by omega,rfl,hp,?_,?_,bal (bal (brf _) _) _⟩
  ·rw[heap_alloc2_old];rfl
  ·rw[heap_alloc2_new];rfl
 case round=>
  obtain⟨k,hk,rfl,hI⟩:=hrel;generalize hv:blocksTo p 4 64 s t.data.toList k=v at hI;have HV:Hid (blocksTo p 4 64 s t.data.toList k=v):=hv;clear hv;have HI:Hid (InvB32 p w bp kb v wr):=hI;by_cases hlt2:k<m
  ·have hle:k*64+64≤t.size:=by have:=HT.out;have:(k+1)*64≤m*64:=Nat.mul_le_mul_right _ hlt2;omega
   obtain⟨m0,m1,m2,m3,m4,m5,m6,m7⟩:=st32_cells hI.h0;have hB0:w.heap.size<wr.heap.size:=(Array.getElem?_eq_some_iff.1 hI.h0).1;clear hI;generalize hn:k*64=n at hle;have HN:Hid (k*64=n):=hn;clear hn;have hw1:=i64w ((n:Int)+64) (by omega);have hi1:(0:Int)≤(n:Int):=by omega
   have hi2:(n:Int)≤(n:Int)+64:=by omega
   have hi3:(n:Int)+64≤(t.size:Int):=by omega
   have hi4:(0:Int)≤(n:Int)+64:=by omega
   have hi5:(n:Int)<(t.size:Int):=by omega
   have ht1:((n:Int)+64).toNat=n+64:=by omega
   go_wp2_with fail
   go_region_with (go_at_call 190;refine(blockx32 bp kb v (t.extract n (n+64)) wr.drew p (by simp;omega) (HI.out.plan.up (Below.refl wr.heap.size wr).drew HI.out.plan.lt HI.out.plan.ltk)).mono ?_;rintro e w2 ⟨⟨u,hu,rfl⟩,hb2⟩;have HU:Hid (u=blockS p 4 v (t.extract n (n+64)).data.toList):=hu;clear hu;have h02:w2.heap[w.heap.size]?=some (.cells (st32 v) 152 (0,0)):=(hb2.block _ hB0).trans HI.out.h0;obtain⟨q0,q1,q2,q3,q4,q5,q6,q7⟩:=st32_cells h02;have qf:∀j,w2.frozen? ⟨w.heap.size,j,none⟩=false:=fun j=>frozen_of_row _ _ j _ _ h02;clear h02)
   all_goals
    have hI2:InvB32 p w bp kb (blocksTo p 4 64 s t.data.toList (k+1)) (put32 w2 w.heap.size u):=by
     have:=HI.out.step (w2:=w2) ⟨hb2.os,hb2.tape,hb2.output,hb2.size,hb2.block⟩ u;rw[blocksTo,HV.out,HN.out];rw[HU.out,extract_list,show n+64-n=64 from by omega]at this ⊢;exact this
    have HI2:Hid _:=hI2;clear hI2 hb2;go_wp2_with fail
    have hks:(n:Int)+64=(((k+1)*64:Nat):Int):=by have:=HN.out;omega
    have HKS:Hid ((n:Int)+64=(((k+1)*64:Nat):Int)):=hks;clear hks;refine⟨⟨k+1,by omega,by rw[HKS.out],HI2.out⟩,?_⟩;simp[intOf];omega
  ·obtain rfl:k=m:=by omega
   have hz:(t.size:Int)=((k*64:Nat):Int):=by have:=HT.out;omega
   have hi:=hI.h0;have hj:=hI.h1;clear hI;go_wp2_with (first|(refine wpList_load_row rfl 152 (.tmp 4) rfl w.heap.size rfl _ _ _ _ hi Tryz.underlying152 rfl (st32_info _) ?_)|(refine wpList_store_row rfl 152 (.tmp 6) (.tmp 27) rfl (w.heap.size+1) _ rfl rfl _ _ hj (st32_info _) rfl (st32_one _) ?_))
   refine bodyPost_ret (v:=.agg (st32 v)) (results_cell_row rfl _ _ (w.heap.size+1) _ _ _ _ rfl (setRow_heap _ _ _ _ _ _ hj) Tryz.underlying152 rfl (st32_info _)) rfl ⟨?_,below_setRow HI.out.below (Nat.le_succ _) _⟩;rw[HV.out]
end
section
attribute [local go_sem] shr_eW shr_eW_min ushr_min64 alloc_drewN eW_byte eW_bytew
theorem u8info32:(Tryz.prog.info? 5).map (fun i=>(i.zero,i.size,i.bytes))=some (some (.int .u8 0),1,1):=by kernel_rfl
theorem ending32(bp:Nat)(r:ByteArray)(size:Nat)(w:World)(hr:r.size<64)(hsz:size≤140737488355328)(c0:w.cell? ⟨bp,0,none⟩=some (.int .i64 4)):Calls Tryz.prog 159 #[.pointer (some ⟨bp,0,none⟩),.string r,.int .i64 (size:Int)] w fun e w'=>e=.returned (.string ⟨(endL 64 8 r.data.toList size).toArray⟩)∧Below w.heap.size w w':=by
 have hlt:bp<w.heap.size:=World.block_lt_of_cell? w _ c0;obtain⟨i0,hi,hz0,hz1,hz2⟩:=info_parts u8info32;have HI:Hid _:=hi;clear hi;obtain⟨X,hX,hX2⟩:∃X:BitVec 64,(size:Int)*8=eW X∧BitVec.ofNat 64 (size*8)=X:=⟨_,eW_bits size hsz,rfl⟩;have HX:Hid (BitVec.ofNat 64 (size*8)=X):=hX2;clear hX2;go_enter Tryz.func159,Tryz.ntmps159;go_wp2_with (first|(refine wp_bytes rfl _ 9 78 rfl 5 Tryz.underlying9 Tryz.underlying78 Tryz.underlying5 w.heap.size r rfl (Nat.le_refl _) (by unfold maxLen;omega) ?_;intro v1 w1 ho1 hb1;have HO1:=ho1;clear ho1)|(refine wp_app1 rfl (.tmp 17) (.tmp 18) 78 rfl 5 i0 Tryz.underlying78 HI.out hz0 hz1 hz2 w.heap.size _ r.data.toList 128 w1 rfl HO1 hb1.size (by simp;omega) rfl ?_;intro v2 w2 ho2 hb2;have HO2:=ho2;clear ho2 HO1))
 have hB2:Below w.heap.size w w2:=hb1.trans hb2;have HB2:Hid _:=hB2;clear hB2 hb2 hb1;go_loopw [8] (fun v wr=>∃k:Nat,k≤padZ 64 8 r.size∧OwnB w.heap.size 5 v (r.data.toList++[128]++List.replicate k 0) wr∧Below w.heap.size w wr) (fun v _=>r.size+1+padZ 64 8 r.size-slen v)
 case atStart=>exact⟨0,by omega,by simpa using HO2,HB2.out⟩
 case round=>
  clear HO2 HB2;obtain⟨k,hk,ho,hb⟩:=hrel;have hl:(r.data.toList++[128]++List.replicate k 0).length=r.size+1+k:=by simp;omega
  obtain⟨g,cap,hv⟩:=ho.shape (by simp);rw[hl]at hv;subst hv;have HO:=ho;have hpz:padZ 64 8 r.size<64:=Nat.mod_lt _ (by omega);have hcp:wr.cell? ⟨bp,0,none⟩=some (.int .i64 4):=b_cell hb hlt c0;generalize hn:r.size+1+k=n at ho HO;have HN:Hid (r.size+1+k=n):=hn;have hn1:n≤2*64:=by omega
  clear ho;by_cases hlt2:k<padZ 64 8 r.size
  ·have hm:=padZ_miss 64 8 r.size k (by omega) (by omega) (by omega) hlt2
   rw[hn]at hm;have hq:((n:Int)%64 != 56)=true:=by rw[bne_iff_ne];omega
   clear hm hn hl;go_wp2_with fail
   go_quiet ((go_at_call 157;exact Calls.quiet_of_same (bsize32 bp _ hcp)));have hbs:=hb.size;go_wp2_with (refine wp_app1 rfl (.tmp 30) (.tmp 31) 78 rfl 5 i0 Tryz.underlying78 HI.out hz0 hz1 hz2 w.heap.size _ (r.data.toList++[128]++List.replicate k 0) 0 (wr.drewN nq) rfl HO hbs (by simp;omega) rfl ?_;intro v3 w3 ho3 hb3;have HO3:=ho3;clear ho3)
   have hb4:Below w.heap.size w w3:=(bdN hb nq).trans hb3;have e1:r.data.toList++[128]++List.replicate k 0++[0]=r.data.toList++[128]++List.replicate (k+1) 0:=by simp[List.replicate_succ']
   have e2:=HO3.slen;rw[e1]at HO3 e2;go_roundw
   case rel=>exact⟨k+1,by omega,HO3,hb4⟩
   case measure=>
    rw[e2];simp[slen];have:=HN.out;omega
  ·obtain rfl:k=padZ 64 8 r.size:=by omega
   have hm:=padZ_hit 64 8 r.size (by omega) (by omega) (by omega);rw[hn]at hm;have hq:((n:Int)%64 != 56)=false:=by rw[bne_eq_false_iff_eq];omega
   clear hm hn hl;go_wp2_with fail
   go_quiet ((go_at_call 157;exact Calls.quiet_of_same (bsize32 bp _ hcp)));go_wp2_with fail
   go_loopw [8,10] (fun v i wx=>∃k:Nat,k≤8∧i=.int .i64 ((7:Int)-k)∧OwnB w.heap.size 5 v (r.data.toList++[128]++List.replicate (padZ 64 8 r.size) 0++beTo 8 X k) wx∧Below w.heap.size w wx) (fun _ i _=>(intOf i+1).toNat)
   case atStart=>exact⟨0,by omega,rfl,by rw[beTo,List.append_nil];exact HO,bdN hb nq⟩
   case round=>
    clear HO hb HN hcp hq;obtain⟨k,hk,rfl,ho,hb⟩:=hrel;by_cases hlt3:k<8
    ·have HO:=ho
     clear ho;have hi0:(0:Int)≤(7:Int)-k:=by omega
     have hi1:(k:Int)≤7:=by omega
     have hi2:(0:Int)≤8*((7:Int)-k):=by omega
     have ht:(8*((7:Int)-k)).toNat=8*(7-k):=by omega
     have hbs:=hb.size;have hl:(r.data.toList++[128]++List.replicate (padZ 64 8 r.size) 0++beTo 8 X k).length+1≤140737488355328:=by simp[beTo_length];omega
     go_wp2_with (refine wp_app1 rfl (.tmp 42) (.tmp 48) 78 rfl 5 i0 Tryz.underlying78 HI.out hz0 hz1 hz2 w.heap.size _ (r.data.toList++[128]++List.replicate (padZ 64 8 r.size) 0++beTo 8 X k) (byteOf (X>>>(8*(7-k)))) wr rfl HO hbs hl rfl ?_;intro v3 w3 ho3 hb3;have HO3:=ho3;clear ho3)
     have hb4:Below w.heap.size w w3:=hb.trans hb3;have HO4:OwnB w.heap.size 5 v3 (r.data.toList++[128]++List.replicate (padZ 64 8 r.size) 0++beTo 8 X (k+1)) w3:=by rw[beTo,←List.append_assoc];exact HO3
     clear HO3 hb3;go_wp2_with fail
     go_roundw
     case rel=>exact⟨k+1,by omega,by go_num,HO4,hb4⟩
     case measure=>simp[intOf];omega
    ·obtain rfl:k=8:=by omega
     have hs:=ho.str (P:=Tryz.prog) (t:=78) (d:=9) Tryz.underlying78 Tryz.underlying5 Tryz.underlying9;generalize hl:r.data.toList++[128]++List.replicate (padZ 64 8 r.size) 0++beTo 8 X 8=L at ho hs;have HL:Hid _:=hl;clear hl ho;go_wp2;go_ret;refine⟨?_,hb⟩;rw[←HL.out,endL,HX.out];simp
end
section
attribute [local go_sem] shr_eW shr_eW_min ushr_min64 alloc_drewN eW_byte eW_bytew
theorem index32(s:St 32)(w:World):∀k:Nat,k<8→Sem.run Tryz.prog (Instr.index 152 (.agg #[.int .u32 (eW s.a),.int .u32 (eW s.b),.int .u32 (eW s.c),.int .u32 (eW s.d),.int .u32 (eW s.e),.int .u32 (eW s.f),.int .u32 (eW s.g),.int .u32 (eW s.h)]) (.int .i64 (k:Int))) w=.ok (.int .u32 (eW (at32 s k))) w
 | 0,_=>by kernel_rfl
 | 1,_=>by kernel_rfl
 | 2,_=>by kernel_rfl
 | 3,_=>by kernel_rfl
 | 4,_=>by kernel_rfl
 | 5,_=>by kernel_rfl
 | 6,_=>by kernel_rfl
 | 7,_=>by kernel_rfl
 | (k+8),h=>by omega
def writeTo32(s:St 32):Nat→List UInt8
 | 0=>[]
 | k+1=>writeTo32 s k++beTo 4 (at32 s k) 4
theorem writeTo32_length(s:St 32)(k:Nat):(writeTo32 s k).length=k*4:=by
 induction k with
 | zero=>rfl
 | succ k ih=>simp[writeTo32,ih,beTo_length];omega
theorem write32(bp:Nat)(s:St 32)(w:World)(c0:w.cell? ⟨bp,0,none⟩=some (.int .i64 4)):Calls Tryz.prog 160 #[.pointer (some ⟨bp,0,none⟩),.agg #[.int .u32 (eW s.a),.int .u32 (eW s.b),.int .u32 (eW s.c),.int .u32 (eW s.d),.int .u32 (eW s.e),.int .u32 (eW s.f),.int .u32 (eW s.g),.int .u32 (eW s.h)]] w fun e w'=>e=.returned (.string ⟨(writeTo32 s 8).toArray⟩)∧Below w.heap.size w w':=by
 have hlt:bp<w.heap.size:=World.block_lt_of_cell? w _ c0;obtain⟨i0,hi,hz0,hz1,hz2⟩:=info_parts u8info32;have HI:Hid _:=hi;clear hi;go_enter Tryz.func160,Tryz.ntmps160;go_wp2_with fail
 go_loopw [5,10] (fun v i wr=>∃k:Nat,k≤8∧i=.int .i64 k∧OwnB w.heap.size 5 v (writeTo32 s k) wr∧Below w.heap.size w wr) (fun _ i _=>8-(intOf i).toNat)
 case atStart=>exact⟨0,by omega,rfl,.inl ⟨rfl,rfl⟩,bal (brf _) _⟩
 case round=>
  obtain⟨k,hk,rfl,ho,hb⟩:=hrel;by_cases hlt2:k<8
  ·have hix:=fun w=>index32 s w k hlt2
   have hcp:wr.cell? ⟨bp,0,none⟩=some (.int .i64 4):=b_cell hb hlt c0;have HO:=ho;clear ho;have hd:decide ((k:Int)<8)=true:=by simp;omega
   generalize hx:at32 s k=x at hix;have HX:Hid (at32 s k=x):=hx;clear hx;go_wp2_with fail
   go_loopw [5,8] (fun v i wx=>∃m:Nat,m≤4∧i=.int .i64 ((3:Int)-m)∧OwnB w.heap.size 5 v (writeTo32 s k++beTo 4 x m) wx∧Below w.heap.size w wx) (fun _ i _=>(intOf i+1).toNat)
   case atStart=>exact⟨0,by omega,rfl,by rw[beTo,List.append_nil];exact HO,hb⟩
   case round=>
    clear HO hb hcp;obtain⟨m,hm,rfl,ho,hb⟩:=hrel;by_cases hlt3:m<4
    ·have HO:=ho
     clear ho;have hi0:(0:Int)≤(3:Int)-m:=by omega
     have ht:(8*((3:Int)-m)).toNat=8*(3-m):=by omega
     have hi1:(m:Int)≤3:=by omega
     have hi2:(0:Int)≤8*((3:Int)-m):=by omega
     have hl:(writeTo32 s k++beTo 4 x m).length+1≤140737488355328:=by simp[beTo_length,writeTo32_length];omega
     have hbs:=hb.size;go_wp2_with (refine wp_app1 rfl (.tmp 22) (.tmp 28) 78 rfl 5 i0 Tryz.underlying78 HI.out hz0 hz1 hz2 w.heap.size _ (writeTo32 s k++beTo 4 x m) (byteOf (x>>>(8*(3-m)))) wr rfl HO hbs hl rfl ?_;intro v3 w3 ho3 hb3;have HO3:=ho3;clear ho3)
     have hb4:Below w.heap.size w w3:=hb.trans hb3;have HO4:OwnB w.heap.size 5 v3 (writeTo32 s k++beTo 4 x (m+1)) w3:=by rw[beTo,←List.append_assoc];exact HO3
     clear HO3 hb3;go_wp2_with fail
     go_roundw
     case rel=>first|exact⟨m+1,by omega,by go_num,HO4,hb4⟩|((repeat apply Exists.intro);exact⟨⟨m+1,by omega,by go_num,HO4,hb4⟩,rfl⟩)
     case measure=>simp[intOf];omega
    ·obtain rfl:m=4:=by omega
     rw[show writeTo32 s k++beTo 4 x 4=writeTo32 s (k+1)from by rw[writeTo32,HX.out]]at ho;have HO4:=ho;clear ho;go_wp2_with fail
     go_roundw
     case rel=>first|exact⟨k+1,by omega,by go_num,HO4,hb⟩|((repeat apply Exists.intro);exact⟨⟨k+1,by omega,by go_num,HO4,hb⟩,rfl⟩)
     case measure=>simp[intOf];omega
  ·obtain rfl:k=8:=by omega
   have hs:=ho.str (P:=Tryz.prog) (t:=78) (d:=9) Tryz.underlying78 Tryz.underlying5 Tryz.underlying9;generalize hl:writeTo32 s 8=L at ho hs;have HL:Hid _:=hl;clear hl ho;go_wp2;go_ret;refine⟨?_,hb⟩;rw[HL.out];rfl
end
section
attribute [local go_sem] alloc_drewN
def sumS32(p:Way 32)(s0:St 32)(l:List UInt8):St 32:=
 let m:=l.length/64
 let t:=endL 64 8 (l.drop (m*64)) l.length
 blocksTo p 4 64 (blocksTo p 4 64 s0 (l.take (m*64)) m) t (t.length/64)
theorem endL32_length(r:List UInt8)(size:Nat):(endL 64 8 r size).length=(endL 64 8 r size).length/64*64:=by
 have h:=padZ_hit 64 8 r.length (by omega) (by omega) (by omega);have e:(endL 64 8 r size).length=r.length+1+padZ 64 8 r.length+8:=by simp[endL,beTo_length];omega
 rw[e];omega
theorem endL32_le(r:List UInt8)(size:Nat)(hr:r.length<64):(endL 64 8 r size).length≤4611686018427387904:=by
 have e:(endL 64 8 r size).length=r.length+1+padZ 64 8 r.length+8:=by simp[endL,beTo_length];omega
 have hp:padZ 64 8 r.length<64:=Nat.mod_lt _ (by omega);omega
theorem blocksx32(bp kb:Nat)(s:St 32)(t:ByteArray)(m:Nat)(w:World)(p:Way 32)(ht:t.size=m*64)(hm:t.size≤4611686018427387904)(hp:Plan32 p w bp kb):Calls Tryz.prog 158 #[.pointer (some ⟨bp,0,none⟩),.agg #[.int .u32 (eW s.a),.int .u32 (eW s.b),.int .u32 (eW s.c),.int .u32 (eW s.d),.int .u32 (eW s.e),.int .u32 (eW s.f),.int .u32 (eW s.g),.int .u32 (eW s.h)],.string t] w fun e w'=>(∃u:St 32,u=blocksTo p 4 64 s t.data.toList m∧e=.returned (.agg #[.int .u32 (eW u.a),.int .u32 (eW u.b),.int .u32 (eW u.c),.int .u32 (eW u.d),.int .u32 (eW u.e),.int .u32 (eW u.f),.int .u32 (eW u.g),.int .u32 (eW u.h)]))∧Below w.heap.size w w':=
 (blocks32 bp kb s t m w p ht hm hp).mono fun e w' ⟨he,hb⟩=>⟨⟨_,rfl,he⟩,hb⟩
theorem endingx32(bp:Nat)(r:ByteArray)(size:Nat)(w:World)(hr:r.size<64)(hsz:size≤140737488355328)(c0:w.cell? ⟨bp,0,none⟩=some (.int .i64 4)):Calls Tryz.prog 159 #[.pointer (some ⟨bp,0,none⟩),.string r,.int .i64 (size:Int)] w fun e w'=>(∃T:ByteArray,T.data.toList=endL 64 8 r.data.toList size∧T.size=T.size/64*64∧T.size≤4611686018427387904∧e=.returned (.string T))∧Below w.heap.size w w':=
 (ending32 bp r size w hr hsz c0).mono fun e w' ⟨he,hb⟩=>⟨⟨⟨(endL 64 8 r.data.toList size).toArray⟩,rfl,endL32_length r.data.toList size,endL32_le r.data.toList size (by simpa using hr),he⟩,hb⟩
theorem sum32(bp kb:Nat)(s0:St 32)(d:ByteArray)(w:World)(p:Way 32)(hd:d.size≤140737488355328)(hp:Plan32 p w bp kb)(b1:w.cell? ⟨bp,1,none⟩=some (.int .u32 (eW s0.a)))(b2:w.cell? ⟨bp,2,none⟩=some (.int .u32 (eW s0.b)))(b3:w.cell? ⟨bp,3,none⟩=some (.int .u32 (eW s0.c)))(b4:w.cell? ⟨bp,4,none⟩=some (.int .u32 (eW s0.d)))(b5:w.cell? ⟨bp,5,none⟩=some (.int .u32 (eW s0.e)))(b6:w.cell? ⟨bp,6,none⟩=some (.int .u32 (eW s0.f)))(b7:w.cell? ⟨bp,7,none⟩=some (.int .u32 (eW s0.g)))(b8:w.cell? ⟨bp,8,none⟩=some (.int .u32 (eW s0.h))):Calls Tryz.prog 126 #[.pointer (some ⟨bp,0,none⟩),.string d] w fun e w'=>e=.returned (.string ⟨(writeTo32 (sumS32 p s0 d.data.toList) 8).toArray⟩)∧Below w.heap.size w w':=by
 have hlt:=hp.lt;have hltk:=hp.ltk;have c0:=hp.c0;obtain⟨m,hm⟩:∃m,d.size/64=m:=⟨_,rfl⟩;obtain⟨q,hq⟩:∃q,m*64=q:=⟨_,rfl⟩;have hwh:(d.size:Int)-(d.size:Int)%64=(q:Int):=by omega
 have hq1:q≤d.size:=by omega
 have hq2:d.size-q<64:=by omega
 have HM:Hid (d.size/64=m∧m*64=q):=⟨hm,hq⟩;clear hm hq;go_enter Tryz.func126,Tryz.ntmps126;go_wp2_with (go_at_call 157;refine(bsize32 bp _ c0).mono ?_;rintro e1 w1 ⟨rfl,hw1⟩;rw[hw1];clear hw1 w1)
 have hi1:(0:Int)≤(q:Int):=by omega
 have hi2:(q:Int)≤(d.size:Int):=by omega
 go_cut [7]from 17 (fun v wx=>∃(g:Nat) (u:St 32),v=.pointer (some ⟨g,0,none⟩)∧wx.heap[g]?=some (.cells (st32 u) 152 (0,0))∧w.heap.size≤g∧Below w.heap.size w wx∧u=blocksTo p 4 64 s0 (d.data.toList.take q) m)
 case first=>
  go_region_with (go_at_call 158;refine(blocksx32 bp kb s0 (d.extract 0 q) m _ p (by simp;have:=HM.out;omega) (by simp;omega) (by exact hp.up (by first|exact(brf _).drew|exact(bal (brf _) _).drew) hlt hltk)).mono ?_;rintro e2 w2 ⟨⟨u,hu,rfl⟩,hb2⟩;have HU:Hid (u=blocksTo p 4 64 s0 (d.extract 0 q).data.toList m):=hu;clear hu;try (have h02:w2.heap[w.heap.size]?=some (.cells (st32 ⟨0,0,0,0,0,0,0,0⟩) 152 (0,0)):=(hb2.block _ (by simp)).trans (heap_alloc_new _ _);obtain⟨q0,q1,q2,q3,q4,q5,q6,q7⟩:=st32_cells h02;have qf:∀j,w2.frozen? ⟨w.heap.size,j,none⟩=false:=fun j=>frozen_of_row _ _ j _ _ h02;have HH:Hid _:=h02;clear h02))
  all_goals go_wp2_with fail
  all_goals
   have hB:Below w.heap.size w w2:=by first|exact((brf w).drew).trans (hb2.mono (by simp))|exact((bal (brf w) _).drew).trans (hb2.mono (by simp))
   have hu:u=blocksTo p 4 64 s0 (d.data.toList.take q) m:=by rw[HU.out,extract_list];simp
   have HB:Hid _:=hB;have HU2:Hid _:=hu;clear hB hu hb2;go_meet
   case rel=>
    first
     | (refine⟨w2.heap.size,u,rfl,?_,?_,?_,HU2.out⟩
        ·exact heap_alloc_new _ _
        ·exact HB.out.size
        ·exact bal HB.out _)
     | (refine⟨w.heap.size,u,rfl,?_,?_,?_,HU2.out⟩
        ·exact put32_same u HH.out
        ·exact Nat.le_refl _
        ·exact put32_below u HB.out (Nat.le_refl _))
 case rest=>
  obtain⟨g,u,rfl,hg,hgw,hb,hu⟩:=hcut;have HU:Hid _:=hu;clear hu;obtain⟨m0,m1,m2,m3,m4,m5,m6,m7⟩:=st32_cells hg;have hgl:g<wc.heap.size:=(Array.getElem?_eq_some_iff.1 hg).1;have HG:Hid _:=hg;have HB:Hid (Below w.heap.size w wc):=hb;have hpc:=hp.up hb hlt hltk;clear hg hb b1 b2 b3 b4 b5 b6 b7 b8;go_wp2_with fail
  go_cut [7]from 17 (fun v wx=>∃(u2:St 32),v=.pointer (some ⟨g,0,none⟩)∧wx.heap[g]?=some (.cells (st32 u2) 152 (0,0))∧Below w.heap.size w wx∧u2=sumS32 p s0 d.data.toList)
  case first=>
   go_region_with (first|(go_at_call 159;refine(endingx32 bp (d.extract q d.size) d.size wc.drew (by simp;omega) hd hpc.c0).mono ?_;rintro e3 w3 ⟨⟨T,hT1,hT2,hT3,rfl⟩,hb3⟩;have HT:Hid (T.data.toList=endL 64 8 (d.extract q d.size).data.toList d.size∧T.size=T.size/64*64∧T.size≤4611686018427387904):=⟨hT1,hT2,hT3⟩;clear hT1 hT2 hT3;have h03:w3.heap[g]?=some (.cells (st32 u) 152 (0,0)):=(hb3.block _ hgl).trans HG.out;obtain⟨q0,q1,q2,q3,q4,q5,q6,q7⟩:=st32_cells h03;have H03:Hid _:=h03;clear h03)|(go_at_call 158;refine(blocksx32 bp kb u T (T.size/64) w3 p HT.out.2.1 HT.out.2.2 (hpc.up (B:=wc.heap.size) ⟨hb3.os,hb3.tape,hb3.output,hb3.size,hb3.block⟩ hpc.lt hpc.ltk)).mono ?_;rintro e4 w4 ⟨⟨u2,hu2,rfl⟩,hb4⟩;have HU2:Hid (u2=blocksTo p 4 64 u T.data.toList (T.size/64)):=hu2;clear hu2;have hg3:g<w3.heap.size:=(Array.getElem?_eq_some_iff.1 H03.out).1;have h04:w4.heap[g]?=some (.cells (st32 u) 152 (0,0)):=(hb4.block _ hg3).trans H03.out;obtain⟨r0,r1,r2,r3,r4,r5,r6,r7⟩:=st32_cells h04;have rf:∀j,w4.frozen? ⟨g,j,none⟩=false:=fun j=>frozen_of_row _ _ j _ _ h04;have H04:Hid _:=h04;clear h04))
   all_goals go_wp2_with fail
   all_goals
    have hB3:Below w.heap.size w w3:=HB.out.trans (Below.mono (B:=wc.heap.size) ⟨hb3.os,hb3.tape,hb3.output,hb3.size,hb3.block⟩ HB.out.size);have hB4:Below w.heap.size w w4:=hB3.trans (hb4.mono hB3.size);have HB4:Hid _:=hB4;have hs:u2=sumS32 p s0 d.data.toList:=by
     have e1:=HM.out;rw[HU2.out,sumS32,HU.out];have e2:d.data.toList.length=d.size:=by simp
     rw[e2,e1.1,e1.2];have e3:(d.extract q d.size).data.toList=d.data.toList.drop q:=by rw[extract_list];rw[List.take_of_length_le (by simp)]
     have e4:=HT.out.1;rw[e3]at e4;rw[←e4,show T.data.toList.length=T.size from by simp]
    have HS:Hid _:=hs;clear hB3 hB4 hs hb3 hb4;go_meet
    case rel=>
     refine⟨u2,rfl,?_,?_,HS.out⟩
     ·exact put32_same u2 H04.out
     ·exact put32_below u2 HB4.out hgw
  case rest=>
   clear m0 m1 m2 m3 m4 m5 m6 m7 hpc HU HG HB;obtain⟨u2,rfl,hg2,hb2,hu2⟩:=hcut;obtain⟨m0,m1,m2,m3,m4,m5,m6,m7⟩:=st32_cells hg2;have HU:Hid _:=hu2;have HB:Hid (Below w.heap.size w wc):=hb2;have hcp:=b_cell hb2 hlt c0;clear hg2 hb2 hu2;go_wp2_with (go_at_call 160;refine(write32 bp u2 _ hcp).mono ?_;rintro e5 w5 ⟨rfl,hb5⟩)
   have hB5:Below w.heap.size w w5:=HB.out.trans (hb5.mono HB.out.size);go_ret;refine⟨?_,hB5⟩;rw[HU.out];rfl
end
end Go.Proofs.YtbbopknnoamkbaaGreatDoor.Dg
