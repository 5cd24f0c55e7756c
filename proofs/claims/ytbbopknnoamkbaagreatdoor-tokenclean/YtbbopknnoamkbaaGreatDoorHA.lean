import Derived.Test.YtbbopknnoamkbaaGreatDoorH6
import Derived.Test.YtbbopknnoamkbaaGreatDoorJPureP
import Derived.Deep.DeepCutAuto
import Derived.BigRegion
import Derived.Test.YtbbopknnoamkbaaGreatDoorH9
import Derived.Deep.MidRow
set_option maxHeartbeats 1000000
set_option maxRecDepth 100000
namespace Go.Proofs.YtbbopknnoamkbaaGreatDoor.Dg
set_option maxRecDepth 4000
open Go.RowKit
set_option linter.unusedVariables false
section
attribute [local go_sem] shr_eW shr_eW_min shl64 or64 xor64 and64 add64 not64 add64m add64m3 alloc_drewN
theorem bsize64(bp:Nat)(w:World)(hc:w.cell? ⟨bp,0,none⟩=some (.int .i64 8)):Calls Tryz.prog 161 #[.pointer (some ⟨bp,0,none⟩)] w fun e w'=>e=.returned (.int .i64 128)∧w'=w:=by
 go_enter Tryz.func161,Tryz.ntmps161;go_wp2;go_ret;exact⟨rfl,rfl⟩
theorem blockx64(bp kb:Nat)(s:St 64)(t:ByteArray)(w:World)(p:Way 64)(ht:t.size=128)(hp:Plan64 p w bp kb):Calls Tryz.prog 191 #[.pointer (some ⟨bp,0,none⟩),.agg #[.int .u64 (eW s.a),.int .u64 (eW s.b),.int .u64 (eW s.c),.int .u64 (eW s.d),.int .u64 (eW s.e),.int .u64 (eW s.f),.int .u64 (eW s.g),.int .u64 (eW s.h)],.string t] w fun e w'=>(∃u:St 64,u=blockS p 8 s t.data.toList∧e=.returned (.agg #[.int .u64 (eW u.a),.int .u64 (eW u.b),.int .u64 (eW u.c),.int .u64 (eW u.d),.int .u64 (eW u.e),.int .u64 (eW u.f),.int .u64 (eW u.g),.int .u64 (eW u.h)]))∧Below w.heap.size w w':=
 (block64 bp kb s t w p ht hp).mono fun e w' ⟨he,hb⟩=>⟨⟨_,rfl,he⟩,hb⟩
structure InvB64 (p:Way 64) (w:World) (bp kb:Nat) (v:St 64) (wr:World):Prop where
 plan0:Plan64 p w bp kb
 h0:wr.heap[w.heap.size]?=some (.cells (st64 v) 160 (0,0))
 h1:wr.heap[w.heap.size+1]?=some (.cells (st64 ⟨0,0,0,0,0,0,0,0⟩) 160 (0,0))
 below:Below w.heap.size w wr
theorem InvB64.plan{p:Way 64}{w wr:World}{bp kb:Nat}{v:St 64}(h:InvB64 p w bp kb v wr):Plan64 p wr bp kb:=h.plan0.up h.below h.plan0.lt h.plan0.ltk
theorem InvB64.step{p:Way 64}{w wr w2:World}{bp kb:Nat}{v:St 64}(h:InvB64 p w bp kb v wr)(hb:Below wr.heap.size wr w2)(v':St 64):InvB64 p w bp kb v' (put64 w2 w.heap.size v'):=by
 have l0:w.heap.size<wr.heap.size:=(Array.getElem?_eq_some_iff.1 h.h0).1;have l1:w.heap.size+1<wr.heap.size:=(Array.getElem?_eq_some_iff.1 h.h1).1;refine⟨h.plan0,put64_same v' (by rw[hb.block _ l0];exact h.h0),?_,h.below.trans (put64_below v' (hb.mono (by omega)) (Nat.le_refl _))⟩;rw[put64_other _ (by omega),hb.block _ l1,h.h1]
theorem blocks64(bp kb:Nat)(s:St 64)(t:ByteArray)(m:Nat)(w:World)(p:Way 64)(ht:t.size=m*128)(hm:t.size≤4611686018427387904)(hp:Plan64 p w bp kb):Calls Tryz.prog 162 #[.pointer (some ⟨bp,0,none⟩),.agg #[.int .u64 (eW s.a),.int .u64 (eW s.b),.int .u64 (eW s.c),.int .u64 (eW s.d),.int .u64 (eW s.e),.int .u64 (eW s.f),.int .u64 (eW s.g),.int .u64 (eW s.h)],.string t] w fun e w'=>e=.returned (.agg (st64 (blocksTo p 8 128 s t.data.toList m)))∧Below w.heap.size w w':=by
 have hlt:=hp.lt;have hltk:=hp.ltk;have HT:Hid (t.size=m*128):=ht;clear ht;have c0:=hp.c0;go_enter Tryz.func162,Tryz.ntmps162;go_wp2_with (go_at_call 161;refine(bsize64 bp _ (cell2 c0 _ _)).mono ?_;rintro e1 w1 ⟨rfl,rfl⟩)
 go_loopw [8] (fun i wr=>∃k:Nat,k≤m∧i=.int .i64 ((k*128:Nat):Int)∧InvB64 p w bp kb (blocksTo p 8 128 s t.data.toList k) wr) (fun i _=>t.size-(intOf i).toNat)
 case atStart=>
  refine⟨0,by omega,rfl,hp,?_,?_,bal (bal (brf _) _) _⟩
  ·rw[heap_alloc2_old];rfl
  ·rw[heap_alloc2_new];rfl
 case round=>
  obtain⟨k,hk,rfl,hI⟩:=hrel;generalize hv:blocksTo p 8 128 s t.data.toList k=v at hI;have HV:Hid (blocksTo p 8 128 s t.data.toList k=v):=hv;clear hv;have HI:Hid (InvB64 p w bp kb v wr):=hI;by_cases hlt2:k<m
  ·have hle:k*128+128≤t.size:=by have:=HT.out;have:(k+1)*128≤m*128:=Nat.mul_le_mul_right _ hlt2;omega
   obtain⟨m0,m1,m2,m3,m4,m5,m6,m7⟩:=st64_cells hI.h0;have hB0:w.heap.size<wr.heap.size:=(Array.getElem?_eq_some_iff.1 hI.h0).1;clear hI;generalize hn:k*128=n at hle;have HN:Hid (k*128=n):=hn;clear hn;have hw1:=i64w ((n:Int)+128) (by omega);have hi1:(0:Int)≤(n:Int):=by omega
   have hi2:(n:Int)≤(n:Int)+128:=by omega
   have hi3:(n:Int)+128≤(t.size:Int):=by omega
   have hi4:(0:Int)≤(n:Int)+128:=by omega
   have hi5:(n:Int)<(t.size:Int):=by omega
   have ht1:((n:Int)+128).toNat=n+128:=by omega
   go_wp2_with fail
   go_region_with (go_at_call 191;refine(blockx64 bp kb v (t.extract n (n+128)) wr.drew p (by simp;omega) (HI.out.plan.up (Below.refl wr.heap.size wr).drew HI.out.plan.lt HI.out.plan.ltk)).mono ?_;rintro e w2 ⟨⟨u,hu,rfl⟩,hb2⟩;have HU:Hid (u=blockS p 8 v (t.extract n (n+128)).data.toList):=hu;clear hu;have h02:w2.heap[w.heap.size]?=some (.cells (st64 v) 160 (0,0)):=(hb2.block _ hB0).trans HI.out.h0;obtain⟨q0,q1,q2,q3,q4,q5,q6,q7⟩:=st64_cells h02;have qf:∀j,w2.frozen? ⟨w.heap.size,j,none⟩=false:=fun j=>frozen_of_row _ _ j _ _ h02;clear h02)
   all_goals
    have hI2:InvB64 p w bp kb (blocksTo p 8 128 s t.data.toList (k+1)) (put64 w2 w.heap.size u):=by
     have:=HI.out.step (w2:=w2) ⟨hb2.os,hb2.tape,hb2.output,hb2.size,hb2.block⟩ u;rw[blocksTo,HV.out,HN.out];rw[HU.out,extract_list,show n+128-n=128 from by omega]at this ⊢;exact this
    have HI2:Hid _:=hI2;clear hI2 hb2;go_wp2_with fail
    have hks:(n:Int)+128=(((k+1)*128:Nat):Int):=by have:=HN.out;omega
    have HKS:Hid ((n:Int)+128=(((k+1)*128:Nat):Int)):=hks;clear hks;refine⟨⟨k+1,by omega,by rw[HKS.out],HI2.out⟩,?_⟩;simp[intOf];omega
  ·obtain rfl:k=m:=by omega
   have hz:(t.size:Int)=((k*128:Nat):Int):=by have:=HT.out;omega
   have hi:=hI.h0;have hj:=hI.h1;clear hI;go_wp2_with (first|(refine wpList_load_row rfl 160 (.tmp 4) rfl w.heap.size rfl _ _ _ _ hi Tryz.underlying160 rfl (st64_info _) ?_)|(refine wpList_store_row rfl 160 (.tmp 6) (.tmp 27) rfl (w.heap.size+1) _ rfl rfl _ _ hj (st64_info _) rfl (st64_one _) ?_))
   refine bodyPost_ret (v:=.agg (st64 v)) (results_cell_row rfl _ _ (w.heap.size+1) _ _ _ _ rfl (setRow_heap _ _ _ _ _ _ hj) Tryz.underlying160 rfl (st64_info _)) rfl ⟨?_,below_setRow HI.out.below (Nat.le_succ _) _⟩;rw[HV.out]
end
section
attribute [local go_sem] shr_eW shr_eW_min ushr_min64 alloc_drewN eW_byte eW_bytew
theorem u8info64:(Tryz.prog.info? 5).map (fun i=>(i.zero,i.size,i.bytes))=some (some (.int .u8 0),1,1):=by kernel_rfl
theorem ending64(bp:Nat)(r:ByteArray)(size:Nat)(w:World)(hr:r.size<128)(hsz:size≤140737488355328)(c0:w.cell? ⟨bp,0,none⟩=some (.int .i64 8)):Calls Tryz.prog 163 #[.pointer (some ⟨bp,0,none⟩),.string r,.int .i64 (size:Int)] w fun e w'=>e=.returned (.string ⟨(endL 128 16 r.data.toList size).toArray⟩)∧Below w.heap.size w w':=by
 have hlt:bp<w.heap.size:=World.block_lt_of_cell? w _ c0;obtain⟨i0,hi,hz0,hz1,hz2⟩:=info_parts u8info64;have HI:Hid _:=hi;clear hi;obtain⟨X,hX,hX2⟩:∃X:BitVec 64,(size:Int)*8=eW X∧BitVec.ofNat 64 (size*8)=X:=⟨_,eW_bits size hsz,rfl⟩;have HX:Hid (BitVec.ofNat 64 (size*8)=X):=hX2;clear hX2;go_enter Tryz.func163,Tryz.ntmps163;go_wp2_with (first|(refine wp_bytes rfl _ 9 78 rfl 5 Tryz.underlying9 Tryz.underlying78 Tryz.underlying5 w.heap.size r rfl (Nat.le_refl _) (by unfold maxLen;omega) ?_;intro v1 w1 ho1 hb1;have HO1:=ho1;clear ho1)|(refine wp_app1 rfl (.tmp 17) (.tmp 18) 78 rfl 5 i0 Tryz.underlying78 HI.out hz0 hz1 hz2 w.heap.size _ r.data.toList 128 w1 rfl HO1 hb1.size (by simp;omega) rfl ?_;intro v2 w2 ho2 hb2;have HO2:=ho2;clear ho2 HO1))
 have hB2:Below w.heap.size w w2:=hb1.trans hb2;have HB2:Hid _:=hB2;clear hB2 hb2 hb1;go_loopw [8] (fun v wr=>∃k:Nat,k≤padZ 128 16 r.size∧OwnB w.heap.size 5 v (r.data.toList++[128]++List.replicate k 0) wr∧Below w.heap.size w wr) (fun v _=>r.size+1+padZ 128 16 r.size-slen v)
 case atStart=>exact⟨0,by omega,by simpa using HO2,HB2.out⟩
 case round=>
  clear HO2 HB2;obtain⟨k,hk,ho,hb⟩:=hrel;have hl:(r.data.toList++[128]++List.replicate k 0).length=r.size+1+k:=by simp;omega
  obtain⟨g,cap,hv⟩:=ho.shape (by simp);rw[hl]at hv;subst hv;have HO:=ho;have hpz:padZ 128 16 r.size<128:=Nat.mod_lt _ (by omega);have hcp:wr.cell? ⟨bp,0,none⟩=some (.int .i64 8):=b_cell hb hlt c0;generalize hn:r.size+1+k=n at ho HO;have HN:Hid (r.size+1+k=n):=hn;have hn1:n≤2*128:=by omega
  clear ho;by_cases hlt2:k<padZ 128 16 r.size
  ·have hm:=padZ_miss 128 16 r.size k (by omega) (by omega) (by omega) hlt2
   rw[hn]at hm;have hq:((n:Int)%128 != 112)=true:=by rw[bne_iff_ne];omega
   clear hm hn hl;go_wp2_with fail
   go_quiet ((go_at_call 161;exact Calls.quiet_of_same (bsize64 bp _ hcp)));have hbs:=hb.size;go_wp2_with (refine wp_app1 rfl (.tmp 30) (.tmp 31) 78 rfl 5 i0 Tryz.underlying78 HI.out hz0 hz1 hz2 w.heap.size _ (r.data.toList++[128]++List.replicate k 0) 0 (wr.drewN nq) rfl HO hbs (by simp;omega) rfl ?_;intro v3 w3 ho3 hb3;have HO3:=ho3;clear ho3)
   have hb4:Below w.heap.size w w3:=(bdN hb nq).trans hb3;have e1:r.data.toList++[128]++List.replicate k 0++[0]=r.data.toList++[128]++List.replicate (k+1) 0:=by simp[List.replicate_succ']
   have e2:=HO3.slen;rw[e1]at HO3 e2;go_roundw
   case rel=>exact⟨k+1,by omega,HO3,hb4⟩
   case measure=>
    rw[e2];simp[slen];have:=HN.out;omega
  ·obtain rfl:k=padZ 128 16 r.size:=by omega
   have hm:=padZ_hit 128 16 r.size (by omega) (by omega) (by omega);rw[hn]at hm;have hq:((n:Int)%128 != 112)=false:=by rw[bne_eq_false_iff_eq];omega
   clear hm hn hl;go_wp2_with fail
   go_quiet ((go_at_call 161;exact Calls.quiet_of_same (bsize64 bp _ hcp)));go_wp2_with fail
   go_loopw [8,10] (fun v i wx=>∃k:Nat,k≤16∧i=.int .i64 ((15:Int)-k)∧OwnB w.heap.size 5 v (r.data.toList++[128]++List.replicate (padZ 128 16 r.size) 0++beTo 16 X k) wx∧Below w.heap.size w wx) (fun _ i _=>(intOf i+1).toNat)
   case atStart=>exact⟨0,by omega,rfl,by rw[beTo,List.append_nil];exact HO,bdN hb nq⟩
   case round=>
    clear HO hb HN hcp hq;obtain⟨k,hk,rfl,ho,hb⟩:=hrel;by_cases hlt3:k<16
    ·have HO:=ho
     clear ho;have hi0:(0:Int)≤(15:Int)-k:=by omega
     have hi1:(k:Int)≤15:=by omega
     have hi2:(0:Int)≤8*((15:Int)-k):=by omega
     have ht:(8*((15:Int)-k)).toNat=8*(15-k):=by omega
     have hbs:=hb.size;have hl:(r.data.toList++[128]++List.replicate (padZ 128 16 r.size) 0++beTo 16 X k).length+1≤140737488355328:=by simp[beTo_length];omega
     go_wp2_with (refine wp_app1 rfl (.tmp 42) (.tmp 48) 78 rfl 5 i0 Tryz.underlying78 HI.out hz0 hz1 hz2 w.heap.size _ (r.data.toList++[128]++List.replicate (padZ 128 16 r.size) 0++beTo 16 X k) (byteOf (X>>>(8*(15-k)))) wr rfl HO hbs hl rfl ?_;intro v3 w3 ho3 hb3;have HO3:=ho3;clear ho3)
     have hb4:Below w.heap.size w w3:=hb.trans hb3;have HO4:OwnB w.heap.size 5 v3 (r.data.toList++[128]++List.replicate (padZ 128 16 r.size) 0++beTo 16 X (k+1)) w3:=by rw[beTo,←List.append_assoc];exact HO3
     clear HO3 hb3;go_wp2_with fail
     go_roundw
     case rel=>exact⟨k+1,by omega,by go_num,HO4,hb4⟩
     case measure=>simp[intOf];omega
    ·obtain rfl:k=16:=by omega
     have hs:=ho.str (P:=Tryz.prog) (t:=78) (d:=9) Tryz.underlying78 Tryz.underlying5 Tryz.underlying9;generalize hl:r.data.toList++[128]++List.replicate (padZ 128 16 r.size) 0++beTo 16 X 16=L at ho hs;have HL:Hid _:=hl;clear hl ho;go_wp2;go_ret;refine⟨?_,hb⟩;rw[←HL.out,endL,HX.out];simp
end
section
attribute [local go_sem] shr_eW shr_eW_min ushr_min64 alloc_drewN eW_byte eW_bytew
theorem index64(s:St 64)(w:World):∀k:Nat,k<8→Sem.run Tryz.prog (Instr.index 160 (.agg #[.int .u64 (eW s.a),.int .u64 (eW s.b),.int .u64 (eW s.c),.int .u64 (eW s.d),.int .u64 (eW s.e),.int .u64 (eW s.f),.int .u64 (eW s.g),.int .u64 (eW s.h)]) (.int .i64 (k:Int))) w=.ok (.int .u64 (eW (at64 s k))) w
 | 0,_=>by kernel_rfl
 | 1,_=>by kernel_rfl
 | 2,_=>by kernel_rfl
 | 3,_=>by kernel_rfl
 | 4,_=>by kernel_rfl
 | 5,_=>by kernel_rfl
 | 6,_=>by kernel_rfl
 | 7,_=>by kernel_rfl
 | (k+8),h=>by omega
def writeTo64(s:St 64):Nat→List UInt8
 | 0=>[]
 | k+1=>writeTo64 s k++beTo 8 (at64 s k) 8
theorem writeTo64_length(s:St 64)(k:Nat):(writeTo64 s k).length=k*8:=by
 induction k with
 | zero=>rfl
 | succ k ih=>simp[writeTo64,ih,beTo_length];omega
theorem write64(bp:Nat)(s:St 64)(w:World)(c0:w.cell? ⟨bp,0,none⟩=some (.int .i64 8)):Calls Tryz.prog 164 #[.pointer (some ⟨bp,0,none⟩),.agg #[.int .u64 (eW s.a),.int .u64 (eW s.b),.int .u64 (eW s.c),.int .u64 (eW s.d),.int .u64 (eW s.e),.int .u64 (eW s.f),.int .u64 (eW s.g),.int .u64 (eW s.h)]] w fun e w'=>e=.returned (.string ⟨(writeTo64 s 8).toArray⟩)∧Below w.heap.size w w':=by
 have hlt:bp<w.heap.size:=World.block_lt_of_cell? w _ c0;obtain⟨i0,hi,hz0,hz1,hz2⟩:=info_parts u8info64;have HI:Hid _:=hi;clear hi;go_enter Tryz.func164,Tryz.ntmps164;go_wp2_with fail
 go_loopw [5,10] (fun v i wr=>∃k:Nat,k≤8∧i=.int .i64 k∧OwnB w.heap.size 5 v (writeTo64 s k) wr∧Below w.heap.size w wr) (fun _ i _=>8-(intOf i).toNat)
 case atStart=>exact⟨0,by omega,rfl,.inl ⟨rfl,rfl⟩,bal (brf _) _⟩
 case round=>
  obtain⟨k,hk,rfl,ho,hb⟩:=hrel;by_cases hlt2:k<8
  ·have hix:=fun w=>index64 s w k hlt2
   have hcp:wr.cell? ⟨bp,0,none⟩=some (.int .i64 8):=b_cell hb hlt c0;have HO:=ho;clear ho;have hd:decide ((k:Int)<8)=true:=by simp;omega
   generalize hx:at64 s k=x at hix;have HX:Hid (at64 s k=x):=hx;clear hx;go_wp2_with fail
   go_loopw [5,8] (fun v i wx=>∃m:Nat,m≤8∧i=.int .i64 ((7:Int)-m)∧OwnB w.heap.size 5 v (writeTo64 s k++beTo 8 x m) wx∧Below w.heap.size w wx) (fun _ i _=>(intOf i+1).toNat)
   case atStart=>exact⟨0,by omega,rfl,by rw[beTo,List.append_nil];exact HO,hb⟩
   case round=>
    clear HO hb hcp;obtain⟨m,hm,rfl,ho,hb⟩:=hrel;by_cases hlt3:m<8
    ·have HO:=ho
     clear ho;have hi0:(0:Int)≤(7:Int)-m:=by omega
     have ht:(8*((7:Int)-m)).toNat=8*(7-m):=by omega
     have hi1:(m:Int)≤7:=by omega
     have hi2:(0:Int)≤8*((7:Int)-m):=by omega
     have hl:(writeTo64 s k++beTo 8 x m).length+1≤140737488355328:=by simp[beTo_length,writeTo64_length];omega
     have hbs:=hb.size;go_wp2_with (refine wp_app1 rfl (.tmp 22) (.tmp 28) 78 rfl 5 i0 Tryz.underlying78 HI.out hz0 hz1 hz2 w.heap.size _ (writeTo64 s k++beTo 8 x m) (byteOf (x>>>(8*(7-m)))) wr rfl HO hbs hl rfl ?_;intro v3 w3 ho3 hb3;have HO3:=ho3;clear ho3)
     have hb4:Below w.heap.size w w3:=hb.trans hb3;have HO4:OwnB w.heap.size 5 v3 (writeTo64 s k++beTo 8 x (m+1)) w3:=by rw[beTo,←List.append_assoc];exact HO3
     clear HO3 hb3;go_wp2_with fail
     go_roundw
     case rel=>first|exact⟨m+1,by omega,by go_num,HO4,hb4⟩|((repeat apply Exists.intro);exact⟨⟨m+1,by omega,by go_num,HO4,hb4⟩,rfl⟩)
     case measure=>simp[intOf];omega
    ·obtain rfl:m=8:=by omega
     rw[show writeTo64 s k++beTo 8 x 8=writeTo64 s (k+1)from by rw[writeTo64,HX.out]]at ho;have HO4:=ho;clear ho;go_wp2_with fail
     go_roundw
     case rel=>first|exact⟨k+1,by omega,by go_num,HO4,hb⟩|((repeat apply Exists.intro);exact⟨⟨k+1,by omega,by go_num,HO4,hb⟩,rfl⟩)
     case measure=>simp[intOf];omega
  ·obtain rfl:k=8:=by omega
   have hs:=ho.str (P:=Tryz.prog) (t:=78) (d:=9) Tryz.underlying78 Tryz.underlying5 Tryz.underlying9;generalize hl:writeTo64 s 8=L at ho hs;have HL:Hid _:=hl;clear hl ho;go_wp2;go_ret;refine⟨?_,hb⟩;rw[HL.out];rfl
end
section
attribute [local go_sem] alloc_drewN
def sumS64(p:Way 64)(s0:St 64)(l:List UInt8):St 64:=
 let m:=l.length/128
 let t:=endL 128 16 (l.drop (m*128)) l.length
 blocksTo p 8 128 (blocksTo p 8 128 s0 (l.take (m*128)) m) t (t.length/128)
theorem endL64_length(r:List UInt8)(size:Nat):(endL 128 16 r size).length=(endL 128 16 r size).length/128*128:=by
 have h:=padZ_hit 128 16 r.length (by omega) (by omega) (by omega);have e:(endL 128 16 r size).length=r.length+1+padZ 128 16 r.length+16:=by simp[endL,beTo_length];omega
 rw[e];omega
theorem endL64_le(r:List UInt8)(size:Nat)(hr:r.length<128):(endL 128 16 r size).length≤4611686018427387904:=by
 have e:(endL 128 16 r size).length=r.length+1+padZ 128 16 r.length+16:=by simp[endL,beTo_length];omega
 have hp:padZ 128 16 r.length<128:=Nat.mod_lt _ (by omega);omega
theorem blocksx64(bp kb:Nat)(s:St 64)(t:ByteArray)(m:Nat)(w:World)(p:Way 64)(ht:t.size=m*128)(hm:t.size≤4611686018427387904)(hp:Plan64 p w bp kb):Calls Tryz.prog 162 #[.pointer (some ⟨bp,0,none⟩),.agg #[.int .u64 (eW s.a),.int .u64 (eW s.b),.int .u64 (eW s.c),.int .u64 (eW s.d),.int .u64 (eW s.e),.int .u64 (eW s.f),.int .u64 (eW s.g),.int .u64 (eW s.h)],.string t] w fun e w'=>(∃u:St 64,u=blocksTo p 8 128 s t.data.toList m∧e=.returned (.agg #[.int .u64 (eW u.a),.int .u64 (eW u.b),.int .u64 (eW u.c),.int .u64 (eW u.d),.int .u64 (eW u.e),.int .u64 (eW u.f),.int .u64 (eW u.g),.int .u64 (eW u.h)]))∧Below w.heap.size w w':=
 (blocks64 bp kb s t m w p ht hm hp).mono fun e w' ⟨he,hb⟩=>⟨⟨_,rfl,he⟩,hb⟩
theorem endingx64(bp:Nat)(r:ByteArray)(size:Nat)(w:World)(hr:r.size<128)(hsz:size≤140737488355328)(c0:w.cell? ⟨bp,0,none⟩=some (.int .i64 8)):Calls Tryz.prog 163 #[.pointer (some ⟨bp,0,none⟩),.string r,.int .i64 (size:Int)] w fun e w'=>(∃T:ByteArray,T.data.toList=endL 128 16 r.data.toList size∧T.size=T.size/128*128∧T.size≤4611686018427387904∧e=.returned (.string T))∧Below w.heap.size w w':=
 (ending64 bp r size w hr hsz c0).mono fun e w' ⟨he,hb⟩=>⟨⟨⟨(endL 128 16 r.data.toList size).toArray⟩,rfl,endL64_length r.data.toList size,endL64_le r.data.toList size (by simpa using hr),he⟩,hb⟩
theorem sum64(bp kb:Nat)(s0:St 64)(d:ByteArray)(w:World)(p:Way 64)(hd:d.size≤140737488355328)(hp:Plan64 p w bp kb)(b1:w.cell? ⟨bp,1,none⟩=some (.int .u64 (eW s0.a)))(b2:w.cell? ⟨bp,2,none⟩=some (.int .u64 (eW s0.b)))(b3:w.cell? ⟨bp,3,none⟩=some (.int .u64 (eW s0.c)))(b4:w.cell? ⟨bp,4,none⟩=some (.int .u64 (eW s0.d)))(b5:w.cell? ⟨bp,5,none⟩=some (.int .u64 (eW s0.e)))(b6:w.cell? ⟨bp,6,none⟩=some (.int .u64 (eW s0.f)))(b7:w.cell? ⟨bp,7,none⟩=some (.int .u64 (eW s0.g)))(b8:w.cell? ⟨bp,8,none⟩=some (.int .u64 (eW s0.h))):Calls Tryz.prog 128 #[.pointer (some ⟨bp,0,none⟩),.string d] w fun e w'=>e=.returned (.string ⟨(writeTo64 (sumS64 p s0 d.data.toList) 8).toArray⟩)∧Below w.heap.size w w':=by
 have hlt:=hp.lt;have hltk:=hp.ltk;have c0:=hp.c0;obtain⟨m,hm⟩:∃m,d.size/128=m:=⟨_,rfl⟩;obtain⟨q,hq⟩:∃q,m*128=q:=⟨_,rfl⟩;have hwh:(d.size:Int)-(d.size:Int)%128=(q:Int):=by omega
 have hq1:q≤d.size:=by omega
 have hq2:d.size-q<128:=by omega
 have HM:Hid (d.size/128=m∧m*128=q):=⟨hm,hq⟩;clear hm hq;go_enter Tryz.func128,Tryz.ntmps128;go_wp2_with (go_at_call 161;refine(bsize64 bp _ c0).mono ?_;rintro e1 w1 ⟨rfl,hw1⟩;rw[hw1];clear hw1 w1)
 have hi1:(0:Int)≤(q:Int):=by omega
 have hi2:(q:Int)≤(d.size:Int):=by omega
 go_cut [7]from 17 (fun v wx=>∃(g:Nat) (u:St 64),v=.pointer (some ⟨g,0,none⟩)∧wx.heap[g]?=some (.cells (st64 u) 160 (0,0))∧w.heap.size≤g∧Below w.heap.size w wx∧u=blocksTo p 8 128 s0 (d.data.toList.take q) m)
 case first=>
  go_region_with (go_at_call 162;refine(blocksx64 bp kb s0 (d.extract 0 q) m _ p (by simp;have:=HM.out;omega) (by simp;omega) (by exact hp.up (by first|exact(brf _).drew|exact(bal (brf _) _).drew) hlt hltk)).mono ?_;rintro e2 w2 ⟨⟨u,hu,rfl⟩,hb2⟩;have HU:Hid (u=blocksTo p 8 128 s0 (d.extract 0 q).data.toList m):=hu;clear hu;try (have h02:w2.heap[w.heap.size]?=some (.cells (st64 ⟨0,0,0,0,0,0,0,0⟩) 160 (0,0)):=(hb2.block _ (by simp)).trans (heap_alloc_new _ _);obtain⟨q0,q1,q2,q3,q4,q5,q6,q7⟩:=st64_cells h02;have qf:∀j,w2.frozen? ⟨w.heap.size,j,none⟩=false:=fun j=>frozen_of_row _ _ j _ _ h02;have HH:Hid _:=h02;clear h02))
  all_goals go_wp2_with fail
  all_goals
   have hB:Below w.heap.size w w2:=by first|exact((brf w).drew).trans (hb2.mono (by simp))|exact((bal (brf w) _).drew).trans (hb2.mono (by simp))
   have hu:u=blocksTo p 8 128 s0 (d.data.toList.take q) m:=by rw[HU.out,extract_list];simp
   have HB:Hid _:=hB;have HU2:Hid _:=hu;clear hB hu hb2;go_meet
   case rel=>
    first
     | (refine⟨w2.heap.size,u,rfl,?_,?_,?_,HU2.out⟩
        ·exact heap_alloc_new _ _
        ·exact HB.out.size
        ·exact bal HB.out _)
     | (refine⟨w.heap.size,u,rfl,?_,?_,?_,HU2.out⟩
        ·exact put64_same u HH.out
        ·exact Nat.le_refl _
        ·exact put64_below u HB.out (Nat.le_refl _))
 case rest=>
  obtain⟨g,u,rfl,hg,hgw,hb,hu⟩:=hcut;have HU:Hid _:=hu;clear hu;obtain⟨m0,m1,m2,m3,m4,m5,m6,m7⟩:=st64_cells hg;have hgl:g<wc.heap.size:=(Array.getElem?_eq_some_iff.1 hg).1;have HG:Hid _:=hg;have HB:Hid (Below w.heap.size w wc):=hb;have hpc:=hp.up hb hlt hltk;clear hg hb b1 b2 b3 b4 b5 b6 b7 b8;go_wp2_with fail
  go_cut [7]from 17 (fun v wx=>∃(u2:St 64),v=.pointer (some ⟨g,0,none⟩)∧wx.heap[g]?=some (.cells (st64 u2) 160 (0,0))∧Below w.heap.size w wx∧u2=sumS64 p s0 d.data.toList)
  case first=>
   go_region_with (first|(go_at_call 163;refine(endingx64 bp (d.extract q d.size) d.size wc.drew (by simp;omega) hd hpc.c0).mono ?_;rintro e3 w3 ⟨⟨T,hT1,hT2,hT3,rfl⟩,hb3⟩;have HT:Hid (T.data.toList=endL 128 16 (d.extract q d.size).data.toList d.size∧T.size=T.size/128*128∧T.size≤4611686018427387904):=⟨hT1,hT2,hT3⟩;clear hT1 hT2 hT3;have h03:w3.heap[g]?=some (.cells (st64 u) 160 (0,0)):=(hb3.block _ hgl).trans HG.out;obtain⟨q0,q1,q2,q3,q4,q5,q6,q7⟩:=st64_cells h03;have H03:Hid _:=h03;clear h03)|(go_at_call 162;refine(blocksx64 bp kb u T (T.size/128) w3 p HT.out.2.1 HT.out.2.2 (hpc.up (B:=wc.heap.size) ⟨hb3.os,hb3.tape,hb3.output,hb3.size,hb3.block⟩ hpc.lt hpc.ltk)).mono ?_;rintro e4 w4 ⟨⟨u2,hu2,rfl⟩,hb4⟩;have HU2:Hid (u2=blocksTo p 8 128 u T.data.toList (T.size/128)):=hu2;clear hu2;have hg3:g<w3.heap.size:=(Array.getElem?_eq_some_iff.1 H03.out).1;have h04:w4.heap[g]?=some (.cells (st64 u) 160 (0,0)):=(hb4.block _ hg3).trans H03.out;obtain⟨r0,r1,r2,r3,r4,r5,r6,r7⟩:=st64_cells h04;have rf:∀j,w4.frozen? ⟨g,j,none⟩=false:=fun j=>frozen_of_row _ _ j _ _ h04;have H04:Hid _:=h04;clear h04))
   all_goals go_wp2_with fail
   all_goals
    have hB3:Below w.heap.size w w3:=HB.out.trans (Below.mono (B:=wc.heap.size) ⟨hb3.os,hb3.tape,hb3.output,hb3.size,hb3.block⟩ HB.out.size);have hB4:Below w.heap.size w w4:=hB3.trans (hb4.mono hB3.size);have HB4:Hid _:=hB4;have hs:u2=sumS64 p s0 d.data.toList:=by
     have e1:=HM.out;rw[HU2.out,sumS64,HU.out];have e2:d.data.toList.length=d.size:=by simp
     rw[e2,e1.1,e1.2];have e3:(d.extract q d.size).data.toList=d.data.toList.drop q:=by rw[extract_list];rw[List.take_of_length_le (by simp)]
     have e4:=HT.out.1;rw[e3]at e4;rw[←e4,show T.data.toList.length=T.size from by simp]
    have HS:Hid _:=hs;clear hB3 hB4 hs hb3 hb4;go_meet
    case rel=>
     refine⟨u2,rfl,?_,?_,HS.out⟩
     ·exact put64_same u2 H04.out
     ·exact put64_below u2 HB4.out hgw
  case rest=>
   clear m0 m1 m2 m3 m4 m5 m6 m7 hpc HU HG HB;obtain⟨u2,rfl,hg2,hb2,hu2⟩:=hcut;obtain⟨m0,m1,m2,m3,m4,m5,m6,m7⟩:=st64_cells hg2;have HU:Hid _:=hu2;have HB:Hid (Below w.heap.size w wc):=hb2;have hcp:=b_cell hb2 hlt c0;clear hg2 hb2 hu2;go_wp2_with (go_at_call 164;refine(write64 bp u2 _ hcp).mono ?_;rintro e5 w5 ⟨rfl,hb5⟩)
   have hB5:Below w.heap.size w w5:=HB.out.trans (hb5.mono HB.out.size);go_ret;refine⟨?_,hB5⟩;rw[HU.out];rfl
end
def K32:List (BitVec 32):=[1116352408#32,1899447441#32,3049323471#32,3921009573#32,961987163#32,1508970993#32,2453635748#32,2870763221#32,3624381080#32,310598401#32,607225278#32,1426881987#32,1925078388#32,2162078206#32,2614888103#32,3248222580#32,3835390401#32,4022224774#32,264347078#32,604807628#32,770255983#32,1249150122#32,1555081692#32,1996064986#32,2554220882#32,2821834349#32,2952996808#32,3210313671#32,3336571891#32,3584528711#32,113926993#32,338241895#32,666307205#32,773529912#32,1294757372#32,1396182291#32,1695183700#32,1986661051#32,2177026350#32,2456956037#32,2730485921#32,2820302411#32,3259730800#32,3345764771#32,3516065817#32,3600352804#32,4094571909#32,275423344#32,430227734#32,506948616#32,659060556#32,883997877#32,958139571#32,1322822218#32,1537002063#32,1747873779#32,1955562222#32,2024104815#32,2227730452#32,2361852424#32,2428436474#32,2756734187#32,3204031479#32,3329325298#32]
def K64:List (BitVec 64):=[4794697086780616226#64,8158064640168781261#64,13096744586834688815#64,16840607885511220156#64,4131703408338449720#64,6480981068601479193#64,10538285296894168987#64,12329834152419229976#64,15566598209576043074#64,1334009975649890238#64,2608012711638119052#64,6128411473006802146#64,8268148722764581231#64,9286055187155687089#64,11230858885718282805#64,13951009754708518548#64,16472876342353939154#64,17275323862435702243#64,1135362057144423861#64,2597628984639134821#64,3308224258029322869#64,5365058923640841347#64,6679025012923562964#64,8573033837759648693#64,10970295158949994411#64,12119686244451234320#64,12683024718118986047#64,13788192230050041572#64,14330467153632333762#64,15395433587784984357#64,489312712824947311#64,1452737877330783856#64,2861767655752347644#64,3322285676063803686#64,5560940570517711597#64,5996557281743188959#64,7280758554555802590#64,8532644243296465576#64,9350256976987008742#64,10552545826968843579#64,11727347734174303076#64,12113106623233404929#64,14000437183269869457#64,14369950271660146224#64,15101387698204529176#64,15463397548674623760#64,17586052441742319658#64,1182934255886127544#64,1847814050463011016#64,2177327727835720531#64,2830643537854262169#64,3796741975233480872#64,4115178125766777443#64,5681478168544905931#64,6601373596472566643#64,7507060721942968483#64,8399075790359081724#64,8693463985226723168#64,9568029438360202098#64,10144078919501101548#64,10430055236837252648#64,11840083180663258601#64,13761210420658862357#64,14299343276471374635#64,14566680578165727644#64,15097957966210449927#64,16922976911328602910#64,17689382322260857208#64,500013540394364858#64,748580250866718886#64,1242879168328830382#64,1977374033974150939#64,2944078676154940804#64,3659926193048069267#64,4368137639120453308#64,4836135668995329356#64,5532061633213252278#64,6448918945643986474#64,6902733635092675308#64,7801388544844847127#64]
def w32:Way 32:=⟨7,18,3,17,19,10,6,11,25,2,13,22,K32⟩
def w64:Way 64:=⟨1,8,7,19,61,6,14,18,41,28,34,39,K64⟩
def s256:St 32:=⟨1779033703#32,3144134277#32,1013904242#32,2773480762#32,1359893119#32,2600822924#32,528734635#32,1541459225#32⟩
def s512:St 64:=⟨7640891576956012808#64,13503953896175478587#64,4354685564936845355#64,11912009170470909681#64,5840696475078001361#64,11170449401992604703#64,2270897969802886507#64,6620516959819538809#64⟩
def s384:St 64:=⟨14680500436340154072#64,7105036623409894663#64,10473403895298186519#64,1526699215303891257#64,7436329637833083697#64,10282925794625328401#64,15784041429090275239#64,5167115440072839076#64⟩
def keysA32:Array Value:=(K32.map fun k=>Value.int .u32 (eW k)).toArray
def keysA64:Array Value:=(K64.map fun k=>Value.int .u64 (eW k)).toArray
theorem wp_built{P:Program}{ops:Array Oper}{rest:List Oper}{o:Oper}{a:Act}{Q:Exit→Act→World→Prop}{w:World}(hgd:o.guard=none)(t n:Nat)(parts:Array (Nat×Operand))(ho:o.op=.buildSlice t n parts)(c:Array Value)(e:TypeId)(hr:(Instr.buildSlice t n (parts.map fun(i,x)=>(i,a.eval x))).run P w=.ok (.slice (some ⟨w.heap.size,0,none⟩) n n) (w.alloc (.cells c e)))(h:wpList P ops Q rest (a.put o.dst (.slice (some ⟨w.heap.size,0,none⟩) n n)) (w.alloc (.cells c e))):wpList P ops Q (o::rest) a w:=by
 refine wpList_plain hgd fun K hK=>?_
 unfold Oper.wp execOp;simp only[ho,Sem.run_bind,Sem.run_pure,hr,Result.andThen_ok];exact hK _ _ h
theorem wp_build{P:Program}{ops:Array Oper}{rest:List Oper}{o:Oper}{a:Act}{Q:Exit→Act→World→Prop}{w:World}(hgd:o.guard=none)(t:Nat)(parts:Array (Nat×Operand))(ho:o.op=.build t parts)(v:Value)(hr:(Instr.build t (parts.map fun(i,x)=>(i,a.eval x))).run P w=.ok v w)(h:wpList P ops Q rest (a.put o.dst v) w):wpList P ops Q (o::rest) a w:=by
 refine wpList_plain hgd fun K hK=>?_
 unfold Oper.wp execOp;simp only[ho,Sem.run_bind,Sem.run_pure,hr,Result.andThen_ok];exact hK _ _ h
def planA32(kb:Nat)(s:St 32):Array Value:= #[.int .i64 4,.int .u32 (eW s.a),.int .u32 (eW s.b),.int .u32 (eW s.c),.int .u32 (eW s.d),.int .u32 (eW s.e),.int .u32 (eW s.f),.int .u32 (eW s.g),.int .u32 (eW s.h),.slice (some ⟨kb,0,none⟩) 64 64,.int .i64 7,.int .i64 18,.int .i64 3,.int .i64 17,.int .i64 19,.int .i64 10,.int .i64 6,.int .i64 11,.int .i64 25,.int .i64 2,.int .i64 13,.int .i64 22]
def planA64(kb:Nat)(s:St 64):Array Value:= #[.int .i64 8,.int .u64 (eW s.a),.int .u64 (eW s.b),.int .u64 (eW s.c),.int .u64 (eW s.d),.int .u64 (eW s.e),.int .u64 (eW s.f),.int .u64 (eW s.g),.int .u64 (eW s.h),.slice (some ⟨kb,0,none⟩) 80 80,.int .i64 1,.int .i64 8,.int .i64 7,.int .i64 19,.int .i64 61,.int .i64 6,.int .i64 14,.int .i64 18,.int .i64 41,.int .i64 28,.int .i64 34,.int .i64 39]
theorem planA32_info(kb:Nat)(s:St 32):(Tryz.prog.info? 156).map (·.size)=some (planA32 kb s).size:=by
 rw[show(planA32 kb s).size=22 from rfl];kernel_rfl
theorem planA64_info(kb:Nat)(s:St 64):(Tryz.prog.info? 163).map (·.size)=some (planA64 kb s).size:=by
 rw[show(planA64 kb s).size=22 from rfl];kernel_rfl
theorem planA32_one(kb:Nat)(s:St 32):(planA32 kb s).all (·.oneCell')=true:=by simp[planA32,Value.oneCell']
theorem planA64_one(kb:Nat)(s:St 64):(planA64 kb s).all (·.oneCell')=true:=by simp[planA64,Value.oneCell']
def planZ32:Array Value:= #[.int .i64 0,.int .u32 0,.int .u32 0,.int .u32 0,.int .u32 0,.int .u32 0,.int .u32 0,.int .u32 0,.int .u32 0,.slice none 0 0,.int .i64 0,.int .i64 0,.int .i64 0,.int .i64 0,.int .i64 0,.int .i64 0,.int .i64 0,.int .i64 0,.int .i64 0,.int .i64 0,.int .i64 0,.int .i64 0]
def planZ64:Array Value:= #[.int .i64 0,.int .u64 0,.int .u64 0,.int .u64 0,.int .u64 0,.int .u64 0,.int .u64 0,.int .u64 0,.int .u64 0,.slice none 0 0,.int .i64 0,.int .i64 0,.int .i64 0,.int .i64 0,.int .i64 0,.int .i64 0,.int .i64 0,.int .i64 0,.int .i64 0,.int .i64 0,.int .i64 0,.int .i64 0]
theorem zeroP64(w:World):Sem.run Tryz.prog (zeroValue 163) w=.ok (.agg (planZ64)) w:=by kernel_rfl
theorem zeroP32(w:World):Sem.run Tryz.prog (zeroValue 156) w=.ok (.agg (planZ32)) w:=by kernel_rfl
theorem plan256(w:World):Calls Tryz.prog 125 #[] w fun e w'=>e=.returned (.agg (planA32 (w.heap.size+1) s256))∧Below w.heap.size w w'∧w'.heap[w.heap.size+1]?=some (.cells keysA32 116 (0,0)):=by
 have hz:=zeroP32;go_enter Tryz.func125,Tryz.ntmps125;go_wp2_with (first|(refine wp_built rfl 153 64 _ rfl keysA32 116 ?hr ?_;(case hr=>kernel_rfl))|(refine wp_build rfl 152 _ rfl (.agg (st32 s256)) ?hr ?_;(case hr=>kernel_rfl))|(refine wp_build rfl 156 _ rfl (.agg (planA32 (w.heap.size+1) s256)) ?hr ?_;(case hr=>kernel_rfl))|(refine wpList_store_row rfl 156 _ _ rfl w.heap.size _ rfl rfl _ _ (heap_alloc2_old _ _ _) (planA32_info _ _) rfl (planA32_one _ _) ?_))
 refine bodyPost_ret (v:=.agg (planA32 (w.heap.size+1) s256)) (results_cell_row rfl _ _ w.heap.size _ _ _ _ rfl (setRow_heap _ _ _ _ _ _ (heap_alloc2_old _ _ _)) Tryz.underlying156 rfl (planA32_info _ _)) rfl ⟨rfl,below_setRow (bal (bal (brf _) _) _) (Nat.le_refl _) _,?_⟩;rw[setRow_other _ _ _ _ (by omega),heap_alloc2_new]
theorem plan512(w:World):Calls Tryz.prog 129 #[] w fun e w'=>e=.returned (.agg (planA64 (w.heap.size+1) s512))∧Below w.heap.size w w'∧w'.heap[w.heap.size+1]?=some (.cells keysA64 158 (0,0)):=by
 have hz:=zeroP64;go_enter Tryz.func129,Tryz.ntmps129;go_wp2_with (first|(refine wp_built rfl 161 80 _ rfl keysA64 158 ?hr ?_;(case hr=>kernel_rfl))|(refine wp_build rfl 160 _ rfl (.agg (st64 s512)) ?hr ?_;(case hr=>kernel_rfl))|(refine wp_build rfl 163 _ rfl (.agg (planA64 (w.heap.size+1) s512)) ?hr ?_;(case hr=>kernel_rfl))|(refine wpList_store_row rfl 163 _ _ rfl w.heap.size _ rfl rfl _ _ (heap_alloc2_old _ _ _) (planA64_info _ _) rfl (planA64_one _ _) ?_))
 refine bodyPost_ret (v:=.agg (planA64 (w.heap.size+1) s512)) (results_cell_row rfl _ _ w.heap.size _ _ _ _ rfl (setRow_heap _ _ _ _ _ _ (heap_alloc2_old _ _ _)) Tryz.underlying163 rfl (planA64_info _ _)) rfl ⟨rfl,below_setRow (bal (bal (brf _) _) _) (Nat.le_refl _) _,?_⟩;rw[setRow_other _ _ _ _ (by omega),heap_alloc2_new]
def putS(w:World)(g:Nat)(v:St 64):World:=
 (((((((w.setCell ⟨g,1,none⟩ (.int .u64 (eW v.a))).setCell ⟨g,2,none⟩ (.int .u64 (eW v.b))).setCell ⟨g,3,none⟩ (.int .u64 (eW v.c))).setCell ⟨g,4,none⟩ (.int .u64 (eW v.d))).setCell ⟨g,5,none⟩ (.int .u64 (eW v.e))).setCell ⟨g,6,none⟩ (.int .u64 (eW v.f))).setCell ⟨g,7,none⟩ (.int .u64 (eW v.g))).setCell ⟨g,8,none⟩ (.int .u64 (eW v.h))
theorem putS_same{w:World}{g kb:Nat}{u:St 64}{t:TypeId}(v:St 64)(h:w.heap[g]?=some (.cells (planA64 kb u) t (0,0))):(putS w g v).heap[g]?=some (.cells (planA64 kb v) t (0,0)):=by
 unfold putS;have e0:=heap_setCell_same _ _ 1 _ _ (.int .u64 (eW v.a)) h;have e1:=heap_setCell_same _ _ 2 _ _ (.int .u64 (eW v.b)) e0;have e2:=heap_setCell_same _ _ 3 _ _ (.int .u64 (eW v.c)) e1;have e3:=heap_setCell_same _ _ 4 _ _ (.int .u64 (eW v.d)) e2;have e4:=heap_setCell_same _ _ 5 _ _ (.int .u64 (eW v.e)) e3;have e5:=heap_setCell_same _ _ 6 _ _ (.int .u64 (eW v.f)) e4;have e6:=heap_setCell_same _ _ 7 _ _ (.int .u64 (eW v.g)) e5;have e7:=heap_setCell_same _ _ 8 _ _ (.int .u64 (eW v.h)) e6;rw[e7];simp[planA64]
theorem putS_other{w:World}{g k:Nat}(v:St 64)(h:k≠g):(putS w g v).heap[k]?=w.heap[k]?:=by
 unfold putS;rw[heap_setCell_other _ _ _ _ h,heap_setCell_other _ _ _ _ h,heap_setCell_other _ _ _ _ h,heap_setCell_other _ _ _ _ h,heap_setCell_other _ _ _ _ h,heap_setCell_other _ _ _ _ h,heap_setCell_other _ _ _ _ h,heap_setCell_other _ _ _ _ h]
theorem putS_below{B:Nat}{a w:World}{g:Nat}(v:St 64)(h:Below B a w)(hg:B≤g):Below B a (putS w g v):=
 (((((((h.setCell hg _).setCell hg _).setCell hg _).setCell hg _).setCell hg _).setCell hg _).setCell hg _).setCell hg _
theorem plan_cells{w:World}{g kb:Nat}{u:St 64}{t:TypeId}{fr:Nat×Nat}(h:w.heap[g]?=some (.cells (planA64 kb u) t fr)):w.cell? ⟨g,1,none⟩=some (.int .u64 (eW u.a))∧w.cell? ⟨g,2,none⟩=some (.int .u64 (eW u.b))∧w.cell? ⟨g,3,none⟩=some (.int .u64 (eW u.c))∧w.cell? ⟨g,4,none⟩=some (.int .u64 (eW u.d))∧w.cell? ⟨g,5,none⟩=some (.int .u64 (eW u.e))∧w.cell? ⟨g,6,none⟩=some (.int .u64 (eW u.f))∧w.cell? ⟨g,7,none⟩=some (.int .u64 (eW u.g))∧w.cell? ⟨g,8,none⟩=some (.int .u64 (eW u.h)):=by
 refine⟨?_,?_,?_,?_,?_,?_,?_,?_⟩<;>(rw[cell_of_row _ _ _ _ _ _ h];rfl)
theorem wp_store8{P:Program}{ops:Array Oper}{rest:List Oper}{o:Oper}{a:Act}{Q:Exit→Act→World→Prop}{w:World}(hgd:o.guard=none)(ty:TypeId)(x y:Operand)(ho:o.op=.store ty x y)(g kb:Nat)(u v:St 64)(t:TypeId)(hx:a.eval x=.pointer (some ⟨g,1,none⟩))(hy:a.eval y=.agg #[.int .u64 (eW v.a),.int .u64 (eW v.b),.int .u64 (eW v.c),.int .u64 (eW v.d),.int .u64 (eW v.e),.int .u64 (eW v.f),.int .u64 (eW v.g),.int .u64 (eW v.h)])(hg:w.heap[g]?=some (.cells (planA64 kb u) t (0,0)))(hi:(P.info? ty).map (·.size)=some 8)(h:∀W3,W3.heap[g]?=some (.cells (planA64 kb v) t (0,0))→(∀k,k≠g→W3.heap[k]?=w.heap[k]?)→(∀B a,Below B a w→B≤g→Below B a W3)→wpList P ops Q rest (a.put o.dst undef) W3):wpList P ops Q (o::rest) a w:=by
 refine wpList_store_mid hgd ty x y ho g 1 _ hx hy ?_ hi (by simp[Value.oneCell']) ?_
 ·intro j hj
  have hj':j<8:=by simpa using hj
  refine⟨?_,frozen_of_row _ _ _ _ _ hg⟩;rw[cell_of_row _ _ _ _ _ _ hg,Array.getElem?_eq_getElem (by show 1+j<22;omega)];rfl
 ·exact h (putS w g v) (putS_same v hg) (fun k hk=>putS_other v hk) (fun B a hb hB=>putS_below v hb hB)
theorem bun{w w1:World}{kb:Nat}{c k:Array Value}{t e:TypeId}(T:St 64)(hk:w1.heap[kb]?=some (.cells k e (0,0)))(h0:w1.heap[w.heap.size]?=some (.cells c t (0,0)))(hb:Below w.heap.size w w1):∃W2,w1.alloc (.cells (planA64 kb T) t)=W2∧W2.heap[w1.heap.size]?=some (.cells (planA64 kb T) t (0,0))∧W2.heap[w.heap.size]?=some (.cells c t (0,0))∧W2.heap[kb]?=some (.cells k e (0,0))∧Below w.heap.size w W2:=
 ⟨_,rfl,heap_alloc_new _ _,by rw[heap_alloc_old _ _ (Array.getElem?_eq_some_iff.1 h0).1];exact h0,by rw[heap_alloc_old _ _ (Array.getElem?_eq_some_iff.1 hk).1];exact hk,bal hb _⟩
theorem plan384(w:World):Calls Tryz.prog 127 #[] w fun e w'=>∃kb,e=.returned (.agg (planA64 kb s384))∧Below w.heap.size w w'∧w.heap.size≤kb∧w'.heap[kb]?=some (.cells keysA64 158 (0,0)):=by
 have hz:=zeroP64;go_enter Tryz.func127,Tryz.ntmps127;go_wp2_with fail
 refine(plan512 _).mono ?_;rintro e1 w1 ⟨rfl,hb1,hk1⟩;have hB1:Below w.heap.size w w1:=(bal (brf w) _).trans (hb1.mono (by simp));have h0:w1.heap[w.heap.size]?=some (.cells planZ64 163 (0,0)):=(hb1.block _ (by simp)).trans (heap_alloc_new _ _);generalize hkb:(w.alloc (Obj.cells planZ64 163)).heap.size+1=kb at hk1;have hkw:w.heap.size<kb:=by rw[←hkb];simp;omega
 have hkl:kb<w1.heap.size:=(Array.getElem?_eq_some_iff.1 hk1).1;clear hb1 hkb;generalize hT:s512=T;clear hT;have HK:Hid _:=hk1;have H0:Hid _:=h0;have HB:Hid _:=hB1;clear hk1 h0 hB1;have hsz:w.heap.size<w1.heap.size:=by omega
 go_wp2_with (first|(refine wpList_store_row rfl 163 (.tmp 1) (.tmp 2) rfl w1.heap.size _ rfl rfl _ _ (heap_alloc_new _ _) (planA64_info _ _) rfl (planA64_one _ _) ?_;rw[World.setRow_alloc_new];obtain⟨W2,hW,hW2,hW0,hWk,hWb⟩:=bun T HK.out H0.out HB.out;rw[hW];have HW2:Hid _:=hW2;have HW0:Hid _:=hW0;have HWk:Hid _:=hWk;have HWb:Hid _:=hWb;clear hW hW2 hW0 hWk hWb)|(refine wp_build rfl 160 _ rfl (.agg #[.int .u64 (eW s384.a),.int .u64 (eW s384.b),.int .u64 (eW s384.c),.int .u64 (eW s384.d),.int .u64 (eW s384.e),.int .u64 (eW s384.f),.int .u64 (eW s384.g),.int .u64 (eW s384.h)]) ?hr ?_;(case hr=>kernel_rfl))|(refine wp_store8 rfl 160 (.tmp 4) (.tmp 3) rfl w1.heap.size kb T s384 163 rfl rfl HW2.out ?hi ?_;(case hi=>kernel_rfl);intro W3 h31 h32 h33;have g0:=(h32 _ (Nat.ne_of_lt hsz)).trans HW0.out;have gk:=(h32 _ (Nat.ne_of_lt hkl)).trans HWk.out;have gb:=h33 _ _ HWb.out (Nat.le_of_lt hsz);have H31:Hid _:=h31;have G0:Hid _:=g0;have Gk:Hid _:=gk;have Gb:Hid _:=gb;clear h31 h32 h33 g0 gk gb)|(refine wpList_load_row rfl 163 (.tmp 1) rfl w1.heap.size rfl _ _ _ _ H31.out Tryz.underlying163 rfl (planA64_info _ _) ?_)|(refine wpList_store_row rfl 163 (.tmp 0) (.tmp 5) rfl w.heap.size _ rfl rfl _ _ G0.out (planA64_info _ _) rfl (planA64_one _ _) ?_))
 refine bodyPost_ret (v:=.agg (planA64 kb s384)) (results_cell_row rfl _ _ w.heap.size _ _ _ _ rfl (setRow_heap _ _ _ _ _ _ G0.out) Tryz.underlying163 rfl (planA64_info _ _)) rfl ⟨kb,rfl,?_,Nat.le_of_lt hkw,?_⟩
 ·exact below_setRow Gb.out (Nat.le_refl _) _
 ·rw[setRow_other _ _ _ _ (by omega)]
  exact Gk.out
end Go.Proofs.YtbbopknnoamkbaaGreatDoor.Dg
