import Derived.Laws.CopyOwn
import Derived.Test.YtihboehpeehlmaaGreatDoorProg
import Derived.WalkSpells
import Derived.WalkLawsBesides
import Derived.BigQuiet
import Derived.Deep.RegionHeld3
import Derived.Deep.AppendSrc
import Derived.Deep.DeepAppendWide
import Derived.Deep.AppendLies
import Derived.Deep.DeepCutAuto
import Derived.Laws.AppendOwnNone
namespace Go.Proofs.YtihboehpeehlmaaGreatDoor
open Tryz
open Go.RowKit
abbrev dj:=List UInt8
abbrev dv:=ByteArray
abbrev Wd:=World
abbrev Va:=Value
abbrev hH:=List Nat
abbrev rt:=List Value
abbrev sd:=Option Addr
abbrev go:=@Array.getElem?_eq_some_iff
abbrev JE:=@cell_of_row
abbrev JF:=@List.getElem?_eq_getElem
abbrev JG:=@List.getElem?_eq_some_iff
abbrev JH:=@List.length_append
abbrev JI:=@Below.refl
abbrev JJ:=@beq_eq_false_iff_ne
abbrev JK:=@heap_alloc_new
abbrev JL:=@World.block_lt_of_cell?
abbrev JM:=@List.length_cons
abbrev JN:=@World.cell?_alloc_lt
abbrev JO:=@heap_alloc_old
abbrev JQ:=@Nat.le_refl
abbrev JS:=@List.cons_append
abbrev JU:=@underlying115
abbrev JV:=@setCell_eq_setRow
abbrev JW:=@List.map_cons
abbrev JX:=@heap_setCell_other
abbrev JY:=@List.length_nil
abbrev JZ:=@List.mem_of_getElem?
abbrev J0:=@Nat.lt_of_lt_of_le
abbrev J1:=@List.append_assoc
abbrev J2:=@Calls.quiet_of_same
abbrev J3:=@Nat.zero_add
abbrev J4:=@List.getElem?_append_left
abbrev J5:=@heap_setCell_same
abbrev J6:=@List.length_take
abbrev J7:=@setRow_heap
abbrev J8:=@List.drop_of_length_le
abbrev J9:=@List.getElem?_append_right
abbrev Ka:=@bodyPost_ret
abbrev Kb:=@Calls.quiet_of
abbrev Kc:=@List.drop_eq_getElem_cons
abbrev Kd:=@List.take_of_length_le
abbrev Ke:=@List.mem_cons
abbrev Kf:=@info_parts
abbrev Kg:=@setRow_other
abbrev Kh:=@List.getElem?_cons_succ
abbrev Ki:=@Nat.le_trans
abbrev Kj:=@List.map_append
abbrev Kk:=@List.length_drop
abbrev Kl:=@underlying9
abbrev Km:=@Array.getElem?_eq_none
abbrev Kn:=@wpList_store_row
abbrev Ko:=@List.map_nil
abbrev Kq:=@List.length_map
abbrev Kr:=@List.getElem?_toArray
abbrev Ks:=@List.take_succ_eq_append_getElem
abbrev Kt:=@List.length_eq_zero_iff
abbrev Ku:=@Nat.add_zero
abbrev Kv:=@List.getElem?_cons_zero
abbrev Kw:=@BitVec.toNat_ofNat
abbrev Kx:=@decide_eq_true_eq
abbrev Kz:=@Bool.and_eq_true
abbrev KA:=@byteCells_length
abbrev KB:=@List.append_nil
abbrev KE:=@List.mem_cons_of_mem
abbrev KF:=@Go.WideShapes.bytes_inj
abbrev KG:=@Nat.le_succ
abbrev KH:=@List.pairwise_cons
abbrev KI:=@Nat.zero_le
abbrev KJ:=@List.getD_eq_getElem?_getD
abbrev KK:=@Array.toList_append
abbrev KL:=@ntmps115
abbrev KM:=@List.getElem?_map
abbrev KN:=@Array.toList_setIfInBounds
abbrev KO:=@frozen_of_row
abbrev KP:=@Result.andThen_ok
abbrev KS:=@List.drop_left'
abbrev KT:=@underlying32
abbrev KU:=@below_setRow
abbrev KV:=@congrArg
abbrev KW:=@Nat.mod_eq_of_lt
abbrev KX:=@List.mem_append
abbrev KY:=@underlying5
abbrev KZ:=@Nat.add_sub_cancel_left
abbrev K0:=@World.cell?_setCell_other
abbrev K1:=@heap_alloc2_new
abbrev K2:=@heap_alloc2_old
abbrev K3:=@List.drop_zero
abbrev K4:=@ByteArray.size_append
abbrev K5:=@Below.setCell
abbrev K6:=@Sem.run_bind
abbrev K7:=@Nat.pow_le_pow_right
abbrev K8:=@Except.error.injEq
abbrev K9:=@UInt8.toNat_inj
abbrev La:=@List.foldl_cons
abbrev Lb:=@results_cell_row
abbrev Lc:=@ByteArray.toList_eq
abbrev Ld:=@ByteArray.data_append
abbrev Le:=@World.ownsRow_nil
abbrev Lf:=@List.take_add_one
abbrev Lg:=@Option.some.injEq
abbrev Lh:=@Prod.mk.injEq
abbrev Li:=@Sem.run_pure
abbrev Lj:=@List.nil_append
abbrev Lk:=@Nat.zero_mul
abbrev Ll:=@Nat.mul_le_mul_right
abbrev Lm:=@World.cell?_of_block
abbrev Ln:=@List.map_toArray
abbrev Lo:=@List.take_append_of_le_length
abbrev Lp:=@List.drop_succ_cons
abbrev Lq:=@Array.getElem?_setIfInBounds
abbrev Lr:=@List.head?_cons
abbrev Ls:=@wpList_load_row
abbrev Lt:=@decide_eq_false
abbrev Lu:=@List.take_left'
abbrev Lv:=@grownCap_le_maxLen
abbrev Lw:=@List.mem_singleton
abbrev Lx:=@List.getElem?_set_ne
abbrev Ly:=@List.mem_map
abbrev Lz:=@heap_drew
abbrev LB:=@Nat.mod_lt
abbrev LC:=@wpList_plain
abbrev LD:=@List.take_length
abbrev LE:=@Nat.zero_lt_succ
abbrev LF:=@Nat.add_assoc
abbrev LG:=@List.reverse_perm
abbrev LH:=@Array.size_append
abbrev LI:=@List.size_toArray
abbrev LJ:=@Option.some.inj
abbrev LK:=@run_firstCells_some
abbrev LL:=@List.length_pos_iff
abbrev LM:=@results_tmp2
abbrev LN:=@List.getElem?_set_self
abbrev LP:=@BitVec.eq_of_toNat_eq
abbrev LR:=@Array.getElem?_eq_getElem
abbrev LS:=@BitVec.toNat_ushiftRight
abbrev LT:=@List.getElem?_of_mem
abbrev LU:=@Nat.pow_succ
abbrev LV:=@BitVec.eq_of_getLsbD_eq
abbrev LW:=@List.take_succ_cons
abbrev LX:=@List.getD_cons_zero
abbrev LY:=@List.getD_cons_succ
abbrev LZ:=@run_append_grow_src
abbrev L0:=@List.drop_drop
abbrev L1:=@if_false
abbrev L2:=@growslice_fits
abbrev L4:=@IntKind.wrap_u64
abbrev L5:=@Nat.add_sub_cancel
abbrev L6:=@List.Pairwise.perm
abbrev L7:=@Array.ext_getElem?
abbrev L8:=@wpList_append_lies
abbrev L9:=@Nat.sub_self
abbrev Ma:=@results_none
abbrev Mb:=@List.length_singleton
abbrev Mc:=@List.take_append_drop
abbrev Md:=@Bool.or_eq_true
abbrev Me:=@List.Perm.append_left
abbrev Mf:=@List.getElem?_eq_none
abbrev Mg:=@Nat.min_eq_left
abbrev Mh:=@List.set_append_right
abbrev Mi:=@List.modify_succ_cons
abbrev Mj:=@List.sum_cons
abbrev Mk:=@BitVec.getLsbD_ushiftRight
abbrev Ml:=@BitVec.toInt_eq_toNat_cond
abbrev Mm:=@BitVec.ushiftRight_eq_zero
abbrev Mn:=@Array.size_replicate
abbrev Mo:=@grownCap_ge
abbrev Mp:=@Nat.mul_one
abbrev Mq:=@size_zeroCells
abbrev Mr:=@decide_eq_true
abbrev Ms:=@Nat.shiftLeft_eq
abbrev Mt:=@Nat.le_of_eq
abbrev Mu:=@Nat.le_add_right
abbrev Mv:=@ntmps128
abbrev Mw:=@List.getElem?_range
abbrev Mx:=@Array.length_toList
abbrev My:=@run_append_room_src
abbrev Mz:=@decide_eq_false_iff_not
abbrev MA:=@BitVec.getLsbD_setWidth
abbrev MC:=@Nat.and_two_pow_sub_one_eq_mod
abbrev MD:=@BitVec.toNat_ofInt
abbrev ME:=@Option.map_some
abbrev MF:=@Nat.eq_zero_or_pos
abbrev MG:=@List.drop_eq_nil_of_le
abbrev MH:=@List.eq_nil_of_length_eq_zero
abbrev MJ:=@UInt8.ofNat_toNat
abbrev MK:=@List.pairwise_reverse
abbrev ML:=@Nat.mul_comm
abbrev MM:=@Array.getD_eq_getD_getElem?
abbrev MN:=@List.perm_middle
abbrev MO:=@List.replicate_succ'
abbrev MP:=@BitVec.getLsbD_sshiftRight
abbrev MR:=@List.getElem_of_mem
abbrev MS:=@Nat.shiftRight_eq_div_pow
abbrev MT:=@ntmps191
abbrev MU:=@List.getElem?_take
abbrev MV:=@List.map_singleton
abbrev MW:=@ntmps165
abbrev MX:=@List.take_take
abbrev MY:=@List.getElem?_modify_eq
abbrev MZ:=@List.getElem?_modify_ne
abbrev M0:=@IntKind.wrap_u32'
abbrev M1:=@List.pairwise_map
abbrev M2:=@wpList_append_own
abbrev M4:=@BitVec.toNat_shiftLeft
abbrev M5:=@underlying3
abbrev M6:=@underlying193
abbrev M7:=@underlying200
abbrev M8:=@underlying166
abbrev M9:=@List.take_set
abbrev Na:=@List.map_reverse
abbrev Nb:=@step_append_lies
abbrev Nc:=@List.not_mem_nil
abbrev Nf:=@Bool.and_eq_false_iff
abbrev Ng:=@BitVec.toNat_setWidth
abbrev Nh:=@List.eq_nil_or_concat
abbrev Ni:=@List.sum_append
abbrev Nj:=@Nat.add_comm
abbrev Nk:=@BitVec.ofInt_natCast
abbrev Nl:=@Below.mono
abbrev Nm:=@Bool.eq_iff_iff
abbrev Nn:=@List.take_set_of_le
abbrev Np:=@List.mem_map_of_mem
abbrev Nq:=@run_append_own
abbrev Nr:=@DataW.trod_int
abbrev Ns:=@run_underlying
abbrev Nt:=@Bool.false_or
def eW{b:Nat}(x:BitVec b):Int:=(x.toNat:Int)
theorem dQ{b:Nat}(x:BitVec b):BitVec.ofInt b (eW x)=x:=by unfold eW;simp
theorem mY(n:Int):IntKind.u32.wrap n=eW (BitVec.ofInt 32 n):=by
 rw[M0];unfold eW;rw[MD];omega
theorem mZ(n:Int):IntKind.u64.wrap n=eW (BitVec.ofInt 64 n):=by
 rw[L4];unfold eW;rw[MD];omega
theorem j2(x:BitVec 32):IntKind.u32.wrap (x.toNat:Int)=eW x:=by
 have:=dQ x;unfold eW at this;rw[mY,this]
theorem ke(x:BitVec 64):IntKind.u64.wrap (x.toNat:Int)=eW x:=by
 have:=dQ x;unfold eW at this;rw[mZ,this]
theorem oU(x y:BitVec 32):bits .and .u32 (eW x) (eW y)=eW (x&&&y):=by
 show IntKind.u32.wrap ((BitVec.ofInt 32 (eW x)&&&BitVec.ofInt 32 (eW y)).toNat:Int)=_
 rw[dQ,dQ,j2]
theorem ra(x y:BitVec 32):bits .or .u32 (eW x) (eW y)=eW (x|||y):=by
 show IntKind.u32.wrap ((BitVec.ofInt 32 (eW x)|||BitVec.ofInt 32 (eW y)).toNat:Int)=_
 rw[dQ,dQ,j2]
theorem rs(x y:BitVec 32):bits .xor .u32 (eW x) (eW y)=eW (x^^^y):=by
 show IntKind.u32.wrap ((BitVec.ofInt 32 (eW x)^^^BitVec.ofInt 32 (eW y)).toNat:Int)=_
 rw[dQ,dQ,j2]
theorem sw(x y:BitVec 64):bits .and .u64 (eW x) (eW y)=eW (x&&&y):=by
 show IntKind.u64.wrap ((BitVec.ofInt 64 (eW x)&&&BitVec.ofInt 64 (eW y)).toNat:Int)=_
 rw[dQ,dQ,ke]
theorem s8(x y:BitVec 64):bits .or .u64 (eW x) (eW y)=eW (x|||y):=by
 show IntKind.u64.wrap ((BitVec.ofInt 64 (eW x)|||BitVec.ofInt 64 (eW y)).toNat:Int)=_
 rw[dQ,dQ,ke]
theorem sr(x y:BitVec 64):bits .xor .u64 (eW x) (eW y)=eW (x^^^y):=by
 show IntKind.u64.wrap ((BitVec.ofInt 64 (eW x)^^^BitVec.ofInt 64 (eW y)).toNat:Int)=_
 rw[dQ,dQ,ke]
theorem qK(x:BitVec 32):bits .xor .u32 IntKind.u32.max (eW x)=eW (~~~x):=by
 show IntKind.u32.wrap ((BitVec.ofInt 32 4294967295^^^BitVec.ofInt 32 (eW x)).toNat:Int)=_
 rw[dQ,j2,show BitVec.ofInt 32 4294967295=BitVec.allOnes 32 from rfl,BitVec.allOnes_xor]
theorem qR(x:BitVec 64):bits .xor .u64 IntKind.u64.max (eW x)=eW (~~~x):=by
 show IntKind.u64.wrap ((BitVec.ofInt 64 18446744073709551615^^^BitVec.ofInt 64 (eW x)).toNat:Int)=_
 rw[dQ,ke,show BitVec.ofInt 64 18446744073709551615=BitVec.allOnes 64 from rfl,BitVec.allOnes_xor]
theorem mO{b:Nat}(x y:BitVec b):BitVec.ofInt b (eW x+eW y)=x+y:=by
 rw[BitVec.ofInt_add,dQ,dQ]
theorem o0(x y:BitVec 32):IntKind.u32.wrap (eW x+eW y)=eW (x+y):=by rw[mY,mO]
theorem oW(x y:BitVec 64):IntKind.u64.wrap (eW x+eW y)=eW (x+y):=by rw[mZ,mO]
theorem fD{b:Nat}(x:BitVec b)(n:Nat):eW x/2^n=eW (x>>>n):=by
 unfold eW;rw[LS,MS];have:((2:Int)^n)=((2^n:Nat):Int):=by simp
 rw[this];exact_mod_cast rfl
theorem rj{b:Nat}(x:BitVec b)(n:Nat):BitVec.ofInt b (eW x*2^n)=x<<<n:=by
 rw[BitVec.ofInt_mul,dQ,BitVec.shiftLeft_eq_mul_twoPow];congr 1
 apply LP;rw[MD,BitVec.toNat_twoPow];have:((2:Int)^n)=((2^n:Nat):Int):=by simp
 rw[this];exact_mod_cast rfl
theorem kU(x:BitVec 32)(n:Nat):IntKind.u32.wrap (eW x*2^n)=eW (x<<<n):=by rw[mY,rj]
theorem oT(x:BitVec 64)(n:Nat):IntKind.u64.wrap (eW x*2^n)=eW (x<<<n):=by rw[mZ,rj]
theorem fi(n:Int)(h: -9223372036854775808<=n/\n<=9223372036854775807):IntKind.i64.wrap n=n:=by rw[IntKind.wrap_i64];omega
theorem lT{w:Wd}{b o:Nat}{v:Va}(h:w.cell? ⟨b,o,none⟩=some v):∀c a,((w.alloc c).alloc a).cell? ⟨b,o,none⟩=some v:=fun c a=>by
 have d:b<w.heap.size:=JL w _ h;rw[JN _ _ _ (by simp;omega),JN _ _ _ d,h]
theorem vT{w:Wd}{b o:Nat}(d:b<w.heap.size)(h:w.frozen? ⟨b,o,none⟩=false):∀c a,((w.alloc c).alloc a).frozen? ⟨b,o,none⟩=false:=fun c a=>by
 have e:Below w.heap.size w ((w.alloc c).alloc a):=((JI _ _).alloc (JQ _) _).alloc (by simp) _;rw[e.frozen d,h]
theorem lU{w:Wd}{g:Nat}{o:Obj}(h:w.heap[g]?=some o):∀b a,((w.alloc b).alloc a).heap[g]?=some o:=fun b a=>by
 have c:g<w.heap.size:=(go.1 h).1;have d:Below w.heap.size w ((w.alloc b).alloc a):=((JI _ _).alloc (JQ _) _).alloc (by simp) _;rw[d.block _ c,h]
theorem oL{w:Wd}{b o:Nat}{v:Va}(h:w.cell? ⟨b,o,none⟩=some v):∀d a c,(((w.alloc d).alloc a).alloc c).cell? ⟨b,o,none⟩=some v:=fun d a c=>by
 have e:b<w.heap.size:=JL w _ h;rw[JN _ _ _ (by simp;omega),JN _ _ _ (by simp;omega),JN _ _ _ e,h]
theorem cK{a w:Wd}(h:Below a.heap.size a w)(o:Obj):Below a.heap.size a (w.alloc o):=h.alloc h.size o
theorem cF(a:Wd):Below a.heap.size a a:=JI _ _
theorem em{B:Nat}{a w:Wd}(h:Below B a w)(n:Nat):Below B a (w.drewN n):=⟨h.os,h.tape,h.output,h.size,h.block⟩
theorem cm{B:Nat}{w w':Wd}(h:Below B w w'){b o:Nat}{v:Va}(c:b<B)(a:w.cell? ⟨b,o,none⟩=some v):w'.cell? ⟨b,o,none⟩=some v:=(h.cell (p:=⟨b,o,none⟩) c).trans a
theorem dX{k:IntKind}{a b:Int}(h:a=b):Ending.returned (.int k a)=.returned (.int k b):=by rw[h]
theorem dd(t:dv)(a b:Nat):(t.extract a b).data.toList=(t.data.toList.drop a).take (b-a):=by
 simp[List.extract_eq_take_drop]
def dG{b:Nat}(x:BitVec b)(n:Nat):BitVec b:=x>>>n|||x<<<(b-n)
set_option linter.unusedVariables false
theorem jX(x:BitVec 64)(n:Nat):x>>>(min n 64)=x>>>n:=by
 by_cases h:n<=64
 ·rw[Mg h]
 ·rw[Nat.min_eq_right (by omega),Mm (by omega),Mm (by omega)]
def cj(b:UInt8):Va:=.int .u8 (b.toNat:Int)
def OwnB(B:Nat)(e:TypeId)(v:Va)(l:dj)(w:Wd):Prop:=
 (v=.slice none 0 0/\l=[])\/
 ∃g cap cur fz,v=.slice (some ⟨g,0,none⟩) l.length cap/\B<=g/\w.heap[g]?=some (.cells cur e fz)/\(fz.2<=l.length\/cap<=fz.1)/\l.length<=cap/\cap<=maxLen/\cur.size=cap/\cur.toList.take l.length=l.map cj
theorem OwnB.below{B C:Nat}{e:TypeId}{v:Va}{l:dj}{w w':Wd}(h:OwnB B e v l w)(f:Below C w w')(m:w.heap.size<=C):OwnB B e v l w':=by
 rcases h with h|⟨g,i,j,k,d,b,a,c⟩
 ·exact .inl h
 ·refine .inr ⟨g,i,j,k,d,b,?_,c⟩
  have:=(go.1 a).1;rw[f.block _ (by omega)];exact a
theorem OwnB.cells{B:Nat}{e:TypeId}{l:dj}{w:Wd}{g cap:Nat}{b:Array Value}{c:Nat×Nat}(d:w.heap[g]?=some (.cells b e c))(h:b.toList.take l.length=l.map cj):∀j u,(l.map cj)[j]?=some u->w.cell? ((⟨g,0,none⟩:Addr).add j)=some u:=by
 intro j u a;have f:(⟨g,0,none⟩:Addr).add j=⟨g,j,none⟩:=by unfold Addr.add;split<;>simp_all
 rw[f,JE w g j b e c d];rw[<-h,MU]at a;split at a
 ·simpa using a
 ·cases a
theorem fH(w:Wd)(v:Va)(e:TypeId):∀j u,[v][j]?=some u->(w.alloc (.cells #[v] e)).cell? ((⟨w.heap.size,0,none⟩:Addr).add j)=some u:=by
 intro j u a;match j,a with
 | 0,a=>simp at a;subst a;simp[Addr.add]
 | (j+1),a=>simp at a
theorem qA{P:Program}(W:Wd)(e:TypeId)(B:Nat)(l:dj)(b:UInt8)(c:Nat)(f:B<=W.heap.size)(h:l.length+1<=c)(d:c<=maxLen):OwnB B e (.slice (some ⟨W.heap.size,0,none⟩) (l.length+1) c) (l++[b]) (W.drew.alloc (.cells ((l.map cj).toArray++[cj b].toArray++Builtin.zeroCells (Value.int .u8 0).cells (c-(l.length+1))) e)):=by
 refine .inr ⟨W.heap.size,c,_,(0,0),by simp,f,JK W.drew _,.inl (KI _),by simpa using h,d,?_,?_⟩
 ·have a:(Value.int IntKind.u8 0).cells.size=1:=rfl
  simp only[LH,LI,Mq,a,Kq,Mb];omega
 ·have g:(l++[b]).length=((l.map cj)++[cj b]).length:=by simp
  rw[g];simp only[KK];rw[List.take_left];simp
theorem Ju{P:Program}(a:Wd)(t w e:TypeId)(i:TypeInfo)(x:P.underlying t=some (.slice e))(s:P.info? e=some i)(A:i.zero=some (.int .u8 0))(q:i.size=1)(E:i.bytes=1)(B:Nat)(v:Va)(l:dj)(b:UInt8)(X:OwnB B e v l a)(T:B<=a.heap.size)(ad:l.length+1<=140737488355328):∃n d,(Builtin.append_ #[t,t] w #[v,.slice (some ⟨a.heap.size,0,none⟩) 1 1]).run P (a.alloc (.cells #[cj b] e))=.ok n d/\OwnB B e n (l++[b]) d/\Below B a d:=by
 have o:Below B a (a.alloc (.cells #[cj b] e)):=(JI _ _).alloc T _;have r:=fH a (cj b) e;generalize z:a.alloc (.cells #[cj b] e)=W at o r;have af:W.heap.size=a.heap.size+1:=by rw[<-z];simp
 have y:l.length+1<=maxLen:=by unfold maxLen;omega
 rcases X with⟨rfl,rfl⟩|⟨g,cap,c,m,rfl,H,p,F,ac,J,ab,D⟩
 ·obtain⟨n,d,L,M,f,_⟩:=Nq (P:=P) W B t w e i (.int .u8 0) 1 1 x s A q E rfl (by decide) (.slice none 0 0) 0 [] ⟨by simp,.inl ⟨rfl,rfl⟩⟩ ⟨a.heap.size,0,none⟩ 1 1 [cj b] rfl r
   (by intro u C;simp at C;subst C;rfl) (by unfold maxLen;omega) (by omega) (by omega)
  refine⟨n,d,L,?_,o.trans ⟨f.os,f.tape,f.output,f.size,fun k hk=>f.block k (by omega) (by simp[Value.ownBlock])⟩⟩;rcases M.2 with⟨_,h0⟩|⟨g,cap,c,K,N,p,Y,Z,hs,aa⟩
  ·omega
  ·exact .inr ⟨g,cap,c,(0,0),K,N,p,.inl (KI _),Y,Z,by omega,by simpa using aa⟩
 ·have j:W.heap[g]?=some (.cells c e m):=by
   rw[<-z,JO _ _ (go.1 p).1];exact p
  by_cases G:l.length+1<=cap
  ·have U:=LK (P:=P) W 1 1 ⟨a.heap.size,0,none⟩ 1 1 [cj b] rfl r
   have R:W.cell? ⟨g,l.length,none⟩=some c[l.length]:=by simp[World.cell?,j]
   have I:W.frozen? ⟨g,l.length,none⟩=false:=by
    obtain⟨lo,ae⟩:=m;simp only[World.frozen?,j,Nf,Mz];simp only at F;omega
   have Q:(⟨g,l.length,none⟩:Addr).add 0=⟨g,l.length,none⟩:=by unfold Addr.add;split<;>simp_all
   have S:(storeCells ⟨g,l.length,none⟩ [cj b] 0).run P W=.ok () (W.setRow g (c.setIfInBounds l.length (cj b))):=by
    simp only[storeCells,K6,Q];rw[run_store P W _ (cj b) _ rfl,R];simp[I,setCell_eq_setRow W g l.length c e m (cj b) j]
   refine⟨.slice (some ⟨g,0,none⟩) (l.length+1) cap,W.setRow g (c.setIfInBounds l.length (cj b)),?_,?_,KU o H _⟩
   ·simp[Builtin.append_,run_underlying x,sizeOf,typeInfo,s,q,Builtin.lenOf,G,U,Addr.add_lit,S]
   ·refine .inr ⟨g,cap,_,m,by simp,H,J7 W g c _ e _ j,?_,by simpa using G,J,by simpa using ab,?_⟩
    ·rcases F with h|h
     ·left;simp;omega
     ·exact .inr h
    ·rw[JH,Mb,KN,Ks (by simp;omega)]
     rw[Nn (JQ _),D];simp
  ·have O:=OwnB.cells (B:=B) (cap:=cap) j D
   have V:=run_append_grow (P:=P) W t w e i (.int .u8 0) x s A ⟨g,0,none⟩ l.length cap (l.map cj) (by rw[q];simp) O ⟨a.heap.size,0,none⟩ 1 1 [cj b] (by rw[q];rfl) r (by omega) (by unfold maxLen at y;omega)
    (by rw[E];exact L2 (by omega) (by omega))
   refine⟨_,_,V,qA (P:=P) W e B l b _ (by omega) (Mo W _ _ e) (Lv W _ _ e y),?_⟩;exact(o.drew).alloc (by show B<=W.heap.size;omega) _
theorem gV{P:Program}{g:Array Oper}{j:List Oper}{o:Oper}{a:Act}{Q:Exit->Act->Wd->Prop}(z:o.guard=none)(s x:Operand)(t:TypeId)(D:o.op=.call {callee:=.builtin .append,args:= #[s,x],argTypes:= #[t,t]})
 (e:TypeId) (i:TypeInfo) (F:P.underlying t=some (.slice e)) (p:P.info? e=some i) (G:i.zero=some (.int .u8 0)) (w:i.size=1) (y:i.bytes=1)
 (B:Nat) (v:Va) (l:dj) (b:UInt8) (c:Wd) (m:a.eval s=v) (r:OwnB B e v l c) (n:B<=c.heap.size) (u:l.length+1<=140737488355328)
 (k:a.eval x=.slice (some ⟨c.heap.size,0,none⟩) 1 1)
 (h:∀f d,OwnB B e f (l++[b]) d->Below B c d->wpList P g Q j (a.put o.dst f) d):wpList P g Q (o::j) a (c.alloc (.cells #[cj b] e)):=by
 refine LC z fun K E=>?_
 obtain⟨f,d,q,C,A⟩:=Ju (P:=P) c t o.type e i F p G w y B v l b r n u;unfold Oper.wp execOp;simp only[D,resolve,invoke,builtin,K6,Li,KP,Ln,JW,Ko,m,k,q];exact E _ _ (h f d C A)
theorem OwnB.shape{B:Nat}{e:TypeId}{v:Va}{l:dj}{w:Wd}(h:OwnB B e v l w)(c:l≠[]):∃g a,v=.slice (some ⟨g,0,none⟩) l.length a:=by
 rcases h with⟨_,h⟩|⟨g,a,_,_,b,_⟩
 ·exact absurd h c
 ·exact⟨g,a,b⟩
def slen:Va->Nat| .slice _ n _=>n|_=>0
theorem OwnB.slen{B:Nat}{e:TypeId}{v:Va}{l:dj}{w:Wd}(h:OwnB B e v l w):slen v=l.length:=by
 rcases h with⟨rfl,rfl⟩|⟨g,a,_,_,rfl,_⟩<;>rfl
theorem OwnB.str{P:Program}{B:Nat}{t d e:TypeId}{v:Va}{l:dj}{w:Wd}(c:P.underlying t=some (.slice e))(a:P.underlying e=some (.int .u8))(b:P.underlying d=some .string)(h:OwnB B e v l w):Sem.run P (convert t d v) w=.ok (.string ⟨l.toArray⟩) w:=by
 rcases h with⟨rfl,rfl⟩|⟨g,cap,q,s,rfl,o,f,n,r,p,m,k⟩
 ·exact run_convert_bytes_nil w t e c a 0 0 d b
 ·refine run_convert_bytes_back w t d e ⟨g,0,none⟩ cap l c a b ?_
  intro j i;exact OwnB.cells (B:=B) (cap:=cap) f k j _ (by simp[List.getElem?_eq_getElem i,cj])
theorem tW{P:Program}{i:Array Oper}{j:List Oper}{o:Oper}{a:Act}{Q:Exit->Act->Wd->Prop}{w:Wd}(v:o.guard=none)(x:Operand)(t d:TypeId)(y:o.op=.convert t d x)(e:TypeId)(A:P.underlying t=some .string)(q:P.underlying d=some (.slice e))(u:P.underlying e=some (.int .u8))(B:Nat)(s:dv)(p:a.eval x=.string s)(f:B<=w.heap.size)(r:s.size<=maxLen)(h:∀l b,OwnB B e l s.data.toList b->Below B w b->wpList P i Q j (a.put o.dst l) b):wpList P i Q (o::j) a w:=by
 refine LC v fun K z=>?_
 have g:=run_bytes_of_string (P:=P) w t d e s A q u;have m:=Mo w s.size 0 e;have n:=Lv w s.size 0 e r;generalize grownCap w s.size 0 e=c at g m n;have k:(bytesRow s c).size=c:=by
  simp only[bytesRow,LH,Array.size_map,Mn,ByteArray.size_data];omega
 unfold Oper.wp execOp;simp only[y,p,K6,Li,KP,g];refine z _ _ (h _ _ ?_ ((JI B w).drew.alloc f _));refine .inr ⟨w.heap.size,c,_,_,by simp,f,JK w.drew _,.inr (by simp[k]),by simpa using m,n,k,?_⟩;simp only[bytesRow,KK,Array.toList_map];rw[Lu (by simp)];all_goals rfl
def b9(s:dv)(i:Nat):dj:=s.data.toList.drop i
theorem cg(s:dv)(i:Nat)(h:i<s.size):b9 s i=s[i]::b9 s (i+1):=by
 unfold b9;have a:i<s.data.toList.length:=by simpa using h
 rw[Kc a];rfl
theorem cU(s:dv)(i:Nat)(h:s.size<=i):b9 s i=[]:=by
 unfold b9;exact J8 (by simpa using h)
theorem cw(s:dv)(i n:Nat):(b9 s i).drop n=b9 s (i+n):=by unfold b9;rw[L0]
theorem cx(s:dv)(i:Nat):(b9 s i).length=s.size-i:=by unfold b9;simp
theorem nU(s:dv)(i k:Nat)(h:i+k<s.size):(b9 s i)[k]?=some s[i+k]:=by
 unfold b9;have a:i+k<s.data.toList.length:=by simpa using h
 rw[List.getElem?_drop,JF a];rfl
theorem kt(s:dv)(i k:Nat)(h:s.size<=i+k):(b9 s i)[k]?=none:=by
 rw[Mf];rw[cx];omega
def iS(c:UInt8):Bool:=c==32||c==9||c==10||c==13
def nb:dj->Nat|[]=>0|c::r=>if iS c then nb r+1 else 0
def d8(c:UInt8):Bool:=decide (48<=c.toNat)&&decide (c.toNat<=57)
def ed(l:dj)(k lo hi:Nat):Bool:=match l[k]? with|some c=>decide (lo<=c.toNat)&&decide (c.toNat<=hi)|none=>false
def dV(c:Nat):Nat:=if c<224 then 2 else if c<240 then 3 else 4
def ee(c:Nat):Nat:=if c=224 then 160 else if c=240 then 144 else 128
def eu(c:Nat):Nat:=if c=237 then 159 else if c=244 then 143 else 191
def seqLen(l:dj):Nat:=
 match l with
 | []=>0
 | c::_=>
   if c.toNat<128 then 1
   else if c.toNat<194\/244<c.toNat then 0
   else if(ed l 1 (ee c.toNat) (eu c.toNat)&&(decide (dV c.toNat<=2)||ed l 2 128 191)&&(decide (dV c.toNat<=3)||ed l 3 128 191))=true then dV c.toNat else 0
def fA(c:UInt8):Option Nat:=
 if 48<=c.toNat/\c.toNat<=57 then some (c.toNat-48)
 else if 65<=c.toNat/\c.toNat<=70 then some (c.toNat-55)
 else if 97<=c.toNat/\c.toNat<=102 then some (c.toNat-87)
 else none
def dH:Nat->Nat->dj->Nat->Option Nat×Nat
 | 0,n,_,o=>(some n,o)
 | _+1,_,[],o=>(none,o)
 | k+1,n,c::r,o=>match fA c with|none=>(none,o)|some d=>dH k (16*n+d) r (o+1)
def dt(l:dj):Option Nat×Nat:=dH 4 0 l 0
def dP(l:dj):Option Nat:=
 match l with
 | a::b::r=>if a=92/\b=117 then(match (dt r).1 with|some n=>if 56320<=n/\n<=57343 then some n else none|none=>none)else none
 | _=>none
def fJ(n:Nat):dj:=
 if n<128 then [UInt8.ofNat n]
 else if n<2048 then [UInt8.ofNat (192+n/64),UInt8.ofNat (128+n%64)]
 else if n<65536 then [UInt8.ofNat (224+n/4096),UInt8.ofNat (128+n/64%64),UInt8.ofNat (128+n%64)]
 else [UInt8.ofNat (240+n/262144),UInt8.ofNat (128+n/4096%64),UInt8.ofNat (128+n/64%64),UInt8.ofNat (128+n%64)]
def fZ(n:Nat)(r:dj):Except Nat (dj×Nat):=
 if n<55296\/57343<n then .ok (fJ n,6)
 else match dP r with
  | none=>.error 0
  | some m=>if 56320<=n then .error 0 else .ok (fJ (65536+1024*(n-55296)+(m-56320)),12)
def fo(c:UInt8):Option UInt8:=
 if c=34\/c=92\/c=47 then some c else if c=98 then some 8 else if c=102 then some 12 else if c=110 then some 10 else if c=114 then some 13 else if c=116 then some 9 else none
def eQ(l:dj):Except Nat (dj×Nat):=
 match l with
 | _::c::r=>
   match fo c with
   | some b=>.ok ([b],2)
   | none=>if c=117 then(match dt r with|(none,o)=>.error (2+o)|(some n,_)=>fZ n (r.drop 4))else .error 1
 | _=>.error 1
def cL(acc:dj)(k:Nat):Except Nat (dj×Nat)->Except Nat (dj×Nat)
 | .ok (t,n)=>.ok (acc++t,k+n)
 | .error o=>.error (k+o)
def strF:Nat->dj->Except Nat (dj×Nat)
 | 0,_=>.error 0
 | f+1,l=>
   match l with
   | []=>.error 0
   | c::_=>
     if c=34 then .ok ([],1)
     else if c.toNat<32 then .error 0
     else if c=92 then
      match eQ l with
      | .error o=>.error o
      | .ok (t,n)=>cL t n (strF f (l.drop n))
     else if seqLen l=0 then .error 0
     else cL (l.take (seqLen l)) (seqLen l) (strF f (l.drop (seqLen l)))
def jC(l:dj):Except Nat (dj×Nat):=strF (l.length+1) l
def da(l:dj):Except Nat (dj×Nat):=
 match l with
 | c::r=>if c=34 then(match jC r with| .ok (t,n)=>.ok (t,n+1)| .error o=>.error (o+1))else .error 0
 | []=>.error 0
def cH:Nat:=9007199254740991
def nd:dj->Nat|[]=>0|c::r=>if d8 c then nd r+1 else 0
def accN:Nat->dj->Nat
 | n,[]=>n
 | n,c::r=>accN (if n<=cH then 10*n+(c.toNat-48)else n) r
def di(l:dj):Except (Nat×Nat) (Int×Nat):=
 let m:=if l.head?=some 45 then 1 else 0
 let r:=l.drop m
 let k:=nd r
 if k=0\/(1<k/\r.head?=some 48)then .error (2,m)
 else if cH<accN 0 (r.take k)then .error (3,0)
 else .ok (if m=1 then -(accN 0 (r.take k):Int)else(accN 0 (r.take k):Int),m+k)
def jJ(c:UInt8):Bool:=decide (97<=c.toNat)&&decide (c.toNat<=122)
def nl:dj->Nat|[]=>0|c::r=>if jJ c then nl r+1 else 0
inductive JT where
 | null (at':Nat)
 | truth (b:Bool) (at':Nat)
 | int (n:Int) (at':Nat)
 | str (t:dj) (at':Nat)
 | arr (ts:List JT) (at':Nat)
 | obj (ms:List (dj×JT)) (at':Nat)
def df(l:dj)(i:Nat):Except (Nat×Nat) (JT×Nat):=
 let w:=l.take (nl l)
 if w=[116,114,117,101]then .ok (.truth true i,4)
 else if w=[102,97,108,115,101]then .ok (.truth false i,5)
 else if w=[110,117,108,108]then .ok (.null i,4)
 else .error (2,i)
abbrev JR(α:Type):=Except (Nat×Nat) (α×Nat)
def dW(v:dj->Nat->JR JT):Nat->dj->Nat->JR (List JT)
 | 0,_,i=>.error (2,i)
 | f+1,l,i=>
   let a:=nb l
   match v (l.drop a) (i+a)with
   | .error e=>.error e
   | .ok (t,n)=>
     let b:=a+n+nb (l.drop (a+n))
     match l.drop b with
     | c::_=>
       if c=44 then(match dW v f (l.drop (b+1)) (i+(b+1))with| .error e=>.error e| .ok (ts,k)=>.ok (t::ts,b+1+k))
       else if c=93 then .ok ([t],b+1)else .error (2,i+b)
     | []=>.error (2,i+b)
def dn(v:dj->Nat->JR JT):Nat->List (dj)->dj->Nat->JR (List (dj×JT))
 | 0,_,_,i=>.error (2,i)
 | f+1,ks,l,i=>
   let a:=nb l
   match da (l.drop a)with
   | .error o=>.error (2,i+a+o)
   | .ok (name,m)=>
     if name∈ks then .error (4,i+a)
     else
      let b:=a+m+nb (l.drop (a+m))
      match l.drop b with
      | c::_=>
        if c=58 then
         let d:=b+1+nb (l.drop (b+1))
         match v (l.drop d) (i+d)with
         | .error e=>.error e
         | .ok (t,n)=>
           let g:=d+n+nb (l.drop (d+n))
           match l.drop g with
           | c::_=>
             if c=44 then(match dn v f (ks++[name]) (l.drop (g+1)) (i+(g+1))with| .error e=>.error e| .ok (ms,k)=>.ok ((name,t)::ms,g+1+k))
             else if c=125 then .ok ([(name,t)],g+1)else .error (2,i+g)
           | []=>.error (2,i+g)
        else .error (2,i+b)
      | []=>.error (2,i+b)
def dM(v:dj->Nat->JR JT)(l:dj)(i:Nat):JR JT:=
 let a:=1+nb (l.drop 1)
 if(l.drop a).head?=some 93 then .ok (.arr [] i,a+1)
 else match dW v (l.length+1) (l.drop a) (i+a)with
  | .error e=>.error e
  | .ok (ts,k)=>.ok (.arr ts i,a+k)
def db(v:dj->Nat->JR JT)(l:dj)(i:Nat):JR JT:=
 let a:=1+nb (l.drop 1)
 if(l.drop a).head?=some 125 then .ok (.obj [] i,a+1)
 else match dn v (l.length+1) [] (l.drop a) (i+a)with
  | .error e=>.error e
  | .ok (ms,k)=>.ok (.obj ms i,a+k)
def valL:Nat->dj->Nat->JR JT
 | d,l,i=>
   match l with
   | []=>.error (2,i)
   | c::_=>
     if c=34 then(match da l with| .error o=>.error (2,i+o)| .ok (t,n)=>.ok (.str t i,n))
     else if c=45\/d8 c=true then(match di l with| .error (e,o)=>.error (e,i+o)| .ok (n,k)=>.ok (.int n i,k))
     else if c=116\/c=102\/c=110 then df l i
     else if c=91\/c=123 then
      match d with
      | 0=>.error (5,i)
      | d+1=>if c=91 then dM (valL d) l i else db (valL d) l i
     else .error (2,i)
def cB(l:dj):Except (Nat×Nat) JT:=
 if 65536<l.length then .error (1,0)
 else
  let a:=nb l
  match valL 32 (l.drop a) a with
  | .error e=>.error e
  | .ok (t,n)=>
    let b:=a+n+nb (l.drop (a+n))
    if b<l.length then .error (2,b)else .ok t
structure Nd where
 kind:Nat
 key:dj
 text:dj
 num:Int
 kids:hH
 at':Nat
abbrev oa:=List Nd
mutual
def JT.size:JT->Nat
 | .null _=>1
 | .truth _ _=>1
 | .int _ _=>1
 | .str _ _=>1
 | .arr ts _=>1+cC ts
 | .obj ms _=>1+cp ms
def cC:List JT->Nat
 | []=>0
 | t::r=>t.size+cC r
def cp:List (dj×JT)->Nat
 | []=>0
 | (_,t)::r=>t.size+cp r
end
def d9:Nat->List JT->hH
 | _,[]=>[]
 | b,t::r=>b::d9 (b+t.size) r
def cq:Nat->List (dj×JT)->hH
 | _,[]=>[]
 | b,(_,t)::r=>b::cq (b+t.size) r
mutual
def flat(b:Nat)(key:dj):JT->oa
 | .null i=>[⟨0,key,[],0,[],i⟩]
 | .truth x i=>[⟨1,key,[],if x then 1 else 0,[],i⟩]
 | .int n i=>[⟨2,key,[],n,[],i⟩]
 | .str t i=>[⟨3,key,t,0,[],i⟩]
 | .arr ts i=>⟨4,key,[],0,d9 (b+1) ts,i⟩::fG (b+1) ts
 | .obj ms i=>⟨5,key,[],0,cq (b+1) ms,i⟩::dF (b+1) ms
def fG(b:Nat):List JT->oa
 | []=>[]
 | t::r=>flat b [] t++fG (b+t.size) r
def dF(b:Nat):List (dj×JT)->oa
 | []=>[]
 | (k,t)::r=>flat b k t++dF (b+t.size) r
end
mutual
theorem cJ(b:Nat)(key:dj)(t:JT):(flat b key t).length=t.size:=by
 cases t with
 | null=>rfl
 | truth=>rfl
 | int=>rfl
 | str=>rfl
 | arr ts i=>rw[flat,JM,mJ,JT.size];omega
 | obj ms i=>rw[flat,JM,fu,JT.size];omega
theorem mJ(b:Nat)(ts:List JT):(fG b ts).length=cC ts:=by
 cases ts with
 | nil=>rfl
 | cons t r=>rw[fG,JH,cJ,mJ,cC]
theorem fu(b:Nat)(ms:List (dj×JT)):(dF b ms).length=cp ms:=by
 cases ms with
 | nil=>rfl
 | cons m r=>
   obtain⟨k,t⟩:=m;rw[dF,JH,cJ,fu,cp]
end
theorem uG(W:Wd)(l:dj)(a:l.length<=maxLen):Sem.run prog (convert 115 9 (.slice (some ⟨W.heap.size,0,none⟩) l.length l.length)) (W.alloc (.cells (l.map cj).toArray 5))=.ok (.string ⟨l.toArray⟩) (W.alloc (.cells (l.map cj).toArray 5)):=by
 have h:OwnB W.heap.size 5 (.slice (some ⟨W.heap.size,0,none⟩) l.length l.length) l (W.alloc (.cells (l.map cj).toArray 5)):=.inr ⟨W.heap.size,l.length,_,(0,0),rfl,JQ _,JK _ _,.inl (KI _),JQ _,a,by simp,by rw[Kd (by simp)]⟩;exact h.str JU KY Kl
theorem jG(W:Wd)(a:UInt8):Sem.run prog (convert 115 9 (.slice (some ⟨W.heap.size,0,none⟩) 1 1)) (W.alloc (.cells #[.int .u8 (a.toNat:Int)] 5))=.ok (.string ⟨#[a]⟩) (W.alloc (.cells #[.int .u8 (a.toNat:Int)] 5)):=uG W [a] (by simp[maxLen])
theorem pj(W:Wd)(a b:UInt8):Sem.run prog (convert 115 9 (.slice (some ⟨W.heap.size,0,none⟩) 2 2)) (W.alloc (.cells #[.int .u8 (a.toNat:Int),.int .u8 (b.toNat:Int)] 5))=.ok (.string ⟨#[a,b]⟩) (W.alloc (.cells #[.int .u8 (a.toNat:Int),.int .u8 (b.toNat:Int)] 5)):=uG W [a,b] (by simp[maxLen])
theorem Eb(W:Wd)(a b c:UInt8):Sem.run prog (convert 115 9 (.slice (some ⟨W.heap.size,0,none⟩) 3 3)) (W.alloc (.cells #[.int .u8 (a.toNat:Int),.int .u8 (b.toNat:Int),.int .u8 (c.toNat:Int)] 5))=.ok (.string ⟨#[a,b,c]⟩) (W.alloc (.cells #[.int .u8 (a.toNat:Int),.int .u8 (b.toNat:Int),.int .u8 (c.toNat:Int)] 5)):=uG W [a,b,c] (by simp[maxLen])
theorem De(W:Wd)(a b c d:UInt8):Sem.run prog (convert 115 9 (.slice (some ⟨W.heap.size,0,none⟩) 4 4)) (W.alloc (.cells #[.int .u8 (a.toNat:Int),.int .u8 (b.toNat:Int),.int .u8 (c.toNat:Int),.int .u8 (d.toNat:Int)] 5))=.ok (.string ⟨#[a,b,c,d]⟩) (W.alloc (.cells #[.int .u8 (a.toNat:Int),.int .u8 (b.toNat:Int),.int .u8 (c.toNat:Int),.int .u8 (d.toNat:Int)] 5)):=uG W [a,b,c,d] (by simp[maxLen])
def optI:Option Nat->Int|some d=>(d:Int)|none=> -1
theorem hY(d:Nat):optI (some d)=(d:Int):=rfl
theorem g7:optI none= -1:=rfl
theorem eB{c:UInt8}{k:Nat}(b:k<256)(h:c≠UInt8.ofNat k):((c.toNat:Int)==(k:Int))=false:=by
 rw[JJ];intro a;have:c.toNat=k:=by exact_mod_cast a
 exact h (by rw[<-this];simp)
theorem zv{c:UInt8}{k:Nat}(a:k<256)(h:c≠UInt8.ofNat k):((c.toNat:Int) != (k:Int))=true:=by
 have:=eB a h;simp[bne,this]
def qV:Option Nat->Option Nat
 | some n=>if 56320<=n/\n<=57343 then some n else none
 | none=>none
section
attribute [local go_sem] jG pj Eb De
theorem fq(x:Int)(n:Nat)(h:x=(n:Int))(a:n<256):x=((UInt8.ofNat n).toNat:Int):=by rw[h];simp;omega
end
def fh(l:dj)(lo hi k:Nat):Bool:=ed l 1 lo hi&&(decide (k<=2)||ed l 2 128 191)&&(decide (k<=3)||ed l 3 128 191)
theorem sn(l:dj)(a b:Nat):fh l a b 2=ed l 1 a b:=by simp[fh]
theorem Jy(l:dj)(a b:Nat):fh l a b 3=(fh l a b 2&&ed l 2 128 191):=by simp[fh]
theorem Je(l:dj)(a b:Nat):fh l a b 4=(fh l a b 3&&ed l 3 128 191):=by simp[fh]
theorem iM(l:dj)(a b k:Nat)(c:2<=k)(d:k<4):fh l a b (k+1)=(fh l a b k&&ed l k 128 191):=by
 have:k=2\/k=3:=by omega
 rcases this with rfl|rfl
 ·exact Jy l a b
 ·exact Je l a b
theorem xZ(c:Nat)(d:194<=c)(e:c<=244):(c<224/\dV c=2/\ee c=128/\eu c=191)\/(c=224/\dV c=3/\ee c=160/\eu c=191)\/(c=237/\dV c=3/\ee c=128/\eu c=159)\/(224<c/\c<240/\c≠237/\dV c=3/\ee c=128/\eu c=191)\/(c=240/\dV c=4/\ee c=144/\eu c=191)\/(c=244/\dV c=4/\ee c=128/\eu c=143)\/(240<c/\c<244/\dV c=4/\ee c=128/\eu c=191):=by
 unfold dV ee eu;have:c<224\/c=224\/c=237\/(224<c/\c<240/\c≠237)\/c=240\/c=244\/(240<c/\c<244):=by omega
 rcases this with h|h|h|⟨h,a,b⟩|h|h|⟨h,a⟩
 ·left;refine⟨h,?_,?_,?_⟩<;>(repeat' split)<;>omega
 ·right;left;simp[h]
 ·right;right;left;simp[h]
 ·right;right;right;left;refine⟨h,a,b,?_,?_,?_⟩<;>(repeat' split)<;>omega
 ·right;right;right;right;left;simp[h]
 ·right;right;right;right;right;left;simp[h]
 ·right;right;right;right;right;right;refine⟨h,a,?_,?_,?_⟩<;>(repeat' split)<;>omega
def E8(s:dv)(i:Nat)(vL:Va)(er at' dp:Nat):Array Value:= #[.string s,.int .i64 (i:Int),vL,.int .i64 (er:Int),.int .i64 (at':Int),.int .i64 (dp:Int)]
section
variable {Z:Nat} {s:dv} {i:Nat} {Y:Va} {X V W:Nat} {w:Wd}
end
abbrev ca(bp:Nat)(w w':Wd):Prop:=w.grownBy w' (some bp)
theorem ce(a:Nat)(w:Wd):ca a w w:=⟨rfl,rfl,rfl,JQ _,fun _ _ _=>rfl⟩
theorem ca.trans{d:Nat}{a b c:Wd}(h:ca d a b)(g:ca d b c):ca d a c:=
 ⟨g.os.trans h.os,g.tape.trans h.tape,g.output.trans h.output,Ki h.size g.size,fun k e f=>(g.block k (J0 e h.size) f).trans (h.block k e f)⟩
theorem ca.drewN{c:Nat}{a b:Wd}(h:ca c a b)(n:Nat):ca c a (b.drewN n):=⟨h.os,h.tape,h.output,h.size,h.block⟩
theorem ca.setCell{c k:Nat}{a b:Wd}(h:ca c a b)(v:Va){f:Array Value}{t:TypeId}{i:Nat×Nat}(d:b.heap[c]?=some (.cells f t i)):ca c a (b.setCell ⟨c,k,none⟩ v):=by
 rw[JV b c k _ _ _ _ d];refine h.trans ⟨rfl,rfl,rfl,by simp[World.setRow],fun j l g=>Kg b c j _ ?_⟩;intro e;exact g (by rw[e])
theorem ca.alloc{c:Nat}{a b:Wd}(h:ca c a b)(o:Obj):ca c a (b.alloc o):=
 ⟨h.os,h.tape,h.output,Ki h.size (by simp),fun k d e=>by rw[JO _ _ (J0 d h.size)];exact h.block k d e⟩
theorem iH{c:Nat}{a b:Wd}(h:Below a.heap.size a b):ca c a b:=⟨h.os,h.tape,h.output,h.size,fun k d _=>h.block k d⟩
def ft(er:Nat)(l:dj)(c:UInt8):Bool:=decide (er=0)&&(l.head?==some c)
theorem gy{l:dj}{c:UInt8}(h:l.head?=some c):ft 0 l c=true:=by simp[ft,h]
theorem fa{l:dj}{c:UInt8}(h:l.head?≠some c):ft 0 l c=false:=by simp[ft,h]
theorem jM{a:Nat}{l:dj}{c:UInt8}(h:0<a):ft a l c=false:=by simp[ft];omega
theorem dr{s:dv}{i:Nat}{c:UInt8}(h:(b9 s i).head?=some c):i<s.size:=by
 by_cases a:i<s.size
 ·exact a
 ·rw[cU s i (by omega)]at h;simp at h
section
variable (Z:Nat) (s:dv) (i:Nat) (Y:Va) (X V W:Nat) (c:UInt8) (w:Wd)
end
theorem CX(s:dv)(i:Nat)(h:i<s.size)(a:iS s[i]=true):nb (b9 s i)=nb (b9 s (i+1))+1:=by rw[cg s i h,nb,if_pos a]
theorem C2(s:dv)(i:Nat)(h:∀c,(b9 s i).head?=some c->iS c=false):nb (b9 s i)=0:=by
 match a:b9 s i with
 | []=>rfl
 | c::r=>rw[nb,if_neg (by rw[h c (by rw[a];rfl)];simp)]
def dU:Option Value->Nat|some (.int _ n)=>n.toNat|_=>0
theorem oG(n:Nat)(r:dj)(h:n<55296\/57343<n):fZ n r=.ok (fJ n,6):=by unfold fZ;rw[if_pos h]
theorem pH{l:dj}{m:Nat}(h:dP l=some m):56320<=m/\m<=57343:=by
 unfold dP at h;split at h
 ·split at h
  ·split at h
   ·split at h
    ·injection h with h;subst h;assumption
    ·cases h
   ·cases h
  ·cases h
 ·cases h
section
variable (Z:Nat) (s:dv) (i:Nat) (Y:Va) (W X:Nat) (w:Wd)
theorem ye(h:i+1<s.size):eQ (b9 s i)=(match fo s[i+1]with
 | some b=>.ok ([b],2)
 | none=>if s[i+1]=117 then(match dt (b9 s (i+2))with|(none,o)=>.error (2+o)|(some n,_)=>fZ n (b9 s (i+6)))else .error 1):=by
 have a:i<s.size:=by omega
 rw[cg s i a,cg s (i+1) h,eQ,cw];all_goals rfl
end
section
variable (Z:Nat) (s:dv) (i:Nat) (Y:Va) (W X:Nat) (w:Wd)
attribute [local go_sem] jG
end
section
variable (Z:Nat) (s:dv) (i:Nat) (Y:Va) (W X:Nat) (w:Wd)
end
theorem wV{c:UInt8}{d:Nat}(h:fA c=some d):d<16:=by
 unfold fA at h;split at h
 ·injection h with h;omega
 ·split at h
  ·injection h with h;omega
  ·split at h
   ·injection h with h;omega
   ·cases h
theorem vh{k n:Nat}{l:dj}{o m e:Nat}(h:dH k n l o=(some m,e)):e=o+k/\m<(n+1)*16^k:=by
 induction k generalizing n l o with
 | zero=>simp[dH]at h;omega
 | succ k ih=>
   match l with
   | []=>simp[dH]at h
   | c::r=>
     rw[dH]at h;cases a:fA c with
     | none=>rw[a]at h;simp at h
     | some d=>
       rw[a]at h;obtain⟨f,b⟩:=ih h;have:=wV a;refine⟨by omega,J0 b ?_⟩;rw[LU,ML (16^k) 16,<-Nat.mul_assoc];exact Ll _ (by omega)
theorem pK{l:dj}{m e:Nat}(h:dt l=(some m,e)):e=4/\m<65536:=by
 have:=vh h;omega
section
variable (Z:Nat) (s:dv) (i:Nat) (Y:Va) (W X:Nat) (w:Wd)
theorem xp{c:UInt8}(h:fo c=none)(b:c≠117):∀k∈[34,92,47,98,102,110,114,116,117],c≠UInt8.ofNat k:=by
 intro k a e;simp at a;rcases a with rfl|rfl|rfl|rfl|rfl|rfl|rfl|rfl|rfl;all_goals first|(rw[e]at h;revert h;decide)|exact b e
end
theorem kr{g:Nat}{e:TypeId}{d:Nat×Nat}:∀(b:rt) (o:Nat) (w:Wd) (a:Array Value),w.heap[g]?=some (.cells a e d)->o+b.length<=a.size->∃c,(w.setCells g o b).heap[g]?=some (.cells c e d)/\c.size=a.size/\c.toList=a.toList.take o++b++a.toList.drop (o+b.length)/\(∀B,B<=g->Below B w (w.setCells g o b)):=by
 intro b;induction b with
 | nil=>intro o w a h j;exact⟨a,h,rfl,by simp,fun B _=>JI _ _⟩
 | cons v r ih=>
   intro o w a h j;simp only[JM]at j;have i:=JV w g o a e d v h;have n:(w.setCell ⟨g,o,none⟩ v).heap[g]?=some (.cells (a.setIfInBounds o v) e d):=by rw[i];exact J7 w g _ _ _ _ h
   obtain⟨c,k,l,q,m⟩:=ih (o+1) _ _ n (by simp;omega);refine⟨c,k,by simpa using l,?_,fun B f=>?_⟩
   ·rw[q,KN]
    rw[Ks (by simp;omega),Nn (JQ _)];rw[List.drop_set_of_lt (by omega)];simp[List.append_assoc,Nat.add_comm,Nat.add_left_comm]
   ·have p:Below B w (w.setCell ⟨g,o,none⟩ v):=by rw[i];exact KU (JI _ _) f _
    exact p.trans (m B f)
theorem dY(s:dv):byteCells s=s.data.toList.map cj:=rfl
theorem GS{P:Program}(w:Wd)(t u n e:TypeId)(i:TypeInfo)(o:P.underlying t=some (.slice e))(N:P.underlying u=some .string)(k:P.info? e=some i)(J:i.zero=some (.int .u8 0))(f:i.size=1)(O:i.bytes=1)(B:Nat)(v:Va)(l:dj)(s:dv)(L:OwnB B e v l w)(K:B<=w.heap.size)(M:l.length+s.size<=140737488355328):∃I E,(Builtin.append_ #[t,u] n #[v,.string s]).run P w=.ok I E/\OwnB B e I (l++s.data.toList) E/\Below B w E:=by
 have r:Src P i.size u (.string s) s.size (byteCells s) w:=by rw[f];exact Src.ofString w N s
 have C:l.length+s.size<=maxLen:=by unfold maxLen;omega
 have ac:s.data.toList.length=s.size:=by simp
 by_cases Q:s.size=0
 ·have G:s.data.toList=[]:=Kt.1 (by omega)
  rw[G,KB];rcases L with⟨rfl,rfl⟩|⟨g,cap,z,m,rfl,q,d,y,H,A,R,x⟩
  ·refine⟨.slice none 0 0,w,?_,.inl ⟨rfl,rfl⟩,JI _ _⟩
   simp[Builtin.append_,run_underlying o,run_underlying N,sizeOf,typeInfo,k,Builtin.lenOf,Builtin.firstCells,Q]
  ·have a:=My (P:=P) w t u n e i o k g 0 l.length cap (.string s) s.size (byteCells s) r (by omega) (by intro j b;rw[KA]at b;omega) (by intro j b;rw[KA]at b;omega)
   have S:byteCells s=[]:=by rw[dY,G];rfl
   rw[S]at a;refine⟨_,_,a,.inr ⟨g,cap,z,m,by rw[Q];rfl,q,d,y,H,A,R,x⟩,JI _ _⟩
 ·rcases L with⟨rfl,rfl⟩|⟨g,cap,z,m,rfl,q,d,y,H,A,R,x⟩
  ·have a:=LZ (P:=P) w t u n e i (.int .u8 0) o k J none 0 0 [] (by simp[Builtin.firstCells]) (.string s) s.size (byteCells s) r (by omega) (by simp at M ⊢;omega) (by rw[O];exact L2 (by omega) (by simp at M ⊢;omega))
   rw[J3]at a;have D:=Mo w s.size 0 e;have p:=Lv w s.size 0 e (by simpa using C);generalize grownCap w s.size 0 e=c at a D p;refine⟨_,_,a,?_,((JI B w).drew).alloc (by show B<=w.heap.size;omega) _⟩;refine .inr ⟨w.heap.size,c,_,(0,0),by simp,K,JK w.drew _,.inl (KI _),by simp;omega,p,?_,?_⟩
   ·have F:(Value.int IntKind.u8 0).cells.size=1:=rfl
    simp only[LH,LI,Mq,F,JH,KA,JY];omega
   ·rw[dY]
    simp only[KK,Lj];rw[Lu (by simp)]
  ·by_cases aa:l.length+s.size<=cap
   ·have W:∀j,j<(byteCells s).length->(w.cell? ⟨g,0+l.length*i.size+j,none⟩).isSome=true:=by
     intro j b;rw[KA]at b;rw[f,JE w g _ z e m d];simp;omega
    have Y:∀j,j<(byteCells s).length->w.frozen? ⟨g,0+l.length*i.size+j,none⟩=false:=by
     intro j b;rw[KA]at b;obtain⟨lo,ad⟩:=m;simp only[World.frozen?,d,Nf,Mz,f];simp only at y;omega
    have a:=My (P:=P) w t u n e i o k g 0 l.length cap (.string s) s.size (byteCells s) r aa W Y;obtain⟨ab,Z,a2,U,T⟩:=kr (byteCells s) (0+l.length*i.size) w z d (by rw[KA,f];omega);refine⟨_,_,a,.inr ⟨g,cap,ab,m,by simp,q,Z,?_,by simp;omega,A,by omega,?_⟩,T B q⟩
    ·rcases y with h|h
     ·left;simp;omega
     ·exact .inr h
    ·rw[U,f,J3,Mp,x,dY]
     rw[Lu (by simp)];simp
   ·have X:=OwnB.cells (B:=B) (cap:=cap) d x
    have V:(Builtin.firstCells i.size l.length (.slice (some ⟨g,0,none⟩) l.length cap)).run P w.drew=.ok (l.map cj).toArray w.drew:=by
     rw[f];exact LK (P:=P) w.drew 1 l.length ⟨g,0,none⟩ l.length cap (l.map cj) (by simp) (by simpa using X)
    have a:=LZ (P:=P) w t u n e i (.int .u8 0) o k J (some ⟨g,0,none⟩) l.length cap (l.map cj) V (.string s) s.size (byteCells s) r (by omega) (by unfold maxLen at C;omega) (by rw[O];exact L2 (by omega) (by omega));have D:=Mo w (l.length+s.size) cap e;have p:=Lv w (l.length+s.size) cap e C;generalize grownCap w (l.length+s.size) cap e=c at a D p;refine⟨_,_,a,?_,((JI B w).drew).alloc (by show B<=w.heap.size;omega) _⟩;refine .inr ⟨w.heap.size,c,_,(0,0),by simp,K,JK w.drew _,.inl (KI _),by simp;omega,p,?_,?_⟩
    ·have F:(Value.int IntKind.u8 0).cells.size=1:=rfl
     simp only[LH,LI,Mq,F,JH,KA,Kq];omega
    ·rw[dY]
     simp only[KK];rw[<-Kj,Lu (by simp)]
theorem qJ{P:Program}{d:Array Oper}{f:List Oper}{o:Oper}{a:Act}{Q:Exit->Act->Wd->Prop}{w:Wd}(A:o.guard=none)(x y:Operand)(t u:TypeId)(E:o.op=.call {callee:=.builtin .append,args:= #[x,y],argTypes:= #[t,u]})
 (e:TypeId) (i:TypeInfo) (H:P.underlying t=some (.slice e)) (q:P.underlying u=some .string) (k:P.info? e=some i) (I:i.zero=some (.int .u8 0)) (r:i.size=1) (z:i.bytes=1)
 (B:Nat) (v:Va) (l:dj) (s:dv) (g:a.eval x=v) (G:a.eval y=.string s) (p:l.length+s.size<=140737488355328) (n:OwnB B e v l w) (j:B<=w.heap.size)
 (h:∀c b,OwnB B e c (l++s.data.toList) b->Below B w b->wpList P d Q f (a.put o.dst c) b):wpList P d Q (o::f) a w:=by
 refine LC A fun K F=>?_
 obtain⟨c,b,m,D,C⟩:=GS (P:=P) w t u o.type e i H q k I r z B v l s n j p;unfold Oper.wp execOp;simp only[E,resolve,invoke,builtin,K6,Li,KP,Ln,JW,Ko,g,G,m];exact F _ _ (h c b D C)
theorem Hs{P:Program}{d:Array Oper}{o:Oper}{a:Act}{w:Wd}{K:Act->Wd->Prop}{Q:Exit->Act->Wd->Prop}{E:Prop}(z:o.guard=none)(x y:Operand)(t u:TypeId)(D:o.op=.call {callee:=.builtin .append,args:= #[x,y],argTypes:= #[t,u]})
 (e:TypeId) (i:TypeInfo) (G:P.underlying t=some (.slice e)) (p:P.underlying u=some .string) (j:P.info? e=some i) (H:i.zero=some (.int .u8 0)) (q:i.size=1) (r:i.bytes=1)
 (B:Nat) (v:Va) (l:dj) (s:dv) (f:a.eval x=v) (F:a.eval y=.string s) (n:l.length+s.size<=140737488355328) (m:OwnB B e v l w) (g:B<=w.heap.size)
 (h:∀c b,OwnB B e c (l++s.data.toList) b->Below B w b->K (a.put o.dst c) b):
 if Region.wanted o (yielded d a.tmps)=true then Oper.wp P o a w K Q else E:=by
 have hw:Region.wanted o (yielded d a.tmps)=true:=by simp[Region.wanted,z]
 rw[if_pos hw];obtain⟨c,b,k,C,A⟩:=GS (P:=P) w t u o.type e i G p j H q r B v l s m g n;unfold Oper.wp execOp;simp only[D,resolve,invoke,builtin,K6,Li,KP,Ln,JW,Ko,f,F,k];exact h c b C A
theorem pX(n:Nat):(fJ n).length<=4:=by
 unfold fJ;split
 ·simp
 ·split
  ·simp
  ·split<;>simp
theorem oy{l t:dj}{n:Nat}(h:eQ l=.ok (t,n)):t.length<=n/\2<=n/\n<=12:=by
 unfold eQ at h;split at h
 ·split at h
  ·injection h with h;injection h with a b;subst a;subst b;simp
  ·split at h
   ·split at h
    ·cases h
    ·unfold fZ at h
     split at h
     ·injection h with h;injection h with a b;subst a;subst b
      have:=pX;exact⟨Ki (this _) (by omega),by omega,by omega⟩
     ·split at h
      ·cases h
      ·split at h
       ·cases h
       ·injection h with h;injection h with a b;subst a;subst b
        have:=pX;exact⟨Ki (this _) (by omega),by omega,by omega⟩
   ·cases h
 ·cases h
theorem iE(a t:dj)(k n:Nat)(X:Except Nat (dj×Nat)):cL a k (cL t n X)=cL (a++t) (k+n) X:=by
 cases X with
 | ok p=>obtain⟨x,m⟩:=p;simp[cL,Nat.add_assoc]
 | error o=>simp[cL,Nat.add_assoc]
theorem u6(c:Nat):dV c<=4:=by unfold dV;split<;>(try split)<;>omega
theorem lK(l:dj):seqLen l<=4:=by
 unfold seqLen;split
 ·omega
 ·split
  ·omega
  ·split
   ·omega
   ·split
    ·exact u6 _
    ·omega
theorem m9{l:dj}{k a b:Nat}(h:ed l k a b=true):k<l.length:=by
 unfold ed at h;split at h
 ·rename_i c d;exact(JG.1 d).1
 ·cases h
theorem lQ(l:dj):seqLen l<=l.length:=by
 match l with
 | []=>simp[seqLen]
 | c::r=>
   simp only[seqLen];split
   ·simp
   ·split
    ·omega
    ·split
     ·rename_i h
      simp only[Kz,Md,Kx]at h;obtain⟨⟨d,b⟩,a⟩:=h;have e:=m9 d;have:=u6 c.toNat;rcases b with b|b
      ·omega
      ·have f:=m9 b
       rcases a with a|a
       ·omega
       ·have g:=m9 a;omega
     ·omega
theorem eb:(prog.info? 5).map (fun i=>(i.zero,i.size,i.bytes))=some (some (.int .u8 0),1,1):=by kernel_rfl
section
variable (Z:Nat) (s:dv) (i:Nat) (Y:Va) (W X:Nat) (w:Wd)
def QM(wr:Wd):Nat:=if dU (wr.cell? ⟨Z,3,none⟩)=0 then s.size+13-dU (wr.cell? ⟨Z,1,none⟩)+1 else 0
theorem je{w':Wd}{wr:Wd}(a:ca Z w wr)(b:Below w.heap.size wr w'):ca Z w w':=
 ⟨b.os.trans a.os,b.tape.trans a.tape,b.output.trans a.output,Ki a.size b.size,fun k c d=>(b.block k c).trans (a.block k c d)⟩
theorem OwnB.onl{B:Nat}{e:TypeId}{v:Va}{l:dj}{c a:Wd}(h:OwnB B e v l c)(k:ca Z c a)(p:Z<B):OwnB B e v l a:=by
 rcases h with h|⟨g,m,n,o,j,d,b,f⟩
 ·exact .inl h
 ·refine .inr ⟨g,m,n,o,j,d,?_,f⟩
  have:=(go.1 b).1;rw[k.block _ this (fun e=>by injection e with e;omega)];exact b
end
theorem rL(s:dv)(p:Nat)(h:p<s.size)(a:d8 s[p]=true):nd (b9 s p)=nd (b9 s (p+1))+1:=by rw[cg s p h,nd,if_pos a]
theorem wF(s:dv)(p:Nat)(h:p<s.size)(a:d8 s[p]=false):nd (b9 s p)=0:=by rw[cg s p h,nd,if_neg (by rw[a];simp)]
theorem zr(s:dv)(p:Nat)(h:s.size<=p):nd (b9 s p)=0:=by rw[cU s p h];rfl
theorem oQ(l:dj):nd l<=l.length:=by
 induction l with
 | nil=>simp[nd]
 | cons c r ih=>rw[nd];split<;>simp<;>omega
theorem t8(s:dv)(p X:Nat)(h:p<s.size)(a:d8 s[p]=true):accN X ((b9 s p).take (nd (b9 s p)))=accN (if X<=cH then 10*X+(s[p].toNat-48)else X) ((b9 s (p+1)).take (nd (b9 s (p+1)))):=by
 rw[rL s p h a,cg s p h,LW,accN]
theorem lX{l:dj}(h:l.head?≠some 45):di l=if nd l=0\/(1<nd l/\l.head?=some 48)then .error (2,0)else if cH<accN 0 (l.take (nd l))then .error (3,0)else .ok ((accN 0 (l.take (nd l)):Int),0+nd l):=by
 unfold di;simp only[if_neg h,K3];rfl
theorem l0{l r:dj}(h:l=45::r):di l=if nd r=0\/(1<nd r/\r.head?=some 48)then .error (2,1)else if cH<accN 0 (r.take (nd r))then .error (3,0)else .ok (-(accN 0 (r.take (nd r)):Int),1+nd r):=by
 subst h;rfl
theorem kF(c:UInt8):d8 c=true↔48<=c.toNat/\c.toNat<=57:=by simp[d8]
section
variable (Z:Nat) (s:dv) (i:Nat) (Y:Va) (W X:Nat) (w:Wd)
end
section
variable (Z:Nat) (s:dv) (i:Nat) (Y:Va) (W X:Nat) (w:Wd)
end
def iV(n:Nat):Va:=.int .i64 (n:Int)
def cz(n:Nd)(kv:Va):rt:=[.int .i64 (n.kind:Int),.string ⟨n.key.toArray⟩,.string ⟨n.text.toArray⟩,.int .i64 n.num,kv,.int .i64 (n.at':Int)]
def dl:oa->rt->rt
 | n::ns,v::vs=>cz n v++dl ns vs
 | _,_=>[]
theorem rowN_length:∀(b:oa) (a:rt),a.length=b.length->(dl b a).length=b.length*6:=by
 intro b;induction b with
 | nil=>intro a h;rfl
 | cons n b ih=>
   intro a h;match a,h with
   | v::a,h=>rw[dl,JH,ih a (by simpa using h)];simp[cz];omega
theorem nR:∀(b:oa) (a:rt) (d:oa) (c:rt),a.length=b.length->dl (b++d) (a++c)=dl b a++dl d c:=by
 intro b;induction b with
 | nil=>intro a d c h;match a,h with|[],_=>rfl
 | cons n b ih=>
   intro a d c h;match a,h with
   | v::a,h=>simp only[JS,dl];rw[ih a d c (by simpa using h),J1]
def cr(B:Nat)(tN:TypeId)(v:Va)(ns:oa)(w:Wd):Prop:=
 ∃kvs:rt,kvs.length=ns.length/\w.ownsRow B tN 6 v ns.length (dl ns kvs)/\(∀(k:Nat) (n:Nd) (kv:Va),ns[k]?=some n->kvs[k]?=some kv->w.ownsRow B 3 1 kv n.kids.length (n.kids.map iV))/\(∀(j k:Nat) (a b:Va),j≠k->kvs[j]?=some a->kvs[k]?=some b->a.ownBlock≠none->a.ownBlock≠b.ownBlock)
theorem ez{w w':Wd}{B f n:Nat}{e:TypeId}{v:Va}{xs:rt}(h:w.ownsRow B e f v n xs)(j:∀g,B<=g->g<w.heap.size->w'.heap[g]?=w.heap[g]?):w'.ownsRow B e f v n xs:=by
 refine⟨h.1,?_⟩;rcases h.2 with h|⟨g,k,i,a,b,c,d⟩
 ·exact .inl h
 ·exact .inr ⟨g,k,i,a,b,(j g b (go.1 c).1).trans c,d⟩
theorem cr.kept{B:Nat}{d:TypeId}{v:Va}{e:oa}{w w':Wd}(h:cr B d v e w)(c:∀g,B<=g->g<w.heap.size->w'.heap[g]?=w.heap[g]?):cr B d v e w':=by
 obtain⟨j,o,l,f,m⟩:=h;exact⟨j,o,ez l c,fun k n i a b=>ez (f k n i a b) c,m⟩
theorem cr.onl{B a:Nat}{c:TypeId}{v:Va}{b:oa}{w w':Wd}(h:cr B c v b w)(d:ca a w w')(i:a<B):cr B c v b w':=
 h.kept fun g j f=>d.block g f (fun e=>by injection e with e;omega)
theorem cr.nil(B:Nat)(c:TypeId)(w:Wd):cr B c (.slice none 0 0) [] w:=
 ⟨[],rfl,⟨rfl,.inl ⟨rfl,rfl⟩⟩,fun k n d a b=>(by simp at a),fun j k a b _ h _ _=>(by simp at h)⟩
def cR(ns:oa)(up:Option Nat)(k:Nat):oa:=
 match up with
 | none=>ns
 | some u=>ns.modify u (fun n=>{n with kids:=n.kids++[k]})
theorem dL(a:oa)(up:Option Nat)(k:Nat):(cR a up k).length=a.length:=by
 unfold cR;cases up<;>simp
def om:Option Nat->Int|none=> -1|some u=>(u:Int)
def iF(n:Nd):Va:=.agg #[.int .i64 (n.kind:Int),.string ⟨n.key.toArray⟩,.string ⟨n.text.toArray⟩,.int .i64 n.num,.slice none 0 0,.int .i64 (n.at':Int)]
theorem lv:(prog.info? 3).map (fun i=>(i.zero,i.size,i.bytes))=some (some (.int .i64 0),1,8):=by kernel_rfl
theorem xx{P:Program}{l:Array Oper}{o:Oper}{a:Act}{w:Wd}{K:Act->Wd->Prop}{Q:Exit->Act->Wd->Prop}{E:Prop}(M:o.guard=none)(s x:Operand)(t:TypeId)(T:o.op=.call {callee:=.builtin .append,args:= #[s,x],argTypes:= #[t,t]})
 (e:TypeId) (i:TypeInfo) (z:Va) (b f:Nat) (U:P.underlying t=some (.slice e)) (A:P.info? e=some i) (F:i.zero=some z) (J:i.size=b) (L:i.bytes=f) (S:z.cells.size=b) (R:0<b)
 (B:Nat) (v:Va) (n:Nat) (xs c:rt) (k:Addr) (q:a.eval s=v) (p:a.eval x=.slice (some k) 1 1) (O:c.length=1*b) (G:∀u∈c,u.oneCell'=true) (N:n+1<=1000000000) (I:f<=80)
 (H:w.ownsRow B e b v n xs) (r:B<=w.heap.size) (D:∀j u,c[j]?=some u->w.cell? (k.add j)=some u)
 (h:∀g d,d.ownsRow B e b g (n+1) (xs++c)->w.grownBy d v.ownBlock->K (a.put o.dst g) d):
 if Region.wanted o (yielded l a.tmps)=true then Oper.wp P o a w K Q else E:=by
 have hw:Region.wanted o (yielded l a.tmps)=true:=by simp[Region.wanted,M]
 rw[if_pos hw];obtain⟨g,d,y,C,m,_⟩:=Nq (P:=P) w B t o.type e i z b f U A F J L S R v n xs H k 1 1 c O D G (by unfold maxLen;omega) (by
  have:(n+1)*f<=1000000000*80:=Nat.mul_le_mul N I;omega) r
 unfold Oper.wp execOp;simp only[T,resolve,invoke,builtin,K6,Li,KP,Ln,JW,Ko,q,p,y];exact h g d C m
theorem iy{w l:Wd}{B n m r:Nat}{e i:TypeId}{v kv:Va}{xs o:rt}(t:e≠i)(q:w.ownsRow B e r v n xs)(k:w.ownsRow B i 1 kv m o)(p:∀g,g<w.heap.size->some g≠v.ownBlock->l.heap[g]?=w.heap[g]?):l.ownsRow B i 1 kv m o:=by
 refine⟨k.1,?_⟩;rcases k.2 with h|⟨g,s,u,a,b,c,d⟩
 ·exact .inl h
 ·refine .inr ⟨g,s,u,a,b,(p g (go.1 c).1 ?_).trans c,d⟩
  intro j;rcases q.2 with⟨rfl,_⟩|⟨y,x,z,rfl,_,f,_⟩
  ·simp[Value.ownBlock]at j
  ·simp[Value.ownBlock]at j
   subst j;rw[c]at f;injection f with f;injection f with _ f _;exact t f.symm
theorem cr.push{B:Nat}{l:TypeId}{v y:Va}{c:oa}{nd:Nd}{kvs:rt}{w q:Wd}(r:kvs.length=c.length)(z:w.ownsRow B l 6 v c.length (dl c kvs))(G:∀(k:Nat) (n:Nd) (i:Va),c[k]?=some n->kvs[k]?=some i->w.ownsRow B 3 1 i n.kids.length (n.kids.map iV))(C:∀(j k:Nat) (a b:Va),j≠k->kvs[j]?=some a->kvs[k]?=some b->a.ownBlock≠none->a.ownBlock≠b.ownBlock)(E:q.ownsRow B l 6 y (c.length+1) (dl c kvs++cz nd (.slice none 0 0)))(J:∀g,g<w.heap.size->some g≠v.ownBlock->q.heap[g]?=w.heap[g]?)(K:l≠3)(H:nd.kids=[]):cr B l y (c++[nd]) q:=by
 refine⟨kvs++[.slice none 0 0],by simp[r],?_,?_,?_⟩
 ·rw[nR c kvs [nd] [.slice none 0 0] r,JH]
  have e:dl [nd] [.slice none 0 0]=cz nd (.slice none 0 0):=by simp[dl]
  rw[e];exact E
 ·intro k n i f h
  by_cases F:k<c.length
  ·rw[J4 F]at f
   rw[J4 (by omega)]at h;exact iy K z (G k n i f h) J
  ·have D:k=c.length:=by
    have:=(JG.1 f).1;simp at this;omega
   subst D;rw[J9 (JQ _)]at f;rw[<-r,J9 (JQ _)]at h;simp at f h;subst f;subst h;rw[H];exact⟨rfl,.inl ⟨rfl,rfl⟩⟩
 ·intro j k a b A p o s
  have t:∀{m:Nat} {x:Va},(kvs++[Value.slice none 0 0])[m]?=some x->(m<kvs.length/\kvs[m]?=some x)\/x=.slice none 0 0:=by
   intro m x d;by_cases u:m<kvs.length
   ·left;rw[J4 u]at d;exact⟨u,d⟩
   ·right
    rw[J9 (by omega)]at d;have:=(JG.1 d).1;have I:m-kvs.length=0:=by simp at this;omega
    rw[I]at d;simpa using d.symm
  rcases t p with⟨_,p⟩|rfl
  ·rcases t o with⟨_,o⟩|rfl
   ·exact C j k a b A p o s
   ·simpa [Value.ownBlock]using s
  ·exact absurd rfl s
theorem jL{w:Wd}{B c n:Nat}{e:TypeId}{v:Va}{xs:rt}(h:w.ownsRow B e c v (n+1) xs):∃g a,v=.slice (some ⟨g,0,none⟩) (n+1) a:=by
 rcases h.2 with⟨_,h⟩|⟨g,a,d,b,_⟩
 ·omega
 ·exact⟨g,a,b⟩
theorem c6{b c:Wd}{o:Obj}{row:Option Nat}(g:((b.alloc o).drew).grownBy c row){k:Nat}(f:k<b.heap.size)(d:some k≠row):c.heap[k]?=b.heap[k]?/\(∀j,c.cell? ⟨k,j,none⟩=b.cell? ⟨k,j,none⟩)/\(∀j,c.frozen? ⟨k,j,none⟩=b.frozen? ⟨k,j,none⟩):=by
 have e:c.heap[k]?=b.heap[k]?:=(g.block k (by show k<(b.alloc o).heap.size;simp;omega) d).trans (JO _ _ f);exact⟨e,fun j=>Lm (a:=⟨k,j,none⟩) e,fun j=>World.frozen?_of_block (a:=⟨k,j,none⟩) e⟩
theorem tu:∀(b:oa) (a:rt) (u k:Nat) (n:Nd) (c:Va),a.length=b.length->b[u]?=some n->dl (b.modify u (fun n=>{n with kids:=n.kids++[k]})) (a.set u c)=(dl b a).set (u*6+4) c:=by
 intro b;induction b with
 | nil=>intro a u k n c h d;simp at d
 | cons m b ih=>
   intro a u k n c h d;match a,h with
   | v::a,h=>
     match u with
     | 0=>simp[dl,cz]
     | u+1=>
       have f:a.length=b.length:=by simpa using h
       have:=ih a u k n c f (by simpa using d);simp only[Mi,List.set_cons_succ,dl];rw[this];have e:(u+1)*6+4=(cz m v).length+(u*6+4):=by simp[cz];omega
       rw[e,Mh _ _ (Mu _ _),KZ]
theorem cc{w:Wd}{B i n g:Nat}{e:TypeId}{v:Va}{xs:rt}(h:w.ownsRow B e i v n xs)(a:v.ownBlock=some g):B<=g/\g<w.heap.size/\∃f,w.heap[g]?=some (.cells f e (0,0)):=by
 rcases h.2 with⟨rfl,_⟩|⟨j,k,f,rfl,b,c,d⟩
 ·simp[Value.ownBlock]at a
 ·simp[Value.ownBlock]at a;subst a;exact⟨b,(go.1 c).1,f,c⟩
theorem jN{w:Wd}{B n m j l g:Nat}{e b:TypeId}{v d:Va}{xs k:rt}(p:e≠b)(h:w.ownsRow B e j v n xs)(f:w.ownsRow B b l d m k)(o:v.ownBlock=some g):d.ownBlock≠some g:=by
 intro i;obtain⟨_,_,q,c⟩:=cc h o;obtain⟨_,_,r,a⟩:=cc f i;rw[c]at a;injection a with a;injection a with _ a _;exact p a
theorem cr.kid{B:Nat}{F:TypeId}{v:Va}{i:oa}{kvs:rt}{w l:Wd}(N:kvs.length=i.length)(L:w.ownsRow B F 6 v i.length (dl i kvs))(O:∀(k:Nat) (n:Nd) (kv:Va),i[k]?=some n->kvs[k]?=some kv->w.ownsRow B 3 1 kv n.kids.length (n.kids.map iV))(I:∀(j k:Nat) (a b:Va),j≠k->kvs[j]?=some a->kvs[k]?=some b->a.ownBlock≠none->a.ownBlock≠b.ownBlock)(u k g C gL:Nat)(n:Nd)(kv:Va)(J:i[u]?=some n)(K:kvs[u]?=some kv)(af:l.ownsRow B 3 1 (.slice (some ⟨g,0,none⟩) (n.kids.length+1) C) (n.kids.length+1) (n.kids.map iV++[iV k]))(ab:∀f,f<w.heap.size->some f≠kv.ownBlock->l.heap[f]?=w.heap[f]?)(t:kv.ownBlock=some g\/w.heap.size<=g)(s:v.ownBlock=some gL)(W:F≠3):cr B F v (i.modify u (fun n=>{n with kids:=n.kids++[k]})) (l.setCell ⟨gL,u*6+4,none⟩ (.slice (some ⟨g,0,none⟩) (n.kids.length+1) C)):=by
 have ao:u<i.length:=(JG.1 J).1;have ai:=O u n kv J K;have ah:kv.ownBlock≠some gL:=jN W L ai s;have ak:l.ownsRow B F 6 v i.length (dl i kvs):=by
  refine⟨L.1,?_⟩;rcases L.2 with h|⟨f,p,o,a,b,c,d⟩
  ·exact .inl h
  ·refine .inr ⟨f,p,o,a,b,(ab f (go.1 c).1 (fun e=>?_)).trans c,d⟩
   rw[a]at s;simp[Value.ownBlock]at s;exact ah (by rw[<-s];exact e.symm)
 obtain⟨p,o,hv,hB,D,al,ae,an,aj⟩:∃p o,v=.slice (some ⟨gL,0,none⟩) i.length p/\B<=gL/\l.heap[gL]?=some (.cells o F (0,0))/\i.length<=p/\p<=maxLen/\o.size=p*6/\o.toList.take (i.length*6)=dl i kvs:=by
  rcases ak.2 with⟨h,_⟩|⟨f,p,o,a,b,c,d⟩
  ·rw[h]at s;simp[Value.ownBlock]at s
  ·rw[a]at s
   simp[Value.ownBlock]at s;subst s;exact⟨p,o,a,b,c,d⟩
 have ag:=JV l gL (u*6+4) o F (0,0) (.slice (some ⟨g,0,none⟩) (n.kids.length+1) C) D;rw[ag];have ad:∀f,f≠gL->(l.setRow gL (o.setIfInBounds (u*6+4) (.slice (some ⟨g,0,none⟩) (n.kids.length+1) C))).heap[f]?=l.heap[f]?:=fun f h=>Kg l gL f _ h
 have ac:∀{E:Va} {m:Nat} {M:rt},l.ownsRow B 3 1 E m M->(l.setRow gL (o.setIfInBounds (u*6+4) (.slice (some ⟨g,0,none⟩) (n.kids.length+1) C))).ownsRow B 3 1 E m M:=by
  intro E m M h;refine⟨h.1,?_⟩;rcases h.2 with T|⟨f,R,S,a,b,c,d⟩
  ·exact .inl T
  ·refine .inr ⟨f,R,S,a,b,(ad f ?_).trans c,d⟩
   intro e;subst e;rw[c]at D;injection D with D;injection D with _ e2 _;exact W e2.symm
 refine⟨kvs.set u (.slice (some ⟨g,0,none⟩) (n.kids.length+1) C),by simp[N],?_,?_,?_⟩
 ·rw[tu i kvs u k n _ N J,List.length_modify]
  refine⟨by rw[List.length_set,rowN_length i kvs N],.inr ⟨gL,p,_,hv,hB,J7 l gL _ _ _ _ D,al,ae,by simpa using an,?_⟩⟩;rw[KN,<-aj,M9]
 ·intro j m E G z
  by_cases A:j=u
  ·subst A
   rw[MY,J]at G;simp at G;subst G;rw[LN (by omega)]at z;injection z with z;subst z;simp only[JH,Mb,Kj,JW,Ko];exact ac af
  ·rw[MZ _ _ (Ne.symm A)]at G
   rw[Lx (Ne.symm A)]at z;have Z:=O j m E G z;refine ac ⟨Z.1,?_⟩;rcases Z.2 with T|⟨f,R,S,a,b,c,d⟩
   ·exact .inl T
   ·refine .inr ⟨f,R,S,a,b,(ab f (go.1 c).1 ?_).trans c,d⟩
    intro e;refine I j u E kv A z K (by rw[a];simp[Value.ownBlock]) ?_;rw[a,<-e];rfl
 ·intro j m a b H y r V
  have X:∀{q:Nat} {x:Va} {P:Nat},kvs[q]?=some x->x.ownBlock=some P->P<w.heap.size:=by
   intro q x P Y hx;have am:q<i.length:=by have:=(JG.1 Y).1;omega
   exact(cc (O q i[q] x (JF am) Y) hx).2.1
  by_cases A:j=u
  ·subst A
   rw[LN (by omega)]at y;rw[Lx H]at r;injection y with y;subst y;intro e;have Q:b.ownBlock=some g:=by rw[<-e];rfl
   rcases t with t|t
   ·exact I m j b kv (Ne.symm H) r K (by rw[Q];simp) (by rw[Q,t])
   ·have:=X r Q;omega
  ·rw[Lx (Ne.symm A)]at y
   by_cases U:m=u
   ·subst U
    rw[LN (by omega)]at r;injection r with r;subst r;intro e;have aa:a.ownBlock=some g:=by rw[e];rfl
    rcases t with t|t
    ·exact I j m a kv H y K V (by rw[aa,t])
    ·have:=X y aa;omega
   ·rw[Lx (Ne.symm U)]at r
    exact I j m a b H y r V
theorem md:∀(d:oa) (a:rt) (u:Nat) (c:Va),a.length=d.length->a[u]?=some c->(dl d a)[u*6+4]?=some c:=by
 intro d;induction d with
 | nil=>intro a u c h b;match a,h with|[],_=>simp at b
 | cons n d ih=>
   intro a u c h b;match a,h with
   | v::a,h=>
     match u with
     | 0=>simp at b;subst b;simp[dl,cz]
     | u+1=>
       have e:(u+1)*6+4=(cz n v).length+(u*6+4):=by simp[cz];omega
       rw[dl,e,J9 (Mu _ _),KZ];exact ih a u c (by simpa using h) (by simpa using b)
theorem pO{α:Type}(b:List α)(x:α)(u:Nat)(f:α->α)(h:u<b.length):(b++[x]).modify u f=b.modify u f++[x]:=by
 induction b generalizing u with
 | nil=>simp at h
 | cons a r ih=>
   match u with
   | 0=>simp
   | u+1=>simp only[JS,Mi];rw[ih u (by simpa using h)]
theorem yb{P:Program}{F:Array Oper}{o:Oper}{a:Act}{w:Wd}{K:Act->Wd->Prop}{Q:Exit->Act->Wd->Prop}{E:Prop}(J:o.guard=none)(s x:Operand)(t:TypeId)(L:o.op=.call {callee:=.builtin .append,args:= #[s,x],argTypes:= #[t,t]})
 (e:TypeId) (i:TypeInfo) (M:P.underlying t=some (.slice e)) (y:P.info? e=some i) (A:i.zero=some (.int .i64 0)) (G:i.size=1) (I:i.bytes=8)
 (B:Nat) (v:Va) (n:Nat) (xs:rt) (k:Nat) (l:Addr) (H:Nat) (q:a.eval s=v) (p:a.eval x=.slice (some l) 1 1) (N:n+1<=1000000000)
 (D:w.ownsRow B e 1 v n xs) (r:B<=w.heap.size) (z:w.heap.size=H) (C:∀j u,[iV k][j]?=some u->w.cell? (l.add j)=some u)
 (h:∀g f d,d.ownsRow B e 1 (.slice (some ⟨g,0,none⟩) (n+1) f) (n+1) (xs++[iV k])->w.grownBy d v.ownBlock->(v.ownBlock=some g\/g=H)->K (a.put o.dst (.slice (some ⟨g,0,none⟩) (n+1) f)) d):
 if Region.wanted o (yielded F a.tmps)=true then Oper.wp P o a w K Q else E:=
 Nb w J s x t L B e i (.int .i64 0) 1 8 M y A G I rfl (by decide) v n xs q D l 1 1 [iV k] p rfl C (by intro u m;simp at m;subst m;rfl) (by decide) (by unfold maxLen;omega) (by omega) r H z
  fun g f d a b c _=>h g f d a b c
def iz(ns:oa):Prop:=∀n∈ns,n.kids.length<=ns.length
theorem cr.shape{B:Nat}{j:TypeId}{v:Va}{d:oa}{w:Wd}(h:cr B j v d w):∃e f,v=.slice e d.length f:=by
 obtain⟨k,_,i,_⟩:=h;rcases i.2 with⟨a,b⟩|⟨g,c,l,a,_⟩
 ·exact⟨none,0,by rw[a,b]⟩
 ·exact⟨_,_,a⟩
section
variable {Z:Nat} {s:dv} {i:Nat} {V:oa} {Y W X:Nat} {w w':Wd}
theorem cn(h:ca Z w w')(a:Z<w.heap.size):Below Z w w':=
 ⟨h.os,h.tape,h.output,h.size,fun k b=>h.block k (by omega) (fun e=>by injection e with e;omega)⟩
end
theorem cG(d:Nat)(c:UInt8)(r:dj)(i:Nat):valL d (c::r) i=if c=34 then(match da (c::r)with| .error o=>.error (2,i+o)| .ok (t,n)=>.ok (.str t i,n))
 else if c=45\/d8 c=true then(match di (c::r)with| .error (e,o)=>.error (e,i+o)| .ok (n,k)=>.ok (.int n i,k))
 else if c=116\/c=102\/c=110 then df (c::r) i
 else if c=91\/c=123 then
  (match d with
    | 0=>.error (5,i)
    | d+1=>if c=91 then dM (valL d) (c::r) i else db (valL d) (c::r) i)
 else .error (2,i):=by cases d<;>rfl
theorem eK(d i:Nat):valL d [] i=.error (2,i):=by cases d<;>rfl
theorem Ae(t:dv):(⟨t.data.toList.toArray⟩:dv)=t:=by cases t;simp
section
variable (Z:Nat) (s:dv) (i:Nat) (V:oa) (up:Option Nat) (W:dj) (X Y:Nat) (w:Wd)
end
theorem tI{l:dj}{e o:Nat}(h:di l=.error (e,o)):0<e:=by
 have f:∀(m:Nat) (c b:Prop) [Decidable c] [Decidable b] (x:Int×Nat),(if c then Except.error (2,m)else if b then .error (3,0)else .ok x:Except (Nat×Nat) (Int×Nat))=.error (e,o)->0<e:=by
  intro m c b _ _ x a;split at a
  ·injection a with a;injection a with d g;omega
  ·split at a
   ·injection a with a;injection a with d g;omega
   ·cases a
 exact f _ _ _ _ h
section
variable (Z:Nat) (s:dv) (i:Nat) (V:oa) (up:Option Nat) (W:dj) (X Y:Nat) (w:Wd)
end
theorem wS(c:UInt8):jJ c=true↔97<=c.toNat/\c.toNat<=122:=by simp[jJ]
theorem EQ(s:dv)(p:Nat)(h:p<s.size)(a:jJ s[p]=true):nl (b9 s p)=nl (b9 s (p+1))+1:=by rw[cg s p h,nl,if_pos a]
theorem Ey(s:dv)(p:Nat)(h:p<s.size)(a:jJ s[p]=false):nl (b9 s p)=0:=by rw[cg s p h,nl,if_neg (by rw[a];simp)]
theorem Fs(s:dv)(p:Nat)(h:s.size<=p):nl (b9 s p)=0:=by rw[cU s p h];rfl
theorem ca.setNew{a b:Nat}{w w':Wd}{c:Array Value}{t:TypeId}{f:Nat×Nat}(h:ca a w w')(g:w'.heap[b]?=some (.cells c t f))(i:w.heap.size<=b)(k:Nat)(v:Va):ca a w (w'.setCell ⟨b,k,none⟩ v):=by
 rw[JV w' b k _ _ _ _ g];exact⟨h.os,h.tape,h.output,Ki h.size (by simp[World.setRow]),fun j d e=>(Kg w' b j _ (by omega)).trans (h.block j d e)⟩
theorem kZ{s:dv}{i p:Nat}(a:i+nl (b9 s i)=p):(s.extract i p).toList=(b9 s i).take (nl (b9 s i)):=by
 rw[Lc,dd,show p-i=nl (b9 s i)by omega];rfl
theorem pf{s:dv}{i p:Nat}(a:i<=p/\p<=s.size):(s.extract i p).toList.length=p-i:=by
 rw[Lc,dd];simp;omega
theorem qp{s:dv}{i p:Nat}(d:i+nl (b9 s i)=p)(c:i<=p/\p<=s.size)(h:(s.extract i p).toList=[116,114,117,101]):df (b9 s i) i=.ok (.truth true i,4)/\p-i=4:=by
 have a:=kZ d;have b:=pf c;rw[h]at a b;exact⟨by unfold df;rw[<-a];rfl,b.symm⟩
theorem qu{s:dv}{i p:Nat}(d:i+nl (b9 s i)=p)(c:i<=p/\p<=s.size)(h:(s.extract i p).toList=[102,97,108,115,101]):df (b9 s i) i=.ok (.truth false i,5)/\p-i=5:=by
 have a:=kZ d;have b:=pf c;rw[h]at a b;exact⟨by unfold df;rw[<-a];rfl,b.symm⟩
theorem qm{s:dv}{i p:Nat}(d:i+nl (b9 s i)=p)(c:i<=p/\p<=s.size)(h:(s.extract i p).toList=[110,117,108,108]):df (b9 s i) i=.ok (.null i,4)/\p-i=4:=by
 have a:=kZ d;have b:=pf c;rw[h]at a b;exact⟨by unfold df;rw[<-a];rfl,b.symm⟩
theorem ql{s:dv}{i p:Nat}(e:i+nl (b9 s i)=p)(f:i<=p/\p<=s.size)(a:(s.extract i p).toList≠[116,114,117,101])(c:(s.extract i p).toList≠[102,97,108,115,101])(b:(s.extract i p).toList≠[110,117,108,108]):df (b9 s i) i=.error (2,i):=by
 have d:=kZ e;rw[d]at a c b;unfold df;rw[if_neg a,if_neg c,if_neg b]
section
variable (Z:Nat) (s:dv) (i:Nat) (V:oa) (up:Option Nat) (W:dj) (X Y:Nat) (w:Wd)
end
section
variable (Z:Nat) (s:dv) (i:Nat) (V:oa) (up:Option Nat) (W:dj) (X Y:Nat) (w:Wd)
end
theorem jE{l t:dj}{n:Nat}(h:da l=.ok (t,n)):1<=n:=by
 unfold da at h;split at h
 ·split at h
  ·split at h
   ·injection h with h;injection h with a b;omega
   ·cases h
  ·cases h
 ·cases h
theorem oR{l:dj}{m:Int}{n:Nat}(h:di l=.ok (m,n)):1<=n:=by
 have f:∀(c k:Nat) (p:Prop) (b:Prop) [Decidable p] [Decidable b] (x:Int),(if k=0\/p then Except.error (2,c)else if b then .error (3,0)else .ok (x,c+k):Except (Nat×Nat) (Int×Nat))=.ok (m,n)->1<=n:=by
  intro c k p b _ _ x a;split at a
  ·cases a
  ·split at a
   ·cases a
   ·rename_i d _
    injection a with a;injection a with i g;have:k≠0:=fun e=>d (.inl e)
    omega
 exact f _ _ _ _ _ h
theorem pN{l:dj}{i n:Nat}{t:JT}(h:df l i=.ok (t,n)):t.size<=n:=by
 unfold df at h;dsimp only at h;split at h
 ·injection h with h;injection h with a b;subst a;subst b;simp[JT.size]
 ·split at h
  ·injection h with h;injection h with a b;subst a;subst b;simp[JT.size]
  ·split at h
   ·injection h with h;injection h with a b;subst a;subst b;simp[JT.size]
   ·cases h
theorem wY(v:dj->Nat->JR JT)(d:∀l i t n,v l i=.ok (t,n)->t.size<=n):∀(f:Nat) (l:dj) (i:Nat) (a:List JT) (k:Nat),dW v f l i=.ok (a,k)->cC a<=k:=by
 intro f;induction f with
 | zero=>intro l i a k h;simp[dW]at h
 | succ f ih=>
   intro l i a k h;rw[dW]at h;dsimp only at h;split at h
   ·cases h
   ·rename_i t n g
    have o:=d _ _ _ _ g;split at h
    ·split at h
     ·split at h
      ·cases h
      ·rename_i j m e
       have:=ih _ _ _ _ e;injection h with h;injection h with c b;subst c;subst b;simp only[cC];omega
     ·split at h
      ·injection h with h;injection h with c b;subst c;subst b
       simp only[cC];omega
      ·cases h
    ·cases h
theorem yy(v:dj->Nat->JR JT)(e:∀l i t n,v l i=.ok (t,n)->t.size<=n):∀(f:Nat) (a:List (dj)) (l:dj) (i:Nat) (d:List (dj×JT)) (k:Nat),dn v f a l i=.ok (d,k)->cp d<=k:=by
 intro f;induction f with
 | zero=>intro a l i q k h;simp[dn]at h
 | succ f ih=>
   intro a l i d k h;rw[dn]at h;dsimp only at h;split at h
   ·cases h
   ·split at h
    ·cases h
    ·split at h
     ·split at h
      ·split at h
       ·cases h
       ·rename_i t n g
        have p:=e _ _ _ _ g;split at h
        ·split at h
         ·split at h
          ·cases h
          ·rename_i m o j
           have:=ih _ _ _ _ _ j;injection h with h;injection h with c b;subst c;subst b;simp only[cp];omega
         ·split at h
          ·injection h with h;injection h with c b;subst c;subst b
           simp only[cp];omega
          ·cases h
        ·cases h
      ·cases h
     ·cases h
theorem jH:∀(d:Nat) (l:dj) (i:Nat) (t:JT) (n:Nat),valL d l i=.ok (t,n)->t.size<=n:=by
 intro d;induction d with
 | zero=>
   intro l i t n h;match l with
   | []=>rw[eK]at h;cases h
   | c::r=>
     rw[cG]at h;split at h
     ·split at h
      ·cases h
      ·rename_i e;have:=jE e;injection h with h;injection h with a b;subst a;subst b;simp[JT.size];omega
     ·split at h
      ·split at h
       ·cases h
       ·rename_i e;have:=oR e;injection h with h;injection h with a b;subst a;subst b;simp[JT.size];omega
      ·split at h
       ·exact pN h
       ·split at h
        ·cases h
        ·cases h
 | succ d ih=>
   intro l i t n h;match l with
   | []=>rw[eK]at h;cases h
   | c::r=>
     rw[cG]at h;split at h
     ·split at h
      ·cases h
      ·rename_i e;have:=jE e;injection h with h;injection h with a b;subst a;subst b;simp[JT.size];omega
     ·split at h
      ·split at h
       ·cases h
       ·rename_i e;have:=oR e;injection h with h;injection h with a b;subst a;subst b;simp[JT.size];omega
      ·split at h
       ·exact pN h
       ·split at h
        ·dsimp only at h
         split at h
         ·unfold dM at h
          dsimp only at h;split at h
          ·injection h with h;injection h with a b;subst a;subst b;simp[JT.size,cC]
          ·split at h
           ·cases h
           ·rename_i f;have:=wY _ ih _ _ _ _ _ f;injection h with h;injection h with a b;subst a;subst b;simp only[JT.size];omega
         ·unfold db at h
          dsimp only at h;split at h
          ·injection h with h;injection h with a b;subst a;subst b;simp[JT.size,cp]
          ·split at h
           ·cases h
           ·rename_i f;have:=yy _ ih _ _ _ _ _ _ f;injection h with h;injection h with a b;subst a;subst b;simp only[JT.size];omega
        ·cases h
theorem mG(b:List JT)(t:JT):cC (b++[t])=cC b+t.size:=by
 induction b with
 | nil=>simp[cC]
 | cons a r ih=>simp only[JS,cC,ih];omega
theorem qh(b:Nat)(c:List JT)(t:JT):d9 b (c++[t])=d9 b c++[b+cC c]:=by
 induction c generalizing b with
 | nil=>simp[d9,cC]
 | cons a r ih=>simp only[JS,d9,ih,cC,LF]
theorem sL(b:Nat)(c:List JT)(t:JT):fG b (c++[t])=fG b c++flat (b+cC c) [] t:=by
 induction c generalizing b with
 | nil=>simp[fG,cC]
 | cons a r ih=>simp only[JS,fG,ih,cC,J1,LF]
theorem eM(t:JT):1<=t.size:=by cases t<;>simp only[JT.size]<;>omega
theorem qd(b:Nat)(c:List JT):(d9 b c).length<=cC c:=by
 induction c generalizing b with
 | nil=>simp[d9,cC]
 | cons a r ih=>have:=ih (b+a.size);have:=eM a;simp only[d9,JM,cC];omega
theorem ln(b:Nat)(c:List (dj×JT)):(cq b c).length<=cp c:=by
 induction c generalizing b with
 | nil=>simp[cq,cp]
 | cons a r ih=>obtain⟨k,t⟩:=a;have:=ih (b+t.size);have:=eM t;simp only[cq,JM,cp];omega
mutual
theorem li(b:Nat)(key:dj)(t:JT):∀n∈flat b key t,n.kids.length<=t.size:=by
 cases t with
 | null i=>intro n hn;simp[flat]at hn;subst hn;simp
 | truth x i=>intro n hn;simp[flat]at hn;subst hn;simp
 | int m i=>intro n hn;simp[flat]at hn;subst hn;simp
 | str t i=>intro n hn;simp[flat]at hn;subst hn;simp
 | arr ts i=>
   intro n hn;rw[flat,Ke]at hn;rcases hn with rfl|hn
   ·have:=qd (b+1) ts;simp only[JT.size];omega
   ·have:=pP (b+1) ts n hn;simp only[JT.size];omega
 | obj ms i=>
   intro n hn;rw[flat,Ke]at hn;rcases hn with rfl|hn
   ·have:=ln (b+1) ms;simp only[JT.size];omega
   ·have:=pF (b+1) ms n hn;simp only[JT.size];omega
theorem pP(b:Nat)(ts:List JT):∀n∈fG b ts,n.kids.length<=cC ts:=by
 cases ts with
 | nil=>intro n hn;simp[fG]at hn
 | cons t r=>
   intro n hn;rw[fG,KX]at hn;rcases hn with hn|hn
   ·have:=li b [] t n hn;simp only[cC];omega
   ·have:=pP (b+t.size) r n hn;simp only[cC];omega
theorem pF(b:Nat)(ms:List (dj×JT)):∀n∈dF b ms,n.kids.length<=cp ms:=by
 cases ms with
 | nil=>intro n hn;simp[dF]at hn
 | cons m r=>
   obtain⟨k,t⟩:=m;intro n hn;rw[dF,KX]at hn;rcases hn with hn|hn
   ·have:=li b k t n hn;simp only[cp];omega
   ·have:=pF (b+t.size) r n hn;simp only[cp];omega
end
theorem uT{a:oa}(h:iz a)(up:Option Nat)(k:Nat):∀n∈cR a up k,n.kids.length<=a.length+1:=by
 intro n b;cases up with
 | none=>have:=h n b;omega
 | some u=>
   unfold cR at b;obtain⟨j,d,rfl⟩:=MR b;rw[List.getElem_modify];have c:j<a.length:=by simpa using d
   have:=h a[j] (List.getElem_mem c);split
   ·simp;omega
   ·omega
theorem jK{b:oa}(h:iz b)(up:Option Nat)(c:dj)(t:JT):iz (cR b up b.length++flat b.length c t):=by
 intro n a;rw[JH,dL,cJ];rw[KX]at a;have d:=eM t;rcases a with a|a
 ·have:=uT h up b.length n a;omega
 ·have:=li b.length c t n a;omega
def ei(ns:oa)(up:Option Nat)(key:dj)(i:Nat)(ts:List JT):oa:=
 cR ns up ns.length++flat ns.length key (.arr ts i)
theorem fR(b:oa)(up:Option Nat)(c:dj)(i:Nat)(a:List JT):(ei b up c i a).length=b.length+1+cC a:=by
 rw[ei,JH,dL,cJ,JT.size];omega
theorem lO{α:Type}(A:List α)(x:α)(F:List α)(f:α->α)(k:Nat)(h:A.length=k):(A++x::F).modify k f=A++f x::F:=by
 subst h;induction A with
 | nil=>rfl
 | cons a A ih=>simp only[JS,JM,Mi,ih]
theorem pc(a:oa)(up:Option Nat)(b:dj)(i:Nat)(c:List JT)(t:JT):cR (ei a up b i c) (some a.length) (ei a up b i c).length++flat (ei a up b i c).length [] t=ei a up b i (c++[t]):=by
 rw[fR];unfold ei;rw[flat,flat];show(List.modify _ _ _)++_=_
 rw[lO _ _ _ _ _ (dL a up a.length),qh,sL];simp[Nat.add_assoc]
def lr(ts:List JT)(i p:Nat):JR (List JT)->JR JT
 | .error e=>.error e
 | .ok (ts',k)=>.ok (.arr (ts++ts') i,p-i+k)
theorem lB(l:dj):nb l<=l.length:=by
 induction l with
 | nil=>simp[nb]
 | cons c r ih=>rw[nb];split<;>simp<;>omega
theorem ow(v:dj->Nat->JR JT)(s:dv)(i p:Nat)(a:i+1+nb (b9 s (i+1))=p):dM v (b9 s i) i=if(b9 s p).head?=some 93 then .ok (.arr [] i,p-i+1)else lr [] i p (dW v ((b9 s i).length+1) (b9 s p) p):=by
 unfold dM;dsimp only;rw[cw,cw,show i+(1+nb (b9 s (i+1)))=p by omega,show 1+nb (b9 s (i+1))=p-i by omega];split
 ·rfl
 ·unfold lr;split<;>simp_all
theorem vY(v:dj->Nat->JR JT)(s:dv)(p f:Nat)(e:Nat×Nat)(h:v (b9 s (p+nb (b9 s p))) (p+nb (b9 s p))=.error e):dW v (f+1) (b9 s p) p=.error e:=by
 rw[dW];dsimp only;rw[cw,h]
theorem rI(v:dj->Nat->JR JT)(s:dv)(p f a b n:Nat)(t:JT)(i:p+nb (b9 s p)=a)(h:v (b9 s a) a=.ok (t,n))(j:a+n+nb (b9 s (a+n))=b)(d:(b9 s b).head?=some 44):dW v (f+1) (b9 s p) p=match dW v f (b9 s (b+1)) (b+1)with| .error e=>.error e| .ok (ts,k)=>.ok (t::ts,b+1-p+k):=by
 rw[dW];dsimp only;rw[cw,i,h];dsimp only;rw[cw,cw,cw,show p+(nb (b9 s p)+n)=a+n by omega,show p+(nb (b9 s p)+n+nb (b9 s (a+n)))=b by omega,show p+(nb (b9 s p)+n+nb (b9 s (a+n))+1)=b+1 by omega,show nb (b9 s p)+n+nb (b9 s (a+n))+1=b+1-p by omega];match g:b9 s b with
 | []=>rw[g]at d;simp at d
 | c::r=>
   rw[g]at d;have d:c=44:=by simpa using d
   simp only[d,if_true];all_goals rfl
theorem mV(v:dj->Nat->JR JT)(s:dv)(p f a b n:Nat)(t:JT)(g:p+nb (b9 s p)=a)(h:v (b9 s a) a=.ok (t,n))(i:a+n+nb (b9 s (a+n))=b)(d:(b9 s b).head?≠some 44):dW v (f+1) (b9 s p) p=if(b9 s b).head?=some 93 then .ok ([t],b+1-p)else .error (2,b):=by
 rw[dW];dsimp only;rw[cw,g,h];dsimp only;rw[cw,cw,cw,show p+(nb (b9 s p)+n)=a+n by omega,show p+(nb (b9 s p)+n+nb (b9 s (a+n)))=b by omega,show p+(nb (b9 s p)+n+nb (b9 s (a+n))+1)=b+1 by omega,show nb (b9 s p)+n+nb (b9 s (a+n))+1=b+1-p by omega];match e:b9 s b with
 | []=>simp
 | c::r=>
   rw[e]at d;have d:c≠44:=by simpa using d
   simp[d]
theorem qI(c:List JT)(t:JT)(i p q:Nat)(h:i<=p)(d:p<=q)(X:JR (List JT)):lr c i p (match X with| .error e=>.error e| .ok (ts',k)=>.ok (t::ts',q-p+k))=lr (c++[t]) i q X:=by
 cases X with
 | error e=>rfl
 | ok x=>obtain⟨a,b⟩:=x;simp[lr];omega
theorem nB(b:List JT)(t:JT)(i p a:Nat)(h:i<=p)(d:p<=a)(c:Prop) [Decidable c]:lr b i p (if c then .ok ([t],a+1-p)else .error (2,a))=if c then .ok (.arr (b++[t]) i,a-i+1)else .error (2,a):=by
 split
 ·simp[lr];omega
 ·rfl
section
variable (Z:Nat) (s:dv) (i:Nat) (V:oa) (up:Option Nat) (W:dj) (X Y:Nat) (w:Wd)
def uM:Va->Bool| .bool b=>b|_=>false
def AM(v:Va)(wr:Wd):Nat:=if uM v=true/\dU (wr.cell? ⟨Z,3,none⟩)=0 then s.size+2-dU (wr.cell? ⟨Z,1,none⟩)+1 else 0
theorem nj{w':Wd}:AM Z s (.bool false) w'=0:=by unfold AM;rw[if_neg (by simp[uM])]
theorem ya(v:dj->Nat->JR JT)(s:dv)(i p:Nat)(b:i+1+nb (b9 s (i+1))=p)(a:(b9 s p).head?=some 93):dM v (b9 s i) i=if(b9 s p).head?=some 93 then .ok (.arr [] i,p-i+1)else .error (2,p):=by
 rw[ow v s i p b,if_pos a,if_pos a]
end
theorem Bm:∀(b:oa) (a:rt) (u:Nat) (n:Nd),a.length=b.length->b[u]?=some n->(dl b a)[u*6+1]?=some (.string ⟨n.key.toArray⟩):=by
 intro b;induction b with
 | nil=>intro a u n h c;simp at c
 | cons m b ih=>
   intro a u n h c;match a,h with
   | v::a,h=>
     match u with
     | 0=>simp at c;subst c;simp[dl,cz]
     | u+1=>
       have e:(u+1)*6+1=(cz m v).length+(u*6+1):=by simp[cz];omega
       rw[dl,e,J9 (Mu _ _),KZ];exact ih a u n (by simpa using h) (by simpa using c)
theorem cr.cells{B g:Nat}{y:TypeId}{cap:Nat}{L:oa}{w:Wd}(h:cr B y (.slice (some ⟨g,0,none⟩) L.length cap) L w):(∀u n,L[u]?=some n->w.cell? ⟨g,u*6+1,none⟩=some (.string ⟨n.key.toArray⟩))/\(∀u n,L[u]?=some n->∃t v,w.cell? ⟨g,u*6+4,none⟩=some (.slice t n.kids.length v)/\(∀j k,n.kids[j]?=some k->∃d,t=some ⟨d,0,none⟩/\w.cell? ⟨d,j,none⟩=some (iV k))):=by
 obtain⟨i,r,p,x,z⟩:=h;have o:∀(g j:Nat),(⟨g,0,none⟩:Addr).add j=⟨g,j,none⟩:=fun g j=>by unfold Addr.add;split<;>simp_all
 refine⟨fun u n e=>?_,fun u n e=>?_⟩
 ·have:=p.cells (g:=g) rfl (u*6+1) _ (Bm L i u n r e)
  rwa [o]at this
 ·have A:u<L.length:=(JG.1 e).1
  obtain⟨f,s⟩:∃f,i[u]?=some f:=⟨_,JF (by omega)⟩;have q:=x u n f e s;have l:=p.cells (g:=g) rfl (u*6+4) _ (md L i u f r s);rw[o]at l;rcases q.2 with⟨a,b⟩|⟨d,c,C,a,_⟩
  ·refine⟨none,0,by rw[l,a,b],fun j k m=>?_⟩
   have:=(JG.1 m).1;omega
  ·refine⟨some ⟨d,0,none⟩,c,by rw[l,a],fun j k m=>⟨d,rfl,?_⟩⟩
   have:=q.cells (g:=d) (by rw[a];rfl) j (iV k) (by rw[KM,m];rfl);rwa [o]at this
theorem mH(b:List (dj×JT))(k:dj)(t:JT):cp (b++[(k,t)])=cp b+t.size:=by
 induction b with
 | nil=>simp[cp]
 | cons a r ih=>obtain⟨x,y⟩:=a;simp only[JS,cp,ih];omega
theorem qb(b:Nat)(c:List (dj×JT))(k:dj)(t:JT):cq b (c++[(k,t)])=cq b c++[b+cp c]:=by
 induction c generalizing b with
 | nil=>simp[cq,cp]
 | cons a r ih=>obtain⟨x,y⟩:=a;simp only[JS,cq,ih,cp,LF]
theorem sK(b:Nat)(c:List (dj×JT))(k:dj)(t:JT):dF b (c++[(k,t)])=dF b c++flat (b+cp c) k t:=by
 induction c generalizing b with
 | nil=>simp[dF,cp]
 | cons a r ih=>obtain⟨x,y⟩:=a;simp only[JS,dF,ih,cp,J1,LF]
theorem mU(b:Nat)(a:dj)(t:JT):∃n r,flat b a t=n::r/\n.key=a:=by
 cases t with
 | null i=>exact⟨_,_,by rw[flat],rfl⟩
 | truth x i=>exact⟨_,_,by rw[flat],rfl⟩
 | int m i=>exact⟨_,_,by rw[flat],rfl⟩
 | str t i=>exact⟨_,_,by rw[flat],rfl⟩
 | arr c i=>exact⟨_,_,by rw[flat],rfl⟩
 | obj d i=>exact⟨_,_,by rw[flat],rfl⟩
theorem wt(b:Nat)(d:List (dj×JT)):∀k∈cq b d,k<b+cp d:=by
 induction d generalizing b with
 | nil=>intro k c;simp[cq]at c
 | cons a r ih=>
   obtain⟨x,t⟩:=a;intro k c;have e:=eM t;rw[cq,Ke]at c;simp only[cp];rcases c with rfl|c
   ·omega
   ·have:=ih _ k c;omega
theorem uu(g:List (dj×JT))(name:dj):∀(b:Nat) (pre:oa),pre.length=b->((∃(k:Nat) (e:Nd),k∈cq b g/\(pre++dF b g)[k]?=some e/\e.key=name)↔name∈g.map (·.1)):=by
 induction g with
 | nil=>intro b pre i;simp[cq]
 | cons a r ih=>
   obtain⟨x,t⟩:=a;intro b pre i;have o:=ih (b+t.size) (pre++flat b x t) (by rw[JH,cJ,i]);obtain⟨n,q,p,m⟩:=mU b x t;have j:(pre++dF b ((x,t)::r))[b]?=some n:=by
    rw[dF,p,J9 (by omega),i,L9];rfl
   have l:pre++dF b ((x,t)::r)=pre++flat b x t++dF (b+t.size) r:=by rw[dF,J1]
   rw[cq];constructor
   ·rintro⟨k,e,d,c,f⟩
    rw[Ke]at d;rcases d with rfl|d
    ·rw[j]at c
     injection c with c;subst c;rw[JW,Ke];left;rw[<-f,m]
    ·rw[JW,Ke];right
     rw[l]at c;exact o.1 ⟨k,e,d,c,f⟩
   ·intro h
    rw[JW,Ke]at h;rcases h with h|h
    ·exact⟨b,n,by simp,j,by rw[m,h]⟩
    ·obtain⟨k,e,d,c,f⟩:=o.2 h
     exact⟨k,e,by simp[d],by rw[l];exact c,f⟩
def dI(ns:oa)(up:Option Nat)(key:dj)(i:Nat)(ms:List (dj×JT)):oa:=
 cR ns up ns.length++flat ns.length key (.obj ms i)
theorem eA(b:oa)(up:Option Nat)(c:dj)(i:Nat)(a:List (dj×JT)):(dI b up c i a).length=b.length+1+cp a:=by
 rw[dI,JH,dL,cJ,JT.size];omega
theorem pr(a:oa)(up:Option Nat)(b:dj)(i:Nat)(c:List (dj×JT))(k:dj)(t:JT):cR (dI a up b i c) (some a.length) (dI a up b i c).length++flat (dI a up b i c).length k t=dI a up b i (c++[(k,t)]):=by
 rw[eA];unfold dI;rw[flat,flat];show(List.modify _ _ _)++_=_
 rw[lO _ _ _ _ _ (dL a up a.length),qb,sK];simp[Nat.add_assoc]
theorem xc(a:oa)(up:Option Nat)(b:dj)(i:Nat)(c:List (dj×JT)):(dI a up b i c)[a.length]?=some ⟨5,b,[],0,cq (a.length+1) c,i⟩:=by
 rw[dI,flat,J9 (by rw[dL];omega),dL,L9];rfl
theorem xg(d:oa)(up:Option Nat)(j:dj)(i:Nat)(f:List (dj×JT))(name:dj):(∃(k:Nat) (g:Nd),k∈cq (d.length+1) f/\(dI d up j i f)[k]?=some g/\(⟨g.key.toArray⟩:dv)=⟨name.toArray⟩)↔name∈f.map (·.1):=by
 have h:=uu f name (d.length+1) (cR d up d.length++[⟨5,j,[],0,cq (d.length+1) f,i⟩]) (by rw[JH,dL];rfl);rw[<-h];have e:dI d up j i f=cR d up d.length++[⟨5,j,[],0,cq (d.length+1) f,i⟩]++dF (d.length+1) f:=by rw[dI,flat];simp
 rw[e];constructor
 ·rintro⟨k,g,a,b,c⟩
  refine⟨k,g,a,b,?_⟩;injection c with c;have:=KV Array.toList c;simpa using this
 ·rintro⟨k,g,a,b,c⟩
  exact⟨k,g,a,b,by rw[c]⟩
def jI(ms:List (dj×JT))(i p:Nat):JR (List (dj×JT))->JR JT
 | .error e=>.error e
 | .ok (ms',k)=>.ok (.obj (ms++ms') i,p-i+k)
theorem n9(v:dj->Nat->JR JT)(s:dv)(i p:Nat)(a:i+1+nb (b9 s (i+1))=p):db v (b9 s i) i=if(b9 s p).head?=some 125 then .ok (.obj [] i,p-i+1)else jI [] i p (dn v ((b9 s i).length+1) [] (b9 s p) p):=by
 unfold db;dsimp only;rw[cw,cw,show i+(1+nb (b9 s (i+1)))=p by omega,show 1+nb (b9 s (i+1))=p-i by omega];split
 ·rfl
 ·unfold jI;split<;>simp_all
theorem rh(v:dj->Nat->JR JT)(s:dv)(p f a o:Nat)(b:List (dj))(c:p+nb (b9 s p)=a)(h:da (b9 s a)=.error o):dn v (f+1) b (b9 s p) p=.error (2,a+o):=by
 rw[dn];dsimp only;rw[cw,c,h]
theorem pT(v:dj->Nat->JR JT)(s:dv)(p f a m:Nat)(b:List (dj))(name:dj)(c:p+nb (b9 s p)=a)(h:da (b9 s a)=.ok (name,m))(d:name∈b):dn v (f+1) b (b9 s p) p=.error (4,a):=by
 rw[dn];dsimp only;rw[cw,c,h];simp[d]
theorem pY(v:dj->Nat->JR JT)(s:dv)(p f a b m:Nat)(e:List (dj))(name:dj)(j:p+nb (b9 s p)=a)(h:da (b9 s a)=.ok (name,m))(g:name∉e)(k:a+m+nb (b9 s (a+m))=b)(d:(b9 s b).head?≠some 58):dn v (f+1) e (b9 s p) p=.error (2,b):=by
 rw[dn];dsimp only;rw[cw,j,h];dsimp only;rw[if_neg g,cw,cw,show p+(nb (b9 s p)+m)=a+m by omega,show p+(nb (b9 s p)+m+nb (b9 s (a+m)))=b by omega];match i:b9 s b with
 | []=>rfl
 | c::r=>
   rw[i]at d;have d:c≠58:=by simpa using d
   simp[d]
theorem oV(v:dj->Nat->JR JT)(s:dv)(p f d b a m:Nat)(i:List (dj))(name:dj)(o:p+nb (b9 s p)=d)(h:da (b9 s d)=.ok (name,m))(l:name∉i)(u:d+m+nb (b9 s (d+m))=b)(g:(b9 s b).head?=some 58)(w:b+1+nb (b9 s (b+1))=a):dn v (f+1) i (b9 s p) p=match v (b9 s a) a with
 | .error e=>.error e
 | .ok (t,n)=>
   match b9 s (a+n+nb (b9 s (a+n)))with
   | c::_=>
     if c=44 then(match dn v f (i++[name]) (b9 s (a+n+nb (b9 s (a+n))+1)) (a+n+nb (b9 s (a+n))+1)with| .error e=>.error e| .ok (ms,k)=>.ok ((name,t)::ms,a+n+nb (b9 s (a+n))+1-p+k))
     else if c=125 then .ok ([(name,t)],a+n+nb (b9 s (a+n))+1-p)else .error (2,a+n+nb (b9 s (a+n)))
   | []=>.error (2,a+n+nb (b9 s (a+n))):=by
 rw[dn];dsimp only;rw[cw,o,h];dsimp only;rw[if_neg l,cw,cw,show p+(nb (b9 s p)+m)=d+m by omega,show p+(nb (b9 s p)+m+nb (b9 s (d+m)))=b by omega];match j:b9 s b with
 | []=>rw[j]at g;simp at g
 | c::r=>
   rw[j]at g;have g:c=58:=by simpa using g
   simp only[g,if_true];simp only[cw];rw[show p+(nb (b9 s p)+m+nb (b9 s (d+m))+1)=b+1 by omega,show p+(nb (b9 s p)+m+nb (b9 s (d+m))+1+nb (b9 s (b+1)))=a by omega];cases v (b9 s a) a with
   | error e=>rfl
   | ok q=>
     obtain⟨t,n⟩:=q;dsimp only
     rw[show p+(nb (b9 s p)+m+nb (b9 s (d+m))+1+nb (b9 s (b+1))+n)=a+n by omega,
      show p+(nb (b9 s p)+m+nb (b9 s (d+m))+1+nb (b9 s (b+1))+n+nb (b9 s (a+n)))=a+n+nb (b9 s (a+n))by omega,
      show p+(nb (b9 s p)+m+nb (b9 s (d+m))+1+nb (b9 s (b+1))+n+nb (b9 s (a+n))+1)=a+n+nb (b9 s (a+n))+1 by omega,
      show nb (b9 s p)+m+nb (b9 s (d+m))+1+nb (b9 s (b+1))+n+nb (b9 s (a+n))+1=a+n+nb (b9 s (a+n))+1-p by omega]
     all_goals rfl
theorem qO(c:List (dj×JT))(x:dj×JT)(i p q:Nat)(h:i<=p)(d:p<=q)(X:JR (List (dj×JT))):jI c i p (match X with| .error e=>.error e| .ok (ms',k)=>.ok (x::ms',q-p+k))=jI (c++[x]) i q X:=by
 cases X with
 | error e=>rfl
 | ok y=>obtain⟨a,b⟩:=y;simp[jI];omega
section
variable (Z:Nat) (s:dv) (i:Nat) (V:oa) (up:Option Nat) (W:dj) (X Y:Nat) (w:Wd)
theorem xY(v:dj->Nat->JR JT)(s:dv)(i p:Nat)(b:i+1+nb (b9 s (i+1))=p)(a:(b9 s p).head?=some 125):db v (b9 s i) i=if(b9 s p).head?=some 125 then .ok (.obj [] i,p-i+1)else .error (2,p):=by
 rw[n9 v s i p b,if_pos a,if_pos a]
end
section
variable (Z:Nat) (s:dv) (i:Nat) (V:oa) (up:Option Nat) (W:dj) (X Y:Nat) (w:Wd)
end
theorem tJ(s:dv)(c:s.size<=65536)(p:Nat)(b:nb (b9 s 0)=p):cB s.data.toList=(match valL 32 (b9 s p) p with
 | .error e=>.error e
 | .ok (t,n)=>if p+n+nb (b9 s (p+n))<s.size then .error (2,p+n+nb (b9 s (p+n)))else .ok t):=by
 have a:s.data.toList=b9 s 0:=rfl;unfold cB;rw[if_neg (by simp;omega),a,b];dsimp only;rw[cw,J3];cases valL 32 (b9 s p) p with
 | error e=>rfl
 | ok q=>
   obtain⟨t,n⟩:=q;dsimp only;rw[cw,J3,cx,Nat.sub_zero]
def ij(n:Nat):UInt8:=if n<10 then UInt8.ofNat (48+n)else UInt8.ofNat (87+n)
def eC(c:UInt8):dj:=
 if c=34\/c=92 then [92,c]else if c=8 then [92,98]else if c=9 then [92,116]else if c=10 then [92,110]else if c=12 then [92,102]else if c=13 then [92,114]
 else if c.toNat<32 then [92,117,48,48,ij (c.toNat/16),ij (c.toNat%16)]else [c]
def cS:dj->List UInt8|[]=>[]|c::r=>eC c++cS r
def dk(t:dj):dj:=34::cS t++[34]
theorem t7(c:UInt8):(eC c).length<=6:=by
 unfold eC;repeat' split
 all_goals simp
theorem fW(a b:dj):cS (a++b)=cS a++cS b:=by
 induction a with
 | nil=>rfl
 | cons c r ih=>simp only[JS,cS,ih,J1]
theorem ll(l:dj):(cS l).length<=6*l.length:=by
 induction l with
 | nil=>simp[cS]
 | cons c r ih=>have:=t7 c;simp only[cS,JH,JM];omega
section
attribute [local go_sem] jG pj
end
def dR(n:Nat):dj:=if h:n<10 then [UInt8.ofNat (48+n)]else dR (n/10)++[UInt8.ofNat (48+n%10)]
termination_by n
decreasing_by omega
theorem io(n:Nat)(h:n<10):dR n=[UInt8.ofNat (48+n)]:=by rw[dR,dif_pos h]
theorem kD(n:Nat)(h:10<=n):dR n=dR (n/10)++[UInt8.ofNat (48+n%10)]:=by rw[dR,dif_neg (by omega)]
def ew(n:Int):dj:=if n<0 then 45::dR (-n).toNat else dR n.toNat
theorem A4:∀(n k:Nat),n<10^k->(dR n).length<=k+1:=by
 intro n k;induction k generalizing n with
 | zero=>intro h;rw[io n (by simp at h;omega)];simp
 | succ k ih=>
   intro h;by_cases a:n<10
   ·rw[io n a];simp
   ·rw[kD n (by omega),JH]
    have:=ih (n/10) (by rw[LU]at h;omega);simp;omega
section
attribute [local go_sem] jG
end
theorem tq(l:dj)(c:UInt8):(⟨l.toArray⟩:dv)++⟨#[c]⟩=⟨(l++[c]).toArray⟩:=by
 apply ByteArray.ext;rw[Ld];simp
theorem oh{n:Nat}(h:n<=9223372036854775808):(dR n).length<=20:=A4 n 19 (by omega)
def fb(l:dj):Nat:=if seqLen l=0 then 1 else seqLen l
theorem mW(l:dj):1<=fb l:=by unfold fb;split<;>omega
def runeTo(l:dj)(n:Nat):Nat->Nat
 | 0=>if n<=1 then(l.getD 0 0).toNat else(l.getD 0 0).toNat%2^(7-n)
 | k+1=>64*runeTo l n k+(l.getD (k+1) 0).toNat%64
def cN(l:dj):Nat:=runeTo l (fb l) (fb l-1)
def dx(r:Nat):hH:=if r<65536 then [r]else [55296+(r-65536)/1024,56320+(r-65536)%1024]
def unitsL(l:dj):hH:=if h:l=[]then []else dx (cN l)++unitsL (l.drop (fb l))
termination_by l.length
decreasing_by
 have:=mW l;have:=LL.2 h;rw[Kk];omega
theorem jc:unitsL []=[]:=by rw[unitsL,dif_pos rfl]
theorem lm(l:dj)(h:l≠[]):unitsL l=dx (cN l)++unitsL (l.drop (fb l)):=by rw[unitsL,dif_neg h]
theorem gp(l:dj)(n:Nat):∀k,runeTo l n k<256*64^k:=by
 intro k;induction k with
 | zero=>
   have h:=(l.getD 0 0).toNat_lt;simp only[runeTo];split
   ·omega
   ·have:=Nat.mod_le (l.getD 0 0).toNat (2^(7-n));omega
 | succ k ih=>simp only[runeTo];rw[LU];have:=LB (l.getD (k+1) 0).toNat (y:=64) (by omega);omega
theorem ng(r:Nat):(dx r).length<=2:=by unfold dx;split<;>simp
theorem rV(r:Nat):1<=(dx r).length:=by unfold dx;split<;>simp
theorem jW(l:dj):(unitsL l).length<=2*l.length:=by
 match a:l.length with
 | 0=>obtain rfl:=Kt.1 a;simp[jc]
 | m+1=>
   have b:l≠[]:=by intro h;rw[h]at a;simp at a
   have c:=mW l;rw[lm l b,JH];have:=jW (l.drop (fb l));have:=ng (cN l);rw[Kk]at *;omega
termination_by l.length
decreasing_by rw[Kk];omega
theorem eZ(s:dv)(i k:Nat)(h:i+k<s.size):(b9 s i).getD k 0=s[i+k]:=by
 rw[KJ,nU s i k h];rfl
theorem yZ(w:Wd)(y:Va)(e:TypeId):∀(j:Nat) (u:Va),[y][j]?=some u->(w.alloc (.cells #[y] e)).cell? ((⟨w.heap.size,0,none⟩:Addr).add j)=some u:=by
 intro j u h;match j with
 | 0=>simp at h;subst h;simp[Addr.add]
 | j+1=>simp at h
theorem ir{P:Program}{j:Array Oper}{l:List Oper}{o:Oper}{a:Act}{Q:Exit->Act->Wd->Prop}(C:o.guard=none)(s x:Operand)(t:TypeId)(F:o.op=.call {callee:=.builtin .append,args:= #[s,x],argTypes:= #[t,t]})
 (e:TypeId) (i:TypeInfo) (H:P.underlying t=some (.slice e)) (r:P.info? e=some i) (I:i.zero=some (.int .i64 0)) (z:i.size=1) (A:i.bytes=8)
 (B:Nat) (v:Va) (n:Nat) (xs:rt) (y:Va) (G:y.oneCell'=true) (b:Wd) (p:a.eval s=v) (f:b.ownsRow B e 1 v n xs) (q:B<=b.heap.size) (J:n<=10000000000000)
 (m:a.eval x=.slice (some ⟨b.heap.size,0,none⟩) 1 1)
 (h:∀d c,c.ownsRow B e 1 d (n+1) (xs++[y])->Below B b c->wpList P j Q l (a.put o.dst d) c):wpList P j Q (o::l) a (b.alloc (.cells #[y] e)):=by
 refine M2 _ C s x t F B e i (.int .i64 0) 1 8 H r I z A rfl (by decide) v n xs p (f.alloc _) ⟨b.heap.size,0,none⟩ 1 1 [y] m rfl (yZ b y e) (by intro u g;simp at g;subst g;exact G) (by unfold maxLen;omega) (by omega) (by simp;omega) ?_;intro d c w E _;refine h d c w (((JI B b).alloc q _).grown E (by simp;omega) ?_);intro k D;exact(f.lt k D).1
theorem rY(X c:Nat)(d:X<67108864)(e:c<256):wrap64 (64*(X:Int)+(wrap64 (c:Int)).tmod 64)=((64*X+c%64:Nat):Int):=by
 have a:wrap64 (c:Int)=(c:Int):=by unfold wrap64;omega
 have b:(c:Int).tmod 64=((c%64:Nat):Int):=rfl;rw[a,b];have:=LB c (y:=64) (by omega);unfold wrap64;omega
theorem seq5(l:dj):seqLen l=0\/seqLen l=1\/seqLen l=2\/seqLen l=3\/seqLen l=4:=by
 have:=lK l;omega
def mR(s:dv)(w:Wd)(v i:Va)(wr:Wd):Prop:=
 ∃(j:Nat) (us:hH),j<=s.size/\i=.int .i64 (j:Int)/\us.length<=2*j/\unitsL s.data.toList=us++unitsL (b9 s j)/\wr.ownsRow w.heap.size 3 1 v us.length (us.map iV)/\Below w.heap.size w wr
theorem mR.next{s:dv}{w wr:Wd}{v:Va}{j:Nat}{us a:hH}{i:Int}(h:j<s.size)(m:us.length<=2*j)(g:unitsL s.data.toList=us++unitsL (b9 s j))(d:i=((j+fb (b9 s j):Nat):Int))(c:j+fb (b9 s j)<=s.size)(b:a=dx (cN (b9 s j)))(e:wr.ownsRow w.heap.size 3 1 v (us.length+a.length) (us.map iV++a.map iV))(f:Below w.heap.size w wr):mR s w v (.int .i64 i) wr:=by
 subst d;refine⟨j+fb (b9 s j),us++a,c,rfl,?_,?_,?_,f⟩
 ·have l:=mW (b9 s j)
  have k:=ng (cN (b9 s j));rw[JH,b];omega
 ·rw[g,lm (b9 s j) (by rw[cg s j h];simp),cw,b,J1]
 ·rw[JH,Kj];exact e
def c7:hH->hH->Bool
 | x::xs,y::ys=>if x=y then c7 xs ys else decide (x<y)
 | [],_::_=>true
 | _,[]=>false
def ef(a b:dj):Bool:=c7 (unitsL a) (unitsL b)
theorem ul(a b:hH)(j x:Nat)(h:a[j]?=some x)(d:b[j]?=some x):c7 (a.drop j) (b.drop j)=c7 (a.drop (j+1)) (b.drop (j+1)):=by
 obtain⟨c,f⟩:=JG.1 h;obtain⟨g,e⟩:=JG.1 d;rw[Kc c,Kc g,c7,f,e,if_pos rfl]
theorem x6(a b:hH)(j x y:Nat)(i:a[j]?=some x)(d:b[j]?=some y)(h:x≠y):c7 (a.drop j) (b.drop j)=decide (x<y):=by
 obtain⟨c,f⟩:=JG.1 i;obtain⟨g,e⟩:=JG.1 d;rw[Kc c,Kc g,c7,f,e,if_neg h]
theorem pC(a b:hH)(j:Nat)(f:j<=a.length)(e:j<=b.length)(h:a.length<=j\/b.length<=j):c7 (a.drop j) (b.drop j)=decide (a.length<b.length):=by
 by_cases d:a.length<=j
 ·rw[J8 d]
  by_cases c:b.length<=j
  ·rw[J8 c,c7];simp;omega
  ·rw[Kc (by omega),c7];simp;omega
 ·have c:b.length<=j:=by omega
  rw[J8 c,Kc (by omega),c7];simp;omega
def fM(w:Wd)(v:Va)(us:hH):Prop:=
 ∃ad cap,v=.slice ad us.length cap/\∀j k:Nat,us[j]?=some k->∃g,ad=some ⟨g,0,none⟩/\w.cell? ⟨g,j,none⟩=some (.int .i64 (k:Int))
theorem fM.of{B:Nat}{e:TypeId}{w:Wd}{v:Va}{us:hH}(h:w.ownsRow B e 1 v us.length (us.map iV)):fM w v us:=by
 have f:∀(g j:Nat),(⟨g,0,none⟩:Addr).add j=⟨g,j,none⟩:=fun g j=>by unfold Addr.add;split<;>simp_all
 rcases h.2 with⟨a,b⟩|⟨g,c,i,a,_⟩
 ·refine⟨none,0,by rw[a,b],fun j k d=>?_⟩
  obtain rfl:=Kt.1 b;simp at d
 ·refine⟨some ⟨g,0,none⟩,c,a,fun j k d=>⟨g,rfl,?_⟩⟩
  have:=h.cells (g:=g) (by rw[a];rfl) j (iV k) (by simp[d]);rwa [f]at this
theorem fM.keep{w w':Wd}{v:Va}{us:hH}(h:fM w v us)(l:∀g j u,w.cell? ⟨g,j,none⟩=some u->w'.cell? ⟨g,j,none⟩=some u):fM w' v us:=by
 obtain⟨i,e,c,d⟩:=h;refine⟨i,e,c,fun j k f=>?_⟩;obtain⟨g,a,b⟩:=d j k f;exact⟨g,a,l _ _ _ b⟩
theorem fM.drewN{w:Wd}{v:Va}{us:hH}(h:fM w v us)(n:Nat):fM (w.drewN n) v us:=h.keep fun g j u a=>by simpa using a
theorem dy{w w':Wd}(h:Below w.heap.size w w'){g j:Nat}{u:Va}(a:w.cell? ⟨g,j,none⟩=some u):w'.cell? ⟨g,j,none⟩=some u:=by
 by_cases b:g<w.heap.size
 ·have:=h.block g b
  simp only[World.cell?]at a ⊢;rw[this];exact a
 ·have:w.heap[g]?=none:=Km (by omega)
  simp[World.cell?,this]at a
def ie(lt:Nat->Nat->Bool)(x:Nat):hH->hH
 | []=>[x]
 | y::r=>if lt x y=true then y::ie lt x r else x::y::r
def fP(lt:Nat->Nat->Bool)(l:hH)(x:Nat):hH:=(ie lt x l.reverse).reverse
def eE(lt:Nat->Nat->Bool)(l:hH):hH:=l.foldl (fP lt) []
theorem Cc(a:Nat->Nat->Bool)(x:Nat):fP a [] x=[x]:=rfl
theorem C8(a:Nat->Nat->Bool)(l:hH)(x y:Nat)(h:a x y=true):fP a (l++[y]) x=fP a l x++[y]:=by
 unfold fP;simp[ie,h]
theorem yf(a:Nat->Nat->Bool)(l:hH)(x y:Nat)(h:a x y=false):fP a (l++[y]) x=l++[y]++[x]:=by
 unfold fP;simp[ie,h]
theorem z8(a:Nat->Nat->Bool)(x:Nat)(l:hH):(ie a x l).length=l.length+1:=by
 induction l with
 | nil=>rfl
 | cons y r ih=>simp only[ie];split<;>simp[ih]
theorem AV(a:Nat->Nat->Bool)(l:hH)(x:Nat):(fP a l x).length=l.length+1:=by simp[fP,z8]
theorem tD(a:Nat->Nat->Bool)(l:hH)(x:Nat):eE a (l++[x])=fP a (eE a l) x:=by simp[eE]
theorem insR_mem(a:Nat->Nat->Bool)(x:Nat)(l:hH):∀k,k∈ie a x l->k=x\/k∈l:=by
 induction l with
 | nil=>intro k h;simp[ie]at h;exact .inl h
 | cons y r ih=>
   intro k h;simp only[ie]at h;split at h
   ·rcases Ke.1 h with h|h
    ·exact .inr (by simp[h])
    ·rcases ih k h with h|h
     ·exact .inl h
     ·exact .inr (KE _ h)
   ·rcases Ke.1 h with h|h
    ·exact .inl h
    ·exact .inr h
theorem Bi(b:Nat->Nat->Bool)(l:hH):∀a,(l.foldl (fP b) a).length=a.length+l.length:=by
 induction l with
 | nil=>intro a;rfl
 | cons x r ih=>intro a;rw[La,ih,AV,JM];omega
theorem fold_mem(b:Nat->Nat->Bool)(l:hH):∀a k,k∈l.foldl (fP b) a->k∈a\/k∈l:=by
 induction l with
 | nil=>intro a k h;exact .inl h
 | cons x r ih=>
   intro a k h;rw[La]at h;rcases ih _ _ h with h|h
   ·rcases insR_mem b x a.reverse k (by simpa [fP]using h)with h|h
    ·exact .inr (by simp[h])
    ·exact .inl (by simpa using h)
   ·exact .inr (KE _ h)
theorem gj(a:Nat->Nat->Bool)(l:hH):(eE a l).length=l.length:=by unfold eE;rw[Bi];simp
theorem rM(a:Nat->Nat->Bool)(l:hH)(k:Nat)(h:k∈eE a l):k∈l:=by
 rcases fold_mem a l [] k h with h|h
 ·simp at h
 ·exact h
theorem zT{w:Wd}{B g n cap k:Nat}{e:TypeId}{xs:rt}(y:Va)(h:w.ownsRow B e 1 (.slice (some ⟨g,0,none⟩) n cap) n xs)(q:k<n):(w.setCell ⟨g,k,none⟩ y).ownsRow B e 1 (.slice (some ⟨g,0,none⟩) n cap) n (xs.set k y)/\Below B w (w.setCell ⟨g,k,none⟩ y)/\w.frozen? ⟨g,k,none⟩=false/\(w.cell? ⟨g,k,none⟩).isSome=true:=by
 rcases h.2 with⟨a,_⟩|⟨o,p,d,a,b,c,j,m,l,i⟩
 ·simp at a
 ·simp at a
  obtain⟨rfl,rfl⟩:=a;have f:=JV w g k d e (0,0) y c;refine⟨?_,?_,?_,?_⟩
  ·rw[f]
   refine⟨by simpa using h.1,.inr ⟨g,cap,d.setIfInBounds k y,rfl,b,J7 w g _ _ _ _ c,j,m,by simpa using l,?_⟩⟩;rw[KN,M9,i]
  ·rw[f];exact KU (JI _ _) b _
  ·simp[World.frozen?,c]
  ·rw[JE w g _ d e (0,0) c];simp;omega
def keyL(L:oa)(k:Nat):dj:=match L[k]? with|some n=>n.key|none=>[]
def dZ(L:oa)(x y:Nat):Bool:=ef (keyL L x) (keyL L y)
theorem gc{L:oa}{k:Nat}{n:Nd}(h:L[k]?=some n):keyL L k=n.key:=by unfold keyL;rw[h]
theorem cr.kidrow{B g:Nat}{m:TypeId}{cap:Nat}{L:oa}{w:Wd}(h:cr B m (.slice (some ⟨g,0,none⟩) L.length cap) L w)(u:Nat)(n:Nd)(e:L[u]?=some n):∃a,w.cell? ⟨g,u*6+4,none⟩=some a/\w.ownsRow B 3 1 a n.kids.length (n.kids.map iV):=by
 obtain⟨b,f,k,i,p⟩:=h;have l:∀(g j:Nat),(⟨g,0,none⟩:Addr).add j=⟨g,j,none⟩:=fun g j=>by unfold Addr.add;split<;>simp_all
 have o:u<L.length:=(JG.1 e).1;obtain⟨a,d⟩:∃a,b[u]?=some a:=⟨_,JF (by omega)⟩;have c:=k.cells (g:=g) rfl (u*6+4) _ (md L b u a f d);rw[l]at c;exact⟨a,c,i u n a e d⟩
theorem EY{P:Program}{z:Array Oper}{C:List Oper}{o:Oper}{a:Act}{Q:Exit->Act->Wd->Prop}(A:o.guard=none)(s x:Operand)(t:TypeId)(D:o.op=.call {callee:=.builtin .append,args:= #[s,x],argTypes:= #[t,t]})
 (e:TypeId) (i:TypeInfo) (E:P.underlying t=some (.slice e)) (r:P.info? e=some i) (G:i.zero=some (.int .i64 0)) (H:i.size=1) (I:i.bytes=8)
 (B:Nat) (v:Va) (b:hH) (w:Wd) (q:a.eval s=.slice none 0 0) (p:a.eval x=v) (l:w.ownsRow B e 1 v b.length (b.map iV)) (M:b.length<=10000000000000)
 (h:∀f d,d.ownsRow w.heap.size e 1 f b.length (b.map iV)->Below w.heap.size w d->wpList P z Q C (a.put o.dst f) d):wpList P z Q (o::C) a w:=by
 have L:=fM.of l;rcases l.2 with⟨n,F⟩|⟨g,c,N,n,_⟩
 ·subst n
  refine wpList_append_own_none A s x t D w.heap.size e i 1 E r _ 0 [] q (Le _ _ _ _) p (h _ _ ?_ (JI _ _));obtain rfl:=Kt.1 F;exact Le _ _ _ _
 ·subst n
  refine M2 _ A s x t D w.heap.size e i (.int .i64 0) 1 8 E r G H I rfl (by decide) _ 0 [] q (Le _ _ _ _) ⟨g,0,none⟩ b.length c (b.map iV) p (by simp) ?_ ?_ (by unfold maxLen;omega) (by omega) (JQ _) ?_
  ·intro j u m
   exact l.cells (g:=g) rfl j u m
  ·intro u m
   obtain⟨k,_,rfl⟩:=Ly.1 m;all_goals rfl
  ·intro f d y K _
   rw[J3,Lj]at y;exact h f d y ((JI _ _).grown K (JQ _) (by intro k J;simp[Value.ownBlock]at J))
theorem EN:∀(b:oa) (a:rt) (u j:Nat) (n:Nd) (c:Va),a.length=b.length->b[u]?=some n->a[u]?=some c->j<6->(dl b a)[u*6+j]?=(cz n c)[j]?:=by
 intro b;induction b with
 | nil=>intro a u j n c h d;simp at d
 | cons m b ih=>
   intro a u j n c h d e f;match a,h with
   | v::a,h=>
     match u with
     | 0=>
       simp at d e;subst d;subst e;rw[dl,Lk,J3,J4 (by simpa [cz]using f)]
     | u+1=>
       have:=ih a u j n c (by simpa using h) (by simpa using d) (by simpa using e) f;rw[dl,J9 (by simp[cz];omega),<-this];congr 1
       simp[cz];omega
theorem cr.six{B g:Nat}{o:TypeId}{cap:Nat}{L:oa}{w:Wd}(h:cr B o (.slice (some ⟨g,0,none⟩) L.length cap) L w)(u:Nat)(n:Nd)(b:L[u]?=some n):∃a,(∀j v,(cz n a)[j]?=some v->w.cell? ⟨g,u*6+j,none⟩=some v)/\w.ownsRow B 3 1 a n.kids.length (n.kids.map iV):=by
 obtain⟨c,f,k,i,r⟩:=h;have l:∀(g j:Nat),(⟨g,0,none⟩:Addr).add j=⟨g,j,none⟩:=fun g j=>by unfold Addr.add;split<;>simp_all
 have q:u<L.length:=(JG.1 b).1;obtain⟨a,e⟩:∃a,c[u]?=some a:=⟨_,JF (by omega)⟩;refine⟨a,fun j v d=>?_,i u n a b e⟩;have p:j<6:=by have:=(JG.1 d).1;simpa [cz]using this
 have m:=k.cells (g:=g) rfl (u*6+j) v ((EN L c u j n a f b e p).trans d);rwa [l]at m
def ct(f:Nat->dj)(ks:hH):Nat->dj
 | 0=>[]
 | j+1=>ct f ks j++(if j=0 then []else [44])++f (ks.getD j 0)
def fc(L:oa)(f:Nat->dj)(k:Nat):dj:=dk (keyL L k)++58::f k
def formN(L:oa):Nat->Nat->dj
 | 0,_=>[]
 | f+1,k=>
   match L[k]? with
   | none=>[]
   | some n=>
     if n.kind=0 then [110,117,108,108]
     else if n.kind=1 then(if n.num=1 then [116,114,117,101]else [102,97,108,115,101])
     else if n.kind=2 then ew n.num
     else if n.kind=3 then dk n.text
     else if n.kind=4 then 91::ct (formN L f) n.kids n.kids.length++[93]
     else 123::ct (fc L (formN L f)) (eE (dZ L) n.kids) n.kids.length++[125]
structure nJ (L:oa):Prop where
 len:L.length<=1000000
 kind:∀(k:Nat) (n:Nd),L[k]?=some n->n.kind<=5
 truth:∀(k:Nat) (n:Nd),L[k]?=some n->n.kind=1->n.num=0\/n.num=1
 lo:∀(k:Nat) (n:Nd),L[k]?=some n-> -9223372036854775808<=n.num
 hi:∀(k:Nat) (n:Nd),L[k]?=some n->n.num<=9223372036854775807
 text:∀(k:Nat) (n:Nd),L[k]?=some n->n.text.length<=100000000
 key:∀(k:Nat) (n:Nd),L[k]?=some n->n.key.length<=100000000
 few:∀(k:Nat) (n:Nd),L[k]?=some n->n.kids.length<=1000000
 kids:∀(k:Nat) (n:Nd),L[k]?=some n->∀c∈n.kids,k<c/\c<L.length
structure q9 (L:oa):Prop where
 one:∀(f k:Nat),(formN L f k).length<=1000000000
 arr:∀(f k:Nat) (n:Nd),L[k]?=some n->n.kind=4->∀j,j<=n.kids.length->(ct (formN L f) n.kids j).length<=1000000000
 obj:∀(f k:Nat) (n:Nd),L[k]?=some n->n.kind=5->∀j,j<=n.kids.length->(ct (fc L (formN L f)) (eE (dZ L) n.kids) j).length<=1000000000
def prF(R:Except (Nat×Nat) JT):dj×Nat×Nat:=
 match R with
 | .ok t=>(formN (flat 0 [] t) (flat 0 [] t).length 0,0,0)
 | .error (e,a)=>([],e,a)
mutual
def fK(M:Nat):JT->Prop
 | .null _=>True
 | .truth _ _=>True
 | .int n _=> -9223372036854775808<=n/\n<=9223372036854775807
 | .str t _=>t.length<=M
 | .arr ts _=>pg M ts
 | .obj ms _=>mB M ms
def pg(M:Nat):List JT->Prop
 | []=>True
 | t::r=>fK M t/\pg M r
def mB(M:Nat):List (dj×JT)->Prop
 | []=>True
 | (k,t)::r=>k.length<=M/\fK M t/\mB M r
end
def mK(M:Nat)(n:Nd):Prop:=n.kind<=5/\(n.kind=1->n.num=0\/n.num=1)/\ -9223372036854775808<=n.num/\n.num<=9223372036854775807/\n.text.length<=M/\n.key.length<=M
mutual
theorem ou(M b:Nat)(key:dj)(t:JT)(h:fK M t)(hk:key.length<=M):∀n∈flat b key t,mK M n:=by
 cases t with
 | null i=>intro n hn;simp[flat]at hn;subst hn;simp[mK,hk]
 | truth x i=>intro n hn;simp[flat]at hn;subst hn;cases x<;>simp[mK,hk]
 | int m i=>intro n hn;simp[flat]at hn;subst hn;simp[fK]at h;simp[mK,hk,h]
 | str t i=>intro n hn;simp[flat]at hn;subst hn;simp[fK]at h;simp[mK,hk,h]
 | arr ts i=>
   intro n hn;rw[flat,Ke]at hn;rcases hn with rfl|hn
   ·simp[mK,hk]
   ·exact te M (b+1) ts (by simpa [fK]using h) n hn
 | obj ms i=>
   intro n hn;rw[flat,Ke]at hn;rcases hn with rfl|hn
   ·simp[mK,hk]
   ·exact tR M (b+1) ms (by simpa [fK]using h) n hn
theorem te(M b:Nat)(ts:List JT)(h:pg M ts):∀n∈fG b ts,mK M n:=by
 cases ts with
 | nil=>intro n hn;simp[fG]at hn
 | cons t r=>
   intro n hn;rw[pg]at h;rw[fG,KX]at hn;rcases hn with hn|hn
   ·exact ou M b [] t h.1 (KI _) n hn
   ·exact te M (b+t.size) r h.2 n hn
theorem tR(M b:Nat)(ms:List (dj×JT))(h:mB M ms):∀n∈dF b ms,mK M n:=by
 cases ms with
 | nil=>intro n hn;simp[dF]at hn
 | cons m r=>
   obtain⟨k,t⟩:=m;intro n hn;rw[mB]at h;rw[dF,KX]at hn;rcases hn with hn|hn
   ·exact ou M b k t h.2.1 h.1 n hn
   ·exact tR M (b+t.size) r h.2.2 n hn
end
theorem vI(a:List JT):∀(b c:Nat),c∈d9 b a->b<=c/\c<b+cC a:=by
 induction a with
 | nil=>intro b c h;simp[d9]at h
 | cons t r ih=>
   intro b c h;have:=eM t;rw[d9,Ke]at h;rw[cC];rcases h with rfl|h
   ·omega
   ·have:=ih _ _ h;omega
theorem wK(a:List (dj×JT)):∀(b c:Nat),c∈cq b a->b<=c/\c<b+cp a:=by
 induction a with
 | nil=>intro b c h;simp[cq]at h
 | cons m r ih=>
   obtain⟨k,t⟩:=m;intro b c h;have:=eM t;rw[cq,Ke]at h;rw[cp];rcases h with rfl|h
   ·omega
   ·have:=ih _ _ h;omega
mutual
theorem rx(b:Nat)(key:dj)(t:JT):∀(k:Nat) (n:Nd),(flat b key t)[k]?=some n->∀c∈n.kids,b+k<c/\c<b+t.size:=by
 cases t with
 | null i=>intro k n hn c hc;cases k with|zero=>simp[flat]at hn;subst hn;simp at hc|succ k=>simp[flat]at hn
 | truth x i=>intro k n hn c hc;cases k with|zero=>simp[flat]at hn;subst hn;simp at hc|succ k=>simp[flat]at hn
 | int m i=>intro k n hn c hc;cases k with|zero=>simp[flat]at hn;subst hn;simp at hc|succ k=>simp[flat]at hn
 | str t i=>intro k n hn c hc;cases k with|zero=>simp[flat]at hn;subst hn;simp at hc|succ k=>simp[flat]at hn
 | arr ts i=>
   intro k n hn c hc;rw[flat]at hn;rw[JT.size];cases k with
   | zero=>
     simp at hn;subst hn;have:=vI ts _ _ hc;omega
   | succ k=>
     have:=tU (b+1) ts k n (by simpa using hn) c hc;omega
 | obj ms i=>
   intro k n hn c hc;rw[flat]at hn;rw[JT.size];cases k with
   | zero=>
     simp at hn;subst hn;have:=wK ms _ _ hc;omega
   | succ k=>
     have:=ta (b+1) ms k n (by simpa using hn) c hc;omega
theorem tU(b:Nat)(ts:List JT):∀(k:Nat) (n:Nd),(fG b ts)[k]?=some n->∀c∈n.kids,b+k<c/\c<b+cC ts:=by
 cases ts with
 | nil=>intro k n hn;simp[fG]at hn
 | cons t r=>
   intro k n hn c hc;rw[fG]at hn;rw[cC];have hl:=cJ b [] t;by_cases hk:k<t.size
   ·rw[J4 (by omega)]at hn
    have:=rx b [] t k n hn c hc;omega
   ·rw[J9 (by omega),hl]at hn
    have:=tU (b+t.size) r (k-t.size) n hn c hc;omega
theorem ta(b:Nat)(ms:List (dj×JT)):∀(k:Nat) (n:Nd),(dF b ms)[k]?=some n->∀c∈n.kids,b+k<c/\c<b+cp ms:=by
 cases ms with
 | nil=>intro k n hn;simp[dF]at hn
 | cons m r=>
   obtain⟨key,t⟩:=m;intro k n hn c hc;rw[dF]at hn;rw[cp];have hl:=cJ b key t;by_cases hk:k<t.size
   ·rw[J4 (by omega)]at hn
    have:=rx b key t k n hn c hc;omega
   ·rw[J9 (by omega),hl]at hn
    have:=ta (b+t.size) r (k-t.size) n hn c hc;omega
end
theorem AR(M:Nat)(t:JT)(h:fK M t)(d:M<=100000000)(e:t.size<=1000000):nJ (flat 0 [] t):=by
 have b:∀(k:Nat) (n:Nd),(flat 0 [] t)[k]?=some n->mK M n:=fun k n a=>ou M 0 [] t h (KI _) n (JZ a)
 refine⟨by rw[cJ];exact e,fun k n a=>(b k n a).1,fun k n a=>(b k n a).2.1,fun k n a=>(b k n a).2.2.1,fun k n a=>(b k n a).2.2.2.1,fun k n a=>Ki (b k n a).2.2.2.2.1 d,fun k n a=>Ki (b k n a).2.2.2.2.2 d,fun k n a=>Ki (li 0 [] t n (JZ a)) e,?_⟩;intro k n a c f;have:=rx 0 [] t k n a c f;rw[cJ];omega
end Go.Proofs.YtihboehpeehlmaaGreatDoor
