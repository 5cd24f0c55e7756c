import Derived.Test.YtihboehpeehlmaaGreatDoorB0
import Derived.Test.YtihboehpeehlmaaGreatDoorG1
import Derived.Test.YtihboehpeehlmaaGreatDoorD1
import Derived.Laws.MakeOwn
import Derived.Laws.OwnMore
import Derived.Test.YtihboehpeehlmaaGreatDoorK0
import Derived.Test.YtihboehpeehlmaaGreatDoorIIx
import Derived.Test.YtihboehpeehlmaaGreatDoorNR3
import Derived.Deep.AppendLies
import Derived.Deep.RegionHeld3
import Derived.Deep.DeepCutAuto
set_option linter.unusedVariables false
set_option linter.unusedSimpArgs false
set_option maxHeartbeats 1000000
namespace Go.Proofs.YtihboehpeehlmaaGreatDoor.Dg
set_option maxRecDepth 4000
open Tryz Go.RowKit
section
theorem sg_inj:∀i,i<64->∀x,x<64->(sg i).toNat=(sg x).toNat->i=x:=by decide +kernel
theorem value_sg(c:UInt8)(x:Nat)(w:Wd)(l:x<64)(f:c=sg x):Calls prog 69 #[.int .u8 (c.toNat:Int)] w fun e j=>e=.returned (.int .i64 (x:Int))/\j=w:=by
 have g:Hid (c=sg x):=f;clear f;go_enter func69,ntmps69;go_wp2_with fail
 go_loopw [3] (fun i wr=>∃k:Nat,k<=x/\i=.int .i64 (k:Int)/\wr=w) (fun i _=>64-(intOf i).toNat)
 case atStart=>exact⟨0,by omega,rfl,rfl⟩
 case round=>
  obtain⟨k,m,rfl,rfl⟩:=hrel;have a:k<64:=by omega
  have n:(k:Int)<64:=by omega
  by_cases d:k=x
  ·subst d
   have b:(((qt[k]'a).toNat:Int)==(c.toNat:Int))=true:=by rw[g.out,CY k a];simp
   delta qt at b
   go_wp2;go_ret;exact⟨rfl,rfl⟩
  ·have b:(((qt[k]'a).toNat:Int)==(c.toNat:Int))=false:=by
    rw[beq_eq_false_iff_ne,g.out,<-CY k a];intro h;exact d (sg_inj k a x l (by exact_mod_cast h))
   delta qt at b
   go_wp2;exact⟨⟨k+1,by omega,by go_num,trivial⟩,by simp[intOf];omega⟩
theorem i64_and_mask(n:Int)(k:Nat)(c:k<=8):bits .and .i64 n (2^k-1)=n%2^k:=by
 have b:(BitVec.ofInt 64 (2^k-1)).toNat=2^k-1:=by
  have:k=0\/k=1\/k=2\/k=3\/k=4\/k=5\/k=6\/k=7\/k=8:=by omega
  rcases this with rfl|rfl|rfl|rfl|rfl|rfl|rfl|rfl|rfl<;>decide
 have a:(BitVec.ofInt 64 n&&&BitVec.ofInt 64 (2^k-1)).toNat=(n%((2^64:Nat):Int)).toNat%2^k:=by
  rw[BitVec.toNat_and,BitVec.toNat_ofInt,b,Nat.and_two_pow_sub_one_eq_mod]
 show IntKind.i64.wrap ((BitVec.ofInt 64 n&&&BitVec.ofInt 64 (2^k-1)).toNat:Nat)=n%2^k
 rw[a,IntKind.wrap_i64];have:k=0\/k=1\/k=2\/k=3\/k=4\/k=5\/k=6\/k=7\/k=8:=by omega
 rcases this with rfl|rfl|rfl|rfl|rfl|rfl|rfl|rfl|rfl<;>omega
theorem i64_and15(n:Int):bits .and .i64 n 15=n%16:=i64_and_mask n 4 (by omega)
theorem i64_and3(n:Int):bits .and .i64 n 3=n%4:=i64_and_mask n 2 (by omega)
theorem i64_and0(n:Int):bits .and .i64 n 0=0:=by have:=i64_and_mask n 0 (by omega);simpa using this
attribute [local go_sem] i64_and15 i64_and3 i64_and0
end
set_option maxRecDepth 4000
open Tryz Go.RowKit
section
attribute [local go_sem] i64_and15 i64_and3 i64_and0
def six(d:Nat->Nat)(i:Nat):Nat:=if 6*i%8=0 then d (6*i/8)/4 else if 6*i%8=6 then d (6*i/8)%4*16+d (6*i/8+1)/16 else if 6*i%8=4 then d (6*i/8)%16*4+d (6*i/8+1)/64 else d (6*i/8)%64
theorem six_lt{d:Nat->Nat}(a:∀k,d k<256)(i:Nat):six d i<64:=by
 have:=a (6*i/8);have:=a (6*i/8+1);unfold six;(repeat' split)<;>omega
theorem pre_at(d:Nat->Nat):∀n i,i<(pre d n).length->(pre d n)[i]?=some (sg (six d i))
 | 0,i,h=>by simp[pre]at h
 | n+1,i,h=>by
   have e:=jY d n;have f:=jY d (n+1);rw[pre];by_cases b:i<(pre d n).length
   ·rw[List.getElem?_append_left b];exact pre_at d n i b
   ·rw[List.getElem?_append_right (by omega)]
    unfold mA six;have a:n%3=0\/n%3=1\/n%3=2:=by omega
    rcases a with a|a|a
    ·rw[if_pos a,show i-(pre d n).length=0 by omega,show 6*i%8=0 by omega,show 6*i/8=n by omega];rfl
    ·rw[if_neg (by omega),if_pos a,show i-(pre d n).length=0 by omega,show 6*i%8=6 by omega,show 6*i/8=n-1 by omega,show n-1+1=n by omega];rfl
    ·rw[if_neg (by omega),if_neg (by omega)]
     by_cases c:i=(pre d n).length
     ·rw[show i-(pre d n).length=0 by omega,show 6*i%8=4 by omega,show 6*i/8=n-1 by omega,show n-1+1=n by omega];rfl
     ·rw[show i-(pre d n).length=1 by omega,show 6*i%8=2 by omega,show 6*i/8=n by omega];rfl
theorem enc_at{d:Nat->Nat}{n:Nat}(c:∀k,n<=k->d k=0)(i:Nat)(h:i<(enc d n).length):(enc d n)[i]?=some (sg (six d i)):=by
 have j:=jY d n;have g:=jb d n;rw[enc];by_cases b:i<(pre d n).length
 ·rw[List.getElem?_append_left b];exact pre_at d n i b
 ·have a:n%3=1\/n%3=2:=by omega
  rw[List.getElem?_append_right (by omega),show i-(pre d n).length=0 by omega];unfold tl six;have e:=c n (Nat.le_refl _);rcases a with a|a
  ·have f:i=4*(n/3)+1:=by omega
   rw[if_neg (by omega),if_pos a,show 6*i%8=6 by omega,show 6*i/8=n-1 by omega,show n-1+1=n by omega,e];rfl
  ·have f:i=4*(n/3)+2:=by omega
   rw[if_neg (by omega),if_neg (by omega),show 6*i%8=4 by omega,show 6*i/8=n-1 by omega,show n-1+1=n by omega,e];rfl
def oB9(d:Nat->Nat)(n:Nat):dj:=(List.range n).map fun k=>UInt8.ofNat (d k)
theorem oB9_sc(d:Nat->Nat)(n:Nat):oB9 d (n+1)=oB9 d n++[UInt8.ofNat (d n)]:=by simp[oB9,List.range_succ]
theorem oB9_ln(d:Nat->Nat)(n:Nat):(oB9 d n).length=n:=by simp[oB9]
theorem byte_o2{n:Nat}(h:n<256):((UInt8.ofNat n).toNat:Int)=(n:Int):=by simp;omega
set_option maxHeartbeats 1000000 in
theorem rdecK(t:dv)(d:Nat->Nat)(n:Nat)(w:Wd)(hd:∀k,d k<256)(hz:∀k,n<=k->d k=0)(U:n<=200)(ht:t.size=(4*n+2)/3)(hv:∀i (h:i<t.size),t[i]=sg (six d i)):Calls prog 35 #[.string t] w fun e w'=>e=.returned (.tuple #[.string ⟨(oB9 d n).toArray⟩,.int .i64 0,.int .i64 0])/\Below w.heap.size w w':=by
 obtain⟨I,W,Q,L,O⟩:=info_parts vx;have N:Hid _:=W;have HV:Hid (∀i (h:i<t.size),t[i]=sg (six d i)):=hv;have s:Hid (∀k,d k<256):=hd;have HZ:Hid (∀k,n<=k->d k=0):=hz;have J:Hid (t.size=(4*n+2)/3/\n<=200):=⟨ht,U⟩;have al:((t.size:Int)%4==1)=false:=by rw[beq_eq_false_iff_ne];omega
 clear W hv ht hz hd U;go_enter func35,ntmps35;go_wp2_with fail
 go_loopw [5] (fun i wr=>∃k:Nat,k<=t.size/\i=.int .i64 (k:Int)/\wr=w) (fun i _=>t.size-(intOf i).toNat)
 case atStart=>exact⟨0,by omega,rfl,rfl⟩
 case round=>
  obtain⟨k,hk,rfl,T⟩:=hrel;rw[T];clear T wr;have ak:t.size<=1000:=by have:=J.out;omega
  by_cases ac:k<t.size
  ·have ag:(k:Int)<(t.size:Int):=by omega
   have ai:(0:Int)<=(six d k:Int):=by omega
   go_wp2_with (go_at_call 69;refine(value_sg _ (six d k) _ (six_lt s.out k) (HV.out k ac)).mono ?_;rintro e l ⟨rfl,f⟩;rw[f];clear f l)
   exact⟨⟨k+1,by omega,by go_num,trivial⟩,by simp[intOf];omega⟩
  ·have ag:(t.size:Int)<=(k:Int):=by omega
   go_wp2_with fail
   go_loopw [6,7,8,9] (fun o x bt i wr=>∃(j X:Nat),j<=t.size/\i=.int .i64 (j:Int)/\x=.int .i64 (X:Int)/\bt=.int .i64 ((6*j%8:Nat):Int)/\X=d (6*j/8)/2^(8-6*j%8)/\Hid (OwnB w.heap.size 5 o (oB9 d (6*j/8)) wr)/\Below w.heap.size w wr) (fun _ _ _ i _=>t.size-(intOf i).toNat)
   case atStart=>exact⟨0,0,by omega,rfl,rfl,rfl,by have:=s.out 0;simp;omega,.inl ⟨rfl,rfl⟩,cF _⟩
   case round=>
    obtain⟨j,X,hj,rfl,rfl,rfl,b,B,u⟩:=hrel;have m:=s.out (6*j/8);have C:=s.out (6*j/8+1);have S:Hid (six d j=_):=Eq.refl (six d j);have H:=six_lt s.out j;generalize G:6*j%8=q at b;generalize E:6*j/8=p at *;have D:Hid (6*j%8=q/\6*j/8=p):=⟨G,E⟩;have Z:=oB9_ln d p;have g:six d j=if q=0 then d p/4 else if q=6 then d p%4*16+d (p+1)/16 else if q=4 then d p%16*4+d (p+1)/64 else d p%64:=by unfold six;rw[G,E]
    have aj:=u.size;by_cases aa:j<t.size
    ·have ae:(j:Int)<(t.size:Int):=by omega
     have F:Hid (t[j]=sg (six d j)):=HV.out j aa;generalize six d j=v at *;have ab:q=0\/q=6\/q=4\/q=2:=by omega
     have M:(oB9 d p).length+1<=220000000000000:=by have:=J.out;omega
     clear G E S Z;rcases ab with rfl|rfl|rfl|rfl
     ·obtain rfl:X=0:=by rw[b];simp;omega
      rw[if_pos rfl]at g;have S:Hid (v=d p/4):=g;clear g b m C;go_wp2_with (go_at_call 69;refine(value_sg _ v _ H F.out).mono ?_;rintro e l ⟨rfl,f⟩;rw[f];clear f l)
      have a:6*(j+1)%8=6/\6*(j+1)/8=p:=by have:=D.out;omega
      exact⟨⟨j+1,v,by omega,by go_num,by simp,by rw[a.1];rfl,by rw[a.1,a.2];exact S.out,by rw[a.2];exact B,u⟩,by simp[intOf];omega⟩
     ·rw[if_neg (by decide),if_pos rfl]at g
      replace b:X=d p/4:=b
      obtain⟨Y,hY,ad,R,K⟩:∃Y:Nat,(X:Int)*64+(v:Int)=(Y:Int)/\Y<4096/\Hid (Y/16=d p)/\Hid (Y%16=d (p+1)/16):=⟨X*64+v,by omega,by omega,by show _=_;omega,by show _=_;omega⟩;obtain⟨c,af,A⟩:∃c:UInt8,(Y:Int)/16=(c.toNat:Int)/\Hid (c=UInt8.ofNat (d p)):=⟨UInt8.ofNat (d p),by rw[byte_o2 m];have:=R.out;omega,rfl⟩;clear g b m C;go_wp2_with (first|(go_at_call 69;refine(value_sg _ v _ H F.out).mono ?_;rintro e l ⟨rfl,f⟩;rw[f];clear f l)|(refine su rfl (.tmp 47) (.tmp 52) 115 rfl 5 I underlying115 N.out Q L O w.heap.size _ _ c ⟨wr.heap.size,0,none⟩ rfl rfl M (B.out.alloc_own _) (by simp;omega) (fH _ _ _) ?_;intro V w3 r y;have z:Hid _:=r;clear r))
      have a:6*(j+1)%8=4/\6*(j+1)/8=p+1:=by have:=D.out;omega
      exact⟨⟨j+1,Y%16,by omega,by go_num,congrArg (Value.int .i64) (by omega),by rw[a.1];rfl,by rw[a.1,a.2];exact K.out,by rw[a.2,oB9_sc,<-A.out];exact z,(cK u _).trans y⟩,by simp[intOf];omega⟩
     ·rw[if_neg (by decide),if_neg (by decide),if_pos rfl]at g
      replace b:X=d p/16:=b
      obtain⟨Y,hY,ad,R,K⟩:∃Y:Nat,(X:Int)*64+(v:Int)=(Y:Int)/\Y<1024/\Hid (Y/4=d p)/\Hid (Y%4=d (p+1)/64):=⟨X*64+v,by omega,by omega,by show _=_;omega,by show _=_;omega⟩;obtain⟨c,af,A⟩:∃c:UInt8,(Y:Int)/4=(c.toNat:Int)/\Hid (c=UInt8.ofNat (d p)):=⟨UInt8.ofNat (d p),by rw[byte_o2 m];have:=R.out;omega,rfl⟩;clear g b m C;go_wp2_with (first|(go_at_call 69;refine(value_sg _ v _ H F.out).mono ?_;rintro e l ⟨rfl,f⟩;rw[f];clear f l)|(refine su rfl (.tmp 47) (.tmp 52) 115 rfl 5 I underlying115 N.out Q L O w.heap.size _ _ c ⟨wr.heap.size,0,none⟩ rfl rfl M (B.out.alloc_own _) (by simp;omega) (fH _ _ _) ?_;intro V w3 r y;have z:Hid _:=r;clear r))
      have a:6*(j+1)%8=2/\6*(j+1)/8=p+1:=by have:=D.out;omega
      exact⟨⟨j+1,Y%4,by omega,by go_num,congrArg (Value.int .i64) (by omega),by rw[a.1];rfl,by rw[a.1,a.2];exact K.out,by rw[a.2,oB9_sc,<-A.out];exact z,(cK u _).trans y⟩,by simp[intOf];omega⟩
     ·rw[if_neg (by decide),if_neg (by decide),if_neg (by decide)]at g
      replace b:X=d p/64:=b
      obtain⟨c,hY,A⟩:∃c:UInt8,(X:Int)*64+(v:Int)=(c.toNat:Int)/\Hid (c=UInt8.ofNat (d p)):=⟨UInt8.ofNat (d p),by rw[byte_o2 m];omega,rfl⟩;have ah:c.toNat<256:=c.toNat_lt;clear g b m C;go_wp2_with (first|(go_at_call 69;refine(value_sg _ v _ H F.out).mono ?_;rintro e l ⟨rfl,f⟩;rw[f];clear f l)|(refine su rfl (.tmp 47) (.tmp 52) 115 rfl 5 I underlying115 N.out Q L O w.heap.size _ _ c ⟨wr.heap.size,0,none⟩ rfl rfl M (B.out.alloc_own _) (by simp;omega) (fH _ _ _) ?_;intro V w3 r y;have z:Hid _:=r;clear r))
      have a:6*(j+1)%8=0/\6*(j+1)/8=p+1:=by have:=D.out;omega
      exact⟨⟨j+1,0,by omega,by go_num,congrArg (Value.int .i64) (by omega),by rw[a.1];rfl,by rw[a.1,a.2];have:=s.out (p+1);simp;omega,by rw[a.2,oB9_sc,<-A.out];exact z,(cK u _).trans y⟩,by simp[intOf];omega⟩
    ·have ae:(t.size:Int)<=(j:Int):=by omega
     obtain rfl:p=n:=by have:=J.out;omega
     obtain rfl:X=0:=by rw[b,HZ.out p (Nat.le_refl _)];simp
     clear b;have g:=B.out.str (P:=prog) (t:=115) (d:=9) underlying115 underlying5 underlying9;clear G E m C Z;go_wp2;go_ret3
     exact⟨rfl,u⟩
end
theorem oB9_key(s:dv):(⟨(oB9 (dB s) s.size).toArray⟩:dv)=s:=by
 apply ByteArray.ext;apply Array.ext';apply List.ext_getElem?;intro i;by_cases h:i<s.size
 ·simp[oB9,dB,h]
 ·simp[oB9,h]
end Go.Proofs.YtihboehpeehlmaaGreatDoor.Dg
namespace Go.Proofs.YtihboehpeehlmaaGreatDoor
def pl9(c:UInt8):Bool:=decide (c≠34/\32<=c.toNat/\c≠92/\c.toNat<128)
theorem pl_cases{c:UInt8}(h:pl9 c=true):c≠34/\¬c.toNat<32/\c≠92/\c.toNat<128:=by
 have:=of_decide_eq_true h;exact⟨this.1,by omega,this.2.2.1,this.2.2.2⟩
theorem strF_pl:∀(t x:dj) (f:Nat),(∀c∈t,pl9 c=true)->t.length<f->strF f (t++34::x)=.ok (t,t.length+1)
 | [],x,f+1,_,_=>by rw[List.nil_append,strF];simp
 | c::t,x,f+1,h,hf=>by
   obtain⟨g,i,b,a⟩:=pl_cases (h c (by simp));have ih:=strF_pl t x f (fun d e=>h d (by simp[e])) (by simpa using hf);have j:seqLen (c::(t++34::x))=1:=by rw[seqLen,if_pos a]
   rw[List.cons_append,strF];rw[if_neg g,if_neg i,if_neg b,j,if_neg (by decide)];simp only[List.drop_succ_cons,List.drop_zero,List.take_succ_cons,List.take_zero];rw[ih];simp[cL];omega
theorem quot_pl(t x:dj)(h:∀c∈t,pl9 c=true):da (34::(t++34::x))=.ok (t,t.length+2):=by
 rw[da,if_pos rfl];unfold jC;rw[strF_pl t x _ h (by simp;omega)]
theorem val_str(d:Nat)(t x:dj)(i:Nat)(h:∀c∈t,pl9 c=true):valL d (34::(t++34::x)) i=.ok (.str t i,t.length+2):=by
 rw[cG,if_pos rfl,quot_pl t x h]
theorem drop_q(t x:dj):(34::(t++34::x)).drop (t.length+2)=x:=by
 rw[show t.length+2=(t.length+1)+1 by omega,List.drop_succ_cons,List.drop_append];simp
theorem nb_q(c:UInt8)(x:dj)(h:iS c=false):nb (c::x)=0:=by rw[nb,if_neg (by simp[h])]
theorem mem_drops(n s x:dj)(c:UInt8):(34::(n++34::58::34::(s++34::c::x))).drop (n.length+2)=58::34::(s++34::c::x)/\(34::(n++34::58::34::(s++34::c::x))).drop (n.length+3)=34::(s++34::c::x)/\(34::(n++34::58::34::(s++34::c::x))).drop (n.length+3+(s.length+2))=c::x/\(34::(n++34::58::34::(s++34::c::x))).drop (n.length+3+(s.length+2)+1)=x:=by
 have d:=drop_q n (58::34::(s++34::c::x));have a:(34::(n++34::58::34::(s++34::c::x))).drop (n.length+3)=34::(s++34::c::x):=by
  rw[show n.length+3=(n.length+2)+1 by omega,<-List.drop_drop,d];rfl
 have b:(34::(n++34::58::34::(s++34::c::x))).drop (n.length+3+(s.length+2))=c::x:=by
  rw[<-List.drop_drop,a];exact drop_q s (c::x)
 refine⟨d,a,b,?_⟩;rw[<-List.drop_drop,b];rfl
theorem objF_step(d f:Nat)(a:List (dj))(n s x:dj)(c:UInt8)(i:Nat)(j:∀c∈n,pl9 c=true)(r:∀c∈s,pl9 c=true)(l:n∉a)(b:c=44\/c=125):dn (valL d) (f+1) a (34::(n++34::58::34::(s++34::c::x))) i=if c=44 then(match dn (valL d) f (a++[n]) x (i+(n.length+3+(s.length+2)+1))with| .error e=>.error e| .ok (ms,k)=>.ok ((n,.str s (i+(n.length+3)))::ms,n.length+3+(s.length+2)+1+k))else .ok ([(n,.str s (i+(n.length+3)))],n.length+3+(s.length+2)+1):=by
 obtain⟨q,g,m,p⟩:=mem_drops n s x c;have o:iS c=false:=by rcases b with rfl|rfl<;>decide
 rw[dn];simp only[nb_q 34 _ (by decide),Nat.zero_add,List.drop_zero,Nat.add_zero];rw[quot_pl n _ j];simp only;rw[if_neg l];simp only[q,nb_q 58 _ (by decide),Nat.add_zero,if_pos,g,nb_q 34 _ (by decide)];rw[val_str d s _ _ r];simp only[m,nb_q c _ o,Nat.add_zero,p];by_cases h:c=44
 ·simp only[if_pos h];rfl
 ·rw[if_neg h,if_neg h,if_pos (b.resolve_left h)]
theorem val_brace(d:Nat)(r:dj)(i:Nat):valL (d+1) (123::r) i=db (valL d) (123::r) i:=by
 rw[cG,if_neg (by decide),if_neg (by decide),if_neg (by decide),if_pos (.inr rfl)];simp only;rw[if_neg (by decide)]
theorem val_square(d:Nat)(r:dj)(i:Nat):valL (d+1) (91::r) i=dM (valL d) (91::r) i:=by
 rw[cG,if_neg (by decide),if_neg (by decide),if_neg (by decide),if_pos (.inl rfl)];rfl
def algN:dj:=[97,108,103]
def kN9:dj:=[107]
def kidN:dj:=[107,105,100]
def ktyN:dj:=[107,116,121]
def octN:dj:=[111,99,116]
def keysN:dj:=[107,101,121,115]
def keyTx(nm e kid x:dj):dj:=
 123::34::(algN++34::58::34::(nm++34::44::34::(kN9++34::58::34::(e++34::44::34::(kidN++34::58::34::(kid++34::44::34::(ktyN++34::58::34::(octN++34::125::x))))))))
def KT9(nm e kid:dj)(t:JT):Prop:=∃a1 a2 a3 a4 i,t=.obj [(algN,.str nm a1),(kN9,.str e a2),(kidN,.str kid a3),(ktyN,.str octN a4)] i
theorem val_key(d:Nat)(b e a x:dj)(i:Nat)(l:∀c∈b,pl9 c=true)(o:∀c∈e,pl9 c=true)(p:∀c∈a,pl9 c=true):∃t,valL (d+1) (keyTx b e a []++x) i=.ok (t,(keyTx b e a []).length)/\KT9 b e a t:=by
 have k:keyTx b e a []++x=keyTx b e a x:=by simp[keyTx]
 rw[k];obtain⟨m,q⟩:∃m,(keyTx b e a x).length+1=m+4:=⟨(keyTx b e a x).length+1-4,by simp[keyTx];omega⟩;have g:∀c∈algN,pl9 c=true:=by decide
 have f:∀c∈kN9,pl9 c=true:=by decide
 have u:∀c∈kidN,pl9 c=true:=by decide
 have h:∀c∈ktyN,pl9 c=true:=by decide
 have j:∀c∈octN,pl9 c=true:=by decide
 have n:valL (d+1) (keyTx b e a x) i=db (valL d) (keyTx b e a x) i:=by
  exact val_brace d _ i
 have s:(keyTx b e a x).drop 1=34::(algN++34::58::34::(b++34::44::34::(kN9++34::58::34::(e++34::44::34::(kidN++34::58::34::(a++34::44::34::(ktyN++34::58::34::(octN++34::125::x)))))))):=rfl;rw[n];unfold db;simp only[s,nb_q 34 _ (by decide),Nat.add_zero,List.head?_cons];rw[if_neg (by decide),q];rw[show m+4=(m+3)+1 by omega,objF_step d (m+3) [] algN b _ 44 _ g l (by simp) (.inl rfl),if_pos rfl];rw[show m+3=(m+2)+1 by omega,objF_step d (m+2) _ kN9 e _ 44 _ f o (by decide) (.inl rfl),if_pos rfl];rw[show m+2=(m+1)+1 by omega,objF_step d (m+1) _ kidN a _ 44 _ u p (by decide) (.inl rfl),if_pos rfl];rw[objF_step d m _ ktyN octN _ 125 _ h j (by decide) (.inr rfl),if_neg (by decide)];have r:1+(algN.length+3+(b.length+2)+1+(kN9.length+3+(e.length+2)+1+(kidN.length+3+(a.length+2)+1+(ktyN.length+3+(octN.length+2)+1))))=(keyTx b e a []).length:=by
  simp[keyTx,algN,kN9,kidN,ktyN,octN];omega
 rw[<-r];exact⟨_,rfl,⟨_,_,_,_,_,rfl⟩⟩
def objsT:List (dj×dj×dj)->dj
 | []=>[]
 | [a]=>keyTx a.1 a.2.1 a.2.2 []
 | a::b::r=>keyTx a.1 a.2.1 a.2.2 []++44::objsT (b::r)
theorem objsT_len:∀l:List (dj×dj×dj),l.length<=(objsT l).length
 | []=>Nat.le_refl _
 | [a]=>by simp[objsT,keyTx]
 | a::b::r=>by
   have:=objsT_len (b::r);rw[objsT,List.length_append];simp only[List.length_cons]at this ⊢;omega
def PlK(a:dj×dj×dj):Prop:=(∀c∈a.1,pl9 c=true)/\(∀c∈a.2.1,pl9 c=true)/\(∀c∈a.2.2,pl9 c=true)
theorem arr_keys(d:Nat):∀(e:List (dj×dj×dj)) (f:Nat) (x:dj) (i:Nat),e≠[]->e.length<=f->(∀a∈e,PlK a)->∃m,dW (valL (d+1)) f (objsT e++93::x) i=.ok (m,(objsT e).length+1)/\m.length=e.length/\∀(j:Nat) a t,e[j]?=some a->m[j]?=some t->KT9 a.1 a.2.1 a.2.2 t
 | [],f,x,i,h,_,_=>absurd rfl h
 | [a],0,x,i,_,h,_=>by simp at h
 | [a],f+1,x,i,_,_,hp=>by
   obtain⟨p,q,w⟩:=hp a (by simp);obtain⟨t,s,v⟩:=val_key d a.1 a.2.1 a.2.2 (93::x) i p q w;have o:nb (objsT [a]++93::x)=0:=nb_q 123 _ (by decide);have l:(objsT [a]++93::x).drop (keyTx a.1 a.2.1 a.2.2 []).length=93::x:=List.drop_left' rfl;refine⟨[t],?_,rfl,fun j b u n g=>?_⟩
   ·rw[dW]
    simp only[o,List.drop_zero,Nat.add_zero,Nat.zero_add];rw[show objsT [a]=keyTx a.1 a.2.1 a.2.2 []from rfl]at l ⊢;rw[s];simp only[l,nb_q 93 _ (show iS 93=false by decide),Nat.add_zero];rfl
   ·match j with
    | 0=>simp at n g;subst n g;exact v
    | j+1=>simp at n
 | a::b::r,0,x,i,_,h,_=>by simp at h
 | a::b::r,f+1,x,i,_,hl,hp=>by
   obtain⟨p,q,w⟩:=hp a (by simp);have A:objsT (a::b::r)++93::x=keyTx a.1 a.2.1 a.2.2 []++44::(objsT (b::r)++93::x):=by rw[objsT];simp
   obtain⟨t,s,v⟩:=val_key d a.1 a.2.1 a.2.2 (44::(objsT (b::r)++93::x)) i p q w;have o:nb (keyTx a.1 a.2.1 a.2.2 []++44::(objsT (b::r)++93::x))=0:=nb_q 123 _ (by decide);have l:(keyTx a.1 a.2.1 a.2.2 []++44::(objsT (b::r)++93::x)).drop (keyTx a.1 a.2.1 a.2.2 []).length=44::(objsT (b::r)++93::x):=List.drop_left' rfl;have y:(keyTx a.1 a.2.1 a.2.2 []++44::(objsT (b::r)++93::x)).drop ((keyTx a.1 a.2.1 a.2.2 []).length+1)=objsT (b::r)++93::x:=by rw[<-List.drop_drop,l];rfl
   obtain⟨m,C,z,B⟩:=arr_keys d (b::r) f x (i+((keyTx a.1 a.2.1 a.2.2 []).length+1)) (by simp) (by simpa using hl) (fun c k=>hp c (List.mem_cons_of_mem _ k));refine⟨t::m,?_,by simp[z],fun j c u k g=>?_⟩
   ·rw[A,dW]
    simp only[o,List.drop_zero,Nat.add_zero,Nat.zero_add];rw[s];simp only[l,nb_q 44 _ (show iS 44=false by decide),Nat.add_zero,if_pos,y];rw[C,objsT];simp;omega
   ·match j with
    | 0=>simp at k g;subst k g;exact v
    | j+1=>simp only[List.getElem?_cons_succ]at k g;exact B j c u k g
theorem objF_one(v:dj->Nat->JR JT)(f:Nat)(n y x:dj)(i m:Nat)(t:JT)(e:∀c∈n,pl9 c=true)(h:nb y=0)(d:v y (i+(n.length+3))=.ok (t,m))(g:y.drop m=125::x):dn v (f+1) [] (34::(n++34::58::y)) i=.ok ([(n,t)],n.length+3+m+1):=by
 have b:=drop_q n (58::y);have a:(34::(n++34::58::y)).drop (n.length+3)=y:=by
  rw[show n.length+3=(n.length+2)+1 by omega,<-List.drop_drop,b];rfl
 have j:(34::(n++34::58::y)).drop (n.length+3+m)=125::x:=by rw[<-List.drop_drop,a,g]
 rw[dn];simp only[nb_q 34 _ (show iS 34=false by decide),Nat.zero_add,List.drop_zero,Nat.add_zero];rw[quot_pl n _ e];simp only[List.not_mem_nil,if_false,b,nb_q 58 _ (show iS 58=false by decide),Nat.add_zero,if_pos,a,h,d,j,nb_q 125 _ (show iS 125=false by decide)];rfl
def setT(ks:List (dj×dj×dj)):dj:=123::34::(keysN++34::58::91::(objsT ks++93::[125]))
theorem objsT_head(a:dj×dj×dj):∀r,∃y,objsT (a::r)=123::y
 | []=>⟨_,rfl⟩
 | b::r=>⟨_,by rw[objsT];rfl⟩
theorem val_arr(d:Nat)(b:List (dj×dj×dj))(x:dj)(i:Nat)(e:∀a∈b,PlK a):∃c,valL (d+2) (91::(objsT b++93::x)) i=.ok (.arr c i,(objsT b).length+2)/\c.length=b.length/\∀(j:Nat) a t,b[j]?=some a->c[j]?=some t->KT9 a.1 a.2.1 a.2.2 t:=by
 rw[val_square];unfold dM;match b,e with
 | [],e=>
   refine⟨[],?_,rfl,fun j a t h=>by simp at h⟩;simp only[objsT,List.nil_append,List.drop_succ_cons,List.drop_zero,nb_q 93 _ (show iS 93=false by decide),Nat.add_zero,List.head?_cons,if_pos];rfl
 | a::r,e=>
   obtain⟨y,f⟩:=objsT_head a r;obtain⟨c,o,g,n⟩:=arr_keys d (a::r) ((91::(objsT (a::r)++93::x)).length+1) x (i+1) (by simp) (by
    have:∀l:List (dj×dj×dj),l.length<=(objsT l).length:=objsT_len;have:=this (a::r);simp only[List.length_cons,List.length_append]at this ⊢;omega) e
   refine⟨c,?_,g,n⟩;have m:nb (objsT (a::r)++93::x)=0:=by rw[f];exact nb_q 123 _ (by decide)
   have k:(objsT (a::r)++93::x).head?≠some 93:=by rw[f];simp
   simp only[List.drop_succ_cons,List.drop_zero,m,Nat.add_zero];rw[if_neg k,o];simp only[Except.ok.injEq,Prod.mk.injEq,true_and];omega
theorem read_set(b:List (dj×dj×dj))(m:∀a∈b,PlK a)(o:(setT b).length<=65536):∃c i,cB (setT b)=.ok (.obj [(keysN,.arr c i)] 0)/\c.length=b.length/\∀(j:Nat) a t,b[j]?=some a->c[j]?=some t->KT9 a.1 a.2.1 a.2.2 t:=by
 obtain⟨c,l,e,g⟩:=val_arr 29 b [125] (1+(keysN.length+3)) m;have n:(setT b).length=(objsT b).length+11:=by simp[setT,keysN]
 have k:(91::(objsT b++93::[125])).drop ((objsT b).length+2)=125::[]:=by
  rw[show(objsT b).length+2=((objsT b).length+1)+1 by omega,List.drop_succ_cons,<-List.drop_drop,List.drop_left' rfl];rfl
 have d:=objF_one (valL 31) ((setT b).length) keysN (91::(objsT b++93::[125])) [] 1 _ _ (by decide) (nb_q 91 _ (by decide)) l k;have h:valL 32 (setT b) 0=.ok (.obj [(keysN,.arr c (1+(keysN.length+3)))] 0,(setT b).length):=by
  unfold setT at d ⊢;rw[val_brace];unfold db;simp only[List.drop_succ_cons,List.drop_zero,nb_q 34 _ (show iS 34=false by decide),Nat.add_zero,List.head?_cons,Nat.zero_add];rw[if_neg (by decide),d];simp only[Except.ok.injEq,Prod.mk.injEq,true_and];simp[keysN];omega
 refine⟨c,1+(keysN.length+3),?_,e,g⟩;unfold cB;have f:nb (setT b)=0:=nb_q 123 _ (by decide);rw[if_neg (by omega)];simp only[f,List.drop_zero,h,Nat.zero_add,List.drop_length];rw[if_neg (by simp[nb])]
end Go.Proofs.YtihboehpeehlmaaGreatDoor
set_option maxHeartbeats 2000000
namespace Go.Proofs.YtihboehpeehlmaaGreatDoor.Dg
set_option maxRecDepth 4000
open Tryz Go.RowKit
theorem rr_nodes{B:Nat}{v:Value}{L:oa}{w:Wd}(h:cr B 83 v L w)(t:∀n∈L,n.kids.length<=1000000000):RR 83 v L w:=by
 have z:∀(g j:Nat),(⟨g,0,none⟩:Addr).add j=⟨g,j,none⟩:=fun g j=>by unfold Addr.add;split<;>simp_all
 have r:∃y d,v=.slice y L.length d:=by
  obtain⟨o,x,l,s,u⟩:=h;rcases l.2 with⟨a,b⟩|⟨g,d,q,a,_⟩
  ·exact⟨none,0,by rw[a,b]⟩
  ·exact⟨_,_,a⟩
 refine⟨r,fun k n i=>?_⟩;have A:k<L.length:=(List.getElem?_eq_some_iff.1 i).1;obtain⟨g,d,rfl⟩:∃g d,v=.slice (some ⟨g,0,none⟩) L.length d:=by
  obtain⟨o,x,l,s,u⟩:=h;rcases l.2 with⟨a,b⟩|⟨g,d,q,a,_⟩
  ·omega
  ·exact⟨_,_,a⟩
 obtain⟨p,c,m⟩:=h.six k n i;refine⟨g,p,rfl,?_,t n (List.mem_of_getElem? i),c 0 _ rfl,c 1 _ rfl,c 2 _ rfl,c 3 _ rfl,c 4 _ rfl,c 5 _ rfl⟩;rcases m.2 with⟨a,b⟩|⟨g,c,C,a,_⟩
 ·refine⟨none,0,by rw[a,b],fun j k f=>?_⟩
  obtain e:=List.length_eq_zero_iff.1 b;rw[e]at f;simp at f
 ·refine⟨some ⟨g,0,none⟩,c,a,fun j k f=>⟨g,rfl,?_⟩⟩
  have:=m.cells (g:=g) (by rw[a];rfl) j (iV k) (by simp[f]);rwa [z]at this
theorem made_ints(n:Nat):madeCells (Value.int .i64 0).cells (n*1)=(List.replicate n (.int .i64 0)).toArray:=by
 apply Array.ext';rw[Nat.mul_one];have:=toList_madeCells_one (.int .i64 0) n;rw[show(Value.int .i64 0).cells= #[.int .i64 0]from rfl,this]
structure ParD (ns:oa) (par:Nat->Nat) (i:Nat) (ks:hH) (A:Array Value):Prop where
 size:A.size=ns.length
 old:∀(p:Nat) (n:Nd) (c:Nat),p<i->ns[p]?=some n->c∈n.kids->A[c]?=some (.int .i64 (par c:Int))
 new:∀c∈ks,A[c]?=some (.int .i64 (par c:Int))
theorem ParD.set{f:oa}{b:Nat->Nat}{i:Nat}{j:hH}{A:Array Value}(h:ParD f b i j A)(c:Nat)(k:c<f.length)(l:b c=i):ParD f b i (j++[c]) (A.setIfInBounds c (.int .i64 (i:Int))):=by
 have g:∀d:Nat,A[d]?=some (Value.int .i64 (b d:Int))->(A.setIfInBounds c (Value.int .i64 (i:Int)))[d]?=some (Value.int .i64 (b d:Int)):=fun d a=>by
  by_cases e:c=d
  ·subst e
   rw[Array.getElem?_setIfInBounds_self_of_lt (by rw[h.size];exact k),l]
  ·rw[Array.getElem?_setIfInBounds_ne e];exact a
 refine⟨by simp[h.size],fun p n d o m a=>g d (h.old p n d o m a),fun d a=>?_⟩;rcases List.mem_append.1 a with a|a
 ·exact g d (h.new d a)
 ·simp at a
  subst a;rw[Array.getElem?_setIfInBounds_self_of_lt (by rw[h.size];exact k),l]
theorem ParD.next{d:oa}{f:Nat->Nat}{i:Nat}{A:Array Value}{n:Nd}(h:ParD d f i n.kids A)(g:d[i]?=some n):ParD d f (i+1) [] A:=by
 refine⟨h.size,fun p m c j a b=>?_,fun c b=>by simp at b⟩;by_cases e:p=i
 ·subst e
  rw[g]at a;injection a with a;subst a;exact h.new c b
 ·exact h.old p m c (by omega) a b
set_option maxRecDepth 4000 in
theorem rparents(x:Value)(a:oa)(w:Wd)(h:Nat->Nat)(z:RR 83 x a w)(hw:nJ a)(h0:0<a.length)(s:∀(p:Nat) (n:Nd) (c:Nat),a[p]?=some n->c∈n.kids->h c=p):Calls prog 32 #[x] w fun r J=>r=.returned (.slice (some ⟨w.heap.size,0,none⟩) a.length a.length)/\(∃A,J.heap[w.heap.size]?=some (.cells A 3 (0,0))/\ParD a h a.length [] A)/\Below w.heap.size w J:=by
 obtain⟨Y,t,Q,M,N⟩:=info_parts lv;have ak:=hw.len;have aa:∀W:Wd,(Instr.makeSlice 32 (.int .i64 (a.length:Int)) (.int .i64 (a.length:Int))).run prog W=.ok (.slice (some ⟨W.heap.size,0,none⟩) a.length a.length) (W.alloc (.cells (List.replicate a.length (.int .i64 0)).toArray 3)):=fun W=>by
  have:=run_make (P:=prog) W 32 3 Y (.int .i64 0) underlying32 t Q .i64 .i64 (a.length:Int) (a.length:Int) (by omega) (by omega) (by rw[N];omega) (by omega);rw[M,Int.toNat_natCast,made_ints]at this;exact this
 clear t Q M N;have k0:(0:Int)<(a.length:Int):=by omega
 have HX:Hid (RR 83 x a w):=z;have X:Hid (∀(p:Nat) (n:Nd) (c:Nat),a[p]?=some n->c∈n.kids->h c=p):=s;have K:Hid (nJ a):=hw;obtain⟨ad,aj,rfl⟩:=z.shape;clear z s hw;have q:(w.alloc (.cells (List.replicate a.length (.int .i64 0)).toArray 3)).heap[w.heap.size]?=some (.cells (List.replicate a.length (.int .i64 0)).toArray 3 (0,0)):=heap_alloc_new _ _;have ai:Hid ((w.alloc (.cells (List.replicate a.length (.int .i64 0)).toArray 3)).heap[w.heap.size]?=some (.cells (List.replicate a.length (.int .i64 0)).toArray 3 (0,0))):=q;have f0:(w.alloc (.cells (List.replicate a.length (.int .i64 0)).toArray 3)).frozen? ⟨w.heap.size,0,none⟩=false:=frozen_of_row _ _ _ _ _ q;have c0:(w.alloc (.cells (List.replicate a.length (.int .i64 0)).toArray 3)).cell? ⟨w.heap.size,0,none⟩=some (.int .i64 0):=by rw[cell_of_row _ _ _ _ _ _ q];simp[h0]
 clear q;go_enter func32,ntmps32;go_wp2_with fail
 clear f0 c0 aa;go_loopw [4] (fun D wr=>∃(i:Nat) (A:Array Value),i<=a.length/\D=.int .i64 (i:Int)/\Hid (wr.heap[w.heap.size]?=some (.cells A 3 (0,0))/\ParD a h i [] A)/\Below w.heap.size w wr) (fun D _=>a.length-(intOf D).toNat)
 case atStart=>exact⟨0,_,by omega,rfl,⟨heap_alloc_new _ _,by simp,fun p n c d=>by omega,fun c s=>by simp at s⟩,cK (cF _) _⟩
 case round=>
  obtain⟨i,A,t,rfl,e,b⟩:=hrel;by_cases ab:i<a.length
  ·have k1:(i:Int)<(a.length:Int):=by omega
   have ae:(i:Int)<=1000000:=by omega
   obtain⟨n,o⟩:∃n,a[i]?=some n:=⟨_,List.getElem?_eq_getElem ab⟩;obtain⟨g,kv,I,Z,af,_,_,_,_,u,_⟩:=HX.out.at' i n o;obtain rfl:ad=some ⟨g,0,none⟩:=by injection I
   obtain⟨B,H,rfl,G⟩:=Z;have A4:Hid (w.cell? ⟨g,i*6+4,none⟩=some (.slice B n.kids.length H)):=u;have T:Hid (∀j k:Nat,n.kids[j]?=some k->∃g,B=some ⟨g,0,none⟩/\w.cell? ⟨g,j,none⟩=some (.int .i64 (k:Int))):=G;clear u G;have v:Hid (a[i]?=some n):=o;have f:Hid (Below w.heap.size w wr):=b;have ag:=K.out.few i n o;clear o b I;go_wp2_with fail
   go_loopw [5] (fun E F=>∃(k:Nat) (A:Array Value),k<=n.kids.length/\E=.int .i64 (k:Int)/\Hid (F.heap[w.heap.size]?=some (.cells A 3 (0,0))/\ParD a h i (n.kids.take k) A)/\Below w.heap.size w F) (fun E _=>n.kids.length-(intOf E).toNat)
   case atStart=>exact⟨0,A,by omega,rfl,e.out,f.out⟩
   case round=>
    clear e f;obtain⟨k,A,hk,rfl,e,b⟩:=hrel;have u:wr.cell? ⟨g,i*6+4,none⟩=some (.slice B n.kids.length H):=dc b A4.out;by_cases V:k<n.kids.length
    ·have k2:(k:Int)<(n.kids.length:Int):=by omega
     have ah:(k:Int)<=1000000:=by omega
     obtain⟨c,m⟩:∃c,n.kids[k]?=some c:=⟨_,List.getElem?_eq_getElem V⟩;obtain⟨gk,rfl,L⟩:=T.out k c m;have d0:wr.cell? ⟨gk,k,none⟩=some (.int .i64 (c:Int)):=dc b L;clear L;obtain⟨b1,S⟩:=K.out.kids i n v.out c (List.mem_of_getElem? m);have ac:(c:Int)<(a.length:Int):=by omega
     obtain⟨l,d⟩:=e.out;have R:c<A.size:=by rw[d.size];exact S
     have U:wr.cell? ⟨w.heap.size,c,none⟩=some A[c]:=by rw[cell_of_row _ _ _ _ _ _ l];exact Array.getElem?_eq_getElem R
     have uf:wr.frozen? ⟨w.heap.size,c,none⟩=false:=frozen_of_row _ _ _ _ _ l;have C:=d.set c S (X.out i n c v.out (List.mem_of_getElem? m));have O:n.kids.take k++[c]=n.kids.take (k+1):=by rw[List.take_add_one,m];rfl
     rw[O]at C;have HS:Hid ((wr.setCell ⟨w.heap.size,c,none⟩ (.int .i64 (i:Int))).heap[w.heap.size]?=some (.cells (A.setIfInBounds c (.int .i64 (i:Int))) 3 (0,0))/\ParD a h i (n.kids.take (k+1)) (A.setIfInBounds c (.int .i64 (i:Int)))):=⟨heap_setCell_same _ _ _ _ _ _ l,C⟩;have f:Hid (Below w.heap.size w (wr.setCell ⟨w.heap.size,c,none⟩ (.int .i64 (i:Int)))):=b.setCell (Nat.le_refl _) _;generalize A[c]=y at U;clear l d b m C O e R;go_wp2_with fail
     go_roundw
     case rel=>exact⟨k+1,_,by omega,by go_num,HS.out,f.out⟩
     case measure=>simp[intOf];omega
    ·have k2:¬(k:Int)<(n.kids.length:Int):=by omega
     obtain rfl:k=n.kids.length:=by omega
     obtain⟨l,d⟩:=e.out;rw[List.take_length]at d;have HR:Hid (wr.heap[w.heap.size]?=some (.cells A 3 (0,0))/\ParD a h (i+1) [] A):=⟨l,d.next v.out⟩;have f:Hid (Below w.heap.size w wr):=b;clear l b d e;go_wp2_with fail
     refine⟨⟨i+1,A,by omega,by rw[show((i+1:Nat):Int)=(i:Int)+1 by omega],HR.out,f.out⟩,?_⟩;simp only[intOf];omega
  ·have k1:¬(i:Int)<(a.length:Int):=by omega
   obtain rfl:i=a.length:=by omega
   have f:Hid (Below w.heap.size w wr):=b;clear b;go_wp2;go_ret;exact⟨rfl,⟨A,e.out⟩,f.out⟩
theorem rindex(v:Value)(a:hH)(c:Nat)(w:Wd)(h:IR w v a)(u:a.length<=20):Calls prog 67 #[v,.int .i64 (c:Int)] w fun r o=>(∃q:Int,r=.returned (.int .i64 q)/\q<20)/\o=w:=by
 obtain⟨x,s,rfl,f⟩:=h;have m:=cb f;clear f;go_enter func67,ntmps67;go_wp2_with fail
 go_loopw [5] (fun d wr=>∃i:Nat,i<=a.length/\d=.int .i64 (i:Int)/\wr=w) (fun d _=>a.length-(intOf d).toNat)
 case atStart=>exact⟨0,by omega,rfl,rfl⟩
 case round=>
  obtain⟨i,t,rfl,rfl⟩:=hrel;by_cases l:i<a.length
  ·have n:(i:Int)<(a.length:Int):=by omega
   obtain⟨k,e⟩:∃k,a[i]?=some k:=⟨_,List.getElem?_eq_getElem l⟩;obtain⟨g,rfl,j⟩:=m.out i k e;clear e;by_cases b:(k:Int)=(c:Int)
   ·rw[b]at j
    clear b;go_wp2;go_ret;exact⟨⟨_,rfl,by omega⟩,rfl⟩
   ·have p:((k:Int)==(c:Int))=false:=by rw[beq_eq_false_iff_ne];exact b
    clear b;go_wp2_with fail
    go_roundw
    case rel=>exact⟨i+1,by omega,by go_num,trivial⟩
    case measure=>simp[intOf];omega
  ·have n:¬(i:Int)<(a.length:Int):=by omega
   go_wp2;go_ret;exact⟨⟨_,rfl,by omega⟩,rfl⟩
theorem ralg(a:Int)(w:Wd)(b:a=256\/a=384\/a=512):Calls prog 36 #[.string (nameB a)] w fun r c=>r=.returned (.int .i64 a)/\c=w:=by
 rcases b with rfl|rfl|rfl
 ·rw[show nameB 256=⟨#[72,83,50,53,54]⟩from rfl]
  go_enter func36,ntmps36;go_wp2;go_ret;exact⟨rfl,rfl⟩
 ·rw[show nameB 384=⟨#[72,83,51,56,52]⟩from rfl]
  go_enter func36,ntmps36;go_wp2;go_ret;exact⟨rfl,rfl⟩
 ·rw[show nameB 512=⟨#[72,83,53,49,50]⟩from rfl]
  go_enter func36,ntmps36;go_wp2;go_ret;exact⟨rfl,rfl⟩
set_option maxRecDepth 4000
open Tryz Go.RowKit
def DecOk(t r:dv):Prop:=∀w:Wd,Calls prog 35 #[.string t] w fun e w'=>e=.returned (.tuple #[.string r,.int .i64 0,.int .i64 0])/\Below w.heap.size w w'
theorem dB_none(a:dv):∀k,a.size<=k->dB a k=0:=fun k h=>by
 have b:¬k<a.data.size:=by have:a.data.size=a.size:=rfl;omega
 unfold dB;rw[Array.getD_eq_getD_getElem?,Array.getElem?_eq_none (by omega)];rfl
theorem sign_of_enc(a:dv):∀b∈enc (dB a) a.size,∃x,x<64/\b=sg x:=fun b d=>by
 obtain⟨i,h,e⟩:=List.getElem_of_mem d;have c:=enc_at (dB_none a) i h;rw[List.getElem?_eq_getElem h,e]at c;injection c with c;exact⟨_,six_lt (uy a) i,c⟩
theorem dec_enc(a:dv)(d:a.size<=200):DecOk ⟨(enc (dB a) a.size).toArray⟩ a:=by
 intro w;have g:=jb (dB a) a.size;have f:(⟨(enc (dB a) a.size).toArray⟩:dv).size=(4*a.size+2)/3:=by
  show(enc (dB a) a.size).toArray.size=_
  rw[List.size_toArray,g]
 have b:=dB_none a;have h:=rdecK ⟨(enc (dB a) a.size).toArray⟩ (dB a) a.size w (uy a) b d f (fun i h=>by
  have c:i<(enc (dB a) a.size).length:=by omega
  have e:=enc_at b i c;rw[List.getElem?_eq_getElem c]at e;injection e)
 rw[oB9_key]at h;exact h
inductive KM9:dj->dj->Prop
 | alg (a:Int) (h:a=256\/a=384\/a=512):KM9 algN (nameB a).data.toList
 | k (t:dj) (n:dv) (h:DecOk ⟨t.toArray⟩ n):KM9 kN9 t
 | kid (s:dv) (h:eP s=true) (hs:s.size<=40):KM9 kidN s.data.toList
 | kty:KM9 ktyN octN
theorem ba_toList(s:dv):(⟨s.data.toList.toArray⟩:dv)=s:=by cases s;simp
set_option maxRecDepth 4000 in
set_option maxHeartbeats 1000000 in
theorem rkm(i f:dj)(p a:Int)(l:Value)(w:Wd)(h:KM9 i f):Calls prog 68 #[.agg #[.int .i64 3,.string ⟨i.toArray⟩,.string ⟨f.toArray⟩,.int .i64 p,l,.int .i64 a]] w fun r q=>r=.returned (.int .i64 0)/\Below w.heap.size w q:=by
 cases h with
 | alg j e=>
   rw[ba_toList,show algN.toArray= #[97,108,103]from rfl];have x:((j:Int)==0)=false:=by rw[beq_eq_false_iff_ne];omega
   have m:=ci e;clear e;go_enter func68,ntmps68;go_wp2_with (refine(ralg j _ m.out).mono ?_;rintro r c ⟨rfl,b⟩;rw[b];clear b c)
   go_ret;exact⟨rfl,cK (cF _) _⟩
 | k t n h=>
   rw[show kN9.toArray= #[107]from rfl];have o:=ci h;clear h;go_enter func68,ntmps68;go_wp2_with (refine(o.out _).mono ?_;rintro r c ⟨rfl,d⟩;have u:=ci d;clear d)
   go_ret;exact⟨rfl,(cK (cF _) _).trans (u.out.mono (by simp))⟩
 | kid s g y=>
   rw[ba_toList,show kidN.toArray= #[107,105,100]from rfl];have v:=ci g;clear g;go_enter func68,ntmps68;go_wp2_with (refine(Jx s _ (by omega)).mono ?_;rintro r c ⟨rfl,b⟩;rw[b,v.out];clear b c)
   go_ret;exact⟨rfl,cK (cF _) _⟩
 | kty=>
   rw[show ktyN.toArray= #[107,116,121]from rfl,show octN.toArray= #[111,99,116]from rfl];go_enter func68,ntmps68;go_wp2;go_ret;exact⟨rfl,cK (cF _) _⟩
end Go.Proofs.YtihboehpeehlmaaGreatDoor.Dg
set_option maxHeartbeats 1000000
set_option maxRecDepth 4000
namespace Go.Proofs.YtihboehpeehlmaaGreatDoor.Dg
set_option maxRecDepth 4000
open Tryz Go.RowKit
theorem IR.of_rr{o:TypeId}{v:Value}{L:oa}{w:Wd}(h:RR o v L w){k:Nat}{n:Nd}(j:L[k]?=some n){g:Nat}{d:Value}(m:∃i f,v=.slice (some ⟨g,0,none⟩) i f)(l:w.cell? ⟨g,k*6+4,none⟩=some d):IR w d n.kids:=by
 obtain⟨u,y,e,a,s,z,q,r,t,c,p⟩:=h.at' k n j;obtain⟨i,f,rfl⟩:=m;injection e with b x _;injection b with b;injection b with b _ _;subst b;rw[l]at c;injection c with c;rw[c];exact a
theorem rset0(v i:Value)(L:oa)(w:Wd)(b:RR 83 v L w)(n:Nd)(a:L[0]?=some n)(c:n.kind=5):Calls prog 33 #[v,i,.int .i64 0] w fun r m=>r=.returned (.int .i64 0)/\Below w.heap.size w m:=by
 have t:0<L.length:=(List.getElem?_eq_some_iff.1 a).1;obtain⟨q,p,rfl⟩:=b.shape;obtain⟨g,x,o,rfl,_,s,l,d,h,j,k,e,f⟩:=b.node a;rw[c]at d;simp only[Nat.zero_mul,Nat.zero_add]at d h j k e f;have u:(0:Int)<(L.length:Int):=by omega
 clear b a l c;go_enter func33,ntmps33;go_wp2_with fail
 go_ret;exact⟨rfl,cK (cF _) _⟩
theorem rset1(v:Value)(a:Nat)(L:oa)(w:Wd)(c:RR 83 v L w)(n:Nd)(i:Nat)(u:0<i)(z:L.length<=1000000)(b:L[i]?=some n)(e:n.kind=4)(f:n.key=keysN)(d:w.cell? ⟨a,i,none⟩=some (.int .i64 0)):Calls prog 33 #[v,.slice (some ⟨a,0,none⟩) L.length L.length,.int .i64 (i:Int)] w fun r l=>r=.returned (.int .i64 0)/\Below w.heap.size w l:=by
 have E:i<L.length:=(List.getElem?_eq_some_iff.1 b).1;obtain⟨B,t,rfl⟩:=c.shape;obtain⟨g,G,s,rfl,_,D,j,m,h,x,y,p,q⟩:=c.node b;rw[e]at m;rw[f,show keysN.toArray= #[107,101,121,115]from rfl]at h;have F:(i:Int)<(L.length:Int):=by omega
 have A:((i:Int)==0)=false:=by rw[beq_eq_false_iff_ne];omega
 have k:a<w.heap.size:=World.block_lt_of_cell? w _ d;have C:∀o,(w.alloc o).cell? ⟨a,i,none⟩=some (.int .i64 0):=fun o=>(World.cell?_alloc_lt _ _ _ k).trans d
 clear c b j e f;go_enter func33,ntmps33;go_wp2_with fail
 go_ret;exact⟨rfl,cK (cF _) _⟩
theorem rset2(v:Value)(b:Nat)(L:oa)(w:Wd)(a:RR 83 v L w)(n m:Nd)(i p:Nat)(H:0<i)(O:0<p)(W:L.length<=1000000)(e:L[i]?=some n)(c:L[p]?=some m)(k:n.kind=5)(D:m.kids.length<=20)(j:w.cell? ⟨b,i,none⟩=some (.int .i64 (p:Int)))(h:w.cell? ⟨b,p,none⟩=some (.int .i64 0)):Calls prog 33 #[v,.slice (some ⟨b,0,none⟩) L.length L.length,.int .i64 (i:Int)] w fun r E=>r=.returned (.int .i64 0)/\Below w.heap.size w E:=by
 have M:i<L.length:=(List.getElem?_eq_some_iff.1 e).1;have X:p<L.length:=(List.getElem?_eq_some_iff.1 c).1;obtain⟨Z,U,rfl⟩:=a.shape;obtain⟨g,P,T,rfl,_,aa,C,x,S,V,I,Q,R⟩:=a.node e;obtain⟨B,y,u,d,_,G,t,_,_,_,_,f,_⟩:=a.node c;obtain rfl:g=B:=by injection d with d;injection d
 have l:=IR.of_rr a c ⟨_,_,rfl⟩ f;rw[k]at x;have K:∀o,(w.alloc o).cell? ⟨b,i,none⟩=some (.int .i64 (p:Int)):=fun o=>(World.cell?_alloc_lt _ _ _ (World.block_lt_of_cell? w _ j)).trans j
 have u2:∀o,(w.alloc o).cell? ⟨b,p,none⟩=some (.int .i64 0):=fun o=>(World.cell?_alloc_lt _ _ _ (World.block_lt_of_cell? w _ h)).trans h
 have u3:∀o,(w.alloc o).cell? ⟨g,p*6+4,none⟩=some (.slice y m.kids.length u):=fun o=>(World.cell?_alloc_lt _ _ _ (World.block_lt_of_cell? w _ f)).trans f
 have N:(i:Int)<(L.length:Int):=by omega
 have Y:((i:Int)==0)=false:=by rw[beq_eq_false_iff_ne];omega
 have F:((p:Int)==0)=false:=by rw[beq_eq_false_iff_ne];omega
 have J:(p:Int)<(L.length:Int):=by omega
 have A:=ci l;clear a e c C t k d l;go_enter func33,ntmps33;go_wp2_with (refine(rindex _ m.kids i _ (A.out.below ((Below.refl _ _).alloc (Nat.le_refl _) _)) D).mono ?_;rintro r z ⟨⟨q,rfl,hq⟩,s⟩;rw[s];clear s z)
 go_ret;exact⟨rfl,cK (cF _) _⟩
theorem rset3(v:Value)(a:Nat)(L:oa)(w:Wd)(c:RR 83 v L w)(n:Nd)(i p q:Nat)(x:0<i)(D:0<p)(T:0<q)(O:p<L.length)(N:L.length<=1000000)(b:L[i]?=some n)(h:n.kind=3)(d:KM9 n.key n.text)(f:w.cell? ⟨a,i,none⟩=some (.int .i64 (p:Int)))(e:w.cell? ⟨a,p,none⟩=some (.int .i64 (q:Int))):Calls prog 33 #[v,.slice (some ⟨a,0,none⟩) L.length L.length,.int .i64 (i:Int)] w fun r t=>r=.returned (.int .i64 0)/\Below w.heap.size w t:=by
 have B:i<L.length:=(List.getElem?_eq_some_iff.1 b).1;obtain⟨R,K,rfl⟩:=c.shape;obtain⟨g,E,J,rfl,_,S,s,m,H,M,y,F,G⟩:=c.node b;rw[h]at m;have A:∀o,(w.alloc o).cell? ⟨a,i,none⟩=some (.int .i64 (p:Int)):=fun o=>(World.cell?_alloc_lt _ _ _ (World.block_lt_of_cell? w _ f)).trans f
 have U:∀o,(w.alloc o).cell? ⟨a,p,none⟩=some (.int .i64 (q:Int)):=fun o=>(World.cell?_alloc_lt _ _ _ (World.block_lt_of_cell? w _ e)).trans e
 have C:(i:Int)<(L.length:Int):=by omega
 have Q:((i:Int)==0)=false:=by rw[beq_eq_false_iff_ne];omega
 have u:((p:Int)==0)=false:=by rw[beq_eq_false_iff_ne];omega
 have P:((q:Int)==0)=false:=by rw[beq_eq_false_iff_ne];omega
 have z:(p:Int)<(L.length:Int):=by omega
 have k:=ci d;clear c b s h d;go_enter func33,ntmps33;go_wp2_with (refine(rkm _ _ _ _ _ _ k.out).mono ?_;rintro r I ⟨rfl,j⟩;have l:=ci j;clear j)
 go_ret;exact⟨rfl,(cK (cF _) _).trans (l.out.mono (by simp))⟩
set_option maxRecDepth 4000
open Tryz Go.RowKit
theorem findK_not(b:dv):∀(a:rg) (m:Nat),(∀k∈a,k.kid≠b)->findK b a m= -1
 | [],m,_=>rfl
 | k::a,m,h=>by
   rw[findK,if_neg (fun e=>h k (by simp) (FZ e))];exact findK_not b a (m+1) fun x c=>h x (by simp[c])
theorem prS_none:∀(d c:rg),c.length+d.length<=20->(∀k∈d,keyErr k.alg k.kid k.key=0)->(c++d).Pairwise (fun a b=>a.kid≠b.kid)->oX c d=none
 | [],c,_,_,_=>by rw[oX]
 | k::d,c,hl,hk,hd=>by
   have g:kc c k=0:=by
    unfold kc;simp only[List.length_cons]at hl;rw[List.pairwise_append]at hd;have f:=findK_not k.kid c 0 (fun x e=>hd.2.2 x e k (by simp));rw[if_neg (by omega),hk k (by simp)];simp[f]
   rw[oX,if_pos g];exact prS_none d (c++[k]) (by simp at hl ⊢;omega) (fun x e=>hk x (by simp[e])) (by simpa using hd)
def keyP(k:Ky):dj×dj×dj:=((nameB k.alg).data.toList,enc (dB k.key) k.key.size,k.kid.data.toList)
theorem objL_key(k:Ky):db k=keyTx (keyP k).1 (keyP k).2.1 (keyP k).2.2 []:=by
 simp[db,keyTx,keyP,algN,kN9,kidN,ktyN,octN]
theorem join_objs:∀c:rg,Lib.join (c.map db) [44]=objsT (c.map keyP)
 | []=>rfl
 | [k]=>by rw[List.map_cons,List.map_nil,Lib.join_one,objL_key];rfl
 | k::b::r=>by
   have ih:=join_objs (b::r);simp only[List.map_cons]at ih ⊢;have e:Lib.joinTail [44] (db b::r.map db)=44::Lib.join (db b::r.map db) [44]:=by rw[Lib.join_cons];simp[Lib.joinTail]
   rw[Lib.join_cons,e,ih,objsT,objL_key]
theorem textK_set(a:rg):rB a=setT (a.map keyP):=by
 unfold rB setT;rw[join_objs];simp[sz,keysN]
theorem kid_pl{a:dv}(h:eP a=true):∀c∈a.data.toList,pl9 c=true:=by
 intro c g;have b:l3 a.data.toList=true:=by
  unfold eP at h;simp only[Bool.and_eq_true]at h;first|exact h.1|exact h.2|exact h.1.1|exact h.1.2
 unfold l3 at b;have d:=List.all_eq_true.1 b c g;unfold fN at d;unfold pl9;rw[decide_eq_true_iff];have j:c.toNat<256:=c.toNat_lt;have i:c≠34↔c.toNat≠34:=⟨fun h e=>h (UInt8.toNat_inj.1 e),fun h e=>h (by rw[e];rfl)⟩;have f:c≠92↔c.toNat≠92:=⟨fun h e=>h (UInt8.toNat_inj.1 e),fun h e=>h (by rw[e];rfl)⟩;rw[i,f];simp only[Bool.or_eq_true,Bool.and_eq_true,decide_eq_true_eq,beq_iff_eq]at d;omega
theorem name_pl(a:Int):∀c∈(nameB a).data.toList,pl9 c=true:=by
 unfold nameB;repeat' split
 all_goals decide
set_option maxRecDepth 4000
open Tryz Go.RowKit Go.Deep
theorem kt_size{b e a:dj}{t:JT}(h:KT9 b e a t):t.size=5:=by
 obtain⟨c,f,g,d,i,rfl⟩:=h;rfl
theorem kt_nodes{c e a:dj}{t:JT}(h:KT9 c e a t)(b:Nat):∃p f d n g,flat b [] t=[⟨5,[],[],0,[b+1,b+2,b+3,b+4],p⟩,⟨3,algN,c,0,[],f⟩,⟨3,kN9,e,0,[],d⟩,⟨3,kidN,a,0,[],n⟩,⟨3,ktyN,octN,0,[],g⟩]:=by
 obtain⟨j,k,l,m,i,rfl⟩:=h;exact⟨i,j,k,l,m,rfl⟩
theorem flatL_at:∀(a:List JT) (b:Nat),(∀t∈a,t.size=5)->(fG b a).length=5*a.length/\d9 b a=(List.range a.length).map (fun j=>b+5*j)/\∀(j r:Nat) (t:JT),a[j]?=some t->r<5->(fG b a)[5*j+r]?=(flat (b+5*j) [] t)[r]?
 | [],b,_=>⟨rfl,rfl,fun j r t h=>by simp at h⟩
 | t::a,b,h=>by
   have d:=h t (by simp);have e:(flat b [] t).length=5:=by rw[cJ,d]
   obtain⟨l,f,g⟩:=flatL_at a (b+5) (fun x i=>h x (by simp[i]));refine⟨?_,?_,fun j r u c k=>?_⟩
   ·rw[fG,List.length_append,e,d,l];simp;omega
   ·rw[d9,d,f,List.length_cons,List.range_succ_eq_map]
    simp only[List.map_cons,List.map_map,Nat.mul_zero,Nat.add_zero];congr 1
    apply List.map_congr_left;intro x _;simp;omega
   ·rw[fG,d]
    cases j with
    | zero=>
      simp at c;subst c;rw[List.getElem?_append_left (by omega)];simp
    | succ j=>
      simp only[List.getElem?_cons_succ]at c;rw[List.getElem?_append_right (by omega),e,show 5*(j+1)+r-5=5*j+r by omega,g j r u c k,show b+5+5*j=b+5*(j+1)by omega]
structure SetL (ps:List (dj×dj×dj)) (L:oa):Prop where
 len:L.length=2+5*ps.length
 n0:∃p,L[0]?=some ⟨5,[],[],0,[1],p⟩
 n1:∃p,L[1]?=some ⟨4,keysN,[],0,(List.range ps.length).map (fun j=>2+5*j),p⟩
 key:∀(j:Nat) a,ps[j]?=some a->∃p p1 p2 p3 p4,L[2+5*j]?=some ⟨5,[],[],0,[2+5*j+1,2+5*j+2,2+5*j+3,2+5*j+4],p⟩/\L[2+5*j+1]?=some ⟨3,algN,a.1,0,[],p1⟩/\L[2+5*j+2]?=some ⟨3,kN9,a.2.1,0,[],p2⟩/\L[2+5*j+3]?=some ⟨3,kidN,a.2.2,0,[],p3⟩/\L[2+5*j+4]?=some ⟨3,ktyN,octN,0,[],p4⟩
theorem setL_of{f:List (dj×dj×dj)}{b:List JT}{i:Nat}(l:b.length=f.length)(h:∀(j:Nat) a t,f[j]?=some a->b[j]?=some t->KT9 a.1 a.2.1 a.2.2 t):SetL f (flat 0 [] (.obj [(keysN,.arr b i)] 0)):=by
 have s:∀(j:Nat) (t:JT),b[j]?=some t->∃a,f[j]?=some a:=fun j t c=>by
  have:=(List.getElem?_eq_some_iff.1 c).1;exact⟨_,List.getElem?_eq_getElem (by omega)⟩
 have u:∀t∈b,t.size=5:=fun t c=>by
  obtain⟨j,k⟩:=List.getElem?_of_mem c;obtain⟨a,e⟩:=s j t k;exact kt_size (h j a t e k)
 obtain⟨y,v,x⟩:=flatL_at b 2 u;have q:flat 0 [] (.obj [(keysN,.arr b i)] 0)=⟨5,[],[],0,[1],0⟩::⟨4,keysN,[],0,d9 2 b,i⟩::fG 2 b:=by
  simp[flat,dF,cq]
 rw[q];refine⟨?_,⟨_,rfl⟩,⟨i,by rw[v,l];rfl⟩,fun j a e=>?_⟩
 ·simp[y,l];omega
 ·obtain⟨t,c⟩:∃t,b[j]?=some t:=by
   have:=(List.getElem?_eq_some_iff.1 e).1;exact⟨_,List.getElem?_eq_getElem (by omega)⟩
  obtain⟨p,n,m,z,w,d⟩:=kt_nodes (h j a t e c) (2+5*j);have g:∀r,r<5->(⟨5,[],[],0,[1],0⟩::⟨4,keysN,[],0,d9 2 b,i⟩::fG 2 b:oa)[2+5*j+r]?=(flat (2+5*j) [] t)[r]?:=fun r o=>by
   rw[show 2+5*j+r=(5*j+r)+1+1 by omega,List.getElem?_cons_succ,List.getElem?_cons_succ];exact x j r t c o
  refine⟨p,n,m,z,w,?_,?_,?_,?_,?_⟩
  ·rw[<-Nat.add_zero (2+5*j),g 0 (by omega),Nat.add_zero,d];rfl
  ·rw[g 1 (by omega),d];rfl
  ·rw[g 2 (by omega),d];rfl
  ·rw[g 3 (by omega),d];rfl
  ·rw[g 4 (by omega),d];rfl
set_option maxRecDepth 4000
open Tryz Go.RowKit
def parS(c:Nat):Nat:=if c=1 then 0 else if(c-2)%5=0 then 1 else c-(c-2)%5
theorem parS_key(j:Nat):parS (2+5*j)=1:=by unfold parS;rw[if_neg (by omega),if_pos (by omega)]
theorem parS_mem(j r:Nat)(a:0<r)(h:r<5):parS (2+5*j+r)=2+5*j:=by unfold parS;rw[if_neg (by omega),if_neg (by omega)];omega
section
variable {Z:List (dj×dj×dj)} {L:oa}
theorem SetL.split(h:SetL Z L)(i:Nat)(e:i<L.length):i=0\/i=1\/∃j r a,i=2+5*j+r/\r<5/\Z[j]?=some a:=by
 have:=h.len;by_cases d:i=0
 ·exact .inl d
 ·by_cases b:i=1
  ·exact .inr (.inl b)
  ·have c:(i-2)/5<Z.length:=by omega
   exact .inr (.inr ⟨(i-2)/5,(i-2)%5,Z[(i-2)/5],by omega,by omega,List.getElem?_eq_getElem c⟩)
theorem SetL.mem(h:SetL Z L){j:Nat}{a:dj×dj×dj}(k:Z[j]?=some a):∃n e d b c,L[2+5*j]?=some n/\n.kind=5/\n.kids=[2+5*j+1,2+5*j+2,2+5*j+3,2+5*j+4]/\L[2+5*j+1]?=some e/\e.kind=3/\e.key=algN/\e.text=a.1/\e.kids=[]/\L[2+5*j+2]?=some d/\d.kind=3/\d.key=kN9/\d.text=a.2.1/\d.kids=[]/\L[2+5*j+3]?=some b/\b.kind=3/\b.key=kidN/\b.text=a.2.2/\b.kids=[]/\L[2+5*j+4]?=some c/\c.kind=3/\c.key=ktyN/\c.text=octN/\c.kids=[]:=by
 obtain⟨p,q,o,s,r,i,g,f,l,m⟩:=h.key j a k;exact⟨_,_,_,_,_,i,rfl,rfl,g,rfl,rfl,rfl,rfl,f,rfl,rfl,rfl,rfl,l,rfl,rfl,rfl,rfl,m,rfl,rfl,rfl,rfl⟩
theorem SetL.par(h:SetL Z L)(p:Nat)(n:Nd)(c:Nat)(b:L[p]?=some n)(d:c∈n.kids):parS c=p:=by
 rcases h.split p (List.getElem?_eq_some_iff.1 b).1 with rfl|rfl|⟨j,r,a,rfl,C,i⟩
 ·obtain⟨q,e⟩:=h.n0
  rw[b]at e;injection e with e;subst e;simp at d;subst d;rfl
 ·obtain⟨q,e⟩:=h.n1
  rw[b]at e;injection e with e;subst e;simp only[List.mem_map]at d;obtain⟨j,_,rfl⟩:=d;exact parS_key j
 ·obtain⟨y,A,z,B,x,s,_,o,f,_,_,_,w,t,_,_,_,g,u,_,_,_,m,k,_,_,_,v⟩:=h.mem i
  have l:r=0\/r=1\/r=2\/r=3\/r=4:=by omega
  rcases l with rfl|rfl|rfl|rfl|rfl
  ·rw[Nat.add_zero,s]at b
   injection b with b;subst b;rw[o]at d;simp only[List.mem_cons,List.not_mem_nil,or_false]at d;rcases d with rfl|rfl|rfl|rfl
   ·exact parS_mem j 1 (by omega) (by omega)
   ·exact parS_mem j 2 (by omega) (by omega)
   ·exact parS_mem j 3 (by omega) (by omega)
   ·exact parS_mem j 4 (by omega) (by omega)
  ·rw[f]at b;injection b with b;subst b;rw[w]at d;simp at d
  ·rw[t]at b;injection b with b;subst b;rw[g]at d;simp at d
  ·rw[u]at b;injection b with b;subst b;rw[m]at d;simp at d
  ·rw[k]at b;injection b with b;subst b;rw[v]at d;simp at d
def KeyOk(a:dj×dj×dj):Prop:=KM9 algN a.1/\KM9 kN9 a.2.1/\KM9 kidN a.2.2
theorem rset_all(h:SetL Z L)(X:Z.length<=20)(hk:∀a∈Z,KeyOk a)(v:Value)(b:Nat)(w:Wd)(d:RR 83 v L w)(A:Array Value)(hA:w.heap[b]?=some (.cells A 3 (0,0)))(R:ParD L parS L.length [] A)(i:Nat)(D:i<L.length):Calls prog 33 #[v,.slice (some ⟨b,0,none⟩) L.length L.length,.int .i64 (i:Int)] w fun r w'=>r=.returned (.int .i64 0)/\Below w.heap.size w w':=by
 have aa:=h.len;have q:∀(p:Nat) (n:Nd) (c:Nat),L[p]?=some n->c∈n.kids->w.cell? ⟨b,c,none⟩=some (.int .i64 (parS c:Int)):=fun p n c s W=>by
  rw[cell_of_row _ _ _ _ _ _ hA];exact R.old p n c (List.getElem?_eq_some_iff.1 s).1 s W
 obtain⟨q0,t⟩:=h.n0;obtain⟨q1,o⟩:=h.n1;have l:=q 0 _ 1 t (by simp);rw[show parS 1=0 from rfl]at l;rcases h.split i D with rfl|rfl|⟨j,r,a,rfl,hr,g⟩
 ·exact rset0 v _ L w d _ t rfl
 ·exact rset1 v b L w d _ 1 (by omega) (by omega) o rfl rfl l
 ·obtain⟨u,O,J,P,y,x,t0,N,z,S,T,x1,k1,U,t2,H,K,k2,V,C,G,Y,k3,E,t4,M,I,k4⟩:=h.mem g
  have B:j<Z.length:=(List.getElem?_eq_some_iff.1 g).1;have m:=hk a (List.mem_of_getElem? g);have e:=q 1 _ (2+5*j) o (by simp only[List.mem_map,List.mem_range];exact⟨j,B,rfl⟩);rw[parS_key]at e;have f:∀r,0<r->r<5->w.cell? ⟨b,2+5*j+r,none⟩=some (.int .i64 ((2+5*j:Nat):Int)):=fun r Q F=>by
   have:=q (2+5*j) u (2+5*j+r) x (by
    rw[N];have k:r=1\/r=2\/r=3\/r=4:=by omega
    rcases k with rfl|rfl|rfl|rfl<;>simp)
   rwa [parS_mem j r Q F]at this
  have k:r=0\/r=1\/r=2\/r=3\/r=4:=by omega
  rcases k with rfl|rfl|rfl|rfl|rfl
  ·exact rset2 v b L w d u _ (2+5*j) 1 (by omega) (by omega) (by omega) x o t0 (by simpa using X) e l
  ·exact rset3 v b L w d O _ (2+5*j) 1 (by omega) (by omega) (by omega) (by omega) (by omega) z S (by rw[T,x1];exact m.1) (f 1 (by omega) (by omega)) e
  ·exact rset3 v b L w d J _ (2+5*j) 1 (by omega) (by omega) (by omega) (by omega) (by omega) U t2 (by rw[H,K];exact m.2.1) (f 2 (by omega) (by omega)) e
  ·exact rset3 v b L w d P _ (2+5*j) 1 (by omega) (by omega) (by omega) (by omega) (by omega) V C (by rw[G,Y];exact m.2.2) (f 3 (by omega) (by omega)) e
  ·exact rset3 v b L w d y _ (2+5*j) 1 (by omega) (by omega) (by omega) (by omega) (by omega) E t4 (by rw[M,I];exact .kty) (f 4 (by omega) (by omega)) e
theorem SetL.memK1(h:SetL Z L):∃n,L[0]?=some n/\fd L keysN n.kids=1:=by
 obtain⟨d,a⟩:=h.n0;obtain⟨c,b⟩:=h.n1;refine⟨_,a,?_⟩;simp only[fd];rw[gw b,if_pos rfl];rfl
theorem SetL.memK4(h:SetL Z L){j:Nat}{a:dj×dj×dj}(p:Z[j]?=some a):∃n i f c,L[2+5*j]?=some n/\fd L algN n.kids=((2+5*j+1:Nat):Int)/\fd L kN9 n.kids=((2+5*j+2:Nat):Int)/\fd L kidN n.kids=((2+5*j+3:Nat):Int)/\fd L ktyN n.kids=((2+5*j+4:Nat):Int)/\L[2+5*j+1]?=some i/\i.text=a.1/\L[2+5*j+2]?=some f/\f.text=a.2.1/\L[2+5*j+3]?=some c/\c.text=a.2.2:=by
 obtain⟨s,i,f,c,w,o,F,g,b,x,d,t,D,e,G,l,u,y,k,z,m,r,A,q,E,v,B,C⟩:=h.mem p;refine⟨s,i,f,c,o,?_,?_,?_,?_,b,t,e,u,k,r⟩
 ·rw[g];simp only[fd];rw[gw b,d,if_pos rfl]
 ·rw[g];simp only[fd];rw[gw b,d,if_neg (by decide),gw e,l,if_pos rfl]
 ·rw[g];simp only[fd];rw[gw b,d,if_neg (by decide),gw e,l,if_neg (by decide),gw k,m,if_pos rfl]
 ·rw[g];simp only[fd];rw[gw b,d,if_neg (by decide),gw e,l,if_neg (by decide),gw k,m,if_neg (by decide),gw q,v,if_pos rfl]
end
theorem key_ok{k:Ky}(h:keyErr k.alg k.kid k.key=0):KeyOk (keyP k)/\fx k.alg k.key=true/\eP k.kid=true:=by
 obtain⟨e,f,b,a⟩:=hI h;have c:eP k.kid=true:=by
  unfold keyErr at h;split at h
  ·omega
  ·split at h
   ·omega
   ·rename_i b;simpa using b
 have d:fx k.alg k.key=true:=by
  unfold keyErr at h;split at h
  ·omega
  ·split at h
   ·omega
   ·split at h
    ·omega
    ·rename_i a;simpa using a
 exact⟨⟨.alg k.alg e,.k _ k.key (dec_enc k.key a),.kid k.kid c b⟩,d,c⟩
theorem sg_pl:∀x,x<64->pl9 (sg x)=true:=by decide +kernel
theorem key_plK{k:Ky}(h:keyErr k.alg k.kid k.key=0):PlK (keyP k):=
 ⟨name_pl k.alg,fun c b=>by obtain⟨x,a,rfl⟩:=sign_of_enc k.key c b;exact sg_pl x a,kid_pl (key_ok h).2.2⟩
theorem read_keys{b:rg}(g:b.length<=20)(d:∀k∈b,keyErr k.alg k.kid k.key=0):(rB b).length<=65536/\∃t,cB (rB b)=.ok t/\SetL (b.map keyP) (flat 0 [] t):=by
 have f:(rB b).length<=65536:=by
  unfold rB;have:=tf (b.map db) (fun l g=>by obtain⟨k,c,rfl⟩:=List.mem_map.1 g;exact tZ (d k c));rw[List.length_map]at this;simp only[List.length_append,sz,List.length_cons,List.length_nil];omega
 refine⟨f,?_⟩;have e:=textK_set b;obtain⟨o,i,h,m,n⟩:=read_set (b.map keyP) (fun a j=>by obtain⟨k,c,rfl⟩:=List.mem_map.1 j;exact key_plK (d k c)) (by rw[<-e];exact f);exact⟨_,by rw[e];exact h,setL_of m n⟩
set_option maxRecDepth 4000
open Tryz Go.RowKit Go.Deep
theorem kyinfoR:(prog.info? 53).map (fun i=>(i.zero,i.size,i.bytes))=some (some (.agg #[.int .i64 0,.string ⟨#[]⟩,.string ⟨#[]⟩]),3,40):=by kernel_rfl
theorem mem_at(v:Value)(L:oa)(f:nJ L)(o a:Nat)(n:Nd)(d:L[o]?=some n)(b:dj)(B:dv)(e:B=⟨b.toArray⟩)(g:fd L b n.kids=(a:Int))(W:Wd)(c:RR 83 v L W):Calls prog 34 #[v,.int .i64 (o:Int),.string B] W fun r h=>r=.returned (.int .i64 (a:Int))/\h=W:=by
 rw[e,<-g];exact EL v L W c f o n d b
theorem rread_set(a:rg)(l:a.length<=20)(b:∀k∈a,keyErr k.alg k.kid k.key=0)(w:Wd):Calls prog 31 #[.string ⟨(rB a).toArray⟩] w fun r c=>(∃v L,r=.returned (.tuple #[v,.int .i64 0,.int .i64 0])/\RR 83 v L c/\nJ L/\SetL (a.map keyP) L)/\Below w.heap.size w c:=by
 obtain⟨m,t,e,i⟩:=read_keys l b;obtain⟨d,_⟩:=ey e;refine(CF ⟨(rB a).toArray⟩ w (by show(rB a).toArray.size<=_;rw[List.size_toArray];omega)).mono ?_;rintro r c ⟨h,f⟩;refine⟨?_,f⟩;rw[show(⟨(rB a).toArray⟩:dv).data.toList=rB a from rfl,e]at h;obtain⟨v,rfl,j⟩:=h;exact⟨v,_,rfl,rr_nodes j (fun n g=>by obtain⟨k,b⟩:=List.getElem?_of_mem g;have:=d.few k n b;omega),d,i⟩
set_option maxRecDepth 8000 in
set_option maxHeartbeats 4000000 in
theorem rreadKeys(d:rg)(hl:d.length<=20)(t:∀k∈d,keyErr k.alg k.kid k.key=0)(hd:d.Pairwise fun a b=>a.kid≠b.kid)(w:Wd):Calls prog 15 #[.string ⟨(rB d).toArray⟩] w fun r H=>(∃v,r=.returned (.tuple #[v,.int .i64 0,.int .i64 0])/\H.ownsRow w.heap.size 53 3 v d.length (de d))/\Below w.heap.size w H:=by
 have aP:=fun w=>rread_set d hl t w
 generalize (⟨(rB d).toArray⟩:dv)=T at *;have HR:=ci aP;have HK:=ci t;have HD:=ci hd;have HL:=ci hl;clear aP t hd hl;go_enter func15,ntmps15;go_wp2_with fail
 refine(HR.out w).mono ?_;rintro r w1 ⟨⟨v,L,rfl,P,hW,S⟩,aV⟩;clear HR;have au:=S.len;rw[List.length_map]at au;have ap:0<L.length:=by omega
 have aU:L.length<=102:=by have:=HL.out;omega
 obtain⟨ad,aH,rfl⟩:=P.shape;have HP:=ci (rparents _ L w1 parS P hW ap (fun p n c hn V=>S.par p n c hn V));have HX:=ci P;have K:=ci hW;have Y:=ci S;have aQ:=ci aV;have al:=ci (And.intro au (And.intro ap aU));clear P hW S aV au ap aU;go_wp2_with fail
 refine HP.out.mono ?_;rintro r w2 ⟨rfl,⟨A,hA,aO⟩,ae⟩;have ai:=ci (HX.out.below ae);have an:=ci (aQ.out.trans (ae.mono aQ.out.size));have HA:=ci hA;have aG:=ci aO;have aD:Hid (w1.heap.size<w2.heap.size):=(Array.getElem?_eq_some_iff.1 hA).1;clear hA aO ae HP HX;go_wp2_with fail
 go_loopw [9] (fun C wr=>∃i:Nat,i<=L.length/\C=.int .i64 (i:Int)/\Hid (Below w2.heap.size w2 wr)) (fun C _=>L.length-(intOf C).toNat)
 case atStart=>exact⟨0,by omega,rfl,Below.refl _ _⟩
 case round=>
  obtain⟨i,hi,rfl,z⟩:=hrel;by_cases bq:i<L.length
  ·have k1:(i:Int)<(L.length:Int):=by omega
   have bC:(i:Int)<=102:=by have:=al.out;omega
   have V:=rset_all Y.out (by rw[List.length_map];exact HL.out) (fun a ha=>by obtain⟨k,t,rfl⟩:=List.mem_map.1 ha;exact(key_ok (HK.out k t)).1) _ w1.heap.size wr (ai.out.below z.out) A ((z.out.block _ aD.out).trans HA.out) aG.out i bq;have HC:=ci V;clear V;go_wp2_with (refine HC.out.mono ?_;rintro r l ⟨rfl,D⟩;have X:=ci D;clear D)
   exact⟨⟨i+1,by omega,by go_num,z.out.trans (X.out.mono z.out.size)⟩,by simp[intOf];omega⟩
  ·have k1:¬(i:Int)<(L.length:Int):=by omega
   have U:=ci (ai.out.below z.out);have R:=ci (an.out.trans (z.out.mono an.out.size));clear ai an z HA aG aD;obtain⟨f,aI⟩:∃f,f=wr:=⟨_,rfl⟩;rw[<-aI]at U R ⊢;clear aI wr;obtain⟨n0,aR,ah⟩:=Y.out.memK1;obtain⟨p,hp⟩:∃p:Nat,p=1:=⟨1,rfl⟩;rw[show(1:Int)=(p:Int)by omega]at ah;have aB:=ci (mem_at _ L K.out 0 p n0 aR keysN ⟨#[107,101,121,115]⟩ rfl ah f U.out);obtain⟨q1,am⟩:=Y.out.n1;rw[List.length_map,<-hp]at am;obtain⟨g,aZ,bz,rfl,_,bk,aN,c0,c1,c2,c3,c4,c5⟩:=U.out.node am;simp only[List.length_map,List.length_range]at c4;have bl:=ci c4;have bo:Hid (∀j:Nat,j<d.length->∃gk,aZ=some ⟨gk,0,none⟩/\f.cell? ⟨gk,j,none⟩=some (.int .i64 ((2+5*j:Nat):Int))):=fun j hj=>aN j (2+5*j) (by simp[hj])
   have p0:¬(p:Int)<0:=by omega
   have p1:(p:Int)<(L.length:Int):=by have:=al.out;omega
   clear aR ah am bk aN c0 c1 c2 c3 c4 c5 hp;go_wp2_with fail
   refine aB.out.mono ?_;rintro r l ⟨rfl,s⟩;rw[s];clear s l aB;go_wp2_with fail
   go_loopw [12,13] (fun ov C y=>∃(j:Nat) (m:rg),j<=d.length/\C=.int .i64 (j:Int)/\Hid (y.ownsRow f.heap.size 53 3 ov j (de m))/\Hid (m=d.take j)/\Hid (Below f.heap.size f y)) (fun _ C _=>d.length-(intOf C).toNat)
   case atStart=>exact⟨0,[],by omega,rfl,World.ownsRow_nil _ _ _ _,rfl,Below.refl _ _⟩
   case round=>
    obtain⟨j,m,hj,rfl,HO,M,G⟩:=hrel;have x4:=cl G.out bl.out;by_cases ak:j<d.length
    ·have k2:(j:Int)<(d.length:Int):=by omega
     have k3:(j:Int)<=20:=by have:=HL.out;omega
     obtain⟨k,t⟩:∃k,d[j]?=some k:=⟨_,List.getElem?_eq_getElem ak⟩;obtain⟨gk,rfl,ck⟩:=bo.out j ak;have xk:=cl G.out ck;clear ck;have B:=ci (U.out.below G.out);obtain⟨N,m1,m2,m3,F,e1,e2,e3,e4,b1,t1,b2,t2,b3,t3⟩:=Y.out.memK4 (j:=j) (a:=keyP k) (by rw[List.getElem?_map,t];rfl);obtain⟨o,ho⟩:∃o,o=2+5*j:=⟨_,rfl⟩;rw[<-ho]at F e1 e2 e3 e4 b1 b2 b3 xk;have ao:=ci (mem_at _ L K.out o (o+1) N F algN ⟨#[97,108,103]⟩ rfl e1 wr B.out);have aa:=ci (mem_at _ L K.out o (o+2) N F kN9 ⟨#[107]⟩ rfl e2 wr B.out);have af:=ci (mem_at _ L K.out o (o+3) N F kidN ⟨#[107,105,100]⟩ rfl e3 wr B.out);have Z:=ci (mem_at _ L K.out o (o+4) N F ktyN ⟨#[107,116,121]⟩ rfl e4 wr B.out);have Q:=(B.out.cs b1).2.2.1;have y2:=(B.out.cs b2).2.2.1;have O:=(B.out.cs b3).2.2.1;rw[t1,show(⟨(keyP k).1.toArray⟩:dv)=nameB k.alg from ba_toList _]at Q;rw[t2,show(⟨(keyP k).2.1.toArray⟩:dv)=⟨(enc (dB k.key) k.key.size).toArray⟩from rfl]at y2;rw[t3,show(⟨(keyP k).2.2.toArray⟩:dv)=k.kid from ba_toList _]at O;have l1:o+4<L.length:=by have:=al.out;omega
     clear e1 e2 e3 e4 F b1 b2 b3 t1 t2 t3;obtain⟨a1,aJ⟩:∃a,a=o+1:=⟨_,rfl⟩;obtain⟨a2,aK⟩:∃a,a=o+2:=⟨_,rfl⟩;obtain⟨a3,aL⟩:∃a,a=o+3:=⟨_,rfl⟩;obtain⟨a4,ay⟩:∃a,a=o+4:=⟨_,rfl⟩;rw[<-aJ]at Q ao;rw[<-aK]at y2 aa;rw[<-aL]at O af;rw[<-ay]at Z;have n1:¬(a1:Int)<0:=by omega
     have n2:¬(a2:Int)<0:=by omega
     have n3:¬(a3:Int)<0:=by omega
     have n4:¬(a4:Int)<0:=by omega
     have r0:(o:Int)<(L.length:Int):=by omega
     have r1:(a1:Int)<(L.length:Int):=by omega
     have r2:(a2:Int)<(L.length:Int):=by omega
     have r3:(a3:Int)<(L.length:Int):=by omega
     have ar:=HK.out k (List.mem_of_getElem? t);obtain⟨aE,bB,bA,bv⟩:=hI ar;have aF:=dec_enc k.key bv;generalize (⟨(enc (dB k.key) k.key.size).toArray⟩:dv)=E at *;have ax:=ci aF;have bh:=ci (fun W=>ralg k.alg W aE);have a7:=ci ar;have aM:=ci t;have bx:=ci ho;clear t aF aE ar ho aJ aK aL ay l1;go_wp2_with fail
     refine ao.out.mono ?_;rintro r l ⟨rfl,s⟩;rw[s];clear s l ao;clear x4 xk;go_wp2_with fail
     refine aa.out.mono ?_;rintro r l ⟨rfl,s⟩;rw[s];clear s l aa;go_wp2_with fail
     refine af.out.mono ?_;rintro r l ⟨rfl,s⟩;rw[s];clear s l af;go_wp2_with fail
     refine Z.out.mono ?_;rintro r l ⟨rfl,s⟩;rw[s];clear s l Z;go_wp2_with fail
     refine(ax.out _).mono ?_;rintro r l ⟨rfl,D⟩;have z1:=cl D Q;have z3:=cl D O;have X:=ci D;clear D Q y2 O ax n1 n2 n3 n4;have bE:=World.new_ne l _ z1;have bD:=World.new_ne l _ z3;go_upto_region 26 with fail
     go_cut [22] (fun xv y=>∃J,xv=.pointer (some ⟨J,0,none⟩)/\y.cell? ⟨J,0,none⟩=some (.int .i64 k.alg)/\y.cell? ⟨J,1,none⟩=some (.string k.kid)/\y.cell? ⟨J,2,none⟩=some (.string k.key)/\Below l.heap.size l y)
     case first=>
      go_region_held3 (fun H=>H.cell? ⟨g,a1*6+2,none⟩=some (.string (nameB k.alg))/\H.cell? ⟨g,a3*6+2,none⟩=some (.string k.kid)) (go_keep) (first|(go_at_call 36;refine(bh.out _).mono ?_;rintro r I ⟨rfl,x⟩;rw[x];clear x I))
      all_goals (
       go_wp2_with fail
       go_meet
       case rel=>
        refine⟨l.heap.size,rfl,by simp,by simp,by simp,?_⟩;have h:=cK (cF l) (.cells #[.int .i64 k.alg,.string k.kid,.string k.key] 53);exact⟨h.os,h.tape,h.output,h.size,h.block⟩)
     case rest=>
      obtain⟨J,rfl,x0,x1,x2,aq⟩:=hcut;have ac:m.length=j:=by
       have:=congrArg List.length M.out;simp only[List.length_take]at this;omega
      have ab:Below f.heap.size f l:=G.out.trans (X.out.mono G.out.size);have aY:Hid (Below f.heap.size f wc):=ab.trans (aq.mono ab.size);have aj:Hid (wc.ownsRow f.heap.size 53 3 u12 j (de m)):=l9 (l9 HO.out X.out) aq;have bi:Hid (KR wc u12 m):=KR.of (by rw[ac];exact aj.out);have aT:findK k.kid m 0= -1:=findK_not k.kid m 0 (fun q hq e=>by
       have aS:=HD.out;rw[<-List.take_append_drop j d,List.pairwise_append]at aS;have bc:k∈d.drop j:=by
        rw[List.drop_eq_getElem_cons ak,(List.getElem?_eq_some_iff.1 aM.out).2];simp
       exact aS.2.2 q (by rw[<-M.out];exact hq) k bc e)
      have aA:fx k.alg k.key=true:=(key_ok a7.out).2.1;obtain⟨i0,aw,bb,ba,bt⟩:=i7 kyinfoR;have bg:=ci aw;have aX:j+1<=maxLen:=by unfold maxLen;omega
      have av:(j+1)*40<=140737488355328:=by omega
      have bd:=ci aX;have bj:=ci av;have a5:=ci aT;have a9:=ci aA;have a6:=ci ac;have ag:Hid (f.heap.size<=wc.heap.size):=aY.out.size;clear ab aq aT aA ac aw aX av;go_wp2_with fail
      refine(Cz k.alg k.key _ (by omega)).mono ?_;rintro r I ⟨rfl,x⟩;rw[x,a9.out];clear x I;go_wp2_with fail
      refine(C6 u12 m k.kid _ bi.out (by have:=a6.out;omega)).mono ?_;rintro r I ⟨rfl,x⟩;rw[x,a5.out];clear x I;go_upto_region 32 with fail
      have bw:Hid (∀j u,(kw ⟨k.alg,k.kid,k.key⟩)[j]?=some u->(wc.alloc (.cells #[.int .i64 k.alg,.string k.kid,.string k.key] 53)).cell? ((⟨wc.heap.size,0,none⟩:Addr).add j)=some u):=mL wc _ _ _ _;have a8:Hid (∀o,(wc.alloc o).ownsRow f.heap.size 53 3 u12 j (de m)):=fun o=>aj.out.alloc o
      have bm:Hid (∀o,f.heap.size<=(wc.alloc o).heap.size):=fun o=>by have:=ag.out;simp;omega
      have bf:Hid (∀o,(wc.alloc o).heap.size=wc.heap.size+1):=fun o=>by simp
      have bs:Hid (∀u∈kw ⟨k.alg,k.kid,k.key⟩,u.oneCell'=true):=fun u hu=>by simp[kw]at hu;rcases hu with rfl|rfl|rfl<;>rfl
      have aC:=ci True.intro;go_wp2_with (have a0:=aC;refine wpList_append_lies _ rfl (.tmp 152) (.tmp 154) 47 rfl f.heap.size 53 i0 _ 3 40 underlying47 bg.out bb ba bt rfl (by decide) u12 j (de m) rfl (by exact a8.out _) ⟨wc.heap.size,0,none⟩ 1 1 (kw ⟨k.alg,k.kid,k.key⟩) rfl rfl (by exact bw.out) (by exact bs.out) (by decide) bd.out bj.out (by exact bm.out _) (wc.heap.size+1) (by exact bf.out _) ?_;intro g6 be w6 aW az bp _;have bu:Hid (w6.ownsRow f.heap.size 53 3 (.slice (some ⟨g6,0,none⟩) (j+1) be) (j+1) (de m++kw ⟨k.alg,k.kid,k.key⟩)):=aW;have bn:Hid (Below f.heap.size wc w6):=((Below.refl f.heap.size wc).alloc ag.out _).grown az (by have:=ag.out;simp;omega) (fun q hq=>(aj.out.lt q hq).1);clear aW az bp a0 aC)
      refine⟨⟨j+1,m++[⟨k.alg,k.kid,k.key⟩],by omega,by go_num,?_,?_,aY.out.trans bn.out⟩,by simp[intOf];omega⟩
      ·show w6.ownsRow f.heap.size 53 3 _ (j+1) (de (m++[⟨k.alg,k.kid,k.key⟩]))
       rw[py];exact bu.out
      ·show m++[(⟨k.alg,k.kid,k.key⟩:Ky)]=d.take (j+1)
       rw[M.out,List.take_add_one,aM.out];rfl
    ·have k2:¬(j:Int)<(d.length:Int):=by omega
     obtain rfl:j=d.length:=by omega
     go_wp2;go_ret3
     obtain rfl:m=d:=by rw[M.out,List.take_length]
     refine⟨⟨_,rfl,?_⟩,R.out.trans (G.out.mono R.out.size)⟩;refine⟨HO.out.1,?_⟩;rcases HO.out.2 with h|⟨g,aH,br,a,b,c⟩
     ·exact .inl h
     ·exact .inr ⟨g,aH,br,a,Nat.le_trans R.out.size b,c⟩
end Go.Proofs.YtihboehpeehlmaaGreatDoor.Dg
