import Derived.Test.YtihboehpeehlmaaGreatDoorK4
import Derived.Test.YtihboehpeehlmaaGreatDoorShelfG
import Derived.Lib.OwnBridge
set_option maxHeartbeats 4000000
set_option maxRecDepth 100000
set_option linter.unusedVariables false
namespace Go.Proofs.YtihboehpeehlmaaGreatDoor
open Tryz Go.RowKit
def uV(n:Nat):Value:=.int .u16 (n:Int)
theorem xH(x:Nat)(w:Wd):Calls prog 238 #[.int .u16 (x:Int)] w fun e a=>e=.returned (.bool false)/\a=w:=by
 go_enter func238,ntmps238;go_wp2;go_ret;exact⟨rfl,rfl⟩
def oc(x y:Nat):Int:=if x<y then -1 else if y<x then 1 else 0
theorem zX(x y:Nat)(w:Wd):Calls prog 216 #[.int .u16 (x:Int),.int .u16 (y:Int)] w fun e a=>e=.returned (.int .i64 (oc x y))/\a=w:=by
 unfold oc;by_cases b:x<y
 ·have d:(x:Int)<(y:Int):=by omega
  rw[if_pos b];go_enter func216,ntmps216;go_wp2_with (go_at_call 238;refine(xH _ _).mono ?_;rintro e a ⟨rfl,rfl⟩)
  go_ret;exact⟨rfl,rfl⟩
 ·have d:¬(x:Int)<(y:Int):=by omega
  rw[if_neg b];by_cases c:y<x
  ·have f:(y:Int)<(x:Int):=by omega
   rw[if_pos c];go_enter func216,ntmps216;go_wp2_with (go_at_call 238;refine(xH _ _).mono ?_;rintro e a ⟨rfl,rfl⟩)
   go_ret;exact⟨rfl,rfl⟩
  ·have f:¬(y:Int)<(x:Int):=by omega
   rw[if_neg c];go_enter func216,ntmps216;go_wp2_with (go_at_call 238;refine(xH _ _).mono ?_;rintro e a ⟨rfl,rfl⟩)
   go_ret;exact⟨rfl,rfl⟩
structure UR (v:Value) (xs:hH) (w:Wd):Prop where
 shape:∃ad cap,v=.slice ad xs.length cap
 at':∀(j x:Nat),xs[j]?=some x->∃g cap,v=.slice (some ⟨g,0,none⟩) xs.length cap/\w.cell? ⟨g,j,none⟩=some (.int .u16 (x:Int))
def j3:hH->hH->Int
 | x::xs,y::ys=>if x=y then j3 xs ys else oc x y
 | [],_::_=> -1
 | _::_,[]=>1
 | [],[]=>0
theorem lP:∀a b:hH,decide (j3 a b<0)=c7 a b
 | [],[]=>rfl
 | [],_::_=>rfl
 | _::_,[]=>rfl
 | x::xs,y::ys=>by
   rw[j3,c7];split
   ·exact lP xs ys
   ·unfold oc
    by_cases h:x<y
    ·rw[if_pos h];simp[h]
    ·rw[if_neg h,if_pos (by omega)];simp[h]
theorem oJ{xs:hH}{j x:Nat}(h:xs[j]?=some x):xs.drop j=x::xs.drop (j+1):=by
 obtain⟨a,b⟩:=JG.1 h;rw[Kc a,b]
theorem BZ(o v2:Value)(xs a:hH)(w:Wd)(l:UR o xs w)(n:UR v2 a w)(M:xs.length<=1000000)(P:a.length<=1000000):Calls prog 199 #[o,v2] w fun e h=>e=.returned (.int .i64 (j3 xs a))/\h=w:=by
 obtain⟨E,Q,rfl⟩:=l.shape;obtain⟨z,L,rfl⟩:=n.shape;have r:Hid _:=l;have F:Hid _:=n;go_enter func199,ntmps199;go_wp2;go_loopw [11] (fun i wr=>∃(j:Nat),j<=xs.length/\j<=a.length/\i=.int .i64 (j:Int)/\wr=w/\j3 (xs.drop j) (a.drop j)=j3 xs a) (fun i _=>xs.length-(intOf i).toNat)
 case atStart=>exact⟨0,KI _,KI _,rfl,rfl,rfl⟩
 case round=>
  obtain⟨j,N,O,rfl,rfl,b⟩:=hrel;by_cases C:j<xs.length
  ·obtain⟨x,g⟩:∃x,xs[j]?=some x:=⟨_,JF C⟩
   obtain⟨v,J,p,G⟩:=r.out.at' j x g;obtain rfl:E=some ⟨v,0,none⟩:=by injection p
   have s:(j:Int)<(xs.length:Int):=by omega
   by_cases t:j<a.length
   ·obtain⟨y,d⟩:∃y,a[j]?=some y:=⟨_,JF t⟩
    obtain⟨u,K,A,H⟩:=F.out.at' j y d;obtain rfl:z=some ⟨u,0,none⟩:=by injection A
    have f:(j:Int)<(a.length:Int):=by omega
    have I:¬(a.length:Int)<=(j:Int):=by omega
    rw[oJ g,oJ d,j3]at b;by_cases k:x=y
    ·subst k
     rw[if_pos rfl]at b;have c:Hid _:=b;have m:oc x x=0:=by unfold oc;simp
     go_wp2_with (go_at_call 216;refine(zX _ _ _).mono ?_;rintro e h ⟨rfl,rfl⟩;rw[m])
     go_roundw
     case rel=>exact⟨j+1,by omega,by omega,by go_num,(by first|rfl|trivial),c.out⟩
     case measure=>simp[intOf];omega
    ·rw[if_neg k]at b
     have m:oc x y≠0:=by unfold oc;split<;>(try split)<;>omega
     have c:Hid _:=b;generalize D:oc x y=q at *;go_wp2_with (go_at_call 216;refine(zX _ _ _).mono ?_;rintro e h ⟨rfl,rfl⟩;rw[D])
     go_ret;exact⟨by rw[<-c.out];rfl,rfl⟩
   ·have f:(a.length:Int)<=(j:Int):=by omega
    rw[oJ g,show a.drop j=[]from J8 (by omega),j3]at b;have c:Hid _:=b;go_wp2;go_ret;exact⟨by rw[<-c.out];rfl,rfl⟩
  ·obtain rfl:j=xs.length:=by omega
   have s:¬(xs.length:Int)<(xs.length:Int):=by omega
   rw[J8 (JQ _)]at b;by_cases B:xs.length<a.length
   ·have f:(xs.length:Int)<(a.length:Int):=by omega
    obtain⟨y,d⟩:∃y,a[xs.length]?=some y:=⟨_,JF B⟩;rw[oJ d,j3]at b;have c:Hid _:=b;go_wp2;go_ret;exact⟨by rw[<-c.out];rfl,rfl⟩
   ·have f:¬(xs.length:Int)<(a.length:Int):=by omega
    rw[show a.drop xs.length=[]from J8 (by omega),j3]at b;have c:Hid _:=b;go_wp2;go_ret;exact⟨by rw[<-c.out];rfl,rfl⟩
theorem seq_cases(a:dj)(t:a≠[])(h:seqLen a=a.length):(∃c,a=[c]/\c.toNat<128)\/(∃c d,a=[c,d]/\194<=c.toNat/\c.toNat<224/\128<=d.toNat/\d.toNat<=191)\/(∃c d e,a=[c,d,e]/\224<=c.toNat/\c.toNat<240/\128<=d.toNat/\d.toNat<=191/\(c.toNat=224->160<=d.toNat)/\(c.toNat=237->d.toNat<=159)/\128<=e.toNat/\e.toNat<=191)\/(∃c d e f,a=[c,d,e,f]/\240<=c.toNat/\c.toNat<=244/\128<=d.toNat/\d.toNat<=191/\(c.toNat=240->144<=d.toNat)/\(c.toNat=244->d.toNat<=143)/\128<=e.toNat/\e.toNat<=191/\128<=f.toNat/\f.toNat<=191):=by
 match a,t with
 | c::a',_=>
   unfold seqLen at h;simp only at h;by_cases m:c.toNat<128
   ·rw[if_pos m]at h
    simp at h;subst h;exact .inl ⟨c,rfl,m⟩
   ·rw[if_neg m]at h
    by_cases p:c.toNat<194\/244<c.toNat
    ·rw[if_pos p]at h;simp at h
    ·rw[if_neg p]at h
     split at h
     ·rename_i q
      simp only[Kz,Md,Kx]at q;obtain⟨⟨b,g⟩,i⟩:=q;by_cases k:c.toNat<224
      ·have e:dV c.toNat=2:=by unfold dV;rw[if_pos k]
       have s:ee c.toNat=128:=by unfold ee;rw[if_neg (by omega),if_neg (by omega)]
       have r:eu c.toNat=191:=by unfold eu;rw[if_neg (by omega),if_neg (by omega)]
       rw[e]at h;rw[s,r]at b;match a',h with
       | [d],_=>
         rw[fg d rfl]at b;simp only[Kz,Kx]at b;exact .inr (.inl ⟨c,d,rfl,by omega,k,b.1,b.2⟩)
      ·by_cases n:c.toNat<240
       ·have e:dV c.toNat=3:=by unfold dV;rw[if_neg k,if_pos n]
        rw[e]at h g;match a',h with
        | [d,e2],_=>
          rw[fg d rfl]at b;rw[fg e2 rfl]at g;simp only[Kz,Kx]at b g;have j:=g.resolve_left (by omega);refine .inr (.inr (.inl ⟨c,d,e2,rfl,by omega,n,?_⟩));unfold ee eu at b;obtain⟨l,o⟩:=b;repeat' split at l
          all_goals repeat' split at o
          all_goals refine⟨?_,?_,?_,?_,j⟩
          all_goals omega
       ·have e:dV c.toNat=4:=by unfold dV;rw[if_neg k,if_neg n]
        rw[e]at h g i;match a',h with
        | [d,e2,f2],_=>
          rw[fg d rfl]at b;rw[fg e2 rfl]at g;rw[fg f2 rfl]at i;simp only[Kz,Kx]at b g i;have j:=g.resolve_left (by omega);have u:=i.resolve_left (by omega);refine .inr (.inr (.inr ⟨c,d,e2,f2,rfl,by omega,by omega,?_⟩));unfold ee eu at b;obtain⟨l,o⟩:=b;repeat' split at l
          all_goals repeat' split at o
          all_goals refine⟨?_,?_,?_,?_,j.1,j.2,u⟩
          all_goals omega
     ·simp at h
theorem Cy(s:dv)(i k:Nat)(c:UInt8)(h:(b9 s i)[k]?=some c):s.get! (i+k)=c/\i+k<s.size:=by
 by_cases a:i+k<s.size
 ·rw[nU s i k a]at h
  injection h with h;refine⟨?_,a⟩;rw[<-h];have:=Go.get_at s (i+k) a;simpa using this
 ·rw[kt s i k (by omega)]at h;cases h
theorem F8(c d:UInt8)(h:seqLen [c,d]=2):cN [c,d]=64*(c.toNat%32)+d.toNat%64:=by
 have a:=(gh [c,d] [] (by simp) h).2;unfold cN;rw[a];simp only[JM,JY,runeTo,J3,Nat.reduceAdd,Nat.reduceSub,LX,LY,Nat.reducePow,Nat.reduceLeDiff,L1]
theorem FJ(c d e:UInt8)(h:seqLen [c,d,e]=3):cN [c,d,e]=64*(64*(c.toNat%16)+d.toNat%64)+e.toNat%64:=by
 have a:=(gh [c,d,e] [] (by simp) h).2;unfold cN;rw[a];simp only[JM,JY,runeTo,J3,Nat.reduceAdd,Nat.reduceSub,LX,LY,Nat.reducePow,Nat.reduceLeDiff,L1]
theorem FQ(c d e f:UInt8)(h:seqLen [c,d,e,f]=4):cN [c,d,e,f]=64*(64*(64*(c.toNat%8)+d.toNat%64)+e.toNat%64)+f.toNat%64:=by
 have a:=(gh [c,d,e,f] [] (by simp) h).2;unfold cN;rw[a];simp only[JM,JY,runeTo,J3,Nat.reduceAdd,Nat.reduceSub,LX,LY,Nat.reducePow,Nat.reduceLeDiff,L1]
theorem FL(c:UInt8)(h:seqLen [c]=1):cN [c]=c.toNat:=by
 have a:=(gh [c] [] (by simp) h).2;unfold cN;rw[a];simp[runeTo]
theorem rG(s:dv)(i:Nat)(a r:dj)(o:b9 s i=a++r)(t:a≠[])(h:seqLen a=a.length):Utf8.decode s i=(cN a,a.length)/\i+a.length<=s.size:=by
 have g:=fun k c m=>Cy s i k c (by rw[o,J4 (JG.1 m).1];exact m)
 rw[Lib.decode_at];rcases seq_cases a t h with⟨c,rfl,p⟩|⟨c,d,rfl,p⟩|⟨c,d,e,rfl,p⟩|⟨c,d,e,f,rfl,p⟩
 ·have b:=g 0 c rfl
  rw[Ku]at b;rw[b.1,FL c h];refine⟨?_,by simp;omega⟩;unfold Lib.decodeN;repeat' split
  all_goals first|rfl|(exfalso;omega)
 ·have b:=g 0 c rfl
  have j:=g 1 d rfl;rw[Ku]at b;rw[b.1,j.1,F8 c d h];refine⟨?_,by simp;omega⟩;have n:1<s.size-i:=by omega
  unfold Lib.decodeN;repeat' split
  all_goals first|(exfalso;omega)|(refine Prod.ext ?_ ?_<;>simp only[JM,JY]<;>omega)
 ·have b:=g 0 c rfl
  have j:=g 1 d rfl;have l:=g 2 e rfl;rw[Ku]at b;rw[b.1,j.1,l.1,FJ c d e h];refine⟨?_,by simp;omega⟩;have n:2<s.size-i:=by omega
  unfold Lib.decodeN;repeat' split
  all_goals first|(exfalso;omega)|(refine Prod.ext ?_ ?_<;>simp only[JM,JY]<;>omega)
 ·have b:=g 0 c rfl
  have j:=g 1 d rfl;have l:=g 2 e rfl;have q:=g 3 f rfl;rw[Ku]at b;rw[b.1,j.1,l.1,q.1,FQ c d e f h];refine⟨?_,by simp;omega⟩
  unfold Lib.decodeN;repeat' split
  all_goals first|(exfalso;omega)|(refine Prod.ext ?_ ?_<;>simp only[JM,JY]<;>omega)
theorem sx(w:Wd)(a:rt)(e:TypeId):∀(j:Nat) (u:Value),a[j]?=some u->(w.alloc (.cells a.toArray e)).cell? ((⟨w.heap.size,0,none⟩:Addr).add j)=some u:=by
 intro j u h;have b:(⟨w.heap.size,0,none⟩:Addr).add j=⟨w.heap.size,j,none⟩:=by unfold Addr.add;split<;>simp_all
 rw[b,JE _ _ j _ _ _ (JK w _)];simpa using h
theorem qL{P:Program}{k:Array Oper}{l:List Oper}{o:Oper}{a:Act}{Q:Exit->Act->Wd->Prop}(F:o.guard=none)(s x:Operand)(t:TypeId)(K:o.op=.call {callee:=.builtin .append,args:= #[s,x],argTypes:= #[t,t]})
 (e:TypeId) (i:TypeInfo) (z:Value) (j:Nat) (M:P.underlying t=some (.slice e)) (r:P.info? e=some i) (w:i.zero=some z) (D:i.size=1) (E:i.bytes=j) (J:z.cells.size=1) (m:j<=8)
 (B:Nat) (v:Value) (n:Nat) (xs b:rt) (c:Wd) (q:a.eval s=v) (A:c.ownsRow B e 1 v n xs) (N:B<=c.heap.size) (R:n<=1000000000) (L:0<b.length) (O:b.length<=1000) (y:∀u∈b,u.oneCell'=true)
 (p:a.eval x=.slice (some ⟨c.heap.size,0,none⟩) b.length b.length)
 (h:∀g f d,d.ownsRow B e 1 (.slice (some ⟨g,0,none⟩) (n+b.length) f) (n+b.length) (xs++b)->(c.alloc (.cells b.toArray e)).grownBy d v.ownBlock->(v.ownBlock=some g\/g=c.heap.size+1)->wpList P k Q l (a.put o.dst (.slice (some ⟨g,0,none⟩) (n+b.length) f)) d):
 wpList P k Q (o::l) a (c.alloc (.cells b.toArray e)):=by
 have C:(n+b.length)*j<=140737488355328:=by
  have:=Nat.mul_le_mul (show n+b.length<=1000001000 by omega) m;omega
 refine L8 _ F s x t K B e i z 1 j M r w D E J (by decide) v n xs q (A.alloc _) ⟨c.heap.size,0,none⟩ b.length b.length b p (by simp) (sx c b e) y L (by unfold maxLen;omega) C (by simp;omega) (c.heap.size+1) (by simp) ?_;intro g f d H G I _;exact h g f d H G I
theorem DX:(prog.info? 243).map (fun i=>(i.zero,i.size,i.bytes))=some (some (.int .u16 0),1,2):=by kernel_rfl
structure UI (s:dv) (w:Wd) (pos:Nat) (us:hH) (v:Value) (wr:Wd):Prop where
 le:pos<=s.size
 it:wr.heap[w.heap.size]?=some (.stringIter s pos)
 u8:U8 (b9 s pos)
 eq:unitsL s.data.toList=us++unitsL (b9 s pos)
 len:us.length<=2*pos
 row:wr.ownsRow (w.heap.size+1) 243 1 v us.length (us.map uV)
 bel:Below w.heap.size w wr
theorem UI.shape{s:dv}{w:Wd}{pos:Nat}{us:hH}{v:Value}{wr:Wd}(h:UI s w pos us v wr):∃d e,v=.slice d us.length e:=by
 rcases h.row.2 with⟨a,b⟩|⟨g,c,f,a,_⟩
 ·exact⟨none,0,by rw[a,b]⟩
 ·exact⟨_,_,a⟩
theorem UI.next{s:dv}{w:Wd}{pos:Nat}{us:hH}{v:Value}{wr w9:Wd}{a r:dj}(h:UI s w pos us v wr)(b:b9 s pos=a++r)(c:a≠[])(d:seqLen a=a.length)(m:U8 r){g cap:Nat}(t:w9.ownsRow (w.heap.size+1) 243 1 (.slice (some ⟨g,0,none⟩) (us.length+(dx (cN a)).length) cap) (us.length+(dx (cN a)).length) (us.map uV++(dx (cN a)).map uV))(o:Obj)(i:((wr.iterAt w.heap.size s (pos+a.length)).alloc o).grownBy w9 v.ownBlock):UI s w (pos+a.length) (us++dx (cN a)) (.slice (some ⟨g,0,none⟩) (us.length+(dx (cN a)).length) cap) w9:=by
 have n:=Lib.iterAt_heap wr w.heap.size s pos (pos+a.length) h.it;have x:=(go.1 h.it).1;have p:some w.heap.size≠v.ownBlock:=fun e=>by have:=(cc h.row e.symm).1;omega
 have l:=(rG s pos a r b c d).2;have z:=LL.2 c;have y:(wr.iterAt w.heap.size s (pos+a.length)).heap.size=wr.heap.size:=Lib.iterAt_size _ _ _ _;have f:b9 s (pos+a.length)=r:=by rw[<-cw,b,KS rfl]
 refine⟨l,?_,by rw[f];exact m,?_,?_,?_,?_⟩
 ·rw[i.block _ (by simp;omega) p,JO _ _ (by omega)];exact n
 ·rw[h.eq,b,jd a r c d,f];simp
 ·have:=ng (cN a);rw[JH];have:=h.len;omega
 ·rw[JH,Kj];exact t
 ·have u:=Lib.below_iterAt h.bel (k:=w.heap.size) (JQ _) s (pos+a.length)
  have j:=u.alloc (by omega) o;exact j.grown i (by simp;omega) (fun k q=>by have:=(cc h.row q).1;omega)
theorem Dv(n:Nat)(h:n<2097152):bits .and .i32 (n:Int) 1023=((n%1024:Nat):Int):=by
 have b:(BitVec.ofInt 32 (n:Int)).toNat=n:=by
  rw[Nk,Kw];exact KW (by omega)
 have c:(BitVec.ofInt 32 (1023:Int)).toNat=1023:=by decide
 show IntKind.i32.wrap ((BitVec.ofInt 32 (n:Int)&&&BitVec.ofInt 32 (1023:Int)).toNat:Int)=_
 have a:=MC n 10;rw[BitVec.toNat_and,b,c,a];simp[IntKind.wrap,IntKind.bits,IntKind.signed];omega
theorem Fw(s:dv)(w:Wd)(S:U8 s.data.toList)(hs:s.size<=65536):Calls prog 196 #[.string s] w fun e L=>∃v,e=.returned v/\L.ownsRow (w.heap.size+1) 243 1 v (unitsL s.data.toList).length ((unitsL s.data.toList).map uV)/\Below w.heap.size w L:=by
 obtain⟨A,E,J,U,T⟩:=Kf DX;have K:Hid _:=E;have HU:Hid _:=S;clear E S;go_enter func196,ntmps196;go_wp2;go_loopw [3] (fun X wr=>∃(pos:Nat) (b:hH),UI s w pos b X wr) (fun _ wr=>s.size-wr.iterPos w.heap.size)
 case atStart=>
  refine⟨0,[],by omega,?_,?_,?_,by simp,⟨rfl,.inl ⟨rfl,rfl⟩⟩,(JI _ w).alloc (JQ _) _⟩
  ·exact World.iter_heap w s 0
  ·exact HU.out
  ·rfl
 case round=>
  obtain⟨pos,b,c⟩:=hrel;obtain⟨G,Q,rfl⟩:=c.shape;have H:Hid _:=c;have k:=c.it;have ac:b.length<=131072:=by have:=c.len;have:=c.le;omega
  by_cases I:pos<s.size
  ·obtain⟨a,r,u,j,t,O⟩:∃a r,b9 s pos=a++r/\a≠[]/\seqLen a=a.length/\U8 r:=by
    have N:=c.u8;generalize hq:b9 s pos=q at N;cases N with
    | nil=>have:=KV List.length hq;rw[cx]at this;simp at this;omega
    | cons a r j h h2=>exact⟨a,r,rfl,j,h,h2⟩
   have M:=(rG s pos a r u j t).1;have F:=oP a j t;have ae:=LL.2 j;have p:Hid (∀{w9:Wd} {g cap9:Nat},w9.ownsRow (w.heap.size+1) 243 1 (.slice (some ⟨g,0,none⟩) (b.length+(dx (cN a)).length) cap9) (b.length+(dx (cN a)).length) (b.map uV++(dx (cN a)).map uV)->∀(o:Obj),((wr.iterAt w.heap.size s (pos+a.length)).alloc o).grownBy w9 (Value.slice G b.length Q).ownBlock->UI s w (pos+a.length) (b++dx (cN a)) (.slice (some ⟨g,0,none⟩) (b.length+(dx (cN a)).length) cap9) w9):=fun i o f=>c.next u j t O i o f
   have Y:=fun n=>by
    have:=Lib.run_next_any_at (P:=prog) wr w.heap.size s pos n k I;rw[M]at this;exact this
   have C:Hid ((wr.iterAt w.heap.size s (pos+a.length)).ownsRow (w.heap.size+1) 243 1 (.slice G b.length Q) b.length (b.map uV)):=fw c.row (fun g f=>Lib.iterAt_other _ _ _ _ _ (by have:=(cc c.row f).1;omega));have z:Hid ((wr.iterAt w.heap.size s (pos+a.length)).heap.size=wr.heap.size):=Lib.iterAt_size _ _ _ _;have af:=(go.1 k).1;have D:Hid _:=k;generalize hR:cN a=R at *;generalize aa:a.length=B at *;clear c u M j t O hR k;have ag:=F.2.2;clear F;by_cases W:R<65536
   ·have i1:(R:Int)<65536:=by omega
    have l:Hid (dx R=[R]):=by show _=_;unfold dx;rw[if_pos W]
    go_wp2_with (refine qL rfl (.tmp 13) (.tmp 16) 237 rfl 243 A _ 2 underlying237 K.out J U T rfl (by decide) (w.heap.size+1) _ b.length (b.map uV) [.int .u16 (R:Int)] (wr.iterAt w.heap.size s (pos+B)) rfl C.out (by have:=z.out;omega) (by omega) (LE _) (by simp) (by simp[Value.oneCell']) rfl ?_;intro m cap9 w9 i f x;have Z:Hid _:=And.intro i f;clear i f x)
    go_wp2_with fail
    go_roundw
    case rel=>
     have d:=p.out (w9:=w9) (g:=m) (cap9:=cap9) (by rw[l.out];exact Z.out.1) _ Z.out.2;rw[l.out]at d;exact⟨_,_,d⟩
    case measure=>
     have d:=p.out (w9:=w9) (g:=m) (cap9:=cap9) (by rw[l.out];exact Z.out.1) _ Z.out.2;simp only[World.iterPos,d.it,D.out];omega
   ·have i1:¬(R:Int)<65536:=by omega
    have l:Hid (dx R=[55296+(R-65536)/1024,56320+(R-65536)%1024]):=by show _=_;unfold dx;rw[if_neg W]
    have y:Hid ((dx R).length=2):=by show _=_;rw[l.out];rfl
    have hb:bits BinOp.and IntKind.i32 ((R:Int)-65536) 1023=((R:Int)-65536)%1024:=by
     have:=Dv (R-65536) (by omega);rw[show((R-65536:Nat):Int)=(R:Int)-65536 by omega]at this;rw[this];omega
    have V:Hid ([Value.int .u16 (55296+((R:Int)-65536)/1024),Value.int .u16 (56320+((R:Int)-65536)%1024)]=(dx R).map uV):=by
     show _=_
     rw[l.out];simp only[JW,Ko,uV];congr 2
     ·omega
     ·congr 2;omega
    go_wp2_with (refine qL rfl (.tmp 20) (.tmp 29) 237 rfl 243 A _ 2 underlying237 K.out J U T rfl (by decide) (w.heap.size+1) _ b.length (b.map uV) [Value.int .u16 (55296+((R:Int)-65536)/1024),Value.int .u16 (56320+((R:Int)-65536)%1024)] (wr.iterAt w.heap.size s (pos+B)) rfl C.out (by have:=z.out;omega) (by omega) (LE _) (by simp) (by simp[Value.oneCell']) rfl ?_;intro m cap9 w9 i f x;have Z:Hid _:=And.intro i f;clear i f x)
    go_wp2_with fail
    go_roundw
    case rel=>
     have d:=p.out (w9:=w9) (g:=m) (cap9:=cap9) (by rw[<-V.out,y.out];exact Z.out.1) _ Z.out.2;rw[y.out]at d;exact⟨_,_,d⟩
    case measure=>
     have d:=p.out (w9:=w9) (g:=m) (cap9:=cap9) (by rw[<-V.out,y.out];exact Z.out.1) _ Z.out.2;simp only[World.iterPos,d.it,D.out];omega
  ·have Y:∀n,(Instr.next (.pointer (some ⟨w.heap.size,0,none⟩)) true n).run prog wr=_:=fun n=>Lib.run_next_end_at wr w.heap.size s pos n k I
   have HE:Hid (unitsL s.data.toList=b):=by
    show _=_
    rw[c.eq,cU s pos (by omega),jc,KB]
   clear c k;go_wp2;go_ret;exact⟨_,rfl,by rw[HE.out];exact H.out.row,H.out.bel⟩
open Go.Sort
theorem Ej(b v2:Value)(k i:Nat)(xs a:hH)(w:Wd)(j:UR b xs w)(m:UR v2 a w)(h:xs.length<=1000000)(n:a.length<=1000000)(l:∀c,UR b xs (grow w c)/\UR v2 a (grow w c)):Calls prog 198 #[.agg #[b,.int .i64 (k:Int)],.agg #[v2,.int .i64 (i:Int)]] w fun e f=>e=.returned (.int .i64 (j3 xs a))/\∃q g,f=grow (w.drewN q) g:=by
 obtain⟨r,s,rfl⟩:=j.shape;obtain⟨p,o,rfl⟩:=m.shape;have d:Hid _:=l;go_enter func198,ntmps198;go_wp2_with fail
 refine(BZ _ _ xs a _ ?_ ?_ h n).mono ?_
 ·rw[alloc_eq_grow,alloc_eq_grow,grow_grow];exact(d.out _).1
 ·rw[alloc_eq_grow,alloc_eq_grow,grow_grow];exact(d.out _).2
 rintro e f ⟨rfl,rfl⟩;go_wp2;go_ret;exact⟨rfl,0,_,by rw[alloc_eq_grow,alloc_eq_grow,grow_grow];rfl⟩
def kJ:hH->rt->rt
 | k::ks,u::us=>u::iV k::kJ ks us
 | _,_=>[]
theorem uX:∀(c:hH) (d:rt) (i k:Nat) (u:Value),c[i]?=some k->d[i]?=some u->(kJ c d)[i*2]?=some u/\(kJ c d)[i*2+1]?=some (iV k)
 | [],_,i,k,u,h,_=>by simp at h
 | _::_,[],i,k,u,_,h=>by simp at h
 | a::c,b::d,0,k,u,h,h'=>by
   simp at h h';subst h;subst h';exact⟨rfl,rfl⟩
 | a::c,b::d,i+1,k,u,h,h'=>by
   have:=uX c d i k u (by simpa using h) (by simpa using h');have e:(i+1)*2=i*2+1+1:=by omega
   rw[e];simp only[kJ,Kh];exact this
theorem qG:∀(c:hH) (d:rt) (k:Nat) (u:Value),d.length=c.length->kJ (c++[k]) (d++[u])=kJ c d++[u,iV k]
 | [],[],k,u,_=>rfl
 | a::c,b::d,k,u,h=>by
   simp only[JS,kJ];rw[qG c d k u (by simpa using h)]
theorem UR.of{w:Wd}{B:Nat}{v:Value}{xs:hH}(h:w.ownsRow B 243 1 v xs.length (xs.map uV)):UR v xs w:=by
 refine⟨?_,fun j x d=>?_⟩
 ·rcases h.2 with⟨a,b⟩|⟨g,c,e,a,_⟩
  ·exact⟨none,0,by rw[a,b]⟩
  ·exact⟨_,_,a⟩
 ·rcases h.2 with⟨a,b⟩|⟨g,c,e,a,_⟩
  ·have:=(JG.1 d).1;omega
  ·refine⟨g,c,a,?_⟩
   have:=h.cells (g:=g) (by rw[a];rfl) j (uV x) (by rw[KM,d];rfl);have f:(⟨g,0,none⟩:Addr).add j=⟨g,j,none⟩:=by unfold Addr.add;split<;>simp_all
   rwa [f]at this
theorem UR.kept{v:Value}{xs:hH}{w w':Wd}(h:UR v xs w)(b:∀g,v.ownBlock=some g->∀j,w'.cell? ⟨g,j,none⟩=w.cell? ⟨g,j,none⟩):UR v xs w':=by
 refine⟨h.shape,fun j x a=>?_⟩;obtain⟨g,c,e,d⟩:=h.at' j x a;exact⟨g,c,e,by rw[b g (by rw[e];rfl)];exact d⟩
theorem vu{α:Type}(a:Array α)(n:Nat)(h:a.size=n):a.extract 0 n=a:=by subst h;simp
theorem v8(n:Nat)(f:Fin n->hH):SWO (ltOf fun x y:Fin n=>j3 (f x) (f y)):=by
 have e:∀x y,ltOf (fun x y:Fin n=>j3 (f x) (f y)) x y=c7 (f x) (f y):=fun x y=>lP _ _
 refine⟨fun x=>?_,fun x y z c a=>?_,fun x y z c a=>?_⟩
 ·rw[e];exact px _
 ·rw[e]at *;exact gO _ _ _ c a
 ·rw[e]at *
  by_cases b:c7 (f x) (f z)=true
  ·exfalso
   by_cases d:f x=f y
   ·rw[d]at b;rw[b]at a;cases a
   ·have:=j4 _ _ d c
    have:=gO _ _ _ this b;rw[this]at a;cases a
  ·simpa using b
theorem Hu(L:oa)(l:hH)(us:rt)(B g cap:Nat)(w:Wd)(hl:us.length=l.length)(h0:0<l.length)(hn:l.length<=1000000)(row:w.ownsRow B 240 2 (.slice (some ⟨g,0,none⟩) l.length cap) l.length (kJ l us))(un:∀(i k:Nat) (u:Value),l[i]?=some k->us[i]?=some u->w.ownsRow B 243 1 u (unitsL (keyL L k)).length ((unitsL (keyL L k)).map uV))(hu:∀c∈l,U8 (keyL L c))(hd:l.Pairwise (fun a b=>keyL L a≠keyL L b))(ai:∀c∈l,(keyL L c).length<=65536):Calls prog 197 #[.slice (some ⟨g,0,none⟩) l.length cap,.func (.func 198) #[] #[]] w fun e H=>
 e=.returned (.tuple #[])/\Below B w H/\∀i k,(eE (dZ L) l)[i]?=some k->∃a m c,H.cell? ⟨g,i*2,none⟩=some (.slice a m c)/\H.cell? ⟨g,i*2+1,none⟩=some (iV k):=by
 haveI:Inhabited (Fin l.length):=⟨⟨0,h0⟩⟩
 have q:∀i:Fin l.length,i.1<us.length:=fun i=>by rw[hl];exact i.2
 let enc:Fin l.length->rt:=fun i=>[us[i.1]'(q i),iV l[i.1]]
 let cf:Fin l.length->Fin l.length->Int:=fun x y=>j3 (unitsL (keyL L l[x.1])) (unitsL (keyL L l[y.1]))
 let d:Array (Fin l.length):=Array.ofFn id
 have C:d.size=l.length:=by simp[d]
 have ae:∀i (h:i<l.length),d[i]! =⟨i,h⟩:=fun i h=>by
  rw[getElem!_pos d i (by omega)];simp[d]
 obtain⟨b1,Z,am,Y⟩:=cc row (g:=g) rfl;have W:∀j,(⟨g,0,none⟩:Addr).add j=⟨g,j,none⟩:=fun j=>by unfold Addr.add;split<;>simp_all
 have R:HoldsK enc 2 w g 0 d:=by
  intro t ht;rw[size_flatK,C]at ht;rw[get_flatK enc 2 d t (by omega),J3];have r:t/2<l.length:=by omega
  rw[ae _ r];refine⟨?_,by simp[World.frozen?,Y]⟩;have hm:=uX l us (t/2) _ _ (JF r) (JF (q ⟨t/2,r⟩));rcases Nat.mod_two_eq_zero_or_one t with F|F
  ·have e:t=t/2*2:=by omega
   have:=row.cells (g:=g) rfl (t/2*2) _ hm.1;rw[W,<-e]at this;rw[this,F];rfl
  ·have e:t=t/2*2+1:=by omega
   have:=row.cells (g:=g) rfl (t/2*2+1) _ hm.2;rw[W,<-e]at this;rw[this,F];rfl
 have S:∀i:Fin l.length,(unitsL (keyL L l[i.1])).length<=1000000:=fun i=>by
  have Q:=jW (keyL L l[i.1]);have F:=ai l[i.1] (List.getElem_mem i.2);omega
 have A:∀i:Fin l.length,w.ownsRow B 243 1 (us[i.1]'(q i)) (unitsL (keyL L l[i.1])).length ((unitsL (keyL L l[i.1])).map uV):=fun i=>
  un i.1 _ _ (JF i.2) (JF (q i))
 have V:∀(i:Fin l.length) (b:Nat),(us[i.1]'(q i)).ownBlock=some b->b≠g/\b<w.heap.size:=fun i b z=>by
  obtain⟨K,c2,al,s⟩:=cc (A i) z;refine⟨fun e=>?_,c2⟩;subst e;rw[Y]at s;injection s with s;injection s with _ s _;exact absurd s (by decide)
 have ad:CmpLays prog 198 #[] enc 2 cf g 0 d.size w:=by
  intro m p D _ x y;have o:∀(i:Fin l.length) (G:Array Obj),UR (us[i.1]'(q i)) (unitsL (keyL L l[i.1])) (grow (sortWorldK enc 2 w g 0 m D p) G):=fun i G=>by
   refine(UR.of (A i)).kept fun b z j=>?_
   obtain⟨P,I⟩:=V i b z;rw[cell?_grow _ _ _ (by exact J0 I (size_sortWorldK_c enc 2 w g 0 m D p)),cell?_sortWorldK_other enc 2 w g 0 m D p _ P I]
  have X:∀(i:Fin l.length),UR (us[i.1]'(q i)) (unitsL (keyL L l[i.1])) (sortWorldK enc 2 w g 0 m D p):=fun i=>by
   refine(UR.of (A i)).kept fun b z j=>?_
   obtain⟨P,I⟩:=V i b z;rw[cell?_sortWorldK_other enc 2 w g 0 m D p _ P I]
  exact Ej _ _ l[x.1] l[y.1] _ _ _ (X x) (X y) (S x) (S y) (fun G=>⟨o x G,o y G⟩)
 have eg:∀ab w,(callFunc 198 ab).run prog w=.ok (.enter 198 ab) w:=enters_of func198 (by kernel_rfl) rfl;have Q:∀x,∀v∈enc x,v.oneCell'=true:=fun x v O=>by
  rcases Ke.1 O with rfl|O
  ·obtain⟨a,c,e⟩:=(UR.of (A x)).shape
   rw[e];rfl
  ·rw[Lw.1 O];rfl
 have aa:=AnyQ.slices_SortFunc sortM 2 isAgg240 sizeOf240 enc (fun _=>rfl) Q cf (v8 _ _) 198 #[] g 0 cap d w eg ad R Z (by rw[C];omega);rw[C]at aa;refine Calls.mono aa ?_;rintro e H ⟨rfl,n,J,p,hp,hs,rfl⟩;obtain⟨p1,_,p3⟩:=hp;have ac:n.size=l.length:=p1.trans C;have hx:n.toList.map (fun i:Fin l.length=>l[i.1])=eE (dZ L) l:=by
  refine AP (dZ L) (qN L).1 (qN L).2 l _ (zf L l hu hd) ?_ ?_
  ·have q1:n.toList.Perm d.toList:=by
    have e1:n.extract 0 l.length=n:=vu n _ ac;have e2:d.extract 0 l.length=d:=vu d _ C;rwa [e1,e2]at p3
   have q2:d.toList.map (fun i:Fin l.length=>l[i.1])=l:=by
    refine List.ext_getElem (by simp[d]) fun i Q F=>?_
    simp[d]
   have:=q1.map (fun i:Fin l.length=>l[i.1]);rwa [q2]at this
  ·rw[M1,List.pairwise_iff_getElem]
   intro i j r T ah;have E:i<n.size:=by simpa using r
   have ag:j<n.size:=by simpa using T
   have:=hs i j (KI _) ah (by omega);rw[getElem!_pos n j ag,getElem!_pos n i E]at this;have e3:∀x y,ltOf cf x y=dZ L l[x.1] l[y.1]:=fun x y=>lP _ _
   rw[e3]at this;simpa using this
 have U:=holdsK_sortWorldK_c enc 2 w g 0 d n J p R Z (by omega);refine⟨rfl,?_,fun i k o=>?_⟩
 ·have h3:Below B w (putRowK enc 2 (Sort.ahead w J) g 0 n):=Lib.below_putRow (JI B w) b1
  refine h3.trans ⟨rfl,rfl,rfl,by show _<=(grow (putRowK enc 2 (Sort.ahead w J) g 0 n) p).heap.size;rw[Sort.size_grow];exact Mu _ _,fun j T=>?_⟩;have af:(putRowK enc 2 (Sort.ahead w J) g 0 n).heap.size=w.heap.size:=by
   unfold putRowK;rw[Sort.size_putRow];rfl
  exact Sort.heap_grow_old _ _ (by rw[af];omega)
 ·rw[<-hx,KM]at o
  cases M:n.toList[i]? with
  | none=>rw[M]at o;cases o
  | some f=>
    rw[M]at o;simp only[ME,Lg]at o;subst o;obtain⟨r,hf⟩:=JG.1 M;have E:i<n.size:=by simpa using r
    have N:=(U.cell E (c:=0) (by omega)).1;have K:=(U.cell E (c:=1) (by omega)).1;have aj:n[i]! =f:=by rw[getElem!_pos n i E];simpa using hf
    rw[aj,J3]at N K;obtain⟨a,c,e⟩:=(UR.of (A f)).shape;rw[show(enc f)[0]! =us[f.1]'(q f)from rfl,e]at N;exact⟨a,_,c,N,K⟩
def WD(bp:Nat)(vN vO:Value)(w:Wd):Prop:=w.heap[bp]?=some (.cells #[vN,vO] 190 (0,0))
section
variable {Z:Nat} {Y X:Value} {w:Wd}
theorem WD.cell(h:WD Z Y X w):w.cell? ⟨Z,0,none⟩=some Y/\w.cell? ⟨Z,1,none⟩=some X/\(∀k,w.frozen? ⟨Z,k,none⟩=false):=by
 refine⟨?_,?_,?_⟩
 ·rw[JE w Z 0 _ _ _ h];rfl
 ·rw[JE w Z 1 _ _ _ h];rfl
 ·intro k;unfold WD at h;simp[World.frozen?,h]
theorem WD.setO(h:WD Z Y X w)(v:Value):WD Z Y v (w.setCell ⟨Z,1,none⟩ v):=by
 rw[JV w Z 1 _ _ _ _ h];exact J7 w Z _ _ _ _ h
theorem WD.lt(h:WD Z Y X w):Z<w.heap.size:=(go.1 h).1
theorem WD.alloc(h:WD Z Y X w)(o:Obj):WD Z Y X (w.alloc o):=by
 unfold WD;rw[JO _ _ h.lt];exact h
end
structure WZ (bp:Nat) (vN vO:Value) (l:dj) (w:Wd):Prop where
 wd:WD bp vN vO w
 row:w.ownsRow (bp+1) 5 1 vO l.length (l.map cj)
theorem WZ.shape{e:Nat}{j d:Value}{l:dj}{w:Wd}(h:WZ e j d l w):∃i f,d=.slice i l.length f:=by
 rcases h.row.2 with⟨a,b⟩|⟨g,c,k,a,_⟩
 ·exact⟨none,0,by rw[a,b]⟩
 ·exact⟨_,_,a⟩
def WQ(bp:Nat)(vN:Value)(O:Nat->Prop)(w:Wd)(l':dj)(r:Ending)(w':Wd):Prop:=
 r=.returned (.tuple #[])/\∃vO',WZ bp vN vO' l' w'/\cZ bp O w (own vO' []) w'
theorem WZ.put{a:Nat}{i d:Value}{l bs:dj}{w G c:Wd}(h:WZ a i d l w)(D:G.heap.size=w.heap.size+1)(v:∀k,k<w.heap.size->G.heap[k]?=w.heap[k]?)(x:G.os=w.os)(o:G.tape=w.tape)(y:G.output=w.output){g cap:Nat}(m:c.ownsRow (a+1) 5 1 (.slice (some ⟨g,0,none⟩) (l.length+bs.length) cap) (l.length+bs.length) (l.map cj++bs.map cj))(f:G.grownBy c d.ownBlock)(u:d.ownBlock=some g\/g=w.heap.size+1):WZ a i (.slice (some ⟨g,0,none⟩) (l.length+bs.length) cap) (l++bs) (c.setCell ⟨a,1,none⟩ (.slice (some ⟨g,0,none⟩) (l.length+bs.length) cap))/\cZ a (own d []) w (own (.slice (some ⟨g,0,none⟩) (l.length+bs.length) cap) []) (c.setCell ⟨a,1,none⟩ (.slice (some ⟨g,0,none⟩) (l.length+bs.length) cap)):=by
 have r:=h.wd.lt;have s:some a≠d.ownBlock:=fun e=>by have:=(cc h.row e.symm).1;omega
 have j:=fun k b q=>(f.block k (by omega) q).trans (v k b)
 have n:WD a i d c:=(j a r s).trans h.wd;have e:=JV c a 1 _ _ _ (.slice (some ⟨g,0,none⟩) (l.length+bs.length) cap) n;have C:=(cc m (g:=g) rfl).1;refine⟨⟨n.setO _,?_⟩,?_⟩
 ·rw[JH,Kj]
  refine fw m (fun k b=>?_);simp only[Value.ownBlock,Lg]at b;subst b;rw[e];exact Kg c a _ _ (by omega)
 ·have A:=f.size
  rw[e];refine⟨f.os.trans x,f.tape.trans o,f.output.trans y,by simp[World.setRow];omega,fun k b p t=>?_,fun k b=>?_⟩
  ·rw[Kg c a k _ p]
   exact j k b (fun e=>t (.inl e.symm))
  ·rcases b with b|⟨B,z,_⟩
   ·simp only[Value.ownBlock,Lg]at b
    subst b;rcases u with e|e
    ·exact .inl (.inl e)
    ·exact .inr (by omega)
   ·simp at z
theorem eR(w:Wd)(bs:dj)(e:TypeId):∀(j:Nat) (u:Value),(bs.map cj)[j]?=some u->(w.alloc (.cells (bs.map cj).toArray e)).cell? ((⟨w.heap.size,0,none⟩:Addr).add j)=some u:=by
 intro j u h;have a:(⟨w.heap.size,0,none⟩:Addr).add j=⟨w.heap.size,j,none⟩:=by unfold Addr.add;split<;>simp_all
 rw[a,JE _ _ j _ _ _ (JK w _)];simpa using h
theorem gG{P:Program}{j:Array Oper}{k:List Oper}{o:Oper}{a:Act}{Q:Exit->Act->Wd->Prop}(z:o.guard=none)(s x:Operand)(t:TypeId)(E:o.op=.call {callee:=.builtin .append,args:= #[s,x],argTypes:= #[t,t]})
 (e:TypeId) (i:TypeInfo) (G:P.underlying t=some (.slice e)) (p:P.info? e=some i) (H:i.zero=some (.int .u8 0)) (w:i.size=1) (y:i.bytes=1)
 (B:Nat) (v:Value) (n:Nat) (xs:rt) (bs:dj) (b:Wd) (m:a.eval s=v) (q:b.ownsRow B e 1 v n xs) (I:B<=b.heap.size) (K:n<=1000000000000) (F:0<bs.length) (J:bs.length<=1000)
 (l:a.eval x=.slice (some ⟨b.heap.size,0,none⟩) bs.length bs.length)
 (h:∀g f d,d.ownsRow B e 1 (.slice (some ⟨g,0,none⟩) (n+bs.length) f) (n+bs.length) (xs++bs.map cj)->(b.alloc (.cells (bs.map cj).toArray e)).grownBy d v.ownBlock->(v.ownBlock=some g\/g=b.heap.size+1)->wpList P j Q k (a.put o.dst (.slice (some ⟨g,0,none⟩) (n+bs.length) f)) d):
 wpList P j Q (o::k) a (b.alloc (.cells (bs.map cj).toArray e)):=by
 refine L8 _ z s x t E B e i (.int .u8 0) 1 1 G p H w y rfl (by decide) v n xs m (q.alloc _) ⟨b.heap.size,0,none⟩ bs.length bs.length (bs.map cj) l (by simp) (eR b bs e) (by intro u r;obtain⟨c,_,rfl⟩:=Ly.1 r;rfl) F (by unfold maxLen;omega) (by omega) (by simp;omega) (b.heap.size+1) (by simp) ?_;intro g f d C A D _;exact h g f d C A D
theorem lG{P:Program}{C:Array Oper}{o:Oper}{a:Act}{w:Wd}{K:Act->Wd->Prop}{Q:Exit->Act->Wd->Prop}{E:Prop}(G:o.guard=none)(s x:Operand)(t:TypeId)(I:o.op=.call {callee:=.builtin .append,args:= #[s,x],argTypes:= #[t,t]})
 (e:TypeId) (i:TypeInfo) (L:P.underlying t=some (.slice e)) (q:P.info? e=some i) (M:i.zero=some (.int .u8 0)) (D:i.size=1) (F:i.bytes=1)
 (B:Nat) (v:Value) (n:Nat) (xs:rt) (bs:dj) (k:Addr) (H:Nat) (m:a.eval s=v) (l:a.eval x=.slice (some k) bs.length bs.length) (O:n<=1000000000000) (J:0<bs.length) (N:bs.length<=1000)
 (z:w.ownsRow B e 1 v n xs) (p:B<=w.heap.size) (r:w.heap.size=H) (y:∀j u,(bs.map cj)[j]?=some u->w.cell? (k.add j)=some u)
 (h:∀g f d,d.ownsRow B e 1 (.slice (some ⟨g,0,none⟩) (n+bs.length) f) (n+bs.length) (xs++bs.map cj)->w.grownBy d v.ownBlock->(v.ownBlock=some g\/g=H)->K (a.put o.dst (.slice (some ⟨g,0,none⟩) (n+bs.length) f)) d):
 if Region.wanted o (yielded C a.tmps)=true then Oper.wp P o a w K Q else E:=
 Nb w G s x t I B e i (.int .u8 0) 1 1 L q M D F rfl (by decide) v n xs m z k bs.length bs.length (bs.map cj) l (by simp) y (by intro u A;obtain⟨c,_,rfl⟩:=Ly.1 A;rfl) J (by unfold maxLen;omega) (by omega) p H r
  fun g f d a b c _=>h g f d a b c
def IW:dv:=⟨#[34,92,8,12,10,13,9]⟩
def oO(c:UInt8):Int:=Lib.indexByte IW.data.toList c
theorem la(c:UInt8)(w:Wd):Calls prog 193 #[.string ⟨#[34,92,8,12,10,13,9]⟩,.int .u8 (c.toNat:Int)] w fun e a=>e=.returned (.int .i64 (oO c))/\a=w:=by
 have h:=strings_IndexByte IW (c.toNat:Int) w;rw[show((c.toNat:Int).toNat.toUInt8)=c by simp]at h;exact h
theorem fX{b c:Wd}{o:Obj}{row:Option Nat}(g:(b.alloc o).grownBy c row){k:Nat}(f:k<b.heap.size)(d:some k≠row):c.heap[k]?=b.heap[k]?/\(∀j,c.cell? ⟨k,j,none⟩=b.cell? ⟨k,j,none⟩)/\(∀j,c.frozen? ⟨k,j,none⟩=b.frozen? ⟨k,j,none⟩):=by
 have e:=(g.block k (by show k<(b.alloc o).heap.size;simp;omega) d).trans (JO _ _ f);exact⟨e,fun j=>Lm (a:=⟨k,j,none⟩) e,fun j=>World.frozen?_of_block (a:=⟨k,j,none⟩) e⟩
section
variable (Z:Nat) (X Y:Value) (l:dj) (b:UInt8) (w:Wd)
theorem uC(A:l.length<=1000000000000)(h:WZ Z X Y l w)(m:oO b= -1)(E:¬b.toNat<32):Calls prog 165 #[.pointer (some ⟨Z,0,none⟩),.int .u8 (b.toNat:Int)] w fun r t=>WQ Z X (own Y []) w (l++[b]) r t:=by
 obtain⟨j,o,p,y,v⟩:=Kf eb;have q:Hid _:=o;have H:Hid _:=h;have x:=h.wd.lt;have B:Hid (some Z≠Y.ownBlock):=fun e=>by have:=(cc h.row e.symm).1;omega
 obtain⟨F,J,rfl⟩:=h.shape;obtain⟨M,s,n⟩:=h.wd.cell;have u:=n 1;have f:=la b w;rw[m]at f
 go_enter func165,MW;go_wp2_with fail
 refine f.mono ?_;rintro e C ⟨rfl,rfl⟩;go_wp2_with (refine gG rfl (.tmp 41) (.tmp 43) 115 rfl 5 j JU q.out p y v (Z+1) _ l.length (l.map cj) [b] C rfl H.out.row (by omega) A (LE _) (by simp) rfl ?_;intro K G I g a d;have c:=fX a x B.out;have L:=(c.2.1 1).trans s;have D:=(c.2.2 1).trans u;have i:Hid _:=H.out.put (by simp) (fun k z=>JO _ _ z) rfl rfl rfl g a d;clear c g a d)
 go_wp2;go_end0
 exact⟨rfl,_,i.out.1,i.out.2⟩
end
theorem EF:∀n,n<32->lN.data[n/16]?=some (ij (n/16))/\lN.data[n%16]?=some (ij (n%16))/\bits BinOp.and IntKind.u8 ((n:Nat):Int) 15=((n%16:Nat):Int):=by decide +kernel
theorem zD{k:Nat}{x:UInt8}(h:lN.data[k]?=some x)(a:k<lN.size):(lN[k]'a).toNat=x.toNat:=by
 have e:lN[k]'a=x:=by
  have:=go.1 h;exact this.2
 rw[e]
section
variable (Z:Nat) (X Y:Value) (l:dj) (w:Wd)
theorem ym(b:UInt8)(z:Int)(a c:UInt8)(q:(b.toNat:Int)=z)(y:b.toNat<32)(D:oO b= -1)(E:ij (b.toNat/16)=a)(K:ij (b.toNat%16)=c)(J:l.length<=1000000000000)(h:WZ Z X Y l w):Calls prog 165 #[.pointer (some ⟨Z,0,none⟩),.int .u8 z] w fun r W=>WQ Z X (own Y []) w (l++[92,117,48,48,a,c]) r W:=by
 obtain⟨N,B,U,ae,ab⟩:=Kf eb;have V:Hid _:=B;have H:Hid _:=h;have I:=h.wd.lt;have af:Hid (some Z≠Y.ownBlock):=fun e=>by have:=(cc h.row e.symm).1;omega
 obtain⟨S,aa,rfl⟩:=h.shape;obtain⟨c0,C,x⟩:=h.wd.cell;have f1:=x 1;have t:=la b w;rw[D,q]at t
 have ag:z<32:=by omega
 have ac:Hid _:=fun o=>h.row.alloc o
 have R:Hid (∀o,Z+1<=((w.alloc o).drew).heap.size):=fun o=>by show _<=(w.alloc o).heap.size;simp;omega
 have P:Hid (∀o,((w.alloc o).drew).heap.size=w.heap.size+1):=fun o=>by show(w.alloc o).heap.size=_;simp
 have Q:Hid (∀j u,(([92,117,48,48,a,c]:dj).map cj)[j]?=some u->((w.alloc (.cells #[.int .u8 92,.int .u8 117,.int .u8 48,.int .u8 48,.int .u8 (a.toNat:Int),.int .u8 (c.toNat:Int)] 5)).drew).cell? ((⟨w.heap.size,0,none⟩:Addr).add j)=some u):=eR w [92,117,48,48,a,c] 5;have T:Hid _:=J;obtain⟨v,s,g⟩:=EF b.toNat y;rw[E]at v;rw[K]at s;rw[q]at g;obtain⟨d,ah⟩:∃d:Int,z/16=d:=⟨_,rfl⟩;obtain⟨f,n⟩:∃f:Int,bits BinOp.and IntKind.u8 z 15=f:=⟨_,rfl⟩;have ai:0<=d:=by omega
 have an:d<22:=by omega
 have ao:0<=f:=by rw[<-n,g];omega
 have am:f<22:=by rw[<-n,g];omega
 have M:∀h,(lN[d.toNat]'h).toNat=a.toNat:=fun h=>zD (by rw[show d.toNat=b.toNat/16 by omega];exact v) h
 have O:∀h,(lN[f.toNat]'h).toNat=c.toNat:=fun h=>zD (by rw[show f.toNat=b.toNat%16 by rw[<-n,g];omega];exact s) h
 delta lN at M O
 clear v s g;clear B h x J q y D E K;go_enter func165,MW;go_wp2_with fail
 refine t.mono ?_;rintro e i ⟨rfl,rfl⟩;clear t;go_wp2_with fail
 go_region_law ((refine lG rfl (.tmp 26) (.tmp 33) 115 rfl 5 N JU V.out U ae ab (Z+1) _ l.length (l.map cj) [92,117,48,48,a,c] ⟨i.heap.size,0,none⟩ (i.heap.size+1) rfl rfl T.out (LE _) (by simp) (by exact ac.out _) (by exact R.out _) (by exact P.out _) (by exact Q.out) ?_;intro g8 ak w8 F m A;have p:=c6 m I af.out;have s1:=(p.2.1 1).trans C;have t1:=(p.2.2 1).trans f1;have L:Hid _:=H.out.put (G:=(i.alloc (.cells #[.int .u8 92,.int .u8 117,.int .u8 48,.int .u8 48,.int .u8 (a.toNat:Int),.int .u8 (c.toNat:Int)] 5)).drew) (by show(i.alloc _).heap.size=_;simp) (fun k hk=>JO i _ hk) rfl rfl rfl F m A;clear p F m A))
 all_goals
  go_wp2;go_end0
  exact⟨rfl,_,L.out.1,L.out.2⟩
end
section
variable (Z:Nat) (X Y:Value) (l:dj) (w:Wd)
theorem I0(n:l.length<=1000000000000)(h:WZ Z X Y l w):Calls prog 165 #[.pointer (some ⟨Z,0,none⟩),.int .u8 8] w fun r B=>WQ Z X (own Y []) w (l++[92,98]) r B:=by
 obtain⟨q,i,y,J,D⟩:=Kf eb;have z:Hid _:=i;have H:Hid _:=h;have E:=h.wd.lt;have K:Hid (some Z≠Y.ownBlock):=fun e=>by have:=(cc h.row e.symm).1;omega
 obtain⟨M,P,rfl⟩:=h.shape;obtain⟨S,A,f⟩:=h.wd.cell;have C:=f 1;have d:=la 8 w;rw[show oO 8=2 by decide +kernel,show((((8:UInt8)).toNat:Nat):Int)=8 from rfl]at d
 have F:Hid _:=fun o=>h.row.alloc o
 have v:Hid (∀o,Z+1<=((w.alloc o).drew).heap.size):=fun o=>by show _<=(w.alloc o).heap.size;simp;omega
 have s:Hid (∀o,((w.alloc o).drew).heap.size=w.heap.size+1):=fun o=>by show(w.alloc o).heap.size=_;simp
 have t:Hid (∀j u,(([92,98]:dj).map cj)[j]?=some u->((w.alloc (.cells #[.int .u8 92,.int .u8 98] 5)).drew).cell? ((⟨w.heap.size,0,none⟩:Addr).add j)=some u):=eR w [92,98] 5;have x:Hid _:=n
 clear i h f n;go_enter func165,MW;go_wp2_with fail
 refine d.mono ?_;rintro e a ⟨rfl,rfl⟩;clear d;go_wp2_with fail
 go_region_law ((refine lG rfl (.tmp 13) (.tmp 16) 115 rfl 5 q JU z.out y J D (Z+1) _ l.length (l.map cj) [92,98] ⟨a.heap.size,0,none⟩ (a.heap.size+1) rfl rfl x.out (by decide) (by decide) (by exact F.out _) (by exact v.out _) (by exact s.out _) (by exact t.out) ?_;intro Q N O m b g;have c:=c6 b E K.out;have R:=(c.2.1 1).trans A;have L:=(c.2.2 1).trans C;have p:Hid _:=H.out.put (G:=(a.alloc (.cells #[.int .u8 92,.int .u8 98] 5)).drew) (by show(a.alloc _).heap.size=_;simp) (fun k I=>JO a _ I) rfl rfl rfl m b g;clear c m b g))
 all_goals
  go_wp2;go_end0
  exact⟨rfl,_,p.out.1,p.out.2⟩
theorem I3(n:l.length<=1000000000000)(h:WZ Z X Y l w):Calls prog 165 #[.pointer (some ⟨Z,0,none⟩),.int .u8 9] w fun r B=>WQ Z X (own Y []) w (l++[92,116]) r B:=by
 obtain⟨q,i,y,J,D⟩:=Kf eb;have z:Hid _:=i;have H:Hid _:=h;have E:=h.wd.lt;have K:Hid (some Z≠Y.ownBlock):=fun e=>by have:=(cc h.row e.symm).1;omega
 obtain⟨M,P,rfl⟩:=h.shape;obtain⟨S,A,f⟩:=h.wd.cell;have C:=f 1;have d:=la 9 w;rw[show oO 9=6 by decide +kernel,show((((9:UInt8)).toNat:Nat):Int)=9 from rfl]at d
 have F:Hid _:=fun o=>h.row.alloc o
 have v:Hid (∀o,Z+1<=((w.alloc o).drew).heap.size):=fun o=>by show _<=(w.alloc o).heap.size;simp;omega
 have s:Hid (∀o,((w.alloc o).drew).heap.size=w.heap.size+1):=fun o=>by show(w.alloc o).heap.size=_;simp
 have t:Hid (∀j u,(([92,116]:dj).map cj)[j]?=some u->((w.alloc (.cells #[.int .u8 92,.int .u8 116] 5)).drew).cell? ((⟨w.heap.size,0,none⟩:Addr).add j)=some u):=eR w [92,116] 5;have x:Hid _:=n
 clear i h f n;go_enter func165,MW;go_wp2_with fail
 refine d.mono ?_;rintro e a ⟨rfl,rfl⟩;clear d;go_wp2_with fail
 go_region_law ((refine lG rfl (.tmp 13) (.tmp 16) 115 rfl 5 q JU z.out y J D (Z+1) _ l.length (l.map cj) [92,116] ⟨a.heap.size,0,none⟩ (a.heap.size+1) rfl rfl x.out (by decide) (by decide) (by exact F.out _) (by exact v.out _) (by exact s.out _) (by exact t.out) ?_;intro Q N O m b g;have c:=c6 b E K.out;have R:=(c.2.1 1).trans A;have L:=(c.2.2 1).trans C;have p:Hid _:=H.out.put (G:=(a.alloc (.cells #[.int .u8 92,.int .u8 116] 5)).drew) (by show(a.alloc _).heap.size=_;simp) (fun k I=>JO a _ I) rfl rfl rfl m b g;clear c m b g))
 all_goals
  go_wp2;go_end0
  exact⟨rfl,_,p.out.1,p.out.2⟩
theorem IB(n:l.length<=1000000000000)(h:WZ Z X Y l w):Calls prog 165 #[.pointer (some ⟨Z,0,none⟩),.int .u8 10] w fun r B=>WQ Z X (own Y []) w (l++[92,110]) r B:=by
 obtain⟨q,i,y,J,D⟩:=Kf eb;have z:Hid _:=i;have H:Hid _:=h;have E:=h.wd.lt;have K:Hid (some Z≠Y.ownBlock):=fun e=>by have:=(cc h.row e.symm).1;omega
 obtain⟨M,P,rfl⟩:=h.shape;obtain⟨S,A,f⟩:=h.wd.cell;have C:=f 1;have d:=la 10 w;rw[show oO 10=4 by decide +kernel,show((((10:UInt8)).toNat:Nat):Int)=10 from rfl]at d
 have F:Hid _:=fun o=>h.row.alloc o
 have v:Hid (∀o,Z+1<=((w.alloc o).drew).heap.size):=fun o=>by show _<=(w.alloc o).heap.size;simp;omega
 have s:Hid (∀o,((w.alloc o).drew).heap.size=w.heap.size+1):=fun o=>by show(w.alloc o).heap.size=_;simp
 have t:Hid (∀j u,(([92,110]:dj).map cj)[j]?=some u->((w.alloc (.cells #[.int .u8 92,.int .u8 110] 5)).drew).cell? ((⟨w.heap.size,0,none⟩:Addr).add j)=some u):=eR w [92,110] 5;have x:Hid _:=n
 clear i h f n;go_enter func165,MW;go_wp2_with fail
 refine d.mono ?_;rintro e a ⟨rfl,rfl⟩;clear d;go_wp2_with fail
 go_region_law ((refine lG rfl (.tmp 13) (.tmp 16) 115 rfl 5 q JU z.out y J D (Z+1) _ l.length (l.map cj) [92,110] ⟨a.heap.size,0,none⟩ (a.heap.size+1) rfl rfl x.out (by decide) (by decide) (by exact F.out _) (by exact v.out _) (by exact s.out _) (by exact t.out) ?_;intro Q N O m b g;have c:=c6 b E K.out;have R:=(c.2.1 1).trans A;have L:=(c.2.2 1).trans C;have p:Hid _:=H.out.put (G:=(a.alloc (.cells #[.int .u8 92,.int .u8 110] 5)).drew) (by show(a.alloc _).heap.size=_;simp) (fun k I=>JO a _ I) rfl rfl rfl m b g;clear c m b g))
 all_goals
  go_wp2;go_end0
  exact⟨rfl,_,p.out.1,p.out.2⟩
theorem Hy(n:l.length<=1000000000000)(h:WZ Z X Y l w):Calls prog 165 #[.pointer (some ⟨Z,0,none⟩),.int .u8 12] w fun r B=>WQ Z X (own Y []) w (l++[92,102]) r B:=by
 obtain⟨q,i,y,J,D⟩:=Kf eb;have z:Hid _:=i;have H:Hid _:=h;have E:=h.wd.lt;have K:Hid (some Z≠Y.ownBlock):=fun e=>by have:=(cc h.row e.symm).1;omega
 obtain⟨M,P,rfl⟩:=h.shape;obtain⟨S,A,f⟩:=h.wd.cell;have C:=f 1;have d:=la 12 w;rw[show oO 12=3 by decide +kernel,show((((12:UInt8)).toNat:Nat):Int)=12 from rfl]at d
 have F:Hid _:=fun o=>h.row.alloc o
 have v:Hid (∀o,Z+1<=((w.alloc o).drew).heap.size):=fun o=>by show _<=(w.alloc o).heap.size;simp;omega
 have s:Hid (∀o,((w.alloc o).drew).heap.size=w.heap.size+1):=fun o=>by show(w.alloc o).heap.size=_;simp
 have t:Hid (∀j u,(([92,102]:dj).map cj)[j]?=some u->((w.alloc (.cells #[.int .u8 92,.int .u8 102] 5)).drew).cell? ((⟨w.heap.size,0,none⟩:Addr).add j)=some u):=eR w [92,102] 5;have x:Hid _:=n
 clear i h f n;go_enter func165,MW;go_wp2_with fail
 refine d.mono ?_;rintro e a ⟨rfl,rfl⟩;clear d;go_wp2_with fail
 go_region_law ((refine lG rfl (.tmp 13) (.tmp 16) 115 rfl 5 q JU z.out y J D (Z+1) _ l.length (l.map cj) [92,102] ⟨a.heap.size,0,none⟩ (a.heap.size+1) rfl rfl x.out (by decide) (by decide) (by exact F.out _) (by exact v.out _) (by exact s.out _) (by exact t.out) ?_;intro Q N O m b g;have c:=c6 b E K.out;have R:=(c.2.1 1).trans A;have L:=(c.2.2 1).trans C;have p:Hid _:=H.out.put (G:=(a.alloc (.cells #[.int .u8 92,.int .u8 102] 5)).drew) (by show(a.alloc _).heap.size=_;simp) (fun k I=>JO a _ I) rfl rfl rfl m b g;clear c m b g))
 all_goals
  go_wp2;go_end0
  exact⟨rfl,_,p.out.1,p.out.2⟩
theorem Ii(n:l.length<=1000000000000)(h:WZ Z X Y l w):Calls prog 165 #[.pointer (some ⟨Z,0,none⟩),.int .u8 13] w fun r B=>WQ Z X (own Y []) w (l++[92,114]) r B:=by
 obtain⟨q,i,y,J,D⟩:=Kf eb;have z:Hid _:=i;have H:Hid _:=h;have E:=h.wd.lt;have K:Hid (some Z≠Y.ownBlock):=fun e=>by have:=(cc h.row e.symm).1;omega
 obtain⟨M,P,rfl⟩:=h.shape;obtain⟨S,A,f⟩:=h.wd.cell;have C:=f 1;have d:=la 13 w;rw[show oO 13=5 by decide +kernel,show((((13:UInt8)).toNat:Nat):Int)=13 from rfl]at d
 have F:Hid _:=fun o=>h.row.alloc o
 have v:Hid (∀o,Z+1<=((w.alloc o).drew).heap.size):=fun o=>by show _<=(w.alloc o).heap.size;simp;omega
 have s:Hid (∀o,((w.alloc o).drew).heap.size=w.heap.size+1):=fun o=>by show(w.alloc o).heap.size=_;simp
 have t:Hid (∀j u,(([92,114]:dj).map cj)[j]?=some u->((w.alloc (.cells #[.int .u8 92,.int .u8 114] 5)).drew).cell? ((⟨w.heap.size,0,none⟩:Addr).add j)=some u):=eR w [92,114] 5;have x:Hid _:=n
 clear i h f n;go_enter func165,MW;go_wp2_with fail
 refine d.mono ?_;rintro e a ⟨rfl,rfl⟩;clear d;go_wp2_with fail
 go_region_law ((refine lG rfl (.tmp 13) (.tmp 16) 115 rfl 5 q JU z.out y J D (Z+1) _ l.length (l.map cj) [92,114] ⟨a.heap.size,0,none⟩ (a.heap.size+1) rfl rfl x.out (by decide) (by decide) (by exact F.out _) (by exact v.out _) (by exact s.out _) (by exact t.out) ?_;intro Q N O m b g;have c:=c6 b E K.out;have R:=(c.2.1 1).trans A;have L:=(c.2.2 1).trans C;have p:Hid _:=H.out.put (G:=(a.alloc (.cells #[.int .u8 92,.int .u8 114] 5)).drew) (by show(a.alloc _).heap.size=_;simp) (fun k I=>JO a _ I) rfl rfl rfl m b g;clear c m b g))
 all_goals
  go_wp2;go_end0
  exact⟨rfl,_,p.out.1,p.out.2⟩
theorem Hr(n:l.length<=1000000000000)(h:WZ Z X Y l w):Calls prog 165 #[.pointer (some ⟨Z,0,none⟩),.int .u8 34] w fun r B=>WQ Z X (own Y []) w (l++[92,34]) r B:=by
 obtain⟨q,i,y,J,D⟩:=Kf eb;have z:Hid _:=i;have H:Hid _:=h;have E:=h.wd.lt;have K:Hid (some Z≠Y.ownBlock):=fun e=>by have:=(cc h.row e.symm).1;omega
 obtain⟨M,P,rfl⟩:=h.shape;obtain⟨S,A,f⟩:=h.wd.cell;have C:=f 1;have d:=la 34 w;rw[show oO 34=0 by decide +kernel,show((((34:UInt8)).toNat:Nat):Int)=34 from rfl]at d
 have F:Hid _:=fun o=>h.row.alloc o
 have v:Hid (∀o,Z+1<=((w.alloc o).drew).heap.size):=fun o=>by show _<=(w.alloc o).heap.size;simp;omega
 have s:Hid (∀o,((w.alloc o).drew).heap.size=w.heap.size+1):=fun o=>by show(w.alloc o).heap.size=_;simp
 have t:Hid (∀j u,(([92,34]:dj).map cj)[j]?=some u->((w.alloc (.cells #[.int .u8 92,.int .u8 34] 5)).drew).cell? ((⟨w.heap.size,0,none⟩:Addr).add j)=some u):=eR w [92,34] 5;have x:Hid _:=n
 clear i h f n;go_enter func165,MW;go_wp2_with fail
 refine d.mono ?_;rintro e a ⟨rfl,rfl⟩;clear d;go_wp2_with fail
 go_region_law ((refine lG rfl (.tmp 13) (.tmp 16) 115 rfl 5 q JU z.out y J D (Z+1) _ l.length (l.map cj) [92,34] ⟨a.heap.size,0,none⟩ (a.heap.size+1) rfl rfl x.out (by decide) (by decide) (by exact F.out _) (by exact v.out _) (by exact s.out _) (by exact t.out) ?_;intro Q N O m b g;have c:=c6 b E K.out;have R:=(c.2.1 1).trans A;have L:=(c.2.2 1).trans C;have p:Hid _:=H.out.put (G:=(a.alloc (.cells #[.int .u8 92,.int .u8 34] 5)).drew) (by show(a.alloc _).heap.size=_;simp) (fun k I=>JO a _ I) rfl rfl rfl m b g;clear c m b g))
 all_goals
  go_wp2;go_end0
  exact⟨rfl,_,p.out.1,p.out.2⟩
theorem IM(n:l.length<=1000000000000)(h:WZ Z X Y l w):Calls prog 165 #[.pointer (some ⟨Z,0,none⟩),.int .u8 92] w fun r B=>WQ Z X (own Y []) w (l++[92,92]) r B:=by
 obtain⟨q,i,y,J,D⟩:=Kf eb;have z:Hid _:=i;have H:Hid _:=h;have E:=h.wd.lt;have K:Hid (some Z≠Y.ownBlock):=fun e=>by have:=(cc h.row e.symm).1;omega
 obtain⟨M,P,rfl⟩:=h.shape;obtain⟨S,A,f⟩:=h.wd.cell;have C:=f 1;have d:=la 92 w;rw[show oO 92=1 by decide +kernel,show((((92:UInt8)).toNat:Nat):Int)=92 from rfl]at d
 have F:Hid _:=fun o=>h.row.alloc o
 have v:Hid (∀o,Z+1<=((w.alloc o).drew).heap.size):=fun o=>by show _<=(w.alloc o).heap.size;simp;omega
 have s:Hid (∀o,((w.alloc o).drew).heap.size=w.heap.size+1):=fun o=>by show(w.alloc o).heap.size=_;simp
 have t:Hid (∀j u,(([92,92]:dj).map cj)[j]?=some u->((w.alloc (.cells #[.int .u8 92,.int .u8 92] 5)).drew).cell? ((⟨w.heap.size,0,none⟩:Addr).add j)=some u):=eR w [92,92] 5;have x:Hid _:=n
 clear i h f n;go_enter func165,MW;go_wp2_with fail
 refine d.mono ?_;rintro e a ⟨rfl,rfl⟩;clear d;go_wp2_with fail
 go_region_law ((refine lG rfl (.tmp 13) (.tmp 16) 115 rfl 5 q JU z.out y J D (Z+1) _ l.length (l.map cj) [92,92] ⟨a.heap.size,0,none⟩ (a.heap.size+1) rfl rfl x.out (by decide) (by decide) (by exact F.out _) (by exact v.out _) (by exact s.out _) (by exact t.out) ?_;intro Q N O m b g;have c:=c6 b E K.out;have R:=(c.2.1 1).trans A;have L:=(c.2.2 1).trans C;have p:Hid _:=H.out.put (G:=(a.alloc (.cells #[.int .u8 92,.int .u8 92] 5)).drew) (by show(a.alloc _).heap.size=_;simp) (fun k I=>JO a _ I) rfl rfl rfl m b g;clear c m b g))
 all_goals
  go_wp2;go_end0
  exact⟨rfl,_,p.out.1,p.out.2⟩
end
section
variable (Z:Nat) (Y X:Value) (l:dj) (w:Wd)
theorem Cn:∀n,n<256->32<=n->n≠34->n≠92->oO (UInt8.ofNat n)= -1/\eC (UInt8.ofNat n)=[UInt8.ofNat n]:=by decide +kernel
theorem sb_hex0:∀n,n<32->(n=8\/n=9\/n=10\/n=12\/n=13)\/(oO (UInt8.ofNat n)= -1/\eC (UInt8.ofNat n)=[92,117,48,48,ij (n/16),ij (n%16)]):=by decide +kernel
theorem Fe(n:Nat)(h:n<32)(b:n≠8)(d:n≠9)(c:n≠10)(e:n≠12)(a:n≠13):oO (UInt8.ofNat n)= -1/\eC (UInt8.ofNat n)=[92,117,48,48,ij (n/16),ij (n%16)]:=by
 rcases sb_hex0 n h with h|h
 ·omega
 ·exact h
theorem IA(b:UInt8)(a:l.length<=1000000000000)(h:WZ Z Y X l w):Calls prog 165 #[.pointer (some ⟨Z,0,none⟩),.int .u8 (b.toNat:Int)] w fun r t=>WQ Z Y (own X []) w (l++eC b) r t:=by
 by_cases p:b=8
 ·subst p;exact I0 Z Y X l w a h
 by_cases q:b=9
 ·subst q;exact I3 Z Y X l w a h
 by_cases k:b=10
 ·subst k;exact IB Z Y X l w a h
 by_cases i:b=12
 ·subst i;exact Hy Z Y X l w a h
 by_cases o:b=13
 ·subst o;exact Ii Z Y X l w a h
 by_cases m:b=34
 ·subst m;exact Hr Z Y X l w a h
 by_cases j:b=92
 ·subst j;exact IM Z Y X l w a h
 have c:∀n:Nat,b≠UInt8.ofNat n->b.toNat≠n:=fun n s e=>s (by rw[<-e,MJ])
 by_cases g:b.toNat<32
 ·obtain⟨f,d⟩:=Fe b.toNat g (c 8 p) (c 9 q) (c 10 k) (c 12 i) (c 13 o)
  rw[MJ]at f d;rw[d];exact ym Z Y X l w b _ _ _ rfl g f rfl rfl a h
 ·obtain⟨f,d⟩:=Cn b.toNat b.toNat_lt (by omega) (c 34 m) (c 92 j)
  rw[MJ]at f d;rw[d];exact uC Z Y X l b w a h f g
end
section
variable (Z:Nat) (Y X:Value) (l:dj) (w:Wd)
theorem rA(s:dv)(hs:s.size<=100000000)(hl:l.length<=10000000000)(h:WZ Z Y X l w):Calls prog 134 #[.pointer (some ⟨Z,0,none⟩),.string s] w fun r w'=>WQ Z Y (own X []) w (l++dk s.data.toList) r w':=by
 obtain⟨F,G,L,T,R⟩:=Kf eb;have N:Hid _:=G;have H:Hid _:=h;have q:=h.wd.lt;have t:Hid (some Z≠X.ownBlock):=fun e=>by have:=(cc h.row e.symm).1;omega
 obtain⟨K,Q,rfl⟩:=h.shape;obtain⟨c0,o,i⟩:=h.wd.cell;have p:=i 1;clear G h i;go_enter func134,ntmps134;go_wp2_with (refine gG rfl (.tmp 9) (.tmp 10) 115 rfl 5 F JU N.out L T R (Z+1) _ l.length (l.map cj) [34] w rfl H.out.row (by omega) (by omega) (by decide) (by decide) rfl ?_;intro A x y n d m;have f:=fX d q t.out;have U:=(f.2.1 1).trans o;have D:=(f.2.2 1).trans p;have g:Hid _:=H.out.put (by simp) (fun k B=>JO _ _ B) rfl rfl rfl n d m;clear f n d m)
 have u:Hid (∃v,WZ Z Y v (l++34::cS (s.data.toList.take 0)) (y.setCell ⟨Z,1,none⟩ (.slice (some ⟨A,0,none⟩) (l.length+1) x))/\cZ Z (own (.slice K l.length Q) []) w (own v []) (y.setCell ⟨Z,1,none⟩ (.slice (some ⟨A,0,none⟩) (l.length+1) x))):=⟨_,g.out.1,g.out.2⟩;clear g U D;generalize y.setCell ⟨Z,1,none⟩ (.slice (some ⟨A,0,none⟩) (l.length+1) x)=W at u ⊢;clear c0 o p q t;go_loopw [16] (fun C wr=>∃(j:Nat) (v:Value),j<=s.size/\C=.int .i64 (j:Int)/\WZ Z Y v (l++34::cS (s.data.toList.take j)) wr/\cZ Z (own (.slice K l.length Q) []) w (own v []) wr) (fun C _=>s.size-(intOf C).toNat)
 case atStart=>obtain⟨v,a,b⟩:=u.out;exact⟨0,v,by omega,rfl,a,b⟩
 case round=>
  clear u;obtain⟨j,v,hj,rfl,c,z⟩:=hrel;have P:(l++34::cS (s.data.toList.take j)).length<=20000000000:=by
   have h1:=ll (s.data.toList.take j);have h2:(s.data.toList.take j).length<=s.size:=by rw[J6];simp;omega
   rw[JH,JM];omega
  have J:Hid _:=c;have I:Hid _:=z;by_cases q:j<s.size
  ·have k1:(j:Int)<(s.size:Int):=by omega
   have V:=IA Z Y v (l++34::cS (s.data.toList.take j)) wr s[j] (by omega) c;have HT:Hid (s.data.toList.take (j+1)=s.data.toList.take j++[s[j]]):=by
    show _=_
    have h':j<s.data.toList.length:=by simpa using q
    rw[Lf,JF h'];rfl
   clear c z P;go_wp2_with fail
   refine V.mono ?_;rintro r w2 ⟨rfl,v2,M,S⟩;have O:Hid _:=And.intro M (I.out.trans S);clear V M S;go_wp2
   go_roundw
   case rel=>
    refine⟨j+1,v2,by omega,by go_num,?_,O.out.2⟩;rw[HT.out,fW];have:=O.out.1;rw[J1,JS]at this;simpa [cS]using this
   case measure=>simp[intOf];omega
  ·obtain rfl:j=s.size:=by omega
   have aa:=c.wd.lt;have t:Hid (some Z≠v.ownBlock):=fun e=>by have:=(cc c.row e.symm).1;omega
   have HE:Hid (l++dk s.data.toList=(l++34::cS (s.data.toList.take s.size))++[34]):=by
    show _=_
    rw[Kd (by simp),dk];simp
   obtain⟨ae,ac,rfl⟩:=c.shape;obtain⟨c0,o,i⟩:=c.wd.cell;have p:=i 1;generalize l++34::cS (s.data.toList.take s.size)=E at *;clear c z i;go_wp2_with (refine gG rfl (.tmp 29) (.tmp 30) 115 rfl 5 F JU N.out L T R (Z+1) _ E.length (E.map cj) [34] wr rfl J.out.row (by omega) (by omega) (by decide) (by decide) rfl ?_;intro g9 af w9 n d m;have f:=fX d aa t.out;have U:=(f.2.1 1).trans o;have D:=(f.2.2 1).trans p;have g:Hid _:=J.out.put (by simp) (fun k B=>JO _ _ B) rfl rfl rfl n d m;clear f n d m)
   go_wp2;go_end0
   rw[HE.out];exact⟨rfl,_,g.out.1,I.out.trans g.out.2⟩
end
end Go.Proofs.YtihboehpeehlmaaGreatDoor
