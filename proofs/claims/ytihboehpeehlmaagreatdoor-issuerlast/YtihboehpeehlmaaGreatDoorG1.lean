import Derived.Test.YtihboehpeehlmaaGreatDoorJPureP
namespace Go.Proofs.YtihboehpeehlmaaGreatDoor
set_option linter.unusedVariables false
theorem kk:∀(k n:Nat) (l:dj) (o m a:Nat),dH k n l o=(some m,a)->k<=l.length
 | 0,n,l,o,m,a,h=>KI _
 | k+1,n,[],o,m,a,h=>by simp[dH]at h
 | k+1,n,c::r,o,m,a,h=>by
   rw[dH]at h;split at h
   ·simp at h
   ·have:=kk k _ _ _ _ _ h
    simp;omega
theorem xj{l:dj}{m:Nat}(h:dP l=some m):6<=l.length:=by
 unfold dP at h;split at h
 ·rename_i a b r
  split at h
  ·split at h
   ·rename_i n c
    have:4<=r.length:=by
     have d:dt r=(some n,(dt r).2):=Prod.ext c rfl;exact kk 4 0 r 0 _ _ d
    simp;omega
   ·cases h
  ·cases h
 ·cases h
theorem sq{l t:dj}{n:Nat}(h:eQ l=.ok (t,n)):n<=l.length:=by
 unfold eQ at h;split at h
 ·rename_i a c r
  split at h
  ·injection h with h;injection h with d b;subst b;simp
  ·split at h
   ·split at h
    ·cases h
    ·rename_i m o f
     have i:4<=r.length:=kk 4 0 r 0 _ _ f;unfold fZ at h;split at h
     ·injection h with h;injection h with d b;subst b;simp;omega
     ·split at h
      ·cases h
      ·rename_i g e
       have:=xj e;rw[Kk]at this;split at h
       ·cases h
       ·injection h with h;injection h with d b;subst b;simp;omega
   ·cases h
 ·cases h
theorem yu:∀(f:Nat) (l t:dj) (n:Nat),strF f l=.ok (t,n)->t.length+1<=n/\n<=l.length:=by
 intro f;induction f with
 | zero=>intro l t n h;simp[strF]at h
 | succ f ih=>
   intro l t n h;match l with
   | []=>simp[strF]at h
   | c::r=>
     rw[strF]at h;have m:∀(g:dj) (k:Nat),g.length<=k->k<=(c::r).length->cL g k (strF f ((c::r).drop k))=.ok (t,n)->t.length+1<=n/\n<=(c::r).length:=by
      intro g k u s a;generalize (c::r)=L at *;cases b:strF f (L.drop k)with
      | error o=>rw[b]at a;simp[cL]at a
      | ok q=>
        obtain⟨j,i⟩:=q;have:=ih _ _ _ b;rw[Kk]at this;rw[b,cL]at a;injection a with a;injection a with e d;subst e;subst d;rw[JH];omega
     split at h
     ·injection h with h;injection h with e d;subst e;subst d;simp
     ·split at h
      ·cases h
      ·split at h
       ·split at h
        ·cases h
        ·rename_i j i p
         exact m j i (oy p).1 (sq p) h
       ·split at h
        ·cases h
        ·have:=lQ (c::r)
         exact m _ _ (by rw[J6];omega) this h
theorem jV{l t:dj}{n:Nat}(h:da l=.ok (t,n)):t.length+2<=n/\n<=l.length:=by
 unfold da at h;split at h
 ·rename_i c r
  split at h
  ·split at h
   ·rename_i f e b
    have:=yu _ _ _ _ b;injection h with h;injection h with a d;subst a;subst d;simp;omega
   ·cases h
  ·cases h
 ·cases h
theorem na{l:dj}{m:Int}{n:Nat}(h:di l=.ok (m,n)):1<=n/\n<=l.length/\ -9223372036854775808<=m/\m<=9223372036854775807:=by
 have c:=oR h;unfold di at h;dsimp only at h;have b:=oQ (l.drop (if l.head?=some 45 then 1 else 0));rw[Kk]at b;generalize (if l.head?=some 45 then 1 else 0)=a at h b;split at h
 ·cases h
 ·rename_i f
  split at h
  ·cases h
  ·rename_i d
   injection h with h;injection h with e i;have g:accN 0 ((l.drop a).take (nd (l.drop a)))<=9007199254740991:=by unfold cH at d;omega
   refine⟨c,by omega,?_⟩;split at e<;>omega
theorem pZ{l:dj}{i n:Nat}{t:JT}(h:df l i=.ok (t,n)):n<=l.length/\4<=n/\((∃b,t=.truth b i)\/t=.null i):=by
 have d:∀k,(l.take (nl l)).length=k->k<=l.length:=fun k f=>by rw[J6]at f;omega
 unfold df at h;dsimp only at h;split at h
 ·rename_i e;injection h with h;injection h with a c;subst a;subst c;exact⟨d 4 (by rw[e];rfl),by omega,.inl ⟨_,rfl⟩⟩
 ·split at h
  ·rename_i e;injection h with h;injection h with a c;subst a;subst c;exact⟨d 5 (by rw[e];rfl),by omega,.inl ⟨_,rfl⟩⟩
  ·split at h
   ·rename_i e;injection h with h;injection h with a c;subst a;subst c;exact⟨d 4 (by rw[e];rfl),by omega,.inr rfl⟩
   ·cases h
mutual
def ep:JT->Nat
 | .null _=>4
 | .truth _ _=>5
 | .int _ _=>21
 | .str t _=>6*t.length+2
 | .arr ts _=>2+jj ts
 | .obj ms _=>2+gA ms
def jj:List JT->Nat
 | []=>0
 | t::r=>ep t+1+jj r
def gA:List (dj×JT)->Nat
 | []=>0
 | (k,t)::r=>6*k.length+4+ep t+gA r
end
def xU(l:dj)(t:JT)(n:Nat):Prop:=n<=l.length/\ep t<=30*n/\∀M,l.length<=M->fK M t
theorem gu{l:dj}{b:Nat}{c:UInt8}{r:dj}(h:l.drop b=c::r):b<l.length:=by
 by_cases a:b<l.length
 ·exact a
 ·rw[J8 (by omega)]at h;cases h
theorem BC(v:dj->Nat->JR JT)(j:∀l i t n,v l i=.ok (t,n)->xU l t n):∀(f:Nat) (l:dj) (i:Nat) (a:List JT) (k:Nat),dW v f l i=.ok (a,k)->(1<=k/\k<=l.length)/\jj a<=30*k/\∀M,l.length<=M->pg M a:=by
 intro f;induction f with
 | zero=>intro l i a k h;simp[dW]at h
 | succ f ih=>
   intro l i a k h;rw[dW]at h;dsimp only at h;split at h
   ·cases h
   ·rename_i t n u
    obtain⟨s,w,e⟩:=j _ _ _ _ u;rw[Kk]at s e;split at h
    ·rename_i c r m
     have y:=gu m;split at h
     ·split at h
      ·cases h
      ·rename_i A z o
       obtain⟨q,x,g⟩:=ih _ _ _ _ o;rw[Kk]at q g;injection h with h;injection h with b d;subst b;subst d;refine⟨by omega,by simp only[jj];omega,fun M p=>?_⟩;rw[pg];exact⟨e M (by omega),g M (by omega)⟩
     ·split at h
      ·injection h with h;injection h with b d;subst b;subst d
       refine⟨by omega,by simp only[jj];omega,fun M p=>?_⟩;rw[pg,pg];exact⟨e M (by omega),trivial⟩
      ·cases h
    ·cases h
theorem BS(v:dj->Nat->JR JT)(p:∀l i t n,v l i=.ok (t,n)->xU l t n):∀(f:Nat) (b:List (dj)) (l:dj) (i:Nat) (a:List (dj×JT)) (k:Nat),dn v f b l i=.ok (a,k)->(1<=k/\k<=l.length)/\gA a<=30*k/\∀M,l.length<=M->mB M a:=by
 intro f;induction f with
 | zero=>intro b l i G k h;simp[dn]at h
 | succ f ih=>
   intro b l i a k h;rw[dn]at h;dsimp only at h;split at h
   ·cases h
   ·rename_i K m x
    obtain⟨F,o⟩:=jV x;rw[Kk]at o;split at h
    ·cases h
    ·split at h
     ·rename_i H L y
      split at h
      ·split at h
       ·cases h
       ·rename_i t n A
        obtain⟨z,B,g⟩:=p _ _ _ _ A;rw[Kk]at z g;split at h
        ·rename_i c r q
         have D:=gu q;split at h
         ·split at h
          ·cases h
          ·rename_i I E s
           obtain⟨w,C,j⟩:=ih _ _ _ _ _ s;rw[Kk]at w j;injection h with h;injection h with d e;subst d;subst e;refine⟨by omega,by simp only[gA];omega,fun M u=>?_⟩;rw[mB];exact⟨by omega,g M (by omega),j M (by omega)⟩
         ·split at h
          ·injection h with h;injection h with d e;subst d;subst e
           refine⟨by omega,by simp only[gA];omega,fun M u=>?_⟩;rw[mB,mB];exact⟨by omega,g M (by omega),trivial⟩
          ·cases h
        ·cases h
      ·cases h
     ·cases h
theorem AH(v:dj->Nat->JR JT)(f:∀l i t n,v l i=.ok (t,n)->xU l t n)(l:dj)(i:Nat)(t:JT)(n:Nat)(h:dM v l i=.ok (t,n)):xU l t n:=by
 unfold dM at h;dsimp only at h;split at h
 ·rename_i c
  injection h with h;injection h with b a;subst b;subst a;have d:1+nb (l.drop 1)<l.length:=by
   by_cases d:1+nb (l.drop 1)<l.length
   ·exact d
   ·rw[J8 (by omega)]at c;simp at c
  exact⟨by omega,by simp only[ep,jj];omega,fun M _=>by simp[fK,pg]⟩
 ·split at h
  ·cases h
  ·rename_i p k g
   obtain⟨j,m,e⟩:=BC v f _ _ _ _ _ g;rw[Kk]at j e;injection h with h;injection h with b a;subst b;subst a;exact⟨by omega,by simp only[ep];omega,fun M o=>by rw[fK];exact e M (by omega)⟩
theorem AZ(v:dj->Nat->JR JT)(f:∀l i t n,v l i=.ok (t,n)->xU l t n)(l:dj)(i:Nat)(t:JT)(n:Nat)(h:db v l i=.ok (t,n)):xU l t n:=by
 unfold db at h;dsimp only at h;split at h
 ·rename_i c
  injection h with h;injection h with b a;subst b;subst a;have d:1+nb (l.drop 1)<l.length:=by
   by_cases d:1+nb (l.drop 1)<l.length
   ·exact d
   ·rw[J8 (by omega)]at c;simp at c
  exact⟨by omega,by simp only[ep,gA];omega,fun M _=>by simp[fK,mB]⟩
 ·split at h
  ·cases h
  ·rename_i p k g
   obtain⟨j,m,e⟩:=BS v f _ _ _ _ _ _ g;rw[Kk]at j e;injection h with h;injection h with b a;subst b;subst a;exact⟨by omega,by simp only[ep];omega,fun M o=>by rw[fK];exact e M (by omega)⟩
theorem mm:∀(d:Nat) (l:dj) (i:Nat) (t:JT) (n:Nat),valL d l i=.ok (t,n)->xU l t n:=by
 intro d;induction d with
 | zero=>
   intro l i t n h;match l with
   | []=>rw[eK]at h;cases h
   | c::r=>
     rw[cG]at h;generalize (c::r)=L at *;split at h
     ·split at h
      ·cases h
      ·rename_i g;have:=jV g;injection h with h;injection h with a e;subst a;subst e;exact⟨by omega,by simp only[ep];omega,fun M f=>by rw[fK];omega⟩
     ·split at h
      ·split at h
       ·cases h
       ·rename_i g;have:=na g;injection h with h;injection h with a e;subst a;subst e;exact⟨by omega,by simp only[ep];omega,fun M f=>by rw[fK];omega⟩
      ·split at h
       ·obtain⟨a,e,⟨b,rfl⟩|rfl⟩:=pZ h
        ·exact⟨a,by simp only[ep];omega,fun M f=>by simp[fK]⟩
        ·exact⟨a,by simp only[ep];omega,fun M f=>by simp[fK]⟩
       ·split at h<;>cases h
 | succ d ih=>
   intro l i t n h;match l with
   | []=>rw[eK]at h;cases h
   | c::r=>
     rw[cG]at h;generalize (c::r)=L at *;split at h
     ·split at h
      ·cases h
      ·rename_i g;have:=jV g;injection h with h;injection h with a e;subst a;subst e;exact⟨by omega,by simp only[ep];omega,fun M f=>by rw[fK];omega⟩
     ·split at h
      ·split at h
       ·cases h
       ·rename_i g;have:=na g;injection h with h;injection h with a e;subst a;subst e;exact⟨by omega,by simp only[ep];omega,fun M f=>by rw[fK];omega⟩
      ·split at h
       ·obtain⟨a,e,⟨b,rfl⟩|rfl⟩:=pZ h
        ·exact⟨a,by simp only[ep];omega,fun M f=>by simp[fK]⟩
        ·exact⟨a,by simp only[ep];omega,fun M f=>by simp[fK]⟩
       ·split at h
        ·dsimp only at h
         split at h
         ·exact AH _ ih _ _ _ _ h
         ·exact AZ _ ih _ _ _ _ h
        ·cases h
theorem nw{l:dj}{t:JT}(h:cB l=.ok t):ep t<=1966080/\fK 65536 t/\t.size<=65536:=by
 unfold cB at h;split at h
 ·cases h
 ·rename_i g
  dsimp only at h;split at h
  ·cases h
  ·rename_i f n a
   obtain⟨c,e,b⟩:=mm _ _ _ _ _ a;have d:=jH _ _ _ _ _ a;rw[Kk]at c b;split at h
   ·cases h
   ·injection h with h;subst h
    exact⟨by omega,b 65536 (by omega),by omega⟩
theorem Bc(a:Nat->Nat->Bool)(g:Nat->Nat)(x:Nat)(l:hH):((ie a x l).map g).sum=g x+(l.map g).sum:=by
 induction l with
 | nil=>simp[ie]
 | cons y r ih=>
   rw[ie];split
   ·simp only[JW,Mj,ih];omega
   ·simp
theorem nV(g:Nat->Nat)(l:hH):(l.reverse.map g).sum=(l.map g).sum:=by
 induction l with
 | nil=>rfl
 | cons x r ih=>simp only[List.reverse_cons,Kj,Ni,ih,JW,Ko,Mj,List.sum_nil];omega
theorem BB(a:Nat->Nat->Bool)(g:Nat->Nat)(l:hH)(x:Nat):((fP a l x).map g).sum=g x+(l.map g).sum:=by
 unfold fP;rw[nV,Bc,nV]
theorem Cg(b:Nat->Nat->Bool)(g:Nat->Nat)(l:hH):∀a:hH,((l.foldl (fP b) a).map g).sum=(a.map g).sum+(l.map g).sum:=by
 induction l with
 | nil=>intro a;simp
 | cons x r ih=>intro a;rw[La,ih,BB];simp only[JW,Mj];omega
theorem nO(a:Nat->Nat->Bool)(g:Nat->Nat)(l:hH):((eE a l).map g).sum=(l.map g).sum:=by
 unfold eE;rw[Cg];simp
theorem wi(f:Nat->dj)(a:hH):∀j,j<=a.length->(ct f a j).length<=((a.take j).map fun k=>(f k).length+1).sum:=by
 intro j;induction j with
 | zero=>intro _;simp[ct]
 | succ j ih=>
   intro d;have b:a[j]?=some a[j]:=JF (by omega);rw[ct,Lf,b,KJ,b];simp only[JH,Kj,Ni,Option.toList_some,JW,Ko,Mj,List.sum_nil,Option.getD_some];split
   ·simp only[JY];omega
   ·simp only[JM,JY];omega
theorem A2(g:Nat->Nat)(l:hH)(j:Nat):((l.take j).map g).sum<=(l.map g).sum:=by
 have h:(l.map g).sum=((l.take j).map g).sum+((l.drop j).map g).sum:=by
  rw[<-Ni,<-Kj,Mc]
 omega
theorem gn(f:Nat->dj)(a:hH)(j:Nat)(b:j<=a.length):(ct f a j).length<=(a.map fun k=>(f k).length+1).sum:=
 Ki (wi f a j b) (A2 _ _ _)
def ju(L:oa)(b:Nat)(key:dj)(t:JT):Prop:=∀j,j<t.size->L[b+j]?=(flat b key t)[j]?
def mP(L:oa)(b:Nat)(ts:List JT):Prop:=∀j,j<cC ts->L[b+j]?=(fG b ts)[j]?
def ka(L:oa)(b:Nat)(ms:List (dj×JT)):Prop:=∀j,j<cp ms->L[b+j]?=(dF b ms)[j]?
theorem ju.arr{L:oa}{b:Nat}{c:dj}{a:List JT}{i:Nat}(h:ju L b c (.arr a i)):mP L (b+1) a:=fun j d=>by
 have:=h (j+1) (by rw[JT.size];omega);rw[flat,Kh]at this;rw[show b+1+j=b+(j+1)by omega];exact this
theorem ju.obj{L:oa}{b:Nat}{c:dj}{a:List (dj×JT)}{i:Nat}(h:ju L b c (.obj a i)):ka L (b+1) a:=fun j d=>by
 have:=h (j+1) (by rw[JT.size];omega);rw[flat,Kh]at this;rw[show b+1+j=b+(j+1)by omega];exact this
theorem mP.head{L:oa}{b:Nat}{t:JT}{r:List JT}(h:mP L b (t::r)):ju L b [] t:=fun j a=>by
 have:=h j (by rw[cC];omega);rw[fG,J4 (by rw[cJ];exact a)]at this;exact this
theorem mP.tail{L:oa}{b:Nat}{t:JT}{r:List JT}(h:mP L b (t::r)):mP L (b+t.size) r:=fun j a=>by
 have:=h (t.size+j) (by rw[cC];omega);rw[fG,J9 (by rw[cJ];omega),cJ,KZ]at this;rw[show b+t.size+j=b+(t.size+j)by omega];exact this
theorem ka.head{L:oa}{b:Nat}{k:dj}{t:JT}{r:List (dj×JT)}(h:ka L b ((k,t)::r)):ju L b k t:=fun j a=>by
 have:=h j (by rw[cp];omega);rw[dF,J4 (by rw[cJ];exact a)]at this;exact this
theorem ka.tail{L:oa}{b:Nat}{k:dj}{t:JT}{r:List (dj×JT)}(h:ka L b ((k,t)::r)):ka L (b+t.size) r:=fun j a=>by
 have:=h (t.size+j) (by rw[cp];omega);rw[dF,J9 (by rw[cJ];omega),cJ,KZ]at this;rw[show b+t.size+j=b+(t.size+j)by omega];exact this
theorem ju.first{L:oa}{b:Nat}{a:dj}{t:JT}(h:ju L b a t):L[b]?=(flat b a t)[0]?:=h 0 (by have:=eM t;omega)
theorem ju.key{L:oa}{b:Nat}{c:dj}{t:JT}(h:ju L b c t):keyL L b=c:=by
 have a:=h.first;cases t<;>(rw[flat]at a;exact gc a)
theorem jz(t:dj):(dk t).length<=6*t.length+2:=by
 have:=ll t;unfold dk;simp only[JH,JM,JY];omega
theorem kA(n:Int)(b: -9223372036854775808<=n)(a:n<=9223372036854775807):(ew n).length<=21:=by
 unfold ew;split
 ·have:=oh (n:=(-n).toNat) (by omega);simp only[JM];omega
 ·have:=oh (n:=n.toNat) (by omega);omega
theorem CU(L:oa)(F:Nat->dj)(e:∀b d t,ju L b d t->fK 65536 t->(F b).length<=ep t):∀(a:List JT) (b:Nat),mP L b a->pg 65536 a->((d9 b a).map fun k=>(F k).length+1).sum<=jj a:=by
 intro a;induction a with
 | nil=>intro b _ _;simp[d9,jj]
 | cons t r ih=>
   intro b h c;rw[pg]at c;have f:=e b [] t h.head c.1;have g:=ih _ h.tail c.2;rw[d9,jj,JW,Mj];omega
theorem zk(L:oa)(F:Nat->dj)(f:∀b e t,ju L b e t->fK 65536 t->(F b).length<=ep t):∀(a:List (dj×JT)) (b:Nat),ka L b a->mB 65536 a->((cq b a).map fun k=>(fc L F k).length+1).sum<=gA a:=by
 intro a;induction a with
 | nil=>intro b _ _;simp[cq,gA]
 | cons m r ih=>
   obtain⟨k,t⟩:=m;intro b h c;rw[mB]at c;have j:=f b k t h.head c.2.1;have i:=ih _ h.tail c.2.2;have g:=jz k;have d:(fc L F b).length=(dk k).length+1+(F b).length:=by
    unfold fc;rw[h.head.key,JH,JM];omega
   rw[cq,gA,JW,Mj,d];omega
theorem ib(L:oa):∀(f b:Nat) (d:dj) (t:JT),ju L b d t->fK 65536 t->(formN L f b).length<=ep t:=by
 intro f;induction f with
 | zero=>intro b d t _ _;simp[formN]
 | succ f ih=>
   intro b d t h c;have a:=h.first;cases t with
   | null i=>rw[flat]at a;rw[formN,a];simp[ep]
   | truth x i=>rw[flat]at a;rw[formN,a];cases x<;>simp[ep]
   | int n i=>rw[flat]at a;rw[formN,a];rw[fK]at c;have:=kA n c.1 c.2;simp only[Kv,ep];simpa using this
   | str s i=>rw[flat]at a;rw[formN,a];have:=jz s;simp only[Kv,ep];simpa using this
   | arr j i=>
     have k:=CU L (formN L f) (ih · · ·) j (b+1) h.arr (by rw[fK]at c;exact c);rw[flat]at a;have g:=gn (formN L f) (d9 (b+1) j) _ (JQ _);rw[formN,a];simp[ep];omega
   | obj e i=>
     have k:=zk L (formN L f) (ih · · ·) e (b+1) h.obj (by rw[fK]at c;exact c);rw[flat]at a;have g:=gn (fc L (formN L f)) (eE (dZ L) (cq (b+1) e)) (cq (b+1) e).length (Mt (gj _ _).symm);rw[nO]at g;rw[formN,a];simp[ep];omega
mutual
theorem uI(L:oa)(b:Nat)(key:dj)(t:JT)(h:ju L b key t)(ho:fK 65536 t):∀k,k<t.size->∃key' t',ju L (b+k) key' t'/\fK 65536 t'/\ep t'<=ep t:=by
 intro k hk;cases k with
 | zero=>exact⟨key,t,h,ho,JQ _⟩
 | succ k=>
   cases t with
   | null i=>rw[JT.size]at hk;omega
   | truth x i=>rw[JT.size]at hk;omega
   | int n i=>rw[JT.size]at hk;omega
   | str s i=>rw[JT.size]at hk;omega
   | arr ts i=>
     obtain⟨key',t',g1,g2,g3⟩:=vZ L (b+1) ts h.arr (by rw[fK]at ho;exact ho) k (by rw[JT.size]at hk;omega);rw[show b+1+k=b+(k+1)by omega]at g1;exact⟨key',t',g1,g2,by rw[ep];omega⟩
   | obj ms i=>
     obtain⟨key',t',g1,g2,g3⟩:=qP L (b+1) ms h.obj (by rw[fK]at ho;exact ho) k (by rw[JT.size]at hk;omega);rw[show b+1+k=b+(k+1)by omega]at g1;exact⟨key',t',g1,g2,by rw[ep];omega⟩
theorem vZ(L:oa)(b:Nat)(ts:List JT)(h:mP L b ts)(ho:pg 65536 ts):∀k,k<cC ts->∃key' t',ju L (b+k) key' t'/\fK 65536 t'/\ep t'<=jj ts:=by
 intro k hk;cases ts with
 | nil=>rw[cC]at hk;omega
 | cons t r=>
   rw[pg]at ho;by_cases hl:k<t.size
   ·obtain⟨key',t',g1,g2,g3⟩:=uI L b [] t h.head ho.1 k hl
    exact⟨key',t',g1,g2,by rw[jj];omega⟩
   ·obtain⟨key',t',g1,g2,g3⟩:=vZ L (b+t.size) r h.tail ho.2 (k-t.size) (by rw[cC]at hk;omega)
    rw[show b+t.size+(k-t.size)=b+k by omega]at g1;exact⟨key',t',g1,g2,by rw[jj];omega⟩
theorem qP(L:oa)(b:Nat)(ms:List (dj×JT))(h:ka L b ms)(ho:mB 65536 ms):∀k,k<cp ms->∃key' t',ju L (b+k) key' t'/\fK 65536 t'/\ep t'<=gA ms:=by
 intro k hk;cases ms with
 | nil=>rw[cp]at hk;omega
 | cons m r=>
   obtain⟨n,t⟩:=m;rw[mB]at ho;by_cases hl:k<t.size
   ·obtain⟨key',t',g1,g2,g3⟩:=uI L b n t h.head ho.2.1 k hl
    exact⟨key',t',g1,g2,by rw[gA];omega⟩
   ·obtain⟨key',t',g1,g2,g3⟩:=qP L (b+t.size) r h.tail ho.2.2 (k-t.size) (by rw[cp]at hk;omega)
    rw[show b+t.size+(k-t.size)=b+k by omega]at g1;exact⟨key',t',g1,g2,by rw[gA];omega⟩
end
theorem sub_self(t:JT):ju (flat 0 [] t) 0 [] t:=fun j a=>by rw[J3]
theorem vK(t:JT)(z:fK 65536 t)(A:ep t<=1966080):q9 (flat 0 [] t):=by
 have m:=uI (flat 0 [] t) 0 [] t (sub_self t) z;have r:∀(k:Nat) (n:Nd),(flat 0 [] t)[k]?=some n->k<t.size:=fun k n c=>by
  have:=(JG.1 c).1;rw[cJ]at this;exact this
 generalize B:flat 0 [] t=L at *;refine⟨fun f k=>?_,fun f k n c g j o=>?_,fun f k n c h j o=>?_⟩
 ·cases f with
  | zero=>simp[formN]
  | succ f=>
    cases w:L[k]? with
    | none=>rw[formN,w];simp
    | some n=>
      obtain⟨u,e,b,d,l⟩:=m k (r k n w);rw[J3]at b;have:=ib L (f+1) k u e b d;omega
 ·obtain⟨u,e,b,d,l⟩:=m k (r k n c)
  rw[J3]at b;have a:=b.first;rw[c]at a;cases e with
  | null i=>rw[flat]at a;injection a with a;subst a;simp at g
  | truth x i=>rw[flat]at a;injection a with a;subst a;simp at g
  | int n i=>rw[flat]at a;injection a with a;subst a;simp at g
  | str s i=>rw[flat]at a;injection a with a;subst a;simp at g
  | arr p i=>
    have y:=CU L (formN L f) (ib L f) p (k+1) b.arr (by rw[fK]at d;exact d);rw[flat]at a;injection a with a;subst a;have v:=gn (formN L f) (d9 (k+1) p) j o;rw[ep]at l;dsimp only;omega
  | obj q i=>rw[flat]at a;injection a with a;subst a;simp at g
 ·obtain⟨u,e,b,d,l⟩:=m k (r k n c)
  rw[J3]at b;have a:=b.first;rw[c]at a;cases e with
  | null i=>rw[flat]at a;injection a with a;subst a;simp at h
  | truth x i=>rw[flat]at a;injection a with a;subst a;simp at h
  | int n i=>rw[flat]at a;injection a with a;subst a;simp at h
  | str s i=>rw[flat]at a;injection a with a;subst a;simp at h
  | arr p i=>rw[flat]at a;injection a with a;subst a;simp at h
  | obj q i=>
    have y:=zk L (formN L f) (ib L f) q (k+1) b.obj (by rw[fK]at d;exact d);rw[flat]at a;injection a with a;subst a;have v:=gn (fc L (formN L f)) (eE (dZ L) (cq (k+1) q)) j (by rw[gj];exact o);rw[nO]at v;rw[ep]at l;dsimp only;omega
theorem ey{l:dj}{t:JT}(h:cB l=.ok t):nJ (flat 0 [] t)/\q9 (flat 0 [] t):=by
 obtain⟨b,a,c⟩:=nw h;exact⟨AR 65536 t a (by omega) (by omega),vK t a b⟩
inductive U8:dj->Prop
 | nil:U8 []
 | cons (a r:dj) (h0:a≠[]) (h:seqLen a=a.length):U8 r->U8 (a++r)
theorem U8.append{a b:dj}(c:U8 a)(d:U8 b):U8 (a++b):=by
 induction c with
 | nil=>exact d
 | cons x r e h _ ih=>rw[J1];exact .cons x _ e h ih
theorem U8.one{a:dj}(b:a≠[])(h:seqLen a=a.length):U8 a:=by
 have:=U8.cons a [] b h .nil;rwa [KB]at this
theorem nA{a r:dj}{k d e:Nat}(h:ed a k d e=true):ed (a++r) k d e=true:=by
 unfold ed at h ⊢;cases b:a[k]? with
 | none=>rw[b]at h;cases h
 | some c=>
   have f:=(JG.1 b).1;rw[b]at h;rw[J4 f,b];exact h
theorem lI{l:dj}{n k a b:Nat}(c:k<n):ed (l.take n) k a b=ed l k a b:=by
 unfold ed;rw[List.getElem?_take_of_lt c]
theorem Ba(c:Nat):2<=dV c/\dV c<=4:=by unfold dV;split<;>(try split)<;>omega
theorem jf(a r:dj)(f:a≠[])(h:seqLen a=a.length):seqLen (a++r)=a.length:=by
 match a,f with
 | c::a',_=>
   rw[JS];unfold seqLen at h ⊢;simp only at h ⊢;by_cases d:c.toNat<128
   ·rw[if_pos d]at h ⊢;exact h
   ·rw[if_neg d]at h ⊢
    by_cases e:c.toNat<194\/244<c.toNat
    ·rw[if_pos e]at h;simp at h
    ·rw[if_neg e]at h ⊢
     split at h
     ·rename_i b
      rw[if_pos,h];simp only[Kz,Md]at b ⊢;rw[<-JS];exact⟨⟨nA b.1.1,b.1.2.imp id nA⟩,b.2.imp id nA⟩
     ·simp at h
theorem gr(l:dj)(h:seqLen l≠0):seqLen (l.take (seqLen l))=seqLen l/\seqLen l<=l.length:=by
 match l with
 | []=>exact absurd rfl h
 | c::r=>
   generalize a:seqLen (c::r)=q at h ⊢;unfold seqLen at a;simp only at a;by_cases d:c.toNat<128
   ·rw[if_pos d]at a
    subst a;refine⟨?_,by simp⟩;simp[seqLen,d]
   ·rw[if_neg d]at a
    by_cases j:c.toNat<194\/244<c.toNat
    ·rw[if_pos j]at a;omega
    ·rw[if_neg j]at a
     split at a
     ·rename_i b
      simp only[Kz,Md,Kx]at b;have y:=Ba c.toNat;have m:∀{k p n:Nat},ed (c::r) k p n=true->k<(c::r).length:=by
       intro k p n i;unfold ed at i;split at i
       ·rename_i x t;exact(JG.1 t).1
       ·cases i
      have u:q<=(c::r).length:=by
       have w:=m b.1.1;rcases b.1.2 with e|e
       ·omega
       ·have e:=m e
        rcases b.2 with f|f
        ·omega
        ·have f:=m f;omega
      refine⟨?_,u⟩;have s:(c::r).take q=c::r.take (q-1):=by
       obtain⟨o,rfl⟩:∃o,q=o+1:=⟨q-1,by omega⟩;simp
      rw[s];unfold seqLen;simp only;rw[if_neg d,if_neg j,<-s,if_pos,a];simp only[Kz,Md,Kx];refine⟨⟨?_,?_⟩,?_⟩
      ·rw[lI (by omega)];exact b.1.1
      ·by_cases g:dV c.toNat<=2
       ·exact .inl g
       ·rw[lI (by omega)];exact b.1.2
      ·by_cases g:dV c.toNat<=3
       ·exact .inl g
       ·rw[lI (by omega)];exact b.2
     ·omega
theorem ofNat_toNat(n:Nat)(h:n<256):(UInt8.ofNat n).toNat=n:=by simp;omega
theorem fg{l:dj}{k a b:Nat}(c:UInt8)(h:l[k]?=some c):ed l k a b=(decide (a<=c.toNat)&&decide (c.toNat<=b)):=by unfold ed;rw[h]
theorem zA(n:Nat)(h:n<55296\/57343<n)(e:n<1114112):U8 (fJ n):=by
 have d:fJ n≠[]:=by unfold fJ;repeat' split
                    all_goals simp
 refine .one d ?_;unfold fJ;split
 ·unfold seqLen;simp only;rw[ofNat_toNat _ (by omega),if_pos (by omega)];rfl
 ·split
  ·unfold seqLen;simp only
   rw[fg (k:=1) (UInt8.ofNat (128+n%64)) rfl];rw[ofNat_toNat _ (by omega),ofNat_toNat _ (by omega)];rw[if_neg (by omega),if_neg (by omega)];have b:dV (192+n/64)=2:=by unfold dV;rw[if_pos (by omega)]
   have c:ee (192+n/64)=128:=by unfold ee;rw[if_neg (by omega),if_neg (by omega)]
   have a:eu (192+n/64)=191:=by unfold eu;rw[if_neg (by omega),if_neg (by omega)]
   rw[b,c,a];rw[if_pos (by simp;omega)];rfl
  ·split
   ·unfold seqLen;simp only
    rw[fg (k:=1) (UInt8.ofNat (128+n/64%64)) rfl,fg (k:=2) (UInt8.ofNat (128+n%64)) rfl];rw[ofNat_toNat _ (by omega),ofNat_toNat _ (by omega),ofNat_toNat _ (by omega)];rw[if_neg (by omega),if_neg (by omega)];have b:dV (224+n/4096)=3:=by unfold dV;rw[if_neg (by omega),if_pos (by omega)]
    have c:ee (224+n/4096)<=128+n/64%64:=by unfold ee;repeat' split
                                            all_goals omega
    have a:128+n/64%64<=eu (224+n/4096):=by unfold eu;repeat' split
                                            all_goals omega
    rw[b,if_pos (by simp[c,a];omega)];rfl
   ·unfold seqLen;simp only
    rw[fg (k:=1) (UInt8.ofNat (128+n/4096%64)) rfl,fg (k:=2) (UInt8.ofNat (128+n/64%64)) rfl,fg (k:=3) (UInt8.ofNat (128+n%64)) rfl];rw[ofNat_toNat _ (by omega),ofNat_toNat _ (by omega),ofNat_toNat _ (by omega),ofNat_toNat _ (by omega)];rw[if_neg (by omega),if_neg (by omega)];have b:dV (240+n/262144)=4:=by unfold dV;rw[if_neg (by omega),if_neg (by omega)]
    have c:ee (240+n/262144)<=128+n/4096%64:=by unfold ee;repeat' split
                                                all_goals omega
    have a:128+n/4096%64<=eu (240+n/262144):=by unfold eu;repeat' split
                                                all_goals omega
    rw[b,if_pos (by simp[c,a];omega)];rfl
theorem EH{l t:dj}{n:Nat}(h:eQ l=.ok (t,n)):U8 t:=by
 unfold eQ at h;split at h
 ·rename_i a c r
  split at h
  ·rename_i b d
   injection h with h;injection h with e i;subst e;refine .one (by simp) ?_;have:b.toNat<128:=by
    unfold fo at d;repeat' split at d
    ·rename_i p;injection d with d;subst d;rcases p with rfl|rfl|rfl<;>decide
    all_goals first|(injection d with d;subst d;decide)|cases d
   unfold seqLen;simp only;rw[if_pos this];rfl
  ·split at h
   ·split at h
    ·cases h
    ·rename_i m o k
     have s:=(pK k).2;unfold fZ at h;split at h
     ·rename_i g
      injection h with h;injection h with e i;subst e;exact zA m g (by omega)
     ·rename_i g
      split at h
      ·cases h
      ·rename_i j f
       have q:56320<=j/\j<=57343:=by
        unfold dP at f;repeat' split at f
        all_goals first|(cases f;assumption)|cases f
       split at h
       ·cases h
       ·injection h with h;injection h with e i;subst e
        exact zA _ (.inr (by omega)) (by omega)
   ·cases h
 ·cases h
theorem Em:∀(f:Nat) (l t:dj) (n:Nat),strF f l=.ok (t,n)->U8 t:=by
 intro f;induction f with
 | zero=>intro l t n h;simp[strF]at h
 | succ f ih=>
   intro l t n h;match l with
   | []=>simp[strF]at h
   | c::r=>
     rw[strF]at h;have m:∀(g:dj) (k:Nat),U8 g->cL g k (strF f ((c::r).drop k))=.ok (t,n)->U8 t:=by
      intro g k v a;generalize (c::r)=L at *;cases b:strF f (L.drop k)with
      | error o=>rw[b]at a;simp[cL]at a
      | ok q=>
        obtain⟨j,i⟩:=q;have:=ih _ _ _ b;rw[b,cL]at a;injection a with a;injection a with d p;subst d;exact v.append this
     split at h
     ·injection h with h;injection h with d p;subst d;exact .nil
     ·split at h
      ·cases h
      ·split at h
       ·split at h
        ·cases h
        ·rename_i j i u
         exact m j i (EH u) h
       ·split at h
        ·cases h
        ·rename_i b
         have s:=gr (c::r) b;refine m _ _ (.one ?_ ?_) h
         ·intro e
          have:=KV List.length e;rw[J6]at this;simp at this;omega
         ·rw[s.1,J6];omega
theorem pe{l t:dj}{n:Nat}(h:da l=.ok (t,n)):U8 t:=by
 unfold da at h;split at h
 ·split at h
  ·split at h
   ·rename_i d c b
    have:=Em _ _ _ _ b;injection h with h;injection h with a e;subst a;exact this
   ·cases h
  ·cases h
 ·cases h
mutual
def gC:JT->Prop
 | .null _=>True
 | .truth _ _=>True
 | .int _ _=>True
 | .str _ _=>True
 | .arr ts _=>l8 ts
 | .obj ms _=>gP ms/\(ms.map Prod.fst).Pairwise (fun a b=>a≠b)
def l8:List JT->Prop
 | []=>True
 | t::r=>gC t/\l8 r
def gP:List (dj×JT)->Prop
 | []=>True
 | (k,t)::r=>U8 k/\gC t/\gP r
end
theorem AO(v:dj->Nat->JR JT)(d:∀l i t n,v l i=.ok (t,n)->gC t):∀(f:Nat) (l:dj) (i:Nat) (a:List JT) (k:Nat),dW v f l i=.ok (a,k)->l8 a:=by
 intro f;induction f with
 | zero=>intro l i a k h;simp[dW]at h
 | succ f ih=>
   intro l i a k h;rw[dW]at h;dsimp only at h;split at h
   ·cases h
   ·rename_i t n m
    have c:=d _ _ _ _ m;split at h
    ·split at h
     ·split at h
      ·cases h
      ·rename_i o p j
       have g:=ih _ _ _ _ j;injection h with h;injection h with b e;subst b;rw[l8];exact⟨c,g⟩
     ·split at h
      ·injection h with h;injection h with b e;subst b
       rw[l8,l8];exact⟨c,trivial⟩
      ·cases h
    ·cases h
theorem Ci(v:dj->Nat->JR JT)(s:∀l i t n,v l i=.ok (t,n)->gC t):∀(f:Nat) (g:List (dj)) (l:dj) (i:Nat) (d:List (dj×JT)) (k:Nat),dn v f g l i=.ok (d,k)->gP d/\(d.map Prod.fst).Pairwise (fun a b=>a≠b)/\∀x∈d.map Prod.fst,x∉g:=by
 intro f;induction f with
 | zero=>intro g l i E k h;simp[dn]at h
 | succ f ih=>
   intro g l i d k h;rw[dn]at h;dsimp only at h;split at h
   ·cases h
   ·rename_i G m z
    have o:=pe z;split at h
    ·cases h
    ·rename_i p
     split at h
     ·split at h
      ·split at h
       ·cases h
       ·rename_i t n C
        have q:=s _ _ _ _ C;split at h
        ·split at h
         ·split at h
          ·cases h
          ·rename_i F D w
           obtain⟨y,u,r⟩:=ih _ _ _ _ _ w;injection h with h;injection h with j B;subst j;refine⟨by rw[gP];exact⟨o,q,y⟩,?_,?_⟩
           ·rw[JW,KH]
            refine⟨fun x c e=>?_,u⟩;have:=r x c;apply this;rw[<-e];simp
           ·intro x c
            rw[JW]at c;rcases Ke.1 c with rfl|c
            ·exact p
            ·intro A;exact r x c (by simp[A])
         ·split at h
          ·injection h with h;injection h with j B;subst j
           refine⟨by rw[gP,gP];exact⟨o,q,trivial⟩,by simp,?_⟩;intro x c;simp only[JW,Ko,Lw]at c;rw[c];exact p
          ·cases h
        ·cases h
      ·cases h
     ·cases h
theorem Cq(v:dj->Nat->JR JT)(c:∀l i t n,v l i=.ok (t,n)->gC t)(l:dj)(i:Nat)(t:JT)(n:Nat)(h:dM v l i=.ok (t,n)):gC t:=by
 unfold dM at h;dsimp only at h;split at h
 ·injection h with h;injection h with a d;subst a;simp[gC,l8]
 ·split at h
  ·cases h
  ·rename_i e k b
   have g:=AO v c _ _ _ _ _ b;injection h with h;injection h with a d;subst a;rw[gC];exact g
theorem A1(v:dj->Nat->JR JT)(b:∀l i t n,v l i=.ok (t,n)->gC t)(l:dj)(i:Nat)(t:JT)(n:Nat)(h:db v l i=.ok (t,n)):gC t:=by
 unfold db at h;dsimp only at h;split at h
 ·injection h with h;injection h with a f;subst a;simp[gC,gP]
 ·split at h
  ·cases h
  ·rename_i g k c
   obtain⟨d,e,_⟩:=Ci v b _ _ _ _ _ _ c;injection h with h;injection h with a f;subst a;rw[gC];exact⟨d,e⟩
theorem si{l:dj}{i n:Nat}{t:JT}(h:df l i=.ok (t,n)):gC t:=by
 unfold df at h;dsimp only at h;repeat' split at h
 all_goals first|(cases h;simp[gC];done)|cases h
theorem Bx:∀(d:Nat) (l:dj) (i:Nat) (t:JT) (n:Nat),valL d l i=.ok (t,n)->gC t:=by
 intro d;induction d with
 | zero=>
   intro l i t n h;match l with
   | []=>rw[eK]at h;cases h
   | c::r=>
     rw[cG]at h;generalize (c::r)=L at *;split at h
     ·split at h
      ·cases h
      ·injection h with h;injection h with a b;subst a;simp[gC]
     ·split at h
      ·split at h
       ·cases h
       ·injection h with h;injection h with a b;subst a;simp[gC]
      ·split at h
       ·exact si h
       ·split at h<;>cases h
 | succ d ih=>
   intro l i t n h;match l with
   | []=>rw[eK]at h;cases h
   | c::r=>
     rw[cG]at h;generalize (c::r)=L at *;split at h
     ·split at h
      ·cases h
      ·injection h with h;injection h with a b;subst a;simp[gC]
     ·split at h
      ·split at h
       ·cases h
       ·injection h with h;injection h with a b;subst a;simp[gC]
      ·split at h
       ·exact si h
       ·split at h
        ·dsimp only at h
         split at h
         ·exact Cq _ ih _ _ _ _ h
         ·exact A1 _ ih _ _ _ _ h
        ·cases h
theorem rZ{l:dj}{t:JT}(h:cB l=.ok t):gC t:=by
 unfold cB at h;split at h
 ·cases h
 ·dsimp only at h
  split at h
  ·cases h
  ·rename_i b n a
   have:=Bx _ _ _ _ _ a;split at h
   ·cases h
   ·injection h with h;subst h;exact this
def vA(L:oa):Prop:=∀(k:Nat) (n:Nd),L[k]?=some n->n.kind=5->(∀c∈n.kids,U8 (keyL L c))/\n.kids.Pairwise (fun a b=>keyL L a≠keyL L b)
theorem rN(L:oa):∀(a:List (dj×JT)) (b:Nat),ka L b a->(cq b a).map (keyL L)=a.map Prod.fst
 | [],b,h=>rfl
 | (k,t)::r,b,h=>by
   rw[cq,JW,JW,h.head.key,rN L r _ h.tail]
theorem Ev:∀(b:List (dj×JT)),gP b->∀x∈b.map Prod.fst,U8 x
 | [],_,x,a=>by simp at a
 | (k,t)::r,h,x,a=>by
   rw[gP]at h;rw[JW]at a;rcases Ke.1 a with rfl|a
   ·exact h.1
   ·exact Ev r h.2.2 x a
def uN(L:oa)(k:Nat):Prop:=∀n,L[k]?=some n->n.kind=5->(∀c∈n.kids,U8 (keyL L c))/\n.kids.Pairwise (fun a b=>keyL L a≠keyL L b)
mutual
theorem pa(L:oa):∀(t:JT) (b:Nat) (key:dj),ju L b key t->gC t->∀j,j<t.size->uN L (b+j)
 | .null i,b,key,h,ho,j,hj=>fun n hn hk=>by
   have h1:j=0:=by simp[JT.size]at hj;omega
   subst h1;rw[h 0 hj]at hn;simp[flat]at hn;subst hn;simp at hk
 | .truth x i,b,key,h,ho,j,hj=>fun n hn hk=>by
   have h1:j=0:=by simp[JT.size]at hj;omega
   subst h1;rw[h 0 hj]at hn;simp[flat]at hn;subst hn;simp at hk
 | .int x i,b,key,h,ho,j,hj=>fun n hn hk=>by
   have h1:j=0:=by simp[JT.size]at hj;omega
   subst h1;rw[h 0 hj]at hn;simp[flat]at hn;subst hn;simp at hk
 | .str x i,b,key,h,ho,j,hj=>fun n hn hk=>by
   have h1:j=0:=by simp[JT.size]at hj;omega
   subst h1;rw[h 0 hj]at hn;simp[flat]at hn;subst hn;simp at hk
 | .arr ts i,b,key,h,ho,j,hj=>by
   match j with
   | 0=>intro n hn hk;rw[h 0 hj]at hn;simp[flat]at hn;subst hn;simp at hk
   | j+1=>
     rw[gC]at ho;have:=rO L ts (b+1) h.arr ho j (by simp[JT.size]at hj;omega);rwa [show b+(j+1)=b+1+j by omega]
 | .obj ms i,b,key,h,ho,j,hj=>by
   rw[gC]at ho;match j with
   | 0=>
     intro n hn hk;rw[h 0 hj]at hn;simp[flat]at hn;subst hn;simp only;have hkk:=rN L ms (b+1) h.obj;refine⟨fun c hc=>?_,?_⟩
     ·refine Ev ms ho.1 _ ?_
      rw[<-hkk];exact Np hc
     ·have:=ho.2
      rw[<-hkk]at this;exact M1.1 this
   | j+1=>
     have:=r8 L ms (b+1) h.obj ho.1 j (by simp[JT.size]at hj;omega);rwa [show b+(j+1)=b+1+j by omega]
theorem rO(L:oa):∀(ts:List JT) (b:Nat),mP L b ts->l8 ts->∀j,j<cC ts->uN L (b+j)
 | [],b,h,ho,j,hj=>by simp[cC]at hj
 | t::r,b,h,ho,j,hj=>by
   rw[l8]at ho;by_cases h1:j<t.size
   ·exact pa L t b [] h.head ho.1 j h1
   ·have:=rO L r (b+t.size) h.tail ho.2 (j-t.size) (by simp[cC]at hj;omega)
    rwa [show b+t.size+(j-t.size)=b+j by omega]at this
theorem r8(L:oa):∀(ms:List (dj×JT)) (b:Nat),ka L b ms->gP ms->∀j,j<cp ms->uN L (b+j)
 | [],b,h,ho,j,hj=>by simp[cp]at hj
 | (k,t)::r,b,h,ho,j,hj=>by
   rw[gP]at ho;by_cases h1:j<t.size
   ·exact pa L t b k h.head ho.2.1 j h1
   ·have:=r8 L r (b+t.size) h.tail ho.2.2 (j-t.size) (by simp[cp]at hj;omega)
    rwa [show b+t.size+(j-t.size)=b+j by omega]at this
end
theorem wh{t:JT}(h:gC t):vA (flat 0 [] t):=by
 intro k n a c;have b:k<t.size:=by have:=(JG.1 a).1;rwa [cJ]at this
 have:=pa (flat 0 [] t) t 0 [] (fun j d=>by rw[J3]) h k b;rw[J3]at this;exact this n a c
theorem tP(a r:dj)(k:Nat)(h:k<a.length):(a++r).getD k 0=a.getD k 0:=by
 rw[KJ,KJ,J4 h]
theorem wk(a r:dj)(n:Nat):∀k,k<a.length->runeTo (a++r) n k=runeTo a n k:=by
 intro k;induction k with
 | zero=>intro h;simp only[runeTo];rw[tP a r 0 h]
 | succ k ih=>intro h;simp only[runeTo];rw[ih (by omega),tP a r _ h]
theorem gh(a r:dj)(b:a≠[])(h:seqLen a=a.length):fb (a++r)=a.length/\fb a=a.length:=by
 have c:=LL.2 b;unfold fb;rw[jf a r b h,h,if_neg (by omega)];exact⟨rfl,rfl⟩
theorem xD(a r:dj)(b:a≠[])(h:seqLen a=a.length):cN (a++r)=cN a:=by
 have c:=LL.2 b;unfold cN;rw[(gh a r b h).1,(gh a r b h).2,wk a r _ _ (by omega)]
theorem jd(a r:dj)(b:a≠[])(h:seqLen a=a.length):unitsL (a++r)=dx (cN a)++unitsL r:=by
 rw[lm _ (by simp[b]),xD a r b h,(gh a r b h).1,KS rfl]
theorem iW(x:Nat)(b:UInt8)(h:x=b.toNat):UInt8.ofNat x=b:=by subst h;simp
theorem oP(a:dj)(o:a≠[])(h:seqLen a=a.length):fJ (cN a)=a/\(cN a<55296\/57343<cN a)/\cN a<1114112:=by
 have q:=(gh a [] o h).2;unfold cN;rw[q];match a,o with
 | c::a',_=>
   unfold seqLen at h;simp only at h;by_cases j:c.toNat<128
   ·rw[if_pos j]at h
    simp at h;subst h;have r:runeTo [c] [c].length ([c].length-1)=c.toNat:=by simp[runeTo]
    rw[r];refine⟨?_,by omega,by omega⟩;unfold fJ;rw[if_pos j,iW _ c rfl]
   ·rw[if_neg j]at h
    by_cases m:c.toNat<194\/244<c.toNat
    ·rw[if_pos m]at h;simp at h
    ·rw[if_neg m]at h
     split at h
     ·rename_i p
      simp only[Kz,Md,Kx]at p;obtain⟨⟨b,f⟩,g⟩:=p;by_cases k:c.toNat<224
      ·have e:dV c.toNat=2:=by unfold dV;rw[if_pos k]
       have u:ee c.toNat=128:=by unfold ee;rw[if_neg (by omega),if_neg (by omega)]
       have t:eu c.toNat=191:=by unfold eu;rw[if_neg (by omega),if_neg (by omega)]
       rw[e]at h;rw[u,t]at b;match a',h with
       | [d],_=>
         rw[fg d rfl]at b;simp only[Kz,Kx]at b;simp only[JM,JY,runeTo,J3,Nat.reduceAdd,Nat.reduceSub,LX,LY,Nat.reducePow,Nat.reduceLeDiff,L1];refine⟨?_,by omega,by omega⟩;unfold fJ;rw[if_neg (by omega),if_pos (by omega),iW _ c (by omega),iW _ d (by omega)]
      ·by_cases n:c.toNat<240
       ·have e:dV c.toNat=3:=by unfold dV;rw[if_neg k,if_pos n]
        rw[e]at h f;match a',h with
        | [d,e2],_=>
          rw[fg d rfl]at b;rw[fg e2 rfl]at f;simp only[Kz,Kx]at b f;have s:128<=e2.toNat/\e2.toNat<=191:=f.resolve_left (by omega);have gl:128<=d.toNat/\d.toNat<=191/\(c.toNat=224->160<=d.toNat)/\(c.toNat=237->d.toNat<=159):=by
           unfold ee eu at b;obtain⟨i,l⟩:=b;repeat' split at i
           all_goals repeat' split at l
           all_goals refine⟨?_,?_,?_,?_⟩
           all_goals omega
          simp only[JM,JY,runeTo,J3,Nat.reduceAdd,Nat.reduceSub,LX,LY,Nat.reducePow,Nat.reduceLeDiff,L1];refine⟨?_,by omega,by omega⟩;unfold fJ;rw[if_neg (by omega),if_neg (by omega),if_pos (by omega),iW _ c (by omega),iW _ d (by omega),iW _ e2 (by omega)]
       ·have e:dV c.toNat=4:=by unfold dV;rw[if_neg k,if_neg n]
        rw[e]at h f g;match a',h with
        | [d,e2,f2],_=>
          rw[fg d rfl]at b;rw[fg e2 rfl]at f;rw[fg f2 rfl]at g;simp only[Kz,Kx]at b f g;have gl:128<=d.toNat/\d.toNat<=191/\(c.toNat=240->144<=d.toNat)/\(c.toNat=244->d.toNat<=143):=by
           unfold ee eu at b;obtain⟨i,l⟩:=b;repeat' split at i
           all_goals repeat' split at l
           all_goals refine⟨?_,?_,?_,?_⟩
           all_goals omega
          simp only[JM,JY,runeTo,J3,Nat.reduceAdd,Nat.reduceSub,LX,LY,Nat.reducePow,Nat.reduceLeDiff,L1];refine⟨?_,by omega,by omega⟩;unfold fJ;rw[if_neg (by omega),if_neg (by omega),if_neg (by omega),iW _ c (by omega),iW _ d (by omega),iW _ e2 (by omega),iW _ f2 (by omega)]
     ·simp at h
theorem xP(x y:Nat)(r s:hH)(c:(x<55296\/57343<x)/\x<1114112)(d:(y<55296\/57343<y)/\y<1114112)(h:dx x++r=dx y++s):x=y/\r=s:=by
 unfold dx at h;by_cases b:x<65536
 ·rw[if_pos b]at h
  by_cases a:y<65536
  ·rw[if_pos a]at h
   simp at h;exact h
  ·rw[if_neg a]at h
   simp at h;omega
 ·rw[if_neg b]at h
  by_cases a:y<65536
  ·rw[if_pos a]at h
   simp at h;omega
  ·rw[if_neg a]at h
   simp at h;refine⟨by omega,h.2.2⟩
theorem rP{a:dj}(p:U8 a):∀{b:dj},U8 b->unitsL a=unitsL b->a=b:=by
 induction p with
 | nil=>
   intro b f h;cases f with
   | nil=>rfl
   | cons x r d c q=>
     rw[jc,jd x r d c]at h;have e:=KV List.length h;have n:=rV (cN x);rw[JH,JY]at e;omega
 | cons x r d c _ ih=>
   intro b f h;cases f with
   | nil=>
     rw[jc,jd x r d c]at h;have e:=KV List.length h;have n:=rV (cN x);rw[JH,JY]at e;omega
   | cons y s g j l=>
     rw[jd x r d c,jd y s g j]at h;have i:=oP x d c;have k:=oP y g j;obtain⟨m,o⟩:=xP _ _ _ _ i.2 k.2 h;rw[ih l o,<-i.1,<-k.1,m]
theorem px:∀a:hH,c7 a a=false
 | []=>rfl
 | x::r=>by rw[c7,if_pos rfl];exact px r
theorem j4:∀a b:hH,a≠b->c7 a b=false->c7 b a=true
 | [],[],h,_=>absurd rfl h
 | [],y::s,_,h=>by simp[c7]at h
 | x::r,[],_,_=>by simp[c7]
 | x::r,y::s,h,h1=>by
   rw[c7]at h1 ⊢;by_cases e:x=y
   ·subst e
    rw[if_pos rfl]at h1 ⊢;exact j4 r s (fun e=>h (by rw[e])) h1
   ·rw[if_neg e]at h1
    rw[if_neg (Ne.symm e)];simp at h1 ⊢;omega
theorem jq:∀a b:hH,c7 a b=true->c7 b a=false
 | [],[],h=>by simp[c7]at h
 | [],y::s,_=>by simp[c7]
 | x::r,[],h=>by simp[c7]at h
 | x::r,y::s,h=>by
   rw[c7]at h ⊢;by_cases e:x=y
   ·subst e
    rw[if_pos rfl]at h ⊢;exact jq r s h
   ·rw[if_neg e]at h
    rw[if_neg (Ne.symm e)];simp at h ⊢;omega
theorem gO:∀a b c:hH,c7 a b=true->c7 b c=true->c7 a c=true
 | _,[],[],_,h2=>by simp[c7]at h2
 | [],[],_::_,_,_=>by simp[c7]
 | _::_,[],_::_,h1,_=>by simp[c7]at h1
 | _,_::_,[],_,h2=>by simp[c7]at h2
 | [],_::_,_::_,_,_=>by simp[c7]
 | x::r,y::s,z::t,h1,h2=>by
   rw[c7]at h1 h2 ⊢;by_cases e:x=y
   ·subst e
    rw[if_pos rfl]at h1;by_cases d:x=z
    ·subst d
     rw[if_pos rfl]at h2 ⊢;exact gO r s t h1 h2
    ·rw[if_neg d]at h2 ⊢;exact h2
   ·rw[if_neg e]at h1
    by_cases d:y=z
    ·subst d
     rw[if_neg e];exact h1
    ·rw[if_neg d]at h2
     simp at h1 h2;rw[if_neg (by omega)];simp;omega
theorem xe(a:Nat->Nat->Bool)(x:Nat)(l:hH):(ie a x l).Perm (x::l):=by
 induction l with
 | nil=>exact .refl _
 | cons y r ih=>
   simp only[ie];split
   ·exact(List.Perm.cons y ih).trans (.swap x y r)
   ·exact .refl _
theorem rF(a:Nat->Nat->Bool)(l:hH)(x:Nat):(fP a l x).Perm (x::l):=by
 unfold fP;exact(LG _).trans ((xe a x _).trans (List.Perm.cons x (LG l)))
theorem xz(b:Nat->Nat->Bool)(l:hH):∀a,(l.foldl (fP b) a).Perm (l++a):=by
 induction l with
 | nil=>intro a;exact .refl _
 | cons x r ih=>
   intro a;rw[La];refine(ih _).trans ?_;refine(Me r (rF b a x)).trans ?_;exact MN
theorem AF(a:Nat->Nat->Bool)(l:hH):(eE a l).Perm l:=by
 have:=xz a l [];rwa [KB]at this
theorem xF(d:Nat->Nat->Bool)(j:∀a b c,d a b=true->d b c=true->d a c=true)(x:Nat)(l:hH)(i:∀y∈l,d x y=false->d y x=true)(h:l.Pairwise (fun a b=>d b a=true)):(ie d x l).Pairwise (fun a b=>d b a=true):=by
 induction l with
 | nil=>simp[ie]
 | cons y r ih=>
   rw[KH]at h;simp only[ie];split
   ·rename_i f
    rw[KH];refine⟨fun b e=>?_,ih (fun z k=>i z (KE _ k)) h.2⟩;rcases insR_mem d x r b e with rfl|e
    ·exact f
    ·exact h.1 b e
   ·rename_i f
    have g:=i y (by simp) (by simpa using f);rw[KH,KH];refine⟨fun b e=>?_,h.1,h.2⟩;rcases Ke.1 e with rfl|e
    ·exact g
    ·exact j _ _ _ (h.1 b e) g
theorem ud(d:Nat->Nat->Bool)(k:∀a b c,d a b=true->d b c=true->d a c=true)(l:hH):∀f:hH,(l++f).Pairwise (fun a b=>d a b=true\/d b a=true)->f.Pairwise (fun a b=>d a b=true)->(l.foldl (fP d) f).Pairwise (fun a b=>d a b=true):=by
 induction l with
 | nil=>intro f _ h;exact h
 | cons x r ih=>
   intro f g h;rw[La];rw[JS,KH]at g;refine ih _ ?_ ?_
   ·refine L6 (l:=x::(r++f)) ?_ ?_ (fun {a b} h=>h.symm)
    ·rw[KH];exact g
    ·exact(MN.symm).trans (Me r (rF d f x).symm)
   ·unfold fP
    rw[MK];refine xF d k x _ (fun y j i=>?_) ?_
    ·rcases g.1 y (by simp at j;simp[j])with e|e
     ·rw[e]at i;cases i
     ·exact e
    ·rw[MK];exact h
theorem AP(d:Nat->Nat->Bool)(k:∀a b c,d a b=true->d b c=true->d a c=true)(p:∀a b,d a b=true->d b a=false)(e xs:hH)(j:e.Pairwise (fun a b=>d a b=true\/d b a=true))(i:xs.Perm e)(m:xs.Pairwise (fun a b=>d b a=false)):xs=eE d e:=by
 have n:xs.Pairwise (fun a b=>d a b=true\/d b a=true):=L6 j i.symm (fun {a b} h=>h.symm);have l:xs.Pairwise (fun a b=>d a b=true):=by
  refine(n.and m).imp ?_;rintro a b ⟨g|g,f⟩
  ·exact g
  ·rw[g]at f;cases f
 have o:(eE d e).Pairwise (fun a b=>d a b=true):=ud d k e [] (by rw[KB];exact j) .nil;refine List.Perm.eq_of_pairwise (le:=fun a b=>d a b=true) ?_ l o (i.trans (AF d e).symm);intro a b _ _ g f;rw[p a b g]at f;cases f
theorem qN(L:oa):(∀a b c,dZ L a b=true->dZ L b c=true->dZ L a c=true)/\(∀a b,dZ L a b=true->dZ L b a=false):=
 ⟨fun a b c d e=>gO _ _ _ d e,fun a b h=>jq _ _ h⟩
theorem zf(L:oa)(d:hH)(f:∀c∈d,U8 (keyL L c))(g:d.Pairwise (fun a b=>keyL L a≠keyL L b)):d.Pairwise (fun a b=>dZ L a b=true\/dZ L b a=true):=by
 induction d with
 | nil=>exact .nil
 | cons x r ih=>
   rw[KH]at g ⊢;refine⟨fun b i=>?_,ih (fun c k=>f c (KE _ k)) g.2⟩;have j:unitsL (keyL L x)≠unitsL (keyL L b):=fun e=>g.1 b i (rP (f x (by simp)) (f b (KE _ i)) e)
   by_cases h:dZ L x b=true
   ·exact .inl h
   ·exact .inr (j4 _ _ j (Bool.not_eq_true _▸h))
theorem tA(d:Nat)(h:d<10):d8 (UInt8.ofNat (48+d))=true/\(UInt8.ofNat (48+d)).toNat=48+d:=by
 have e:(UInt8.ofNat (48+d)).toNat=48+d:=ofNat_toNat _ (by omega);refine⟨?_,e⟩;unfold d8;rw[e];simp;omega
theorem Gv(a b:dj)(d:nd a=a.length):nd (a++b)=a.length+nd b:=by
 induction a with
 | nil=>simp
 | cons c r ih=>
   rw[nd]at d;split at d
   ·rename_i e
    rw[JS,nd,if_pos e,ih (by simp at d;exact d)];simp;omega
   ·simp at d
theorem pn:∀(a:dj) (n:Nat) (c:UInt8),accN n (a++[c])=(if accN n a<=cH then 10*accN n a+(c.toNat-48)else accN n a)
 | [],n,c=>rfl
 | b::r,n,c=>by rw[JS,accN,pn r];rfl
theorem l4(x:Nat):nd (dR x)=(dR x).length/\1<=(dR x).length/\(10<=x->(dR x).head?≠some 48)/\(1<(dR x).length->10<=x)/\(1<=x->(dR x).head?≠some 48)/\((x/10<=cH->accN 0 (dR x)=x)/\(cH<x/10->cH<accN 0 (dR x))):=by
 induction x using Nat.strongRecOn with
 | ind x ih=>
   by_cases h:x<10
   ·obtain⟨d,c⟩:=tA x h
    rw[io x h];refine⟨by rw[nd,if_pos d];rfl,by simp,by omega,by simp,fun q e=>?_,fun _=>?_,fun b=>?_⟩
    ·simp only[Lr,Lg]at e
     have:=KV UInt8.toNat e;rw[c]at this;simp at this;omega
    ·simp only[accN,c]
     rw[if_pos (by unfold cH;omega)];omega
    ·unfold cH at b;omega
   ·obtain⟨m,j,p,o,i,g,l⟩:=ih (x/10) (by omega)
    obtain⟨d,c⟩:=tA (x%10) (by omega);rw[kD x (by omega)];have b:(dR (x/10)++[UInt8.ofNat (48+x%10)]).head?=(dR (x/10)).head?:=by
     cases k:dR (x/10)with
     | nil=>rw[k]at j;simp at j
     | cons a r=>rfl
    refine⟨?_,by rw[JH];omega,fun _=>?_,fun _=>by omega,fun _=>?_,fun f=>?_,fun f=>?_⟩
    ·rw[Gv _ _ m,JH,nd,if_pos d];rfl
    ·rw[b];exact i (by omega)
    ·rw[b];exact i (by omega)
    ·rw[pn,g (by omega),if_pos f,c];omega
    ·rw[pn]
     by_cases n:x/10/10<=cH
     ·rw[g n,if_neg (by omega)];exact f
     ·have:=l (by omega)
      rw[if_neg (by omega)];exact this
theorem Ab(x:Nat):(cH<accN 0 (dR x)↔cH<x)/\(x<=cH->accN 0 (dR x)=x):=by
 obtain⟨_,_,_,_,_,a,b⟩:=l4 x;by_cases h:x/10<=cH
 ·rw[a h];exact⟨Iff.rfl,fun _=>rfl⟩
 ·have c:=b (by omega)
  refine⟨⟨fun _=>?_,fun _=>c⟩,fun d=>?_⟩
  ·have:=Nat.div_le_self x 10;omega
  ·have:=Nat.div_le_self x 10;omega
theorem mc(n:Int):∃x:Nat,x=n.natAbs/\((n<0/\ew n=45::dR x/\1<=x)\/(0<=n/\ew n=dR x)):=by
 refine⟨n.natAbs,rfl,?_⟩;unfold ew;by_cases h:n<0
 ·rw[if_pos h]
  refine .inl ⟨h,?_,by omega⟩;rw[show(-n).toNat=n.natAbs by omega]
 ·rw[if_neg h]
  refine .inr ⟨by omega,?_⟩;rw[show n.toNat=n.natAbs by omega]
theorem kX(x:Nat):∃c r,dR x=c::r/\d8 c=true/\c≠45:=by
 obtain⟨a,b,_⟩:=l4 x;cases d:dR x with
 | nil=>rw[d]at b;simp at b
 | cons c r=>
   rw[d,nd]at a;split at a
   ·rename_i f
    exact⟨c,r,rfl,f,fun e=>by subst e;simp[d8]at f⟩
   ·simp at a
theorem Av(n:Int):di (ew n)=(if n< -9007199254740991\/9007199254740991<n then .error (3,0)else .ok (n,(ew n).length)):=by
 obtain⟨x,t,o⟩:=mc n;obtain⟨l,w,j,m,_,_⟩:=l4 x;obtain⟨b,k⟩:=Ab x;obtain⟨c,r,s,u,q⟩:=kX x;unfold di;dsimp only;rcases o with⟨p,e,v⟩|⟨p,e⟩
 ·rw[e]
  have g:(if(45::dR x).head?=some 45 then 1 else 0)=1:=by simp
  rw[g,List.drop_one,List.tail_cons,l,LD]
  rw[if_neg (by rintro(h|⟨f,i⟩);· omega
                ·exact j (m f) i)]
  by_cases a:cH<x
  ·rw[if_pos (b.2 a),if_pos (by unfold cH at a;omega)]
  ·rw[if_neg (fun h=>a (b.1 h)),if_pos rfl,k (by omega),if_neg (show ¬(n< -9007199254740991\/9007199254740991<n)by unfold cH at a;omega)]
   rw[JM];have d:(-(x:Int))=n:=by omega
   rw[d,Nj]
 ·rw[e]
  have g:(if(dR x).head?=some 45 then 1 else 0)=0:=by rw[s];simp[q]
  rw[g,K3,l,LD]
  rw[if_neg (by rintro(h|⟨f,i⟩);· omega
                ·exact j (m f) i)]
  by_cases a:cH<x
  ·rw[if_pos (b.2 a),if_pos (by unfold cH at a;omega)]
  ·rw[if_neg (fun h=>a (b.1 h)),if_neg (show ¬(0=1)by omega),k (by omega),if_neg (show ¬(n< -9007199254740991\/9007199254740991<n)by unfold cH at a;omega)]
   have d:((x:Nat):Int)=n:=by omega
   rw[d,J3]
end Go.Proofs.YtihboehpeehlmaaGreatDoor
