import Derived.Test.YtihboehpeehlmaaGreatDoorX1
set_option linter.unusedVariables false
namespace Go.Proofs.YtihboehpeehlmaaGreatDoor
def cD:List (dj)->dj
 | []=>[]
 | [a]=>a
 | a::b::r=>a++44::cD (b::r)
theorem pQ:∀(l:List (dj)) (x:dj),cD (l++[x])=cD l++(if l=[]then []else [44])++x
 | [],x=>by simp[cD]
 | [a],x=>by simp[cD]
 | a::b::r,x=>by
   have h:=pQ (b::r) x;simp only[JS,cD]at h ⊢;rw[h];simp
theorem oE(F:Nat->dj)(a:hH):∀j,j<=a.length->ct F a j=cD ((a.take j).map F)
 | 0,_=>by simp[ct,cD]
 | j+1,h=>by
   have c:j<a.length:=h;rw[ct,oE F a j (by omega),Lf,JF c];simp only[Option.toList,Kj,JW,Ko];rw[pQ];have e:a.getD j 0=a[j]:=by rw[KJ,JF c];rfl
   rw[e];by_cases b:j=0
   ·subst b;simp
   ·have:(a.take j).map F≠[]:=by
     intro f;have d:=KV List.length f;rw[Kq,J6,JY]at d;omega
    rw[if_neg b,if_neg this]
theorem lZ(F:Nat->dj)(a:hH):ct F a a.length=cD (a.map F):=by
 rw[oE F a a.length (JQ _),LD]
def jU(x:dj×dj):List (dj×dj)->List (dj×dj)
 | []=>[x]
 | y::r=>if ef x.1 y.1=true then y::jU x r else x::y::r
def kg(l:List (dj×dj)):List (dj×dj):=l.foldl (fun a x=>(jU x a.reverse).reverse) []
theorem tT(L:oa)(F:Nat->dj)(x:Nat):∀l:hH,(ie (dZ L) x l).map (fun k=>(keyL L k,F k))=jU (keyL L x,F x) (l.map fun k=>(keyL L k,F k))
 | []=>rfl
 | y::r=>by
   simp only[ie,JW,jU];have e:dZ L x y=ef (keyL L x) (keyL L y):=rfl;rw[e];split
   ·rw[JW,tT L F x r]
   ·rfl
theorem wT(L:oa)(F:Nat->dj)(l:hH):(eE (dZ L) l).map (fun k=>(keyL L k,F k))=kg (l.map fun k=>(keyL L k,F k)):=by
 have h:∀(l b:hH),(l.foldl (fP (dZ L)) b).map (fun k=>(keyL L k,F k))=(l.map fun k=>(keyL L k,F k)).foldl (fun a x=>(jU x a.reverse).reverse) (b.map fun k=>(keyL L k,F k)):=by
  intro l;induction l with
  | nil=>intro b;rfl
  | cons x r ih=>
    intro b;rw[La,ih,JW,La];congr 1
    unfold fP;rw[Na,tT,Na]
 exact h l []
def eH(p:dj×dj):dj:=dk p.1++58::p.2
mutual
def cQ:JT->dj
 | .null _=>[110,117,108,108]
 | .truth b _=>if b then [116,114,117,101]else [102,97,108,115,101]
 | .int n _=>ew n
 | .str t _=>dk t
 | .arr ts _=>91::cD (gB ts)++[93]
 | .obj ms _=>123::cD ((kg (eU ms)).map eH)++[125]
def gB:List JT->List (dj)
 | []=>[]
 | t::r=>cQ t::gB r
def eU:List (dj×JT)->List (dj×dj)
 | []=>[]
 | (n,t)::r=>(n,cQ t)::eU r
end
theorem rr(L:oa)(f:Nat)(ih:∀(t:JT) (b:Nat) (c:dj),ju L b c t->t.size<=f->formN L f b=cQ t):∀(a:List JT) (b:Nat),mP L b a->cC a<=f->(d9 b a).map (formN L f)=gB a
 | [],b,h,hs=>rfl
 | t::r,b,h,hs=>by
   rw[cC]at hs;simp only[d9,JW,gB];rw[ih t b [] h.head (by omega),rr L f ih r _ h.tail (by omega)]
theorem nu(L:oa)(f:Nat)(ih:∀(t:JT) (b:Nat) (c:dj),ju L b c t->t.size<=f->formN L f b=cQ t):∀(a:List (dj×JT)) (b:Nat),ka L b a->cp a<=f->(cq b a).map (fun k=>(keyL L k,formN L f k))=eU a
 | [],b,h,hs=>rfl
 | (n,t)::r,b,h,hs=>by
   rw[cp]at hs;simp only[cq,JW,eU];rw[ih t b n h.head (by omega),h.head.key,nu L f ih r _ h.tail (by omega)]
theorem t6(L:oa):∀(f:Nat) (t:JT) (b:Nat) (g:dj),ju L b g t->t.size<=f->formN L f b=cQ t:=by
 intro f;induction f with
 | zero=>intro t b g h i;have:=eM t;omega
 | succ f ih=>
   intro t b g h i;have c:=h.first;cases t with
   | null a=>simp[flat]at c;simp[formN,c,cQ]
   | truth x a=>simp[flat]at c;cases x<;>simp[formN,c,cQ]
   | int n a=>simp[flat]at c;simp[formN,c,cQ]
   | str x a=>simp[flat]at c;simp[formN,c,cQ]
   | arr l a=>
     simp[flat]at c;simp only[formN,c];simp only[JT.size]at i;rw[if_neg (by decide),if_neg (by decide),if_neg (by decide),if_neg (by decide),if_pos trivial,lZ,rr L f ih l (b+1) h.arr (by omega),cQ]
   | obj d a=>
     simp[flat]at c;simp only[formN,c];simp only[JT.size]at i;have j:(cq (b+1) d).length=(eE (dZ L) (cq (b+1) d)).length:=(gj _ _).symm;rw[if_neg (by decide),if_neg (by decide),if_neg (by decide),if_neg (by decide),if_neg (by decide),j,lZ,cQ];have e:(eE (dZ L) (cq (b+1) d)).map (fc L (formN L f))=((eE (dZ L) (cq (b+1) d)).map (fun k=>(keyL L k,formN L f k))).map eH:=by
      rw[List.map_map];rfl
     rw[e,wT,nu L f ih d (b+1) h.obj (by omega)]
theorem kG(t:JT):prF (.ok t)=(cQ t,0,0):=by
 unfold prF;simp only;rw[cJ,t6 (flat 0 [] t) t.size t 0 [] (fun j a=>by rw[J3]) (JQ _)]
def xR(x:dj):Prop:=∀c r,x=c::r->d8 c=false/\jJ c=false
theorem oi:∀(y x:dj) (c:UInt8) (r:dj),y.drop (nb y)=c::r->nb (y++x)=nb y
 | [],x,c,r,h=>by simp at h
 | a::y,x,c,r,h=>by
   rw[JS,nb,nb];by_cases b:iS a=true
   ·rw[if_pos b,if_pos b]
    rw[nb,if_pos b,Lp]at h;rw[oi y x c r h]
   ·rw[if_neg b,if_neg b]
theorem fF(l x:dj)(k:Nat)(h:k<=l.length):(l++x).drop k=l.drop k++x:=List.drop_append_of_le_length h
theorem rW(l x:dj)(k:Nat)(b:k<=l.length)(c:UInt8)(r:dj)(h:l.drop (k+nb (l.drop k))=c::r):nb ((l++x).drop k)=nb (l.drop k)/\(l++x).drop (k+nb (l.drop k))=c::(r++x):=by
 have a:(l.drop k).drop (nb (l.drop k))=c::r:=by rw[L0];exact h
 have d:=gu h;refine⟨?_,?_⟩
 ·rw[fF l x k b];exact oi _ x c r a
 ·rw[fF l x _ (by omega),h,JS]
theorem vq(l x:dj)(h:seqLen l≠0):seqLen (l++x)=seqLen l:=by
 obtain⟨b,d⟩:=gr l h;have a:(l.take (seqLen l)).length=seqLen l:=by rw[J6];omega
 have c:l.take (seqLen l)≠[]:=fun e=>by rw[e]at a;simp at a;omega
 have:=jf (l.take (seqLen l)) (l.drop (seqLen l)++x) c (by rw[b,a]);rw[<-J1,Mc]at this;rw[this,a]
theorem nf:∀(k n:Nat) (l x:dj) (o m e:Nat),dH k n l o=(some m,e)->dH k n (l++x) o=(some m,e)
 | 0,n,l,x,o,m,e,h=>by simpa [dH]using h
 | k+1,n,[],x,o,m,e,h=>by simp[dH]at h
 | k+1,n,c::r,x,o,m,e,h=>by
   rw[JS];rw[dH]at h ⊢;cases a:fA c with
   | none=>rw[a]at h;simp at h
   | some d=>
     rw[a]at h;simp only at h ⊢;exact nf k _ r x _ m e h
theorem Aq(l x:dj)(m:Nat)(h:dP l=some m):dP (l++x)=some m:=by
 match l with
 | []=>simp[dP]at h
 | [a]=>simp[dP]at h
 | a::b::r=>
   rw[JS,JS];unfold dP at h ⊢;simp only at h ⊢;split at h
   ·rename_i e
    rw[if_pos e];cases c:(dt r).1 with
    | none=>rw[c]at h;simp at h
    | some n=>
      rw[c]at h;have d:dt r=(some n,(dt r).2):=Prod.ext c rfl;have:=nf 4 0 r x 0 _ _ d;have f:dt (r++x)=(some n,(dt r).2):=this;rw[f];exact h
   ·cases h
theorem A3(l x t:dj)(n:Nat)(h:eQ l=.ok (t,n)):eQ (l++x)=.ok (t,n):=by
 match l with
 | []=>simp[eQ]at h
 | [a]=>simp[eQ]at h
 | a::c::r=>
   rw[JS,JS];unfold eQ at h ⊢;simp only at h ⊢;cases i:fo c with
   | some b=>rw[i]at h;simpa using h
   | none=>
     rw[i]at h;simp only at h ⊢;split at h
     ·rename_i p
      rw[if_pos p];cases d:dt r with
      | mk o e=>
        cases o with
        | none=>rw[d]at h;simp at h
        | some m=>
          rw[d]at h;have k:dt (r++x)=(some m,e):=nf 4 0 r x 0 _ _ d;rw[k];simp only at h ⊢;have j:4<=r.length:=kk 4 0 r 0 _ _ d;rw[fF r x 4 j];unfold fZ at h ⊢;split at h
          ·rename_i f;rw[if_pos f];exact h
          ·rename_i f
           rw[if_neg f];cases g:dP (r.drop 4)with
           | none=>rw[g]at h;simp at h
           | some q=>
             rw[g]at h;rw[Aq _ x q g];exact h
     ·cases h
theorem Bq:∀(f a:Nat) (l x t:dj) (n:Nat),f<=a->strF f l=.ok (t,n)->strF a (l++x)=.ok (t,n):=by
 intro f;induction f with
 | zero=>intro a l x t n _ h;simp[strF]at h
 | succ f ih=>
   intro a l x t n D h;obtain⟨a,rfl⟩:∃g,a=g+1:=⟨a-1,by omega⟩;match l with
   | []=>simp[strF]at h
   | c::r=>
     have y:∀(m:dj) (k:Nat),k<=(c::r).length->cL m k (strF f ((c::r).drop k))=.ok (t,n)->cL m k (strF a ((c::r++x).drop k))=.ok (t,n):=by
      intro m k B i;rw[fF _ x k B];cases j:strF f ((c::r).drop k)with
      | error o=>rw[j]at i;simp[cL]at i
      | ok q=>
        obtain⟨e,b⟩:=q;rw[j]at i;rw[ih a _ x e b (by omega) j];exact i
     rw[JS];rw[strF]at h ⊢;split at h
     ·rename_i p;rw[if_pos p];exact h
     ·rename_i p
      rw[if_neg p];split at h
      ·cases h
      ·rename_i A
       rw[if_neg A];split at h
       ·rename_i u
        rw[if_pos u];cases d:eQ (c::r)with
        | error o=>rw[d]at h;simp at h
        | ok q=>
          obtain⟨e,b⟩:=q;rw[d]at h;have z:=A3 (c::r) x e b d;rw[JS]at z;rw[z];exact y e b (sq d) h
       ·rename_i u
        rw[if_neg u];split at h
        ·cases h
        ·rename_i s
         have w:=vq (c::r) x s;rw[JS]at w;have v:=(gr (c::r) s).2;rw[w,if_neg s];have C:(c::(r++x)).take (seqLen (c::r))=(c::r).take (seqLen (c::r)):=by rw[<-JS];exact Lo v
         rw[C];exact y _ _ v h
theorem jF{l t:dj}{n:Nat}(x:dj)(h:da l=.ok (t,n)):da (l++x)=.ok (t,n):=by
 match l with
 | []=>simp[da]at h
 | c::r=>
   rw[JS];unfold da at h ⊢;simp only at h ⊢;split at h
   ·rename_i e
    rw[if_pos e];cases a:jC r with
    | error o=>rw[a]at h;simp at h
    | ok q=>
      obtain⟨d,b⟩:=q;rw[a]at h;have:jC (r++x)=.ok (d,b):=Bq _ _ r x d b (by rw[JH];omega) a;rw[this];exact h
   ·cases h
theorem Gp(l x:dj)(a:xR x):nd (l++x)=nd l:=by
 induction l with
 | nil=>
   match x with
   | []=>rfl
   | c::r=>simp[nd,(a c r rfl).1]
 | cons c r ih=>rw[JS,nd,nd,ih]
theorem E9(l x:dj)(a:xR x):nl (l++x)=nl l:=by
 induction l with
 | nil=>
   match x with
   | []=>rfl
   | c::r=>simp[nl,(a c r rfl).2]
 | cons c r ih=>rw[JS,nl,nl,ih]
theorem CS:∀l:dj,nl l<=l.length
 | []=>JQ _
 | c::r=>by rw[nl];have:=CS r;split<;>simp<;>omega
theorem tM{l:dj}{m:Int}{n:Nat}(x:dj)(j:xR x)(h:di l=.ok (m,n)):di (l++x)=.ok (m,n):=by
 have p:=na h;match l with
 | []=>simp at p;omega
 | c::r=>
   unfold di at h ⊢;dsimp only at h ⊢;rw[JS,Lr];rw[Lr]at h;rw[<-JS];generalize q:(if some c=some (45:UInt8)then 1 else 0)=a at h ⊢;have k:a<=(c::r).length:=by rw[<-q];split<;>simp
   rw[fF _ x a k,Gp _ x j];have f:=oQ ((c::r).drop a);by_cases d:nd ((c::r).drop a)=0
   ·rw[d]at h;simp at h
   ·have i:(c::r).drop a≠[]:=fun e=>by rw[e]at d;exact d rfl
    have o:((c::r).drop a++x).head?=((c::r).drop a).head?:=by
     cases g:(c::r).drop a with
     | nil=>exact absurd g i
     | cons b s=>rfl
    rw[o,Lo f];exact h
theorem rk{l:dj}{i n:Nat}{t:JT}(x:dj)(a:xR x)(h:df l i=.ok (t,n)):df (l++x) i=.ok (t,n):=by
 unfold df at h ⊢;dsimp only at h ⊢;rw[E9 l x a,Lo (CS l)];exact h
def Ed(x:dj)(v:dj->Nat->JR JT):Prop:=∀l i t n,v l i=.ok (t,n)->n<=l.length/\v (l++x) i=.ok (t,n)
theorem BP(x:dj)(v:dj->Nat->JR JT)(u:Ed x v):∀(f a:Nat) (l:dj) (i:Nat) (d:List JT) (k:Nat),f<=a->dW v f l i=.ok (d,k)->dW v a (l++x) i=.ok (d,k):=by
 intro f;induction f with
 | zero=>intro a l i d k _ h;simp[dW]at h
 | succ f ih=>
   intro a l i d k G h;obtain⟨a,rfl⟩:∃g,a=g+1:=⟨a-1,by omega⟩;rw[dW]at h ⊢;dsimp only at h ⊢;cases j:v (l.drop (nb l)) (i+nb l)with
   | error e=>rw[j]at h;simp at h
   | ok q=>
     obtain⟨t,n⟩:=q;rw[j]at h;dsimp only at h;obtain⟨B,F⟩:=u _ _ _ _ j;rw[Kk]at B;have D:=lB l;have s:nb (l++x)=nb l:=by
      by_cases p:nb l<l.length
      ·exact oi l x _ _ (Kc p)
      ·have C:n=0:=by omega
       exfalso;rw[J8 (by omega)]at j h;subst C;rw[Ku,J8 (by omega)]at h;simp[nb,List.drop_of_length_le (show l.length<=nb l by omega)]at h
     rw[s,fF l x (nb l) D,F];dsimp only;cases b:l.drop (nb l+n+nb (l.drop (nb l+n)))with
     | nil=>rw[b]at h;simp at h
     | cons c r=>
       rw[b]at h;dsimp only at h;obtain⟨w,A⟩:=rW l x (nb l+n) (by omega) c r b;have p:=gu b;rw[w,A];dsimp only;split at h
       ·rename_i o
        rw[if_pos o];rw[fF l x _ (by omega)];cases m:dW v f (l.drop (nb l+n+nb (l.drop (nb l+n))+1)) (i+(nb l+n+nb (l.drop (nb l+n))+1))with
        | error e=>rw[m]at h;simp at h
        | ok z=>
          obtain⟨E,y⟩:=z;rw[m]at h;rw[ih a _ _ E y (by omega) m];exact h
       ·rename_i o
        rw[if_neg o];exact h
theorem Bp(x:dj)(v:dj->Nat->JR JT)(y:Ed x v):∀(f a:Nat) (b:List (dj)) (l:dj) (i:Nat) (u:List (dj×JT)) (k:Nat),f<=a->dn v f b l i=.ok (u,k)->dn v a b (l++x) i=.ok (u,k):=by
 intro f;induction f with
 | zero=>intro a b l i U k _ h;simp[dn]at h
 | succ f ih=>
   intro a b l i u k W h;obtain⟨a,rfl⟩:∃g,a=g+1:=⟨a-1,by omega⟩;rw[dn]at h ⊢;dsimp only at h ⊢;cases o:da (l.drop (nb l))with
   | error e=>rw[o]at h;simp at h
   | ok q=>
     obtain⟨T,m⟩:=q;rw[o]at h;dsimp only at h;have S:=jV o;rw[Kk]at S;have P:=lB l;have K:nb (l++x)=nb l:=oi l x _ _ (Kc (show nb l<l.length by omega));rw[K,fF l x (nb l) P,jF x o];dsimp only;split at h
     ·cases h
     ·rename_i E
      rw[if_neg E];cases j:l.drop (nb l+m+nb (l.drop (nb l+m)))with
      | nil=>rw[j]at h;simp at h
      | cons c r=>
        rw[j]at h;dsimp only at h;obtain⟨A,N⟩:=rW l x (nb l+m) (by omega) c r j;rw[A,N];dsimp only;generalize nb l+m+nb (l.drop (nb l+m))=B at *;split at h
        ·rename_i G
         rw[if_pos G];cases hw:v (l.drop (B+1+nb (l.drop (B+1)))) (i+(B+1+nb (l.drop (B+1))))with
         | error e=>rw[hw]at h;simp at h
         | ok q=>
           obtain⟨t,n⟩:=q;rw[hw]at h;dsimp only at h;obtain⟨O,H⟩:=y _ _ _ _ hw;rw[Kk]at O;have M:=lB (l.drop (B+1));rw[Kk]at M;cases d:l.drop (B+1+nb (l.drop (B+1))+n+nb (l.drop (B+1+nb (l.drop (B+1))+n)))with
           | nil=>rw[d]at h;simp at h
           | cons I C=>
             rw[d]at h;dsimp only at h;have V:=gu d;have R:nb ((l++x).drop (B+1))=nb (l.drop (B+1)):=by
              rw[fF l x _ (by omega)];by_cases w:nb (l.drop (B+1))<(l.drop (B+1)).length
              ·exact oi _ x _ _ (Kc w)
              ·exfalso;rw[Kk]at w;omega
             rw[R];rw[fF l x (B+1+nb (l.drop (B+1))) (by omega),H];dsimp only;obtain⟨J,F⟩:=rW l x (B+1+nb (l.drop (B+1))+n) (by omega) I C d;rw[J,F];dsimp only;split at h
             ·rename_i s
              rw[if_pos s];rw[fF l x _ (by omega)];generalize B+1+nb (l.drop (B+1))+n+nb (l.drop (B+1+nb (l.drop (B+1))+n))=D at *;cases p:dn v f (b++[T]) (l.drop (D+1)) (i+(D+1))with
              | error e=>rw[p]at h;simp at h
              | ok z=>
                obtain⟨Q,L⟩:=z;rw[p]at h;rw[ih a _ _ _ Q L (by omega) p];exact h
             ·rename_i s
              rw[if_neg s];exact h
        ·cases h
theorem As(x:dj)(v:dj->Nat->JR JT)(f:Ed x v)(l:dj)(i:Nat)(t:JT)(n:Nat)(h:dM v l i=.ok (t,n)):dM v (l++x) i=.ok (t,n):=by
 unfold dM at h ⊢;dsimp only at h ⊢;have j:=lB (l.drop 1);rw[Kk]at j;cases b:l.drop (1+nb (l.drop 1))with
 | nil=>
   rw[b]at h;simp at h;split at h
   ·cases h
   ·rename_i o k a
    exfalso;rw[dW]at a;dsimp only at a;simp only[nb,List.drop_nil]at a;split at a
    ·cases a
    ·cases a
 | cons c r=>
   have p:=gu b;obtain⟨g,m⟩:=rW l x 1 (by omega) c r b;rw[g,m,Lr];rw[b,Lr]at h;split at h
   ·rename_i d;rw[if_pos d];exact h
   ·rename_i d
    rw[if_neg d];cases a:dW v (l.length+1) (c::r) (i+(1+nb (l.drop 1)))with
    | error e=>rw[a]at h;simp at h
    | ok z=>
      obtain⟨o,k⟩:=z;rw[a]at h;have:=BP x v f _ ((l++x).length+1) _ _ _ _ (by rw[JH];omega) a;rw[JS]at this;rw[this];exact h
theorem Az(x:dj)(v:dj->Nat->JR JT)(f:Ed x v)(l:dj)(i:Nat)(t:JT)(n:Nat)(h:db v l i=.ok (t,n)):db v (l++x) i=.ok (t,n):=by
 unfold db at h ⊢;dsimp only at h ⊢;have j:=lB (l.drop 1);rw[Kk]at j;cases b:l.drop (1+nb (l.drop 1))with
 | nil=>
   rw[b]at h;simp at h;split at h
   ·cases h
   ·rename_i o k a
    exfalso;rw[dn]at a;simp[nb,da]at a
 | cons c r=>
   have p:=gu b;obtain⟨g,m⟩:=rW l x 1 (by omega) c r b;rw[g,m,Lr];rw[b,Lr]at h;split at h
   ·rename_i d;rw[if_pos d];exact h
   ·rename_i d
    rw[if_neg d];cases a:dn v (l.length+1) [] (c::r) (i+(1+nb (l.drop 1)))with
    | error e=>rw[a]at h;simp at h
    | ok z=>
      obtain⟨o,k⟩:=z;rw[a]at h;have:=Bp x v f _ ((l++x).length+1) _ _ _ _ _ (by rw[JH];omega) a;rw[JS]at this;rw[this];exact h
theorem Bh(x:dj)(j:xR x):∀d,Ed x (valL d):=by
 intro d;induction d with
 | zero=>
   intro l i t n h;refine⟨(mm _ _ _ _ _ h).1,?_⟩;match l with
   | []=>rw[eK]at h;cases h
   | c::r=>
     rw[JS];rw[cG]at h ⊢;rw[<-JS];generalize (c::r)=L at *;split at h
     ·rename_i b
      rw[if_pos b];cases a:da L with
      | error e=>rw[a]at h;simp at h
      | ok q=>rw[a]at h;rw[jF x a];exact h
     ·rename_i b
      rw[if_neg b];split at h
      ·rename_i f
       rw[if_pos f];cases a:di L with
       | error e=>rw[a]at h;simp at h
       | ok q=>rw[a]at h;rw[tM x j a];exact h
      ·rename_i f
       rw[if_neg f];split at h
       ·rename_i g
        rw[if_pos g];exact rk x j h
       ·split at h<;>cases h
 | succ d ih=>
   intro l i t n h;refine⟨(mm _ _ _ _ _ h).1,?_⟩;match l with
   | []=>rw[eK]at h;cases h
   | c::r=>
     rw[JS];rw[cG]at h ⊢;rw[<-JS];generalize (c::r)=L at *;split at h
     ·rename_i b
      rw[if_pos b];cases a:da L with
      | error e=>rw[a]at h;simp at h
      | ok q=>rw[a]at h;rw[jF x a];exact h
     ·rename_i b
      rw[if_neg b];split at h
      ·rename_i f
       rw[if_pos f];cases a:di L with
       | error e=>rw[a]at h;simp at h
       | ok q=>rw[a]at h;rw[tM x j a];exact h
      ·rename_i f
       rw[if_neg f];split at h
       ·rename_i g
        rw[if_pos g];exact rk x j h
       ·rename_i g
        rw[if_neg g];split at h
        ·rename_i m
         rw[if_pos m];dsimp only at h ⊢;split at h
         ·rename_i k
          rw[if_pos k];exact As x _ ih _ _ _ _ h
         ·rename_i k
          rw[if_neg k];exact Az x _ ih _ _ _ _ h
        ·cases h
theorem DF:∀n,n<32->fA (ij (n/16))=some (n/16)/\fA (ij (n%16))=some (n%16):=by decide
theorem AG(c:UInt8)(e:c.toNat<32)(l:dj):dt (48::48::ij (c.toNat/16)::ij (c.toNat%16)::l)=(some c.toNat,4):=by
 obtain⟨a,b⟩:=DF c.toNat e;have d:fA 48=some 0:=by decide
 unfold dt;simp only[dH,d,a,b];refine Prod.ext ?_ rfl;simp only[Lg];omega
theorem iL(f:Nat)(t:dj)(n:Nat)(l:dj)(h:eQ (92::l)=.ok (t,n)):strF (f+1) (92::l)=cL t n (strF f ((92::l).drop n)):=by
 rw[strF];simp[h]
theorem my(f:Nat)(a l:dj)(d:a≠[])(h:seqLen a=a.length)(i:∀c r,a=c::r->c≠34/\32<=c.toNat/\c≠92):strF (f+1) (a++l)=cL a a.length (strF f l):=by
 match a,d with
 | c::r,_=>
   obtain⟨e,j,g⟩:=i c r rfl;have b:=jf (c::r) l (by simp) h;rw[JS]at b ⊢;rw[strF];rw[if_neg e,if_neg (by omega),if_neg g,b,if_neg (by simp)];rw[<-JS,Lu rfl,KS rfl]
theorem lk(c:UInt8):cS [c]=eC c:=by simp[cS]
theorem dD(c:UInt8)(h:128<=c.toNat):eC c=[c]:=by
 have a:∀d:UInt8,d.toNat<128->c≠d:=fun d b e=>by rw[e]at h;omega
 unfold eC;rw[if_neg (by rintro(e|e)<;>exact a _ (by decide) e),if_neg (a _ (by decide)),if_neg (a _ (by decide)),if_neg (a _ (by decide)),if_neg (a _ (by decide)),if_neg (a _ (by decide)),if_neg (by omega)]
theorem BI(a:dj)(k:a≠[])(h:seqLen a=a.length)(l:dj)(f:Nat):strF (f+1) (cS a++l)=cL a (cS a).length (strF f l):=by
 rcases seq_cases a k h with⟨c,rfl,p⟩|⟨c,d,rfl,p⟩|⟨c,d,e,rfl,p⟩|⟨c,d,e,g,rfl,p⟩
 ·rw[lk]
  by_cases j:c=34\/c=92
  ·have e:eC c=[92,c]:=by unfold eC;rw[if_pos j]
   rw[e];rw[show [92,c]++l=92::(c::l)from rfl,iL f [c] 2 (c::l) (by rcases j with rfl|rfl<;>simp[eQ,fo])];rfl
  ·by_cases o:c=8
   ·subst o;rw[show eC 8=[92,98]by decide,show [92,98]++l=92::(98::l)from rfl,iL f [8] 2 (98::l) (by simp[eQ,fo])];rfl
   by_cases m:c=9
   ·subst m;rw[show eC 9=[92,116]by decide,show [92,116]++l=92::(116::l)from rfl,iL f [9] 2 (116::l) (by simp[eQ,fo])];rfl
   by_cases q:c=10
   ·subst q;rw[show eC 10=[92,110]by decide,show [92,110]++l=92::(110::l)from rfl,iL f [10] 2 (110::l) (by simp[eQ,fo])];rfl
   by_cases u:c=12
   ·subst u;rw[show eC 12=[92,102]by decide,show [92,102]++l=92::(102::l)from rfl,iL f [12] 2 (102::l) (by simp[eQ,fo])];rfl
   by_cases s:c=13
   ·subst s;rw[show eC 13=[92,114]by decide,show [92,114]++l=92::(114::l)from rfl,iL f [13] 2 (114::l) (by simp[eQ,fo])];rfl
   by_cases t:c.toNat<32
   ·have e:eC c=[92,117,48,48,ij (c.toNat/16),ij (c.toNat%16)]:=by
     unfold eC;rw[if_neg j,if_neg o,if_neg m,if_neg q,if_neg u,if_neg s,if_pos t]
    have w:fJ c.toNat=[c]:=by unfold fJ;rw[if_pos (by omega)];simp
    rw[e];rw[show [92,117,48,48,ij (c.toNat/16),ij (c.toNat%16)]++l=92::(117::48::48::ij (c.toNat/16)::ij (c.toNat%16)::l)from rfl];rw[iL f [c] 6 _ ?_]
    ·rfl
    ·have v:fo 117=none:=by decide
     simp only[eQ,v,if_true,AG c t l,fZ];rw[if_pos (by omega),w]
   ·have e:eC c=[c]:=by unfold eC;rw[if_neg j,if_neg o,if_neg m,if_neg q,if_neg u,if_neg s,if_neg t]
    rw[e];exact my f [c] l k h (fun n r b=>by
     injection b with b _;subst b;exact⟨fun e=>j (.inl e),by omega,fun e=>j (.inr e)⟩)
 ·rw[show cS [c,d]=[c,d]by simp[cS,dD c (by omega),dD d (by omega)]]
  exact my f [c,d] l k h (fun n r b=>by
   injection b with b _;subst b;refine⟨fun i=>?_,by omega,fun i=>?_⟩<;>(rw[i]at p;simp at p))
 ·rw[show cS [c,d,e]=[c,d,e]by simp[cS,dD c (by omega),dD d (by omega),dD e (by omega)]]
  exact my f [c,d,e] l k h (fun n r b=>by
   injection b with b _;subst b;refine⟨fun i=>?_,by omega,fun i=>?_⟩<;>(rw[i]at p;simp at p))
 ·rw[show cS [c,d,e,g]=[c,d,e,g]by simp[cS,dD c (by omega),dD d (by omega),dD e (by omega),dD g (by omega)]]
  exact my f [c,d,e,g] l k h (fun n r b=>by
   injection b with b _;subst b;refine⟨fun i=>?_,by omega,fun i=>?_⟩<;>(rw[i]at p;simp at p))
theorem Af(c:UInt8):1<=(eC c).length:=by
 unfold eC;repeat' split
 all_goals simp
theorem yz(a:dj)(h:a≠[]):1<=(cS a).length:=by
 match a,h with
 | c::r,_=>have:=Af c;simp only[cS,JH];omega
theorem yB{s:dj}(e:U8 s):∀(b:dj) (f:Nat),(cS s).length<f->strF f (cS s++34::b)=.ok (s,(cS s).length+1):=by
 induction e with
 | nil=>
   intro b f c;obtain⟨f,rfl⟩:∃g,f=g+1:=⟨f-1,by omega⟩;simp[cS,strF]
 | cons a r d h _ ih=>
   intro b f c;obtain⟨f,rfl⟩:∃g,f=g+1:=⟨f-1,by omega⟩;have i:=yz a d;rw[fW,JH]at c;rw[fW,J1,BI a d h,ih b f (by omega)];simp only[cL,JH];rw[LF]
theorem lF{s:dj}(a:U8 s):da (dk s)=.ok (s,(dk s).length):=by
 unfold da dk;simp only[JS,if_true];unfold jC;rw[yB a [] _ (by simp;omega)];simp
theorem vQ(c:UInt8)(f:c≠34)(g:32<=c.toNat)(b:c≠92):eC c=[c]:=by
 have a:∀d:UInt8,d.toNat<32->c≠d:=fun d h e=>by rw[e]at g;omega
 unfold eC;rw[if_neg (by rintro(e|e);exact f e;exact b e),if_neg (a _ (by decide)),if_neg (a _ (by decide)),if_neg (a _ (by decide)),if_neg (a _ (by decide)),if_neg (a _ (by decide)),if_neg (by omega)]
theorem BX(c:UInt8):(eC c).length<=6:=by
 unfold eC;repeat' split
 all_goals simp
theorem xd(a:dj)(b:a≠[])(h:seqLen a=a.length)(k:∀c r,a=c::r->c≠34/\32<=c.toNat/\c≠92):cS a=a:=by
 rcases seq_cases a b h with⟨c,rfl,p⟩|⟨c,d,rfl,p⟩|⟨c,d,e,rfl,p⟩|⟨c,d,e,g,rfl,p⟩
 ·obtain⟨f,j,i⟩:=k c [] rfl
  rw[lk,vQ c f j i]
 ·simp[cS,dD c (by omega),dD d (by omega)]
 ·simp[cS,dD c (by omega),dD d (by omega),dD e (by omega)]
 ·simp[cS,dD c (by omega),dD d (by omega),dD e (by omega),dD g (by omega)]
theorem kW:∀l:dj,(∀c∈l,128<=c.toNat)->cS l=l
 | [],_=>rfl
 | c::r,h=>by rw[cS,dD c (h c (by simp)),kW r (fun x a=>h x (by simp[a]))];rfl
theorem sV(n:Nat)(h:n<1114112):(cS (fJ n)).length<=6:=by
 unfold fJ;split
 ·rw[lk];exact BX _
 ·split
  ·have f:=ofNat_toNat (192+n/64) (by omega)
   have i:=ofNat_toNat (128+n%64) (by omega);generalize UInt8.ofNat (192+n/64)=a at *;generalize UInt8.ofNat (128+n%64)=b at *;rw[kW _ (by intro c d;simp at d;rcases d with rfl|rfl<;>omega)];simp
  ·split
   ·have f:=ofNat_toNat (224+n/4096) (by omega)
    have i:=ofNat_toNat (128+n/64%64) (by omega);have j:=ofNat_toNat (128+n%64) (by omega);generalize UInt8.ofNat (224+n/4096)=a at *;generalize UInt8.ofNat (128+n/64%64)=b at *;generalize UInt8.ofNat (128+n%64)=e at *;rw[kW _ (by intro c d;simp at d;rcases d with rfl|rfl|rfl<;>omega)];simp
   ·have f:=ofNat_toNat (240+n/262144) (by omega)
    have i:=ofNat_toNat (128+n/4096%64) (by omega);have j:=ofNat_toNat (128+n/64%64) (by omega);have k:=ofNat_toNat (128+n%64) (by omega);generalize UInt8.ofNat (240+n/262144)=a at *;generalize UInt8.ofNat (128+n/4096%64)=b at *;generalize UInt8.ofNat (128+n/64%64)=e at *;generalize UInt8.ofNat (128+n%64)=g at *;rw[kW _ (by intro c d;simp at d;rcases d with rfl|rfl|rfl|rfl<;>omega)];simp
theorem A8(c b:UInt8)(h:fo c=some b):(eC b).length<=2:=by
 unfold fo at h;split at h
 ·rename_i a
  injection h with h;subst h;rcases a with rfl|rfl|rfl<;>decide
 ·repeat' split at h
  all_goals first|cases h;done|(injection h with h;subst h;decide)
theorem tb:∀(k n:Nat) (l:dj) (o m b:Nat),dH k n l o=(some m,b)->m<(n+1)*16^k
 | 0,n,l,o,m,b,h=>by rw[dH]at h;injection h with a _;injection a with a;subst a;simp
 | k+1,n,[],o,m,b,h=>by rw[dH]at h;injection h with a _;cases a
 | k+1,n,c::r,o,m,b,h=>by
   rw[dH]at h;cases f:fA c with
   | none=>rw[f]at h;injection h with a _;cases a
   | some d=>
     rw[f]at h;have:=tb k _ r _ m b h;have g:=wV f;have:(16*n+d+1)*16^k<=(16*n+16)*16^k:=Ll _ (by omega);have e:(n+1)*16^(k+1)=(16*n+16)*16^k:=by rw[LU,show 16*n+16=(n+1)*16 by omega,Nat.mul_assoc,ML 16 (16^k)]
     omega
theorem x7{l t:dj}{n:Nat}(h:eQ l=.ok (t,n)):(cS t).length<=n:=by
 unfold eQ at h;split at h
 ·rename_i c r
  split at h
  ·rename_i b i
   injection h with h;injection h with e d;subst e;subst d;rw[lk];exact A8 _ _ i
  ·split at h
   ·split at h
    ·cases h
    ·rename_i m x g
     have k:=tb _ _ _ _ _ _ g;unfold fZ at h;split at h
     ·injection h with h;injection h with e d;subst e;subst d
      exact sV m (by omega)
     ·split at h
      ·cases h
      ·rename_i f a
       split at h
       ·cases h
       ·injection h with h;injection h with e d;subst e;subst d
        have j:f<=57343:=by
         unfold dP at a;split at a
         ·split at a
          ·split at a
           ·split at a
            ·injection a with a;omega
            ·cases a
           ·cases a
          ·cases a
         ·cases a
        have:=sV (65536+1024*(m-55296)+(f-56320)) (by omega);omega
   ·cases h
 ·cases h
theorem Cd:∀(f:Nat) (l t:dj) (n:Nat),strF f l=.ok (t,n)->(cS t).length+1<=n:=by
 intro f;induction f with
 | zero=>intro l t n h;simp[strF]at h
 | succ f ih=>
   intro l t n h;match l with
   | []=>simp[strF]at h
   | c::r=>
     rw[strF]at h;split at h
     ·injection h with h;injection h with b d;subst b;subst d;simp[cS]
     ·rename_i y
      split at h
      ·cases h
      ·rename_i E
       split at h
       ·split at h
        ·cases h
        ·rename_i C w j
         have B:=x7 j;cases a:strF f ((c::r).drop w)with
         | error o=>rw[a]at h;simp[cL]at h
         | ok z=>
           obtain⟨u,v⟩:=z;have x:=ih _ _ _ a;rw[a,cL]at h;injection h with h;injection h with b d;subst b;subst d;rw[fW,JH];omega
       ·rename_i q
        split at h
        ·cases h
        ·rename_i k
         cases a:strF f ((c::r).drop (seqLen (c::r)))with
         | error o=>rw[a]at h;simp[cL]at h
         | ok z=>
           obtain⟨u,v⟩:=z;have x:=ih _ _ _ a;rw[a,cL]at h;injection h with h;injection h with b d;subst b;subst d;obtain⟨m,A⟩:=gr _ k;have g:((c::r).take (seqLen (c::r))).length=seqLen (c::r):=by rw[J6];omega
           have s:(c::r).take (seqLen (c::r))≠[]:=fun e=>by rw[e]at g;simp at g;omega
           have e:=xd _ s (by rw[m,g]) (fun p D j=>by
            have:p=c:=by
             have i:=KV List.head? j;rw[List.head?_take,if_neg k]at i;simp at i;exact i.symm
            subst this;exact⟨y,by omega,q⟩)
           rw[fW,JH,e,g];omega
theorem nt{l t:dj}{n:Nat}(h:da l=.ok (t,n)):(dk t).length<=n:=by
 unfold da at h;split at h
 ·split at h
  ·split at h
   ·rename_i e d b
    injection h with h;injection h with a c;subst a;subst c;have:=Cd _ _ _ _ b;unfold dk;simp only[JH,JM,JY];omega
   ·cases h
  ·cases h
 ·cases h
theorem rE:∀(k x:Nat),1<=k->x<10^k->(dR x).length<=k
 | 0,x,h,_=>by omega
 | 1,x,_,h=>by rw[dR];simp at h;rw[dif_pos h];simp
 | k+2,x,_,h=>by
   rw[dR];split
   ·simp
   ·have:x/10<10^(k+1):=by
     rw[Nat.div_lt_iff_lt_mul (by omega)];rwa [LU]at h
    have:=rE (k+1) (x/10) (by omega) this;simp;omega
theorem v7:∀(l:dj) (n:Nat),(∀c∈l,d8 c=true)->accN n l<(n+1)*10^l.length
 | [],n,_=>by simp[accN]
 | c::r,n,h=>by
   have a:=h c (by simp);unfold d8 at a;simp at a;rw[accN];have f:=v7 r (if n<=cH then 10*n+(c.toNat-48)else n) (fun x b=>h x (by simp[b]));have:(if n<=cH then 10*n+(c.toNat-48)else n)+1<=10*(n+1):=by split<;>omega
   have d:=Ll (10^r.length) this;have e:(n+1)*10^(c::r).length=10*(n+1)*10^r.length:=by rw[JM,LU,ML 10 (n+1),Nat.mul_assoc,ML 10]
   omega
theorem zp:∀l:dj,∀c∈l.take (nd l),d8 c=true
 | [],c,h=>by simp at h
 | x::r,c,h=>by
   rw[nd]at h;split at h
   ·rename_i a
    rw[LW]at h;rcases Ke.1 h with rfl|h
    ·exact a
    ·exact zp r c h
   ·simp at h
theorem zL:∀l:dj,nd l<=l.length
 | []=>by simp[nd]
 | x::r=>by rw[nd];split<;>have:=zL r<;>simp<;>omega
theorem tE{l:dj}{m:Int}{n:Nat}(h:di l=.ok (m,n)):(ew m).length<=n/\ -9007199254740991<=m/\m<=9007199254740991:=by
 unfold di at h;dsimp only at h;generalize (if l.head?=some 45 then 1 else 0)=d at h;split at h
 ·cases h
 ·rename_i i
  split at h
  ·cases h
  ·rename_i g
   injection h with h;injection h with a c;generalize k:l.drop d=r at *;have b:=v7 (r.take (nd r)) 0 (zp r);have j:=rE (nd r) (accN 0 (r.take (nd r))) (by omega) (by
    have:(r.take (nd r)).length=nd r:=by rw[J6];have:=zL r;omega
    rw[this]at b;omega)
   have o:accN 0 (r.take (nd r))<=9007199254740991:=by
    have:cH=9007199254740991:=rfl;omega
   generalize accN 0 (r.take (nd r))=x at *;have e:(dR 0).length=1:=by rw[dR];simp
   split at a
   ·rename_i f
    subst a;rw[f]at c;refine⟨?_,by omega,by omega⟩;unfold ew;split
    ·have:(- -(x:Int)).toNat=x:=by omega
     rw[this,JM];omega
    ·have:(-(x:Int)).toNat=0:=by omega
     rw[this,e];omega
   ·subst a
    refine⟨?_,by omega,by omega⟩;unfold ew;rw[if_neg (by omega)];have:((x:Int)).toNat=x:=by omega
    rw[this];omega
mutual
def jP:JT->Prop
 | .null _=>True
 | .truth _ _=>True
 | .int n _=> -9007199254740991<=n/\n<=9007199254740991
 | .str s _=>U8 s
 | .arr ts _=>pW ts
 | .obj ms _=>km ms
def pW:List JT->Prop
 | []=>True
 | t::r=>jP t/\pW r
def km:List (dj×JT)->Prop
 | []=>True
 | (_,t)::r=>jP t/\km r
end
mutual
def ko:JT->Nat->Prop
 | .null _,_=>True
 | .truth _ _,_=>True
 | .int _ _,_=>True
 | .str _ _,_=>True
 | .arr ts _,d=>1<=d/\wo ts (d-1)
 | .obj ms _,d=>1<=d/\oI ms (d-1)
def wo:List JT->Nat->Prop
 | [],_=>True
 | t::r,d=>ko t d/\wo r d
def oI:List (dj×JT)->Nat->Prop
 | [],_=>True
 | (_,t)::r,d=>ko t d/\oI r d
end
theorem nF:∀l:List (dj),l≠[]->(cD l).length+1=(l.map fun a=>a.length+1).sum
 | [],h=>absurd rfl h
 | [a],_=>by simp[cD]
 | a::b::r,_=>by
   have:=nF (b::r) (by simp);simp only[cD,JH,JM,JW,Mj]at this ⊢;omega
theorem yV(x:dj×dj)(l:List (dj×dj)):(jU x l).Perm (x::l):=by
 induction l with
 | nil=>exact .refl _
 | cons y r ih=>
   simp only[jU];split
   ·exact(List.Perm.cons y ih).trans (.swap x y r)
   ·exact .refl _
theorem yw(l:List (dj×dj)):(kg l).Perm l:=by
 have h:∀(l b:List (dj×dj)),(l.foldl (fun a x=>(jU x a.reverse).reverse) b).Perm (l++b):=by
  intro l;induction l with
  | nil=>intro b;exact .refl _
  | cons x r ih=>
    intro b;rw[La];refine(ih _).trans ?_;refine(Me r ((LG _).trans ((yV x _).trans (List.Perm.cons x (LG b))))).trans ?_;exact MN
 have:=h l [];rwa [KB]at this
theorem sO{a b:hH}(h:a.Perm b):a.sum=b.sum:=by
 induction h with
 | nil=>rfl
 | cons x _ ih=>simp[ih]
 | swap x y l=>simp;omega
 | trans _ _ c d=>rw[c,d]
theorem rJ(l:List (dj×dj)):(cD ((kg l).map eH)).length=(cD (l.map eH)).length:=by
 by_cases f:l=[]
 ·subst f;rfl
 ·have d:=yw l
  have g:kg l≠[]:=fun e=>by rw[e]at d;exact f d.symm.eq_nil
  have a:=nF (l.map eH) (by simpa using f);have b:=nF ((kg l).map eH) (by simpa using g);have c:=sO ((d.map eH).map fun a=>a.length+1);omega
def u9(d:Nat)(t:JT)(n:Nat):Prop:=(cQ t).length<=n/\jP t/\ko t d
theorem Cx(d:Nat)(v:dj->Nat->JR JT)(o:∀l i t n,v l i=.ok (t,n)->u9 d t n):∀(f:Nat) (l:dj) (i:Nat) (a:List JT) (k:Nat),dW v f l i=.ok (a,k)->(cD (gB a)).length+1<=k/\a≠[]/\pW a/\wo a d:=by
 intro f;induction f with
 | zero=>intro l i a k h;simp[dW]at h
 | succ f ih=>
   intro l i a k h;rw[dW]at h;dsimp only at h;split at h
   ·cases h
   ·rename_i t n s
    obtain⟨x,g,e⟩:=o _ _ _ _ s;split at h
    ·split at h
     ·split at h
      ·cases h
      ·rename_i p w q
       obtain⟨r,m,u,j⟩:=ih _ _ _ _ q;injection h with h;injection h with b c;subst b;subst c;refine⟨?_,by simp,by rw[pW];exact⟨g,u⟩,by rw[wo];exact⟨e,j⟩⟩;match p,m with
       | t2::r2,_=>simp only[gB,cD,JH,JM]at r ⊢;omega
     ·split at h
      ·injection h with h;injection h with b c;subst b;subst c
       refine⟨by simp only[gB,cD];omega,by simp,by simp only[pW];exact⟨g,trivial⟩,by simp only[wo];exact⟨e,trivial⟩⟩
      ·cases h
    ·cases h
theorem Cm(d:Nat)(v:dj->Nat->JR JT)(p:∀l i t n,v l i=.ok (t,n)->u9 d t n):∀(f:Nat) (b:List (dj)) (l:dj) (i:Nat) (a:List (dj×JT)) (k:Nat),dn v f b l i=.ok (a,k)->(cD ((eU a).map eH)).length+1<=k/\a≠[]/\km a/\oI a d:=by
 intro f;induction f with
 | zero=>intro b l i A k h;simp[dn]at h
 | succ f ih=>
   intro b l i a k h;rw[dn]at h;dsimp only at h;split at h
   ·cases h
   ·rename_i D m u
    have B:=nt u;split at h
    ·cases h
    ·split at h
     ·split at h
      ·split at h
       ·cases h
       ·rename_i t n x
        obtain⟨C,g,j⟩:=p _ _ _ _ x;split at h
        ·split at h
         ·split at h
          ·cases h
          ·rename_i w z r
           obtain⟨s,q,y,o⟩:=ih _ _ _ _ _ r;injection h with h;injection h with c e;subst c;subst e;refine⟨?_,by simp,by rw[km];exact⟨g,y⟩,by rw[oI];exact⟨j,o⟩⟩;match w,q with
           | (n2,t2)::r2,_=>simp only[eU,JW,cD,eH,JH,JM]at s ⊢;omega
         ·split at h
          ·injection h with h;injection h with c e;subst c;subst e
           refine⟨by simp only[eU,JW,Ko,cD,eH,JH,JM];omega,by simp,by simp only[km];exact⟨g,trivial⟩,by simp only[oI];exact⟨j,trivial⟩⟩
          ·cases h
        ·cases h
      ·cases h
     ·cases h
theorem Bs(d:Nat)(v:dj->Nat->JR JT)(e:∀l i t n,v l i=.ok (t,n)->u9 d t n)(l:dj)(i:Nat)(t:JT)(n:Nat)(h:dM v l i=.ok (t,n)):u9 (d+1) t n:=by
 unfold dM at h;dsimp only at h;split at h
 ·injection h with h;injection h with b a;subst b;subst a
  exact⟨by simp only[cQ,gB,cD,JH,JM,JY];omega,by simp[jP,pW],by simp[ko,wo]⟩
 ·split at h
  ·cases h
  ·rename_i o k f
   obtain⟨m,j,g,c⟩:=Cx d v e _ _ _ _ _ f;injection h with h;injection h with b a;subst b;subst a;exact⟨by simp only[cQ,JH,JM,JY];omega,by rw[jP];exact g,by rw[ko];exact⟨by omega,c⟩⟩
theorem Ao(d:Nat)(v:dj->Nat->JR JT)(e:∀l i t n,v l i=.ok (t,n)->u9 d t n)(l:dj)(i:Nat)(t:JT)(n:Nat)(h:db v l i=.ok (t,n)):u9 (d+1) t n:=by
 unfold db at h;dsimp only at h;split at h
 ·injection h with h;injection h with b a;subst b;subst a
  exact⟨by simp only[cQ,eU,kg,List.foldl_nil,Ko,cD,JH,JM,JY];omega,by simp[jP,km],by simp[ko,oI]⟩
 ·split at h
  ·cases h
  ·rename_i o k f
   obtain⟨m,j,g,c⟩:=Cm d v e _ _ _ _ _ _ f;injection h with h;injection h with b a;subst b;subst a;exact⟨by simp only[cQ,JH,JM,JY,rJ];omega,by rw[jP];exact g,by rw[ko];exact⟨by omega,c⟩⟩
theorem ss{l:dj}{i n d:Nat}{t:JT}(h:df l i=.ok (t,n)):u9 d t n:=by
 unfold df at h;dsimp only at h;repeat' split at h
 all_goals first
  | cases h;done
  | (injection h with h;injection h with a b;subst a;subst b;exact⟨by simp[cQ],by simp[jP],by simp[ko]⟩)
theorem Bz:∀(d:Nat) (l:dj) (i:Nat) (t:JT) (n:Nat),valL d l i=.ok (t,n)->u9 d t n:=by
 intro d;induction d with
 | zero=>
   intro l i t n h;match l with
   | []=>rw[eK]at h;cases h
   | c::r=>
     rw[cG]at h;generalize (c::r)=L at *;split at h
     ·split at h
      ·cases h
      ·rename_i a;injection h with h;injection h with b e;subst b;subst e;exact⟨by rw[cQ];exact nt a,by rw[jP];exact pe a,by simp[ko]⟩
     ·split at h
      ·split at h
       ·cases h
       ·rename_i a;have:=tE a;injection h with h;injection h with b e;subst b;subst e;exact⟨by rw[cQ];exact this.1,by rw[jP];exact this.2,by simp[ko]⟩
      ·split at h
       ·exact ss h
       ·split at h<;>cases h
 | succ d ih=>
   intro l i t n h;match l with
   | []=>rw[eK]at h;cases h
   | c::r=>
     rw[cG]at h;generalize (c::r)=L at *;split at h
     ·split at h
      ·cases h
      ·rename_i a;injection h with h;injection h with b e;subst b;subst e;exact⟨by rw[cQ];exact nt a,by rw[jP];exact pe a,by simp[ko]⟩
     ·split at h
      ·split at h
       ·cases h
       ·rename_i a;have:=tE a;injection h with h;injection h with b e;subst b;subst e;exact⟨by rw[cQ];exact this.1,by rw[jP];exact this.2,by simp[ko]⟩
      ·split at h
       ·exact ss h
       ·split at h
        ·dsimp only at h
         split at h
         ·exact Bs d _ ih _ _ _ _ h
         ·exact Ao d _ ih _ _ _ _ h
        ·cases h
theorem qv{l:dj}{t:JT}(h:cB l=.ok t):(cQ t).length<=l.length/\jP t/\ko t 32/\l.length<=65536:=by
 unfold cB at h;split at h
 ·cases h
 ·rename_i g
  dsimp only at h;split at h
  ·cases h
  ·rename_i f n a
   obtain⟨e,d,b⟩:=Bz _ _ _ _ _ a;have c:=(mm _ _ _ _ _ a).1;rw[Kk]at c;split at h
   ·cases h
   ·injection h with h;subst h
    exact⟨by omega,d,b,by omega⟩
def lp(x:dj×JT):List (dj×JT)->List (dj×JT)
 | []=>[x]
 | y::r=>if ef x.1 y.1=true then y::lp x r else x::y::r
def ik(l:List (dj×JT)):List (dj×JT):=l.foldl (fun a x=>(lp x a.reverse).reverse) []
theorem gM:∀a:List (dj×JT),eU a=a.map fun p=>(p.1,cQ p.2)
 | []=>rfl
 | (n,t)::r=>by rw[eU,gM r];rfl
theorem ol:∀a:List JT,gB a=a.map cQ
 | []=>rfl
 | t::r=>by rw[gB,ol r];rfl
theorem vz(x:dj×JT):∀l,(lp x l).map (fun p=>(p.1,cQ p.2))=jU (x.1,cQ x.2) (l.map fun p=>(p.1,cQ p.2))
 | []=>rfl
 | y::r=>by
   simp only[lp,JW,jU];split
   ·rw[JW,vz x r]
   ·rfl
theorem nS(c:List (dj×JT)):kg (eU c)=eU (ik c):=by
 rw[gM,gM];have h:∀(l b:List (dj×JT)),(l.map fun p=>(p.1,cQ p.2)).foldl (fun a x=>(jU x a.reverse).reverse) (b.map fun p=>(p.1,cQ p.2))=(l.foldl (fun a x=>(lp x a.reverse).reverse) b).map fun p=>(p.1,cQ p.2):=by
  intro l;induction l with
  | nil=>intro b;rfl
  | cons x r ih=>
    intro b;rw[La,<-ih,JW,La];congr 1
    rw[<-Na,<-vz,Na]
 exact h c []
theorem nc(x:dj×JT)(l:List (dj×JT)):(lp x l).Perm (x::l):=by
 induction l with
 | nil=>exact .refl _
 | cons y r ih=>
   simp only[lp];split
   ·exact(List.Perm.cons y ih).trans (.swap x y r)
   ·exact .refl _
theorem vp(l:List (dj×JT)):∀b:List (dj×JT),(l.foldl (fun a x=>(lp x a.reverse).reverse) b).Perm (l++b):=by
 induction l with
 | nil=>intro b;exact .refl _
 | cons x r ih=>
   intro b;rw[La];refine(ih _).trans ?_;refine(Me r ((LG _).trans ((nc x _).trans (List.Perm.cons x (LG b))))).trans ?_;exact MN
theorem jR(l:List (dj×JT)):(ik l).Perm l:=by
 have:=vp l [];rwa [KB]at this
theorem yF(x:dj×JT)(l:List (dj×JT))(f:∀y∈l,ef x.1 y.1=false->ef y.1 x.1=true)(h:l.Pairwise (fun a b=>ef b.1 a.1=true)):(lp x l).Pairwise (fun a b=>ef b.1 a.1=true):=by
 induction l with
 | nil=>simp[lp]
 | cons y r ih=>
   rw[KH]at h;simp only[lp];split
   ·rename_i d
    rw[KH];refine⟨fun b c=>?_,ih (fun z g=>f z (KE _ g)) h.2⟩;rcases Ke.1 ((nc x r).mem_iff.1 c)with rfl|c
    ·exact d
    ·exact h.1 b c
   ·rename_i d
    have e:=f y (by simp) (by simpa using d);rw[KH,KH];refine⟨fun b c=>?_,h.1,h.2⟩;rcases Ke.1 c with rfl|c
    ·exact e
    ·exact gO _ _ _ (h.1 b c) e
theorem sH(l:List (dj×JT)):∀c:List (dj×JT),(l++c).Pairwise (fun a b=>ef a.1 b.1=true\/ef b.1 a.1=true)->c.Pairwise (fun a b=>ef a.1 b.1=true)->(l.foldl (fun a x=>(lp x a.reverse).reverse) c).Pairwise (fun a b=>ef a.1 b.1=true):=by
 induction l with
 | nil=>intro c _ h;exact h
 | cons x r ih=>
   intro c d h;rw[La];rw[JS,KH]at d;refine ih _ ?_ ?_
   ·refine L6 (l:=x::(r++c)) ?_ ?_ (fun {a b} h=>h.symm)
    ·rw[KH];exact d
    ·exact(MN.symm).trans (Me r ((LG _).trans ((nc x _).trans (List.Perm.cons x (LG c)))).symm)
   ·rw[MK]
    refine yF x _ (fun y f g=>?_) ?_
    ·rcases d.1 y (by simp at f;simp[f])with e|e
     ·rw[e]at g;cases g
     ·exact e
    ·rw[MK];exact h
theorem ig:∀(a:List (dj×JT)),gP a->∀p∈a,U8 p.1/\gC p.2
 | [],_,p,h=>by simp at h
 | (k,t)::r,ho,p,h=>by
   rw[gP]at ho;rcases Ke.1 h with rfl|h
   ·exact⟨ho.1,ho.2.1⟩
   ·exact ig r ho.2.2 p h
theorem ml:∀(a:List (dj×JT)),km a->∀p∈a,jP p.2
 | [],_,p,h=>by simp at h
 | (k,t)::r,ho,p,h=>by
   rw[km]at ho;rcases Ke.1 h with rfl|h
   ·exact ho.1
   ·exact ml r ho.2 p h
theorem nP(d:Nat):∀(a:List (dj×JT)),oI a d->∀p∈a,ko p.2 d
 | [],_,p,h=>by simp at h
 | (k,t)::r,ho,p,h=>by
   rw[oI]at ho;rcases Ke.1 h with rfl|h
   ·exact ho.1
   ·exact nP d r ho.2 p h
theorem tB:∀(a:List JT),l8 a->∀p∈a,gC p
 | [],_,p,h=>by simp at h
 | t::r,ho,p,h=>by
   rw[l8]at ho;rcases Ke.1 h with rfl|h
   ·exact ho.1
   ·exact tB r ho.2 p h
theorem tg:∀(a:List JT),pW a->∀p∈a,jP p
 | [],_,p,h=>by simp at h
 | t::r,ho,p,h=>by
   rw[pW]at ho;rcases Ke.1 h with rfl|h
   ·exact ho.1
   ·exact tg r ho.2 p h
theorem wB(d:Nat):∀(a:List JT),wo a d->∀p∈a,ko p d
 | [],_,p,h=>by simp at h
 | t::r,ho,p,h=>by
   rw[wo]at ho;rcases Ke.1 h with rfl|h
   ·exact ho.1
   ·exact wB d r ho.2 p h
theorem ro:∀(a:List JT),∀p∈a,p.size<=cC a
 | [],p,h=>by simp at h
 | t::r,p,h=>by
   rw[cC];rcases Ke.1 h with rfl|h
   ·omega
   ·have:=ro r p h;omega
theorem rK:∀(a:List (dj×JT)),∀p∈a,p.2.size<=cp a
 | [],p,h=>by simp at h
 | (k,t)::r,p,h=>by
   rw[cp];rcases Ke.1 h with rfl|h
   ·show t.size<=_;omega
   ·have:=rK r p h;omega
theorem nE:∀(a:List (dj×JT)),cp a=(a.map fun p=>p.2.size).sum
 | []=>rfl
 | (k,t)::r=>by rw[cp,nE r];simp
theorem xK(a:List (dj×JT)):cp (ik a)=cp a:=by
 rw[nE,nE];exact sO ((jR a).map _)
theorem kP(c:List (dj×JT))(g:gP c)(d:(c.map Prod.fst).Pairwise (fun a b=>a≠b)):(ik c).Pairwise (fun a b=>ef a.1 b.1=true):=by
 refine sH c [] ?_ .nil;rw[KB];rw[M1]at d;have f:=ig c g;clear g;induction c with
 | nil=>exact .nil
 | cons x r ih=>
   rw[KH]at d ⊢;refine⟨fun b i=>?_,ih d.2 (fun p k=>f p (KE _ k))⟩;have j:unitsL x.1≠unitsL b.1:=fun e=>d.1 b i (rP (f x (by simp)).1 (f b (KE _ i)).1 e)
   by_cases h:ef x.1 b.1=true
   ·exact .inl h
   ·exact .inr (j4 _ _ j (Bool.not_eq_true _▸h))
theorem xO(l:List (dj×dj))(h:l.Pairwise (fun a b=>ef a.1 b.1=true)):kg l=l:=by
 have g:∀(l c:List (dj×dj)),(c++l).Pairwise (fun a b=>ef a.1 b.1=true)->l.foldl (fun a x=>(jU x a.reverse).reverse) c=c++l:=by
  intro l;induction l with
  | nil=>intro c _;simp
  | cons x r ih=>
    intro c d;rw[La];have e:(jU x c.reverse).reverse=c++[x]:=by
     rcases Nh c with rfl|⟨i,y,rfl⟩
     ·rfl
     ·rw[List.concat_eq_append,List.reverse_append]
      simp only[List.reverse_cons,List.reverse_nil,Lj,JS];have f:ef y.1 x.1=true:=by
       rw[List.pairwise_append]at d;exact d.2.2 y (by simp) x (by simp)
      have:ef x.1 y.1=false:=jq _ _ f;rw[jU,if_neg (by simp[this])];simp
    rw[e,ih (c++[x]) (by rw[J1];exact d),J1];rfl
 exact g l [] h
inductive kh {α β:Type} (R:α->β->Prop):List α->List β->Prop
 | nil:kh R [] []
 | cons {a b l m}:R a b->kh R l m->kh R (a::l) (b::m)
theorem kh.length{α β:Type}{R:α->β->Prop}{l:List α}{m:List β}(h:kh R l m):m.length=l.length:=by
 induction h with
 | nil=>rfl
 | cons _ _ ih=>simp[ih]
theorem kh.mem{α β:Type}{R:α->β->Prop}{l:List α}{m:List β}(h:kh R l m):∀a∈l,∃b∈m,R a b:=by
 induction h with
 | nil=>intro a c;simp at c
 | cons d _ ih=>
   intro a c;rcases Ke.1 c with rfl|c
   ·exact⟨_,by simp,d⟩
   ·obtain⟨b,e,d⟩:=ih a c
    exact⟨b,by simp[e],d⟩
mutual
def Al:JT->JT->Prop
 | .null _,u=>∃a,u=.null a
 | .truth b _,u=>∃a,u=.truth b a
 | .int n _,u=>∃a,u=.int n a
 | .str s _,u=>∃a,u=.str s a
 | .arr ts _,u=>∃us a,u=.arr us a/\AK ts us
 | .obj ms _,u=>∃us a,u=.obj us a/\us.length=ms.length/\(us.map Prod.fst).Pairwise (fun a b=>a≠b)/\Ay ms us
def AK:List JT->List JT->Prop
 | [],us=>us=[]
 | t::r,us=>∃u v,us=u::v/\Al t u/\AK r v
def Ay:List (dj×JT)->List (dj×JT)->Prop
 | [],_=>True
 | (n,t)::r,us=>(∃u,(n,u)∈us/\Al t u)/\Ay r us
end
theorem zl:∀{b a:List JT},kh Al b a->AK b a
 | _,_,.nil=>by rw[AK]
 | _,_,.cons h r=>by rw[AK];exact⟨_,_,rfl,h,zl r⟩
theorem zO:∀(b a:List (dj×JT)),(∀p∈b,∃u,(p.1,u)∈a/\Al p.2 u)->Ay b a
 | [],a,_=>by rw[Ay];trivial
 | (n,t)::r,a,h=>by rw[Ay];exact⟨h (n,t) (by simp),zO r a (fun p c=>h p (by simp[c]))⟩
theorem oZ(t:JT):∃c r,cQ t=c::r/\iS c=false/\c≠93:=by
 cases t with
 | null a=>exact⟨110,_,rfl,by decide,by decide⟩
 | truth b a=>cases b<;>exact⟨_,_,rfl,by decide,by decide⟩
 | int n a=>
   obtain⟨x,_,⟨_,e,_⟩|⟨_,e⟩⟩:=mc n
   ·exact⟨45,_,by rw[cQ,e],by decide,by decide⟩
   ·obtain⟨c,r,f,d,_⟩:=kX x
    refine⟨c,r,by rw[cQ,e,f],?_,?_⟩
    ·unfold d8 at d;unfold iS;simp at d ⊢
     refine⟨⟨⟨?_,?_⟩,?_⟩,?_⟩<;>(rintro rfl;simp at d)
    ·rintro rfl;simp[d8]at d
 | str s a=>exact⟨34,_,rfl,by decide,by decide⟩
 | arr g a=>exact⟨91,_,rfl,by decide,by decide⟩
 | obj h a=>exact⟨123,_,rfl,by decide,by decide⟩
theorem qj(t:JT)(x:dj):nb (cQ t++x)=0:=by
 obtain⟨c,r,e,h,_⟩:=oZ t;rw[e,JS,nb,if_neg (by simp[h])]
def Bk(t u:JT):Prop:=Al t u/\cQ u=cQ t/\u.size=t.size
def Rd(v:dj->Nat->JR JT)(t:JT):Prop:=∀x,xR x->∀i,∃u,v (cQ t++x) i=.ok (u,(cQ t).length)/\Bk t u
theorem qs(c:UInt8)(r:dj)(h:d8 c=false/\jJ c=false):xR (c::r):=fun b a e=>by injection e with e _;subst e;exact h
theorem jO(c:UInt8)(r:dj)(h:iS c=false):nb (c::r)=0:=by rw[nb,if_neg (by simp[h])]
theorem qD(v:dj->Nat->JR JT):∀(b:List JT),b≠[]->(∀t∈b,Rd v t)->∀(f:Nat),b.length<=f->∀(i:Nat) (x:dj),∃c,dW v f (cD (gB b)++93::x) i=.ok (c,(cD (gB b)).length+1)/\kh Bk b c
 | [],h,_,_,_,_,_=>absurd rfl h
 | [t],_,hv,f,hf,i,x=>by
   obtain⟨f,rfl⟩:∃g,f=g+1:=⟨f-1,by simp at hf;omega⟩;obtain⟨u,j,d⟩:=hv t (by simp) (93::x) (qs _ _ (by decide)) i;refine⟨[u],?_,.cons d .nil⟩;simp only[gB,cD];rw[dW];dsimp only;rw[qj,K3,Ku,j];dsimp only;rw[J3,KS rfl,jO _ _ (by decide),Ku,KS rfl];rfl
 | t::a::r,_,hv,f,hf,i,x=>by
   obtain⟨f,rfl⟩:∃g,f=g+1:=⟨f-1,by simp at hf;omega⟩;have e:cD (gB (t::a::r))++93::x=cQ t++44::(cD (gB (a::r))++93::x):=by simp[gB,cD]
   obtain⟨u,j,d⟩:=hv t (by simp) (44::(cD (gB (a::r))++93::x)) (qs _ _ (by decide)) i;obtain⟨c,l,n⟩:=qD v (a::r) (by simp) (fun m k=>hv m (by simp at k ⊢;exact .inr k)) f (by simp at hf ⊢;omega) (i+((cQ t).length+1)) x;refine⟨u::c,?_,.cons d n⟩;rw[e,dW];dsimp only;rw[qj,K3,Ku,j];dsimp only;rw[J3,KS rfl,jO _ _ (by decide),Ku,KS rfl];dsimp only;rw[if_pos rfl];have o:(cQ t++44::(cD (gB (a::r))++93::x)).drop ((cQ t).length+1)=cD (gB (a::r))++93::x:=by
    rw[<-L0,KS rfl];rfl
   rw[o,l];dsimp only;have p:(cD (gB (t::a::r))).length=(cQ t).length+1+(cD (gB (a::r))).length:=by
    simp only[gB,cD,JH,JM];omega
   rw[p];rfl
def Hk(p q:dj×JT):Prop:=p.1=q.1/\Bk p.2 q.2
theorem wE(n x:dj):nb (dk n++x)=0:=by
 unfold dk;simp only[JS];exact jO _ _ (by decide)
theorem nI(v:dj->Nat->JR JT):∀(c:List (dj×JT)),c≠[]->(∀p∈c,U8 p.1/\Rd v p.2)->(c.map Prod.fst).Pairwise (fun a b=>a≠b)->∀(d:List (dj)),(∀p∈c,p.1∉d)->∀(f:Nat),c.length<=f->∀(i:Nat) (x:dj),∃o,dn v f d (cD ((eU c).map eH)++125::x) i=.ok (o,(cD ((eU c).map eH)).length+1)/\kh Hk c o
 | [],h,_,_,_,_,_,_,_,_=>absurd rfl h
 | [(n,t)],_,hv,_,d,hk,f,hf,i,x=>by
   obtain⟨f,rfl⟩:∃g,f=g+1:=⟨f-1,by simp at hf;omega⟩;obtain⟨A,w⟩:=hv (n,t) (by simp);have s:n∉d:=hk (n,t) (by simp);obtain⟨u,y,C⟩:=w (125::x) (qs _ _ (by decide)) (i+((dk n).length+1));refine⟨[(n,u)],?_,.cons ⟨rfl,C⟩ .nil⟩;have e:cD ((eU [(n,t)]).map eH)++125::x=dk n++58::(cQ t++125::x):=by simp[eU,cD,eH]
   have B:=jF (58::(cQ t++125::x)) (lF A);have j:(dk n++58::(cQ t++125::x)).drop ((dk n).length+1)=cQ t++125::x:=by rw[<-L0,KS rfl];rfl
   have k:(dk n++58::(cQ t++125::x)).drop ((dk n).length+1+(cQ t).length)=125::x:=by rw[<-L0,j,KS rfl]
   rw[e,dn];dsimp only;rw[wE,K3,B];dsimp only;rw[if_neg s,J3,KS rfl,jO _ _ (by decide),Ku,KS rfl];dsimp only;rw[if_pos rfl,j,qj,Ku,j,y];dsimp only;rw[k,jO _ _ (by decide),Ku,k];dsimp only;rw[if_neg (by decide),if_pos rfl];simp[eU,cD,eH];omega
 | (n,t)::m::r,_,hv,hpw,d,hk,f,hf,i,x=>by
   obtain⟨f,rfl⟩:∃g,f=g+1:=⟨f-1,by simp at hf;omega⟩;obtain⟨A,w⟩:=hv (n,t) (by simp);have s:n∉d:=hk (n,t) (by simp);rw[JW,KH]at hpw;obtain⟨o,E,F⟩:=nI v (m::r) (by simp) (fun p q=>hv p (KE _ q)) hpw.2 (d++[n]) (fun p q l=>by
    rcases KX.1 l with l|l
    ·exact hk p (KE _ q) l
    ·simp at l
     exact hpw.1 p.1 (Np q) l.symm) f (by simp at hf ⊢;omega) (i+((dk n).length+1+(cQ t).length+1)) x
   generalize H:cD ((eU (m::r)).map eH)=z at *;obtain⟨u,y,C⟩:=w (44::(z++125::x)) (qs _ _ (by decide)) (i+((dk n).length+1));refine⟨(n,u)::o,?_,.cons ⟨rfl,C⟩ F⟩;have D:cD ((eU ((n,t)::m::r)).map eH)=dk n++58::(cQ t++44::z):=by
    rw[<-H];obtain⟨J,I⟩:=m;simp[eU,cD,eH]
   have e:cD ((eU ((n,t)::m::r)).map eH)++125::x=dk n++58::(cQ t++44::(z++125::x)):=by rw[D];simp
   have B:=jF (58::(cQ t++44::(z++125::x))) (lF A);have j:(dk n++58::(cQ t++44::(z++125::x))).drop ((dk n).length+1)=cQ t++44::(z++125::x):=by rw[<-L0,KS rfl];rfl
   have k:(dk n++58::(cQ t++44::(z++125::x))).drop ((dk n).length+1+(cQ t).length)=44::(z++125::x):=by rw[<-L0,j,KS rfl]
   have G:(dk n++58::(cQ t++44::(z++125::x))).drop ((dk n).length+1+(cQ t).length+1)=z++125::x:=by rw[<-L0,k];rfl
   rw[e,dn];dsimp only;rw[wE,K3,B];dsimp only;rw[if_neg s,J3,KS rfl,jO _ _ (by decide),Ku,KS rfl];dsimp only;rw[if_pos rfl,j,qj,Ku,j,y];dsimp only;rw[k,jO _ _ (by decide),Ku,k];dsimp only;rw[if_pos rfl,G,E];dsimp only;rw[D];simp;omega
theorem Aa{a us:List JT}(h:kh Bk a us):gB us=gB a/\cC us=cC a/\kh Al a us:=by
 induction h with
 | nil=>exact⟨rfl,rfl,.nil⟩
 | cons b _ ih=>exact⟨by rw[gB,gB,b.2.1,ih.1],by rw[cC,cC,b.2.2,ih.2.1],.cons b.1 ih.2.2⟩
theorem ua{c us:List (dj×JT)}(h:kh Hk c us):eU us=eU c/\cp us=cp c/\us.map Prod.fst=c.map Prod.fst:=by
 induction h with
 | nil=>exact⟨rfl,rfl,rfl⟩
 | @cons a b _ _ d _ ih=>
   obtain⟨n,t⟩:=a;obtain⟨e,u⟩:=b;obtain⟨rfl,d⟩:=d;exact⟨by rw[eU,eU,ih.1];simp only[d.2.1],by rw[cp,cp,ih.2.1];simp only[d.2.2],by simp[ih.2.2]⟩
theorem mg:∀l:List (dj),(∀a∈l,a≠[])->l.length<=(cD l).length
 | [],_=>by simp[cD]
 | [a],h=>by
   have:=LL.2 (h a (by simp));simp[cD];omega
 | a::b::r,h=>by
   have:=mg (b::r) (fun x c=>h x (KE _ c));simp[cD]at this ⊢;omega
theorem back:∀(k:Nat) (t:JT),t.size<=k->gC t->jP t->∀d,ko t d->Rd (valL d) t:=by
 intro k;induction k with
 | zero=>intro t h;have:=eM t;omega
 | succ k ih=>
   intro t O w y d l;suffices h:∀i,∃u,valL d (cQ t) i=.ok (u,(cQ t).length)/\Bk t u by
    intro x W i;obtain⟨u,A,o⟩:=h i;exact⟨u,(Bh x W d _ _ _ _ A).2,o⟩
   intro i;cases t with
   | null a=>
     refine⟨.null i,?_,by rw[Al];exact⟨i,rfl⟩,rfl,rfl⟩;rw[cQ,cG,if_neg (by decide),if_neg (by decide),if_pos (by decide)];rfl
   | truth b a=>
     refine⟨.truth b i,?_,by rw[Al];exact⟨i,rfl⟩,rfl,rfl⟩;cases b
     ·rw[show cQ (.truth false a)=[102,97,108,115,101]from rfl,cG,if_neg (by decide),if_neg (by decide),if_pos (by decide)]
      rfl
     ·rw[show cQ (.truth true a)=[116,114,117,101]from rfl,cG,if_neg (by decide),if_neg (by decide),if_pos (by decide)]
      rfl
   | int n a=>
     refine⟨.int n i,?_,by rw[Al];exact⟨i,rfl⟩,rfl,rfl⟩;rw[jP]at y;have H:=Av n;rw[if_neg (by omega)]at H;have M:∃c r,ew n=c::r/\(c=45\/d8 c=true)/\c≠34:=by
      obtain⟨x,_,⟨_,e,_⟩|⟨_,e⟩⟩:=mc n
      ·exact⟨45,_,e,.inl rfl,by decide⟩
      ·obtain⟨c,r,M,l,_⟩:=kX x
       exact⟨c,r,by rw[e,M],.inr l,by rintro rfl;simp[d8]at l⟩
     obtain⟨c,r,e,A,o⟩:=M;rw[cQ,e,cG,if_neg o,if_pos A,<-e,H]
   | str s a=>
     refine⟨.str s i,?_,by rw[Al];exact⟨i,rfl⟩,rfl,rfl⟩;rw[jP]at y;have H:=lF y;obtain⟨r,e⟩:∃r,dk s=34::r:=⟨_,rfl⟩;rw[cQ,e,cG,if_pos rfl,<-e,H]
   | arr g a=>
     rw[gC]at w;rw[jP]at y;rw[ko]at l;obtain⟨d,rfl⟩:∃e,d=e+1:=⟨d-1,by omega⟩;rw[L5]at l;rw[JT.size]at O;have I:∀t∈g,Rd (valL d) t:=fun t E=>ih t (by have:=ro g t E;omega) (tB g w t E) (tg g y t E) d (wB d g l.2 t E)
     have e:cQ (.arr g a)=91::(cD (gB g)++[93]):=rfl;rw[e,cG,if_neg (by decide),if_neg (by decide),if_neg (by decide),if_pos (by decide)];dsimp only;rw[if_pos rfl];by_cases C:g=[]
     ·subst C
      exact⟨.arr [] i,rfl,by rw[Al];exact⟨[],i,rfl,by rw[AK]⟩,rfl,rfl⟩
     ·obtain⟨B,z,N⟩:∃B z,g=B::z:=by
       cases g with
       | nil=>exact absurd rfl C
       | cons a b=>exact⟨a,b,rfl⟩
      obtain⟨c,r,P,Y,V⟩:=oZ B;have m:∃q,cD (gB g)++[93]=c::q:=by
       rw[N];cases z with
       | nil=>simp[gB,cD,P]
       | cons a b=>simp[gB,cD,P]
      obtain⟨q,m⟩:=m;obtain⟨j,A,o⟩:=qD (valL d) g C I ((91::(cD (gB g)++[93]):dj).length+1) (by
       have:=mg (gB g) (fun a G=>by
        rw[ol]at G;obtain⟨t,_,rfl⟩:=Ly.1 G;obtain⟨c,r,e,_⟩:=oZ t;rw[e];simp)
       rw[ol,Kq]at this;rw[ol];simp only[JM,JH,JY];omega) (i+1) []
      obtain⟨F,J,L⟩:=Aa o;refine⟨.arr j i,?_,by rw[Al];exact⟨j,i,rfl,zl L⟩,by rw[e];show 91::(cD (gB j)++[93])=_;rw[F],by rw[JT.size,JT.size,J]⟩;unfold dM;dsimp only;rw[Lp,K3,m,jO _ _ Y,Ku,Lp,K3,Lr,if_neg (by simp[V]),<-m,A];simp;omega
   | obj f a=>
     rw[gC]at w;rw[jP]at y;rw[ko]at l;obtain⟨d,rfl⟩:∃e,d=e+1:=⟨d-1,by omega⟩;rw[L5]at l;rw[JT.size]at O;have D:=jR f;have I:∀p∈ik f,U8 p.1/\Rd (valL d) p.2:=fun p v=>by
      have v:=D.mem_iff.1 v;exact⟨(ig f w.1 p v).1,ih p.2 (by have:=rK f p v;omega) (ig f w.1 p v).2 (ml f y p v) d (nP d f l.2 p v)⟩
     have R:((ik f).map Prod.fst).Pairwise (fun a b=>a≠b):=L6 w.2 (D.map Prod.fst).symm (fun {a b} h=>h.symm);have e:cQ (.obj f a)=123::(cD ((eU (ik f)).map eH)++[125]):=by rw[<-nS];rfl
     rw[e,cG,if_neg (by decide),if_neg (by decide),if_neg (by decide),if_pos (by decide)];dsimp only;rw[if_neg (by decide)];have K:(ik f).length=f.length:=D.length_eq;by_cases C:f=[]
     ·subst C
      exact⟨.obj [] i,rfl,by rw[Al];exact⟨[],i,rfl,rfl,.nil,by rw[Ay];trivial⟩,rfl,rfl⟩
     ·have Q:ik f≠[]:=fun e=>by rw[e]at K;exact C (MH K.symm)
      obtain⟨U,z,N⟩:∃B z,ik f=B::z:=by
       cases h:ik f with
       | nil=>exact absurd h Q
       | cons a b=>exact⟨a,b,rfl⟩
      have m:∃q,cD ((eU (ik f)).map eH)++[125]=34::q:=by
       rw[N];obtain⟨n0,B⟩:=U;cases z with
       | nil=>exact⟨_,rfl⟩
       | cons a b=>exact⟨_,rfl⟩
      obtain⟨q,m⟩:=m;obtain⟨j,A,o⟩:=nI (valL d) (ik f) Q I R [] (fun p _ h=>by simp at h) ((123::(cD ((eU (ik f)).map eH)++[125]):dj).length+1) (by
       have:=mg ((eU (ik f)).map eH) (fun a G=>by
        obtain⟨t,_,rfl⟩:=Ly.1 G;simp[eH])
       rw[gM,Kq,Kq]at this;rw[gM];simp only[JM,JH,JY];omega) (i+1) []
      obtain⟨F,J,L⟩:=ua o;have X:(eU j).Pairwise (fun a b=>ef a.1 b.1=true):=by
       rw[F,gM,M1];exact kP f w.1 w.2
      refine⟨.obj j i,?_,by
       rw[Al];refine⟨j,i,rfl,by rw[o.length,K],by rw[L];exact R,zO f j (fun p v=>?_)⟩;obtain⟨b,T,S,Z⟩:=o.mem p (D.mem_iff.2 v);exact⟨b.2,by rw[S];exact T,Z.1⟩,by rw[e];show 123::(cD ((kg (eU j)).map eH)++[125])=_;rw[xO _ X,F],by rw[JT.size,JT.size,J,xK]⟩
      unfold db;dsimp only;rw[Lp,K3,m,jO _ _ (by decide),Ku,Lp,K3,Lr,if_neg (by decide),<-m,A];simp;omega
end Go.Proofs.YtihboehpeehlmaaGreatDoor
