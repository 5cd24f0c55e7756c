import Derived.Test.YtihboehpeehlmaaGreatDoorU2
import Derived.Test.YtihboehpeehlmaaGreatDoorD1
namespace Go.Proofs.YtihboehpeehlmaaGreatDoor
set_option linter.unusedVariables false
theorem rv:∀a:List (dj×JT),(∀p∈a,U8 p.1/\gC p.2)->gP a
 | [],_=>by rw[gP];trivial
 | (n,t)::r,h=>by
   rw[gP];exact⟨(h (n,t) (by simp)).1,(h (n,t) (by simp)).2,rv r fun p b=>h p (KE _ b)⟩
theorem qz:∀(a b:List (dj)),a≠[]->b≠[]->cD (a++b)=cD a++44::cD b
 | [],_,h,_=>absurd rfl h
 | [x],[],_,h=>absurd rfl h
 | [x],y::r,_,_=>by simp[cD]
 | x::y::r,b,_,hb=>by
   have:=qz (y::r) b (by simp) hb;simp only[JS]at this ⊢;rw[cD,this,cD];simp
theorem vM(a b:List (dj×JT)):eU (a++b)=eU a++eU b:=by simp only[gM,Kj]
theorem Au{l m:List (dj×JT)}(d:l.Perm m)(f:gP l)(e:(l.map Prod.fst).Pairwise (fun a b=>a≠b)):kg (eU l)=kg (eU m):=by
 have g:gP m:=rv m fun p j=>ig l f p (d.mem_iff.2 j)
 have k:(m.map Prod.fst).Pairwise (fun a b=>a≠b):=L6 e (d.map Prod.fst) (fun {a b} h=>h.symm);rw[nS,nS];congr 1
 refine List.Perm.eq_of_pairwise (le:=fun a b=>ef a.1 b.1=true) ?_ (kP l f e) (kP m g k) ((jR l).trans (d.trans (jR m).symm));intro a b _ _ i c;have:=jq _ _ i;unfold ef at c;rw[this]at c;cases c
def kn(ms:List (dj×JT)):dj:=123::(cD ((eU ms).map eH)++[125])
theorem AX(a:List (dj×JT))(i:Nat):(kn a).length=(cQ (.obj a i)).length:=by
 unfold kn;rw[cQ];simp only[JM,JH,JS];rw[rJ]
theorem yv(c:List (dj×JT))(g:c≠[])(k:gP c)(m:km c)(n:oI c 31)(v:(c.map Prod.fst).Pairwise (fun a b=>a≠b))(x:(kn c).length<=65536):∃d,cB (kn c)=.ok (.obj d 0)/\kh Hk c d:=by
 have l:∀p∈c,U8 p.1/\Rd (valL 31) p.2:=fun p i=>⟨(ig c k p i).1,back p.2.size p.2 (JQ _) (ig c k p i).2 (ml c m p i) 31 (nP 31 c n p i)⟩
 obtain⟨d,j,u⟩:=nI (valL 31) c g l v [] (fun p _ h=>by simp at h) ((kn c).length+1) (by
  have:=mg ((eU c).map eH) (fun a o=>by
   obtain⟨t,_,rfl⟩:=Ly.1 o;simp[eH])
  rw[gM,Kq,Kq]at this;unfold kn;rw[gM];simp only[JM,JH,JY];omega) 1 []
 refine⟨d,?_,u⟩;have f:∃q,cD ((eU c).map eH)++[125]=34::q:=by
  cases c with
  | nil=>exact absurd rfl g
  | cons p r=>
    obtain⟨y,w⟩:=p;cases r with
    | nil=>exact⟨_,rfl⟩
    | cons a b=>exact⟨_,rfl⟩
 obtain⟨q,f⟩:=f;have s:valL 32 (kn c) 0=.ok (.obj d 0,(kn c).length):=by
  have e:kn c=123::(cD ((eU c).map eH)++[125]):=rfl;rw[e,cG,if_neg (by decide),if_neg (by decide),if_neg (by decide),if_pos (by decide)];dsimp only;rw[if_neg (by decide)];unfold db;dsimp only;rw[Lp,K3,f,jO _ _ (by decide),Ku,Lp,K3,Lr,if_neg (by decide),<-f];rw[e]at j;rw[j];simp;omega
 have g:nb (kn c)=0:=jO _ _ (by decide);unfold cB;rw[if_neg (by omega)];dsimp only;rw[g,K3,s];dsimp only;rw[J3,J8 (JQ _),if_neg (by simp[nb])]
theorem vG(c d:List (dj×JT))(k:c.Perm d)(n:c≠[])(g:gP c)(j:km c)(l:oI c 31)(h:(c.map Prod.fst).Pairwise (fun a b=>a≠b)):prF (cB (kn c))=if(cQ (.obj d 0)).length<=65536 then(cQ (.obj d 0),0,0)else([],1,0):=by
 have e:kg (eU c)=kg (eU d):=Au k g h;have p:(kn c).length=(cQ (.obj d 0)).length:=by rw[AX c 0,cQ,cQ,e]
 by_cases f:(cQ (.obj d 0)).length<=65536
 ·rw[if_pos f]
  obtain⟨o,m,i⟩:=yv c n g j l h (by omega);rw[m,kG,cQ,(ua i).1,e,cQ]
 ·rw[if_neg f]
  unfold cB;rw[if_pos (by omega)];rfl
def iC(iss:dj)(a b:Int):List (dj×JT):=[(f9,.str iss 0),(f7,.int a 0),(f8,.int a 0),(gi,.int b 0)]
def fT(iss:dj)(a b:Int):dj:=[44,34,105,115,115,34,58]++dk iss++[44,34,105,97,116,34,58]++ew a++[44,34,110,98,102,34,58]++ew a++[44,34,101,120,112,34,58]++ew b
theorem xI(iss:dj)(a b:Int):44::cD ((eU (iC iss a b)).map eH)=fT iss a b:=by
 have f:dk f9=[34,105,115,115,34]:=by decide
 have d:dk f7=[34,105,97,116,34]:=by decide
 have c:dk f8=[34,110,98,102,34]:=by decide
 have e:dk gi=[34,101,120,112,34]:=by decide
 simp[iC,fT,eU,cD,eH,cQ,f,d,c,e]
theorem EI(n:dj)(h:n=f9\/n=f7\/n=f8\/n=gi):U8 n:=by
 have d:∀c:UInt8,c.toNat<128->U8 [c]:=fun c e=>U8.one (by simp) (by unfold seqLen;simp[e])
 have i:∀a b c:UInt8,a.toNat<128->b.toNat<128->c.toNat<128->U8 [a,b,c]:=fun a b c g f e=>(d a g).append ((d b f).append (d c e))
 rcases h with rfl|rfl|rfl|rfl<;>exact i _ _ _ (by decide) (by decide) (by decide)
theorem wy{s:dj}{c:List (dj×JT)}{i:Nat}(h:cB s=.ok (.obj c i))(B:c≠[])(z:∀p∈c,p.1≠f9/\p.1≠f7/\p.1≠f8/\p.1≠gi)(iss:dj)(w:U8 iss)(a b:Int)(E:0<=a/\a<=9007199254740991)(D:0<=b/\b<=9007199254740991)(pre:dj)(m:cQ (.obj c i)=pre++[125]):prF (cB (pre++fT iss a b++[125]))=if(cQ (.obj (c++iC iss a b) 0)).length<=65536 then(cQ (.obj (c++iC iss a b) 0),0,0)else([],1,0):=by
 obtain⟨_,u,o,_⟩:=qv h;have k:=rZ h;rw[gC]at k;rw[jP]at u;rw[ko]at o;have d:=jR c;have q:ik c≠[]:=fun e=>B (MH (by rw[<-d.length_eq,e];rfl))
 have e:pre++fT iss a b++[125]=kn (ik c++iC iss a b):=by
  have v:pre=123::cD ((eU (ik c)).map eH):=by
   have:cQ (.obj c i)=(123::cD ((eU (ik c)).map eH))++[125]:=by rw[<-nS];rfl
   rw[this]at m;exact(List.append_inj_left' m rfl).symm
  unfold kn;rw[vM,Kj,qz _ _ (by rw[gM];simpa using q) (by simp[iC,eU]),xI,v];simp
 rw[e];have C:∀p∈ik c++iC iss a b,U8 p.1/\gC p.2:=fun p f=>by
  rcases KX.1 f with f|f
  ·exact ig c k.1 p (d.mem_iff.1 f)
  ·simp only[iC,Ke,Nc,or_false]at f
   rcases f with rfl|rfl|rfl|rfl<;>exact⟨EI _ (by simp),by rw[gC];trivial⟩
 refine vG _ _ (d.append_right _) (by simp[q]) (rv _ C) ?_ ?_ ?_
 ·have l:∀(x y:List (dj×JT)),(∀p∈x,jP p.2)->km y->km (x++y):=by
   intro x y g j;induction x with
   | nil=>exact j
   | cons p r ih=>
     obtain⟨n,t⟩:=p;rw[JS,km];exact⟨g (n,t) (by simp),ih fun p d=>g p (KE _ d)⟩
  refine l _ _ (fun p f=>ml c u p (d.mem_iff.1 f)) ?_;simp only[iC,km,jP];exact⟨w,⟨by omega,by omega⟩,⟨by omega,by omega⟩,⟨by omega,by omega⟩,trivial⟩
 ·have l:∀(x y:List (dj×JT)),(∀p∈x,ko p.2 31)->oI y 31->oI (x++y) 31:=by
   intro x y g j;induction x with
   | nil=>exact j
   | cons p r ih=>
     obtain⟨n,t⟩:=p;rw[JS,oI];exact⟨g (n,t) (by simp),ih fun p d=>g p (KE _ d)⟩
  refine l _ _ (fun p f=>nP 31 c o.2 p (d.mem_iff.1 f)) ?_;simp[iC,oI,ko]
 ·rw[Kj,List.pairwise_append]
  refine⟨L6 k.2 (d.map Prod.fst).symm (fun {a b} h=>h.symm),by simp only[iC,JW,Ko];decide,fun x g y j=>?_⟩;obtain⟨p,A,rfl⟩:=Ly.1 g;have:=z p (d.mem_iff.1 A);simp only[iC,JW,Ko,Ke,Nc,or_false]at j;rcases j with rfl|rfl|rfl|rfl
  ·exact this.1
  ·exact this.2.1
  ·exact this.2.2.1
  ·exact this.2.2.2
def mkN(L:oa)(iss:dj)(a b:Int):oa:=
 match L with
 | []=>[]
 | n::r=>{n with kids:=n.kids++[L.length,L.length+1,L.length+2,L.length+3]}::r++[⟨3,f9,iss,0,[],0⟩,⟨2,f7,[],a,[],0⟩,⟨2,f8,[],a,[],0⟩,⟨2,gi,[],b,[],0⟩]
theorem BT(c:List (dj×JT))(i:Nat)(iss:dj)(a b:Int)(f:Nat)(s:(JT.obj c i).size<=f):formN (mkN (flat 0 [] (.obj c i)) iss a b) (f+1) 0=cQ (.obj (c++iC iss a b) 0):=by
 have n:(flat 0 [] (.obj c i)).length=(JT.obj c i).size:=cJ 0 [] _;have t:flat 0 [] (.obj c i)=⟨5,[],[],0,cq 1 c,i⟩::dF 1 c:=by rw[flat]
 have l:(dF 1 c).length=cp c:=fu 1 c;rw[t]at n ⊢;simp only[JT.size]at n s;obtain⟨N,C⟩:∃N,N=1+cp c:=⟨_,rfl⟩;have r:((⟨5,[],[],0,cq 1 c,i⟩:Nd)::dF 1 c).length=N:=by rw[JM,l];omega
 have A:mkN (⟨5,[],[],0,cq 1 c,i⟩::dF 1 c) iss a b=(⟨5,[],[],0,cq 1 c++[N,N+1,N+2,N+3],i⟩::dF 1 c)++[⟨3,f9,iss,0,[],0⟩,⟨2,f7,[],a,[],0⟩,⟨2,f8,[],a,[],0⟩,⟨2,gi,[],b,[],0⟩]:=by
  unfold mkN;simp only[r]
 rw[A];generalize h:((⟨5,[],[],0,cq 1 c++[N,N+1,N+2,N+3],i⟩::dF 1 c)++[⟨3,f9,iss,0,[],0⟩,⟨2,f7,[],a,[],0⟩,⟨2,f8,[],a,[],0⟩,⟨2,gi,[],b,[],0⟩]:oa)=M;have w:((⟨5,[],[],0,cq 1 c++[N,N+1,N+2,N+3],i⟩:Nd)::dF 1 c).length=N:=by rw[JM,l];omega
 have u:M[0]?=some ⟨5,[],[],0,cq 1 c++[N,N+1,N+2,N+3],i⟩:=by rw[<-h];rfl
 have d:∀k,M[N+k]?=[(⟨3,f9,iss,0,[],0⟩:Nd),⟨2,f7,[],a,[],0⟩,⟨2,f8,[],a,[],0⟩,⟨2,gi,[],b,[],0⟩][k]?:=fun k=>by
  rw[<-h,J9 (by omega),w,KZ]
 have q:M[N]?=some ⟨3,f9,iss,0,[],0⟩:=d 0;have o:M[N+1]?=some ⟨2,f7,[],a,[],0⟩:=d 1;have m:M[N+2]?=some ⟨2,f8,[],a,[],0⟩:=d 2;have p:M[N+3]?=some ⟨2,gi,[],b,[],0⟩:=d 3;have z:ka M 1 c:=fun j B=>by
  rw[<-h,J4 (by omega),Nj 1 j,Kh]
 obtain⟨f,rfl⟩:∃g,f=g+1:=⟨f-1,by omega⟩;have v:=nu M (f+1) (t6 M (f+1)) c 1 z (by omega);rw[formN];simp only[u];have x:(cq 1 c++[N,N+1,N+2,N+3]).length=(eE (dZ M) (cq 1 c++[N,N+1,N+2,N+3])).length:=(gj _ _).symm;rw[if_neg (by decide),if_neg (by decide),if_neg (by decide),if_neg (by decide),if_neg (by decide),x,lZ,cQ];have e:(eE (dZ M) (cq 1 c++[N,N+1,N+2,N+3])).map (fc M (formN M (f+1)))=((eE (dZ M) (cq 1 c++[N,N+1,N+2,N+3])).map (fun k=>(keyL M k,formN M (f+1) k))).map eH:=by
  rw[List.map_map];rfl
 have y:[N,N+1,N+2,N+3].map (fun k=>(keyL M k,formN M (f+1) k))=eU (iC iss a b):=by
  simp only[JW,Ko,gc q,gc o,gc m,gc p,formN,q,o,m,p,iC,eU,cQ];simp
 rw[e,wT,Kj,v,y,<-vM]
def jt(iss:dj)(a b:Int):oa:=[⟨3,f9,iss,0,[],0⟩,⟨2,f7,[],a,[],0⟩,⟨2,f8,[],a,[],0⟩,⟨2,gi,[],b,[],0⟩]
theorem qr(c:List (dj×JT))(i:Nat)(iss:dj)(a b:Int):mkN (flat 0 [] (.obj c i)) iss a b=(⟨5,[],[],0,cq 1 c++[1+cp c,1+cp c+1,1+cp c+2,1+cp c+3],i⟩::dF 1 c)++jt iss a b:=by
 have e:flat 0 [] (.obj c i)=⟨5,[],[],0,cq 1 c,i⟩::dF 1 c:=by rw[flat]
 have d:((⟨5,[],[],0,cq 1 c,i⟩:Nd)::dF 1 c).length=1+cp c:=by rw[JM,fu];omega
 rw[e];unfold mkN jt;simp only[d]
section
variable (Z:List (dj×JT)) (i:Nat) (iss:dj) (a b:Int)
theorem wz:(mkN (flat 0 [] (.obj Z i)) iss a b).length=1+cp Z+4:=by
 rw[qr,JH,JM,fu];simp[jt];omega
theorem D6:(mkN (flat 0 [] (.obj Z i)) iss a b)[0]?=some ⟨5,[],[],0,cq 1 Z++[1+cp Z,1+cp Z+1,1+cp Z+2,1+cp Z+3],i⟩:=by
 rw[qr];rfl
theorem s5(k:Nat):(mkN (flat 0 [] (.obj Z i)) iss a b)[1+cp Z+k]?=(jt iss a b)[k]?:=by
 have c:((⟨5,[],[],0,cq 1 Z++[1+cp Z,1+cp Z+1,1+cp Z+2,1+cp Z+3],i⟩:Nd)::dF 1 Z).length=1+cp Z:=by rw[JM,fu];omega
 rw[qr,J9 (by omega),c,KZ]
theorem rR(k:Nat)(d:0<k)(c:k<1+cp Z):(mkN (flat 0 [] (.obj Z i)) iss a b)[k]?=(flat 0 [] (.obj Z i))[k]?:=by
 obtain⟨k,rfl⟩:∃j,k=j+1:=⟨k-1,by omega⟩;rw[qr,J4 (by rw[JM,fu];omega),flat,Kh,Kh]
theorem vE:ka (mkN (flat 0 [] (.obj Z i)) iss a b) 1 Z:=fun j c=>by
 rw[rR Z i iss a b (1+j) (by omega) (by omega),flat,Nj 1 j,Kh]
theorem rS(k:Nat)(n:Nd)(h:(mkN (flat 0 [] (.obj Z i)) iss a b)[k]?=some n):(k=0/\n=⟨5,[],[],0,cq 1 Z++[1+cp Z,1+cp Z+1,1+cp Z+2,1+cp Z+3],i⟩)\/(0<k/\k<1+cp Z/\(flat 0 [] (.obj Z i))[k]?=some n)\/(1+cp Z<=k/\n∈jt iss a b):=by
 by_cases d:k=0
 ·subst d
  rw[D6]at h;injection h with h;exact .inl ⟨rfl,h.symm⟩
 ·by_cases c:k<1+cp Z
  ·rw[rR Z i iss a b k (by omega) c]at h
   exact .inr (.inl ⟨by omega,c,h⟩)
  ·obtain⟨q,rfl⟩:∃q,k=1+cp Z+q:=⟨k-(1+cp Z),by omega⟩
   rw[s5]at h;exact .inr (.inr ⟨by omega,JZ h⟩)
theorem nH(f:iss.length<=1048576)(c:0<=a/\a<=9007199254740991)(d:0<=b/\b<=9007199254740991)(n:Nd)(e:n∈jt iss a b):(n.kind=2\/n.kind=3)/\0<=n.num/\n.num<=9007199254740991/\n.text.length<=1048576/\n.key.length=3/\n.kids=[]:=by
 simp only[jt,Ke,Nc,or_false]at e;rcases e with rfl|rfl|rfl|rfl
 ·exact⟨.inr rfl,(by show(0:Int)<=0;omega),(by show(0:Int)<=9007199254740991;omega),f,rfl,rfl⟩
 ·exact⟨.inl rfl,c.1,c.2,by simp,rfl,rfl⟩
 ·exact⟨.inl rfl,c.1,c.2,by simp,rfl,rfl⟩
 ·exact⟨.inl rfl,d.1,d.2,by simp,rfl,rfl⟩
theorem pL:∀(Z:List (dj×JT)) (q:Nat),(cq q Z).length<=cp Z
 | [],q=>by simp[cq]
 | (n,t)::r,q=>by
   have:=pL r (q+t.size);have c:=eM t;rw[cq,cp,JM];omega
theorem Es(d:nJ (flat 0 [] (.obj Z i)))(m:(JT.obj Z i).size<=100000)(l:iss.length<=1048576)(q:0<=a/\a<=9007199254740991)(o:0<=b/\b<=9007199254740991):nJ (mkN (flat 0 [] (.obj Z i)) iss a b):=by
 have g:=rS Z i iss a b;have f:=nH iss a b l q o;have t:=wz Z i iss a b;have u:(flat 0 [] (.obj Z i)).length=1+cp Z:=by rw[cJ];rfl
 have p:(flat 0 [] (.obj Z i))[0]?=some ⟨5,[],[],0,cq 1 Z,i⟩:=by rw[flat];rfl
 rw[JT.size]at m;refine⟨by omega,?_,?_,?_,?_,?_,?_,?_,?_⟩
 ·intro k n h
  rcases g k n h with⟨_,rfl⟩|⟨_,_,h⟩|⟨_,h⟩
  ·exact JQ 5
  ·exact d.kind k n h
  ·rcases(f n h).1 with h|h<;>omega
 ·intro k n h j
  rcases g k n h with⟨_,rfl⟩|⟨_,_,h⟩|⟨_,h⟩
  ·simp at j
  ·exact d.truth k n h j
  ·rcases(f n h).1 with h|h<;>omega
 ·intro k n h
  rcases g k n h with⟨_,rfl⟩|⟨_,_,h⟩|⟨_,h⟩
  ·simp
  ·exact d.lo k n h
  ·have:=(f n h).2.1;omega
 ·intro k n h
  rcases g k n h with⟨_,rfl⟩|⟨_,_,h⟩|⟨_,h⟩
  ·simp
  ·exact d.hi k n h
  ·have:=(f n h).2.2.1;omega
 ·intro k n h
  rcases g k n h with⟨_,rfl⟩|⟨_,_,h⟩|⟨_,h⟩
  ·simp
  ·exact d.text k n h
  ·have:=(f n h).2.2.2.1;omega
 ·intro k n h
  rcases g k n h with⟨_,rfl⟩|⟨_,_,h⟩|⟨_,h⟩
  ·simp
  ·exact d.key k n h
  ·have:=(f n h).2.2.2.2.1;omega
 ·intro k n h
  rcases g k n h with⟨_,rfl⟩|⟨_,_,h⟩|⟨_,h⟩
  ·have:=pL Z 1
   simp only[JH,JM,JY];omega
  ·exact d.few k n h
  ·rw[(f n h).2.2.2.2.2];simp
 ·intro k n h c e
  rcases g k n h with⟨rfl,rfl⟩|⟨s,r,h⟩|⟨_,h⟩
  ·rcases KX.1 e with e|e
   ·have:=d.kids 0 _ p c e
    omega
   ·simp only[Ke,Nc,or_false]at e
    omega
  ·have:=d.kids k n h c e
   omega
  ·rw[(f n h).2.2.2.2.2]at e;simp at e
theorem qZ(d:iss.length<=1048576)(e:0<=a/\a<=9007199254740991)(g:0<=b/\b<=9007199254740991)(f k:Nat)(n:Nd)(h:(mkN (flat 0 [] (.obj Z i)) iss a b)[k]?=some n)(l:n∈jt iss a b):(formN (mkN (flat 0 [] (.obj Z i)) iss a b) f k).length<=6291460/\(keyL (mkN (flat 0 [] (.obj Z i)) iss a b) k).length=3:=by
 obtain⟨c,o,m,p,j,q⟩:=nH iss a b d e g n l;refine⟨?_,by rw[gc h];exact j⟩;cases f with
 | zero=>simp[formN]
 | succ f=>
   rw[formN,h];dsimp only;rcases c with c|c
   ·rw[if_neg (by omega),if_neg (by omega),if_pos c]
    have:=kA n.num (by omega) (by omega);omega
   ·rw[if_neg (by omega),if_neg (by omega),if_neg (by omega),if_pos c]
    have:=jz n.text;omega
theorem Ap(s:mB 65536 Z)(B:gA Z<=1966080)(k:iss.length<=1048576)(o:0<=a/\a<=9007199254740991)(l:0<=b/\b<=9007199254740991)(f j:Nat)(m:j<=(cq 1 Z++[1+cp Z,1+cp Z+1,1+cp Z+2,1+cp Z+3]).length):(ct (fc (mkN (flat 0 [] (.obj Z i)) iss a b) (formN (mkN (flat 0 [] (.obj Z i)) iss a b) f)) (eE (dZ (mkN (flat 0 [] (.obj Z i)) iss a b)) (cq 1 Z++[1+cp Z,1+cp Z+1,1+cp Z+2,1+cp Z+3])) j).length<=30000000:=by
 have r:=vE Z i iss a b;have p:=s5 Z i iss a b;have h:=qZ Z i iss a b k o l f;generalize mkN (flat 0 [] (.obj Z i)) iss a b=M at *;have z:=zk M (formN M f) (ib M f) Z 1 r s;have d:=gn (fc M (formN M f)) (eE (dZ M) (cq 1 Z++[1+cp Z,1+cp Z+1,1+cp Z+2,1+cp Z+3])) j (by rw[gj];exact m);rw[nO,Kj,Ni]at d;have c:∀q (n:Nd),(jt iss a b)[q]?=some n->(fc M (formN M f) (1+cp Z+q)).length+1<=6291490:=fun q n g=>by
  have e:=p q;rw[g]at e;obtain⟨w,u⟩:=h (1+cp Z+q) n e (JZ g);have v:=jz (keyL M (1+cp Z+q));unfold fc;rw[JH,JM];omega
 have y:(fc M (formN M f) (1+cp Z)).length+1<=6291490:=c 0 _ rfl;have t:=c 1 _ rfl;have x:=c 2 _ rfl;have A:=c 3 _ rfl;simp only[JW,Ko,Mj,List.sum_nil]at d;omega
theorem yH(G:mB 65536 Z)(J:gA Z<=1966080)(v:iss.length<=1048576)(C:0<=a/\a<=9007199254740991)(w:0<=b/\b<=9007199254740991):q9 (mkN (flat 0 [] (.obj Z i)) iss a b):=by
 have B:=rS Z i iss a b;have D:=Ap Z i iss a b G J v C w;have H:=qZ Z i iss a b v C w;have I:=vE Z i iss a b;have E:=nH iss a b v C w;generalize mkN (flat 0 [] (.obj Z i)) iss a b=M at *;have u:∀k,0<k->k<1+cp Z->∃A d,ju M k A d/\fK 65536 d/\ep d<=gA Z:=fun k c l=>by
  obtain⟨A,d,e,g,o⟩:=qP M 1 Z I G (k-1) (by omega);rw[show 1+(k-1)=k by omega]at e;exact⟨A,d,e,g,o⟩
 refine⟨fun f k=>?_,fun f k n p m j r=>?_,fun f k n p q j r=>?_⟩
 ·cases f with
  | zero=>simp[formN]
  | succ f=>
    cases t:M[k]? with
    | none=>rw[formN,t];simp
    | some n=>
      rcases B k n t with⟨rfl,rfl⟩|⟨c,l,h⟩|⟨_,h⟩
      ·rw[formN,t]
       dsimp only;rw[if_neg (by decide),if_neg (by decide),if_neg (by decide),if_neg (by decide),if_neg (by decide)];have:=D f _ (JQ _);simp only[JM,JH,JY]at this ⊢;omega
      ·obtain⟨z,d,e,g,o⟩:=u k c l
       have:=ib M (f+1) k z d e g;omega
      ·have:=(H (f+1) k n t h).1;omega
 ·rcases B k n p with⟨rfl,rfl⟩|⟨c,l,h⟩|⟨_,h⟩
  ·simp at m
  ·obtain⟨z,d,e,g,o⟩:=u k c l
   have c:=e.first;rw[p]at c;cases d with
   | null i=>rw[flat]at c;injection c with c;subst c;simp at m
   | truth x i=>rw[flat]at c;injection c with c;subst c;simp at m
   | int n i=>rw[flat]at c;injection c with c;subst c;simp at m
   | str s i=>rw[flat]at c;injection c with c;subst c;simp at m
   | arr y i=>
     have l:=CU M (formN M f) (ib M f) y (k+1) e.arr (by rw[fK]at g;exact g);rw[flat]at c;injection c with c;subst c;have F:=gn (formN M f) (d9 (k+1) y) j r;rw[ep]at o;dsimp only;omega
   | obj Z i=>rw[flat]at c;injection c with c;subst c;simp at m
  ·rcases(E n h).1 with h|h<;>omega
 ·rcases B k n p with⟨rfl,rfl⟩|⟨c,l,h⟩|⟨_,h⟩
  ·exact Ki (D f j r) (by omega)
  ·obtain⟨z,d,e,g,o⟩:=u k c l
   have c:=e.first;rw[p]at c;cases d with
   | null i=>rw[flat]at c;injection c with c;subst c;simp at q
   | truth x i=>rw[flat]at c;injection c with c;subst c;simp at q
   | int n i=>rw[flat]at c;injection c with c;subst c;simp at q
   | str s i=>rw[flat]at c;injection c with c;subst c;simp at q
   | arr y i=>rw[flat]at c;injection c with c;subst c;simp at q
   | obj Z i=>
     have l:=zk M (formN M f) (ib M f) Z (k+1) e.obj (by rw[fK]at g;exact g);rw[flat]at c;injection c with c;subst c;have F:=gn (fc M (formN M f)) (eE (dZ M) (cq (k+1) Z)) j (by rw[gj];exact r);rw[nO]at F;rw[ep]at o;dsimp only;omega
  ·rcases(E n h).1 with h|h<;>omega
end
theorem AB{B:Nat}{d:TypeId}{v:Value}{a:oa}{w:Wd}(h:cr B d v a w)(g:0<a.length):B<=w.heap.size:=by
 obtain⟨f,_,b,_⟩:=h;rcases b.2 with⟨e,j⟩|⟨q,_,_,_,i,c,_⟩
 ·omega
 ·have:=(go.1 c).1;omega
theorem lS(d:oa)(u k K:Nat)(nd:Nd)(h:∀n∈d,n.kids.length<=K)(e:nd.kids=[]):∀n∈cR d (some u) k++[nd],n.kids.length<=K+1:=by
 intro n b;rcases KX.1 b with b|b
 ·obtain⟨j,a⟩:=LT b
  unfold cR at a;dsimp only at a;rw[List.getElem?_modify]at a;cases c:d[j]? with
  | none=>rw[c]at a;simp at a
  | some m=>
    have:=h m (JZ c);rw[c]at a;simp only[Option.map_eq_map,ME,Lg]at a;subst a;split
    ·simp only[JH,JM,JY];omega
    ·omega
 ·simp at b;subst b;rw[e];simp
theorem yJ(L:oa)(h:L≠[])(iss:dj)(a b:Int)(c d e:oa)(g:c=cR L (some 0) L.length++[⟨3,f9,iss,0,[],0⟩])(i:d=cR c (some 0) c.length++[⟨2,f7,[],a,[],0⟩])(f:e=cR d (some 0) d.length++[⟨2,f8,[],a,[],0⟩]):mkN L iss a b=cR e (some 0) e.length++[⟨2,gi,[],b,[],0⟩]:=by
 subst g i f;cases L with
 | nil=>exact absurd rfl h
 | cons n r=>simp[cR,mkN]
def D0(t:JT)(iss:dj)(a b:Int):dj×Int×Int:=
 match t with
 | .obj ms _=>if(cQ (.obj (ms++iC iss a b) 0)).length<=65536 then(cQ (.obj (ms++iC iss a b) 0),0,0)else([],1,0)
 | _=>([],0,0)
def Ff(t:JT)(iss:dj)(a ttl:Int):dj×Int×Int:=
 if(e8 (flat 0 [] t) 0).kind=5 then
  if(dE (flat 0 [] t) (e8 (flat 0 [] t) 0).kids).1=0 then
   if fd (flat 0 [] t) eh (e8 (flat 0 [] t) 0).kids<0 then([],7,0)
   else if Lib.validD iss=false then([],2,0)
   else if a<0\/ttl<1\/9007199254740991-ttl<a then([],3,0)
   else D0 t iss a (a+ttl)
  else([],dE (flat 0 [] t) (e8 (flat 0 [] t) 0).kids)
 else([],6,((e8 (flat 0 [] t) 0).at':Int))
def mkR(s iss:dj)(a ttl:Int):dj×Int×Int:=
 match cB s with
 | .ok t=>Ff t iss a ttl
 | .error (e,p)=>([],(e:Int),(p:Int))
theorem pt{t:JT}(f:(e8 (flat 0 [] t) 0).kind=5)(g:(dE (flat 0 [] t) (e8 (flat 0 [] t) 0).kids).1=0)(k:¬fd (flat 0 [] t) eh (e8 (flat 0 [] t) 0).kids<0):∃a i,t=.obj a i/\a≠[]/\∀p∈a,p.1≠f9/\p.1≠f7/\p.1≠f8/\p.1≠gi:=by
 cases t with
 | null i=>simp[flat,e8]at f
 | truth b i=>simp[flat,e8]at f
 | int n i=>simp[flat,e8]at f
 | str x i=>simp[flat,e8]at f
 | arr z i=>simp[flat,e8]at f
 | obj a i=>
   have m:e8 (flat 0 [] (.obj a i)) 0=⟨5,[],[],0,cq 1 a,i⟩:=by rw[flat];rfl
   rw[m]at g k;have v:ju (flat 0 [] (.obj a i)) 0 [] (.obj a i):=fun j y=>by rw[J3]
   have o:ka (flat 0 [] (.obj a i)) 1 a:=v.obj;have r:=rN (flat 0 [] (.obj a i)) a 1 o;have q:=qY _ _ g;refine⟨a,i,rfl,?_,fun p u=>?_⟩
   ·rintro rfl
    exact k (by simp[cq,fd])
   ·have w:p.1∈(cq 1 a).map (keyL (flat 0 [] (.obj a i))):=by rw[r];exact Np u
    obtain⟨c,l,e⟩:=Ly.1 w;have d:=q c l;have s:(e8 (flat 0 [] (.obj a i)) c).key=keyL (flat 0 [] (.obj a i)) c:=by
     unfold e8 keyL;cases(flat 0 [] (.obj a i))[c]?<;>rfl
    rw[s,e]at d;exact⟨fun h=>d (.inl h),fun h=>d (.inr (.inl h)),fun h=>d (.inr (.inr (.inl h))),fun h=>d (.inr (.inr (.inr h)))⟩
theorem yY{s:dj}{t:JT}(h:cB s=.ok t)(b:(e8 (flat 0 [] t) 0).kind=5)(c:(dE (flat 0 [] t) (e8 (flat 0 [] t) 0).kids).1=0)(j:¬fd (flat 0 [] t) eh (e8 (flat 0 [] t) 0).kids<0)(iss:dj)(f:Lib.validD iss=true)(a ttl:Int)(k:¬(a<0\/ttl<1\/9007199254740991-ttl<a))(pre:dj)(e:cQ t=pre++[125]):((prF (cB (pre++fT iss a (a+ttl)++[125]))).1,((prF (cB (pre++fT iss a (a+ttl)++[125]))).2.1:Int),((prF (cB (pre++fT iss a (a+ttl)++[125]))).2.2:Int))=D0 t iss a (a+ttl):=by
 obtain⟨l,i,rfl,d,g⟩:=pt b c j;rw[wy h d g iss ((kE iss).1 f) a (a+ttl) ⟨by omega,by omega⟩ ⟨by omega,by omega⟩ pre e];unfold D0;dsimp only;split<;>rfl
theorem DJ(a:List (dj×JT))(i:Nat):∃pre,cQ (.obj a i)=pre++[125]:=⟨_,by rw[cQ]⟩
end Go.Proofs.YtihboehpeehlmaaGreatDoor
