import Derived.Test.YtihboehpeehlmaaGreatDoorNSeq
set_option maxHeartbeats 1000000
namespace Go.Proofs.YtihboehpeehlmaaGreatDoor
open Tryz
open Go.RowKit
set_option linter.unusedVariables false
def RD(bp:Nat)(s:dv)(i:Nat)(vL:Va)(er at' dp:Nat)(w:Wd):Prop:=w.heap[bp]?=some (.cells (E8 s i vL er at' dp) 94 (0,0))
theorem RD.cell{a:Nat}{s:dv}{i:Nat}{c:Va}{e b d:Nat}{w:Wd}(h:RD a s i c e b d w):w.cell? ⟨a,0,none⟩=some (.string s)/\w.cell? ⟨a,1,none⟩=some (.int .i64 (i:Int))/\w.cell? ⟨a,2,none⟩=some c/\w.cell? ⟨a,3,none⟩=some (.int .i64 (e:Int))/\w.cell? ⟨a,4,none⟩=some (.int .i64 (b:Int))/\w.cell? ⟨a,5,none⟩=some (.int .i64 (d:Int))/\(∀k,w.frozen? ⟨a,k,none⟩=false):=by
 refine⟨?_,?_,?_,?_,?_,?_,?_⟩
 ·rw[JE w a 0 _ _ _ h];rfl
 ·rw[JE w a 1 _ _ _ h];rfl
 ·rw[JE w a 2 _ _ _ h];rfl
 ·rw[JE w a 3 _ _ _ h];rfl
 ·rw[JE w a 4 _ _ _ h];rfl
 ·rw[JE w a 5 _ _ _ h];rfl
 ·intro k;unfold RD at h;simp[World.frozen?,h]
section
variable {Z:Nat} {s:dv} {i:Nat} {Y:Va} {X V W:Nat} {w:Wd}
theorem RD.setI(h:RD Z s i Y X V W w)(j:Nat):RD Z s j Y X V W (w.setCell ⟨Z,1,none⟩ (.int .i64 (j:Int))):=by
 rw[JV w Z 1 _ _ _ _ h];exact J7 w Z _ _ _ _ h
theorem RD.setL(h:RD Z s i Y X V W w)(v:Va):RD Z s i v X V W (w.setCell ⟨Z,2,none⟩ v):=by
 rw[JV w Z 2 _ _ _ _ h];exact J7 w Z _ _ _ _ h
theorem RD.setE(h:RD Z s i Y X V W w)(j:Nat):RD Z s i Y j V W (w.setCell ⟨Z,3,none⟩ (.int .i64 (j:Int))):=by
 rw[JV w Z 3 _ _ _ _ h];exact J7 w Z _ _ _ _ h
theorem RD.setA(h:RD Z s i Y X V W w)(j:Nat):RD Z s i Y X j W (w.setCell ⟨Z,4,none⟩ (.int .i64 (j:Int))):=by
 rw[JV w Z 4 _ _ _ _ h];exact J7 w Z _ _ _ _ h
theorem RD.setD(h:RD Z s i Y X V W w)(j:Nat):RD Z s i Y X V j (w.setCell ⟨Z,5,none⟩ (.int .i64 (j:Int))):=by
 rw[JV w Z 5 _ _ _ _ h];exact J7 w Z _ _ _ _ h
theorem RD.lt(h:RD Z s i Y X V W w):Z<w.heap.size:=(go.1 h).1
theorem RD.drewN(h:RD Z s i Y X V W w)(n:Nat):RD Z s i Y X V W (w.drewN n):=h
theorem RD.alloc(h:RD Z s i Y X V W w)(o:Obj):RD Z s i Y X V W (w.alloc o):=by
 unfold RD;rw[JO _ _ h.lt];exact h
end
theorem dh(b:Nat)(s:dv)(i:Nat)(d:Va)(j f e a:Nat)(w:Wd)(h:RD b s i d 0 j f w):Calls prog 66 #[.pointer (some ⟨b,0,none⟩),.int .i64 (e:Int),.int .i64 (a:Int)] w fun r c=>r=.returned (.tuple #[])/\RD b s i d e a f c/\ca b w c:=by
 obtain⟨l,o,q,p,n,t,g⟩:=h.cell;go_enter func66,ntmps66;go_wp2;go_end0
 exact⟨rfl,(h.setE e).setA a,((ce b w).setCell _ h).setCell _ (h.setE e)⟩
theorem lj(c:Nat)(s:dv)(i:Nat)(d:Va)(b g f e a:Nat)(w:Wd)(h:RD c s i d b g f w)(n:0<b):Calls prog 66 #[.pointer (some ⟨c,0,none⟩),.int .i64 (e:Int),.int .i64 (a:Int)] w fun r j=>r=.returned (.tuple #[])/\j=w:=by
 obtain⟨p,t,q,o,m,u,k⟩:=h.cell
 go_enter func66,ntmps66;go_wp2;go_end0
 exact⟨rfl,rfl⟩
theorem lW(f:Nat)(s:dv)(i:Nat)(k:Va)(b p m:Nat)(c:UInt8)(w:Wd)(h:RD f s i k b p m w):Calls prog 93 #[.pointer (some ⟨f,0,none⟩),.int .u8 (c.toNat:Int)] w fun r q=>r=.returned (.bool (ft b (b9 s i) c))/\∃n,q=w.drewN n:=by
 obtain⟨y,z,A,x,u,v,t⟩:=h.cell;by_cases j:b=0
 ·subst j
  by_cases l:i<s.size
  ·have o:(i:Int)<(s.size:Int):=by omega
   have a:ft 0 (b9 s i) c=(s[i]==c):=by rw[cg s i l];simp[ft]
   rw[a];by_cases d:s[i]=c
   ·have g:((s[i].toNat:Int)==(c.toNat:Int))=true:=by rw[d];simp
    rw[beq_iff_eq.2 d];go_enter func93,ntmps93;go_wp2
    go_quiet (fail);go_wp2;go_ret;exact⟨rfl,_,rfl⟩
   ·have g:((s[i].toNat:Int)==(c.toNat:Int))=false:=by
     rw[JJ];intro e;exact d (K9.1 (by exact_mod_cast e))
    rw[JJ.2 d];go_enter func93,ntmps93;go_wp2
    go_quiet (fail);go_wp2;go_ret;exact⟨rfl,_,rfl⟩
  ·have o:decide ((i:Int)<(s.size:Int))=false:=by simp;omega
   have a:ft 0 (b9 s i) c=false:=by rw[cU s i (by omega)];simp[ft]
   rw[a];go_enter func93,ntmps93;go_wp2
   go_quiet (fail);go_wp2;go_ret;exact⟨rfl,_,rfl⟩
 ·have g:((b:Int)==0)=false:=by simp;omega
  have a:ft b (b9 s i) c=false:=by simp[ft,j]
  rw[a];go_enter func93,ntmps93;go_wp2
  go_quiet (fail);go_wp2;go_ret;exact⟨rfl,_,rfl⟩
section
variable (Z:Nat) (s:dv) (i:Nat) (Y:Va) (V W X:Nat) (c:UInt8) (w:Wd)
theorem iQ(u:s.size<=140737488355328)(h:RD Z s i Y 0 W X w)(d:(b9 s i).head?=some c):Calls prog 127 #[.pointer (some ⟨Z,0,none⟩),.int .u8 (c.toNat:Int)] w fun r b=>r=.returned (.tuple #[])/\RD Z s (i+1) Y 0 W X b/\ca Z w b:=by
 have m:=dr d;have p:i<=140737488355328:=by omega
 have f:=lW Z s i Y 0 W X c w h;rw[gy d]at f;go_enter func127,ntmps127;go_wp2_with fail
 refine f.mono ?_;rintro e l ⟨rfl,n,k⟩;rw[k];have a:=h.drewN n;have g:=(ce Z w).drewN n;generalize w.drewN n=l at a g;obtain⟨y,q,t,x,o,z,j⟩:=a.cell;go_wp2;go_end0
 exact⟨rfl,a.setI (i+1),g.setCell _ a⟩
theorem mr(h:RD Z s i Y 0 W X w)(l:(b9 s i).head?≠some c):Calls prog 127 #[.pointer (some ⟨Z,0,none⟩),.int .u8 (c.toNat:Int)] w fun r b=>r=.returned (.tuple #[])/\RD Z s i Y 2 i X b/\ca Z w b:=by
 have d:=lW Z s i Y 0 W X c w h;rw[fa l]at d;go_enter func127,ntmps127;go_wp2_with fail
 refine d.mono ?_;rintro e f ⟨rfl,n,k⟩;rw[k];have a:=h.drewN n;have g:=(ce Z w).drewN n;generalize w.drewN n=f at a g;obtain⟨z,u,v,y,t,A,q⟩:=a.cell;have m:=dh Z s i Y W X 2 i f a;go_wp2_with fail
 refine m.mono ?_;rintro e x ⟨rfl,o,j⟩;have p:Hid _:=g.trans j;go_wp2;refine Ka (Ma rfl _ _ _) rfl ?_;exact⟨rfl,o,p.out⟩
theorem jy(h:RD Z s i Y V W X w)(b:0<V):Calls prog 127 #[.pointer (some ⟨Z,0,none⟩),.int .u8 (c.toNat:Int)] w fun r j=>r=.returned (.tuple #[])/\∃n,j=w.drewN n:=by
 have a:=lW Z s i Y V W X c w h;rw[jM b]at a;go_enter func127,ntmps127;go_wp2_with fail
 refine a.mono ?_;rintro e o ⟨rfl,n,d⟩;rw[d];obtain⟨m,l,q,u,t,v,p⟩:=(h.drewN n).cell;have g:=lj Z s i Y V W X 2 i (w.drewN n) (h.drewN n) b;go_wp2_with fail
 refine g.mono ?_;rintro e k ⟨rfl,f⟩;rw[f];go_wp2;refine Ka (Ma rfl _ _ _) rfl ?_;exact⟨rfl,n,rfl⟩
end
theorem lc{a:Nat}{s:dv}{i:Nat}{c:Va}{e b d:Nat}{w:Wd}(h:RD a s i c e b d w):dU (w.cell? ⟨a,1,none⟩)=i:=by rw[h.cell.2.1];rfl
theorem iq{a:Nat}{s:dv}{i:Nat}{c:Va}{e b d:Nat}{w:Wd}(h:RD a s i c e b d w)(k:Nat):dU ((w.setCell ⟨a,1,none⟩ (.int .i64 ((k:Int)+1))).cell? ⟨a,1,none⟩)=k+1:=lc (h.setI (k+1))
theorem gU(a:Nat)(s:dv)(i:Nat)(g:Va)(j f:Nat)(w:Wd)(hs:s.size<=140737488355328)(h:RD a s i g 0 j f w):Calls prog 64 #[.pointer (some ⟨a,0,none⟩)] w fun r d=>r=.returned (.tuple #[])/\RD a s (i+nb (b9 s i)) g 0 j f d/\ca a w d:=by
 generalize R:i+nb (b9 s i)=E;have HE:Hid _:=R;clear R;go_enter func64,ntmps64;go_wp2_with fail
 go_loopw [2] (fun v wr=>∃k:Nat,k+nb (b9 s k)=E/\RD a s k g 0 j f wr/\ca a w wr) (fun _ wr=>s.size-dU (wr.cell? ⟨a,1,none⟩))
 case atStart=>exact⟨i,HE.out,h,ce a w⟩
 case round=>
  clear h;obtain⟨k,R,h,ho⟩:=hrel;have HK:Hid _:=R;have x:Hid (RD a s k g 0 j f wr):=h;have H:Hid (ca a w wr):=ho;clear R h ho HE
  have o:∀(c:UInt8) (b:Bool),ft 0 (b9 s k) c=b->∀d,RD a s k g 0 j f d->Calls prog 93 #[.pointer (some ⟨a,0,none⟩),.int .u8 (c.toNat:Int)] d fun r l=>r=.returned (.bool b)/\RD a s k g 0 j f l/\ca a d l:=
   fun c b hb d h'=>hb▸(lW a s k g 0 j f c d h').mono fun e l ⟨he,n,hw⟩=>⟨he,hw▸h'.drewN n,hw▸(ce a d).drewN n⟩
  by_cases S:k<s.size/\∃h:k<s.size,iS s[k]=true
  ·obtain⟨T,_,S⟩:=S
   have p:(b9 s k).head?=some s[k]:=by rw[cg s k T];rfl
   have ac:=HK.out;rw[CX s k T S]at ac;have aa:Hid (k+(nb (b9 s (k+1))+1)=E):=ac
   clear ac HK;have m:s[k]=32\/s[k]=9\/s[k]=10\/s[k]=13:=by simpa [iS,or_assoc]using S
   clear S;rcases m with m|m|m|m
   ·rw[m]at p
    have J:∀d,RD a s k g 0 j f d->Calls prog 93 #[.pointer (some ⟨a,0,none⟩),.int .u8 32] d fun r l=>r=.returned (.bool true)/\RD a s k g 0 j f l/\ca a d l:=o 32 true (gy p)
    have F:dU (wr.cell? ⟨a,1,none⟩)=k:=by rw[x.out.cell.2.1];rfl
    have N:Hid (dU (wr.cell? ⟨a,1,none⟩)=k):=F;clear m p o F;go_wp2_with fail
    refine(J _ x.out).mono ?_;rintro e y ⟨rfl,u,t⟩;have q:Hid (RD a s k g 0 j f y):=u;have A:Hid (ca a w y):=H.out.trans t;clear u t x H;obtain⟨c0,c1,c2,c3,c4,c5,O⟩:=q.out.cell;have f1:=O 1;go_wp2;refine⟨⟨k+1,by have:=aa.out;omega,q.out.setI (k+1),A.out.setCell _ q.out⟩,?_⟩;rw[N.out,iq q.out k];omega
   ·rw[m]at p
    have J:∀d,RD a s k g 0 j f d->Calls prog 93 #[.pointer (some ⟨a,0,none⟩),.int .u8 32] d fun r l=>r=.returned (.bool false)/\RD a s k g 0 j f l/\ca a d l:=o 32 false (fa (by rw[p];decide))
    have Q:∀d,RD a s k g 0 j f d->Calls prog 93 #[.pointer (some ⟨a,0,none⟩),.int .u8 9] d fun r l=>r=.returned (.bool true)/\RD a s k g 0 j f l/\ca a d l:=o 9 true (gy p)
    have F:dU (wr.cell? ⟨a,1,none⟩)=k:=by rw[x.out.cell.2.1];rfl
    have N:Hid (dU (wr.cell? ⟨a,1,none⟩)=k):=F;clear m p o F;go_wp2_with fail
    refine(J _ x.out).mono ?_;rintro e y ⟨rfl,u,t⟩;have q:Hid (RD a s k g 0 j f y):=u;have A:Hid (ca a w y):=H.out.trans t;clear u t x H;go_wp2_with fail
    refine(Q _ q.out).mono ?_;rintro e B ⟨rfl,D,C⟩;have z:Hid (RD a s k g 0 j f B):=D;have I:Hid (ca a w B):=A.out.trans C;clear D C q A;obtain⟨c0,c1,c2,c3,c4,c5,O⟩:=z.out.cell;have f1:=O 1;go_wp2;refine⟨⟨k+1,by have:=aa.out;omega,z.out.setI (k+1),I.out.setCell _ z.out⟩,?_⟩;rw[N.out,iq z.out k];omega
   ·rw[m]at p
    have J:∀d,RD a s k g 0 j f d->Calls prog 93 #[.pointer (some ⟨a,0,none⟩),.int .u8 32] d fun r l=>r=.returned (.bool false)/\RD a s k g 0 j f l/\ca a d l:=o 32 false (fa (by rw[p];decide))
    have Q:∀d,RD a s k g 0 j f d->Calls prog 93 #[.pointer (some ⟨a,0,none⟩),.int .u8 9] d fun r l=>r=.returned (.bool false)/\RD a s k g 0 j f l/\ca a d l:=o 9 false (fa (by rw[p];decide))
    have Z:∀d,RD a s k g 0 j f d->Calls prog 93 #[.pointer (some ⟨a,0,none⟩),.int .u8 10] d fun r l=>r=.returned (.bool true)/\RD a s k g 0 j f l/\ca a d l:=o 10 true (gy p)
    have F:dU (wr.cell? ⟨a,1,none⟩)=k:=by rw[x.out.cell.2.1];rfl
    have N:Hid (dU (wr.cell? ⟨a,1,none⟩)=k):=F;clear m p o F;go_wp2_with fail
    refine(J _ x.out).mono ?_;rintro e y ⟨rfl,u,t⟩;have q:Hid (RD a s k g 0 j f y):=u;have A:Hid (ca a w y):=H.out.trans t;clear u t x H;go_wp2_with fail
    refine(Q _ q.out).mono ?_;rintro e B ⟨rfl,D,C⟩;have z:Hid (RD a s k g 0 j f B):=D;have I:Hid (ca a w B):=A.out.trans C;clear D C q A;go_wp2_with fail
    refine(Z _ z.out).mono ?_;rintro e K ⟨rfl,L,M⟩;have G:Hid (RD a s k g 0 j f K):=L;have P:Hid (ca a w K):=I.out.trans M;clear L M z I;obtain⟨c0,c1,c2,c3,c4,c5,O⟩:=G.out.cell;have f1:=O 1;go_wp2;refine⟨⟨k+1,by have:=aa.out;omega,G.out.setI (k+1),P.out.setCell _ G.out⟩,?_⟩;rw[N.out,iq G.out k];omega
   ·rw[m]at p
    have J:∀d,RD a s k g 0 j f d->Calls prog 93 #[.pointer (some ⟨a,0,none⟩),.int .u8 32] d fun r l=>r=.returned (.bool false)/\RD a s k g 0 j f l/\ca a d l:=o 32 false (fa (by rw[p];decide))
    have Q:∀d,RD a s k g 0 j f d->Calls prog 93 #[.pointer (some ⟨a,0,none⟩),.int .u8 9] d fun r l=>r=.returned (.bool false)/\RD a s k g 0 j f l/\ca a d l:=o 9 false (fa (by rw[p];decide))
    have Z:∀d,RD a s k g 0 j f d->Calls prog 93 #[.pointer (some ⟨a,0,none⟩),.int .u8 10] d fun r l=>r=.returned (.bool false)/\RD a s k g 0 j f l/\ca a d l:=o 10 false (fa (by rw[p];decide))
    have ab:∀d,RD a s k g 0 j f d->Calls prog 93 #[.pointer (some ⟨a,0,none⟩),.int .u8 13] d fun r l=>r=.returned (.bool true)/\RD a s k g 0 j f l/\ca a d l:=o 13 true (gy p)
    have F:dU (wr.cell? ⟨a,1,none⟩)=k:=by rw[x.out.cell.2.1];rfl
    have N:Hid (dU (wr.cell? ⟨a,1,none⟩)=k):=F;clear m p o F;go_wp2_with fail
    refine(J _ x.out).mono ?_;rintro e y ⟨rfl,u,t⟩;have q:Hid (RD a s k g 0 j f y):=u;have A:Hid (ca a w y):=H.out.trans t;clear u t x H;go_wp2_with fail
    refine(Q _ q.out).mono ?_;rintro e B ⟨rfl,D,C⟩;have z:Hid (RD a s k g 0 j f B):=D;have I:Hid (ca a w B):=A.out.trans C;clear D C q A;go_wp2_with fail
    refine(Z _ z.out).mono ?_;rintro e K ⟨rfl,L,M⟩;have G:Hid (RD a s k g 0 j f K):=L;have P:Hid (ca a w K):=I.out.trans M;clear L M z I;go_wp2_with fail
    refine(ab _ G.out).mono ?_;rintro e W ⟨rfl,X,Y⟩;have U:Hid (RD a s k g 0 j f W):=X;have ad:Hid (ca a w W):=P.out.trans Y;clear X Y G P;obtain⟨c0,c1,c2,c3,c4,c5,O⟩:=U.out.cell;go_wp2;refine⟨⟨k+1,by have:=aa.out;omega,U.out.setI (k+1),ad.out.setCell _ U.out⟩,?_⟩;rw[N.out,iq U.out k];omega
  ·have V:∀c,(b9 s k).head?=some c->iS c=false:=by
    intro c m;have T:=dr m;rw[cg s k T]at m;have m:s[k]=c:=by simpa using m
    cases hb:iS c
    ·rfl
    ·exact absurd ⟨T,T,by rw[m];exact hb⟩ S
   have hz:=C2 s k V;have J:∀d,RD a s k g 0 j f d->Calls prog 93 #[.pointer (some ⟨a,0,none⟩),.int .u8 32] d fun r l=>r=.returned (.bool false)/\RD a s k g 0 j f l/\ca a d l:=o 32 false (fa (fun h=>by have:=V _ h;simp[iS]at this))
   have Q:∀d,RD a s k g 0 j f d->Calls prog 93 #[.pointer (some ⟨a,0,none⟩),.int .u8 9] d fun r l=>r=.returned (.bool false)/\RD a s k g 0 j f l/\ca a d l:=o 9 false (fa (fun h=>by have:=V _ h;simp[iS]at this))
   have Z:∀d,RD a s k g 0 j f d->Calls prog 93 #[.pointer (some ⟨a,0,none⟩),.int .u8 10] d fun r l=>r=.returned (.bool false)/\RD a s k g 0 j f l/\ca a d l:=o 10 false (fa (fun h=>by have:=V _ h;simp[iS]at this))
   have ab:∀d,RD a s k g 0 j f d->Calls prog 93 #[.pointer (some ⟨a,0,none⟩),.int .u8 13] d fun r l=>r=.returned (.bool false)/\RD a s k g 0 j f l/\ca a d l:=o 13 false (fa (fun h=>by have:=V _ h;simp[iS]at this))
   have HZ:Hid (nb (b9 s k)=0):=hz;clear hz V S o;go_wp2_with fail
   refine(J _ x.out).mono ?_;rintro e y ⟨rfl,u,t⟩;have q:Hid (RD a s k g 0 j f y):=u;have A:Hid (ca a w y):=H.out.trans t;clear u t x H;go_wp2_with fail
   refine(Q _ q.out).mono ?_;rintro e B ⟨rfl,D,C⟩;have z:Hid (RD a s k g 0 j f B):=D;have I:Hid (ca a w B):=A.out.trans C;clear D C q A;go_wp2_with fail
   refine(Z _ z.out).mono ?_;rintro e K ⟨rfl,L,M⟩;have G:Hid (RD a s k g 0 j f K):=L;have P:Hid (ca a w K):=I.out.trans M;clear L M z I;go_wp2_with fail
   refine(ab _ G.out).mono ?_;rintro e W ⟨rfl,X,Y⟩;have U:Hid (RD a s k g 0 j f W):=X;have ad:Hid (ca a w W):=P.out.trans Y;clear X Y G P;go_wp2;go_end0
   have R:k=E:=by have:=HK.out;rw[HZ.out]at this;omega
   subst R;exact⟨rfl,U.out,ad.out⟩
theorem eI(a:Nat)(s:dv)(i:Nat)(g:Va)(d k f:Nat)(w:Wd)(h:RD a s i g d k f w)(y:0<d):Calls prog 64 #[.pointer (some ⟨a,0,none⟩)] w fun r b=>r=.returned (.tuple #[])/\RD a s i g d k f b/\ca a w b:=by
 have j:∀(c:UInt8),∀b,RD a s i g d k f b->Calls prog 93 #[.pointer (some ⟨a,0,none⟩),.int .u8 (c.toNat:Int)] b fun r l=>r=.returned (.bool false)/\RD a s i g d k f l/\ca a b l:=
  fun c b u=>(lW a s i g d k f c b u).mono fun e l ⟨K,n,hw⟩=>⟨by rw[K,jM y],hw▸u.drewN n,hw▸(ce a b).drewN n⟩
 have O:=j 32
 have J:=j 9
 have N:=j 10
 have I:=j 13
 have x:Hid _:=h;have G:Hid _:=ce a w;clear j h y;go_enter func64,ntmps64;go_wp2
 refine wp_loop_once ?_;go_wp2_with fail
 refine(O _ x.out).mono ?_;rintro e S ⟨rfl,v,o⟩;have p:Hid _:=v;have E:Hid _:=G.out.trans o;clear v o x G;go_wp2_with fail
 refine(J _ p.out).mono ?_;rintro e R ⟨rfl,D,A⟩;have m:Hid _:=D;have H:Hid _:=E.out.trans A;clear D A p E;go_wp2_with fail
 refine(N _ m.out).mono ?_;rintro e Q ⟨rfl,z,F⟩;have B:Hid _:=z;have q:Hid _:=H.out.trans F;clear z F m H;go_wp2_with fail
 refine(I _ B.out).mono ?_;rintro e P ⟨rfl,t,C⟩;have L:Hid _:=t;have M:Hid _:=q.out.trans C;clear t C B q;go_wp2;go_end0
 exact⟨rfl,L.out,M.out⟩
section
variable (Z:Nat) (s:dv) (i:Nat) (Y:Va) (W X:Nat) (w:Wd)
theorem uA(n:Int)(m a:Nat)(f:n=(m:Int))(d:n<55296\/57343<n)(j:m<65536)(h:RD Z s i Y 0 W X w):Calls prog 159 #[.pointer (some ⟨Z,0,none⟩),.int .i64 n,.int .i64 (a:Int)] w fun r g=>r=.returned (.string ⟨(fJ m).toArray⟩)/\RD Z s i Y 0 W X g/\ca Z w g:=by
 have hw:=tO m w (by omega);rw[<-f]at hw;generalize (⟨(fJ m).toArray⟩:dv)=T at hw;clear f j;rcases d with d|d
 ·go_enter func159,ntmps159
  go_wp2_with fail
  refine hw.mono ?_;rintro e k ⟨rfl,c⟩;have b:Hid _:=c;go_wp2;go_ret;exact⟨rfl,by unfold RD;rw[b.out.block _ h.lt];exact h,iH b.out⟩
 ·have l:decide (n<55296)=false:=by simp;omega
  go_enter func159,ntmps159;go_wp2_with fail
  refine hw.mono ?_;rintro e k ⟨rfl,c⟩;have b:Hid _:=c;go_wp2;go_ret;exact⟨rfl,by unfold RD;rw[b.out.block _ h.lt];exact h,iH b.out⟩
theorem xE(n:Int)(a:Nat)(c T:Nat)(M:55296<=n)(K:n<56320)(l:dP (b9 s i)=some c)(u:65536+1024*(n-55296)+(c:Int)-56320=(T:Int))(x:T<1114112)(h:RD Z s i Y 0 W X w)(G:i<=140737488350000):Calls prog 159 #[.pointer (some ⟨Z,0,none⟩),.int .i64 n,.int .i64 (a:Int)] w fun r t=>r=.returned (.string ⟨(fJ T).toArray⟩)/\RD Z s (i+6) Y 0 W X t/\ca Z w t:=by
 have H:(c:Int)<=57343:=by have:=pH l;omega
 have k:=fun w=>GQ s i w (by omega)
 rw[l,hY]at k;have b:=fun w=>tO T w x
 rw[<-u]at b;generalize (⟨(fJ T).toArray⟩:dv)=N at b;obtain⟨y,p,q,v,o,z,g⟩:=h.cell;clear l u x;go_enter func159,ntmps159;go_wp2
 go_quiet ((go_at_call 185;exact J2 (k _)));have d:=h.drewN nq;have f:=(ce Z w).drewN nq;generalize w.drewN nq=B at d f;have C:Hid (ca Z w B):=f;clear f y p q v o z g;obtain⟨y,p,q,v,o,z,g⟩:=d.cell;go_wp2_with fail
 refine(b _).mono ?_;rintro e A ⟨rfl,j⟩;have m:=d.setI (i+6);have E:Hid _:=(C.out.setCell _ d).trans (iH j);have D:Hid (RD Z s (i+6) Y 0 W X A):=by unfold RD;rw[j.block _ m.lt];exact m
 clear j m b k;go_wp2;go_ret;exact⟨rfl,D.out,E.out⟩
theorem tS(n:Int)(a:Nat)(H:55296<=n)(E:n<=57343)(b:dP (b9 s i)=none\/56320<=n)(h:RD Z s i Y 0 W X w)(y:i<=140737488350000):Calls prog 159 #[.pointer (some ⟨Z,0,none⟩),.int .i64 n,.int .i64 (a:Int)] w fun r f=>r=.returned (.string ⟨#[]⟩)/\RD Z s i Y 2 a X f/\ca Z w f:=by
 have k:=fun w=>GQ s i w (by omega)
 have o:(∃x:Int,optI (dP (b9 s i))=x/\56320<=n)\/(optI (dP (b9 s i))= -1/\n<56320):=by
  by_cases c:56320<=n
  ·left;exact⟨_,rfl,c⟩
  ·right;rcases b with b|b
   ·exact⟨by rw[b];rfl,by omega⟩
   ·exact absurd b c
 obtain⟨I,B,C,G,A,K,z⟩:=h.cell;rcases o with⟨x,g,c⟩|⟨g,c⟩
 all_goals
  rw[g]at k;go_enter func159,ntmps159;go_wp2
  go_quiet ((go_at_call 185;exact J2 (k _)));have j:=h.drewN nq;have d:=(ce Z w).drewN nq;generalize w.drewN nq=q at j d;have l:=dh Z s i Y W X 2 a q j;have t:Hid _:=d;go_wp2_with fail
  refine l.mono ?_;rintro e F ⟨rfl,p,m⟩;have v:Hid _:=t.out.trans m;have u:Hid _:=p;go_wp2;go_ret;exact⟨rfl,u.out,v.out⟩
end
section
variable (Z:Nat) (s:dv) (i:Nat) (Y:Va) (W X:Nat) (w:Wd)
attribute [local go_sem] jG
theorem E5(F:s.size<=140737488351232)(h:RD Z s i Y 0 W X w)(A:i+1<s.size)(y:s[i+1]=34):Calls prog 128 #[.pointer (some ⟨Z,0,none⟩)] w fun r p=>r=.returned (.string ⟨#[34]⟩)/\RD Z s (i+2) Y 0 W X p/\ca Z w p:=by
 obtain⟨m,b,g,k,f,n,a⟩:=h.cell;have q:=a 1;go_enter func128,Mv;go_wp2
 have j:RD Z s (i+1) Y 0 W X (w.setCell ⟨Z,1,none⟩ (.int .i64 ((i:Int)+1))):=h.setI (i+1);have o:ca Z w (w.setCell ⟨Z,1,none⟩ (.int .i64 ((i:Int)+1))):=(ce Z w).setCell _ h;generalize w.setCell ⟨Z,1,none⟩ (.int .i64 ((i:Int)+1))=z at j o;obtain⟨m,b,g,k,f,n,a⟩:=j.cell;rw[show((i+1:Nat):Int)=(i:Int)+1 from rfl]at b;go_quiet (fail);have l:=j.drewN nq;have t:=o.drewN nq;generalize z.drewN nq=x at l t;obtain⟨m,b,g,k,f,n,a⟩:=l.cell;have q:=a 1;rw[show((i+1:Nat):Int)=(i:Int)+1 from rfl]at b;go_wp2
 go_quiet (fail);have d:=l.drewN nq;have v:=t.drewN nq;generalize x.drewN nq=c at d v;obtain⟨m,b,g,k,f,n,a⟩:=d.cell;rw[show((i+1:Nat):Int)=(i:Int)+1 from rfl]at b;have D:Sem.run prog (convert 115 9 (.slice (some ⟨c.heap.size,0,none⟩) 1 1)) ((c.setCell ⟨Z,1,none⟩ (.int .i64 ((i:Int)+1+1))).alloc (.cells #[.int .u8 34] 5))=.ok (.string ⟨#[34]⟩) ((c.setCell ⟨Z,1,none⟩ (.int .i64 ((i:Int)+1+1))).alloc (.cells #[.int .u8 34] 5)):=by
  have e:(c.setCell ⟨Z,1,none⟩ (.int .i64 ((i:Int)+1+1))).heap.size=c.heap.size:=by simp
  have u:=jG (c.setCell ⟨Z,1,none⟩ (.int .i64 ((i:Int)+1+1))) 34;rw[e]at u;exact u
 go_wp2;go_ret;exact⟨rfl,(d.setI (i+2)).alloc _,(ca.setCell v _ d).alloc _⟩
theorem Dy(G:s.size<=140737488351232)(h:RD Z s i Y 0 W X w)(A:i+1<s.size)(q:s[i+1]=92):Calls prog 128 #[.pointer (some ⟨Z,0,none⟩)] w fun r p=>r=.returned (.string ⟨#[92]⟩)/\RD Z s (i+2) Y 0 W X p/\ca Z w p:=by
 obtain⟨m,b,g,k,f,n,a⟩:=h.cell;have t:=a 1;go_enter func128,Mv;go_wp2
 have j:RD Z s (i+1) Y 0 W X (w.setCell ⟨Z,1,none⟩ (.int .i64 ((i:Int)+1))):=h.setI (i+1);have o:ca Z w (w.setCell ⟨Z,1,none⟩ (.int .i64 ((i:Int)+1))):=(ce Z w).setCell _ h;generalize w.setCell ⟨Z,1,none⟩ (.int .i64 ((i:Int)+1))=z at j o;obtain⟨m,b,g,k,f,n,a⟩:=j.cell;rw[show((i+1:Nat):Int)=(i:Int)+1 from rfl]at b;go_quiet (fail);have l:=j.drewN nq;have u:=o.drewN nq;generalize z.drewN nq=y at l u;obtain⟨m,b,g,k,f,n,a⟩:=l.cell;have t:=a 1;rw[show((i+1:Nat):Int)=(i:Int)+1 from rfl]at b;go_wp2
 go_quiet (fail);have d:=l.drewN nq;have x:=u.drewN nq;generalize y.drewN nq=c at d x;obtain⟨m,b,g,k,f,n,a⟩:=d.cell;rw[show((i+1:Nat):Int)=(i:Int)+1 from rfl]at b;have E:Sem.run prog (convert 115 9 (.slice (some ⟨c.heap.size,0,none⟩) 1 1)) ((c.setCell ⟨Z,1,none⟩ (.int .i64 ((i:Int)+1+1))).alloc (.cells #[.int .u8 92] 5))=.ok (.string ⟨#[92]⟩) ((c.setCell ⟨Z,1,none⟩ (.int .i64 ((i:Int)+1+1))).alloc (.cells #[.int .u8 92] 5)):=by
  have e:(c.setCell ⟨Z,1,none⟩ (.int .i64 ((i:Int)+1+1))).heap.size=c.heap.size:=by simp
  have v:=jG (c.setCell ⟨Z,1,none⟩ (.int .i64 ((i:Int)+1+1))) 92;rw[e]at v;exact v
 go_wp2;go_ret;exact⟨rfl,(d.setI (i+2)).alloc _,(ca.setCell x _ d).alloc _⟩
theorem EV(H:s.size<=140737488351232)(h:RD Z s i Y 0 W X w)(A:i+1<s.size)(j:s[i+1]=47):Calls prog 128 #[.pointer (some ⟨Z,0,none⟩)] w fun r q=>r=.returned (.string ⟨#[47]⟩)/\RD Z s (i+2) Y 0 W X q/\ca Z w q:=by
 obtain⟨n,b,g,l,f,o,a⟩:=h.cell;have t:=a 1;go_enter func128,Mv;go_wp2
 have k:RD Z s (i+1) Y 0 W X (w.setCell ⟨Z,1,none⟩ (.int .i64 ((i:Int)+1))):=h.setI (i+1);have p:ca Z w (w.setCell ⟨Z,1,none⟩ (.int .i64 ((i:Int)+1))):=(ce Z w).setCell _ h;generalize w.setCell ⟨Z,1,none⟩ (.int .i64 ((i:Int)+1))=z at k p;obtain⟨n,b,g,l,f,o,a⟩:=k.cell;rw[show((i+1:Nat):Int)=(i:Int)+1 from rfl]at b;go_quiet (fail);have m:=k.drewN nq;have u:=p.drewN nq;generalize z.drewN nq=y at m u;obtain⟨n,b,g,l,f,o,a⟩:=m.cell;have t:=a 1;rw[show((i+1:Nat):Int)=(i:Int)+1 from rfl]at b;go_wp2
 go_quiet (fail);have d:=m.drewN nq;have x:=u.drewN nq;generalize y.drewN nq=c at d x;obtain⟨n,b,g,l,f,o,a⟩:=d.cell;rw[show((i+1:Nat):Int)=(i:Int)+1 from rfl]at b;have E:Sem.run prog (convert 115 9 (.slice (some ⟨c.heap.size,0,none⟩) 1 1)) ((c.setCell ⟨Z,1,none⟩ (.int .i64 ((i:Int)+1+1))).alloc (.cells #[.int .u8 47] 5))=.ok (.string ⟨#[47]⟩) ((c.setCell ⟨Z,1,none⟩ (.int .i64 ((i:Int)+1+1))).alloc (.cells #[.int .u8 47] 5)):=by
  have e:(c.setCell ⟨Z,1,none⟩ (.int .i64 ((i:Int)+1+1))).heap.size=c.heap.size:=by simp
  have v:=jG (c.setCell ⟨Z,1,none⟩ (.int .i64 ((i:Int)+1+1))) 47;rw[e]at v;exact v
 go_wp2;go_ret;exact⟨rfl,(d.setI (i+2)).alloc _,(ca.setCell x _ d).alloc _⟩
theorem EG(F:s.size<=140737488351232)(h:RD Z s i Y 0 W X w)(x:i+1<s.size)(c:s[i+1]=98):Calls prog 128 #[.pointer (some ⟨Z,0,none⟩)] w fun r o=>r=.returned (.string ⟨#[8]⟩)/\RD Z s (i+2) Y 0 W X o/\ca Z w o:=by
 obtain⟨l,b,f,j,e,m,a⟩:=h.cell;have p:=a 1;go_enter func128,Mv;go_wp2
 have g:RD Z s (i+1) Y 0 W X (w.setCell ⟨Z,1,none⟩ (.int .i64 ((i:Int)+1))):=h.setI (i+1);have n:ca Z w (w.setCell ⟨Z,1,none⟩ (.int .i64 ((i:Int)+1))):=(ce Z w).setCell _ h;generalize w.setCell ⟨Z,1,none⟩ (.int .i64 ((i:Int)+1))=v at g n;obtain⟨l,b,f,j,e,m,a⟩:=g.cell;rw[show((i+1:Nat):Int)=(i:Int)+1 from rfl]at b;go_quiet (fail);have k:=g.drewN nq;have q:=n.drewN nq;generalize v.drewN nq=u at k q;obtain⟨l,b,f,j,e,m,a⟩:=k.cell;have p:=a 1;rw[show((i+1:Nat):Int)=(i:Int)+1 from rfl]at b;go_wp2
 go_quiet (fail);have d:=k.drewN nq;have t:=q.drewN nq;generalize u.drewN nq=E at d t;obtain⟨l,b,f,j,e,m,a⟩:=d.cell;rw[show((i+1:Nat):Int)=(i:Int)+1 from rfl]at b;go_wp2;go_ret;exact⟨rfl,d.setI (i+2),ca.setCell t _ d⟩
theorem BG(G:s.size<=140737488351232)(h:RD Z s i Y 0 W X w)(x:i+1<s.size)(c:s[i+1]=102):Calls prog 128 #[.pointer (some ⟨Z,0,none⟩)] w fun r o=>r=.returned (.string ⟨#[12]⟩)/\RD Z s (i+2) Y 0 W X o/\ca Z w o:=by
 obtain⟨l,b,f,j,e,m,a⟩:=h.cell;have p:=a 1;go_enter func128,Mv;go_wp2
 have g:RD Z s (i+1) Y 0 W X (w.setCell ⟨Z,1,none⟩ (.int .i64 ((i:Int)+1))):=h.setI (i+1);have n:ca Z w (w.setCell ⟨Z,1,none⟩ (.int .i64 ((i:Int)+1))):=(ce Z w).setCell _ h;generalize w.setCell ⟨Z,1,none⟩ (.int .i64 ((i:Int)+1))=v at g n;obtain⟨l,b,f,j,e,m,a⟩:=g.cell;rw[show((i+1:Nat):Int)=(i:Int)+1 from rfl]at b;go_quiet (fail);have k:=g.drewN nq;have q:=n.drewN nq;generalize v.drewN nq=u at k q;obtain⟨l,b,f,j,e,m,a⟩:=k.cell;have p:=a 1;rw[show((i+1:Nat):Int)=(i:Int)+1 from rfl]at b;go_wp2
 go_quiet (fail);have d:=k.drewN nq;have t:=q.drewN nq;generalize u.drewN nq=F at d t;obtain⟨l,b,f,j,e,m,a⟩:=d.cell;rw[show((i+1:Nat):Int)=(i:Int)+1 from rfl]at b;go_wp2;go_ret;exact⟨rfl,d.setI (i+2),ca.setCell t _ d⟩
theorem BU(H:s.size<=140737488351232)(h:RD Z s i Y 0 W X w)(x:i+1<s.size)(c:s[i+1]=110):Calls prog 128 #[.pointer (some ⟨Z,0,none⟩)] w fun r o=>r=.returned (.string ⟨#[10]⟩)/\RD Z s (i+2) Y 0 W X o/\ca Z w o:=by
 obtain⟨l,b,f,j,e,m,a⟩:=h.cell;have p:=a 1;go_enter func128,Mv;go_wp2
 have g:RD Z s (i+1) Y 0 W X (w.setCell ⟨Z,1,none⟩ (.int .i64 ((i:Int)+1))):=h.setI (i+1);have n:ca Z w (w.setCell ⟨Z,1,none⟩ (.int .i64 ((i:Int)+1))):=(ce Z w).setCell _ h;generalize w.setCell ⟨Z,1,none⟩ (.int .i64 ((i:Int)+1))=v at g n;obtain⟨l,b,f,j,e,m,a⟩:=g.cell;rw[show((i+1:Nat):Int)=(i:Int)+1 from rfl]at b;go_quiet (fail);have k:=g.drewN nq;have q:=n.drewN nq;generalize v.drewN nq=u at k q;obtain⟨l,b,f,j,e,m,a⟩:=k.cell;have p:=a 1;rw[show((i+1:Nat):Int)=(i:Int)+1 from rfl]at b;go_wp2
 go_quiet (fail);have d:=k.drewN nq;have t:=q.drewN nq;generalize u.drewN nq=G at d t;obtain⟨l,b,f,j,e,m,a⟩:=d.cell;rw[show((i+1:Nat):Int)=(i:Int)+1 from rfl]at b;go_wp2;go_ret;exact⟨rfl,d.setI (i+2),ca.setCell t _ d⟩
theorem AL(H:s.size<=140737488351232)(h:RD Z s i Y 0 W X w)(x:i+1<s.size)(a:s[i+1]=114):Calls prog 128 #[.pointer (some ⟨Z,0,none⟩)] w fun r o=>r=.returned (.string ⟨#[13]⟩)/\RD Z s (i+2) Y 0 W X o/\ca Z w o:=by
 obtain⟨l,c,f,j,e,m,b⟩:=h.cell;have p:=b 1;go_enter func128,Mv;go_wp2
 have g:RD Z s (i+1) Y 0 W X (w.setCell ⟨Z,1,none⟩ (.int .i64 ((i:Int)+1))):=h.setI (i+1);have n:ca Z w (w.setCell ⟨Z,1,none⟩ (.int .i64 ((i:Int)+1))):=(ce Z w).setCell _ h;generalize w.setCell ⟨Z,1,none⟩ (.int .i64 ((i:Int)+1))=v at g n;obtain⟨l,c,f,j,e,m,b⟩:=g.cell;rw[show((i+1:Nat):Int)=(i:Int)+1 from rfl]at c;go_quiet (fail);have k:=g.drewN nq;have q:=n.drewN nq;generalize v.drewN nq=u at k q;obtain⟨l,c,f,j,e,m,b⟩:=k.cell;have p:=b 1;rw[show((i+1:Nat):Int)=(i:Int)+1 from rfl]at c;go_wp2
 go_quiet (fail);have d:=k.drewN nq;have t:=q.drewN nq;generalize u.drewN nq=G at d t;obtain⟨l,c,f,j,e,m,b⟩:=d.cell;rw[show((i+1:Nat):Int)=(i:Int)+1 from rfl]at c;go_wp2;go_ret;exact⟨rfl,d.setI (i+2),ca.setCell t _ d⟩
theorem Ak(I:s.size<=140737488351232)(h:RD Z s i Y 0 W X w)(x:i+1<s.size)(a:s[i+1]=116):Calls prog 128 #[.pointer (some ⟨Z,0,none⟩)] w fun r o=>r=.returned (.string ⟨#[9]⟩)/\RD Z s (i+2) Y 0 W X o/\ca Z w o:=by
 obtain⟨l,c,f,j,e,m,b⟩:=h.cell;have p:=b 1;go_enter func128,Mv;go_wp2
 have g:RD Z s (i+1) Y 0 W X (w.setCell ⟨Z,1,none⟩ (.int .i64 ((i:Int)+1))):=h.setI (i+1);have n:ca Z w (w.setCell ⟨Z,1,none⟩ (.int .i64 ((i:Int)+1))):=(ce Z w).setCell _ h;generalize w.setCell ⟨Z,1,none⟩ (.int .i64 ((i:Int)+1))=v at g n;obtain⟨l,c,f,j,e,m,b⟩:=g.cell;rw[show((i+1:Nat):Int)=(i:Int)+1 from rfl]at c;go_quiet (fail);have k:=g.drewN nq;have q:=n.drewN nq;generalize v.drewN nq=u at k q;obtain⟨l,c,f,j,e,m,b⟩:=k.cell;have p:=b 1;rw[show((i+1:Nat):Int)=(i:Int)+1 from rfl]at c;go_wp2
 go_quiet (fail);have d:=k.drewN nq;have t:=q.drewN nq;generalize u.drewN nq=H at d t;obtain⟨l,c,f,j,e,m,b⟩:=d.cell;rw[show((i+1:Nat):Int)=(i:Int)+1 from rfl]at c;go_wp2;go_ret;exact⟨rfl,d.setI (i+2),ca.setCell t _ d⟩
end
section
variable (Z:Nat) (s:dv) (i:Nat) (Y:Va) (V W:Nat) (w:Wd)
theorem CP(hs:s.size<=140737488351232)(h:RD Z s i Y 0 V W w)(S:i+1<s.size)(m:s[i+1]=117)(k:Nat)(H:dt (b9 s (i+2))=(none,k)):Calls prog 128 #[.pointer (some ⟨Z,0,none⟩)] w fun r K=>r=.returned (.string ⟨#[]⟩)/\(∃j,RD Z s j Y 2 (i+2+k) W K)/\ca Z w K:=by
 obtain⟨g,b,d,f,c,l,a⟩:=h.cell;have n:=a 1;go_enter func128,Mv;go_wp2_with fail
 have u:RD Z s (i+1) Y 0 V W (w.setCell ⟨Z,1,none⟩ (.int .i64 ((i:Int)+1))):=h.setI (i+1);have y:ca Z w (w.setCell ⟨Z,1,none⟩ (.int .i64 ((i:Int)+1))):=(ce Z w).setCell _ h;generalize w.setCell ⟨Z,1,none⟩ (.int .i64 ((i:Int)+1))=O at u y;clear g b d f c l a n;obtain⟨g,b,d,f,c,l,a⟩:=u.cell;rw[show((i+1:Nat):Int)=(i:Int)+1 from rfl]at b;go_quiet (fail);have v:=u.drewN nq;have A:=y.drewN nq;generalize O.drewN nq=M at v A;clear g b d f c l a u y nq O;obtain⟨g,b,d,f,c,l,a⟩:=v.cell;have n:=a 1;rw[show((i+1:Nat):Int)=(i:Int)+1 from rfl]at b;go_wp2_with fail
 go_quiet (fail);have o:=v.drewN nq;have D:=A.drewN nq;generalize M.drewN nq=t at o D;clear g b d f c l a n v A nq M;obtain⟨g,b,d,f,c,l,a⟩:=o.cell;have n:=a 1;rw[show((i+1:Nat):Int)=(i:Int)+1 from rfl]at b;have p:=fun w=>yr s (i+2) w (by omega)
 rw[H]at p;clear H;rw[g7]at p;go_wp2_with fail
 have q:RD Z s (i+2) Y 0 V W (t.setCell ⟨Z,1,none⟩ (.int .i64 ((i:Int)+1+1))):=o.setI (i+2);have B:ca Z w (t.setCell ⟨Z,1,none⟩ (.int .i64 ((i:Int)+1+1))):=ca.setCell D _ o;generalize t.setCell ⟨Z,1,none⟩ (.int .i64 ((i:Int)+1+1))=F at q B;clear g b d f c l a n o D t;obtain⟨g,b,d,f,c,l,a⟩:=q.cell;go_quiet ((go_at_call 158;exact J2 (p _)));have x:=q.drewN nq;have E:=ca.drewN B nq;generalize F.drewN nq=Q at x E;clear g b d f c l a q B nq F p;obtain⟨g,b,d,f,c,l,a⟩:=x.cell;have e:((i+2+k:Nat):Int)=(i:Int)+2+(k:Int):=by omega
 have I:=x.setI (i+2+k);have C:ca Z w (Q.setCell ⟨Z,1,none⟩ (.int .i64 ((i+2+k:Nat):Int))):=ca.setCell E _ x;have z:=dh Z s (i+2+k) Y V W 2 (i+2+k) _ I;rw[e]at z C;have G:Hid _:=C;clear I C E e;go_wp2_with fail
 refine z.mono ?_;rintro r N ⟨rfl,J,L⟩;have P:Hid (RD Z s (i+2+k) Y 2 (i+2+k) W N):=J;have R:Hid (ca Z w N):=ca.trans G.out L;clear J L z G;go_wp2;go_ret;exact⟨rfl,⟨_,P.out⟩,R.out⟩
theorem oe(hs:s.size<=140737488351232)(h:RD Z s i Y 0 V W w)(aa:i+1<s.size)(l:s[i+1]=117)(k n:Nat)(I:dt (b9 s (i+2))=(some n,k))(hk:k<=4)(T:dv)(X:Wd->Prop)(K:∀m,RD Z s (i+2+k) Y 0 V W m->Calls prog 159 #[.pointer (some ⟨Z,0,none⟩),.int .i64 (n:Int),.int .i64 (i:Int)] m fun r J=>r=.returned (.string T)/\X J/\ca Z m J):Calls prog 128 #[.pointer (some ⟨Z,0,none⟩)] w fun r m=>r=.returned (.string T)/\X m/\ca Z w m:=by
 obtain⟨g,b,d,f,c,j,a⟩:=h.cell;have o:=a 1;go_enter func128,Mv;go_wp2_with fail
 have v:RD Z s (i+1) Y 0 V W (w.setCell ⟨Z,1,none⟩ (.int .i64 ((i:Int)+1))):=h.setI (i+1);have z:ca Z w (w.setCell ⟨Z,1,none⟩ (.int .i64 ((i:Int)+1))):=(ce Z w).setCell _ h;generalize w.setCell ⟨Z,1,none⟩ (.int .i64 ((i:Int)+1))=Q at v z;clear g b d f c j a o;obtain⟨g,b,d,f,c,j,a⟩:=v.cell;rw[show((i+1:Nat):Int)=(i:Int)+1 from rfl]at b;go_quiet (fail);have x:=v.drewN nq;have B:=z.drewN nq;generalize Q.drewN nq=O at x B;clear g b d f c j a v z nq Q;obtain⟨g,b,d,f,c,j,a⟩:=x.cell;have o:=a 1;rw[show((i+1:Nat):Int)=(i:Int)+1 from rfl]at b;go_wp2_with fail
 go_quiet (fail);have p:=x.drewN nq;have E:=B.drewN nq;generalize O.drewN nq=u at p E;clear g b d f c j a o x B nq O;obtain⟨g,b,d,f,c,j,a⟩:=p.cell;have o:=a 1;rw[show((i+1:Nat):Int)=(i:Int)+1 from rfl]at b;have q:=fun w=>yr s (i+2) w (by omega)
 rw[I]at q;clear I;rw[hY]at q;go_wp2_with fail
 have t:RD Z s (i+2) Y 0 V W (u.setCell ⟨Z,1,none⟩ (.int .i64 ((i:Int)+1+1))):=p.setI (i+2);have C:ca Z w (u.setCell ⟨Z,1,none⟩ (.int .i64 ((i:Int)+1+1))):=ca.setCell E _ p;generalize u.setCell ⟨Z,1,none⟩ (.int .i64 ((i:Int)+1+1))=G at t C;clear g b d f c j a o p E u;obtain⟨g,b,d,f,c,j,a⟩:=t.cell;go_quiet ((go_at_call 158;exact J2 (q _)));have y:=t.drewN nq;have F:=ca.drewN C nq;generalize G.drewN nq=S at y F;clear g b d f c j a t C nq G q;obtain⟨g,b,d,f,c,j,a⟩:=y.cell;have e:((i+2+k:Nat):Int)=(i:Int)+2+(k:Int):=by omega
 have L:=y.setI (i+2+k);have D:ca Z w (S.setCell ⟨Z,1,none⟩ (.int .i64 ((i+2+k:Nat):Int))):=ca.setCell F _ y;have A:=K _ L;rw[e]at A D;have H:Hid _:=D;clear L D F e K;go_wp2_with fail
 refine A.mono ?_;rintro r P ⟨rfl,M,N⟩;have R:Hid (X P):=M;have U:Hid (ca Z w P):=ca.trans H.out N;clear M N A H;go_wp2;go_ret;exact⟨rfl,R.out,U.out⟩
theorem Db(hs:s.size<=140737488351232)(h:RD Z s i Y 0 V W w)(p:Nat)(hp:i+1=p)(X:p<s.size)(a:∀c∈[34,92,47,98,102,110,114,116,117],s[p]≠UInt8.ofNat c):Calls prog 128 #[.pointer (some ⟨Z,0,none⟩)] w fun r K=>r=.returned (.string ⟨#[]⟩)/\(∃j,RD Z s j Y 2 p W K)/\ca Z w K:=by
 have z:((s[p].toNat:Int)==34)=false:=by exact eB (k:=34) (by omega) (fun e=>a 34 (by simp) e)
 have y:((s[p].toNat:Int)==92)=false:=by exact eB (k:=92) (by omega) (fun e=>a 92 (by simp) e)
 have D:((s[p].toNat:Int)==47)=false:=by exact eB (k:=47) (by omega) (fun e=>a 47 (by simp) e)
 have A:((s[p].toNat:Int)==98)=false:=by exact eB (k:=98) (by omega) (fun e=>a 98 (by simp) e)
 have v:((s[p].toNat:Int)==102)=false:=by exact eB (k:=102) (by omega) (fun e=>a 102 (by simp) e)
 have C:((s[p].toNat:Int)==110)=false:=by exact eB (k:=110) (by omega) (fun e=>a 110 (by simp) e)
 have G:((s[p].toNat:Int)==114)=false:=by exact eB (k:=114) (by omega) (fun e=>a 114 (by simp) e)
 have B:((s[p].toNat:Int)==116)=false:=by exact eB (k:=116) (by omega) (fun e=>a 116 (by simp) e)
 have E:((s[p].toNat:Int)==117)=false:=by exact eB (k:=117) (by omega) (fun e=>a 117 (by simp) e)
 have T:Hid _:=And.intro z (And.intro y (And.intro D (And.intro A (And.intro v (And.intro C (And.intro G (And.intro B E)))))));clear z y D A v C G B E a;have ac:(i:Int)+1=(p:Int):=by omega
 obtain⟨m,f,g,l,d,n,b⟩:=h.cell;have o:=b 1;have q:=h.setI p;have x:ca Z w (w.setCell ⟨Z,1,none⟩ (.int .i64 (p:Int))):=(ce Z w).setCell _ h;go_enter func128,Mv;go_wp2
 generalize w.setCell ⟨Z,1,none⟩ (.int .i64 (p:Int))=Q at q x;clear m f g l d n b o;obtain⟨m,f,g,l,d,n,b⟩:=q.cell;go_quiet (fail);have u:=q.drewN nq;have F:=x.drewN nq;generalize Q.drewN nq=M at u F;clear m f g l d n b q x nq Q;obtain⟨m,f,g,l,d,n,b⟩:=u.cell;have o:=b 1;go_wp2_with fail
 go_quiet (fail);have t:=u.drewN nq;have H:=F.drewN nq;generalize M.drewN nq=S at t H;clear m f g l d n b o u F nq M;obtain⟨m,f,g,l,d,n,b⟩:=t.cell
 obtain⟨z,y,D,A,v,C,G,B,E⟩:=T.out;have I:=t.setI (p+1);have P:ca Z w (S.setCell ⟨Z,1,none⟩ (.int .i64 ((p:Int)+1))):=ca.setCell H _ t;have N:=dh Z s (p+1) Y V W 2 p _ I;have O:Hid _:=P;clear I P H;go_wp2_with fail
 refine N.mono ?_;rintro r w6 ⟨rfl,J,L⟩;have R:Hid _:=J;have U:Hid _:=ca.trans O.out L;clear J L N O;go_wp2;go_ret;exact⟨rfl,⟨_,R.out⟩,U.out⟩
theorem BO(B:s.size<=140737488351232)(h:RD Z s i Y 0 V W w)(z:i<s.size)(y:s.size<=i+1):Calls prog 128 #[.pointer (some ⟨Z,0,none⟩)] w fun r k=>r=.returned (.string ⟨#[]⟩)/\(∃j,RD Z s j Y 2 (i+1) W k)/\ca Z w k:=by
 obtain⟨n,b,g,l,f,o,a⟩:=h.cell;go_enter func128,Mv;go_wp2
 have c:RD Z s (i+1) Y 0 V W (w.setCell ⟨Z,1,none⟩ (.int .i64 ((i:Int)+1))):=h.setI (i+1);have e:ca Z w (w.setCell ⟨Z,1,none⟩ (.int .i64 ((i:Int)+1))):=(ce Z w).setCell _ h;generalize w.setCell ⟨Z,1,none⟩ (.int .i64 ((i:Int)+1))=v at c e;obtain⟨n,b,g,l,f,o,a⟩:=c.cell;rw[show((i+1:Nat):Int)=(i:Int)+1 from rfl]at b;go_quiet (fail);have d:=c.drewN nq;have m:=e.drewN nq;generalize v.drewN nq=A at d m;obtain⟨n,b,g,l,f,o,a⟩:=d.cell;have u:=dh Z s (i+1) Y V W 2 (i+1) _ d;go_wp2_with fail
 refine u.mono ?_;rintro r E ⟨rfl,q,t⟩;have p:Hid _:=q;have x:Hid _:=ca.trans m t;go_wp2;go_ret;exact⟨rfl,⟨_,p.out⟩,x.out⟩
end
section
variable (Z:Nat) (s:dv) (i:Nat) (Y:Va) (W X:Nat) (w:Wd)
theorem uS(c:s.size<=140737488351232)(h:RD Z s i Y 0 W X w)(d:i+1<s.size)(b:UInt8)(a:fo s[i+1]=some b):Calls prog 128 #[.pointer (some ⟨Z,0,none⟩)] w fun r o=>r=.returned (.string ⟨#[b]⟩)/\RD Z s (i+2) Y 0 W X o/\ca Z w o:=by
 by_cases m:s[i+1]=34
 ·rw[m]at a;injection a with a;subst a;exact E5 Z s i Y W X w c h d m
 by_cases k:s[i+1]=92
 ·rw[k]at a;injection a with a;subst a;exact Dy Z s i Y W X w c h d k
 by_cases g:s[i+1]=47
 ·rw[g]at a;injection a with a;subst a;exact EV Z s i Y W X w c h d g
 by_cases j:s[i+1]=98
 ·rw[j]at a;injection a with a;subst a;exact EG Z s i Y W X w c h d j
 by_cases l:s[i+1]=102
 ·rw[l]at a;injection a with a;subst a;exact BG Z s i Y W X w c h d l
 by_cases e:s[i+1]=110
 ·rw[e]at a;injection a with a;subst a;exact BU Z s i Y W X w c h d e
 by_cases f:s[i+1]=114
 ·rw[f]at a;injection a with a;subst a;exact AL Z s i Y W X w c h d f
 by_cases n:s[i+1]=116
 ·rw[n]at a;injection a with a;subst a;exact Ak Z s i Y W X w c h d n
 ·simp[fo,m,k,g,j,l,e,f,n]at a
theorem CL(I:s.size<=140737488340000)(h:RD Z s i Y 0 W X w)(y:i<s.size):(∀t k,eQ (b9 s i)=.ok (t,k)->Calls prog 128 #[.pointer (some ⟨Z,0,none⟩)] w fun r e=>r=.returned (.string ⟨t.toArray⟩)/\RD Z s (i+k) Y 0 W X e/\ca Z w e)/\(∀o,eQ (b9 s i)=.error o->Calls prog 128 #[.pointer (some ⟨Z,0,none⟩)] w fun r e=>r=.returned (.string ⟨#[]⟩)/\(∃j,RD Z s j Y 2 (i+o) X e)/\ca Z w e):=by
 have l:s.size<=140737488351232:=by omega
 by_cases f:i+1<s.size
 ·rw[ye s i f]
  cases z:fo s[i+1]with
  | some b=>
    refine⟨fun t k d=>?_,fun o d=>(by simp at d)⟩;simp at d;obtain⟨rfl,rfl⟩:=d;exact uS Z s i Y W X w l h f b z
  | none=>
    by_cases p:s[i+1]=117
    ·simp only[p,if_true]
     cases v:dt (b9 s (i+2))with
     | mk B F=>
       cases B with
       | none=>
         refine⟨fun t k d=>(by simp at d),fun o d=>?_⟩;simp at d;subst d;rw[<-LF];exact CP Z s i Y W X w l h f p F v
       | some n=>
         obtain⟨rfl,G⟩:=pK v;dsimp only;by_cases x:n<55296\/57343<n
         ·refine⟨fun t k d=>?_,fun o d=>(by rw[oG n _ x]at d;simp at d)⟩
          rw[oG n _ x]at d;simp at d;obtain⟨rfl,rfl⟩:=d;exact oe Z s i Y W X w l h f p 4 n v (by omega) _ _ fun e u=>uA Z s (i+6) Y W X e (n:Int) n i rfl (by omega) G u
         ·cases q:dP (b9 s (i+6))with
          | none=>
            have g:fZ n (b9 s (i+6))=.error 0:=by unfold fZ;rw[if_neg x,q]
            refine⟨fun t k d=>(by rw[g]at d;simp at d),fun o d=>?_⟩;rw[g]at d;injection d with d;subst d;exact oe Z s i Y W X w l h f p 4 n v (by omega) ⟨#[]⟩ (fun e=>∃j,RD Z s j Y 2 (i+0) X e) fun e u=>(tS Z s (i+6) Y W X e (n:Int) i (by omega) (by omega) (.inl q) u (by omega)).mono fun r E ⟨a,b,c⟩=>⟨a,⟨_,b⟩,c⟩
          | some m=>
            have H:=pH q;by_cases A:56320<=n
            ·have g:fZ n (b9 s (i+6))=.error 0:=by unfold fZ;rw[if_neg x,q];simp[A]
             refine⟨fun t k d=>(by rw[g]at d;simp at d),fun o d=>?_⟩;rw[g]at d;injection d with d;subst d;exact oe Z s i Y W X w l h f p 4 n v (by omega) ⟨#[]⟩ (fun e=>∃j,RD Z s j Y 2 (i+0) X e) fun e u=>(tS Z s (i+6) Y W X e (n:Int) i (by omega) (by omega) (.inr (by omega)) u (by omega)).mono fun r E ⟨a,b,c⟩=>⟨a,⟨_,b⟩,c⟩
            ·have g:fZ n (b9 s (i+6))=.ok (fJ (65536+1024*(n-55296)+(m-56320)),12):=by unfold fZ;rw[if_neg x,q];simp[A]
             refine⟨fun t k d=>?_,fun o d=>(by rw[g]at d;simp at d)⟩;rw[g]at d;injection d with d;injection d with D C;subst D;subst C;exact oe Z s i Y W X w l h f p 4 n v (by omega) _ (fun e=>RD Z s (i+12) Y 0 W X e) fun e u=>xE Z s (i+6) Y W X e (n:Int) i m _ (by omega) (by omega) q (by omega) (by omega) u (by omega)
    ·simp only[p,L1]
     refine⟨fun t k d=>(by simp at d),fun o d=>?_⟩;injection d with d;subst d;exact Db Z s i Y W X w l h (i+1) rfl f (xp z p)
 ·have q:eQ (b9 s i)=.error 1:=by rw[cg s i y,cU s (i+1) (by omega)];rfl
  rw[q];refine⟨fun t k d=>(by simp at d),fun o d=>?_⟩;injection d with d;subst d;exact BO Z s i Y W X w l h y (by omega)
end
end Go.Proofs.YtihboehpeehlmaaGreatDoor
