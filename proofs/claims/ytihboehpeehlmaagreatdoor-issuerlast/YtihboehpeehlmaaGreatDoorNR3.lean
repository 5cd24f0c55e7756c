import Derived.Test.YtihboehpeehlmaaGreatDoorNR2
set_option maxHeartbeats 1000000
set_option maxRecDepth 4000
namespace Go.Proofs.YtihboehpeehlmaaGreatDoor
open Tryz
open Go.RowKit
set_option linter.unusedVariables false
section
variable (Z:Nat) (s:dv) (i:Nat) (Y:oa) (up:Option Nat) (V:dj) (W X:Nat) (w:Wd)
theorem pB(hs:s.size<=65536)(h:RN Z s i Y 0 W X w)(T:i<s.size)(N:s[i]=45)(F:Y.length<=1000000)(hw:iz Y)(E:∀u,up=some u->u<Y.length)(d:Nat):Calls prog 65 #[.pointer (some ⟨Z,0,none⟩),.int .i64 (om up),.string ⟨V.toArray⟩] w fun r l=>r=.returned (.tuple #[])/\VP Z s i Y up V W X (valL d (b9 s i) i) l/\Below Z w l:=by
 obtain⟨p,B,h2⟩:=h;have hR:valL d (b9 s i) i=(match di (b9 s i)with| .error (e,o)=>.error (e,i+o)| .ok (n,k)=>.ok (.int n i,k)):=by
  rw[cg s i T,cG,if_neg (by rw[N];decide),if_pos (by left;exact N)];rfl
 have C:Hid _:=hR;have c:=fun l (h':RD Z s i p 0 W X l)=>sR Z s i p W X l (by omega) h' T
 clear hR;have aa:=B.lt;have HN:Hid (cr (Z+1) 83 p Y w):=h2;clear h2;obtain⟨R,L,M,O,J,S,I⟩:=B.cell;go_enter func65,ntmps65;go_wp2
 go_quiet (fail);have D:=B.drewN nq;have K:Hid _:=ca.drewN (ce Z w) nq;generalize w.drewN nq=U at D K;clear R L M O J S I nq B;obtain⟨R,L,M,O,J,S,I⟩:=D.cell;go_wp2_with fail
 go_quiet (fail);have f:=D.drewN nq;have x:Hid _:=ca.drewN K.out nq;generalize U.drewN nq=w4 at f x;clear R L M O J S I nq D K U;cases b:di (b9 s i)with
 | ok q=>
   obtain⟨m,n⟩:=q;rw[b]at c;have G:Hid (valL d (b9 s i) i=.ok (.int m i,n)):=by have:=C.out;rw[b]at this;exact this
   clear b C;go_wp2_with fail
   refine(c _ f).mono ?_;rintro e P ⟨⟨rfl,A⟩,z⟩;have y:Hid _:=ca.trans x.out z;have v:=HN.out.onl y.out (by omega);have a:=ip Z s (i+n) 0 W X Y up ⟨2,V,[],m,[],i⟩ P ⟨p,A,v⟩ rfl F hw E;unfold iF at a;clear z c f x A v F E;go_wp2_with fail
   refine a.mono ?_;rintro e w6 ⟨rfl,g,t⟩;have H:Hid _:=g;have Q:Hid _:=(cn y.out aa).trans t;clear g t a;go_wp2;go_end0
   refine⟨rfl,?_,Q.out⟩;rw[G.out];exact H.out
 | error q=>
   obtain⟨er,o⟩:=q;rw[b]at c;have HE:Hid _:=tI b;have G:Hid (valL d (b9 s i) i=.error (er,i+o)):=by have:=C.out;rw[b]at this;exact this
   clear b C;go_wp2_with fail
   refine(c _ f).mono ?_;rintro e P ⟨⟨⟨m,rfl⟩,j,A⟩,z⟩;have y:Hid _:=ca.trans x.out z;have v:=HN.out.onl y.out (by omega);have a:=ip Z s j er (i+o) X Y up ⟨2,V,[],m,[],i⟩ P ⟨p,A,v⟩ rfl F hw E;unfold iF at a;clear z c f x A v F E;go_wp2_with fail
   refine a.mono ?_;rintro e w6 ⟨rfl,⟨v6,g,_⟩,t⟩;have H:Hid _:=g;have Q:Hid _:=(cn y.out aa).trans t;clear g t a;go_wp2;go_end0
   refine⟨rfl,?_,Q.out⟩;rw[G.out];exact⟨HE.out,_,_,H.out⟩
theorem pS(hs:s.size<=65536)(h:RN Z s i Y 0 W X w)(hi:i<s.size)(hc:s[i]≠45)(D:d8 s[i]=true)(J:Y.length<=1000000)(hw:iz Y)(I:∀u,up=some u->u<Y.length)(d:Nat):Calls prog 65 #[.pointer (some ⟨Z,0,none⟩),.int .i64 (om up),.string ⟨V.toArray⟩] w fun r t=>r=.returned (.tuple #[])/\VP Z s i Y up V W X (valL d (b9 s i) i) t/\Below Z w t:=by
 obtain⟨a,E,h2⟩:=h;obtain⟨Q,ae⟩:=(kF _).1 D;have O:s[i]≠34:=fun e=>by rw[e]at Q;revert Q;decide
 have hR:valL d (b9 s i) i=(match di (b9 s i)with| .error (e,o)=>.error (e,i+o)| .ok (n,k)=>.ok (.int n i,k)):=by
  rw[cg s i hi,cG,if_neg O,if_pos (by right;exact D)];rfl
 have G:Hid _:=hR;have g:=fun t (h':RD Z s i a 0 W X t)=>sR Z s i a W X t (by omega) h' hi
 have R:=gY s[i];rw[D]at R
 have F:=eB (k:=34) (by omega) O;have C:((s[i].toNat:Int)==45)=false:=eB (k:=45) (by omega) hc;have ad:Hid _:=And.intro F C;clear hR D Q ae F C O hc;have aa:=E.lt;have HN:Hid (cr (Z+1) 83 a Y w):=h2;clear h2;obtain⟨c0,S,T,U,N,c5,M⟩:=E.cell;go_enter func65,ntmps65;go_wp2_with fail
 go_quiet (fail);have H:=E.drewN nq;have P:Hid _:=ca.drewN (ce Z w) nq;generalize w.drewN nq=w3 at H P;clear c0 S T U N c5 M nq E;obtain⟨c0,S,T,U,N,c5,M⟩:=H.cell;go_wp2_with fail
 go_quiet (fail);have l:=H.drewN nq;have y:Hid _:=ca.drewN P.out nq;generalize w3.drewN nq=w4 at l y;clear c0 S T U N c5 M nq H P w3;obtain⟨F,C⟩:=ad.out;go_wp2_with fail
 refine(R _).mono ?_;rintro e ac ⟨rfl,ab⟩;rw[ab];clear ab ac;clear F C R;cases b:di (b9 s i)with
 | ok q=>
   obtain⟨m,n⟩:=q;rw[b]at g;have K:Hid (valL d (b9 s i) i=.ok (.int m i,n)):=by have:=G.out;rw[b]at this;exact this
   clear b G;go_wp2_with fail
   refine(g _ l).mono ?_;rintro e c ⟨⟨rfl,B⟩,A⟩;have z:Hid (ca Z w c):=ca.trans y.out A;have x:cr (Z+1) 83 a Y c:=HN.out.onl z.out (by omega);have f:=ip Z s (i+n) 0 W X Y up ⟨2,V,[],m,[],i⟩ c ⟨a,B,x⟩ rfl J hw I;unfold iF at f;clear A g l y B x J I;go_wp2_with fail
   refine f.mono ?_;rintro e w6 ⟨rfl,p,v⟩;have L:Hid _:=p;have B6:Hid (Below Z w w6):=(cn z.out aa).trans v;clear p v f;go_wp2;go_end0
   refine⟨rfl,?_,B6.out⟩;rw[K.out];exact L.out
 | error q=>
   obtain⟨er,o⟩:=q;rw[b]at g;have HE:Hid (0<er):=tI b;have K:Hid (valL d (b9 s i) i=.error (er,i+o)):=by have:=G.out;rw[b]at this;exact this
   clear b G;go_wp2_with fail
   refine(g _ l).mono ?_;rintro e c ⟨⟨⟨m,rfl⟩,j,B⟩,A⟩;have z:Hid (ca Z w c):=ca.trans y.out A;have x:cr (Z+1) 83 a Y c:=HN.out.onl z.out (by omega);have f:=ip Z s j er (i+o) X Y up ⟨2,V,[],m,[],i⟩ c ⟨a,B,x⟩ rfl J hw I;unfold iF at f;clear A g l y B x J I;go_wp2_with fail
   refine f.mono ?_;rintro e w6 ⟨rfl,⟨v6,p,_⟩,v⟩;have L:Hid _:=p;have B6:Hid (Below Z w w6):=(cn z.out aa).trans v;clear p v f;go_wp2;go_end0
   refine⟨rfl,?_,B6.out⟩;rw[K.out];exact⟨HE.out,_,_,L.out⟩
theorem tm(E:s.size<=65536)(h:RN Z s i Y 0 W X w)(q:s.size<=i)(d:Nat):Calls prog 65 #[.pointer (some ⟨Z,0,none⟩),.int .i64 (om up),.string ⟨V.toArray⟩] w fun r m=>r=.returned (.tuple #[])/\VP Z s i Y up V W X (valL d (b9 s i) i) m/\Below Z w m:=by
 obtain⟨x,a,B⟩:=h;have z:Hid (valL d (b9 s i) i=.error (2,i)):=by rw[cU s i q];exact eK d i
 have A:=a.lt;obtain⟨o,k,l,n,f,p,c⟩:=a.cell;go_enter func65,ntmps65;go_wp2
 go_quiet (fail);have b:=a.drewN nq;have g:Hid _:=ca.drewN (ce Z w) nq;generalize w.drewN nq=D at b g;obtain⟨o,k,l,n,f,p,c⟩:=b.cell;have v:=dh Z s i x W X 2 i _ b
 go_wp2_with fail
 refine v.mono ?_;rintro e C ⟨rfl,j,u⟩;have t:Hid _:=j;have y:Hid _:=ca.trans g.out u;obtain⟨o,k,l,n,f,p,c⟩:=j.cell;go_wp2;refine Ka (Ma rfl _ _ _) rfl ?_;refine⟨rfl,?_,cn y.out A⟩;rw[z.out];exact⟨by omega,_,_,t.out⟩
theorem pA(hs:s.size<=65536)(h:RN Z s i Y 0 W X w)(T:i<s.size)(A:s[i]≠34)(J:s[i]≠45)(I:d8 s[i]=false)(K:s[i]≠116)(C:s[i]≠102)(F:s[i]≠110)(E:s[i]≠91)(G:s[i]≠123)(d:Nat):Calls prog 65 #[.pointer (some ⟨Z,0,none⟩),.int .i64 (om up),.string ⟨V.toArray⟩] w fun r g=>r=.returned (.tuple #[])/\VP Z s i Y up V W X (valL d (b9 s i) i) g/\Below Z w g:=by
 obtain⟨p,t,R⟩:=h;have HR:Hid (valL d (b9 s i) i=.error (2,i)):=by
  show valL d (b9 s i) i=.error (2,i)
  rw[cg s i T,cG,if_neg A,if_neg (by simp[J,I]),if_neg (by simp[K,C,F]),if_neg (by simp[E,G])];all_goals rfl
 have N:=gY s[i];rw[I]at N
 have u:=eB (k:=34) (by omega) A;have n:((s[i].toNat:Int)==45)=false:=eB (k:=45) (by omega) J;have y:((s[i].toNat:Int)==116)=false:=eB (k:=116) (by omega) K;have x:((s[i].toNat:Int)==102)=false:=eB (k:=102) (by omega) C;have z:((s[i].toNat:Int)==110)=false:=eB (k:=110) (by omega) F;have q:((s[i].toNat:Int)==91)=false:=eB (k:=91) (by omega) E;have o:((s[i].toNat:Int)==123)=false:=eB (k:=123) (by omega) G;have ab:Hid _:=And.intro u (And.intro n (And.intro y (And.intro x (And.intro z (And.intro q o)))));clear u n y x z q o A J K C F E G I;have ac:=t.lt;clear R;obtain⟨l,c,f,j,b,m,a⟩:=t.cell;go_enter func65,ntmps65;go_wp2_with fail
 go_quiet (fail);have v:=t.drewN nq;have B:Hid (ca Z w (w.drewN nq)):=ca.drewN (ce Z w) nq;generalize w.drewN nq=H at v B;clear l c f j b m a nq t;obtain⟨l,c,f,j,b,m,a⟩:=v.cell;go_wp2_with fail
 go_quiet (fail);have D:=v.drewN nq;have Q:Hid (ca Z w (H.drewN nq)):=ca.drewN B.out nq;generalize H.drewN nq=L at D Q;clear l c f j b m a nq v B H;obtain⟨l,c,f,j,b,m,a⟩:=D.cell;obtain⟨u,n,y,x,z,q,o⟩:=ab.out;go_wp2_with fail
 refine(N _).mono ?_;rintro e aa ⟨rfl,S⟩;rw[S];clear S aa;have P:Calls prog 66 #[.pointer (some ⟨Z,0,none⟩),.int .i64 2,.int .i64 (i:Int)] L fun r g=>r=.returned (.tuple #[])/\RD Z s i p 2 i X g/\ca Z L g:=dh Z s i p W X 2 i _ D
 go_wp2_with fail
 refine P.mono ?_;rintro e M ⟨rfl,h7,O⟩;have U:Hid (RD Z s i p 2 i X M):=h7;have O7:Hid (ca Z w M):=ca.trans Q.out O;clear O P;clear l c f j b m a u n y x z q o;go_wp2;go_end0
 refine⟨rfl,?_,cn O7.out ac⟩;rw[HR.out];exact⟨by omega,_,_,U.out⟩
theorem x9(N:s.size<=65536)(h:RN Z s i Y 0 W 32 w)(H:i<s.size)(a:s[i]=91\/s[i]=123):Calls prog 65 #[.pointer (some ⟨Z,0,none⟩),.int .i64 (om up),.string ⟨V.toArray⟩] w fun r D=>r=.returned (.tuple #[])/\VP Z s i Y up V W 32 (valL 0 (b9 s i) i) D/\Below Z w D:=by
 obtain⟨E,o,x⟩:=h;have M:d8 s[i]=false:=by rcases a with e|e<;>rw[e]<;>rfl
 have F:Hid (valL 0 (b9 s i) i=.error (5,i)):=by
  show valL 0 (b9 s i) i=.error (5,i)
  rw[cg s i H,cG,if_neg (by rcases a with e|e<;>rw[e]<;>decide),if_neg (by rw[M];rcases a with e|e<;>rw[e]<;>decide),if_neg (by rcases a with e|e<;>rw[e]<;>decide),if_pos a];all_goals rfl
 have G:=o.lt;rcases a with a|a
 ·have J:((s[i].toNat:Int)==91)=true:=by rw[a];rfl
  have B:=gY 91
  have L:Hid _:=x;clear x;obtain⟨k,d,f,g,c,l,b⟩:=o.cell;go_enter func65,ntmps65;go_wp2
  go_quiet (fail);have j:=o.drewN nq;have m:Hid _:=ca.drewN (ce Z w) nq;generalize w.drewN nq=q at j m;clear k d f g c l b nq o;obtain⟨k,d,f,g,c,l,b⟩:=j.cell;go_wp2
  go_quiet (fail);have n:=j.drewN nq;have u:Hid _:=ca.drewN m.out nq;generalize q.drewN nq=I at n u;clear k d f g c l b nq j m q;obtain⟨k,d,f,g,c,l,b⟩:=n.cell;go_wp2_with fail
  refine(B _).mono ?_;rintro e z ⟨rfl,v⟩;rw[v];clear v z;have t:=dh Z s i E W 32 5 i _ n
  go_wp2_with fail
  refine t.mono ?_;rintro e K ⟨rfl,A,p⟩;have y:Hid _:=A;have C:Hid _:=ca.trans u.out p;clear p t;go_wp2;refine Ka (Ma rfl _ _ _) rfl ?_;refine⟨rfl,?_,cn C.out G⟩;rw[F.out];exact⟨by omega,_,_,y.out⟩
 ·have J:((s[i].toNat:Int)==123)=true:=by rw[a];rfl
  have B:=gY 123
  clear x;obtain⟨k,d,f,g,c,l,b⟩:=o.cell;go_enter func65,ntmps65;go_wp2
  go_quiet (fail);have j:=o.drewN nq;have m:Hid _:=ca.drewN (ce Z w) nq;generalize w.drewN nq=q at j m;clear k d f g c l b nq o;obtain⟨k,d,f,g,c,l,b⟩:=j.cell;go_wp2
  go_quiet (fail);have n:=j.drewN nq;have u:Hid _:=ca.drewN m.out nq;generalize q.drewN nq=I at n u;clear k d f g c l b nq j m q;obtain⟨k,d,f,g,c,l,b⟩:=n.cell;go_wp2_with fail
  refine(B _).mono ?_;rintro e z ⟨rfl,v⟩;rw[v];clear v z;have t:=dh Z s i E W 32 5 i _ n
  go_wp2_with fail
  refine t.mono ?_;rintro e K ⟨rfl,A,p⟩;have y:Hid _:=A;have C:Hid _:=ca.trans u.out p;clear p t;go_wp2;refine Ka (Ma rfl _ _ _) rfl ?_;refine⟨rfl,?_,cn C.out G⟩;rw[F.out];exact⟨by omega,_,_,y.out⟩
end
theorem RD.setNew{a:Nat}{s:dv}{i:Nat}{c:Va}{e f d b:Nat}{w:Wd}{j:Array Value}{t:TypeId}{l:Nat×Nat}(h:RD a s i c e f d w)(g:w.heap[b]?=some (.cells j t l))(m:a<b)(k:Nat)(v:Va):RD a s i c e f d (w.setCell ⟨b,k,none⟩ v):=by
 rw[JV w b k _ _ _ _ g];exact(Kg w b a _ (by omega)).trans h
section
variable (Z:Nat) (s:dv) (i:Nat) (V:oa) (up:Option Nat) (Y:dj) (W X:Nat) (w:Wd)
theorem IF(hs:s.size<=65536)(h:RN Z s i V 0 W X w)(hi:i<s.size)(hl:V.length<=1000000)(hw:iz V)(ad:∀u,up=some u->u<V.length)(E:Nat)(hE:i+nl (b9 s i)=E):Calls prog 97 #[.pointer (some ⟨Z,0,none⟩),.int .i64 (om up),.string ⟨Y.toArray⟩] w fun r w'=>r=.returned (.tuple #[])/\VP Z s i V up Y W X (df (b9 s i) i) w'/\Below Z w w':=by
 obtain⟨F,h1,h2⟩:=h;have ac:=h1.lt;have HN:Hid (cr (Z+1) 83 F V w):=h2;have H1:Hid _:=h1;have HE:Hid _:=hE;clear h2 hE;obtain⟨y,t,A,x,z,B,n⟩:=h1.cell;go_enter func97,ntmps97;go_wp2_with fail
 go_loopw [12] (fun v wr=>∃p,i<=p/\p<=s.size/\p+nl (b9 s p)=E/\RD Z s p F 0 W X wr/\ca Z w wr) (fun _ wr=>s.size-dU (wr.cell? ⟨Z,1,none⟩))
 case atStart=>exact⟨i,JQ _,by omega,HE.out,H1.out,ce Z w⟩
 case round=>
  clear H1 y t A x z B n h1;have ab:=HE;clear HE;obtain⟨p,ak,al,hE,ag,ho⟩:=hrel;have HO:Hid _:=ho;have HM:Hid (dU (wr.cell? ⟨Z,1,none⟩)=p):=lc ag;obtain⟨y,t,A,x,z,B,n⟩:=ag.cell;have ap:(p:Int)<=65536:=by omega
  clear ho;by_cases hL:p<s.size/\∃h:p<s.size,jJ s[p]=true
  ·obtain⟨hp,_,hL⟩:=hL
   obtain⟨a1,a2⟩:=(wS _).1 hL;have HE:Hid (p+1+nl (b9 s (p+1))=E):=by rw[EQ s p hp hL]at hE;show p+1+nl (b9 s (p+1))=E;omega
   have HB:Hid (i<=p/\p<s.size):=⟨ak,hp⟩;have aq:(p:Int)<(s.size:Int):=by omega
   have b1:(97:Int)<=(s[p].toNat:Int):=by omega
   have b2:(s[p].toNat:Int)<=122:=by omega
   clear hE hL ak al a1 a2;go_wp2_with fail
   go_quiet (fail);have K:=ag.drewN nq;have R:Hid (ca Z w (wr.drewN nq)):=ca.drewN HO.out nq;generalize wr.drewN nq=I at K R;clear y t A x z B n ag HO nq;obtain⟨y,t,A,x,z,B,n⟩:=K.cell;have f1:=n 1;go_wp2_with fail
   obtain⟨q1,q2⟩:=HB.out;refine⟨⟨p+1,by omega,by omega,HE.out,K.setI (p+1),ca.setCell R.out _ K⟩,?_⟩;rw[HM.out,iq K p];omega
  ·have hz:nl (b9 s p)=0:=by
    by_cases hp:p<s.size
    ·exact Ey s p hp (by cases e:jJ s[p];rfl;exact absurd ⟨hp,hp,e⟩ hL)
    ·exact Fs s p (by omega)
   have am:p=E:=by omega
   subst am;have HB:Hid (i<=p/\p<=s.size):=⟨ak,al⟩;have an:(decide ((p:Int)<(s.size:Int))=false/\decide (p<s.size)=false)\/∃hp:p<s.size,(p:Int)<(s.size:Int)/\(decide ((97:Int)<=(s[p].toNat:Int))=false\/((97:Int)<=(s[p].toNat:Int)/\decide ((s[p].toNat:Int)<=122)=false)):=by
    by_cases hp:p<s.size
    ·right
     refine⟨hp,by omega,?_⟩;have hn:¬(97<=s[p].toNat/\s[p].toNat<=122):=fun e=>hL ⟨hp,hp,(wS _).2 e⟩
     by_cases au:97<=s[p].toNat
     ·right;exact⟨by omega,by simp;omega⟩
     ·left;simp;omega
    ·left;exact⟨by simp;omega,by simp;omega⟩
   have ao:(i:Int)<=(p:Int):=by omega
   have ar:(p:Int)<=(s.size:Int):=by omega
   clear hE hL hz ak al;rcases an with⟨e1,e0⟩|⟨hp,e1,e2|⟨e2,e3⟩⟩
   ·go_wp2_with fail
    go_quiet (fail);have K:=ag.drewN nq;have R:Hid (ca Z w (wr.drewN nq)):=ca.drewN HO.out nq;generalize wr.drewN nq=I at K R;clear y t A x z B n ag HO nq;obtain⟨y,t,A,x,z,B,n⟩:=K.cell;go_wp2_with fail
    have hA:=K.alloc (.cells #[.int .i64 1,.string ⟨Y.toArray⟩,.string ⟨#[]⟩,.int .i64 0,.slice none 0 0,.int .i64 (i:Int)] 83);have aa:=JK I (.cells #[.int .i64 1,.string ⟨Y.toArray⟩,.string ⟨#[]⟩,.int .i64 0,.slice none 0 0,.int .i64 (i:Int)] 83 (0,0));have OA:Hid (ca Z w (I.alloc (.cells #[.int .i64 1,.string ⟨Y.toArray⟩,.string ⟨#[]⟩,.int .i64 0,.slice none 0 0,.int .i64 (i:Int)] 83))):=ca.alloc R.out _;have ai:Z<I.heap.size:=K.lt;have af:w.heap.size<=I.heap.size:=R.out.size;generalize I.alloc (.cells #[.int .i64 1,.string ⟨Y.toArray⟩,.string ⟨#[]⟩,.int .i64 0,.slice none 0 0,.int .i64 (i:Int)] 83)=wA at hA aa OA;generalize aj:I.heap.size=a at aa ai af;clear y t A x z B n K R aj I e1 e0;obtain⟨y,t,A,x,z,B,n⟩:=hA.cell;go_quiet (fail);have C:=hA.drewN nq;have G:Hid (ca Z w (wA.drewN nq)):=ca.drewN OA.out nq;have f:(wA.drewN nq).heap[a]?=some (.cells #[.int .i64 1,.string ⟨Y.toArray⟩,.string ⟨#[]⟩,.int .i64 0,.slice none 0 0,.int .i64 (i:Int)] 83 (0,0)):=aa;generalize wA.drewN nq=c at C G f;clear y t A x z B n hA OA aa nq wA;obtain⟨y,t,A,x,z,B,n⟩:=C.cell;have x0:=JE c a 0 _ _ _ f;have x1:=JE c a 1 _ _ _ f;have x2:=JE c a 2 _ _ _ f;have x3:=JE c a 3 _ _ _ f;have x4:=JE c a 4 _ _ _ f;have x5:=JE c a 5 _ _ _ f;have P:∀k,c.frozen? ⟨a,k,none⟩=false:=fun k=>by simp[World.frozen?,f]
    simp only[Kr,Kv,Kh]at x0 x1 x2 x3 x4 x5;by_cases H:(s.extract i p).toList=[116,114,117,101]
    ·have eT:((s.extract i p).toList==[116,114,117,101])=true:=by rw[H];rfl
     have D:Hid (df (b9 s i) i=.ok (.truth true i,4)/\p-i=4):=qp ab.out HB.out H;clear H;have f3:=P 3;have M:Hid (RD Z s p F 0 W X (c.setCell ⟨a,3,none⟩ (.int .i64 1))/\ca Z w (c.setCell ⟨a,3,none⟩ (.int .i64 1))/\(c.setCell ⟨a,3,none⟩ (.int .i64 1)).heap[a]?=some (.cells #[.int .i64 1,.string ⟨Y.toArray⟩,.string ⟨#[]⟩,.int .i64 1,.slice none 0 0,.int .i64 (i:Int)] 83 (0,0))):=⟨RD.setNew C f (by omega) 3 _,ca.setNew G.out f af 3 _,by rw[JV c a 3 _ _ _ _ f];exact J7 c a _ _ _ _ f⟩;go_upto_region 11 with fail
     generalize c.setCell ⟨a,3,none⟩ (.int .i64 1)=b at M;obtain⟨q,j,d⟩:=M.out;have z0:=JE b a 0 _ _ _ d;have U:=JE b a 1 _ _ _ d;have T:=JE b a 2 _ _ _ d;have z3:=JE b a 3 _ _ _ d;have S:=JE b a 4 _ _ _ d;have z5:=JE b a 5 _ _ _ d;simp only[Kr,Kv,Kh]at z0 U T z3 S z5;have g:=ip Z s p 0 W X V up ⟨1,Y,[],1,[],i⟩ b ⟨F,q,HN.out.onl j (by omega)⟩ rfl hl hw ad;unfold iF at g;have L:Hid (ca Z w b):=j;clear q j d y t A x z B n x0 x1 x2 x3 x4 x5 P C G f;go_wp2_with fail
     refine g.mono ?_;rintro e l ⟨rfl,m,o⟩;have J:Hid (RN Z s p (cR V up V.length++[⟨1,Y,[],1,[],i⟩]) 0 W X l):=m;have O:Hid (Below Z w l):=(cn L.out ac).trans o;clear m o g;go_wp2;go_end0
     refine⟨rfl,?_,O.out⟩;rw[D.out.1];show RN Z s (i+4) _ 0 W X l
     rw[show i+4=p by have:=D.out.2;omega];exact J.out
    ·have eT:((s.extract i p).toList==[116,114,117,101])=false:=by rw[JJ];exact H
     by_cases N:(s.extract i p).toList=[102,97,108,115,101]
     ·have eF:((s.extract i p).toList==[102,97,108,115,101])=true:=by rw[N];rfl
      have D:Hid (df (b9 s i) i=.ok (.truth false i,5)/\p-i=5):=qu ab.out HB.out N;clear H N;have M:Hid (RD Z s p F 0 W X c/\ca Z w c/\c.heap[a]?=some (.cells #[.int .i64 1,.string ⟨Y.toArray⟩,.string ⟨#[]⟩,.int .i64 0,.slice none 0 0,.int .i64 (i:Int)] 83 (0,0))):=⟨C,G.out,f⟩;go_upto_region 11 with fail
      obtain⟨q,j,d⟩:=M.out;have g:=ip Z s p 0 W X V up ⟨1,Y,[],0,[],i⟩ c ⟨F,q,HN.out.onl j (by omega)⟩ rfl hl hw ad;unfold iF at g;have L:Hid (ca Z w c):=j;clear q j d y t A x z B n P C G f;go_wp2_with fail
      refine g.mono ?_;rintro e l ⟨rfl,m,o⟩;have J:Hid (RN Z s p (cR V up V.length++[⟨1,Y,[],0,[],i⟩]) 0 W X l):=m;have O:Hid (Below Z w l):=(cn L.out ac).trans o;clear m o g;go_wp2;go_end0
      refine⟨rfl,?_,O.out⟩;rw[D.out.1];show RN Z s (i+5) _ 0 W X l
      rw[show i+5=p by have:=D.out.2;omega];exact J.out
     ·have eF:((s.extract i p).toList==[102,97,108,115,101])=false:=by rw[JJ];exact N
      by_cases Q:(s.extract i p).toList=[110,117,108,108]
      ·have eN:((s.extract i p).toList==[110,117,108,108])=true:=by rw[Q];rfl
       have D:Hid (df (b9 s i) i=.ok (.null i,4)/\p-i=4):=qm ab.out HB.out Q;clear H N Q;have f3:=P 0;have M:Hid (RD Z s p F 0 W X (c.setCell ⟨a,0,none⟩ (.int .i64 0))/\ca Z w (c.setCell ⟨a,0,none⟩ (.int .i64 0))/\(c.setCell ⟨a,0,none⟩ (.int .i64 0)).heap[a]?=some (.cells #[.int .i64 0,.string ⟨Y.toArray⟩,.string ⟨#[]⟩,.int .i64 0,.slice none 0 0,.int .i64 (i:Int)] 83 (0,0))):=⟨RD.setNew C f (by omega) 0 _,ca.setNew G.out f af 0 _,by rw[JV c a 0 _ _ _ _ f];exact J7 c a _ _ _ _ f⟩;go_upto_region 11 with fail
       generalize c.setCell ⟨a,0,none⟩ (.int .i64 0)=b at M;obtain⟨q,j,d⟩:=M.out;have z0:=JE b a 0 _ _ _ d;have U:=JE b a 1 _ _ _ d;have T:=JE b a 2 _ _ _ d;have z3:=JE b a 3 _ _ _ d;have S:=JE b a 4 _ _ _ d;have z5:=JE b a 5 _ _ _ d;simp only[Kr,Kv,Kh]at z0 U T z3 S z5;have g:=ip Z s p 0 W X V up ⟨0,Y,[],0,[],i⟩ b ⟨F,q,HN.out.onl j (by omega)⟩ rfl hl hw ad;unfold iF at g;have L:Hid (ca Z w b):=j;clear q j d y t A x z B n x0 x1 x2 x3 x4 x5 P C G f;go_wp2_with fail
       refine g.mono ?_;rintro e l ⟨rfl,m,o⟩;have J:Hid (RN Z s p (cR V up V.length++[⟨0,Y,[],0,[],i⟩]) 0 W X l):=m;have O:Hid (Below Z w l):=(cn L.out ac).trans o;clear m o g;go_wp2;go_end0
       refine⟨rfl,?_,O.out⟩;rw[D.out.1];show RN Z s (i+4) _ 0 W X l
       rw[show i+4=p by have:=D.out.2;omega];exact J.out
      ·have eN:((s.extract i p).toList==[110,117,108,108])=false:=by rw[JJ];exact Q
       have D:Hid (df (b9 s i) i=.error (2,i)):=ql ab.out HB.out H N Q;clear H N Q;have ah:Calls prog 66 #[.pointer (some ⟨Z,0,none⟩),.int .i64 2,.int .i64 (i:Int)] c fun r w'=>r=.returned (.tuple #[])/\RD Z s p F 2 i X w'/\ca Z c w':=dh Z s p F W X 2 i _ C
       go_wp2_with fail
       refine ah.mono ?_;rintro e b ⟨rfl,q,ae⟩;have j:ca Z w b:=ca.trans G.out ae;have d:b.heap[a]?=some (.cells #[.int .i64 1,.string ⟨Y.toArray⟩,.string ⟨#[]⟩,.int .i64 0,.slice none 0 0,.int .i64 (i:Int)] 83 (0,0)):=(ae.block a (go.1 f).1 (fun e=>by injection e with e;omega)).trans f;clear ah ae;have z0:=JE b a 0 _ _ _ d;have U:=JE b a 1 _ _ _ d;have T:=JE b a 2 _ _ _ d;have z3:=JE b a 3 _ _ _ d;have S:=JE b a 4 _ _ _ d;have z5:=JE b a 5 _ _ _ d;simp only[Kr,Kv,Kh]at z0 U T z3 S z5;have g:=ip Z s p 2 i X V up ⟨1,Y,[],0,[],i⟩ b ⟨F,q,HN.out.onl j (by omega)⟩ rfl hl hw ad;unfold iF at g;have L:Hid (ca Z w b):=j;clear q j d y t A x z B n x0 x1 x2 x3 x4 x5 P C G f;go_wp2_with fail
       refine g.mono ?_;rintro e l ⟨rfl,m,o⟩;have J:Hid (RN Z s p (cR V up V.length++[⟨1,Y,[],0,[],i⟩]) 2 i X l):=m;have O:Hid (Below Z w l):=(cn L.out ac).trans o;clear m o g;go_wp2;go_end0
       refine⟨rfl,?_,O.out⟩;rw[D.out];obtain⟨v6,m,_⟩:=J.out;exact⟨by omega,_,_,m⟩
   ·go_wp2_with fail
    go_quiet (fail);have K:=ag.drewN nq;have R:Hid (ca Z w (wr.drewN nq)):=ca.drewN HO.out nq;generalize wr.drewN nq=I at K R;clear y t A x z B n ag HO nq;obtain⟨y,t,A,x,z,B,n⟩:=K.cell;go_wp2_with fail
    have hA:=K.alloc (.cells #[.int .i64 1,.string ⟨Y.toArray⟩,.string ⟨#[]⟩,.int .i64 0,.slice none 0 0,.int .i64 (i:Int)] 83);have aa:=JK I (.cells #[.int .i64 1,.string ⟨Y.toArray⟩,.string ⟨#[]⟩,.int .i64 0,.slice none 0 0,.int .i64 (i:Int)] 83 (0,0));have OA:Hid (ca Z w (I.alloc (.cells #[.int .i64 1,.string ⟨Y.toArray⟩,.string ⟨#[]⟩,.int .i64 0,.slice none 0 0,.int .i64 (i:Int)] 83))):=ca.alloc R.out _;have ai:Z<I.heap.size:=K.lt;have af:w.heap.size<=I.heap.size:=R.out.size;generalize I.alloc (.cells #[.int .i64 1,.string ⟨Y.toArray⟩,.string ⟨#[]⟩,.int .i64 0,.slice none 0 0,.int .i64 (i:Int)] 83)=wA at hA aa OA;generalize aj:I.heap.size=a at aa ai af;clear y t A x z B n K R aj I e2;obtain⟨y,t,A,x,z,B,n⟩:=hA.cell;go_quiet (fail);have C:=hA.drewN nq;have G:Hid (ca Z w (wA.drewN nq)):=ca.drewN OA.out nq;have f:(wA.drewN nq).heap[a]?=some (.cells #[.int .i64 1,.string ⟨Y.toArray⟩,.string ⟨#[]⟩,.int .i64 0,.slice none 0 0,.int .i64 (i:Int)] 83 (0,0)):=aa;generalize wA.drewN nq=c at C G f;clear y t A x z B n hA OA aa nq wA;obtain⟨y,t,A,x,z,B,n⟩:=C.cell;have x0:=JE c a 0 _ _ _ f;have x1:=JE c a 1 _ _ _ f;have x2:=JE c a 2 _ _ _ f;have x3:=JE c a 3 _ _ _ f;have x4:=JE c a 4 _ _ _ f;have x5:=JE c a 5 _ _ _ f;have P:∀k,c.frozen? ⟨a,k,none⟩=false:=fun k=>by simp[World.frozen?,f]
    simp only[Kr,Kv,Kh]at x0 x1 x2 x3 x4 x5;by_cases H:(s.extract i p).toList=[116,114,117,101]
    ·have eT:((s.extract i p).toList==[116,114,117,101])=true:=by rw[H];rfl
     have D:Hid (df (b9 s i) i=.ok (.truth true i,4)/\p-i=4):=qp ab.out HB.out H;clear H;have f3:=P 3;have M:Hid (RD Z s p F 0 W X (c.setCell ⟨a,3,none⟩ (.int .i64 1))/\ca Z w (c.setCell ⟨a,3,none⟩ (.int .i64 1))/\(c.setCell ⟨a,3,none⟩ (.int .i64 1)).heap[a]?=some (.cells #[.int .i64 1,.string ⟨Y.toArray⟩,.string ⟨#[]⟩,.int .i64 1,.slice none 0 0,.int .i64 (i:Int)] 83 (0,0))):=⟨RD.setNew C f (by omega) 3 _,ca.setNew G.out f af 3 _,by rw[JV c a 3 _ _ _ _ f];exact J7 c a _ _ _ _ f⟩;go_upto_region 11 with fail
     generalize c.setCell ⟨a,3,none⟩ (.int .i64 1)=b at M;obtain⟨q,j,d⟩:=M.out;have z0:=JE b a 0 _ _ _ d;have U:=JE b a 1 _ _ _ d;have T:=JE b a 2 _ _ _ d;have z3:=JE b a 3 _ _ _ d;have S:=JE b a 4 _ _ _ d;have z5:=JE b a 5 _ _ _ d;simp only[Kr,Kv,Kh]at z0 U T z3 S z5;have g:=ip Z s p 0 W X V up ⟨1,Y,[],1,[],i⟩ b ⟨F,q,HN.out.onl j (by omega)⟩ rfl hl hw ad;unfold iF at g;have L:Hid (ca Z w b):=j;clear q j d y t A x z B n x0 x1 x2 x3 x4 x5 P C G f;go_wp2_with fail
     refine g.mono ?_;rintro e l ⟨rfl,m,o⟩;have J:Hid (RN Z s p (cR V up V.length++[⟨1,Y,[],1,[],i⟩]) 0 W X l):=m;have O:Hid (Below Z w l):=(cn L.out ac).trans o;clear m o g;go_wp2;go_end0
     refine⟨rfl,?_,O.out⟩;rw[D.out.1];show RN Z s (i+4) _ 0 W X l
     rw[show i+4=p by have:=D.out.2;omega];exact J.out
    ·have eT:((s.extract i p).toList==[116,114,117,101])=false:=by rw[JJ];exact H
     by_cases N:(s.extract i p).toList=[102,97,108,115,101]
     ·have eF:((s.extract i p).toList==[102,97,108,115,101])=true:=by rw[N];rfl
      have D:Hid (df (b9 s i) i=.ok (.truth false i,5)/\p-i=5):=qu ab.out HB.out N;clear H N;have M:Hid (RD Z s p F 0 W X c/\ca Z w c/\c.heap[a]?=some (.cells #[.int .i64 1,.string ⟨Y.toArray⟩,.string ⟨#[]⟩,.int .i64 0,.slice none 0 0,.int .i64 (i:Int)] 83 (0,0))):=⟨C,G.out,f⟩;go_upto_region 11 with fail
      obtain⟨q,j,d⟩:=M.out;have g:=ip Z s p 0 W X V up ⟨1,Y,[],0,[],i⟩ c ⟨F,q,HN.out.onl j (by omega)⟩ rfl hl hw ad;unfold iF at g;have L:Hid (ca Z w c):=j;clear q j d y t A x z B n P C G f;go_wp2_with fail
      refine g.mono ?_;rintro e l ⟨rfl,m,o⟩;have J:Hid (RN Z s p (cR V up V.length++[⟨1,Y,[],0,[],i⟩]) 0 W X l):=m;have O:Hid (Below Z w l):=(cn L.out ac).trans o;clear m o g;go_wp2;go_end0
      refine⟨rfl,?_,O.out⟩;rw[D.out.1];show RN Z s (i+5) _ 0 W X l
      rw[show i+5=p by have:=D.out.2;omega];exact J.out
     ·have eF:((s.extract i p).toList==[102,97,108,115,101])=false:=by rw[JJ];exact N
      by_cases Q:(s.extract i p).toList=[110,117,108,108]
      ·have eN:((s.extract i p).toList==[110,117,108,108])=true:=by rw[Q];rfl
       have D:Hid (df (b9 s i) i=.ok (.null i,4)/\p-i=4):=qm ab.out HB.out Q;clear H N Q;have f3:=P 0;have M:Hid (RD Z s p F 0 W X (c.setCell ⟨a,0,none⟩ (.int .i64 0))/\ca Z w (c.setCell ⟨a,0,none⟩ (.int .i64 0))/\(c.setCell ⟨a,0,none⟩ (.int .i64 0)).heap[a]?=some (.cells #[.int .i64 0,.string ⟨Y.toArray⟩,.string ⟨#[]⟩,.int .i64 0,.slice none 0 0,.int .i64 (i:Int)] 83 (0,0))):=⟨RD.setNew C f (by omega) 0 _,ca.setNew G.out f af 0 _,by rw[JV c a 0 _ _ _ _ f];exact J7 c a _ _ _ _ f⟩;go_upto_region 11 with fail
       generalize c.setCell ⟨a,0,none⟩ (.int .i64 0)=b at M;obtain⟨q,j,d⟩:=M.out;have z0:=JE b a 0 _ _ _ d;have U:=JE b a 1 _ _ _ d;have T:=JE b a 2 _ _ _ d;have z3:=JE b a 3 _ _ _ d;have S:=JE b a 4 _ _ _ d;have z5:=JE b a 5 _ _ _ d;simp only[Kr,Kv,Kh]at z0 U T z3 S z5;have g:=ip Z s p 0 W X V up ⟨0,Y,[],0,[],i⟩ b ⟨F,q,HN.out.onl j (by omega)⟩ rfl hl hw ad;unfold iF at g;have L:Hid (ca Z w b):=j;clear q j d y t A x z B n x0 x1 x2 x3 x4 x5 P C G f;go_wp2_with fail
       refine g.mono ?_;rintro e l ⟨rfl,m,o⟩;have J:Hid (RN Z s p (cR V up V.length++[⟨0,Y,[],0,[],i⟩]) 0 W X l):=m;have O:Hid (Below Z w l):=(cn L.out ac).trans o;clear m o g;go_wp2;go_end0
       refine⟨rfl,?_,O.out⟩;rw[D.out.1];show RN Z s (i+4) _ 0 W X l
       rw[show i+4=p by have:=D.out.2;omega];exact J.out
      ·have eN:((s.extract i p).toList==[110,117,108,108])=false:=by rw[JJ];exact Q
       have D:Hid (df (b9 s i) i=.error (2,i)):=ql ab.out HB.out H N Q;clear H N Q;have ah:Calls prog 66 #[.pointer (some ⟨Z,0,none⟩),.int .i64 2,.int .i64 (i:Int)] c fun r w'=>r=.returned (.tuple #[])/\RD Z s p F 2 i X w'/\ca Z c w':=dh Z s p F W X 2 i _ C
       go_wp2_with fail
       refine ah.mono ?_;rintro e b ⟨rfl,q,ae⟩;have j:ca Z w b:=ca.trans G.out ae;have d:b.heap[a]?=some (.cells #[.int .i64 1,.string ⟨Y.toArray⟩,.string ⟨#[]⟩,.int .i64 0,.slice none 0 0,.int .i64 (i:Int)] 83 (0,0)):=(ae.block a (go.1 f).1 (fun e=>by injection e with e;omega)).trans f;clear ah ae;have z0:=JE b a 0 _ _ _ d;have U:=JE b a 1 _ _ _ d;have T:=JE b a 2 _ _ _ d;have z3:=JE b a 3 _ _ _ d;have S:=JE b a 4 _ _ _ d;have z5:=JE b a 5 _ _ _ d;simp only[Kr,Kv,Kh]at z0 U T z3 S z5;have g:=ip Z s p 2 i X V up ⟨1,Y,[],0,[],i⟩ b ⟨F,q,HN.out.onl j (by omega)⟩ rfl hl hw ad;unfold iF at g;have L:Hid (ca Z w b):=j;clear q j d y t A x z B n x0 x1 x2 x3 x4 x5 P C G f;go_wp2_with fail
       refine g.mono ?_;rintro e l ⟨rfl,m,o⟩;have J:Hid (RN Z s p (cR V up V.length++[⟨1,Y,[],0,[],i⟩]) 2 i X l):=m;have O:Hid (Below Z w l):=(cn L.out ac).trans o;clear m o g;go_wp2;go_end0
       refine⟨rfl,?_,O.out⟩;rw[D.out];obtain⟨v6,m,_⟩:=J.out;exact⟨by omega,_,_,m⟩
   ·go_wp2_with fail
    go_quiet (fail);have K:=ag.drewN nq;have R:Hid (ca Z w (wr.drewN nq)):=ca.drewN HO.out nq;generalize wr.drewN nq=I at K R;clear y t A x z B n ag HO nq;obtain⟨y,t,A,x,z,B,n⟩:=K.cell;go_wp2_with fail
    have hA:=K.alloc (.cells #[.int .i64 1,.string ⟨Y.toArray⟩,.string ⟨#[]⟩,.int .i64 0,.slice none 0 0,.int .i64 (i:Int)] 83);have aa:=JK I (.cells #[.int .i64 1,.string ⟨Y.toArray⟩,.string ⟨#[]⟩,.int .i64 0,.slice none 0 0,.int .i64 (i:Int)] 83 (0,0));have OA:Hid (ca Z w (I.alloc (.cells #[.int .i64 1,.string ⟨Y.toArray⟩,.string ⟨#[]⟩,.int .i64 0,.slice none 0 0,.int .i64 (i:Int)] 83))):=ca.alloc R.out _;have ai:Z<I.heap.size:=K.lt;have af:w.heap.size<=I.heap.size:=R.out.size;generalize I.alloc (.cells #[.int .i64 1,.string ⟨Y.toArray⟩,.string ⟨#[]⟩,.int .i64 0,.slice none 0 0,.int .i64 (i:Int)] 83)=wA at hA aa OA;generalize aj:I.heap.size=a at aa ai af;clear y t A x z B n K R aj I e2 e3;obtain⟨y,t,A,x,z,B,n⟩:=hA.cell;go_quiet (fail);have C:=hA.drewN nq;have G:Hid (ca Z w (wA.drewN nq)):=ca.drewN OA.out nq;have f:(wA.drewN nq).heap[a]?=some (.cells #[.int .i64 1,.string ⟨Y.toArray⟩,.string ⟨#[]⟩,.int .i64 0,.slice none 0 0,.int .i64 (i:Int)] 83 (0,0)):=aa;generalize wA.drewN nq=c at C G f;clear y t A x z B n hA OA aa nq wA;obtain⟨y,t,A,x,z,B,n⟩:=C.cell;have x0:=JE c a 0 _ _ _ f;have x1:=JE c a 1 _ _ _ f;have x2:=JE c a 2 _ _ _ f;have x3:=JE c a 3 _ _ _ f;have x4:=JE c a 4 _ _ _ f;have x5:=JE c a 5 _ _ _ f;have P:∀k,c.frozen? ⟨a,k,none⟩=false:=fun k=>by simp[World.frozen?,f]
    simp only[Kr,Kv,Kh]at x0 x1 x2 x3 x4 x5;by_cases H:(s.extract i p).toList=[116,114,117,101]
    ·have eT:((s.extract i p).toList==[116,114,117,101])=true:=by rw[H];rfl
     have D:Hid (df (b9 s i) i=.ok (.truth true i,4)/\p-i=4):=qp ab.out HB.out H;clear H;have f3:=P 3;have M:Hid (RD Z s p F 0 W X (c.setCell ⟨a,3,none⟩ (.int .i64 1))/\ca Z w (c.setCell ⟨a,3,none⟩ (.int .i64 1))/\(c.setCell ⟨a,3,none⟩ (.int .i64 1)).heap[a]?=some (.cells #[.int .i64 1,.string ⟨Y.toArray⟩,.string ⟨#[]⟩,.int .i64 1,.slice none 0 0,.int .i64 (i:Int)] 83 (0,0))):=⟨RD.setNew C f (by omega) 3 _,ca.setNew G.out f af 3 _,by rw[JV c a 3 _ _ _ _ f];exact J7 c a _ _ _ _ f⟩;go_upto_region 11 with fail
     generalize c.setCell ⟨a,3,none⟩ (.int .i64 1)=b at M;obtain⟨q,j,d⟩:=M.out;have z0:=JE b a 0 _ _ _ d;have U:=JE b a 1 _ _ _ d;have T:=JE b a 2 _ _ _ d;have z3:=JE b a 3 _ _ _ d;have S:=JE b a 4 _ _ _ d;have z5:=JE b a 5 _ _ _ d;simp only[Kr,Kv,Kh]at z0 U T z3 S z5;have g:=ip Z s p 0 W X V up ⟨1,Y,[],1,[],i⟩ b ⟨F,q,HN.out.onl j (by omega)⟩ rfl hl hw ad;unfold iF at g;have L:Hid (ca Z w b):=j;clear q j d y t A x z B n x0 x1 x2 x3 x4 x5 P C G f;go_wp2_with fail
     refine g.mono ?_;rintro e l ⟨rfl,m,o⟩;have J:Hid (RN Z s p (cR V up V.length++[⟨1,Y,[],1,[],i⟩]) 0 W X l):=m;have O:Hid (Below Z w l):=(cn L.out ac).trans o;clear m o g;go_wp2;go_end0
     refine⟨rfl,?_,O.out⟩;rw[D.out.1];show RN Z s (i+4) _ 0 W X l
     rw[show i+4=p by have:=D.out.2;omega];exact J.out
    ·have eT:((s.extract i p).toList==[116,114,117,101])=false:=by rw[JJ];exact H
     by_cases N:(s.extract i p).toList=[102,97,108,115,101]
     ·have eF:((s.extract i p).toList==[102,97,108,115,101])=true:=by rw[N];rfl
      have D:Hid (df (b9 s i) i=.ok (.truth false i,5)/\p-i=5):=qu ab.out HB.out N;clear H N;have M:Hid (RD Z s p F 0 W X c/\ca Z w c/\c.heap[a]?=some (.cells #[.int .i64 1,.string ⟨Y.toArray⟩,.string ⟨#[]⟩,.int .i64 0,.slice none 0 0,.int .i64 (i:Int)] 83 (0,0))):=⟨C,G.out,f⟩;go_upto_region 11 with fail
      obtain⟨q,j,d⟩:=M.out;have g:=ip Z s p 0 W X V up ⟨1,Y,[],0,[],i⟩ c ⟨F,q,HN.out.onl j (by omega)⟩ rfl hl hw ad;unfold iF at g;have L:Hid (ca Z w c):=j;clear q j d y t A x z B n P C G f;go_wp2_with fail
      refine g.mono ?_;rintro e l ⟨rfl,m,o⟩;have J:Hid (RN Z s p (cR V up V.length++[⟨1,Y,[],0,[],i⟩]) 0 W X l):=m;have O:Hid (Below Z w l):=(cn L.out ac).trans o;clear m o g;go_wp2;go_end0
      refine⟨rfl,?_,O.out⟩;rw[D.out.1];show RN Z s (i+5) _ 0 W X l
      rw[show i+5=p by have:=D.out.2;omega];exact J.out
     ·have eF:((s.extract i p).toList==[102,97,108,115,101])=false:=by rw[JJ];exact N
      by_cases Q:(s.extract i p).toList=[110,117,108,108]
      ·have eN:((s.extract i p).toList==[110,117,108,108])=true:=by rw[Q];rfl
       have D:Hid (df (b9 s i) i=.ok (.null i,4)/\p-i=4):=qm ab.out HB.out Q;clear H N Q;have f3:=P 0;have M:Hid (RD Z s p F 0 W X (c.setCell ⟨a,0,none⟩ (.int .i64 0))/\ca Z w (c.setCell ⟨a,0,none⟩ (.int .i64 0))/\(c.setCell ⟨a,0,none⟩ (.int .i64 0)).heap[a]?=some (.cells #[.int .i64 0,.string ⟨Y.toArray⟩,.string ⟨#[]⟩,.int .i64 0,.slice none 0 0,.int .i64 (i:Int)] 83 (0,0))):=⟨RD.setNew C f (by omega) 0 _,ca.setNew G.out f af 0 _,by rw[JV c a 0 _ _ _ _ f];exact J7 c a _ _ _ _ f⟩;go_upto_region 11 with fail
       generalize c.setCell ⟨a,0,none⟩ (.int .i64 0)=b at M;obtain⟨q,j,d⟩:=M.out;have z0:=JE b a 0 _ _ _ d;have U:=JE b a 1 _ _ _ d;have T:=JE b a 2 _ _ _ d;have z3:=JE b a 3 _ _ _ d;have S:=JE b a 4 _ _ _ d;have z5:=JE b a 5 _ _ _ d;simp only[Kr,Kv,Kh]at z0 U T z3 S z5;have g:=ip Z s p 0 W X V up ⟨0,Y,[],0,[],i⟩ b ⟨F,q,HN.out.onl j (by omega)⟩ rfl hl hw ad;unfold iF at g;have L:Hid (ca Z w b):=j;clear q j d y t A x z B n x0 x1 x2 x3 x4 x5 P C G f;go_wp2_with fail
       refine g.mono ?_;rintro e l ⟨rfl,m,o⟩;have J:Hid (RN Z s p (cR V up V.length++[⟨0,Y,[],0,[],i⟩]) 0 W X l):=m;have O:Hid (Below Z w l):=(cn L.out ac).trans o;clear m o g;go_wp2;go_end0
       refine⟨rfl,?_,O.out⟩;rw[D.out.1];show RN Z s (i+4) _ 0 W X l
       rw[show i+4=p by have:=D.out.2;omega];exact J.out
      ·have eN:((s.extract i p).toList==[110,117,108,108])=false:=by rw[JJ];exact Q
       have D:Hid (df (b9 s i) i=.error (2,i)):=ql ab.out HB.out H N Q;clear H N Q;have ah:Calls prog 66 #[.pointer (some ⟨Z,0,none⟩),.int .i64 2,.int .i64 (i:Int)] c fun r w'=>r=.returned (.tuple #[])/\RD Z s p F 2 i X w'/\ca Z c w':=dh Z s p F W X 2 i _ C
       go_wp2_with fail
       refine ah.mono ?_;rintro e b ⟨rfl,q,ae⟩;have j:ca Z w b:=ca.trans G.out ae;have d:b.heap[a]?=some (.cells #[.int .i64 1,.string ⟨Y.toArray⟩,.string ⟨#[]⟩,.int .i64 0,.slice none 0 0,.int .i64 (i:Int)] 83 (0,0)):=(ae.block a (go.1 f).1 (fun e=>by injection e with e;omega)).trans f;clear ah ae;have z0:=JE b a 0 _ _ _ d;have U:=JE b a 1 _ _ _ d;have T:=JE b a 2 _ _ _ d;have z3:=JE b a 3 _ _ _ d;have S:=JE b a 4 _ _ _ d;have z5:=JE b a 5 _ _ _ d;simp only[Kr,Kv,Kh]at z0 U T z3 S z5;have g:=ip Z s p 2 i X V up ⟨1,Y,[],0,[],i⟩ b ⟨F,q,HN.out.onl j (by omega)⟩ rfl hl hw ad;unfold iF at g;have L:Hid (ca Z w b):=j;clear q j d y t A x z B n x0 x1 x2 x3 x4 x5 P C G f;go_wp2_with fail
       refine g.mono ?_;rintro e l ⟨rfl,m,o⟩;have J:Hid (RN Z s p (cR V up V.length++[⟨1,Y,[],0,[],i⟩]) 2 i X l):=m;have O:Hid (Below Z w l):=(cn L.out ac).trans o;clear m o g;go_wp2;go_end0
       refine⟨rfl,?_,O.out⟩;rw[D.out];obtain⟨v6,m,_⟩:=J.out;exact⟨by omega,_,_,m⟩
end
section
variable (Z:Nat) (s:dv) (i:Nat) (Y:oa) (up:Option Nat) (V:dj) (W X:Nat) (w:Wd)
theorem ry(R:s.size<=65536)(h:RN Z s i Y 0 W X w)(L:i<s.size)(l:s[i]=116\/s[i]=102\/s[i]=110)(Q:Y.length<=1000000)(hw:iz Y)(P:∀u,up=some u->u<Y.length)(d:Nat):Calls prog 65 #[.pointer (some ⟨Z,0,none⟩),.int .i64 (om up),.string ⟨V.toArray⟩] w fun r v=>r=.returned (.tuple #[])/\VP Z s i Y up V W X (valL d (b9 s i) i) v/\Below Z w v:=by
 obtain⟨A,t,B⟩:=h;have O:d8 s[i]=false:=by rcases l with e|e|e<;>rw[e]<;>rfl
 have J:Hid (valL d (b9 s i) i=df (b9 s i) i):=by
  show valL d (b9 s i) i=df (b9 s i) i
  rw[cg s i L,cG,if_neg (by rcases l with e|e|e<;>rw[e]<;>decide),if_neg (by rw[O];rcases l with e|e|e<;>rw[e]<;>decide),if_pos l];all_goals rfl
 have C:=fun v (S:RN Z s i Y 0 W X v)=>IF Z s i Y up V W X v R S L Q hw P _ rfl
 have K:=t.lt;clear Q P O;rcases l with l|l|l
 ·have N:((s[i].toNat:Int)==116)=true:=by rw[l];rfl
  have F:=gY 116
  have G:Hid (cr (Z+1) 83 A Y w):=B;clear B;obtain⟨o,j,k,m,c,p,b⟩:=t.cell;go_enter func65,ntmps65;go_wp2_with fail
  go_quiet (fail);have a:=t.drewN nq;have f:Hid _:=ca.drewN (ce Z w) nq;generalize w.drewN nq=q at a f;clear o j k m c p b nq t;obtain⟨o,j,k,m,c,p,b⟩:=a.cell;go_wp2_with fail
  go_quiet (fail);have g:=a.drewN nq;have n:Hid _:=ca.drewN f.out nq;generalize q.drewN nq=M at g n;clear o j k m c p b nq a f q;go_wp2_with fail
  refine(F _).mono ?_;rintro e E ⟨rfl,z⟩;rw[z];clear z E;go_wp2_with fail
  refine(C _ ⟨A,g,G.out.onl n.out (by omega)⟩).mono ?_;rintro e I ⟨rfl,x,y⟩;have D:Hid _:=x;have H:Hid _:=(cn n.out K).trans y;clear x y C g;go_wp2;go_end0
  refine⟨rfl,?_,H.out⟩;rw[J.out];exact D.out
 ·have N:((s[i].toNat:Int)==102)=true:=by rw[l];rfl
  have F:∀w,Calls prog 95 #[.int .u8 102] w fun e v=>e=.returned (.bool false)/\v=w:=gY 102
  have G:Hid (cr (Z+1) 83 A Y w):=B;clear B;obtain⟨o,j,k,m,c,p,b⟩:=t.cell;go_enter func65,ntmps65;go_wp2_with fail
  go_quiet (fail);have a:=t.drewN nq;have f:Hid (ca Z w (w.drewN nq)):=ca.drewN (ce Z w) nq;generalize w.drewN nq=q at a f;clear o j k m c p b nq t;obtain⟨o,j,k,m,c,p,b⟩:=a.cell;go_wp2_with fail
  go_quiet (fail);have g:=a.drewN nq;have n:Hid (ca Z w (q.drewN nq)):=ca.drewN f.out nq;generalize q.drewN nq=M at g n;clear o j k m c p b nq a f q;go_wp2_with fail
  refine(F _).mono ?_;rintro e E ⟨rfl,z⟩;rw[z];clear z E;go_wp2_with fail
  refine(C _ ⟨A,g,G.out.onl n.out (by omega)⟩).mono ?_;rintro e I ⟨rfl,x,y⟩;have D:Hid _:=x;have H:Hid (Below Z w I):=(cn n.out K).trans y;clear x y C g;go_wp2;go_end0
  refine⟨rfl,?_,H.out⟩;rw[J.out];exact D.out
 ·have N:((s[i].toNat:Int)==110)=true:=by rw[l];rfl
  have F:∀w,Calls prog 95 #[.int .u8 110] w fun e v=>e=.returned (.bool false)/\v=w:=gY 110
  have G:Hid (cr (Z+1) 83 A Y w):=B;clear B;obtain⟨o,j,k,m,c,p,b⟩:=t.cell;go_enter func65,ntmps65;go_wp2_with fail
  go_quiet (fail);have a:=t.drewN nq;have f:Hid (ca Z w (w.drewN nq)):=ca.drewN (ce Z w) nq;generalize w.drewN nq=q at a f;clear o j k m c p b nq t;obtain⟨o,j,k,m,c,p,b⟩:=a.cell;go_wp2_with fail
  go_quiet (fail);have g:=a.drewN nq;have n:Hid (ca Z w (q.drewN nq)):=ca.drewN f.out nq;generalize q.drewN nq=M at g n;clear o j k m c p b nq a f q;go_wp2_with fail
  refine(F _).mono ?_;rintro e E ⟨rfl,z⟩;rw[z];clear z E;go_wp2_with fail
  refine(C _ ⟨A,g,G.out.onl n.out (by omega)⟩).mono ?_;rintro e I ⟨rfl,x,y⟩;have D:Hid _:=x;have H:Hid (Below Z w I):=(cn n.out K).trans y;clear x y C g;go_wp2;go_end0
  refine⟨rfl,?_,H.out⟩;rw[J.out];exact D.out
end
def tL(d dp:Nat):Prop:=∀(bp:Nat) (s:dv) (i:Nat) (ns:oa) (up:Option Nat) (key:dj) (at0:Nat) (w:Wd),s.size<=65536->RN bp s i ns 0 at0 dp w->ns.length<=i->iz ns->(∀u,up=some u->u<ns.length)->
 Calls prog 65 #[.pointer (some ⟨bp,0,none⟩),.int .i64 (om up),.string ⟨key.toArray⟩] w fun r w'=>r=.returned (.tuple #[])/\VP bp s i ns up key at0 dp (valL d (b9 s i) i) w'/\Below bp w w'
section
variable (Z:Nat) (s:dv) (i:Nat) (X:oa) (up:Option Nat) (V:dj) (W Y:Nat) (w:Wd)
def AI(d:Nat)(v:Va)(wr:Wd):Prop:=
 Below Z w wr/\
 ((v=.bool true/\∃p ts f,i<p/\p<=s.size/\(b9 s p).length<f/\RN Z s p (ei X up V i ts) 0 W Y wr/\(ei X up V i ts).length<=p/\iz (ei X up V i ts)/\dM (valL d) (b9 s i) i=lr ts i p (dW (valL d) f (b9 s p) p))\/(v=.bool false/\∃p ts,i<=p/\RN Z s p (ei X up V i ts) 0 W Y wr/\dM (valL d) (b9 s i) i=if(b9 s p).head?=some 93 then .ok (.arr ts i,p-i+1)else .error (2,p))\/(∃b,v=.bool b/\∃e a j vL,0<e/\RD Z s j vL e a Y wr/\dM (valL d) (b9 s i) i=.error (e,a)))
theorem ue{j a d:Nat}{b:Va}{w':Wd}(h:RD Z s j b 0 a d w'):AM Z s (.bool true) w'=s.size+2-j+1:=by
 unfold AM;rw[h.cell.2.2.2.1,lc h];simp[dU,uM]
theorem Gm(d:Nat)(hv:tL d Y)(hs:s.size<=65536)(h:RN Z s i X 0 W Y w)(hi:i<s.size)(hc:s[i]=91)(hl:X.length<=i)(hw:iz X)(aC:∀u,up=some u->u<X.length):Calls prog 98 #[.pointer (some ⟨Z,0,none⟩),.int .i64 (om up),.string ⟨V.toArray⟩] w fun r I=>r=.returned (.tuple #[])/\VP Z s i X up V W Y (dM (valL d) (b9 s i) i) I/\Below Z w I:=by
 obtain⟨vL,h1,h2⟩:=h;have aM:=h1.lt;have ha:=ip Z s i 0 W Y X up ⟨4,V,[],0,[],i⟩ w ⟨vL,h1,h2⟩ rfl (by omega) hw aC;unfold iF at ha;obtain⟨c0,c1,c2,c3,c4,c5,cf⟩:=h1.cell;have hh:(b9 s i).head?=some 91:=by rw[cg s i hi,hc];rfl
 go_enter func98,ntmps98;go_wp2_with fail
 refine ha.mono ?_;rintro e w1 ⟨rfl,⟨v1,r1,n1⟩,b1⟩;clear ha c0 c1 c2 c3 c4 c5 cf h1 h2;have H:=iQ Z s i v1 W Y 91 w1 (by omega) r1 hh
 have B1:Hid _:=b1;have N1:Hid (cr (Z+1) 83 v1 (cR X up X.length++[⟨4,V,[],0,[],i⟩]) w1):=n1;have ao:=r1.lt;clear b1 n1;go_wp2_with fail
 refine H.mono ?_;rintro e w2 ⟨rfl,r2,o2⟩;have O2:Hid _:=o2;have C:=gU Z s (i+1) v1 W Y w2 (by omega) r2;clear H o2 r1 r2;go_wp2_with fail
 refine C.mono ?_;rintro e A ⟨rfl,D,o3⟩;have O3:Hid _:=ca.trans O2.out o3;clear C o3 O2;generalize hp:i+1+nb (b9 s (i+1))=p at D;have HP:Hid _:=hp
 have hr:∀b,ft 0 (b9 s p) 93=b->Calls prog 93 #[.pointer (some ⟨Z,0,none⟩),.int .u8 93] A fun r G=>r=.returned (.bool b)/\RD Z s p v1 0 W Y G/\ca Z A G:=
  fun b Q=>Q▸(lW Z s p v1 0 W Y 93 A D).mono fun e G ⟨J,n,hw⟩=>⟨J,hw▸D.drewN n,hw▸(ce Z A).drewN n⟩
 generalize Q:ft 0 (b9 s p) 93=b;have P:=hr b Q;have HB:Hid (ft 0 (b9 s p) 93=b):=Q;clear hr Q hp D;go_wp2_with fail
 refine P.mono ?_;rintro e l ⟨rfl,E,K⟩;have O4:Hid (ca Z w1 l):=ca.trans O3.out K;have R4:Hid (RD Z s p v1 0 W Y l):=E;clear P K O3 E;go_wp2_with fail
 go_loopw [7] (fun v wr=>AI Z s i X up V W Y w d v wr) (fun v wr=>AM Z s v wr)
 case atStart=>
  have aG:Below Z w l:=B1.out.trans (cn O4.out ao);have am:RN Z s p (ei X up V i []) 0 W Y l:=⟨v1,R4.out,N1.out.onl O4.out (by omega)⟩;have aw:=HP.out;have aI:p<=s.size:=by have:=lB (b9 s (i+1));rw[cx]at this;omega
  refine⟨aG,?_⟩;cases b with
  | true=>
    right;left;refine⟨rfl,p,[],by omega,am,?_⟩;exact ya (valL d) s i p aw (by have:=HB.out;simp[ft]at this;exact this)
  | false=>
    left;have aB:(b9 s p).head?≠some 93:=by have:=HB.out;simp[ft]at this;exact this
    refine⟨rfl,p,[],(b9 s i).length+1,by omega,aI,?_,am,?_,?_,?_⟩
    ·rw[cx,cx];omega
    ·rw[fR];simp[cC];omega
    ·exact jK hw up V (.arr [] i)
    ·rw[ow (valL d) s i p aw,if_neg aB]
 case round=>
  clear B1 N1 O4 R4 HP HB ao;obtain⟨au,aD⟩:=hrel;have af:Hid (Below Z w wr):=au;clear au;rcases aD with⟨rfl,p,m,f,ae,ar,hf,⟨y,z,ac⟩,az,ay,N⟩|⟨rfl,p,m,ae,⟨y,z,ac⟩,N⟩|⟨b,rfl,e,a,j,y,J,z,N⟩
  ·have O:Hid (dM (valL d) (b9 s i) i=lr m i p (dW (valL d) f (b9 s p) p)):=N
   have HM:Hid (AM Z s (.bool true) wr=s.size+2-p+1):=ue Z s z;have ag:Hid (cr (Z+1) 83 y (ei X up V i m) wr):=ac;obtain⟨f,rfl⟩:∃g,f=g+1:=⟨f-1,by omega⟩;have ah:Hid ((ei X up V i m).length<=p/\iz (ei X up V i m)/\i<p/\p<=s.size/\(b9 s p).length<f+1):=⟨az,ay,ae,ar,hf⟩;obtain⟨c0,c1,c2,c3,c4,c5,cf⟩:=z.cell;have C:=gU Z s p y W Y wr (by omega) z;generalize aA:p+nb (b9 s p)=B at C;have ai:Hid (p+nb (b9 s p)=B):=aA;have U:=z.lt;clear N ac az ay ae ar hf aA z;go_wp2_with fail
   refine C.mono ?_;rintro e w2 ⟨rfl,r2,o2⟩;have N2:=ag.out.onl o2 (by omega);have aa:=hv Z s B (ei X up V i m) (some X.length) [] W w2 hs ⟨y,r2,N2⟩ (by have:=ah.out.1;have:=ai.out;omega) ah.out.2.1 (fun u hu=>by injection hu with hu;subst hu;rw[fR];omega);have B2:Hid (Below Z w w2):=af.out.trans (cn o2 U);have aK:Z<w2.heap.size:=r2.lt;clear C o2 r2 N2 ag af c0 c1 c2 c3 c4 c5 cf U;cases T:valL d (b9 s B) B with
   | error q=>
     obtain⟨e,a⟩:=q;rw[T]at aa;have HR:Hid (dW (valL d) (f+1) (b9 s p) p=.error (e,a)):=by
      have h2:=ai.out;refine vY _ _ _ _ _ ?_;rw[h2];exact T
     clear T;go_wp2_with fail
     refine aa.mono ?_;rintro M A ⟨rfl,⟨J,j,x,D⟩,b3⟩;have B3:Hid (Below Z w A):=B2.out.trans b3;have ak:Z<A.heap.size:=D.lt;have C:=eI Z s j x e a Y A D J;clear aa b3 B2 D;go_wp2_with fail
     refine C.mono ?_;rintro M l ⟨rfl,E,K⟩;have S:Hid (Below Z w l):=B3.out.trans (cn K ak)
     have aq:Calls prog 93 #[.pointer (some ⟨Z,0,none⟩),.int .u8 44] l fun r G=>r=.returned (.bool false)/\RD Z s j x e a Y G/\ca Z l G:=
      (lW Z s j x e a Y 44 l E).mono fun e2 G ⟨aF,n,hw⟩=>⟨by rw[aF,jM J],hw▸E.drewN n,hw▸(ce Z l).drewN n⟩
     have aj:Z<l.heap.size:=E.lt;clear C K E B3;go_wp2_with fail
     refine aq.mono ?_;rintro M c ⟨rfl,t,o⟩;have R5:Hid (RD Z s j x e a Y c):=t;have L:Hid (Below Z w c):=S.out.trans (cn o aj);clear aq o t S;go_wp2_with fail
     refine⟨⟨L.out,.inr (.inr ⟨false,rfl,e,a,j,x,J,R5.out,?_⟩)⟩,?_⟩
     ·rw[O.out,HR.out];rfl
     ·rw[nj,HM.out];omega
   | ok q=>
     obtain⟨F,n⟩:=q;rw[T]at aa;have aN:=jH d _ _ _ _ T;have HR:Hid (valL d (b9 s B) B=.ok (F,n)):=T;clear T;go_wp2_with fail
     refine aa.mono ?_;rintro M A ⟨rfl,⟨x,D,n3⟩,b3⟩;rw[pc]at n3;have B3:Hid (Below Z w A):=B2.out.trans b3;have ak:Z<A.heap.size:=D.lt;have N3:Hid (cr (Z+1) 83 x (ei X up V i (m++[F])) A):=n3;have C:=gU Z s (B+n) x W Y A (by omega) D;generalize ap:B+n+nb (b9 s (B+n))=k at C;have ax:Hid (B+n+nb (b9 s (B+n))=k):=ap;clear aa b3 B2 D n3 ap;go_wp2_with fail
     refine C.mono ?_;rintro M l ⟨rfl,E,K⟩;have S:Hid (Below Z w l):=B3.out.trans (cn K ak);have N4:Hid (cr (Z+1) 83 x (ei X up V i (m++[F])) l):=N3.out.onl K (by omega);have aj:Z<l.heap.size:=E.lt
     have hr:∀b,ft 0 (b9 s k) 44=b->Calls prog 93 #[.pointer (some ⟨Z,0,none⟩),.int .u8 44] l fun r G=>r=.returned (.bool b)/\RD Z s k x 0 W Y G/\ca Z l G:=
      fun b Q=>Q▸(lW Z s k x 0 W Y 44 l E).mono fun e G ⟨J,n,hw⟩=>⟨J,hw▸E.drewN n,hw▸(ce Z l).drewN n⟩
     clear C K B3 N3 E;by_cases R:(b9 s k).head?=some 44
     ·have P:=hr true (gy R)
      have av:=dr R;have aL:(k:Int)<=65536:=by omega
      have ab:Hid ((b9 s k).head?=some 44/\k<s.size):=⟨R,av⟩;clear hr R av;go_wp2_with fail
      refine P.mono ?_;rintro M c ⟨rfl,t,o⟩;have L:Hid (Below Z w c):=S.out.trans (cn o aj);have N5:Hid (cr (Z+1) 83 x (ei X up V i (m++[F])) c):=N4.out.onl o (by omega);have aH:Z<c.heap.size:=t.lt;clear P o S N4;obtain⟨c0,c1,c2,c3,c4,c5,cf⟩:=t.cell;have f1:=cf 1;go_wp2_with fail
      have r6:=t.setI (k+1);have o6:ca Z c (c.setCell ⟨Z,1,none⟩ (.int .i64 ((k+1:Nat):Int))):=ca.setCell (ce Z c) _ t;obtain⟨g1,g2,g3,g4,g5⟩:=ah.out;have e2:=ai.out;have e3:=ax.out;refine⟨⟨L.out.trans (cn o6 aH),.inl ⟨rfl,k+1,m++[F],f,by omega,by have:=ab.out.2;omega,?_,⟨x,r6,N5.out.onl o6 (by omega)⟩,?_,?_,?_⟩⟩,?_⟩
      ·rw[cx]at g5 ⊢;have:=ab.out.2;omega
      ·rw[fR]at g1 ⊢;rw[mG];omega
      ·exact jK hw up V (.arr (m++[F]) i)
      ·rw[O.out,rI (valL d) s p f B k n F e2 HR.out e3 ab.out.1,qI m F i p (k+1) (by omega) (by omega)]
      ·have aE:AM Z s (.bool true) (c.setCell ⟨Z,1,none⟩ (.int .i64 ((k:Int)+1)))=s.size+2-(k+1)+1:=ue Z s r6
       rw[aE,HM.out];have:=ab.out.2;omega
     ·have P:=hr false (fa R)
      have ab:Hid ((b9 s k).head?≠some 44):=R;clear hr R;go_wp2_with fail
      refine P.mono ?_;rintro M c ⟨rfl,t,o⟩;have L:Hid (Below Z w c):=S.out.trans (cn o aj);have N5:Hid (cr (Z+1) 83 x (ei X up V i (m++[F])) c):=N4.out.onl o (by omega);have R5:Hid (RD Z s k x 0 W Y c):=t;clear P o S N4 t;go_wp2_with fail
      obtain⟨g1,g2,g3,g4,g5⟩:=ah.out;have e2:=ai.out;have e3:=ax.out;refine⟨⟨L.out,.inr (.inl ⟨rfl,k,m++[F],by omega,⟨x,R5.out,N5.out⟩,?_⟩)⟩,?_⟩
      ·rw[O.out,mV (valL d) s p f B k n F e2 HR.out e3 ab.out,nB m F i p k (by omega) (by omega)]
      ·rw[nj,HM.out];omega
  ·have O:Hid (dM (valL d) (b9 s i) i=if(b9 s p).head?=some 93 then .ok (.arr m i,p-i+1)else .error (2,p)):=N
   have ag:Hid (cr (Z+1) 83 y (ei X up V i m) wr):=ac;have U:=z.lt;have aJ:Hid (i<=p):=ae;by_cases ad:(b9 s p).head?=some 93
   ·have H:Calls prog 127 #[.pointer (some ⟨Z,0,none⟩),.int .u8 93] wr fun r I=>r=.returned (.tuple #[])/\RD Z s (p+1) y 0 W Y I/\ca Z wr I:=iQ Z s p y W Y 93 wr (by omega) z ad
    have al:Hid _:=ad;clear N ac ad z ae;go_wp2_with fail
    refine H.mono ?_;rintro M c ⟨rfl,t,o⟩;have R5:Hid (RD Z s (p+1) y 0 W Y c):=t;have N5:Hid (cr (Z+1) 83 y (ei X up V i m) c):=ag.out.onl o (by omega);have L:Hid (Below Z w c):=af.out.trans (cn o U);clear H o t;go_wp2;go_end0
    refine⟨rfl,?_,L.out⟩;rw[O.out,if_pos al.out];show RN Z s (i+(p-i+1)) _ 0 W Y c
    rw[show i+(p-i+1)=p+1 by have:=aJ.out;omega];exact⟨y,R5.out,N5.out⟩
   ·have H:Calls prog 127 #[.pointer (some ⟨Z,0,none⟩),.int .u8 93] wr fun r I=>r=.returned (.tuple #[])/\RD Z s p y 2 p Y I/\ca Z wr I:=mr Z s p y W Y 93 wr z ad
    have al:Hid (¬(b9 s p).head?=some 93):=ad;clear N ac ad z ae;go_wp2_with fail
    refine H.mono ?_;rintro M c ⟨rfl,t,o⟩;have R5:Hid (RD Z s p y 2 p Y c):=t;have L:Hid (Below Z w c):=af.out.trans (cn o U);clear H o t;go_wp2;go_end0
    refine⟨rfl,?_,L.out⟩;rw[O.out,if_neg al.out];exact⟨by omega,_,_,R5.out⟩
  ·have O:Hid (dM (valL d) (b9 s i) i=.error (e,a)):=N
   have H:Calls prog 127 #[.pointer (some ⟨Z,0,none⟩),.int .u8 93] wr fun r I=>r=.returned (.tuple #[])/\∃n,I=wr.drewN n:=jy Z s j y e a Y 93 wr z J
   have aO:((e:Int)==0)=false:=by simp;omega
   obtain⟨c0,c1,c2,c3,c4,c5,cf⟩:=z.cell;have U:=z.lt;clear N;cases b
   all_goals
    go_wp2_with fail
    refine H.mono ?_;rintro M c ⟨rfl,n,an⟩;rw[an];clear an c;go_wp2;go_end0
    refine⟨rfl,?_,af.out.trans (cn ((ce Z wr).drewN n) U)⟩;rw[O.out];exact⟨J,j,y,z⟩
end
theorem CJ(B:Nat)(v:Va)(L:oa)(w:Wd)(C:cr B 83 v L w)(o:Nat)(n:Nd)(F:L[o]?=some n)(M:∀k∈n.kids,k<L.length)(hb:L.length<=1000000)(ag:n.kids.length<=1000000)(name:dv):Calls prog 34 #[v,.int .i64 (o:Int),.string name] w fun r O=>(∃z:Int,r=.returned (.int .i64 z)/\(0<=z↔∃(k:Nat) (b:Nd),k∈n.kids/\L[k]?=some b/\(⟨b.key.toArray⟩:dv)=name))/\O=w:=by
 have ad:=(JG.1 F).1;obtain⟨g,D,rfl⟩:∃g D,v=.slice (some ⟨g,0,none⟩) L.length D:=by
  obtain⟨af,k1,J,k3,k4⟩:=C;rcases J.2 with⟨_,h⟩|⟨g,c,cu,a,_⟩
  ·omega
  ·exact⟨g,c,a⟩
 obtain⟨I,P⟩:=C.cells;obtain⟨ah,ab,ai,N⟩:=P o n F;have ae:(o:Int)<(L.length:Int):=by omega
 have S:Hid _:=N;have X:Hid _:=I;have Z:Hid _:=M;go_enter func34,ntmps34;go_wp2
 go_loopw [7] (fun i wr=>∃j:Nat,j<=n.kids.length/\i=.int .i64 (j:Int)/\wr=w/\∀(f k:Nat) (b:Nd),f<j->n.kids[f]?=some k->L[k]?=some b->(⟨b.key.toArray⟩:dv)≠name) (fun i _=>n.kids.length-(intOf i).toNat)
 case atStart=>exact⟨0,by omega,rfl,rfl,fun f k b h=>by omega⟩
 case round=>
  obtain⟨j,hj,rfl,K,V⟩:=hrel;rw[K];have E:Hid _:=V;by_cases W:j<n.kids.length
  ·have T:(j:Int)<(n.kids.length:Int):=by omega
   obtain⟨k,m⟩:∃k,n.kids[j]?=some k:=⟨_,JF W⟩;obtain⟨gk,R,aa⟩:=S.out j k m;have x:=JZ m;have H:=Z.out k x;obtain⟨b,s⟩:∃b,L[k]?=some b:=⟨_,JF H⟩;have y:=X.out k b s;have ac:(k:Int)<(L.length:Int):=by omega
   unfold iV at aa;subst R;have t:Hid (n.kids[j]?=some k/\k∈n.kids/\L[k]?=some b):=⟨m,x,s⟩;clear m x s H;by_cases d:(⟨b.key.toArray⟩:dv)=name
   ·have u:Hid _:=d
    rw[d]at y;clear d;go_wp2;go_ret;exact⟨⟨_,rfl,⟨fun _=>⟨k,b,t.out.2.1,t.out.2.2,u.out⟩,fun _=>by omega⟩⟩,rfl⟩
   ·have u:Hid _:=d
    generalize G:(⟨b.key.toArray⟩:dv)=q at y d u;have Q:Hid _:=G;have hl:(q.toList==name.toList)=false:=by
     rw[JJ,Lc,Lc];intro h;exact d (KF h)
    clear d G;go_wp2;refine⟨⟨j+1,by omega,by go_num,trivial,?_⟩,by simp[intOf];omega⟩;intro f U Y A l p;by_cases e:f=j
    ·subst e
     rw[t.out.1]at l;injection l with l;subst l;rw[t.out.2.2]at p;injection p with p;subst p;rw[Q.out];exact u.out
    ·exact E.out f U Y (by omega) l p
  ·have T:(n.kids.length:Int)<=(j:Int):=by omega
   go_wp2;go_ret;refine⟨⟨_,rfl,⟨fun h=>by omega,?_⟩⟩,rfl⟩;rintro⟨k,b,m,s,d⟩;obtain⟨f,A,l⟩:=MR m;exact absurd d (E.out f k b (by omega) (by rw[JF A,l]) s)
section
variable (Z:Nat) (s:dv) (i:Nat) (X:oa) (up:Option Nat) (V:dj) (W Y:Nat) (w:Wd)
theorem rD(e a d:Nat)(f:Va)(u:Int)(kb:dv)(g:RD Z s i f e a d w)(v:0<e):Calls prog 65 #[.pointer (some ⟨Z,0,none⟩),.int .i64 u,.string kb] w fun r m=>r=.returned (.tuple #[])/\RD Z s i f e a d m/\ca Z w m:=by
 obtain⟨p,k,l,o,j,q,h⟩:=g.cell;by_cases z:i<s.size
 ·have x:(i:Int)<(s.size:Int):=by omega
  go_enter func65,ntmps65;go_wp2
  go_quiet (fail);have b:=g.drewN nq;have c:Hid _:=ca.drewN (ce Z w) nq;generalize w.drewN nq=n at b c;obtain⟨p,k,l,o,j,q,h⟩:=b.cell;go_wp2;refine Ka (Ma rfl _ _ _) rfl ?_;exact⟨rfl,b,c.out⟩
 ·have x:(s.size:Int)<=(i:Int):=by omega
  go_enter func65,ntmps65;go_wp2
  go_quiet (fail);have b:=g.drewN nq;have c:Hid _:=ca.drewN (ce Z w) nq;generalize w.drewN nq=n at b c;obtain⟨p,k,l,o,j,q,h⟩:=b.cell;have t:=lj Z s i f e a d 2 i n b v;go_wp2_with fail
  refine t.mono ?_;rintro D A ⟨rfl,y⟩;rw[y];go_wp2;refine Ka (Ma rfl _ _ _) rfl ?_;exact⟨rfl,b,c.out⟩
def OI(d:Nat)(v:Va)(wr:Wd):Prop:=
 Below Z w wr/\
 ((v=.bool true/\∃p ms f,i<p/\p<=s.size/\(b9 s p).length<f/\RN Z s p (dI X up V i ms) 0 W Y wr/\(dI X up V i ms).length<=p/\db (valL d) (b9 s i) i=jI ms i p (dn (valL d) f (ms.map (·.1)) (b9 s p) p))\/(v=.bool false/\∃p ms,i<=p/\RN Z s p (dI X up V i ms) 0 W Y wr/\db (valL d) (b9 s i) i=if(b9 s p).head?=some 125 then .ok (.obj ms i,p-i+1)else .error (2,p))\/(∃b,v=.bool b/\∃e a j vL,0<e/\RD Z s j vL e a Y wr/\db (valL d) (b9 s i) i=.error (e,a)))
theorem E4(d:Nat)(hv:tL d Y)(hs:s.size<=65536)(h:RN Z s i X 0 W Y w)(hi:i<s.size)(hc:s[i]=123)(hl:X.length<=i)(hw:iz X)(bh:∀u,up=some u->u<X.length):Calls prog 99 #[.pointer (some ⟨Z,0,none⟩),.int .i64 (om up),.string ⟨V.toArray⟩] w fun r D=>r=.returned (.tuple #[])/\VP Z s i X up V W Y (db (valL d) (b9 s i) i) D/\Below Z w D:=by
 obtain⟨vL,h1,h2⟩:=h;have bq:=h1.lt;have ha:=ip Z s i 0 W Y X up ⟨5,V,[],0,[],i⟩ w ⟨vL,h1,h2⟩ rfl (by omega) hw bh;unfold iF at ha;obtain⟨c0,c1,c2,c3,c4,c5,cf⟩:=h1.cell;have hh:(b9 s i).head?=some 123:=by rw[cg s i hi,hc];rfl
 go_enter func99,ntmps99;go_wp2_with fail
 refine ha.mono ?_;rintro e w1 ⟨rfl,⟨v1,r1,n1⟩,b1⟩;clear ha c0 c1 c2 c3 c4 c5 cf h1 h2;have hm:=iQ Z s i v1 W Y 123 w1 (by omega) r1 hh
 have B1:Hid _:=b1;have N1:Hid (cr (Z+1) 83 v1 (cR X up X.length++[⟨5,V,[],0,[],i⟩]) w1):=n1;have aR:Z<w1.heap.size:=r1.lt;clear b1 n1;go_wp2_with fail
 refine hm.mono ?_;rintro e w2 ⟨rfl,U,o2⟩;have O2:Hid (ca Z w1 w2):=o2;have R:=gU Z s (i+1) v1 W Y w2 (by omega) U;clear hm o2 r1 U;go_wp2_with fail
 refine R.mono ?_;rintro e B ⟨rfl,I,o3⟩;have O3:Hid (ca Z w1 B):=ca.trans O2.out o3;clear R o3 O2;generalize hp:i+1+nb (b9 s (i+1))=p at I;have HP:Hid (i+1+nb (b9 s (i+1))=p):=hp
 have hr:∀b,ft 0 (b9 s p) 125=b->Calls prog 93 #[.pointer (some ⟨Z,0,none⟩),.int .u8 125] B fun r C=>r=.returned (.bool b)/\RD Z s p v1 0 W Y C/\ca Z B C:=
  fun b hb=>hb▸(lW Z s p v1 0 W Y 125 B I).mono fun e C ⟨x,n,hw⟩=>⟨x,hw▸I.drewN n,hw▸(ce Z B).drewN n⟩
 generalize hb:ft 0 (b9 s p) 125=b;have ah:=hr b hb;have HB:Hid (ft 0 (b9 s p) 125=b):=hb;clear hr hb hp I;go_wp2_with fail
 refine ah.mono ?_;rintro e H ⟨rfl,G,o4⟩;have O4:Hid (ca Z w1 H):=ca.trans O3.out o4;have R4:Hid (RD Z s p v1 0 W Y H):=G;clear ah o4 O3 G;go_wp2_with fail
 go_loopw [7] (fun v wr=>OI Z s i X up V W Y w d v wr) (fun v wr=>AM Z s v wr)
 case atStart=>
  have bl:Below Z w H:=B1.out.trans (cn O4.out aR);have aN:RN Z s p (dI X up V i []) 0 W Y H:=⟨v1,R4.out,N1.out.onl O4.out (by omega)⟩;have a7:=HP.out;have bo:p<=s.size:=by have:=lB (b9 s (i+1));rw[cx]at this;omega
  refine⟨bl,?_⟩;cases b with
  | true=>
    right;left;refine⟨rfl,p,[],by omega,aN,?_⟩;exact xY (valL d) s i p a7 (by have:=HB.out;simp[ft]at this;exact this)
  | false=>
    left;have bg:(b9 s p).head?≠some 125:=by have:=HB.out;simp[ft]at this;exact this
    refine⟨rfl,p,[],(b9 s i).length+1,by omega,bo,?_,aN,?_,?_⟩
    ·rw[cx,cx];omega
    ·rw[eA];simp[cp];omega
    ·rw[n9 (valL d) s i p a7,if_neg bg];rfl
 case round=>
  clear B1 N1 O4 R4 HP HB aR;obtain⟨a3,bj⟩:=hrel;have ay:Hid (Below Z w wr):=a3;clear a3;rcases bj with⟨rfl,p,o,f,aw,aZ,hf,⟨t,ab,ar⟩,bb,ae⟩|⟨rfl,p,o,aw,⟨t,ab,ar⟩,ae⟩|⟨b,rfl,e,a,j,t,x,ab,ae⟩
  ·have HF:Hid (db (valL d) (b9 s i) i=jI o i p (dn (valL d) f (o.map (·.1)) (b9 s p) p)):=ae
   have HM:Hid (AM Z s (.bool true) wr=s.size+2-p+1):=ue Z s ab;have aE:Hid (cr (Z+1) 83 t (dI X up V i o) wr):=ar;obtain⟨f,rfl⟩:∃g,f=g+1:=⟨f-1,by omega⟩;have an:Hid ((dI X up V i o).length<=p/\i<p/\p<=s.size/\(b9 s p).length<f+1):=⟨bb,aw,aZ,hf⟩;obtain⟨c0,c1,c2,c3,c4,c5,cf⟩:=ab.cell;have R:=gU Z s p t W Y wr (by omega) ab;generalize bc:p+nb (b9 s p)=M at R;have ao:Hid (p+nb (b9 s p)=M):=bc;have am:=ab.lt;clear ae ar bb aw aZ hf bc ab;go_wp2_with fail
   refine R.mono ?_;rintro e w1 ⟨rfl,r1,o1⟩;have N1:Hid (cr (Z+1) 83 t (dI X up V i o) w1):=aE.out.onl o1 (by omega);have B1:Hid (Below Z w w1):=ay.out.trans (cn o1 am);have hq:=vF Z s M t W Y w1 (by omega) r1;clear R o1 aE ay c0 c1 c2 c3 c4 c5 cf am;obtain⟨c0,c1,c2,c3,c4,c5,cf⟩:=r1.cell;cases hQ:da (b9 s M)with
   | error oo=>
     rw[hQ]at hq;have HR:Hid (dn (valL d) (f+1) (o.map (·.1)) (b9 s p) p=.error (2,M+oo)):=rh _ _ _ _ _ _ _ ao.out hQ;clear hQ;go_wp2_with fail
     refine hq.mono ?_;rintro e w2 ⟨⟨⟨tt,rfl⟩,j,U⟩,o2⟩;have B2:Hid (Below Z w w2):=B1.out.trans (cn o2 r1.lt);clear hq o2 B1 r1 c0 c1 c2 c3 c4 c5 cf;obtain⟨e,x,ad⟩:∃e,0<e/\e=2:=⟨2,by omega,rfl⟩;obtain⟨a,aj⟩:∃a,a=M+oo:=⟨_,rfl⟩;rw[<-ad,<-aj]at HR U;obtain⟨l,ai⟩:∃l,l=t:=⟨_,rfl⟩;rw[<-ai]at U;have bm:((e:Int)==0)=false:=by simp;omega
     obtain⟨c0,c1,c2,c3,c4,c5,cf⟩:=U.cell;clear ad aj ai;have aL:=eI Z s j l e a Y w2 U x;go_wp2_with fail
     refine aL.mono ?_;rintro y B ⟨rfl,I,o3⟩;have B3:Hid (Below Z w B):=B2.out.trans (cn o3 U.lt);clear aL o3 B2 U;have bd:Calls prog 127 #[.pointer (some ⟨Z,0,none⟩),.int .u8 58] B fun r D=>r=.returned (.tuple #[])/\RD Z s j l e a Y D/\ca Z B D:=(jy Z s j l e a Y 58 B I x).mono fun e2 C ⟨ac,n,hw⟩=>⟨ac,hw▸I.drewN n,hw▸(ce Z B).drewN n⟩
     go_wp2_with fail
     refine bd.mono ?_;rintro y H ⟨rfl,G,o4⟩;have B4:Hid (Below Z w H):=B3.out.trans (cn o4 I.lt);clear bd o4 B3 I;have az:=eI Z s j l e a Y H G x;go_wp2_with fail
     refine az.mono ?_;rintro y J ⟨rfl,L,P⟩;have S:Hid (Below Z w J):=B4.out.trans (cn P G.lt);clear az P B4 G;have aB:=rD Z s j J e a Y l (X.length:Int) tt L x;go_wp2_with fail
     refine aB.mono ?_;rintro y w6 ⟨rfl,Q,o6⟩;have B6:Hid (Below Z w w6):=S.out.trans (cn o6 L.lt);clear aB o6 S L;have ag:=eI Z s j l e a Y w6 Q x;go_wp2_with fail
     refine ag.mono ?_;rintro y A ⟨rfl,F,o7⟩;have B7:Hid (Below Z w A):=B6.out.trans (cn o7 Q.lt);clear ag o7 B6 Q
     have ak:Calls prog 93 #[.pointer (some ⟨Z,0,none⟩),.int .u8 44] A fun r C=>r=.returned (.bool false)/\RD Z s j l e a Y C/\ca Z A C:=
      (lW Z s j l e a Y 44 A F).mono fun e2 C ⟨ac,n,hw⟩=>⟨by rw[ac,jM x],hw▸F.drewN n,hw▸(ce Z A).drewN n⟩
     go_wp2_with fail
     refine ak.mono ?_;rintro y E ⟨rfl,K,O⟩;have R8:Hid (RD Z s j l e a Y E):=K;have B8:Hid (Below Z w E):=B7.out.trans (cn O F.lt);clear ak O K B7 F;go_wp2_with fail
     refine⟨⟨B8.out,.inr (.inr ⟨false,rfl,e,a,j,l,x,R8.out,?_⟩)⟩,?_⟩
     ·rw[HF.out,HR.out];rfl
     ·rw[nj,HM.out];omega
   | ok q=>
     obtain⟨aa,m⟩:=q;rw[hQ]at hq;have HQ:Hid (da (b9 s M)=.ok (aa,m)):=hQ;clear hQ;go_wp2_with fail
     refine hq.mono ?_;rintro e w2 ⟨⟨rfl,U⟩,o2⟩;have B2:Hid (Below Z w w2):=B1.out.trans (cn o2 r1.lt);have N2:Hid (cr (Z+1) 83 t (dI X up V i o) w2):=N1.out.onl o2 (by omega);clear hq o2 B1 N1 r1 c0 c1 c2 c3 c4 c5 cf;obtain⟨c0,c1,c2,c3,c4,c5,cf⟩:=U.cell;have aG:=CJ (Z+1) t (dI X up V i o) w2 N2.out X.length ⟨5,V,[],0,cq (X.length+1) o,i⟩ (xc X up V i o) (fun k hk=>by have:=wt _ _ k hk;rw[eA];omega) (by have:=an.out.1;have:=an.out.2.2.1;omega) (by have:=ln (X.length+1) o;have:=an.out.1;rw[eA]at this;have:=an.out.2.2.1;simp only;omega) ⟨aa.toArray⟩;have aO:=xg X up V i o aa;rw[aO]at aG;clear aO;go_wp2_with fail
     refine aG.mono ?_;rintro y B ⟨⟨z,rfl,hz⟩,aY⟩;rw[aY];clear aY B aG;by_cases av:aa∈o.map (·.1)
     ·have a0:(0:Int)<=z:=hz.2 av
      have HR:Hid (dn (valL d) (f+1) (o.map (·.1)) (b9 s p) p=.error (4,M)):=pT _ _ _ _ _ _ _ _ ao.out HQ.out av;have aS:Calls prog 66 #[.pointer (some ⟨Z,0,none⟩),.int .i64 4,.int .i64 (M:Int)] w2 fun r D=>r=.returned (.tuple #[])/\RD Z s (M+m) t 4 M Y D/\ca Z w2 D:=dh Z s (M+m) t W Y 4 M w2 U
      clear hz av;go_wp2_with fail
      refine aS.mono ?_;rintro y B ⟨rfl,I,o3⟩;have B3:Hid (Below Z w B):=B2.out.trans (cn o3 U.lt);clear aS o3 B2 U c0 c1 c2 c3 c4 c5 cf;obtain⟨e,x,ad⟩:∃e,0<e/\e=4:=⟨4,by omega,rfl⟩;obtain⟨a,aj⟩:∃a,a=M:=⟨_,rfl⟩;obtain⟨j,aA⟩:∃j,j=M+m:=⟨_,rfl⟩;rw[<-ad,<-aA]at I;rw[<-ad]at HR;obtain⟨l,ai⟩:∃l,l=t:=⟨_,rfl⟩;rw[<-ai]at I;subst aj;clear ad aA ai;have aW:=eI Z s j l e a Y B I x;go_wp2_with fail
      refine aW.mono ?_;rintro y H ⟨rfl,G,o4⟩;have B4:Hid (Below Z w H):=B3.out.trans (cn o4 I.lt);clear aW o4 B3 I;have a4:Calls prog 127 #[.pointer (some ⟨Z,0,none⟩),.int .u8 58] H fun r D=>r=.returned (.tuple #[])/\RD Z s j l e a Y D/\ca Z H D:=(jy Z s j l e a Y 58 H G x).mono fun e2 C ⟨ac,n,hw⟩=>⟨ac,hw▸G.drewN n,hw▸(ce Z H).drewN n⟩
      go_wp2_with fail
      refine a4.mono ?_;rintro y J ⟨rfl,L,P⟩;have S:Hid (Below Z w J):=B4.out.trans (cn P G.lt);clear a4 P B4 G;have a8:=eI Z s j l e a Y J L x;go_wp2_with fail
      refine a8.mono ?_;rintro y w6 ⟨rfl,Q,o6⟩;have B6:Hid (Below Z w w6):=S.out.trans (cn o6 L.lt);clear a8 o6 S L;have aK:=rD Z s j w6 e a Y l (X.length:Int) ⟨aa.toArray⟩ Q x;go_wp2_with fail
      refine aK.mono ?_;rintro y A ⟨rfl,F,o7⟩;have B7:Hid (Below Z w A):=B6.out.trans (cn o7 Q.lt);clear aK o7 B6 Q;have aV:=eI Z s j l e a Y A F x;go_wp2_with fail
      refine aV.mono ?_;rintro y E ⟨rfl,K,O⟩;have B8:Hid (Below Z w E):=B7.out.trans (cn O F.lt);clear aV O B7 F
      have aM:Calls prog 93 #[.pointer (some ⟨Z,0,none⟩),.int .u8 44] E fun r C=>r=.returned (.bool false)/\RD Z s j l e a Y C/\ca Z E C:=
       (lW Z s j l e a Y 44 E K).mono fun e2 C ⟨ac,n,hw⟩=>⟨by rw[ac,jM x],hw▸K.drewN n,hw▸(ce Z E).drewN n⟩
      go_wp2_with fail
      refine aM.mono ?_;rintro y w9 ⟨rfl,r9,o9⟩;have R9:Hid (RD Z s j l e a Y w9):=r9;have B9:Hid (Below Z w w9):=B8.out.trans (cn o9 K.lt);clear aM o9 r9 B8 K;go_wp2_with fail
      refine⟨⟨B9.out,.inr (.inr ⟨false,rfl,e,a,j,l,x,R9.out,?_⟩)⟩,?_⟩
      ·rw[HF.out,HR.out];rfl
      ·rw[nj,HM.out];omega
     ·have a0:decide ((0:Int)<=z)=false:=by
       rw[Mz];exact fun h=>av (hz.1 h)
      have a9:Hid (aa∉o.map (·.1)):=av;have R:=gU Z s (M+m) t W Y w2 (by omega) U;generalize aT:M+m+nb (b9 s (M+m))=T at R;have aC:Hid (M+m+nb (b9 s (M+m))=T):=aT;have a1:=U.lt;clear hz av aT U;go_wp2_with fail
      refine R.mono ?_;rintro y B ⟨rfl,I,o3⟩;have B3:Hid (Below Z w B):=B2.out.trans (cn o3 a1);have N3:Hid (cr (Z+1) 83 t (dI X up V i o) B):=N2.out.onl o3 (by omega);have aI:=I.lt;clear R o3 B2 N2 c0 c1 c2 c3 c4 c5 cf a0 a1;by_cases au:(b9 s T).head?=some 58
      ·have hm:Calls prog 127 #[.pointer (some ⟨Z,0,none⟩),.int .u8 58] B fun r D=>r=.returned (.tuple #[])/\RD Z s (T+1) t 0 W Y D/\ca Z B D:=iQ Z s T t W Y 58 B (by omega) I au
       have bf:Hid ((b9 s T).head?=some 58):=au;clear au I;go_wp2_with fail
       refine hm.mono ?_;rintro y H ⟨rfl,G,o4⟩;have B4:Hid (Below Z w H):=B3.out.trans (cn o4 aI);have N4:Hid (cr (Z+1) 83 t (dI X up V i o) H):=N3.out.onl o4 (by omega);have R:=gU Z s (T+1) t W Y H (by omega) G;generalize aU:T+1+nb (b9 s (T+1))=p4 at R;have aF:Hid (T+1+nb (b9 s (T+1))=p4):=aU;have be:=G.lt;clear hm o4 B3 N3 G aU aI;go_wp2_with fail
       refine R.mono ?_;rintro y J ⟨rfl,L,P⟩;have S:Hid (Below Z w J):=B4.out.trans (cn P be);have N5:=N4.out.onl P (by omega);have ap:=hv Z s p4 (dI X up V i o) (some X.length) aa W J hs ⟨t,L,N5⟩ (by have:=an.out.1;have:=ao.out;have:=aC.out;have:=aF.out;omega) (jK hw up V (.obj o i)) (fun u hu=>by injection hu with hu;subst hu;rw[eA];omega);have ax:=oV (valL d) s p f M T p4 m (o.map (·.1)) aa ao.out HQ.out a9.out aC.out bf.out aF.out;clear R P B4 N4 L N5 be;cases hR:valL d (b9 s p4) p4 with
       | error q=>
         obtain⟨e,a⟩:=q;rw[hR]at ap ax;have HR:Hid (dn (valL d) (f+1) (o.map (·.1)) (b9 s p) p=.error (e,a)):=ax;clear hR ax;go_wp2_with fail
         refine ap.mono ?_;rintro y w6 ⟨rfl,⟨x,j,l,Q⟩,b6⟩;have B6:Hid (Below Z w w6):=S.out.trans b6;clear ap b6 S;have ag:=eI Z s j l e a Y w6 Q x;go_wp2_with fail
         refine ag.mono ?_;rintro y A ⟨rfl,F,o7⟩;have B7:Hid (Below Z w A):=B6.out.trans (cn o7 Q.lt);clear ag o7 B6 Q
         have ak:Calls prog 93 #[.pointer (some ⟨Z,0,none⟩),.int .u8 44] A fun r C=>r=.returned (.bool false)/\RD Z s j l e a Y C/\ca Z A C:=
          (lW Z s j l e a Y 44 A F).mono fun e2 C ⟨ac,n,hw⟩=>⟨by rw[ac,jM x],hw▸F.drewN n,hw▸(ce Z A).drewN n⟩
         go_wp2_with fail
         refine ak.mono ?_;rintro y E ⟨rfl,K,O⟩;have R8:Hid (RD Z s j l e a Y E):=K;have B8:Hid (Below Z w E):=B7.out.trans (cn O F.lt);clear ak O K B7 F;go_wp2_with fail
         refine⟨⟨B8.out,.inr (.inr ⟨false,rfl,e,a,j,l,x,R8.out,?_⟩)⟩,?_⟩
         ·rw[HF.out,HR.out];rfl
         ·rw[nj,HM.out];omega
       | ok q=>
         obtain⟨tt,n⟩:=q;rw[hR]at ap ax;have br:=jH d _ _ _ _ hR;have aJ:Hid _:=ax;clear hR ax;go_wp2_with fail
         refine ap.mono ?_;rintro y w6 ⟨rfl,⟨l,Q,n6⟩,b6⟩;rw[pr]at n6;have B6:Hid (Below Z w w6):=S.out.trans b6;have bi:=Q.lt;have N6:Hid (cr (Z+1) 83 l (dI X up V i (o++[(aa,tt)])) w6):=n6;have R:=gU Z s (p4+n) l W Y w6 (by omega) Q;generalize ba:p4+n+nb (b9 s (p4+n))=N at R aJ;have aQ:Hid (p4+n+nb (b9 s (p4+n))=N):=ba;clear ap b6 S Q n6 ba;go_wp2_with fail
         refine R.mono ?_;rintro y A ⟨rfl,F,o7⟩;have B7:Hid (Below Z w A):=B6.out.trans (cn o7 bi);have N7:Hid (cr (Z+1) 83 l (dI X up V i (o++[(aa,tt)])) A):=N6.out.onl o7 (by omega);have aX:=F.lt
         have hr:∀b,ft 0 (b9 s N) 44=b->Calls prog 93 #[.pointer (some ⟨Z,0,none⟩),.int .u8 44] A fun r C=>r=.returned (.bool b)/\RD Z s N l 0 W Y C/\ca Z A C:=
          fun b hb=>hb▸(lW Z s N l 0 W Y 44 A F).mono fun e C ⟨x,n,hw⟩=>⟨x,hw▸F.drewN n,hw▸(ce Z A).drewN n⟩
         clear R o7 B6 N6 F;by_cases al:(b9 s N).head?=some 44
         ·have ah:=hr true (gy al)
          have a5:=dr al;have bs:(N:Int)<=65536:=by omega
          have aq:Hid ((b9 s N).head?=some 44/\N<s.size):=⟨al,a5⟩;clear hr al a5;go_wp2_with fail
          refine ah.mono ?_;rintro y E ⟨rfl,K,O⟩;have B8:Hid (Below Z w E):=B7.out.trans (cn O aX);have N8:Hid (cr (Z+1) 83 l (dI X up V i (o++[(aa,tt)])) E):=N7.out.onl O (by omega);have bn:=K.lt;clear ah O B7 N7;obtain⟨c0,c1,c2,c3,c4,c5,cf⟩:=K.cell;have f1:=cf 1;go_wp2_with fail
          have r9:=K.setI (N+1);have o9:ca Z E (E.setCell ⟨Z,1,none⟩ (.int .i64 ((N+1:Nat):Int))):=ca.setCell (ce Z E) _ K;obtain⟨g1,g3,g4,g5⟩:=an.out;have e2:=ao.out;have e3:=aC.out;have e4:=aF.out;have e5:=aQ.out;refine⟨⟨B8.out.trans (cn o9 bn),.inl ⟨rfl,N+1,o++[(aa,tt)],f,by omega,by have:=aq.out.2;omega,?_,⟨l,r9,N8.out.onl o9 (by omega)⟩,?_,?_⟩⟩,?_⟩
          ·rw[cx]at g5 ⊢;have:=aq.out.2;omega
          ·rw[eA]at g1 ⊢;rw[mH];omega
          ·rw[HF.out,aJ.out]
           have hh:=aq.out.1;match aD:b9 s N with
           | []=>rw[aD]at hh;simp at hh
           | c::r=>
             rw[aD]at hh;have hh:c=44:=by simpa using hh
             simp only[hh,if_true];rw[Kj,JW,Ko];exact qO o (aa,tt) i p (N+1) (by omega) (by omega) _
          ·have bk:AM Z s (.bool true) (E.setCell ⟨Z,1,none⟩ (.int .i64 ((N:Int)+1)))=s.size+2-(N+1)+1:=ue Z s r9
           rw[bk,HM.out];have:=aq.out.2;omega
         ·have ah:=hr false (fa al)
          have aq:Hid ((b9 s N).head?≠some 44):=al;clear hr al;go_wp2_with fail
          refine ah.mono ?_;rintro y E ⟨rfl,K,O⟩;have B8:Hid (Below Z w E):=B7.out.trans (cn O aX);have N8:Hid (cr (Z+1) 83 l (dI X up V i (o++[(aa,tt)])) E):=N7.out.onl O (by omega);have R8:Hid (RD Z s N l 0 W Y E):=K;clear ah O B7 N7 K;go_wp2_with fail
          obtain⟨g1,g3,g4,g5⟩:=an.out;have e2:=ao.out;have e3:=aC.out;have e4:=aF.out;have e5:=aQ.out;refine⟨⟨B8.out,.inr (.inl ⟨rfl,N,o++[(aa,tt)],by omega,⟨l,R8.out,N8.out⟩,?_⟩)⟩,?_⟩
          ·rw[HF.out,aJ.out]
           have hh:=aq.out;match aD:b9 s N with
           | []=>simp[jI]
           | c::r=>
             rw[aD]at hh;have hh:c≠44:=by simpa using hh
             by_cases af:c=125
             ·simp[af,jI];omega
             ·simp[hh,af,jI]
          ·rw[nj,HM.out];omega
      ·have hm:Calls prog 127 #[.pointer (some ⟨Z,0,none⟩),.int .u8 58] B fun r D=>r=.returned (.tuple #[])/\RD Z s T t 2 T Y D/\ca Z B D:=mr Z s T t W Y 58 B I au
       have HR:Hid (dn (valL d) (f+1) (o.map (·.1)) (b9 s p) p=.error (2,T)):=pY _ _ _ _ _ _ _ _ _ ao.out HQ.out a9.out aC.out au;clear au I;go_wp2_with fail
       refine hm.mono ?_;rintro y H ⟨rfl,G,o4⟩;have B4:Hid (Below Z w H):=B3.out.trans (cn o4 aI);clear hm o4 B3;obtain⟨e,x,ad⟩:∃e,0<e/\e=2:=⟨2,by omega,rfl⟩;obtain⟨a,aj⟩:∃a,a=T:=⟨_,rfl⟩;obtain⟨j,aA⟩:∃j,j=T:=⟨_,rfl⟩;obtain⟨l,ai⟩:∃l,l=t:=⟨_,rfl⟩;have a6:RD Z s j l e a Y H:=by rw[aA,ai,ad,aj];exact G
       have a2:Hid (dn (valL d) (f+1) (o.map (·.1)) (b9 s p) p=.error (e,a)):=by rw[ad,aj];exact HR
       clear G HR ad aj aA ai;have G:=a6;have HR:=a2;clear a6 a2;have az:=eI Z s j l e a Y H G x;go_wp2_with fail
       refine az.mono ?_;rintro y J ⟨rfl,L,P⟩;have S:Hid (Below Z w J):=B4.out.trans (cn P G.lt);clear az P B4 G;have aB:=rD Z s j J e a Y l (X.length:Int) ⟨aa.toArray⟩ L x;go_wp2_with fail
       refine aB.mono ?_;rintro y w6 ⟨rfl,Q,o6⟩;have B6:Hid (Below Z w w6):=S.out.trans (cn o6 L.lt);clear aB o6 S L;have ag:=eI Z s j l e a Y w6 Q x;go_wp2_with fail
       refine ag.mono ?_;rintro y A ⟨rfl,F,o7⟩;have B7:Hid (Below Z w A):=B6.out.trans (cn o7 Q.lt);clear ag o7 B6 Q
       have ak:Calls prog 93 #[.pointer (some ⟨Z,0,none⟩),.int .u8 44] A fun r C=>r=.returned (.bool false)/\RD Z s j l e a Y C/\ca Z A C:=
        (lW Z s j l e a Y 44 A F).mono fun e2 C ⟨ac,n,hw⟩=>⟨by rw[ac,jM x],hw▸F.drewN n,hw▸(ce Z A).drewN n⟩
       go_wp2_with fail
       refine ak.mono ?_;rintro y E ⟨rfl,K,O⟩;have R8:Hid (RD Z s j l e a Y E):=K;have B8:Hid (Below Z w E):=B7.out.trans (cn O F.lt);clear ak O K B7 F;go_wp2_with fail
       refine⟨⟨B8.out,.inr (.inr ⟨false,rfl,e,a,j,l,x,R8.out,?_⟩)⟩,?_⟩
       ·rw[HF.out,HR.out];rfl
       ·rw[nj,HM.out];omega
  ·have HF:Hid (db (valL d) (b9 s i) i=if(b9 s p).head?=some 125 then .ok (.obj o i,p-i+1)else .error (2,p)):=ae
   have aE:Hid (cr (Z+1) 83 t (dI X up V i o) wr):=ar;have am:=ab.lt;have bp:Hid (i<=p):=aw;by_cases af:(b9 s p).head?=some 125
   ·have hm:Calls prog 127 #[.pointer (some ⟨Z,0,none⟩),.int .u8 125] wr fun r D=>r=.returned (.tuple #[])/\RD Z s (p+1) t 0 W Y D/\ca Z wr D:=iQ Z s p t W Y 125 wr (by omega) ab af
    have aH:Hid _:=af;clear ae ar af ab aw;go_wp2_with fail
    refine hm.mono ?_;rintro y J ⟨rfl,L,P⟩;have R5:Hid (RD Z s (p+1) t 0 W Y J):=L;have N5:Hid (cr (Z+1) 83 t (dI X up V i o) J):=aE.out.onl P (by omega);have S:Hid (Below Z w J):=ay.out.trans (cn P am);clear hm P L;go_wp2;go_end0
    refine⟨rfl,?_,S.out⟩;rw[HF.out,if_pos aH.out];show RN Z s (i+(p-i+1)) _ 0 W Y J
    rw[show i+(p-i+1)=p+1 by have:=bp.out;omega];exact⟨t,R5.out,N5.out⟩
   ·have hm:Calls prog 127 #[.pointer (some ⟨Z,0,none⟩),.int .u8 125] wr fun r D=>r=.returned (.tuple #[])/\RD Z s p t 2 p Y D/\ca Z wr D:=mr Z s p t W Y 125 wr ab af
    have aH:Hid (¬(b9 s p).head?=some 125):=af;clear ae ar af ab aw;go_wp2_with fail
    refine hm.mono ?_;rintro y J ⟨rfl,L,P⟩;have R5:Hid (RD Z s p t 2 p Y J):=L;have S:Hid (Below Z w J):=ay.out.trans (cn P am);clear hm P L;go_wp2;go_end0
    refine⟨rfl,?_,S.out⟩;rw[HF.out,if_neg aH.out];exact⟨by omega,_,_,R5.out⟩
  ·have HF:Hid (db (valL d) (b9 s i) i=.error (e,a)):=ae
   have hm:Calls prog 127 #[.pointer (some ⟨Z,0,none⟩),.int .u8 125] wr fun r D=>r=.returned (.tuple #[])/\∃n,D=wr.drewN n:=jy Z s j t e a Y 125 wr ab x
   have bm:((e:Int)==0)=false:=by simp;omega
   obtain⟨c0,c1,c2,c3,c4,c5,cf⟩:=ab.cell;have am:=ab.lt;clear ae;cases b
   all_goals
    go_wp2_with fail
    refine hm.mono ?_;rintro y J ⟨rfl,n,aP⟩;rw[aP];clear aP J;go_wp2;go_end0
    refine⟨rfl,?_,ay.out.trans (cn ((ce Z wr).drewN n) am)⟩;rw[HF.out];exact⟨x,j,t,ab⟩
end
section
variable (Y:Nat) (s:dv) (i:Nat) (X:oa) (up:Option Nat) (V:dj) (W Z:Nat) (w:Wd)
theorem Bd(d:Nat)(hv:tL d (Z+1))(af:Z<32)(hs:s.size<=65536)(h:RN Y s i X 0 W Z w)(Q:i<s.size)(J:s[i]=91)(hl:X.length<=i)(hw:iz X)(aa:∀u,up=some u->u<X.length):Calls prog 65 #[.pointer (some ⟨Y,0,none⟩),.int .i64 (om up),.string ⟨V.toArray⟩] w fun r B=>r=.returned (.tuple #[])/\VP Y s i X up V W Z (valL (d+1) (b9 s i) i) B/\Below Y w B:=by
 obtain⟨U,D,h2⟩:=h;have HR:Hid (valL (d+1) (b9 s i) i=dM (valL d) (b9 s i) i):=by
  show valL (d+1) (b9 s i) i=dM (valL d) (b9 s i) i
  rw[cg s i Q,cG];simp[J,d8];all_goals rfl
 have T:=fun B (h':RN Y s i X 0 W (Z+1) B)=>Gm Y s i X up V W (Z+1) B d hv hs h' Q J hl hw aa
 have al:(i:Int)<(s.size:Int):=by omega
 have aj:decide ((s.size:Int)<=(i:Int))=false:=by simp;omega
 have ah:((s[i].toNat:Int)==91)=true:=by rw[J];rfl
 have ae:=gY 91
 have ai:decide ((32:Int)<=(Z:Int))=false:=by simp;omega
 have ak:(Z:Int)<=32:=by omega
 have ag:=D.lt;have HN:Hid (cr (Y+1) 83 U X w):=h2;clear h2 hl aa af;obtain⟨p,k,l,m,g,f,b⟩:=D.cell;go_enter func65,ntmps65;go_wp2_with fail
 go_quiet (fail);have E:=D.drewN nq;have G:Hid _:=ca.drewN (ce Y w) nq;generalize w.drewN nq=S at E G;clear p k l m g f b nq D;obtain⟨p,k,l,m,g,f,b⟩:=E.cell;go_wp2_with fail
 go_quiet (fail);have z:=E.drewN nq;have L:Hid _:=ca.drewN G.out nq;generalize S.drewN nq=R at z L;clear p k l m g f b nq E G S;go_wp2_with fail
 refine(ae _).mono ?_;rintro e ad ⟨rfl,ab⟩;rw[ab];clear ab ad;obtain⟨p,k,l,m,g,f,b⟩:=z.cell;have F:=b 5;have h5:=z.setD (Z+1);have N:ca Y w (R.setCell ⟨Y,5,none⟩ (.int .i64 ((Z+1:Nat):Int))):=ca.setCell L.out _ z;have K:=T _ ⟨U,h5,HN.out.onl N (by omega)⟩;have M:Hid (ca Y w (R.setCell ⟨Y,5,none⟩ (.int .i64 ((Z+1:Nat):Int)))):=N;rw[show((Z+1:Nat):Int)=(Z:Int)+1 by omega]at K M;clear h5 N T;go_wp2_with fail
 refine K.mono ?_;rintro e o ⟨rfl,C,P⟩;have B6:Hid (Below Y w o):=(cn M.out ag).trans P;clear K P M p k l m g f b F z L;cases x:dM (valL d) (b9 s i) i with
 | ok q=>
   obtain⟨t,n⟩:=q;rw[x]at C;have I:Hid _:=x;clear x;obtain⟨H,c,O⟩:=C;obtain⟨p,k,l,m,g,f,b⟩:=c.cell;have F:=b 5;rw[show((Z+1:Nat):Int)=(Z:Int)+1 by omega]at f;have A:=c.setD Z;have y:ca Y o (o.setCell ⟨Y,5,none⟩ (.int .i64 (Z:Int))):=ca.setCell (ce Y o) _ c;have n7:=O.onl y (by omega);have v:Hid _:=And.intro A (And.intro n7 (cn y c.lt));have ac:(Z:Int)+1-1=(Z:Int):=by omega
   clear A y n7 O;go_wp2;go_end0
   refine⟨rfl,?_,B6.out.trans v.out.2.2⟩;rw[HR.out,I.out];exact⟨H,v.out.1,v.out.2.1⟩
 | error q=>
   obtain⟨er,a⟩:=q;rw[x]at C;have I:Hid _:=x;clear x;obtain⟨he,j,H,c⟩:=C;obtain⟨p,k,l,m,g,f,b⟩:=c.cell;have F:=b 5;rw[show((Z+1:Nat):Int)=(Z:Int)+1 by omega]at f;have A:=c.setD Z;have y:ca Y o (o.setCell ⟨Y,5,none⟩ (.int .i64 (Z:Int))):=ca.setCell (ce Y o) _ c;have v:Hid _:=And.intro A (cn y c.lt);have ac:(Z:Int)+1-1=(Z:Int):=by omega
   clear A y;go_wp2;go_end0
   refine⟨rfl,?_,B6.out.trans v.out.2⟩;rw[HR.out,I.out];exact⟨he,j,H,v.out.1⟩
theorem Bo(d:Nat)(hv:tL d (Z+1))(af:Z<32)(hs:s.size<=65536)(h:RN Y s i X 0 W Z w)(Q:i<s.size)(J:s[i]=123)(hl:X.length<=i)(hw:iz X)(aa:∀u,up=some u->u<X.length):Calls prog 65 #[.pointer (some ⟨Y,0,none⟩),.int .i64 (om up),.string ⟨V.toArray⟩] w fun r B=>r=.returned (.tuple #[])/\VP Y s i X up V W Z (valL (d+1) (b9 s i) i) B/\Below Y w B:=by
 obtain⟨U,D,h2⟩:=h;have HR:Hid (valL (d+1) (b9 s i) i=db (valL d) (b9 s i) i):=by
  show valL (d+1) (b9 s i) i=db (valL d) (b9 s i) i
  rw[cg s i Q,cG];simp[J,d8];all_goals rfl
 have T:=fun B (h':RN Y s i X 0 W (Z+1) B)=>E4 Y s i X up V W (Z+1) B d hv hs h' Q J hl hw aa
 have al:(i:Int)<(s.size:Int):=by omega
 have aj:decide ((s.size:Int)<=(i:Int))=false:=by simp;omega
 have ah:((s[i].toNat:Int)==123)=true:=by rw[J];rfl
 have ae:=gY 123
 have ai:decide ((32:Int)<=(Z:Int))=false:=by simp;omega
 have ak:(Z:Int)<=32:=by omega
 have ag:=D.lt;have HN:Hid (cr (Y+1) 83 U X w):=h2;clear h2 hl aa af;obtain⟨p,k,l,m,g,f,b⟩:=D.cell;go_enter func65,ntmps65;go_wp2_with fail
 go_quiet (fail);have E:=D.drewN nq;have G:Hid _:=ca.drewN (ce Y w) nq;generalize w.drewN nq=S at E G;clear p k l m g f b nq D;obtain⟨p,k,l,m,g,f,b⟩:=E.cell;go_wp2_with fail
 go_quiet (fail);have z:=E.drewN nq;have L:Hid _:=ca.drewN G.out nq;generalize S.drewN nq=R at z L;clear p k l m g f b nq E G S;go_wp2_with fail
 refine(ae _).mono ?_;rintro e ad ⟨rfl,ab⟩;rw[ab];clear ab ad;obtain⟨p,k,l,m,g,f,b⟩:=z.cell;have F:=b 5;have h5:=z.setD (Z+1);have N:ca Y w (R.setCell ⟨Y,5,none⟩ (.int .i64 ((Z+1:Nat):Int))):=ca.setCell L.out _ z;have K:=T _ ⟨U,h5,HN.out.onl N (by omega)⟩;have M:Hid (ca Y w (R.setCell ⟨Y,5,none⟩ (.int .i64 ((Z+1:Nat):Int)))):=N;rw[show((Z+1:Nat):Int)=(Z:Int)+1 by omega]at K M;clear h5 N T;go_wp2_with fail
 refine K.mono ?_;rintro e o ⟨rfl,C,P⟩;have B6:Hid (Below Y w o):=(cn M.out ag).trans P;clear K P M p k l m g f b F z L;cases x:db (valL d) (b9 s i) i with
 | ok q=>
   obtain⟨t,n⟩:=q;rw[x]at C;have I:Hid _:=x;clear x;obtain⟨H,c,O⟩:=C;obtain⟨p,k,l,m,g,f,b⟩:=c.cell;have F:=b 5;rw[show((Z+1:Nat):Int)=(Z:Int)+1 by omega]at f;have A:=c.setD Z;have y:ca Y o (o.setCell ⟨Y,5,none⟩ (.int .i64 (Z:Int))):=ca.setCell (ce Y o) _ c;have n7:=O.onl y (by omega);have v:Hid _:=And.intro A (And.intro n7 (cn y c.lt));have ac:(Z:Int)+1-1=(Z:Int):=by omega
   clear A y n7 O;go_wp2;go_end0
   refine⟨rfl,?_,B6.out.trans v.out.2.2⟩;rw[HR.out,I.out];exact⟨H,v.out.1,v.out.2.1⟩
 | error q=>
   obtain⟨er,a⟩:=q;rw[x]at C;have I:Hid _:=x;clear x;obtain⟨he,j,H,c⟩:=C;obtain⟨p,k,l,m,g,f,b⟩:=c.cell;have F:=b 5;rw[show((Z+1:Nat):Int)=(Z:Int)+1 by omega]at f;have A:=c.setD Z;have y:ca Y o (o.setCell ⟨Y,5,none⟩ (.int .i64 (Z:Int))):=ca.setCell (ce Y o) _ c;have v:Hid _:=And.intro A (cn y c.lt);have ac:(Z:Int)+1-1=(Z:Int):=by omega
   clear A y;go_wp2;go_end0
   refine⟨rfl,?_,B6.out.trans v.out.2⟩;rw[HR.out,I.out];exact⟨he,j,H,v.out.1⟩
end
theorem Fy:∀(d:Nat),d<=32->tL d (32-d):=by
 intro d;induction d with
 | zero=>
   intro _ b s i a up f g w c h q hw k;by_cases j:i<s.size
   ·have l:a.length<=1000000:=by omega
    by_cases p:s[i]=34
    ·exact tc b s i a up f g 32 w c h j p l hw k 0
    by_cases n:s[i]=45
    ·exact pB b s i a up f g 32 w c h j n l hw k 0
    cases o:d8 s[i]with
    | true=>exact pS b s i a up f g 32 w c h j n o l hw k 0
    | false=>
      by_cases m:s[i]=116\/s[i]=102\/s[i]=110
      ·exact ry b s i a up f g 32 w c h j m l hw k 0
      by_cases r:s[i]=91\/s[i]=123
      ·exact x9 b s i a up f g w c h j r
      ·exact pA b s i a up f g 32 w c h j p n o (fun e=>m (.inl e)) (fun e=>m (.inr (.inl e))) (fun e=>m (.inr (.inr e))) (fun e=>r (.inl e)) (fun e=>r (.inr e)) 0
   ·exact tm b s i a up f g 32 w c h (by omega) 0
 | succ d ih=>
   intro x b s i a up f g w c h q hw k;have u:tL d (32-(d+1)+1):=by rw[show 32-(d+1)+1=32-d by omega];exact ih (by omega)
   by_cases j:i<s.size
   ·have l:a.length<=1000000:=by omega
    by_cases p:s[i]=34
    ·exact tc b s i a up f g _ w c h j p l hw k _
    by_cases n:s[i]=45
    ·exact pB b s i a up f g _ w c h j n l hw k _
    cases o:d8 s[i]with
    | true=>exact pS b s i a up f g _ w c h j n o l hw k _
    | false=>
      by_cases m:s[i]=116\/s[i]=102\/s[i]=110
      ·exact ry b s i a up f g _ w c h j m l hw k _
      by_cases v:s[i]=91
      ·exact Bd b s i a up f g _ w d u (by omega) c h j v q hw k
      by_cases t:s[i]=123
      ·exact Bo b s i a up f g _ w d u (by omega) c h j t q hw k
      ·exact pA b s i a up f g _ w c h j p n o (fun e=>m (.inl e)) (fun e=>m (.inr (.inl e))) (fun e=>m (.inr (.inr e))) v t _
   ·exact tm b s i a up f g _ w c h (by omega) _
def JP(B:Nat)(R:Except (Nat×Nat) JT)(r:Ending)(w':Wd):Prop:=
 match R with
 | .ok t=>∃v,r=.returned (.tuple #[v,.int .i64 0,.int .i64 0])/\cr B 83 v (flat 0 [] t) w'
 | .error (e,a)=>r=.returned (.tuple #[.slice none 0 0,.int .i64 (e:Int),.int .i64 (a:Int)])/\0<e
theorem CF(s:dv)(w:Wd)(ae:s.size<=140737488351232):Calls prog 31 #[.string s] w fun r t=>JP (w.heap.size+1) (cB s.data.toList) r t/\Below w.heap.size w t:=by
 by_cases T:s.size<=65536
 ·have ac:decide ((65536:Int)<(s.size:Int))=false:=by simp;omega
  have J:Hid _:=T;clear T;go_enter func31,ntmps31;go_wp2_with fail
  have D:w.heap.size<(w.alloc (.cells #[.string s,.int .i64 0,.slice none 0 0,.int .i64 0,.int .i64 0,.int .i64 0] 94)).heap.size:=by simp
  have H:RD w.heap.size s 0 (.slice none 0 0) 0 0 0 (w.alloc (.cells #[.string s,.int .i64 0,.slice none 0 0,.int .i64 0,.int .i64 0,.int .i64 0] 94)):=JK w _;have F:Hid (Below w.heap.size w (w.alloc (.cells #[.string s,.int .i64 0,.slice none 0 0,.int .i64 0,.int .i64 0,.int .i64 0] 94))):=cK (cF w) _;generalize w.alloc (.cells #[.string s,.int .i64 0,.slice none 0 0,.int .i64 0,.int .i64 0,.int .i64 0] 94)=w0 at H F D;generalize aa:w.heap.size=b at H F D;have B:Hid _:=aa;have c:=gU b s 0 (.slice none 0 0) 0 0 w0 (by have:=J.out;omega) H;rw[J3]at c;generalize hp:nb (b9 s 0)=p at c;have G:Hid _:=tJ s J.out p hp;clear aa hp;refine c.mono ?_;rintro e w1 ⟨rfl,Y,Z⟩;have E:Hid _:=F.out.trans (cn Z D);have l:=Fy 32 (JQ _) b s p [] none [] 0 w1 J.out ⟨_,Y,cr.nil _ _ _⟩ (KI _) (fun n hn=>by simp at hn) (fun u hu=>by cases hu);clear c Z F H D Y;cases f:valL 32 (b9 s p) p with
  | error q=>
    obtain⟨e,a⟩:=q;rw[f]at l;have m:Hid (cB s.data.toList=.error (e,a)):=by have:=G.out;rw[f]at this;exact this
    clear f G;go_wp2_with fail
    refine l.mono ?_;rintro A x ⟨rfl,⟨I,j,g,h⟩,z⟩;have C:Hid _:=E.out.trans z;have c:=eI b s j g e a _ x h I;have R:=h.lt;clear l z E h;go_wp2_with fail
    refine c.mono ?_;rintro A i ⟨rfl,k,o⟩;have y:Hid _:=C.out.trans (cn o R);clear c o C;obtain⟨W,P,Q,U,O,X,N⟩:=k.cell
    have v:=lj b s j g e a _ 2 j i k I;by_cases V:j<s.size
    ·have K:(j:Int)<(s.size:Int):=by omega
     go_wp2_with fail
     refine v.mono ?_;rintro A L ⟨rfl,ab⟩;rw[ab];clear ab L v;go_wp2_with fail
     go_quiet (fail);go_wp2;go_ret3
     rw[m.out];exact⟨⟨rfl,I⟩,by rw[B.out];exact em y.out nq⟩
    ·have K:decide ((j:Int)<(s.size:Int))=false:=by simp;omega
     go_wp2_with fail
     go_quiet (fail);go_wp2;go_ret3
     rw[m.out];exact⟨⟨rfl,I⟩,by rw[B.out];exact em y.out nq⟩
  | ok q=>
    obtain⟨M,n⟩:=q;rw[f]at l;have m:Hid (cB s.data.toList=if p+n+nb (b9 s (p+n))<s.size then .error (2,p+n+nb (b9 s (p+n)))else .ok M):=by have:=G.out;rw[f]at this;exact this
    clear f G;go_wp2_with fail
    refine l.mono ?_;rintro A x ⟨rfl,⟨g,h,n2⟩,z⟩;have C:Hid (Below b w x):=E.out.trans z;have c:=gU b s (p+n) g 0 _ x (by have:=J.out;omega) h;generalize ad:p+n+nb (b9 s (p+n))=d at c m;have R:=h.lt;have N2:Hid (cr (b+1) 83 g (flat 0 [] M) x):=n2;clear l z E h n2 ad;go_wp2_with fail
    refine c.mono ?_;rintro A i ⟨rfl,k,o⟩;have y:Hid (Below b w i):=C.out.trans (cn o R);have N3:Hid (cr (b+1) 83 g (flat 0 [] M) i):=N2.out.onl o (by omega);clear c o C N2;obtain⟨W,P,Q,U,O,X,N⟩:=k.cell;by_cases V:d<s.size
    ·have K:(d:Int)<(s.size:Int):=by omega
     have v:Calls prog 66 #[.pointer (some ⟨b,0,none⟩),.int .i64 2,.int .i64 (d:Int)] i fun r t=>r=.returned (.tuple #[])/\RD b s d g 2 d (32-32) t/\ca b i t:=dh b s d g 0 _ 2 d i k
     have S:Hid (d<s.size):=V;go_wp2_with fail
     refine v.mono ?_;rintro A L ⟨rfl,r4,o4⟩;have B4:Hid (Below b w L):=y.out.trans (cn o4 k.lt);clear v o4 W P Q U O X N k;obtain⟨W,P,Q,U,O,X,N⟩:=r4.cell;go_wp2_with fail
     go_quiet (fail);go_wp2;go_ret3
     rw[m.out,if_pos S.out];exact⟨⟨rfl,by omega⟩,by rw[B.out];exact em B4.out nq⟩
    ·have K:decide ((d:Int)<(s.size:Int))=false:=by simp;omega
     have S:Hid (¬d<s.size):=V;go_wp2;go_ret3
     rw[m.out,if_neg S.out];exact⟨⟨g,rfl,by rw[B.out];exact N3.out⟩,by rw[B.out];exact y.out⟩
 ·have ac:(65536:Int)<(s.size:Int):=by omega
  have f:cB s.data.toList=.error (1,0):=by unfold cB;rw[if_pos (by simp;omega)]
  rw[f];clear f T;go_enter func31,ntmps31;go_wp2;go_ret3
  exact⟨⟨rfl,by omega⟩,cF _⟩
end Go.Proofs.YtihboehpeehlmaaGreatDoor
