import Derived.Test.YtihboehpeehlmaaGreatDoorCInt
set_option linter.unusedVariables false
set_option maxHeartbeats 4000000
set_option maxRecDepth 4000
namespace Go.Proofs.YtihboehpeehlmaaGreatDoor
open Tryz Go.RowKit
theorem jr(a:oa)(x:Nd)(f:Nd->Nd):(a++[x]).modify a.length f=a++[f x]:=lO a x [] f a.length rfl
theorem wU{l:dj}{e o:Nat}(h:di l=.error (e,o)):0<e:=by
 unfold di at h;dsimp only at h;repeat' split at h
 all_goals first|(injection h with h;injection h with h _;omega)|cases h
theorem Cs{l:dj}{i e o:Nat}(h:df l i=.error (e,o)):0<e:=by
 unfold df at h;dsimp only at h;split at h
 ·cases h
 ·split at h
  ·cases h
  ·split at h
   ·cases h
   ·injection h with h;injection h with h _;omega
theorem yc{l:dj}{i n:Nat}{t:JT}(h:df l i=.ok (t,n))(b:Nat)(a:dj):flat b a t=[⟨knd t,a,[],zx t,[],i⟩]:=by
 unfold df at h;dsimp only at h;split at h
 ·injection h with h;injection h with h _;subst h;rfl
 ·split at h
  ·injection h with h;injection h with h _;subst h;rfl
  ·split at h
   ·injection h with h;injection h with h _;subst h;rfl
   ·cases h
section
variable (Y:Nat) (s:dv) (i:Nat) (Z:oa) (X:dj) (W g cap:Nat) (kvs:rt) (w:Wd)
def fj(X:dj)(i:Nat):Nd:=⟨0,X,[],0,[],i⟩
theorem lh{t:JT}{n:Nat}{b:Wd}{c:Va}{j:Nat}{K:Nat}{f:Nd->Nd}(h:CN Y s (i+n) (Z++[fj X i]) W (.slice (some ⟨g,0,none⟩) (Z.length+1) cap) kvs b)(p:cZ Y (own (.slice (some ⟨g,0,none⟩) (Z.length+1) cap) kvs) w (own (.slice (some ⟨g,0,none⟩) (Z.length+1) cap) kvs) b)(q:∀n a,cz (f n) a=(cz n a).set j c)(l:∀n,(f n).kids=n.kids)(k:j<6)(r:flat Z.length X t=[f {(fj X i)with kind:=K}]):
 VQ Y s i Z X W (own (.slice (some ⟨g,0,none⟩) (Z.length+1) cap) kvs) w (.tuple #[]) (.returned (.tuple #[])) ((b.setCell ⟨g,Z.length*6+0,none⟩ (.int .i64 (K:Int))).setCell ⟨g,Z.length*6+j,none⟩ c) (.ok (t,n)):=by
 obtain⟨e,o⟩:=h.put (gL:=g) rfl (fun n=>{n with kind:=K}) 0 (.int .i64 (K:Int)) (fun n a=>rfl) (fun n=>rfl) (by omega) Z.length (by simp);obtain⟨d,m⟩:=e.put (gL:=g) rfl f j c q l k Z.length (by simp);rw[jr,jr,<-r]at d;exact⟨rfl,.slice (some ⟨g,0,none⟩) (Z.length+1) cap,kvs,d,(p.trans o).trans m⟩
set_option maxHeartbeats 4000000 in
theorem FV(hs:s.size<=65536)(O:9<=Y)(h:CN Y s i (Z++[fj X i]) W (.slice (some ⟨g,0,none⟩) (Z.length+1) cap) kvs w)(S:GV w)(hi:i<=s.size):Calls prog 191 #[.pointer (some ⟨Y,0,none⟩),.pointer (some ⟨g,Z.length*6,none⟩)] w fun r D=>
 VQ Y s i Z X W (own (.slice (some ⟨g,0,none⟩) (Z.length+1) cap) kvs) w (.tuple #[]) r D (ev (b9 s i) i):=by
 have C:=ji Y s i _ W w h.cd hi;have am:kvs.length=Z.length+1:=by have:=h.nk.1;simpa using this
 obtain⟨kv,aj⟩:∃kv,kvs[Z.length]?=some kv:=⟨_,JF (by omega)⟩;have U:∀D,NK (Y+1) 150 (.slice (some ⟨g,0,none⟩) (Z.length+1) cap) kvs (Z++[fj X i]) D->∀k x,k<6->(cz (fj X i) kv)[k]?=some x->D.cell? ⟨g,Z.length*6+k,none⟩=some x/\D.frozen? ⟨g,Z.length*6+k,none⟩=false:=fun D hw k x hk hx=>hw.at (g:=g) rfl (u:=Z.length) (by simp) aj hk hx
 have T:=h.cd.lt;by_cases G:(b9 s i).head?=some 34
 ·have I:=dr G
  have hb:(((pk (b9 s i)).toNat:Int)==34)=true:=by rw[fU G];rfl
  have ag:s[i]=34:=by rw[cg s i I]at G;simpa using G
  have d:ev (b9 s i) i=(match da (b9 s i)with| .error o=>.error (2,i+o)| .ok (t,n)=>.ok (.str t i,n)):=by
   rw[cg s i I,ev,if_pos ag];rfl
  have p:=fun D R g'=>DN Y s i (.slice (some ⟨g,0,none⟩) (Z.length+1) cap) W D (by omega) O R g' hi
  clear G ag;cases z:da (b9 s i)with
  | error o=>
    rw[z]at p d;have F:Hid _:=d;clear d z;go_enter func191,MT;go_wp2_with fail
    refine C.mono ?_;rintro e v ⟨rfl,E,b⟩;have J:=S.onl b O T;have y:Hid _:=b;clear b C;go_wp2_with fail
    refine(p v E J).mono ?_;rintro e l ⟨⟨rfl,j,Q⟩,A⟩;have B:Hid (ca Y w l):=y.out.trans A;clear A p y;go_wp2;refine⟨rfl,?_⟩;rw[F.out];exact⟨by omega,rfl,(B.out.chg _).drop⟩
  | ok q=>
    obtain⟨tt,n⟩:=q;rw[z]at p d;have F:Hid (ev (b9 s i) i=.ok (.str tt i,n)):=d;clear d z;go_enter func191,MT;go_wp2_with fail
    refine C.mono ?_;rintro e v ⟨rfl,E,b⟩;have J:GV v:=S.onl b O T;have y:Hid (ca Y w v):=b;clear b C;go_wp2_with fail
    refine(p v E J).mono ?_;rintro e l ⟨⟨rfl,Q⟩,A⟩;have B:Hid (ca Y w l):=y.out.trans A;have H:Hid (CN Y s (i+n) (Z++[fj X i]) W (.slice (some ⟨g,0,none⟩) (Z.length+1) cap) kvs l):=h.onl Q B.out;clear A p y;obtain⟨c0,V⟩:=U l H.out.nk 0 _ (by omega) rfl;obtain⟨c2,f2⟩:=U l H.out.nk 2 _ (by omega) rfl;rw[Ku]at c0 V;go_wp2;go_end0
    rw[F.out];exact lh Y s i Z X W g cap kvs w (K:=3) (f:=fun n=>{n with text:=tt}) H.out (B.out.chg _) (fun n kv=>rfl) (fun n=>rfl) (by omega) rfl
 ·have ak:(((pk (b9 s i)).toNat:Int)==34)=false:=by
   rw[JJ];intro e;exact kV (by decide) G (K9.1 (by simpa using by omega))
  by_cases M:(b9 s i).head?=some 45
  ·have I:=dr M
   have ai:(((pk (b9 s i)).toNat:Int)==45)=true:=by rw[fU M];rfl
   have ae:s[i]=45:=by rw[cg s i I]at M;simpa using M
   have d:ev (b9 s i) i=(match di (b9 s i)with| .error (e,o)=>.error (e,i+o)| .ok (n,k)=>.ok (.int n i,k)):=by
    rw[cg s i I,ev,if_neg (by rw[ae];decide),if_pos (.inl ae)];rfl
   have p:=fun D R g'=>GT Y s i (.slice (some ⟨g,0,none⟩) (Z.length+1) cap) W D (by omega) O R g' I
   clear G M ae;cases z:di (b9 s i)with
   | error q=>
     obtain⟨e,o⟩:=q;rw[z]at p d;have F:Hid (ev (b9 s i) i=.error (e,i+o)):=d;have he:0<e:=wU z;clear d z;go_enter func191,MT;go_wp2_with fail
     refine C.mono ?_;rintro e v ⟨rfl,E,b⟩;have J:GV v:=S.onl b O T;have y:Hid (ca Y w v):=b;clear b C;go_wp2_with fail
     refine(p _ E J).mono ?_;rintro r l ⟨⟨rfl,j,Q⟩,A⟩;have B:Hid (ca Y w l):=y.out.trans A;clear A p y;go_wp2;refine⟨rfl,?_⟩;rw[F.out];exact⟨he,rfl,(B.out.chg _).drop⟩
   | ok q=>
     obtain⟨m,n⟩:=q;rw[z]at p d;have F:Hid (ev (b9 s i) i=.ok (.int m i,n)):=d;clear d z;go_enter func191,MT;go_wp2_with fail
     refine C.mono ?_;rintro e v ⟨rfl,E,b⟩;have J:GV v:=S.onl b O T;have y:Hid (ca Y w v):=b;clear b C;go_wp2_with fail
     refine(p _ E J).mono ?_;rintro r l ⟨⟨rfl,Q⟩,A⟩;have B:Hid (ca Y w l):=y.out.trans A;have H:Hid (CN Y s (i+n) (Z++[fj X i]) W (.slice (some ⟨g,0,none⟩) (Z.length+1) cap) kvs l):=h.onl Q B.out;clear A p y;obtain⟨c0,V⟩:=U l H.out.nk 0 _ (by omega) rfl;obtain⟨c2,f2⟩:=U l H.out.nk 3 _ (by omega) rfl;rw[Ku]at c0 V;go_wp2;go_end0
     rw[F.out];exact lh Y s i Z X W g cap kvs w (K:=2) (f:=fun n=>{n with num:=m}) H.out (B.out.chg _) (fun n kv=>rfl) (fun n=>rfl) (by omega) rfl
  ·have ai:(((pk (b9 s i)).toNat:Int)==45)=false:=by
    rw[JJ];intro e;exact kV (by decide) M (K9.1 (by simpa using by omega))
   have N:=fun D=>zq (pk (b9 s i)) D
   by_cases L:d8 (pk (b9 s i))=true
   ·have I:i<s.size:=by
     by_cases I:i<s.size
     ·exact I
     ·rw[cU s i (by omega)]at L;exact absurd L (by decide)
    rw[L]at N;have d:ev (b9 s i) i=(match di (b9 s i)with| .error (e,o)=>.error (e,i+o)| .ok (n,k)=>.ok (.int n i,k)):=by
     rw[cg s i I]at G L ⊢;rw[ev,if_neg (by simpa using G),if_pos (.inr L)];rfl
    have p:=fun D R g'=>GT Y s i (.slice (some ⟨g,0,none⟩) (Z.length+1) cap) W D (by omega) O R g' I
    clear G M L;cases z:di (b9 s i)with
    | error q=>
      obtain⟨e,o⟩:=q;rw[z]at p d;have F:Hid (ev (b9 s i) i=.error (e,i+o)):=d;have he:0<e:=wU z;clear d z;go_enter func191,MT;go_wp2_with fail
      refine C.mono ?_;rintro e v ⟨rfl,E,b⟩;have J:GV v:=S.onl b O T;have y:Hid (ca Y w v):=b;clear b C;go_wp2_with fail
      refine(N _).mono ?_;rintro e aa ⟨rfl,rfl⟩;clear N;go_wp2_with fail
      refine(p _ E J).mono ?_;rintro r l ⟨⟨rfl,j,Q⟩,A⟩;have B:Hid (ca Y w l):=y.out.trans A;clear A p y;go_wp2;refine⟨rfl,?_⟩;rw[F.out];exact⟨he,rfl,(B.out.chg _).drop⟩
    | ok q=>
      obtain⟨m,n⟩:=q;rw[z]at p d;have F:Hid (ev (b9 s i) i=.ok (.int m i,n)):=d;clear d z;go_enter func191,MT;go_wp2_with fail
      refine C.mono ?_;rintro e v ⟨rfl,E,b⟩;have J:GV v:=S.onl b O T;have y:Hid (ca Y w v):=b;clear b C;go_wp2_with fail
      refine(N _).mono ?_;rintro e aa ⟨rfl,rfl⟩;clear N;go_wp2_with fail
      refine(p _ E J).mono ?_;rintro r l ⟨⟨rfl,Q⟩,A⟩;have B:Hid (ca Y w l):=y.out.trans A;have H:Hid (CN Y s (i+n) (Z++[fj X i]) W (.slice (some ⟨g,0,none⟩) (Z.length+1) cap) kvs l):=h.onl Q B.out;clear A p y;obtain⟨c0,V⟩:=U l H.out.nk 0 _ (by omega) rfl;obtain⟨c2,f2⟩:=U l H.out.nk 3 _ (by omega) rfl;rw[Ku]at c0 V;go_wp2;go_end0
      rw[F.out];exact lh Y s i Z X W g cap kvs w (K:=2) (f:=fun n=>{n with num:=m}) H.out (B.out.chg _) (fun n kv=>rfl) (fun n=>rfl) (by omega) rfl
   ·have ab:d8 (pk (b9 s i))=false:=by simpa using L
    rw[ab]at N;by_cases P:(b9 s i).head?=some 116\/(b9 s i).head?=some 102\/(b9 s i).head?=some 110
    ·have I:i<s.size:=by rcases P with h|h|h<;>exact dr h
     have d:ev (b9 s i) i=df (b9 s i) i:=by
      rw[cg s i I]at G M P L ⊢;have ad:s[i]≠34:=by simpa using G
      have ac:s[i]≠45:=by simpa using M
      have nD:¬d8 s[i]=true:=L;have nT:s[i]=116\/s[i]=102\/s[i]=110:=by simpa using P
      rw[ev,if_neg ad,if_neg (by rintro(h|h);exact ac h;exact nD h),if_pos nT]
     have p:=fun D R=>Ix Y s i (.slice (some ⟨g,0,none⟩) (Z.length+1) cap) W D (by omega) R hi
     have ah:Hid ((((pk (b9 s i)).toNat:Int)==116)=true\/((((pk (b9 s i)).toNat:Int)==116)=false/\(((pk (b9 s i)).toNat:Int)==102)=true)\/((((pk (b9 s i)).toNat:Int)==116)=false/\(((pk (b9 s i)).toNat:Int)==102)=false/\(((pk (b9 s i)).toNat:Int)==110)=true)):=by
      rcases P with h|h|h
      ·exact .inl (by rw[fU h];rfl)
      ·exact .inr (.inl ⟨by rw[fU h];rfl,by rw[fU h];rfl⟩)
      ·exact .inr (.inr ⟨by rw[fU h];rfl,by rw[fU h];rfl,by rw[fU h];rfl⟩)
     clear G M P L ab;cases z:df (b9 s i) i with
     | error q=>
       obtain⟨e,a⟩:=q;rw[z]at p d;have F:Hid (ev (b9 s i) i=.error (e,a)):=d;have he:0<e:=Cs z;clear d z;rcases ah.out with k1|⟨k1,k2⟩|⟨k1,k2,k3⟩
       all_goals
        go_enter func191,MT;go_wp2_with fail
        refine C.mono ?_;rintro e v ⟨rfl,E,b⟩;have J:GV v:=S.onl b O T;have y:Hid (ca Y w v):=b;clear b C;go_wp2_with fail
        refine(N _).mono ?_;rintro e aa ⟨rfl,rfl⟩;clear N;go_wp2_with fail
        refine(p _ E).mono ?_;rintro r l ⟨⟨rfl,j,Q⟩,A⟩;have B:Hid (ca Y w l):=y.out.trans A;clear A p y;go_wp2;refine⟨rfl,?_⟩;rw[F.out];exact⟨he,rfl,(B.out.chg _).drop⟩
     | ok q=>
       obtain⟨t,n⟩:=q;rw[z]at p d;have F:Hid (ev (b9 s i) i=.ok (t,n)):=d;have HW:Hid (flat Z.length X t=[⟨knd t,X,[],zx t,[],i⟩]):=yc z Z.length X;clear d z;rcases ah.out with k1|⟨k1,k2⟩|⟨k1,k2,k3⟩
       all_goals
        go_enter func191,MT;go_wp2_with fail
        refine C.mono ?_;rintro e v ⟨rfl,E,b⟩;have J:GV v:=S.onl b O T;have y:Hid (ca Y w v):=b;clear b C;go_wp2_with fail
        refine(N _).mono ?_;rintro e aa ⟨rfl,rfl⟩;clear N;go_wp2_with fail
        refine(p _ E).mono ?_;rintro r l ⟨⟨rfl,Q⟩,A⟩;have B:Hid (ca Y w l):=y.out.trans A;have H:Hid (CN Y s (i+n) (Z++[fj X i]) W (.slice (some ⟨g,0,none⟩) (Z.length+1) cap) kvs l):=h.onl Q B.out;clear A p y;obtain⟨c0,V⟩:=U l H.out.nk 0 _ (by omega) rfl;obtain⟨c2,f2⟩:=U l H.out.nk 3 _ (by omega) rfl;rw[Ku]at c0 V;go_wp2;go_end0
        rw[F.out];exact lh Y s i Z X W g cap kvs w (K:=knd t) (f:=fun n=>{n with num:=zx t}) H.out (B.out.chg _) (fun n kv=>rfl) (fun n=>rfl) (by omega) HW.out
    ·have d:ev (b9 s i) i=.error (2,i):=by
      by_cases I:i<s.size
      ·rw[cg s i I]at G M P L ⊢
       have ad:s[i]≠34:=by simpa using G
       have ac:s[i]≠45:=by simpa using M
       have nD:¬d8 s[i]=true:=L;have nT:¬(s[i]=116\/s[i]=102\/s[i]=110):=by simpa using P
       rw[ev,if_neg ad,if_neg (by rintro(h|h);exact ac h;exact nD h),if_neg nT]
      ·rw[cU s i (by omega)];rfl
     have F:Hid _:=d;have ne:∀(c:UInt8) (k:Int),(c.toNat:Int)=k->c≠0->(b9 s i).head?≠some c->(((pk (b9 s i)).toNat:Int)==k)=false:=by
      intro c k hk h0 hh;rw[JJ,<-hk];intro e;exact kV h0 hh (K9.1 (by exact_mod_cast e))
     have k1:=ne 116 116 rfl (by decide) (fun h=>P (.inl h));have k2:=ne 102 102 rfl (by decide) (fun h=>P (.inr (.inl h)));have k3:=ne 110 110 rfl (by decide) (fun h=>P (.inr (.inr h)));have af:=fun D R=>l7 Y s i (.slice (some ⟨g,0,none⟩) (Z.length+1) cap) W D R
     clear G M P L ab d ne;go_enter func191,MT;go_wp2_with fail
     refine C.mono ?_;rintro e v ⟨rfl,E,b⟩;have y:Hid (ca Y w v):=b;clear b C;go_wp2_with fail
     refine(N _).mono ?_;rintro e aa ⟨rfl,rfl⟩;clear N;go_wp2_with fail
     refine(af _ E).mono ?_;rintro r l ⟨rfl,rfl⟩;clear af;go_wp2;refine⟨rfl,?_⟩;rw[F.out];exact⟨by omega,rfl,(y.out.chg _).drop⟩
end
def lY(d dp:Nat):Prop:=∀(bp:Nat) (s:dv) (i:Nat) (ns:oa) (key:dj) (vL:Va) (kvs:rt) (w:Wd),s.size<=65536->9<=bp->CN bp s i ns dp vL kvs w->GV w->i<=s.size->ns.length<=i->iz ns->
 Calls prog 162 #[.pointer (some ⟨bp,0,none⟩),.string ⟨key.toArray⟩] w fun r w'=>VQ bp s i ns key dp (own vL kvs) w (.int .i64 (ns.length:Int)) r w' (valL d (b9 s i) i)
def KQ(bp:Nat)(s:dv)(i:Nat)(ns:oa)(u:Nat)(key:dj)(dp:Nat)(O:Nat->Prop)(w:Wd)(r:Ending)(w':Wd):JR JT->Prop
 | .ok (t,n)=>r=.returned (.tuple #[])/\∃vL' kvs',CN bp s (i+n) (cR ns (some u) ns.length++flat ns.length key t) dp vL' kvs' w'/\cZ bp O w (own vL' kvs') w'
 | .error (e,a)=>0<e/\r=.panicked (gI e a)/\cZ bp O w (fun _=>False) w'
theorem uj{α:Type}(b c:List α)(u:Nat)(f:α->α)(h:u<b.length):(b++c).modify u f=b.modify u f++c:=by
 induction b generalizing u with
 | nil=>simp at h
 | cons a r ih=>
   match u with
   | 0=>simp
   | u+1=>simp only[JS,Mi];rw[ih u (by simpa using h)]
section
variable (Y:Nat) (s:dv) (i:Nat) (Z:oa) (u:Nat) (W:dj) (X:Nat) (V:Va) (kvs:rt) (w:Wd)
theorem GN(d:Nat)(hv:lY d X)(hs:s.size<=65536)(aO:9<=Y)(h:CN Y s i Z X V kvs w)(hG:GV w)(hi:i<=s.size)(hl:Z.length<=i)(hw:iz Z)(hu:u<Z.length):Calls prog 206 #[.pointer (some ⟨Y,0,none⟩),.int .i64 (u:Int),.string ⟨W.toArray⟩] w fun r w'=>KQ Y s i Z u W X (own V kvs) w r w' (valL d (b9 s i) i):=by
 have H:=hv Y s i Z W V kvs w hs aO h hG hi hl hw;cases O:valL d (b9 s i) i with
 | error q=>
   obtain⟨e,a⟩:=q;rw[O]at H;clear O hv;go_enter func206,ntmps206;go_wp2_with fail
   refine H.mono ?_;rintro r w1 ⟨h0,rfl,h1⟩;have H1:Hid _:=And.intro h0 h1;clear H h0 h1;go_wp2;exact⟨rfl,H1.out.1,rfl,H1.out.2⟩
 | ok q=>
   obtain⟨t,n⟩:=q;rw[O]at H;clear O hv;go_enter func206,ntmps206;go_wp2_with fail
   refine H.mono ?_;rintro r l ⟨rfl,v6,K,B,hC⟩;have HC:Hid _:=hC;clear H hC;generalize M:Z++flat Z.length W t=L at B;have az:L.length=Z.length+t.size:=by rw[<-M,JH,cJ]
   have aF:=eM t;have aC:Hid _:=M;have al:u<L.length:=by omega
   obtain⟨aH,E,rfl⟩:=B.nk.shape;obtain⟨f,rfl⟩:∃f,aH=some ⟨f,0,none⟩:=by
    rcases B.nk.2.1.2 with⟨e,h0⟩|⟨g,c,cu,e,_⟩
    ·omega
    ·injection e with e _ _;exact⟨g,e⟩
   obtain⟨c0,c1,c2,c3,cf⟩:=B.cd.cell;obtain⟨q1,q2,q3,q4⟩:=B.nk;obtain⟨m,F⟩:∃m,L[u]?=some m:=⟨_,JF al⟩;obtain⟨G,I⟩:∃G,K[u]?=some G:=⟨_,JF (by omega)⟩;have Q:=q3 u m G F I;obtain⟨x,p,aJ⟩:∃x p,G=.slice x m.kids.length p:=by
    rcases Q.2 with⟨a,b⟩|⟨g,c,cu,a,_⟩
    ·exact⟨none,0,by rw[a,b]⟩
    ·exact⟨_,_,a⟩
   subst aJ;have ab:l.cell? ⟨f,u*6+4,none⟩=some (.slice x m.kids.length p):=(B.nk.at (g:=f) rfl F I (by omega) rfl).1;have ar:=(B.nk.at (g:=f) rfl F I (j:=4) (by omega) rfl).2;have T:f<l.heap.size/\Y+1<=f:=by have:=cc q2 (g:=f) rfl;exact⟨this.2.1,this.1⟩
   have aG:Hid _:=q1;have R:Hid _:=q2;have aB:Hid _:=q3;have aP:Hid _:=q4;have HN:Hid _:=F;have ag:Hid _:=I;have ac:Hid (l.ownsRow (Y+1) 3 1 (.slice x m.kids.length p) m.kids.length (m.kids.map iV)):=Q;have af:Hid (CD Y s (i+n) (.slice (some ⟨f,0,none⟩) L.length E) X l):=B.cd;have aa:Hid (f<l.heap.size/\Y+1<=f):=T;have aT:(u:Int)<(L.length:Int):=by omega
   have HL:Hid (m.kids.length+1<=1000000000):=by
    show m.kids.length+1<=1000000000
    have aE:m∈Z:=by
     have au:=F;rw[<-M,J4 hu]at au;exact JZ au
    have:=hw m aE;omega
   clear q1 q2 q3 q4 F I Q al hw h M az aF;obtain⟨i1,ao,aA,aD,aM⟩:=Kf lv;have aI:Hid _:=ao;have av:Y<l.heap.size:=af.out.lt;have aN:∀o:Obj,(l.alloc o).cell? ⟨Y,2,none⟩=some (.slice (some ⟨f,0,none⟩) L.length E):=fun o=>(JN _ _ _ av).trans c2
   have aQ:∀o:Obj,(l.alloc o).cell? ⟨f,u*6+4,none⟩=some (.slice x m.kids.length p):=fun o=>(JN _ _ _ T.1).trans ab
   have ax:Hid (∀o,((l.alloc o).drew).ownsRow (Y+1) 3 1 (.slice x m.kids.length p) m.kids.length (m.kids.map iV)):=fun o=>ac.out.alloc o
   have aj:Hid (∀o,Y+1<=((l.alloc o).drew).heap.size):=fun o=>by show _<=(l.alloc o).heap.size;simp;omega
   have ah:Hid (∀o,((l.alloc o).drew).heap.size=l.heap.size+1):=fun o=>by show(l.alloc o).heap.size=_;simp
   have am:Hid (∀j v,[iV Z.length][j]?=some v->((l.alloc (.cells #[.int .i64 (Z.length:Int)] 3)).drew).cell? ((⟨l.heap.size,0,none⟩:Addr).add j)=some v):=fH l (iV Z.length) 3;have P:Hid (some Y≠(Value.slice x m.kids.length p).ownBlock/\some f≠(Value.slice x m.kids.length p).ownBlock):=by
    refine⟨fun e=>?_,fun e=>?_⟩
    ·have:=(cc ac.out e.symm).1;omega
    ·exact jN (by decide) R.out ac.out (g:=f) rfl e.symm
   clear ao T B;go_wp2_with fail
   go_region_law ((refine yb rfl (.tmp 22) (.tmp 24) 32 rfl 3 i1 KT aI.out aA aD aM (Y+1) _ m.kids.length (m.kids.map iV) Z.length ⟨l.heap.size,0,none⟩ (l.heap.size+1) rfl rfl HL.out (by exact ax.out _) (by exact aj.out _) (by exact ah.out _) (by exact am.out) ?_;intro z D y aw J aq;have S:=c6 J av P.out.1;have kB:=c6 J aa.out.1 P.out.2;have s2:=(S.2.1 2).trans c2;have t0:=(kB.2.1 (u*6+4)).trans ab;have t1:=(kB.2.2 (u*6+4)).trans ar;have ap:Hid (CD Y s (i+n) (.slice (some ⟨f,0,none⟩) L.length E) X y):=S.1.trans af.out;clear S kB;have W8:Hid (y.ownsRow (Y+1) 3 1 (.slice (some ⟨z,0,none⟩) (m.kids.length+1) D) (m.kids.length+1) (m.kids.map iV++[iV Z.length])):=aw;have C:Hid (((l.alloc (.cells #[.int .i64 (Z.length:Int)] 3)).drew).grownBy y (Value.slice x m.kids.length p).ownBlock):=J;have ad:Hid ((Value.slice x m.kids.length p).ownBlock=some z\/z=l.heap.size+1):=aq;clear aw J aq))
   all_goals
    have U:=NK.kid aG.out R.out aB.out aP.out u Z.length z D f m _ HN.out ag.out W8.out (fun g' aL aK=>(c6 C.out aL aK).1) (ad.out.elim .inl fun e=>.inr (by omega)) rfl (by decide);have eL:L.modify u (fun n=>{n with kids:=n.kids++[Z.length]})=cR Z (some u) Z.length++flat Z.length W t:=by rw[<-aC.out];exact uj Z _ u _ hu
    rw[eL]at U;have ay:=(c6 C.out aa.out.1 P.out.2).1;obtain⟨_,_,aR,ai⟩:=cc R.out (g:=f) rfl;have ae:=JV y f (u*6+4) aR _ _ (.slice (some ⟨z,0,none⟩) (m.kids.length+1) D) (ay.trans ai);have h9:CD Y s (i+n) (.slice (some ⟨f,0,none⟩) L.length E) X (y.setCell ⟨f,u*6+4,none⟩ (.slice (some ⟨z,0,none⟩) (m.kids.length+1) D)):=by
     unfold CD;rw[ae];exact(Kg y f Y _ (by have:=aa.out;omega)).trans ap.out
    have ak:cZ Y (own (.slice (some ⟨f,0,none⟩) L.length E) K) l (own (.slice (some ⟨f,0,none⟩) L.length E) (K.set u (.slice (some ⟨z,0,none⟩) (m.kids.length+1) D))) (y.setCell ⟨f,u*6+4,none⟩ (.slice (some ⟨z,0,none⟩) (m.kids.length+1) D)):=by
     have an:(Value.slice x m.kids.length p)∈K:=JZ ag.out;have a2:(l.alloc (.cells #[.int .i64 (Z.length:Int)] 3)).heap.size<=y.heap.size:=C.out.size;rw[ae];refine⟨C.out.os,C.out.tape,C.out.output,by simp[World.setRow]at a2 ⊢;omega,fun k A hb hO=>?_,fun k A=>?_⟩
     ·rw[Kg y f k _ (fun e=>hO (.inl (by rw[e];rfl)))]
      exact(c6 C.out A (fun e=>hO (.inr ⟨_,an,e.symm⟩))).1
     ·rcases A with A|⟨G,hm,A⟩
      ·exact .inl (.inl A)
      ·rcases List.mem_or_eq_of_mem_set hm with hm|rfl
       ·exact .inl (.inr ⟨G,hm,A⟩)
       ·simp[Value.ownBlock]at A
        subst A;rcases ad.out with e|e
        ·exact .inl (.inr ⟨_,an,e⟩)
        ·exact .inr (by omega)
    have N:Hid _:=And.intro h9 (And.intro U (HC.out.trans ak));clear eL U ay ai ae h9 ak s2 t0 t1 W8 C ad ap ax aj ah am HL P aN aQ ab ar c0 c1 c2 c3 cf;generalize y.setCell ⟨f,u*6+4,none⟩ (.slice (some ⟨z,0,none⟩) (m.kids.length+1) D)=w9 at N;go_wp2;go_end0
    exact⟨rfl,_,_,⟨N.out.1,N.out.2.1⟩,N.out.2.2⟩
end
theorem vj{s:dv}{p c:Nat}{r:dj}{x:UInt8}(h:(b9 s p).drop c=x::r):p+c<s.size:=by
 rw[cw]at h;by_cases a:p+c<s.size
 ·exact a
 ·rw[cU s _ (by omega)]at h;cases h
theorem gx(s:dv)(p:Nat)(h:p<=s.size):p+nb (b9 s p)<=s.size:=by have:=lB (b9 s p);rw[cx]at this;omega
theorem Aj(s:dv):∀(f p:Nat) (t:dj) (n:Nat),strF f (b9 s p)=.ok (t,n)->p+n<=s.size:=by
 intro f;induction f with
 | zero=>intro p t n h;simp[strF]at h
 | succ f ih=>
   intro p t n h;by_cases m:p<s.size
   ·have d:∀(a:dj) (k:Nat) (X:Except Nat (dj×Nat)),(∀t n,X=.ok (t,n)->p+k+n<=s.size)->cL a k X=.ok (t,n)->p+n<=s.size:=by
     intro a k X l c;cases X with
     | error o=>simp[cL]at c
     | ok q=>obtain⟨j,i⟩:=q;have:=l j i rfl;simp[cL]at c;omega
    have g:=cg s p m;rw[g,strF]at h;rw[<-g]at h;split at h
    ·injection h with h;injection h with u r;omega
    ·split at h
     ·cases h
     ·split at h
      ·rw[uk]at h
       cases e:gW (b9 s p)with
       | error o=>rw[e]at h;cases h
       | ok q=>
         obtain⟨q,k⟩:=q;rw[e]at h;refine d (fJ q) k (strF f ((b9 s p).drop k)) (fun t n b=>?_) h;rw[cw]at b;exact ih _ t n b
      ·split at h
       ·cases h
       ·refine d _ _ _ (fun t n b=>?_) h
        rw[cw]at b;exact ih _ t n b
   ·rw[cU s p (by omega)]at h;simp[strF]at h
theorem kQ{s:dv}{p:Nat}{t:dj}{n:Nat}(h:da (b9 s p)=.ok (t,n)):p+n<=s.size:=by
 by_cases b:p<s.size
 ·rw[cg s p b,da]at h
  split at h
  ·unfold jC at h
   cases a:strF ((b9 s (p+1)).length+1) (b9 s (p+1))with
   | error o=>rw[a]at h;cases h
   | ok q=>
     obtain⟨e,c⟩:=q;rw[a]at h;have:=Aj s _ _ _ _ a;injection h with h;injection h with d f;omega
  ·cases h
 ·rw[cU s p (by omega)]at h;cases h
theorem tw{s:dv}{p:Nat}{m:Int}{n:Nat}(h:di (b9 s p)=.ok (m,n)):p+n<=s.size:=by
 by_cases f:p<s.size
 ·have d:=oQ (b9 s p)
  have b:=oQ (b9 s (p+1));rw[cx]at d b;by_cases a:(b9 s p).head?=some 45
  ·have g:b9 s p=45::b9 s (p+1):=by
    rw[cg s p f]at a ⊢;simp at a;rw[a]
   rw[l0 g]at h;split at h
   ·cases h
   ·split at h
    ·cases h
    ·injection h with h;injection h with c e;omega
  ·rw[lX a]at h
   split at h
   ·cases h
   ·split at h
    ·cases h
    ·injection h with h;injection h with c e;omega
 ·rw[cU s p (by omega)]at h;cases h
theorem sa{s:dv}{p i:Nat}{t:JT}{n:Nat}(h:df (b9 s p) i=.ok (t,n))(d:p<=s.size):p+n<=s.size:=by
 have a:∀(w:dj),(b9 s p).take (nl (b9 s p))=w->p+w.length<=s.size:=by
  intro w hw;have:=KV List.length hw;rw[J6,cx]at this;omega
 unfold df at h;dsimp only at h;split at h
 ·next hw=>have:=a _ hw;injection h with h;injection h with b c;simp at this;omega
 ·split at h
  ·next hw=>have:=a _ hw;injection h with h;injection h with b c;simp at this;omega
  ·split at h
   ·next hw=>have:=a _ hw;injection h with h;injection h with b c;simp at this;omega
   ·cases h
theorem A5(s:dv)(v:dj->Nat->JR JT)(g:∀p i t n,v (b9 s p) i=.ok (t,n)->p<=s.size->p+n<=s.size):∀(f p i:Nat) (a:List JT) (k:Nat),dW v f (b9 s p) i=.ok (a,k)->p<=s.size->p+k<=s.size:=by
 intro f;induction f with
 | zero=>intro p i a k h;simp[dW]at h
 | succ f ih=>
   intro p i a k h l;rw[dW]at h;dsimp only at h;split at h
   ·cases h
   ·rename_i t n q
    split at h
    ·next c r hd=>
     have j:=vj hd;split at h
     ·split at h
      ·cases h
      ·rename_i m o b
       rw[cw]at b;have:=ih _ _ _ _ b (by omega);injection h with h;injection h with e d;omega
     ·split at h
      ·injection h with h;injection h with e d;omega
      ·cases h
    ·cases h
theorem Bw(s:dv)(v:dj->Nat->JR JT):∀(f:Nat) (a:List (dj)) (p i:Nat) (d:List (dj×JT)) (k:Nat),dn v f a (b9 s p) i=.ok (d,k)->p<=s.size->p+k<=s.size:=by
 intro f;induction f with
 | zero=>intro a p i o k h;simp[dn]at h
 | succ f ih=>
   intro a p i d k h l;rw[dn]at h;dsimp only at h;split at h
   ·cases h
   ·split at h
    ·cases h
    ·split at h
     ·split at h
      ·split at h
       ·cases h
       ·split at h
        ·next c r hd=>
         have j:=vj hd;split at h
         ·split at h
          ·cases h
          ·rename_i m n b
           rw[cw]at b;have:=ih _ _ _ _ _ b (by omega);injection h with h;injection h with g e;omega
         ·split at h
          ·injection h with h;injection h with g e;omega
          ·cases h
        ·cases h
      ·cases h
     ·cases h
theorem sy{s:dv}{p a:Nat}{c:UInt8}(h:((b9 s p).drop a).head?=some c):p+a<s.size:=by rw[cw]at h;exact dr h
theorem pp(s:dv):∀(d p i:Nat) (t:JT) (n:Nat),valL d (b9 s p) i=.ok (t,n)->p<=s.size->p+n<=s.size:=by
 intro d;induction d with
 | zero=>
   intro p i t n h g;by_cases j:p<s.size
   ·have f:=cg s p j
    rw[f,cG,<-f]at h;split at h
    ·split at h
     ·cases h
     ·rename_i b;have:=kQ b;injection h with h;injection h with e a;omega
    ·split at h
     ·split at h
      ·cases h
      ·rename_i b;have:=tw b;injection h with h;injection h with e a;omega
     ·split at h
      ·exact sa h g
      ·split at h
       ·cases h
       ·cases h
   ·rw[cU s p (by omega),eK]at h;cases h
 | succ d ih=>
   intro p i t n h g;by_cases j:p<s.size
   ·have f:=cg s p j
    rw[f,cG,<-f]at h;split at h
    ·split at h
     ·cases h
     ·rename_i b;have:=kQ b;injection h with h;injection h with e a;omega
    ·split at h
     ·split at h
      ·cases h
      ·rename_i b;have:=tw b;injection h with h;injection h with e a;omega
     ·split at h
      ·exact sa h g
      ·split at h
       ·dsimp only at h
        split at h
        ·unfold dM at h
         dsimp only at h;split at h
         ·next hh=>have:=sy hh;injection h with h;injection h with e a;omega
         ·split at h
          ·cases h
          ·rename_i c
           rw[cw]at c;have k:p+(1+nb (b9 s (p+1)))<=s.size:=by have:=gx s (p+1) (by omega);omega
           rw[cw]at c;have:=A5 s _ ih _ _ _ _ _ c k;injection h with h;injection h with e a;rw[cw]at a;omega
        ·unfold db at h
         dsimp only at h;split at h
         ·next hh=>have:=sy hh;injection h with h;injection h with e a;omega
         ·split at h
          ·cases h
          ·rename_i c
           rw[cw]at c;have k:p+(1+nb (b9 s (p+1)))<=s.size:=by have:=gx s (p+1) (by omega);omega
           rw[cw]at c;have:=Bw s _ _ _ _ _ _ _ c k;injection h with h;injection h with e a;rw[cw]at a;omega
       ·cases h
   ·rw[cU s p (by omega),eK]at h;cases h
structure ix (b0 b1 bp u:Nat) (O:Nat->Prop) (w:Wd):Prop where
 h0:w.heap[b0]?=some (.cells #[.pointer (some ⟨bp,0,none⟩)] 178 (0,0))
 h1:w.heap[b1]?=some (.cells #[.int .i64 (u:Int)] 3 (0,0))
 n0:b0≠bp/\¬O b0
 n1:b1≠bp/\¬O b1
theorem ix.chg{a c d u:Nat}{O i:Nat->Prop}{w w':Wd}(h:ix a c d u O w)(b:cZ d O w i w'):ix a c d u i w':=by
 have j:=(go.1 h.h0).1;have k:=(go.1 h.h1).1;refine⟨(b.block a j h.n0.1 h.n0.2).trans h.h0,(b.block c k h.n1.1 h.n1.2).trans h.h1,⟨h.n0.1,fun e=>?_⟩,⟨h.n1.1,fun e=>?_⟩⟩
 ·rcases b.own a e with g|g
  ·exact h.n0.2 g
  ·omega
 ·rcases b.own c e with f|f
  ·exact h.n1.2 f
  ·omega
section
variable (Z:Nat) (s:dv) (i:Nat) (V:oa) (u:Nat) (Y:Nat) (U:Va) (kvs:rt) (w:Wd) (X W:Nat)
theorem Hb(d:Nat)(l:lY d Y)(k:s.size<=65536)(y:9<=Z)(h:CN Z s i V Y U kvs w)(z:GV w)(o:i<=s.size)(m:V.length<=i)(hw:iz V)(x:u<V.length)(g:ix X W Z u (own U kvs) w):Calls prog 207 #[.pointer (some ⟨X,0,none⟩),.pointer (some ⟨W,0,none⟩)] w fun r A=>KQ Z s i V u [] Y (own U kvs) w r A (valL d (b9 s i) i):=by
 have b:=GN Z s i V u [] Y U kvs w d l k y h z o m hw x;have B:w.cell? ⟨X,0,none⟩=some (.pointer (some ⟨Z,0,none⟩)):=by rw[JE w X 0 _ _ _ g.h0];rfl
 have C:w.cell? ⟨W,0,none⟩=some (.int .i64 (u:Int)):=by rw[JE w W 0 _ _ _ g.h1];rfl
 cases j:valL d (b9 s i) i with
 | error q=>
   obtain⟨e,a⟩:=q;rw[j]at b;go_enter func207,ntmps207;go_wp2_with fail
   refine b.mono ?_;rintro r p ⟨v,rfl,f⟩;have c:Hid _:=And.intro v f;go_wp2;exact⟨rfl,c.out.1,rfl,c.out.2⟩
 | ok q=>
   obtain⟨t,n⟩:=q;rw[j]at b;go_enter func207,ntmps207;go_wp2_with fail
   refine b.mono ?_;rintro r p ⟨rfl,f⟩;have c:Hid _:=f;go_wp2;go_end0
   exact⟨rfl,c.out⟩
def LA(d:Nat)(w0:Wd)(O0:Nat->Prop)(i0:Nat)(key:dj)(ms:oa)(wr:Wd):Prop:=
 ∃q p ts f vR kR,i0<q/\q+nb (b9 s q)=p/\p<=s.size/\(b9 s q).length<f/\CN Z s p (ei ms none key i0 ts) Y vR kR wr/\(ei ms none key i0 ts).length<=q/\iz (ei ms none key i0 ts)/\dM (valL d) (b9 s i0) i0=lr ts i0 q (dW (valL d) f (b9 s q) q)/\GV wr/\cZ Z O0 w0 (own vR kR) wr/\ix X W Z ms.length (own vR kR) wr
def kY:Va:=.func (.func 207) #[] #[.pointer (some ⟨X,0,none⟩),.pointer (some ⟨W,0,none⟩)]
def IQ(O:Nat->Prop)(w0:Wd)(i0:Nat)(key:dj)(ms:oa)(r:Ending)(w':Wd):JR JT->Prop
 | .ok (t,n)=>r=.returned (.tuple #[])/\∃vL' kvs',CN Z s (i0+n) (ms++flat ms.length key t) Y vL' kvs' w'/\cZ Z O w0 (own vL' kvs') w'
 | .error (e,a)=>0<e/\r=.panicked (gI e a)/\cZ Z O w0 (fun _=>False) w'
theorem ES(d:Nat)(hv:lY d Y)(hs:s.size<=65536)(Q:9<=Z)(m:Wd)(o:Nat->Prop)(i0:Nat)(l:dj)(h:oa)(an:LA Z s Y X W d m o i0 l h w):Calls prog 222 #[.pointer (some ⟨Z,0,none⟩),.int .u8 93,kY X W] w fun r w'=>IQ Z s Y o m i0 l h r w' (dM (valL d) (b9 s i0) i0):=by
 unfold kY;have aq:Hid _:=an;clear an;go_enter func222,ntmps222;go_wp2_with fail
 go_loopw [6] (fun _ wr=>LA Z s Y X W d m o i0 l h wr) (fun _ wr=>s.size+1-dU (wr.cell? ⟨Z,1,none⟩))
 case atStart=>exact aq.out
 case round=>
  clear aq;obtain⟨q,p,k,f,vR,kR,ao,hp,al,hf,hN,ax,ag,ar,ad,hC,hB⟩:=hrel;have HM:Hid _:=gg hN.cd;have ay:h.length<(ei h none l i0 k).length:=by rw[fR];omega
  have K:=Hb Z s p (ei h none l i0 k) h.length Y vR kR wr X W d hv hs Q hN ad al (by omega) ag ay hB;obtain⟨f,rfl⟩:∃g,f=g+1:=⟨f-1,by omega⟩;have HP:Hid _:=hp;have HF:Hid _:=ar;have HC:Hid _:=hC;have HB:Hid _:=hB;have S:Hid (i0<q/\q<=p/\(ei h none l i0 k).length<=q/\iz (ei h none l i0 k)/\(b9 s q).length<f+1):=⟨ao,by omega,ax,ag,hf⟩;have HG:Hid (GV wr/\CN Z s p (ei h none l i0 k) Y vR kR wr):=⟨ad,hN⟩;have az:=hN.cd.lt;clear ar hC hB ao ax ag hf hp ad hN ay hv;cases P:valL d (b9 s p) p with
  | error x=>
    obtain⟨e,a⟩:=x;rw[P]at K;have E:Hid (dM (valL d) (b9 s i0) i0=.error (e,a)):=by
     show dM (valL d) (b9 s i0) i0=.error (e,a)
     rw[HF.out,vY (valL d) s q f (e,a) (by rw[HP.out];exact P)];rfl
    clear P;go_wp2_with fail
    refine K.mono ?_;rintro r y ⟨h0,rfl,h1⟩;have I:Hid (0<e/\cZ Z o m (fun _=>False) y):=⟨h0,HC.out.trans h1⟩;clear K h0 h1;go_wp2;refine⟨rfl,?_⟩;rw[E.out];exact⟨I.out.1,rfl,I.out.2⟩
  | ok x=>
    obtain⟨t,n⟩:=x;rw[P]at K;have T:Hid (valL d (b9 s p) p=.ok (t,n)):=P;clear P;go_wp2_with fail
    refine K.mono ?_;rintro r y ⟨rfl,c,j,ab,ac⟩;have ak:ix X W Z h.length (own c j) y:=HB.out.chg ac;have au:GV y:=HG.out.1.chg ac Q az HG.out.2.above;have av:=HC.out.trans ac;rw[pc]at ab;have aj:p+n<=s.size:=pp s d p p t n T.out al;have ap:t.size<=n:=jH d _ _ _ _ T.out;have ai:Hid (CN Z s (p+n) (ei h none l i0 (k++[t])) Y c j y):=ab;have I:Hid (ix X W Z h.length (own c j) y/\GV y/\cZ Z o m (own c j) y):=⟨ak,au,av⟩;have L:=gH Z s (p+n) c Y y (by omega) ab.cd aj;have ah:=gx s (p+n) aj;generalize aw:p+n+nb (b9 s (p+n))=b at L ah;have af:Hid (p+n+nb (b9 s (p+n))=b):=aw;have R:Hid (t.size<=n/\p+n<=b):=⟨ap,by omega⟩;clear ak au av ab K ac aw ap aj;go_wp2_with fail
    refine L.mono ?_;rintro r M ⟨rfl,h2,o2⟩;have ae:Hid (CN Z s b (ei h none l i0 (k++[t])) Y c j M):=ai.out.onl h2 o2;have H2:Hid (ix X W Z h.length (own c j) M/\GV M/\cZ Z o m (own c j) M):=⟨I.out.1.chg (o2.chg _),I.out.2.1.onl o2 Q ai.out.cd.lt,I.out.2.2.trans (o2.chg _)⟩;clear L o2 ai I;by_cases A:(b9 s b).head?=some 93
    ·have D:=fQ Z s b c Y 93 M (by omega) h2 A
     rw[show((93:UInt8).toNat:Int)=93 from rfl]at D;have E:Hid (dM (valL d) (b9 s i0) i0=.ok (.arr (k++[t]) i0,b-i0+1)):=by
      show dM (valL d) (b9 s i0) i0=_
      have O:=S.out;have hz:=R.out;rw[HF.out,mV (valL d) s q f p b n t HP.out T.out af.out (by rw[A];decide),nB k t i0 q b (by omega) (by omega),if_pos A]
     clear A;go_wp2_with fail
     refine D.mono ?_;rintro r v ⟨rfl,H,z⟩;have aa:Hid (CN Z s (b+1) (ei h none l i0 (k++[t])) Y c j v):=ae.out.onl H z;have J:Hid (cZ Z o m (own c j) v):=H2.out.2.2.trans (z.chg _);clear D z;go_wp2;refine Ka (Ma rfl _ _ _) rfl ?_;rw[E.out];refine⟨rfl,c,j,?_,J.out⟩;rw[show i0+(b-i0+1)=b+1 by have:=S.out;have:=R.out;omega];exact aa.out
    ·have D:=gt Z s b c Y 93 M h2 ah (by decide) A
     rw[show((93:UInt8).toNat:Int)=93 from rfl]at D;go_wp2_with fail
     refine D.mono ?_;rintro r v ⟨rfl,H,z⟩;have aa:Hid (CN Z s b (ei h none l i0 (k++[t])) Y c j v):=ae.out.onl H z;have J:Hid (ix X W Z h.length (own c j) v/\GV v/\cZ Z o m (own c j) v):=⟨H2.out.1.chg (z.chg _),H2.out.2.1.onl z Q h2.lt,H2.out.2.2.trans (z.chg _)⟩;clear D z H2 ae h2;by_cases F:(b9 s b).head?=some 44
     ·have G:=hJ Z s b c Y 44 v (by omega) H F
      rw[show((44:UInt8).toNat:Int)=44 from rfl]at G;have aC:=dr F;have L:=fun w' h'=>gH Z s (b+1) c Y w' (by omega) h' (by omega)
      have E:Hid (dM (valL d) (b9 s i0) i0=lr (k++[t]) i0 (b+1) (dW (valL d) f (b9 s (b+1)) (b+1))):=by
       show dM (valL d) (b9 s i0) i0=_
       have O:=S.out;have hz:=R.out;rw[HF.out,rI (valL d) s q f p b n t HP.out T.out af.out F,qI k t i0 q (b+1) (by omega) (by omega)]
      have aB:=gx s (b+1) (by omega);clear A F;go_wp2_with fail
      refine G.mono ?_;rintro r C ⟨rfl,h4,B⟩;have am:Hid (CN Z s (b+1) (ei h none l i0 (k++[t])) Y c j C):=aa.out.onl h4 B;have N:Hid (ix X W Z h.length (own c j) C/\GV C/\cZ Z o m (own c j) C):=⟨J.out.1.chg (B.chg _),J.out.2.1.onl B Q H.lt,J.out.2.2.trans (B.chg _)⟩;clear G B J aa H;go_wp2_with fail
      refine(L C h4).mono ?_;rintro r w5 ⟨rfl,h5,o5⟩;have aA:Hid (CN Z s (b+1+nb (b9 s (b+1))) (ei h none l i0 (k++[t])) Y c j w5):=am.out.onl h5 o5;have H5:Hid (ix X W Z h.length (own c j) w5/\GV w5/\cZ Z o m (own c j) w5):=⟨N.out.1.chg (o5.chg _),N.out.2.1.onl o5 Q h4.lt,N.out.2.2.trans (o5.chg _)⟩;clear L o5 N am h4;go_wp2;have O:=S.out;have hz:=R.out;refine⟨⟨b+1,_,k++[t],f,c,j,by omega,rfl,aB,?_,aA.out,?_,?_,E.out,H5.out.2.1,H5.out.2.2,H5.out.1⟩,?_⟩
      ·have:=O.2.2.2.2;rw[cx]at this ⊢;omega
      ·have e1:=O.2.2.1
       rw[fR]at e1 ⊢;rw[mG];omega
      ·rw[<-pc];exact jK O.2.2.2.1 (some h.length) [] t
      ·rw[HM.out,gg h5];omega
     ·have G:=jx Z s b c Y 44 v H ah (by decide) F
      rw[show((44:UInt8).toNat:Int)=44 from rfl]at G;have E:Hid (dM (valL d) (b9 s i0) i0=.error (2,b)):=by
       show dM (valL d) (b9 s i0) i0=_
       have O:=S.out;have hz:=R.out;rw[HF.out,mV (valL d) s q f p b n t HP.out T.out af.out F,nB k t i0 q b (by omega) (by omega),if_neg A]
      clear A F;go_wp2_with fail
      refine G.mono ?_;rintro r C ⟨rfl,h4,B⟩;have N:Hid (cZ Z o m (own c j) C):=J.out.2.2.trans (B.chg _);clear G B;go_wp2;refine⟨rfl,?_⟩;rw[E.out];exact⟨by omega,rfl,N.out.drop⟩
end
theorem D4(l:dj):nb (l.drop (nb l))=0:=by
 induction l with
 | nil=>rfl
 | cons c r ih=>
   rw[nb];split
   ·rw[Lp];exact ih
   ·next h=>rw[K3,nb,if_neg h]
theorem tK(s:dv)(i p:Nat)(h:i+nb (b9 s i)=p):nb (b9 s p)=0:=by
 rw[<-h,<-cw];exact D4 _
section
variable (Z:Nat) (s:dv) (i:Nat) (V:dj) (W:oa) (Y:Nat) (X:Va) (kvs:rt) (w:Wd) (U T:Nat)
theorem ur(h:CN Z s i (ei W none V i []) Y X kvs w)(e:Y=32):Calls prog 202 #[.pointer (some ⟨Z,0,none⟩),.int .u8 93,kY U T] w fun r a=>r=.panicked (gI 5 i)/\a=w:=by
 unfold kY;obtain⟨c,g,k,j,f⟩:=h.cd.cell;have b:=fun a=>jn 5 i a
 go_enter func202,ntmps202;go_wp2_with fail
 refine(b w).mono ?_;rintro r d ⟨rfl,rfl⟩;go_wp2;exact⟨rfl,rfl,rfl⟩
theorem FM(d:Nat)(B:lY d (Y+1))(hs:s.size<=65536)(aa:9<=Z)(h:CN Z s i (ei W none V i []) Y X kvs w)(hG:GV w)(hi:i<s.size)(hl:W.length<=i)(hw:iz W)(hd:Y<32)(hB:ix U T Z W.length (own X kvs) w):Calls prog 202 #[.pointer (some ⟨Z,0,none⟩),.int .u8 93,kY U T] w fun r w'=>IQ Z s Y (own X kvs) w i V W r w' (dM (valL d) (b9 s i) i):=by
 have ab:=h.cd.lt;obtain⟨M,F,H,L,b⟩:=h.cd.cell;have f1:=b 1;have J:=b 3
 have x:Hid (CD Z s (i+1) X (Y+1) ((w.setCell ⟨Z,3,none⟩ (.int .i64 ((Y:Int)+1))).setCell ⟨Z,1,none⟩ (.int .i64 ((i:Int)+1)))/\ca Z w ((w.setCell ⟨Z,3,none⟩ (.int .i64 ((Y:Int)+1))).setCell ⟨Z,1,none⟩ (.int .i64 ((i:Int)+1)))):=⟨(h.cd.setD (Y+1)).setI (i+1),ca.setCell (ca.setCell (ce Z w) _ h.cd) _ (h.cd.setD (Y+1))⟩;have R:Hid _:=h;unfold kY;go_enter func202,ntmps202;go_wp2_with fail
 generalize (w.setCell ⟨Z,3,none⟩ (.int .i64 ((Y:Int)+1))).setCell ⟨Z,1,none⟩ (.int .i64 ((i:Int)+1))=w1 at x;have h1:=x.out.1;have N:Hid _:=x.out.2;clear x M F H L b f1 J h;have E:=gH Z s (i+1) X (Y+1) w1 (by omega) h1 (by omega);have G:=gx s (i+1) (by omega);have S:=tK s (i+1) _ rfl;generalize D:i+1+nb (b9 s (i+1))=p at E G S;have HP:Hid _:=D;have O:Hid (i+1<=p):=by show i+1<=p;omega
 clear D;refine E.mono ?_;rintro r w2 ⟨rfl,h2,o2⟩;have z:Hid _:=N.out.trans o2;clear E o2 N h1;by_cases l:(b9 s p).head?=some 93
 ·have c:=fQ Z s p X (Y+1) 93 w2 (by omega) h2 l
  rw[show((93:UInt8).toNat:Int)=93 from rfl]at c;have o:Hid (dM (valL d) (b9 s i) i=.ok (.arr [] i,p-i+1)):=by
   show dM (valL d) (b9 s i) i=_
   rw[ow (valL d) s i p HP.out,if_pos l]
  clear l B;go_wp2_with fail
  refine c.mono ?_;rintro r A ⟨rfl,u,v⟩;have j:Hid _:=z.out.trans v;clear c v z;obtain⟨M,F,H,L,b⟩:=u.cell;have J:=b 3;go_wp2;go_end0
  rw[o.out];have y:=u.setD Y;have o4:=ca.setCell (k:=3) j.out (.int .i64 (Y:Int)) u;refine⟨rfl,X,kvs,?_,o4.chg _⟩;rw[show i+(p-i+1)=p+1 by have:=O.out;omega];exact R.out.onl y o4
 ·have c:=gt Z s p X (Y+1) 93 w2 h2 G (by decide) l
  rw[show((93:UInt8).toNat:Int)=93 from rfl]at c;have o:Hid (dM (valL d) (b9 s i) i=lr [] i p (dW (valL d) ((b9 s i).length+1) (b9 s p) p)):=by
   show dM (valL d) (b9 s i) i=_
   rw[ow (valL d) s i p HP.out,if_neg l]
  clear l;go_wp2_with fail
  refine c.mono ?_;rintro r A ⟨rfl,u,v⟩;have j:Hid (ca Z w A):=z.out.trans v;clear c v z;have P:LA Z s (Y+1) U T d w (own X kvs) i V W A:=by
   have D:=O.out;refine⟨p,p,[],(b9 s i).length+1,X,kvs,by omega,by rw[S];rfl,G,?_,⟨u,R.out.nk.onl j.out (by omega)⟩,?_,?_,o.out,hG.onl j.out aa ab,j.out.chg _,hB.chg (j.out.chg _)⟩
   ·rw[cx,cx];omega
   ·rw[fR];simp[cC];omega
   ·exact jK hw none V (.arr [] i)
  have g:=ES Z s (Y+1) A U T d B hs aa w (own X kvs) i V W P;unfold kY at g;clear P B;cases m:dM (valL d) (b9 s i) i with
  | error q=>
    obtain⟨e,a⟩:=q;rw[m]at g;have K:Hid _:=m;clear m o;go_wp2_with fail
    refine g.mono ?_;rintro r C ⟨h0,rfl,y⟩;have f:Hid _:=And.intro h0 y;clear h0 y g;go_wp2;refine⟨rfl,?_⟩;rw[K.out];exact⟨f.out.1,rfl,f.out.2⟩
  | ok q=>
    obtain⟨t,n⟩:=q;rw[m]at g;have K:Hid _:=m;clear m o;go_wp2_with fail
    refine g.mono ?_;rintro r C ⟨rfl,v4,k4,I,Q⟩;have f:Hid _:=And.intro I Q;obtain⟨M,F,H,L,b⟩:=I.cd.cell;clear g I Q;go_wp2;go_end0
    have h5:CD Z s (i+n) v4 Y (C.setCell ⟨Z,3,none⟩ (.int .i64 (Y:Int))):=f.out.1.cd.setD Y;have o5:=ca.setCell (k:=3) (ce Z C) (.int .i64 (Y:Int)) f.out.1.cd;rw[K.out];exact⟨rfl,v4,k4,⟨h5,f.out.1.nk.onl o5 (by omega)⟩,f.out.2.trans (o5.chg _)⟩
end
def GM:Nat->dj->Nat->JR JT
 | 0,_,i=>.error (5,i)
 | d+1,l,i=>dM (valL d) l i
def GU:Nat->dj->Nat->JR JT
 | 0,_,i=>.error (5,i)
 | d+1,l,i=>db (valL d) l i
theorem BQ(d:Nat)(l:dj)(i:Nat)(h:l.head?=some 91):valL d l i=GM d l i:=by
 match l with
 | []=>cases h
 | c::r=>
   have a:c=91:=by simpa using h
   subst a;rw[cG,if_neg (by decide),if_neg (by decide),if_neg (by decide),if_pos (by decide)];cases d with
   | zero=>rfl
   | succ d=>simp only[if_true];rfl
theorem Ai(d:Nat)(l:dj)(i:Nat)(h:l.head?=some 123):valL d l i=GU d l i:=by
 match l with
 | []=>cases h
 | c::r=>
   have a:c=123:=by simpa using h
   subst a;rw[cG,if_neg (by decide),if_neg (by decide),if_neg (by decide),if_pos (by decide)];cases d with
   | zero=>rfl
   | succ d=>rfl
theorem CN.drew{a:Nat}{s:dv}{i:Nat}{d:oa}{c:Nat}{b:Va}{kvs:rt}{w:Wd}(h:CN a s i d c b kvs w):CN a s i d c b kvs w.drew:=⟨h.cd,h.nk.kept fun _ _=>rfl⟩
theorem cZ.drew{a:Nat}{O b:Nat->Prop}{w w':Wd}(h:cZ a O w b w'):cZ a O w b w'.drew:=⟨h.os,h.tape,h.output,h.size,h.block,h.own⟩
theorem ix.drew{c b a u:Nat}{O:Nat->Prop}{w:Wd}(h:ix c b a u O w):ix c b a u O w.drew:=⟨h.h0,h.h1,h.n0,h.n1⟩
theorem GV.drew{w:Wd}(h:GV w):GV w.drew:=h.kept fun _ _=>rfl
section
variable (Y:Nat) (s:dv) (i:Nat) (Z:oa) (V:dj) (X g cap:Nat) (kvs:rt) (w:Wd)
theorem F6(d:Nat)(E:X<32->∃f,d=f+1/\lY f (X+1))(I:X=32->d=0)(ak:X<=32)(hs:s.size<=65536)(aa:9<=Y)(h:CN Y s i (Z++[fj V i]) X (.slice (some ⟨g,0,none⟩) (Z.length+1) cap) kvs w)(hG:GV w)(o:(b9 s i).head?=some 91)(hl:Z.length<=i)(hw:iz Z):Calls prog 190 #[.pointer (some ⟨Y,0,none⟩),.int .i64 (Z.length:Int)] w fun r w'=>
 VQ Y s i Z V X (own (.slice (some ⟨g,0,none⟩) (Z.length+1) cap) kvs) w (.tuple #[]) r w' (valL d (b9 s i) i):=by
 have K:=dr o
 have af:=h.cd.lt;have an:kvs.length=Z.length+1:=by have:=h.nk.1;simpa using this
 obtain⟨J,ad⟩:∃J,kvs[Z.length]?=some J:=⟨_,JF (by omega)⟩;obtain⟨_,aj,ao,ae⟩:=cc h.nk.2.1 (g:=g) rfl;generalize k:(w.alloc (.cells #[.pointer (some ⟨Y,0,none⟩)] 178)).alloc (.cells #[.int .i64 (Z.length:Int)] 3)=W;have ag:W.heap.size=w.heap.size+2:=by subst k;simp
 have A:CN Y s i (Z++[fj V i]) X (.slice (some ⟨g,0,none⟩) (Z.length+1) cap) kvs W:=by subst k;exact(h.alloc _).alloc _
 have L:cZ Y (own (.slice (some ⟨g,0,none⟩) (Z.length+1) cap) kvs) w (own (.slice (some ⟨g,0,none⟩) (Z.length+1) cap) kvs) W:=by subst k;exact(iK Y _ w _).trans (iK Y _ _ _)
 have B:ix w.heap.size (w.heap.size+1) Y Z.length (own (.slice (some ⟨g,0,none⟩) (Z.length+1) cap) kvs) W:=by
  refine⟨?_,?_,⟨by omega,fun H=>?_⟩,⟨by omega,fun H=>?_⟩⟩
  ·subst k;rw[JO _ _ (by simp),JK]
  ·subst k;have:=JK (w.alloc (.cells #[.pointer (some ⟨Y,0,none⟩)] 178)) (.cells #[.int .i64 (Z.length:Int)] 3);simpa using this
  ·have:=(h.nk.own_lt H).2;omega
  ·have:=(h.nk.own_lt H).2;omega
 obtain⟨R,ab⟩:=A.nk.at (g:=g) rfl (u:=Z.length) (j:=0) (n:=fj V i) (x:=.int .i64 0) (by simp) ad (by omega) rfl;rw[Ku]at R ab;have v:=A.put (gL:=g) rfl (fun n=>{n with kind:=4}) 0 (.int .i64 4) (fun n J=>rfl) (fun n=>rfl) (by omega) Z.length (by simp);rw[jr,Ku]at v;have S:=v.1;have F:=L.trans v.2;have N:=B.chg v.2;have P:=hG.chg F aa af h.above;have p:Hid _:=And.intro S (And.intro F (And.intro N P));obtain⟨c0,c1,c2,c3,cf⟩:=A.cd.cell;have x0:W.cell? ⟨w.heap.size,0,none⟩=some (.pointer (some ⟨Y,0,none⟩)):=by rw[JE W _ 0 _ _ _ B.h0];rfl
 have x1:W.cell? ⟨w.heap.size+1,0,none⟩=some (.int .i64 (Z.length:Int)):=by rw[JE W _ 0 _ _ _ B.h1];rfl
 have HW:Hid _:=k;clear S F N P v B A L ad ae
 go_enter func190,ntmps190;go_wp2_with fail
 go_region
 have c:Hid (CN Y s i (ei Z none V i []) X (.slice (some ⟨g,0,none⟩) (Z.length+1) cap) kvs (W.setCell ⟨g,Z.length*6,none⟩ (.int .i64 4)).drew/\cZ Y (own (.slice (some ⟨g,0,none⟩) (Z.length+1) cap) kvs) w (own (.slice (some ⟨g,0,none⟩) (Z.length+1) cap) kvs) (W.setCell ⟨g,Z.length*6,none⟩ (.int .i64 4)).drew/\ix w.heap.size (w.heap.size+1) Y Z.length (own (.slice (some ⟨g,0,none⟩) (Z.length+1) cap) kvs) (W.setCell ⟨g,Z.length*6,none⟩ (.int .i64 4)).drew/\GV (W.setCell ⟨g,Z.length*6,none⟩ (.int .i64 4)).drew):=⟨p.out.1.drew,p.out.2.1.drew,p.out.2.2.1.drew,p.out.2.2.2.drew⟩;clear R ab c0 c1 c2 c3 cf x0 x1 HW p ag;generalize (W.setCell ⟨g,Z.length*6,none⟩ (.int .i64 4)).drew=y at c;clear k;have y0:y.cell? ⟨w.heap.size,0,none⟩=some (.pointer (some ⟨Y,0,none⟩)):=by rw[JE y _ 0 _ _ _ c.out.2.2.1.h0];rfl
 have C:Hid (valL d (b9 s i) i=GM d (b9 s i) i):=BQ d _ _ o;by_cases D:X=32
 ·have O:=I D
  have z:Hid (valL d (b9 s i) i=.error (5,i)):=by have:=C.out;rw[O]at this ⊢;exact this
  have b:=ur Y s i V Z X _ kvs y w.heap.size (w.heap.size+1) c.out.1 D;unfold kY at b;clear E I O C D;go_wp2_with fail
  refine b.mono ?_;rintro r U ⟨rfl,rfl⟩;clear b;go_wp2;refine⟨rfl,?_⟩;rw[z.out];exact⟨by omega,rfl,c.out.2.1.drop⟩
 ·obtain⟨f,rfl,M⟩:=E (by omega)
  have z:Hid (valL (f+1) (b9 s i) i=dM (valL f) (b9 s i) i):=C.out;have b:=FM Y s i V Z X _ kvs y w.heap.size (w.heap.size+1) f M hs aa c.out.1 c.out.2.2.2 K hl hw (by omega) c.out.2.2.1;unfold kY at b;clear E I C M D;cases l:dM (valL f) (b9 s i) i with
  | error q=>
    obtain⟨e,a⟩:=q;rw[l]at b;have G:Hid (valL (f+1) (b9 s i) i=.error (e,a)):=by rw[<-l];exact z.out
    clear l;go_wp2_with fail
    refine b.mono ?_;rintro r U ⟨h0,rfl,h5⟩;have m:Hid _:=And.intro h0 (c.out.2.1.trans h5);clear b h0 h5;go_wp2;refine⟨rfl,?_⟩;rw[G.out];exact⟨m.out.1,rfl,m.out.2⟩
  | ok q=>
    obtain⟨t,n⟩:=q;rw[l]at b;have G:Hid (valL (f+1) (b9 s i) i=.ok (t,n)):=by rw[<-l];exact z.out
    clear l;go_wp2_with fail
    refine b.mono ?_;rintro r U ⟨rfl,v5,k5,ac,Q⟩;have m:Hid _:=And.intro ac (c.out.2.1.trans Q);clear b ac Q;go_wp2;go_end0
    rw[G.out];exact⟨rfl,v5,k5,m.out.1,m.out.2⟩
end
end Go.Proofs.YtihboehpeehlmaaGreatDoor
