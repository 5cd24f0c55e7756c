import Derived.Test.YtihboehpeehlmaaGreatDoorN5
import Derived.Test.YtihboehpeehlmaaGreatDoorV1
set_option maxHeartbeats 2000000
set_option maxRecDepth 40000
set_option linter.unusedVariables false
namespace Go.Proofs.YtihboehpeehlmaaGreatDoor
open Tryz Go.RowKit
section
attribute [local go_sem] jG
theorem He(x:Int)(w:Wd)(c:UInt8)(f:0<=x)(b:x<10)(g:48+x=(c.toNat:Int)):Calls prog 53 #[.int .i64 x] w fun e a=>e=.returned (.string ⟨#[c]⟩)/\Below w.heap.size w a:=by
 go_enter func53,ntmps53;go_wp2;go_ret;exact⟨rfl,cK (cF _) _⟩
theorem FO(x y:Int)(w:Wd)(c:UInt8)(T:dv)(m:10<=x)(l:x<=9223372036854775807)(n:x/10=y)(k:48+x%10=(c.toNat:Int))(g:T.size<=1000)(d:∀w,Calls prog 53 #[.int .i64 y] w fun e a=>e=.returned (.string T)/\Below w.heap.size w a):Calls prog 53 #[.int .i64 x] w fun e a=>e=.returned (.string (T++⟨#[c]⟩))/\Below w.heap.size w a:=by
 go_enter func53,ntmps53;go_wp2_with fail
 refine(d _).mono ?_;rintro e j ⟨rfl,f⟩;have b:Hid _:=f;go_wp2;go_ret;exact⟨rfl,(b.out).alloc b.out.size _⟩
theorem IK(x:Int)(w:Wd)(c:UInt8)(d: -10<x)(b:x<0)(f:48-x=(c.toNat:Int)):Calls prog 53 #[.int .i64 x] w fun e a=>e=.returned (.string ⟨#[45,c]⟩)/\Below w.heap.size w a:=by
 go_enter func53,ntmps53;go_wp2;go_ret;exact⟨rfl,cK (cF _) _⟩
theorem Fm(x y:Int)(w:Wd)(c:UInt8)(T:dv)(s:x<= -10)(m: -9223372036854775808<=x)(t:x.tdiv 10=y)(f: -922337203685477580<=y/\y<=0)(z:Int)(u:x.tmod 10=z)(d: -10<z/\z<=0)(l:48-z=(c.toNat:Int))(i:T.size<=1000)(g:∀w,Calls prog 53 #[.int .i64 y] w fun e a=>e=.returned (.string T)/\Below w.heap.size w a):Calls prog 53 #[.int .i64 x] w fun e a=>e=.returned (.string (T++⟨#[c]⟩))/\Below w.heap.size w a:=by
 obtain⟨n,j⟩:=f;obtain⟨k,r⟩:=d;go_enter func53,ntmps53;go_wp2_with fail
 refine(g _).mono ?_;rintro e q ⟨rfl,h⟩;have b:Hid _:=h;go_wp2;go_ret;exact⟨rfl,(b.out).alloc b.out.size _⟩
end
theorem BW:∀(m:Nat),m<=9223372036854775807->∀w,Calls prog 53 #[.int .i64 (m:Int)] w fun e a=>e=.returned (.string ⟨(dR m).toArray⟩)/\Below w.heap.size w a:=by
 intro m;induction m using Nat.strongRecOn with
 | ind m ih=>
   intro b w;by_cases h:m<10
   ·rw[io m h]
    exact He m w _ (by omega) (by omega) (fq _ (48+m) (by omega) (by omega))
   ·rw[kD m (by omega),<-tq]
    refine FO m ((m/10:Nat):Int) w _ _ (by omega) (by omega) (by omega) (fq _ (48+m%10) (by omega) (by omega)) ?_ (ih (m/10) (by omega) (by omega));have:=oh (n:=m/10) (by omega);show(dR (m/10)).toArray.size<=1000
    simp;omega
theorem Ag:∀(m:Nat),1<=m->m<=9223372036854775808->∀w,Calls prog 53 #[.int .i64 (-(m:Int))] w fun e c=>e=.returned (.string ⟨(45::dR m).toArray⟩)/\Below w.heap.size w c:=by
 intro m;induction m using Nat.strongRecOn with
 | ind m ih=>
   intro d f w;by_cases h:m<10
   ·rw[io m h]
    exact IK (-(m:Int)) w _ (by omega) (by omega) (fq _ (48+m) (by omega) (by omega))
   ·rw[kD m (by omega),<-JS,<-tq]
    have a:(-(m:Int)).tdiv 10= -((m/10:Nat):Int):=by rw[Int.neg_tdiv];rfl
    have b:(-(m:Int)).tmod 10= -((m%10:Nat):Int):=by rw[Int.neg_tmod];rfl
    refine Fm (-(m:Int)) (-((m/10:Nat):Int)) w _ _ (by omega) (by omega) a (by omega) (-((m%10:Nat):Int)) b (by omega) (fq _ (48+m%10) (by omega) (by omega)) ?_ (ih (m/10) (by omega) (by omega) (by omega));have:=oh (n:=m/10) (by omega);show(45::dR (m/10)).toArray.size<=1000
    simp;omega
theorem sU(n:Int)(b: -9223372036854775808<=n)(c:n<=9223372036854775807)(w:Wd):Calls prog 53 #[.int .i64 n] w fun e a=>e=.returned (.string ⟨(ew n).toArray⟩)/\Below w.heap.size w a:=by
 unfold ew;by_cases h:n<0
 ·rw[if_pos h]
  have:=Ag (-n).toNat (by omega) (by omega) w;rwa [show(-(((-n).toNat:Nat):Int))=n by omega]at this
 ·rw[if_neg h]
  have:=BW n.toNat (by omega) w;rwa [show((n.toNat:Nat):Int)=n by omega]at this
theorem Bu(B:Nat)(v:Va)(L:oa)(w:Wd)(hN:cr B 83 v L w)(o:Nat)(n:Nd)(hn:L[o]?=some n)(aw:∀k∈n.kids,k<L.length)(hb:L.length<=1000000)(aV:n.kids.length<=1000000)(ak:∀(k:Nat) (m:Nd),L[k]?=some m->m.key.length<=1000000000):Calls prog 82 #[v,.int .i64 (o:Int)] w fun e l=>∃v',e=.returned v'/\l.ownsRow w.heap.size 3 1 v' n.kids.length ((eE (dZ L) n.kids).map iV)/\Below w.heap.size w l:=by
 obtain⟨i0,aq,aI,aF,aC⟩:=Kf lv;have HI:Hid _:=aq;clear aq;have aT:=(JG.1 hn).1;obtain⟨g,al,rfl⟩:∃g al,v=.slice (some ⟨g,0,none⟩) L.length al:=by
  obtain⟨a0,k1,k2,k3,k4⟩:=hN;rcases k2.2 with⟨_,h⟩|⟨g,c,cu,a,_⟩
  ·omega
  ·exact⟨g,c,a⟩
 have q1:=hN.cells.1;obtain⟨X,aR,ao⟩:=hN.kidrow o n hn
 have aB:Hid _:=ao;have au:Hid _:=q1;have av:Hid _:=aw;have ah:Hid _:=ak;clear q1 ao hN hn aw ak;generalize n.kids=b at *;clear n;go_enter func82,ntmps82;go_wp2_with (refine EY rfl (.tmp 9) (.tmp 14) 32 rfl 3 i0 KT HI.out aI aF aC B X b w rfl rfl aB.out (by omega) ?_;intro v1 w1 ai az;have W1:Hid _:=ai;have B1:Hid _:=az;clear ai az)
 have ae:=fM.of W1.out;obtain⟨ad,I,rfl,ae⟩:=ae;clear ae;go_loopw [6] (fun iv wr=>∃i:Nat,1<=i/\(i<=b.length\/i=1)/\iv=.int .i64 (i:Int)/\wr.ownsRow w.heap.size 3 1 (.slice ad b.length I) b.length ((eE (dZ L) (b.take i)++b.drop i).map iV)/\Below w.heap.size w wr) (fun iv _=>b.length-(intOf iv).toNat)
 case atStart=>
  refine⟨1,by omega,.inr rfl,rfl,?_,B1.out⟩;have e:eE (dZ L) (b.take 1)++b.drop 1=b:=by
   cases b with
   | nil=>rfl
   | cons x r=>simp[eE,fP,ie]
  rw[e];exact W1.out
 case round=>
  clear W1 B1;obtain⟨i,aO,aY,rfl,t,u⟩:=hrel;by_cases ac:i<b.length
  ·have a1:(i:Int)<(b.length:Int):=by omega
   obtain⟨f,rfl⟩:∃f,ad=some ⟨f,0,none⟩:=by
    rcases t.2 with⟨_,h⟩|⟨H,c',_,e,_⟩
    ·omega
    ·injection e with e1 _ _;exact⟨H,e1⟩
   have R0:Hid _:=t;have B0:Hid _:=u;clear t u;go_wp2_with fail
   go_loopw [7] (fun X wx=>∃P S:hH,X=.int .i64 (P.length:Int)/\P.length+S.length=i/\fP (dZ L) (eE (dZ L) (b.take i)) b[i]=fP (dZ L) P b[i]++S/\(∀k∈P,k∈b)/\wx.ownsRow w.heap.size 3 1 (.slice (some ⟨f,0,none⟩) b.length I) b.length ((P++b[i]::(S++b.drop (i+1))).map iV)/\Below w.heap.size w wx) (fun X _=>(intOf X).toNat)
   case atStart=>
    have hl:(eE (dZ L) (b.take i)).length=i:=by rw[gj,J6];omega
    refine⟨eE (dZ L) (b.take i),[],by rw[hl],by simp[hl],by simp,fun k D=>List.mem_of_mem_take (rM _ _ _ D),?_,B0.out⟩;have:=R0.out;rw[Kc ac]at this;exact this
   case round=>
    clear R0 B0;obtain⟨P,S,rfl,G,T,af,t,u⟩:=hrel;have ag:=List.getElem_mem ac;have aH:P=[]\/∃d y,P=d++[y]:=by
     rcases Nh P with h|⟨d,y,h⟩
     ·exact .inl h
     ·exact .inr ⟨d,y,by simpa using h⟩
    rcases aH with rfl|⟨d,y,hP⟩
    ·go_wp2_with fail
     go_quiet (fail)
     have HN:Hid (eE (dZ L) (b.take (i+1))++b.drop (i+1)=[]++b[i]::(S++b.drop (i+1))):=by
      show _=_
      rw[Ks ac,tD,T,Cc];simp
     have R1:Hid _:=t;have B1:Hid _:=u;clear t u T G;go_wp2_with fail
     go_roundw
     case rel=>exact⟨i+1,by omega,.inl (by omega),by go_num,by rw[HN.out];exact ez R1.out (fun _ _ _=>rfl),em B1.out nq⟩
     case measure=>simp[intOf];omega
    ·obtain⟨p,F⟩:∃p,P.length=p:=⟨_,rfl⟩
     rw[F];rw[F]at G;subst hP;obtain⟨x,hx⟩:∃x,b[i]=x:=⟨_,rfl⟩;rw[hx]at T t ag;have HX:Hid _:=hx;clear hx;have aA:=af y (by simp);have aj:=av.out x ag;have ar:=av.out y aA;obtain⟨C,Z⟩:∃m,L[x]?=some m:=⟨_,JF aj⟩;obtain⟨A,ab⟩:∃m,L[y]?=some m:=⟨_,JF ar⟩;have kx:=dy u (au.out x C Z);have ky:=dy u (au.out y A ab);have K:∀W,Calls prog 116 #[.string ⟨C.key.toArray⟩,.string ⟨A.key.toArray⟩] W fun e l=>e=.returned (.bool (dZ L x y))/\Below W.heap.size W l:=fun W=>by
      have h1:=ah.out x C Z;have h2:=ah.out y A ab;have:=Fg ⟨C.key.toArray⟩ ⟨A.key.toArray⟩ W (by show C.key.toArray.size<=_;simpa using h1) (by show A.key.toArray.size<=_;simpa using h2);unfold dZ;rw[gc Z,gc ab];simpa using this
     have a2:(x:Int)<(L.length:Int):=by omega
     have aX:(y:Int)<(L.length:Int):=by omega
     obtain⟨aU,aL,e5,c5⟩:=fM.of (us:=d++[y]++x::(S++b.drop (i+1))) (e:=3) (B:=w.heap.size) (w:=wr) (v:=.slice (some ⟨f,0,none⟩) b.length I) (by
      have:(d++[y]++x::(S++b.drop (i+1))).length=b.length:=by simp at F G ⊢;omega
      rw[this];exact t)
     obtain⟨H,E,R⟩:=c5 (d.length+1) x (by simp);obtain⟨aW,J,N⟩:=c5 d.length y (by simp);injection e5 with e5 Q U;clear Q U;rw[<-e5]at E J;injection E with E;injection E with E Q U;clear Q U;subst E;injection J with J;injection J with J Q U;clear Q U;subst J;clear c5 e5;have ay:(d++[y]).length=d.length+1:=by simp
     rw[ay]at F;obtain⟨q,hq⟩:∃q,d.length=q:=⟨_,rfl⟩;rw[F]at R;rw[hq]at N;have V:(p:Int)-1=(q:Int):=by omega
     have aN:IntKind.i64.wrap ((p:Int)-1)=(q:Int):=by rw[fi _ (by omega)];omega
     have aQ:0<p:=by omega
     have aM:(p:Int)<(b.length:Int):=by omega
     have aS:(q:Int)<(b.length:Int):=by omega
     have HF:Hid (d.length=q/\q+1=p/\p+S.length=i):=⟨hq,by omega,G⟩;have an:Hid _:=T;have aG:Hid _:=af;have aa:Hid (wr.ownsRow w.heap.size 3 1 (.slice (some ⟨f,0,none⟩) b.length I) b.length ((d++[y]++x::(S++b.drop (i+1))).map iV)):=t;have Y:Hid (Below w.heap.size w wr):=u;have am:=u.size;clear F hq G T af t u ag aA Z ab ay aj ar;cases M:dZ L x y with
     | false=>
       rw[M]at K;have HC:Hid (dZ L x y=false):=M;clear M;have z:Hid (wr.cell? ⟨f,p,none⟩=some (.int .i64 (x:Int))/\wr.cell? ⟨f,q,none⟩=some (.int .i64 (y:Int))/\wr.cell? ⟨g,x*6+1,none⟩=some (.string ⟨C.key.toArray⟩)/\wr.cell? ⟨g,y*6+1,none⟩=some (.string ⟨A.key.toArray⟩)):=⟨R,N,kx,ky⟩;go_wp2_with fail
       have ax:Hid _:=V;clear V;have aD:(0:Int)<=(q:Int):=by omega
       go_region_held3 (fun l=>l.cell? ⟨f,p,none⟩=some (.int .i64 (x:Int))/\l.cell? ⟨f,q,none⟩=some (.int .i64 (y:Int))/\l.cell? ⟨g,x*6+1,none⟩=some (.string ⟨C.key.toArray⟩)/\l.cell? ⟨g,y*6+1,none⟩=some (.string ⟨A.key.toArray⟩)) (go_keep) (first|(go_at_call 116;refine(K _).mono ?_;rintro e O ⟨rfl,s⟩;have s0:=dy s z.out.1;have s1:=dy s z.out.2.1;have s2:=dy s z.out.2.2.1;have s3:=dy s z.out.2.2.2;have j:Hid _:=s;clear s))
       have R3:Hid (O.ownsRow w.heap.size 3 1 (.slice (some ⟨f,0,none⟩) b.length I) b.length ((d++[y]++x::(S++b.drop (i+1))).map iV)):=ez aa.out (fun H _ h'=>j.out.block H h');have B4:Hid (Below w.heap.size w O):=Y.out.trans ⟨j.out.os,j.out.tape,j.out.output,j.out.size,fun k D=>j.out.block k (J0 D am)⟩;clear Y j z aa K R N kx ky;have HN:Hid (eE (dZ L) (b.take (i+1))++b.drop (i+1)=d++[y]++x::(S++b.drop (i+1))):=by
        show _=_
        rw[Ks ac,tD,HX.out,an.out,yf _ _ _ _ HC.out];simp
       go_wp2_with fail
       go_roundw
       case rel=>exact⟨i+1,by omega,.inl (by omega),by go_num,by rw[HN.out];exact R3.out,B4.out⟩
       case measure=>simp[intOf];omega
     | true=>
       rw[M]at K;have HC:Hid (dZ L x y=true):=M;clear M;have z:Hid (wr.cell? ⟨f,p,none⟩=some (.int .i64 (x:Int))/\wr.cell? ⟨f,q,none⟩=some (.int .i64 (y:Int))/\wr.cell? ⟨g,x*6+1,none⟩=some (.string ⟨C.key.toArray⟩)/\wr.cell? ⟨g,y*6+1,none⟩=some (.string ⟨A.key.toArray⟩)):=⟨R,N,kx,ky⟩;go_wp2_with fail
       have ax:Hid _:=V;clear V
       go_region_held3 (fun l=>l.cell? ⟨f,p,none⟩=some (.int .i64 (x:Int))/\l.cell? ⟨f,q,none⟩=some (.int .i64 (y:Int))/\l.cell? ⟨g,x*6+1,none⟩=some (.string ⟨C.key.toArray⟩)/\l.cell? ⟨g,y*6+1,none⟩=some (.string ⟨A.key.toArray⟩)) (go_keep) (first|(go_at_call 116;refine(K _).mono ?_;rintro e O ⟨rfl,s⟩;have s0:=dy s z.out.1;have s1:=dy s z.out.2.1;have s2:=dy s z.out.2.2.1;have s3:=dy s z.out.2.2.2;have j:Hid _:=s;clear s))
       have R3:Hid (O.ownsRow w.heap.size 3 1 (.slice (some ⟨f,0,none⟩) b.length I) b.length ((d++[y]++x::(S++b.drop (i+1))).map iV)):=ez aa.out (fun H _ h'=>j.out.block H h');have B4:Hid (Below w.heap.size w O):=Y.out.trans ⟨j.out.os,j.out.tape,j.out.output,j.out.size,fun k D=>j.out.block k (J0 D am)⟩;clear Y j z aa K R N kx ky;have aJ:p<b.length:=by omega
       have aE:q<b.length:=by omega
       obtain⟨r4,b4,f4,z4⟩:=zT (.int .i64 (y:Int)) R3.out aJ;obtain⟨r5,b5,f5,z5⟩:=zT (.int .i64 (x:Int)) r4 aE;have ap:((((d++[y]++x::(S++b.drop (i+1))).map iV).set p (.int .i64 (y:Int))).set q (.int .i64 (x:Int)))=(d++x::(y::S++b.drop (i+1))).map iV:=by
        obtain⟨e1,e2,_⟩:=HF.out;subst e2;subst e1;simp[iV]
       rw[ap]at r5;have R5:Hid _:=r5;have B5:Hid _:=B4.out.trans (b4.trans b5);obtain⟨v5,c5⟩:=Option.isSome_iff_exists.1 z5;clear r4 b4 r5 b5 z4 z5 ap R3 B4;go_wp2_with fail
       go_roundw
       case rel=>
        refine⟨d,y::S,?_,?_,?_,?_,?_,B5.out⟩
        ·rw[HF.out.1]
        ·have:=HF.out;simp;omega
        ·rw[HX.out,an.out,C8 _ _ _ _ HC.out];simp
        ·intro k D;exact aG.out k (by simp[D])
        ·rw[HX.out];exact R5.out
       case measure=>have:=HF.out;simp[intOf];omega
  ·go_wp2_with fail
   go_ret;refine⟨_,rfl,?_,u⟩;have e:eE (dZ L) (b.take i)++b.drop i=eE (dZ L) b:=by rw[Kd (by omega),J8 (by omega),KB]
   rw[<-e];exact t
theorem Gs(B:Nat)(g cap:Nat)(L:oa)(w:Wd)(d:cr B 83 (.slice (some ⟨g,0,none⟩) L.length cap) L w)(o:Nat)(n:Nd)(b:L[o]?=some n)(m:L.length<=1000000)(f:n.kind=0):Calls prog 45 #[.slice (some ⟨g,0,none⟩) L.length cap,.int .i64 (o:Int)] w fun e h=>e=.returned (.string ⟨#[110,117,108,108]⟩)/\Below w.heap.size w h:=by
 have r:=(JG.1 b).1;have i:(o:Int)<(L.length:Int):=by omega
 obtain⟨s,a,c⟩:=d.six o n b;have t:w.cell? ⟨g,o*6,none⟩=some (.int .i64 0):=by have:=a 0 _ rfl;rw[f]at this;exact this
 have v:=a 1 _ rfl;have x:=a 2 _ rfl;have q:=a 3 _ rfl;have p:=a 4 _ rfl;have l:=a 5 _ rfl;obtain⟨u,j,rfl,k⟩:=fM.of c;go_enter func45,ntmps45;go_wp2;go_ret;exact⟨rfl,cK (cF _) _⟩
theorem Ge(B:Nat)(g cap:Nat)(L:oa)(w:Wd)(h:cr B 83 (.slice (some ⟨g,0,none⟩) L.length cap) L w)(o:Nat)(n:Nd)(b:L[o]?=some n)(q:L.length<=1000000)(i:n.kind=1)(c:n.num=1):Calls prog 45 #[.slice (some ⟨g,0,none⟩) L.length cap,.int .i64 (o:Int)] w fun e j=>e=.returned (.string ⟨#[116,114,117,101]⟩)/\Below w.heap.size w j:=by
 have s:=(JG.1 b).1;have k:(o:Int)<(L.length:Int):=by omega
 obtain⟨t,a,d⟩:=h.six o n b;have u:w.cell? ⟨g,o*6,none⟩=some (.int .i64 1):=by have:=a 0 _ rfl;rw[i]at this;exact this
 have x:=a 1 _ rfl;have y:=a 2 _ rfl;have f:=a 3 _ rfl;have r:=a 4 _ rfl;have p:=a 5 _ rfl;obtain⟨v,l,rfl,m⟩:=fM.of d;rw[c]at f;go_enter func45,ntmps45;go_wp2;go_ret;exact⟨rfl,cK (cF _) _⟩
theorem Gf(B:Nat)(g cap:Nat)(L:oa)(w:Wd)(h:cr B 83 (.slice (some ⟨g,0,none⟩) L.length cap) L w)(o:Nat)(n:Nd)(b:L[o]?=some n)(q:L.length<=1000000)(i:n.kind=1)(c:n.num=0):Calls prog 45 #[.slice (some ⟨g,0,none⟩) L.length cap,.int .i64 (o:Int)] w fun e j=>e=.returned (.string ⟨#[102,97,108,115,101]⟩)/\Below w.heap.size w j:=by
 have s:=(JG.1 b).1;have k:(o:Int)<(L.length:Int):=by omega
 obtain⟨t,a,d⟩:=h.six o n b;have u:w.cell? ⟨g,o*6,none⟩=some (.int .i64 1):=by have:=a 0 _ rfl;rw[i]at this;exact this
 have x:=a 1 _ rfl;have y:=a 2 _ rfl;have f:=a 3 _ rfl;have r:=a 4 _ rfl;have p:=a 5 _ rfl;obtain⟨v,l,rfl,m⟩:=fM.of d;rw[c]at f;go_enter func45,ntmps45;go_wp2;go_ret;exact⟨rfl,cK (cF _) _⟩
theorem FX(B:Nat)(g cap:Nat)(L:oa)(w:Wd)(l:cr B 83 (.slice (some ⟨g,0,none⟩) L.length cap) L w)(o:Nat)(n:Nd)(c:L[o]?=some n)(u:L.length<=1000000)(d:n.kind=2)(i: -9223372036854775808<=n.num)(m:n.num<=9223372036854775807):Calls prog 45 #[.slice (some ⟨g,0,none⟩) L.length cap,.int .i64 (o:Int)] w fun e p=>e=.returned (.string ⟨(ew n.num).toArray⟩)/\Below w.heap.size w p:=by
 have y:=(JG.1 c).1;have q:(o:Int)<(L.length:Int):=by omega
 obtain⟨z,a,j⟩:=l.six o n c;have A:w.cell? ⟨g,o*6,none⟩=some (.int .i64 2):=by have:=a 0 _ rfl;rw[d]at this;exact this
 have E:=a 1 _ rfl;have F:=a 2 _ rfl;have x:=a 3 _ rfl;have v:=a 4 _ rfl;have t:=a 5 _ rfl;obtain⟨D,r,rfl,s⟩:=fM.of j;have f:=sU n.num i m;go_enter func45,ntmps45;go_wp2_with fail
 refine(f _).mono ?_;rintro e C ⟨rfl,b⟩;have h:Hid _:=(cK (cF w) _).trans ⟨b.os,b.tape,b.output,b.size,fun k d=>b.block k (by simp;omega)⟩;go_wp2;go_ret;exact⟨rfl,h.out⟩
theorem Gj(B:Nat)(g cap:Nat)(L:oa)(w:Wd)(l:cr B 83 (.slice (some ⟨g,0,none⟩) L.length cap) L w)(o:Nat)(n:Nd)(c:L[o]?=some n)(t:L.length<=1000000)(d:n.kind=3)(i:n.text.length<=1000000000):Calls prog 45 #[.slice (some ⟨g,0,none⟩) L.length cap,.int .i64 (o:Int)] w fun e m=>e=.returned (.string ⟨(dk n.text).toArray⟩)/\Below w.heap.size w m:=by
 have x:=(JG.1 c).1;have p:(o:Int)<(L.length:Int):=by omega
 obtain⟨y,a,j⟩:=l.six o n c;have z:w.cell? ⟨g,o*6,none⟩=some (.int .i64 3):=by have:=a 0 _ rfl;rw[d]at this;exact this
 have D:=a 1 _ rfl;have E:=a 2 _ rfl;have v:=a 3 _ rfl;have u:=a 4 _ rfl;have s:=a 5 _ rfl;obtain⟨C,q,rfl,r⟩:=fM.of j;have f:=fun W=>by simpa using Dr ⟨n.text.toArray⟩ W (by show n.text.toArray.size<=_;simpa using i)
 go_enter func45,ntmps45;go_wp2_with fail
 refine(f _).mono ?_;rintro e A ⟨rfl,b⟩;have h:Hid _:=(cK (cF w) _).trans ⟨b.os,b.tape,b.output,b.size,fun k d=>b.block k (by simp;omega)⟩;go_wp2;go_ret;exact⟨rfl,h.out⟩
theorem Fo(B:Nat)(g cap:Nat)(L:oa)(w:Wd)(N:cr B 83 (.slice (some ⟨g,0,none⟩) L.length cap) L w)(o:Nat)(n:Nd)(x:L[o]?=some n)(hb:L.length<=1000000)(a:n.kind=4)(ag:n.kids.length<=1000000)(f:Nat->dj)(S:∀k∈n.kids,∀W,Below w.heap.size w W->Calls prog 45 #[.slice (some ⟨g,0,none⟩) L.length cap,.int .i64 (k:Int)] W fun e t=>e=.returned (.string ⟨(f k).toArray⟩)/\Below W.heap.size W t)(M:∀j,j<=n.kids.length->(ct f n.kids j).length<=1000000000)(P:∀k∈n.kids,(f k).length<=1000000000):Calls prog 45 #[.slice (some ⟨g,0,none⟩) L.length cap,.int .i64 (o:Int)] w fun e t=>e=.returned (.string ⟨(91::ct f n.kids n.kids.length++[93]).toArray⟩)/\Below w.heap.size w t:=by
 have af:=(JG.1 x).1;have ak:(o:Int)<(L.length:Int):=by omega
 obtain⟨kv,i,I⟩:=N.six o n x;have c0:w.cell? ⟨g,o*6,none⟩=some (.int .i64 4):=by have:=i 0 _ rfl;rw[a]at this;exact this
 have Z:=i 1 _ rfl;have c2:=i 2 _ rfl;have c3:=i 3 _ rfl;have c4:=i 4 _ rfl;have c5:=i 5 _ rfl;clear i N x a;obtain⟨G,r,rfl,R⟩:=fM.of I;have Y:Hid _:=R;have V:Hid _:=S;have ae:Hid _:=M;have aa:Hid _:=P;clear I R S M P;go_enter func45,ntmps45;go_wp2_with fail
 have H:Hid (Below w.heap.size w (w.alloc (.cells #[.int .i64 4,.string ⟨n.key.toArray⟩,.string ⟨n.text.toArray⟩,.int .i64 n.num,.slice G n.kids.length r,.int .i64 (n.at':Int)] 83))):=cK (cF w) _;have A:(w.alloc (.cells #[.int .i64 4,.string ⟨n.key.toArray⟩,.string ⟨n.text.toArray⟩,.int .i64 n.num,.slice G n.kids.length r,.int .i64 (n.at':Int)] 83)).cell? ⟨w.heap.size,0,none⟩=some (.int .i64 4):=by simp
 generalize w.alloc (.cells #[.int .i64 4,.string ⟨n.key.toArray⟩,.string ⟨n.text.toArray⟩,.int .i64 n.num,.slice G n.kids.length r,.int .i64 (n.at':Int)] 83)=h at H A ⊢;have ad:Hid _:=A;clear A c0 Z c2 c3 c4 c5;go_loopw [7,9] (fun tv D wr=>∃(T:dv) (j:Nat),j<=n.kids.length/\tv=.string T/\D=.int .i64 (j:Int)/\T.data.toList=91::ct f n.kids j/\Below h.heap.size h wr) (fun _ D _=>n.kids.length-(intOf D).toNat)
 case atStart=>exact⟨⟨#[91]⟩,0,by omega,rfl,rfl,rfl,cF _⟩
 case round=>
  obtain⟨T,j,hj,rfl,rfl,u,d⟩:=hrel;have am:T.size<=1000000001:=by
   have h1:=ae.out j hj;have h2:T.size=T.data.toList.length:=by simp
   rw[h2,u,JM];omega
  have ah:=dy d ad.out;have y:Hid _:=u;have m:Hid (Below h.heap.size h wr):=d;have z:Hid (Below w.heap.size w wr):=H.out.trans ⟨d.os,d.tape,d.output,d.size,fun k a=>d.block k (J0 a H.out.size)⟩;clear u d;by_cases ac:j<n.kids.length
  ·have al:(j:Int)<(n.kids.length:Int):=by omega
   obtain⟨k,a⟩:∃k,n.kids[j]?=some k:=⟨_,JF ac⟩;have s:k∈n.kids:=JZ a;obtain⟨gk,rfl,U⟩:=Y.out j k a;have aj:=dy z.out U;have J:n.kids.getD j 0=k:=by rw[KJ,a];rfl
   have l:=V.out k s wr z.out;obtain⟨F,q⟩:∃F:dv,(⟨(f k).toArray⟩:dv)=F:=⟨_,rfl⟩;have O:F.data.toList=f k:=by rw[<-q]
   have ai:F.size<=1000000000:=by rw[<-q];show(f k).toArray.size<=_;simpa using aa.out k s
   rw[q]at l;have Q:Hid _:=O;clear q O;have K:Hid _:=J;clear a s U J;rcases MF j with p|p
   ·have X:decide (0<j)=false:=by simp;omega
    have ab:decide ((0:Int)<(j:Int))=false:=by simp;omega
    have C:Hid (j=0):=p;clear p;go_wp2_with fail
    refine l.mono ?_;rintro e v ⟨rfl,c⟩;have E:Hid (Below h.heap.size h v):=m.out.trans ⟨c.os,c.tape,c.output,c.size,fun k a=>c.block k (J0 a m.out.size)⟩;clear c l;go_wp2_with fail
    go_roundw
    case rel=>
     refine⟨T++F,j+1,by omega,rfl,by go_num,?_,E.out⟩;rw[Ld,KK,y.out,Q.out,ct,if_pos C.out,K.out];simp
    case measure=>simp[intOf];omega
   ·have X:decide (0<j)=true:=by simp;omega
    have C:Hid (0<j):=p;go_wp2_with fail
    refine l.mono ?_;rintro e v ⟨rfl,c⟩;have E:Hid (Below h.heap.size h v):=m.out.trans ⟨c.os,c.tape,c.output,c.size,fun k a=>c.block k (J0 a m.out.size)⟩;clear c l;go_wp2_with fail
    go_roundw
    case rel=>
     refine⟨T++⟨#[44]⟩++F,j+1,by omega,rfl,by go_num,?_,E.out⟩;rw[Ld,Ld,KK,KK,y.out,Q.out,ct,if_neg (by have:=C.out;omega),K.out];simp
    case measure=>simp[intOf];omega
  ·obtain rfl:j=n.kids.length:=by omega
   go_wp2_with fail
   go_ret;refine⟨?_,z.out⟩;have e:T++⟨#[93]⟩=⟨(91::ct f n.kids n.kids.length++[93]).toArray⟩:=by
    apply ByteArray.ext;rw[Ld];apply Array.toList_inj.1;rw[KK,y.out]
   exact KV (fun b=>Ending.returned (Value.string b)) e
theorem Fl(B:Nat)(g cap:Nat)(L:oa)(w:Wd)(hN:cr B 83 (.slice (some ⟨g,0,none⟩) L.length cap) L w)(o:Nat)(n:Nd)(J:L[o]?=some n)(hb:L.length<=1000000)(a:n.kind=5)(aA:n.kids.length<=1000000)(f:Nat->dj)(hf:∀k∈n.kids,∀W,Below w.heap.size w W->Calls prog 45 #[.slice (some ⟨g,0,none⟩) L.length cap,.int .i64 (k:Int)] W fun e u=>e=.returned (.string ⟨(f k).toArray⟩)/\Below W.heap.size W u)(q:∀k∈n.kids,k<L.length)(A:∀(k:Nat) (m:Nd),L[k]?=some m->m.key.length<=100000000)(an:∀j,j<=n.kids.length->(ct (fc L f) (eE (dZ L) n.kids) j).length<=1000000000)(ap:∀k∈n.kids,(f k).length<=1000000000):Calls prog 45 #[.slice (some ⟨g,0,none⟩) L.length cap,.int .i64 (o:Int)] w fun e u=>e=.returned (.string ⟨(123::ct (fc L f) (eE (dZ L) n.kids) n.kids.length++[125]).toArray⟩)/\Below w.heap.size w u:=by
 have aH:=(JG.1 J).1;have aL:(o:Int)<(L.length:Int):=by omega
 obtain⟨kv,t,ad⟩:=hN.six o n J;have c0:w.cell? ⟨g,o*6,none⟩=some (.int .i64 5):=by have:=t 0 _ rfl;rw[a]at this;exact this
 have H:=t 1 _ rfl;have c2:=t 2 _ rfl;have c3:=t 3 _ rfl;have c4:=t 4 _ rfl;have c5:=t 5 _ rfl;have HN:Hid (cr B 83 (.slice (some ⟨g,0,none⟩) L.length cap) L w):=hN;have af:Hid _:=J;have al:Hid (∀k∈n.kids,k<L.length):=q;have X:Hid (∀(k:Nat) (m:Nd),L[k]?=some m->m.key.length<=100000000):=A;clear t hN J a q A;obtain⟨ac,S,rfl,hc⟩:=fM.of ad;have HF:Hid (∀k∈n.kids,∀W,Below w.heap.size w W->Calls prog 45 #[.slice (some ⟨g,0,none⟩) L.length cap,.int .i64 (k:Int)] W fun e u=>e=.returned (.string ⟨(f k).toArray⟩)/\Below W.heap.size W u):=hf;have au:Hid (∀j,j<=n.kids.length->(ct (fc L f) (eE (dZ L) n.kids) j).length<=1000000000):=an;have ay:Hid (∀k∈n.kids,(f k).length<=1000000000):=ap;clear ad hc hf an ap;go_enter func45,ntmps45;go_wp2_with fail
 have E:Hid (Below w.heap.size w (w.alloc (.cells #[.int .i64 5,.string ⟨n.key.toArray⟩,.string ⟨n.text.toArray⟩,.int .i64 n.num,.slice ac n.kids.length S,.int .i64 (n.at':Int)] 83))):=cK (cF w) _;have aa:(w.alloc (.cells #[.int .i64 5,.string ⟨n.key.toArray⟩,.string ⟨n.text.toArray⟩,.int .i64 n.num,.slice ac n.kids.length S,.int .i64 (n.at':Int)] 83)).cell? ⟨w.heap.size,0,none⟩=some (.int .i64 5):=by simp
 generalize w.alloc (.cells #[.int .i64 5,.string ⟨n.key.toArray⟩,.string ⟨n.text.toArray⟩,.int .i64 n.num,.slice ac n.kids.length S,.int .i64 (n.at':Int)] 83)=w0 at E aa ⊢;have aq:Hid _:=aa;clear aa c0 H c2 c3 c4 c5;have ae:=Bu B (.slice (some ⟨g,0,none⟩) L.length cap) L w0 (HN.out.kept fun g' _ h'=>E.out.block g' h') o n af.out al.out hb aA (fun k m h=>Ki (X.out k m h) (by decide));refine ae.mono ?_;rintro e i ⟨v1,rfl,U,x⟩;obtain⟨d,q⟩:∃d,eE (dZ L) n.kids=d:=⟨_,rfl⟩;have V:d.length=n.kids.length:=by rw[<-q];exact gj _ _
 rw[q,<-V]at U;obtain⟨aD,aI,rfl,H⟩:=fM.of U;have HC:Hid (∀j k:Nat,d[j]?=some k->∃g,aD=some ⟨g,0,none⟩/\i.cell? ⟨g,j,none⟩=some (.int .i64 (k:Int))):=H;have aw:Hid (i.cell? ⟨w.heap.size,0,none⟩=some (.int .i64 5)):=dy x aq.out;have B1:Hid (Below w.heap.size w i):=E.out.trans ⟨x.os,x.tape,x.output,x.size,fun k a=>x.block k (J0 a E.out.size)⟩;have HQ:Hid (∀(k:Nat) (m:Nd),L[k]?=some m->i.cell? ⟨g,k*6+1,none⟩=some (.string ⟨m.key.toArray⟩)):=fun k m h=>dy B1.out (HN.out.cells.1 k m h)
 have az:Hid (∀k∈d,k∈n.kids):=fun k a=>rM (dZ L) n.kids k (by rw[q];exact a)
 have av:Hid (∀j,j<=d.length->(ct (fc L f) d j).length<=1000000000):=fun j hj=>by have:=au.out j (by omega);rwa [q]at this
 have aj:Hid (eE (dZ L) n.kids=d/\d.length=n.kids.length):=⟨q,V⟩;have aG:d.length<=1000000:=by omega
 clear U H x ae HN af aq E au q V;go_wp2_with fail
 go_loopw [7,9] (fun tv iv wr=>∃(T:dv) (j:Nat),j<=d.length/\tv=.string T/\iv=.int .i64 (j:Int)/\T.data.toList=123::ct (fc L f) d j/\Below i.heap.size i wr) (fun _ iv _=>d.length-(intOf iv).toNat)
 case atStart=>exact⟨⟨#[123]⟩,0,by omega,rfl,rfl,rfl,cF _⟩
 case round=>
  obtain⟨T,j,hj,rfl,rfl,Z,s⟩:=hrel;have aN:T.size<=1000000001:=by
   have h1:=av.out j hj;have h2:T.size=T.data.toList.length:=by simp
   rw[h2,Z,JM];omega
  have am:=dy s aw.out;have HT:Hid (T.data.toList=123::ct (fc L f) d j):=Z;have r:Hid (Below i.heap.size i wr):=s;have C:Hid (Below w.heap.size w wr):=B1.out.trans ⟨s.os,s.tape,s.output,s.size,fun k a=>s.block k (J0 a B1.out.size)⟩;clear Z s;by_cases aC:j<d.length
  ·have aM:(j:Int)<(d.length:Int):=by omega
   obtain⟨k,a⟩:∃k,d[j]?=some k:=⟨_,JF aC⟩;have G:k∈n.kids:=az.out k (JZ a);have ak:=al.out k G;have aF:(k:Int)<(L.length:Int):=by omega
   obtain⟨m,D⟩:∃m,L[k]?=some m:=⟨_,JF ak⟩;obtain⟨gk,rfl,ar⟩:=HC.out j k a;have P:=dy r.out ar;have A:=dy r.out (HQ.out k m D);have ah:d.getD j 0=k:=by rw[KJ,a];rfl
   obtain⟨F,M⟩:∃F:dv,(⟨(f k).toArray⟩:dv)=F:=⟨_,rfl⟩;have ao:F.data.toList=f k:=by rw[<-M]
   have aK:F.size<=1000000000:=by rw[<-M];show(f k).toArray.size<=_;simpa using ay.out k G
   have p:=HF.out k G;rw[M]at p;have Q:Hid _:=p;obtain⟨N,K⟩:∃N:dv,(⟨(dk m.key).toArray⟩:dv)=N:=⟨_,rfl⟩;have ag:N.data.toList=dk (keyL L k):=by rw[<-K,gc D]
   have aJ:N.size<=1000000000:=by
    rw[<-K];show(dk m.key).toArray.size<=_;have h1:=ll m.key;have h2:=X.out k m D;simp[dk];omega
   have R:∀W,Calls prog 81 #[.string ⟨m.key.toArray⟩] W fun e u=>e=.returned (.string N)/\Below W.heap.size W u:=fun W=>by
    have h2:=X.out k m D;rw[<-K];simpa using Dr ⟨m.key.toArray⟩ W (by show m.key.toArray.size<=_;simp;omega)
   have O:Hid (F.data.toList=f k/\N.data.toList=dk (keyL L k)):=⟨ao,ag⟩;have ai:Hid _:=ah;clear M ao a G ar ah p K ag D ak;rcases MF j with I|I
   ·have ax:decide (0<j)=false:=by simp;omega
    have aB:decide ((0:Int)<(j:Int))=false:=by simp;omega
    have ab:Hid (j=0):=I;clear I;go_wp2_with fail
    refine(R _).mono ?_;rintro e v ⟨rfl,c⟩;have y:Hid (Below i.heap.size i v):=r.out.trans ⟨c.os,c.tape,c.output,c.size,fun k a=>c.block k (J0 a r.out.size)⟩;have aE:=dy c P;have z:Below w.heap.size w v:=C.out.trans ⟨c.os,c.tape,c.output,c.size,fun k a=>c.block k (J0 a C.out.size)⟩;have p:=Q.out v z;clear c R P A am z Q r;go_wp2_with fail
    refine p.mono ?_;rintro e Y ⟨rfl,l⟩;have B4:Hid (Below i.heap.size i Y):=y.out.trans ⟨l.os,l.tape,l.output,l.size,fun k a=>l.block k (J0 a y.out.size)⟩;clear l p;go_wp2_with fail
    go_roundw
    case rel=>
     refine⟨T++N++⟨#[58]⟩++F,j+1,by omega,rfl,by go_num,?_,B4.out⟩;simp only[Ld,KK];rw[HT.out,O.out.1,O.out.2,ct,if_pos ab.out,ai.out,fc];simp
    case measure=>simp[intOf];omega
   ·have ax:decide (0<j)=true:=by simp;omega
    have ab:Hid (0<j):=I;go_wp2_with fail
    refine(R _).mono ?_;rintro e v ⟨rfl,c⟩;have y:Hid (Below i.heap.size i v):=r.out.trans ⟨c.os,c.tape,c.output,c.size,fun k a=>c.block k (J0 a r.out.size)⟩;have aE:=dy c P;have z:Below w.heap.size w v:=C.out.trans ⟨c.os,c.tape,c.output,c.size,fun k a=>c.block k (J0 a C.out.size)⟩;have p:=Q.out v z;clear c R P A am z Q r;go_wp2_with fail
    refine p.mono ?_;rintro e Y ⟨rfl,l⟩;have B4:Hid (Below i.heap.size i Y):=y.out.trans ⟨l.os,l.tape,l.output,l.size,fun k a=>l.block k (J0 a y.out.size)⟩;clear l p;go_wp2_with fail
    go_roundw
    case rel=>
     refine⟨T++⟨#[44]⟩++N++⟨#[58]⟩++F,j+1,by omega,rfl,by go_num,?_,B4.out⟩;simp only[Ld,KK];rw[HT.out,O.out.1,O.out.2,ct,if_neg (by have:=ab.out;omega),ai.out,fc];simp
    case measure=>simp[intOf];omega
  ·obtain rfl:j=d.length:=by omega
   go_wp2_with fail
   go_ret;refine⟨?_,C.out⟩;have e:T++⟨#[125]⟩=⟨(123::ct (fc L f) (eE (dZ L) n.kids) n.kids.length++[125]).toArray⟩:=by
    apply ByteArray.ext;rw[Ld];apply Array.toList_inj.1;rw[KK,HT.out,aj.out.1,aj.out.2]
   exact KV (fun b=>Ending.returned (Value.string b)) e
theorem E7(B g cap:Nat)(L:oa)(b:nJ L)(m:q9 L):∀(f k:Nat),k<L.length->L.length-k<=f->∀w,cr B 83 (.slice (some ⟨g,0,none⟩) L.length cap) L w->Calls prog 45 #[.slice (some ⟨g,0,none⟩) L.length cap,.int .i64 (k:Int)] w fun e r=>e=.returned (.string ⟨(formN L f k).toArray⟩)/\Below w.heap.size w r:=by
 intro f;induction f with
 | zero=>intro k s A;omega
 | succ f ih=>
   intro k s A w d;obtain⟨n,a⟩:∃n,L[k]?=some n:=⟨_,JF s⟩;have C:=b.kind k n a;have u:=b.kids k n a;have t:∀c∈n.kids,∀W,Below w.heap.size w W->Calls prog 45 #[.slice (some ⟨g,0,none⟩) L.length cap,.int .i64 (c:Int)] W fun e r=>e=.returned (.string ⟨(formN L f c).toArray⟩)/\Below W.heap.size W r:=by
    intro c o W y;obtain⟨i,j⟩:=u c o;exact ih c j (by omega) W (d.kept fun x _ z=>y.block x z)
   unfold formN;rw[a];simp only;by_cases q:n.kind=0
   ·rw[if_pos q];exact Gs B g cap L w d k n a b.len q
   rw[if_neg q];by_cases i:n.kind=1
   ·rw[if_pos i]
    rcases b.truth k n a i with h|h
    ·rw[if_neg (by omega)];exact Gf B g cap L w d k n a b.len i h
    ·rw[if_pos h];exact Ge B g cap L w d k n a b.len i h
   rw[if_neg i];by_cases j:n.kind=2
   ·rw[if_pos j];exact FX B g cap L w d k n a b.len j (b.lo k n a) (b.hi k n a)
   rw[if_neg j];by_cases p:n.kind=3
   ·rw[if_pos p];exact Gj B g cap L w d k n a b.len p (Ki (b.text k n a) (by decide))
   rw[if_neg p];by_cases l:n.kind=4
   ·rw[if_pos l];exact Fo B g cap L w d k n a b.len l (b.few k n a) (formN L f) t (m.arr f k n a l) (fun c _=>m.one f c)
   rw[if_neg l];have v:n.kind=5:=by omega
   exact Fl B g cap L w d k n a b.len v (b.few k n a) (formN L f) t (fun c o=>(u c o).2) b.key (m.obj f k n a v) (fun c _=>m.one f c)
def knd:JT->Nat| .null _=>0| .truth _ _=>1| .int _ _=>2| .str _ _=>3| .arr _ _=>4| .obj _ _=>5
def zx:JT->Int| .truth b _=>if b then 1 else 0| .int n _=>n|_=>0
section
variable (Z:Nat) (s:dv) (i:Nat) (Y:Va) (X:Nat) (w:Wd)
def WP(R:JR JT)(r:Ending)(w':Wd):Prop:=
 match R with
 | .ok (t,n)=>r=.returned (.tuple #[.int .i64 (knd t:Int),.int .i64 (zx t)])/\CD Z s (i+n) Y X w'
 | .error (e,a)=>r=.panicked (gI e a)/\∃j,CD Z s j Y X w'
set_option maxHeartbeats 1000000 in
theorem Ix(F:s.size<=140737488340000)(h:CD Z s i Y X w)(z:i<=s.size):Calls prog 211 #[.pointer (some ⟨Z,0,none⟩)] w fun r t=>WP Z s i Y X (df (b9 s i) i) r t/\ca Z w t:=by
 have b:=qe Z s i Y X w (by omega) h z;rw[zY]at b;have y:=fun t=>jn 2 i t
 generalize f:i+nl (b9 s i)=p at b;have j:i<=p/\p<=s.size:=by have:=qo jJ (b9 s i);rw[zY,cx]at this;omega
 obtain⟨H,C,D,G,B⟩:=h.cell;by_cases c:(s.extract i p).toList=[116,114,117,101]
 ·have u:((s.extract i p).toList==[110,117,108,108])=false:=by rw[c];rfl
  have x:((s.extract i p).toList==[102,97,108,115,101])=false:=by rw[c];rfl
  have A:((s.extract i p).toList==[116,114,117,101])=true:=by rw[c];rfl
  obtain⟨g,o⟩:=qp f j c;have m:Hid _:=g;have q:Hid (i+4=p):=by show i+4=p;omega
  clear c g o f j;go_enter func211,ntmps211;go_wp2_with fail
  refine b.mono ?_;rintro e v ⟨rfl,l,a⟩;have k:Hid _:=a;clear a b;go_wp2;go_ret2
  refine⟨?_,k.out⟩;rw[m.out];exact⟨rfl,by rw[q.out];exact l⟩
 ·have A:((s.extract i p).toList==[116,114,117,101])=false:=by rw[JJ];exact c
  by_cases d:(s.extract i p).toList=[102,97,108,115,101]
  ·have u:((s.extract i p).toList==[110,117,108,108])=false:=by rw[d];rfl
   have x:((s.extract i p).toList==[102,97,108,115,101])=true:=by rw[d];rfl
   obtain⟨g,o⟩:=qu f j d;have m:Hid _:=g;have q:Hid (i+5=p):=by show i+5=p;omega
   clear c d g o f j;go_enter func211,ntmps211;go_wp2_with fail
   refine b.mono ?_;rintro e v ⟨rfl,l,a⟩;have k:Hid _:=a;clear a b;go_wp2;go_ret2
   refine⟨?_,k.out⟩;rw[m.out];exact⟨rfl,by rw[q.out];exact l⟩
  ·have x:((s.extract i p).toList==[102,97,108,115,101])=false:=by rw[JJ];exact d
   by_cases n:(s.extract i p).toList=[110,117,108,108]
   ·have u:((s.extract i p).toList==[110,117,108,108])=true:=by rw[n];rfl
    obtain⟨g,o⟩:=qm f j n;have m:Hid _:=g;have q:Hid (i+4=p):=by show i+4=p;omega
    clear c d n g o f j;go_enter func211,ntmps211;go_wp2_with fail
    refine b.mono ?_;rintro e v ⟨rfl,l,a⟩;have k:Hid _:=a;clear a b;go_wp2;go_ret2
    refine⟨?_,k.out⟩;rw[m.out];exact⟨rfl,by rw[q.out];exact l⟩
   ·have u:((s.extract i p).toList==[110,117,108,108])=false:=by rw[JJ];exact n
    have m:Hid _:=ql f j c d n;clear c d n f j;go_enter func211,ntmps211;go_wp2_with fail
    refine b.mono ?_;rintro e v ⟨rfl,l,a⟩;have k:Hid _:=a;clear a b;go_wp2_with fail
    refine(y _).mono ?_;rintro e E ⟨rfl,rfl⟩;clear y;go_wp2;refine⟨rfl,?_,k.out⟩;rw[m.out];exact⟨rfl,p,l⟩
end
theorem DZ:∀(l:dj) (a u:Nat),Lib.parseUint10 a l=.ok u->a<=u
 | [],a,u,h=>by rw[Lib.parseUint10]at h;injection h with h;omega
 | c::r,a,u,h=>by
   rw[Lib.parseUint10]at h;split at h
   ·split at h
    ·cases h
    ·split at h
     ·cases h
     ·have:=DZ r _ u h;omega
   ·cases h
theorem tC:∀(l:dj) (a:Nat),(∀c∈l,d8 c=true)->Lib.parseUint10 a l≠.syntax
 | [],a,_=>by rw[Lib.parseUint10];intro h;cases h
 | c::r,a,hd=>by
   rw[Lib.parseUint10,if_pos ((kF c).1 (hd c (by simp)))];split
   ·intro h;cases h
   ·split
    ·intro h;cases h
    ·exact tC r _ (fun x b=>hd x (by simp[b]))
theorem sB:∀(l:dj) (a:Nat),cH<a->accN a l=a
 | [],a,_=>rfl
 | c::r,a,h=>by rw[accN,if_neg (by omega)];exact sB r a h
theorem ut:∀(l:dj) (a:Nat),(∀c∈l,d8 c=true)->a<=cH->(accN a l<=cH->Lib.parseUint10 a l=.ok (accN a l))/\(cH<accN a l->Lib.parseUint10 a l=.range\/∃u,cH<u/\Lib.parseUint10 a l=.ok u)
 | [],a,_,ha=>⟨fun _=>rfl,fun h=>by rw[accN]at h;omega⟩
 | c::r,a,hd,ha=>by
   have j:=(kF c).1 (hd c (by simp));have b:∀x∈r,d8 x=true:=fun x g=>hd x (by simp[g])
   unfold cH at *;have e:Lib.parseUint10 a (c::r)=Lib.parseUint10 (a*10+(c.toNat-48)) r:=by
    rw[Lib.parseUint10,if_pos j,if_neg (by omega),if_neg (by omega)]
   rw[e,accN,if_pos (by unfold cH;exact ha),show 10*a+(c.toNat-48)=a*10+(c.toNat-48)by omega];by_cases d:a*10+(c.toNat-48)<=9007199254740991
   ·exact ut r _ b d
   ·have i:=sB r (a*10+(c.toNat-48)) (by unfold cH;omega)
    rw[i];refine⟨fun h=>absurd h d,fun _=>?_⟩;cases f:Lib.parseUint10 (a*10+(c.toNat-48)) r with
    | ok u=>exact .inr ⟨u,by have:=DZ _ _ _ f;omega,rfl⟩
    | «syntax» =>exact absurd f (tC r _ b)
    | range=>exact .inl rfl
def PI(T:Nat)(V:Int)(R:Lib.NumEnd Int):Prop:=
 (T<=cH/\R=.ok V)\/(cH<T/\(R=.range\/∃v,R=.ok v/\(v< -9007199254740991\/9007199254740991<v)))
theorem Co(l:dj)(f:l≠[])(b:∀c∈l,d8 c=true):PI (accN 0 l) (accN 0 l:Int) (Lib.parseIntB 64 l):=by
 rw[Lib.parseIntB_64];obtain⟨g,k⟩:=ut l 0 b (by unfold cH;omega);match l,f with
 | c::r,_=>
   have m:=(kF c).1 (b c (by simp));have e:Lib.atoiAll (c::r)=match Lib.parseUint10 0 (c::r)with| .syntax=>.syntax| .range=>.range| .ok u=>if 9223372036854775808<=u then .range else .ok (u:Int):=by
    unfold Lib.atoiAll Lib.parseMag;have j:¬c.toNat=43:=by omega
    have d:¬c.toNat=45:=by omega
    simp only[j,d,or_self,L1,not_false_eq_true,true_and,false_and,reduceCtorEq];cases Lib.parseUint10 0 (c::r)<;>rfl
   rw[e];by_cases a:accN 0 (c::r)<=cH
   ·refine .inl ⟨a,?_⟩
    rw[g a];simp only;unfold cH at a;rw[if_neg (by omega)]
   ·refine .inr ⟨by omega,?_⟩
    rcases k (by omega)with h|⟨u,i,h⟩
    ·rw[h];exact .inl rfl
    ·rw[h]
     simp only;split
     ·exact .inl rfl
     ·refine .inr ⟨_,rfl,.inr ?_⟩
      unfold cH at i;omega
theorem Aw(l:dj)(g:l≠[])(i:∀c∈l,d8 c=true):PI (accN 0 l) (-(accN 0 l:Int)) (Lib.parseIntB 64 (45::l)):=by
 rw[Lib.parseIntB_64];obtain⟨b,d⟩:=ut l 0 i (by unfold cH;omega);have e:Lib.atoiAll (45::l)=match Lib.parseUint10 0 l with| .syntax=>.syntax| .range=>.range| .ok u=>if 9223372036854775808<u then .range else .ok (-(u:Int)):=by
  unfold Lib.atoiAll Lib.parseMag;simp only[show(45:UInt8).toNat=45 from rfl,or_true,if_true,g,L1,not_true_eq_false,false_and,true_and];cases Lib.parseUint10 0 l<;>rfl
 rw[e];by_cases a:accN 0 l<=cH
 ·refine .inl ⟨a,?_⟩
  rw[b a];simp only;unfold cH at a;rw[if_neg (by omega)]
 ·refine .inr ⟨by omega,?_⟩
  rcases d (by omega)with h|⟨u,f,h⟩
  ·rw[h];exact .inl rfl
  ·rw[h]
   simp only;split
   ·exact .inl rfl
   ·refine .inr ⟨_,rfl,.inl ?_⟩
    unfold cH at f;omega
theorem zH(l:dj):∀c∈l.take (nd l),d8 c=true:=by
 induction l with
 | nil=>intro c h;simp at h
 | cons a r ih=>
   intro c h;rw[nd]at h;split at h
   ·next ha=>
    rw[LW]at h;rcases Ke.1 h with h|h
    ·subst h;exact ha
    ·exact ih c h
   ·simp at h
def NK(B:Nat)(tN:TypeId)(v:Va)(kvs:rt)(ns:oa)(w:Wd):Prop:=
 kvs.length=ns.length/\w.ownsRow B tN 6 v ns.length (dl ns kvs)/\(∀(k:Nat) (n:Nd) (kv:Va),ns[k]?=some n->kvs[k]?=some kv->w.ownsRow B 3 1 kv n.kids.length (n.kids.map iV))/\(∀(j k:Nat) (a b:Va),j≠k->kvs[j]?=some a->kvs[k]?=some b->a.ownBlock≠none->a.ownBlock≠b.ownBlock)
theorem NK.nodes{B:Nat}{b:TypeId}{v:Va}{kvs:rt}{a:oa}{w:Wd}(h:NK B b v kvs a w):cr B b v a w:=⟨kvs,h⟩
def own(v:Va)(kvs:rt)(k:Nat):Prop:=v.ownBlock=some k\/∃kv∈kvs,kv.ownBlock=some k
theorem NK.own_lt{B:Nat}{f:TypeId}{v:Va}{kvs:rt}{b:oa}{w:Wd}(h:NK B f v kvs b w){k:Nat}(a:own v kvs k):B<=k/\k<w.heap.size:=by
 obtain⟨l,d,c,n⟩:=h;rcases a with a|⟨m,g,a⟩
 ·have:=cc d a;exact⟨this.1,this.2.1⟩
 ·obtain⟨j,i,rfl⟩:=MR g
  have e:j<b.length:=by omega
  have:=cc (c j b[j] kvs[j] (JF e) (JF i)) a;exact⟨this.1,this.2.1⟩
theorem fw{w w':Wd}{B f n:Nat}{e:TypeId}{v:Va}{xs:rt}(h:w.ownsRow B e f v n xs)(j:∀g,v.ownBlock=some g->w'.heap[g]?=w.heap[g]?):w'.ownsRow B e f v n xs:=by
 refine⟨h.1,?_⟩;rcases h.2 with h|⟨g,k,i,a,b,c,d⟩
 ·exact .inl h
 ·exact .inr ⟨g,k,i,a,b,(j g (by rw[a];rfl)).trans c,d⟩
theorem NK.kept{B:Nat}{f:TypeId}{v:Va}{kvs:rt}{i:oa}{w w':Wd}(h:NK B f v kvs i w)(e:∀g,own v kvs g->w'.heap[g]?=w.heap[g]?):NK B f v kvs i w':=by
 obtain⟨j,m,l,o⟩:=h;exact⟨j,fw m (fun g c=>e g (.inl c)),fun k n d a b=>fw (l k n d a b) (fun g c=>e g (.inr ⟨d,JZ b,c⟩)),o⟩
theorem NK.onl{B a:Nat}{c:TypeId}{v:Va}{kvs:rt}{b:oa}{w w':Wd}(h:NK B c v kvs b w)(d:ca a w w')(i:a<B):NK B c v kvs b w':=
 h.kept fun g f=>by
  have:=h.own_lt f;exact d.block g this.2 (fun e=>by injection e with e;omega)
theorem NK.alloc{B:Nat}{b:TypeId}{v:Va}{kvs:rt}{a:oa}{w:Wd}(h:NK B b v kvs a w)(o:Obj):NK B b v kvs a (w.alloc o):=
 h.kept fun g c=>JO _ _ (h.own_lt c).2
theorem NK.nil(B:Nat)(c:TypeId)(w:Wd):NK B c (.slice none 0 0) [] [] w:=
 ⟨rfl,⟨rfl,.inl ⟨rfl,rfl⟩⟩,fun k n d a b=>(by simp at a),fun j k a b _ h _ _=>(by simp at h)⟩
theorem NK.shape{B:Nat}{d:TypeId}{v:Va}{kvs:rt}{a:oa}{w:Wd}(h:NK B d v kvs a w):∃b c,v=.slice b a.length c:=h.nodes.shape
theorem NK.push{B:Nat}{l:TypeId}{v y:Va}{c:oa}{nd:Nd}{kvs:rt}{w q:Wd}(r:kvs.length=c.length)(z:w.ownsRow B l 6 v c.length (dl c kvs))(G:∀(k:Nat) (n:Nd) (i:Va),c[k]?=some n->kvs[k]?=some i->w.ownsRow B 3 1 i n.kids.length (n.kids.map iV))(C:∀(j k:Nat) (a b:Va),j≠k->kvs[j]?=some a->kvs[k]?=some b->a.ownBlock≠none->a.ownBlock≠b.ownBlock)(E:q.ownsRow B l 6 y (c.length+1) (dl c kvs++cz nd (.slice none 0 0)))(J:∀g,g<w.heap.size->some g≠v.ownBlock->q.heap[g]?=w.heap[g]?)(K:l≠3)(H:nd.kids=[]):NK B l y (kvs++[.slice none 0 0]) (c++[nd]) q:=by
 refine⟨by simp[r],?_,?_,?_⟩
 ·rw[nR c kvs [nd] [.slice none 0 0] r,JH]
  have e:dl [nd] [.slice none 0 0]=cz nd (.slice none 0 0):=by simp[dl]
  rw[e];exact E
 ·intro k n i f h
  by_cases F:k<c.length
  ·rw[J4 F]at f
   rw[J4 (by omega)]at h;exact iy K z (G k n i f h) J
  ·have D:k=c.length:=by
    have:=(JG.1 f).1;simp at this;omega
   subst D;rw[J9 (JQ _)]at f;rw[<-r,J9 (JQ _)]at h;simp at f h;subst f;subst h;rw[H];exact⟨rfl,.inl ⟨rfl,rfl⟩⟩
 ·intro j k a b A p o s
  have t:∀{m:Nat} {x:Va},(kvs++[Value.slice none 0 0])[m]?=some x->(m<kvs.length/\kvs[m]?=some x)\/x=.slice none 0 0:=by
   intro m x d;by_cases u:m<kvs.length
   ·left;rw[J4 u]at d;exact⟨u,d⟩
   ·right
    rw[J9 (by omega)]at d;have:=(JG.1 d).1;have I:m-kvs.length=0:=by simp at this;omega
    rw[I]at d;simpa using d.symm
  rcases t p with⟨_,p⟩|rfl
  ·rcases t o with⟨_,o⟩|rfl
   ·exact C j k a b A p o s
   ·simpa [Value.ownBlock]using s
  ·exact absurd rfl s
theorem NK.kid{B:Nat}{F:TypeId}{v:Va}{i:oa}{kvs:rt}{w l:Wd}(N:kvs.length=i.length)(L:w.ownsRow B F 6 v i.length (dl i kvs))(O:∀(k:Nat) (n:Nd) (kv:Va),i[k]?=some n->kvs[k]?=some kv->w.ownsRow B 3 1 kv n.kids.length (n.kids.map iV))(I:∀(j k:Nat) (a b:Va),j≠k->kvs[j]?=some a->kvs[k]?=some b->a.ownBlock≠none->a.ownBlock≠b.ownBlock)(u k g C gL:Nat)(n:Nd)(kv:Va)(J:i[u]?=some n)(K:kvs[u]?=some kv)(af:l.ownsRow B 3 1 (.slice (some ⟨g,0,none⟩) (n.kids.length+1) C) (n.kids.length+1) (n.kids.map iV++[iV k]))(ab:∀f,f<w.heap.size->some f≠kv.ownBlock->l.heap[f]?=w.heap[f]?)(t:kv.ownBlock=some g\/w.heap.size<=g)(s:v.ownBlock=some gL)(W:F≠3):NK B F v (kvs.set u (.slice (some ⟨g,0,none⟩) (n.kids.length+1) C)) (i.modify u (fun n=>{n with kids:=n.kids++[k]})) (l.setCell ⟨gL,u*6+4,none⟩ (.slice (some ⟨g,0,none⟩) (n.kids.length+1) C)):=by
 have ao:=(JG.1 J).1;have ai:=O u n kv J K;have ah:=jN W L ai s;have ak:l.ownsRow B F 6 v i.length (dl i kvs):=by
  refine⟨L.1,?_⟩;rcases L.2 with h|⟨f,p,o,a,b,c,d⟩
  ·exact .inl h
  ·refine .inr ⟨f,p,o,a,b,(ab f (go.1 c).1 (fun e=>?_)).trans c,d⟩
   rw[a]at s;simp[Value.ownBlock]at s;exact ah (by rw[<-s];exact e.symm)
 obtain⟨p,o,hv,hB,D,al,ae,an,aj⟩:∃p o,v=.slice (some ⟨gL,0,none⟩) i.length p/\B<=gL/\l.heap[gL]?=some (.cells o F (0,0))/\i.length<=p/\p<=maxLen/\o.size=p*6/\o.toList.take (i.length*6)=dl i kvs:=by
  rcases ak.2 with⟨h,_⟩|⟨f,p,o,a,b,c,d⟩
  ·rw[h]at s;simp[Value.ownBlock]at s
  ·rw[a]at s
   simp[Value.ownBlock]at s;subst s;exact⟨p,o,a,b,c,d⟩
 have ag:=JV l gL (u*6+4) o F (0,0) (.slice (some ⟨g,0,none⟩) (n.kids.length+1) C) D;rw[ag];have ad:∀f,f≠gL->(l.setRow gL (o.setIfInBounds (u*6+4) (.slice (some ⟨g,0,none⟩) (n.kids.length+1) C))).heap[f]?=l.heap[f]?:=fun f h=>Kg l gL f _ h
 have ac:∀{E:Va} {m:Nat} {M:rt},l.ownsRow B 3 1 E m M->(l.setRow gL (o.setIfInBounds (u*6+4) (.slice (some ⟨g,0,none⟩) (n.kids.length+1) C))).ownsRow B 3 1 E m M:=by
  intro E m M h;refine⟨h.1,?_⟩;rcases h.2 with T|⟨f,R,S,a,b,c,d⟩
  ·exact .inl T
  ·refine .inr ⟨f,R,S,a,b,(ad f ?_).trans c,d⟩
   intro e;subst e;rw[c]at D;injection D with D;injection D with _ e2 _;exact W e2.symm
 refine⟨by simp[N],?_,?_,?_⟩
 ·rw[tu i kvs u k n _ N J,List.length_modify]
  refine⟨by rw[List.length_set,rowN_length i kvs N],.inr ⟨gL,p,_,hv,hB,J7 l gL _ _ _ _ D,al,ae,by simpa using an,?_⟩⟩;rw[KN,<-aj,M9]
 ·intro j m E G z
  by_cases A:j=u
  ·subst A
   rw[MY,J]at G;simp at G;subst G;rw[LN (by omega)]at z;injection z with z;subst z;simp only[JH,Mb,Kj,JW,Ko];exact ac af
  ·rw[MZ _ _ (Ne.symm A)]at G
   rw[Lx (Ne.symm A)]at z;have Z:=O j m E G z;refine ac ⟨Z.1,?_⟩;rcases Z.2 with T|⟨f,R,S,a,b,c,d⟩
   ·exact .inl T
   ·refine .inr ⟨f,R,S,a,b,(ab f (go.1 c).1 ?_).trans c,d⟩
    intro e;refine I j u E kv A z K (by rw[a];simp[Value.ownBlock]) ?_;rw[a,<-e];rfl
 ·intro j m a b H y r V
  have X:∀{q:Nat} {x:Va} {P:Nat},kvs[q]?=some x->x.ownBlock=some P->P<w.heap.size:=by
   intro q x P Y hx;have am:q<i.length:=by have:=(JG.1 Y).1;omega
   exact(cc (O q i[q] x (JF am) Y) hx).2.1
  by_cases A:j=u
  ·subst A
   rw[LN (by omega)]at y;rw[Lx H]at r;injection y with y;subst y;intro e;have Q:b.ownBlock=some g:=by rw[<-e];rfl
   rcases t with t|t
   ·exact I m j b kv (Ne.symm H) r K (by rw[Q];simp) (by rw[Q,t])
   ·have:=X r Q;omega
  ·rw[Lx (Ne.symm A)]at y
   by_cases U:m=u
   ·subst U
    rw[LN (by omega)]at r;injection r with r;subst r;intro e;have aa:a.ownBlock=some g:=by rw[e];rfl
    rcases t with t|t
    ·exact I j m a kv H y K V (by rw[aa,t])
    ·have:=X y aa;omega
   ·rw[Lx (Ne.symm U)]at r
    exact I j m a b H y r V
structure cZ (bp:Nat) (O:Nat->Prop) (w:Wd) (O':Nat->Prop) (w':Wd):Prop where
 os:w'.os=w.os
 tape:w'.tape=w.tape
 output:w'.output=w.output
 size:w.heap.size<=w'.heap.size
 block:∀k,k<w.heap.size->k≠bp->¬O k->w'.heap[k]?=w.heap[k]?
 own:∀k,O' k->O k\/w.heap.size<=k
theorem cZ.trans{f:Nat}{O i n:Nat->Prop}{a b c:Wd}(h:cZ f O a i b)(g:cZ f i b n c):cZ f O a n c:=by
 refine⟨g.os.trans h.os,g.tape.trans h.tape,g.output.trans h.output,Ki h.size g.size,fun k e m j=>?_,fun k e=>?_⟩
 ·refine(g.block k (J0 e h.size) m (fun d=>?_)).trans (h.block k e m j)
  rcases h.own k d with l|l
  ·exact j l
  ·omega
 ·rcases g.own k e with d|d
  ·exact h.own k d
  ·exact .inr (Ki h.size d)
theorem ca.chg{a:Nat}{w w':Wd}(h:ca a w w')(O:Nat->Prop):cZ a O w O w':=
 ⟨h.os,h.tape,h.output,h.size,fun k b c _=>h.block k b (fun e=>by injection e with e;exact c e),fun _ h=>.inl h⟩
theorem iK(a:Nat)(O:Nat->Prop)(w:Wd)(o:Obj):cZ a O w O (w.alloc o):=
 ⟨rfl,rfl,rfl,by simp,fun k b _ _=>JO _ _ b,fun _ h=>.inl h⟩
theorem GV.chg{a:Nat}{w w':Wd}{O c:Nat->Prop}(h:GV w)(d:cZ a O w c w')(f:9<=a)(g:a<w.heap.size)(b:∀k,O k->a<k):GV w':=
 h.kept fun k e=>d.block k (by omega) (by omega) (fun h=>by have:=b k h;omega)
structure CN (bp:Nat) (s:dv) (i:Nat) (ns:oa) (dp:Nat) (vL:Va) (kvs:rt) (w:Wd):Prop where
 cd:CD bp s i vL dp w
 nk:NK (bp+1) 150 vL kvs ns w
section
variable {Z:Nat} {s:dv} {i:Nat} {W:oa} {X:Nat} {Y:Va} {kvs:rt} {w w':Wd}
theorem CN.onl(h:CN Z s i W X Y kvs w){j:Nat}(b:CD Z s j Y X w')(a:ca Z w w'):CN Z s j W X Y kvs w':=⟨b,h.nk.onl a (by omega)⟩
theorem CN.alloc(h:CN Z s i W X Y kvs w)(o:Obj):CN Z s i W X Y kvs (w.alloc o):=⟨h.cd.alloc o,h.nk.alloc o⟩
theorem CN.above(h:CN Z s i W X Y kvs w)(k:Nat)(a:own Y kvs k):Z<k:=(h.nk.own_lt a).1
end
theorem D3:∀(b:oa) (a:rt) (u j:Nat) (n:Nd) (c:Va),a.length=b.length->b[u]?=some n->a[u]?=some c->j<6->(dl b a)[u*6+j]?=(cz n c)[j]?:=by
 intro b;induction b with
 | nil=>intro a u j n c h d;simp at d
 | cons m b ih=>
   intro a u j n c h d f g;match a,h with
   | v::a,h=>
     match u with
     | 0=>
       simp at d f;subst d;subst f;rw[dl,Lk,J3,J4 (by simpa [cz]using g)]
     | u+1=>
       have e:(u+1)*6+j=(cz m v).length+(u*6+j):=by simp[cz];omega
       rw[dl,e,J9 (Mu _ _),KZ];exact ih a u j n c (by simpa using h) (by simpa using d) (by simpa using f) g
theorem Cf(f:Nd->Nd)(j:Nat)(g:Va)(k:∀n d,cz (f n) d=(cz n d).set j g)(l:j<6):∀(b:oa) (a:rt) (u:Nat),a.length=b.length->u<b.length->dl (b.modify u f) a=(dl b a).set (u*6+j) g:=by
 intro b;induction b with
 | nil=>intro a u h c;simp at c
 | cons m b ih=>
   intro a u h c;match a,h with
   | v::a,h=>
     match u with
     | 0=>
       simp only[List.modify_zero_cons,dl,k,Lk,J3];rw[List.set_append_left _ _ (by simpa [cz]using l)]
     | u+1=>
       have i:a.length=b.length:=by simpa using h
       have:=ih a u i (by simpa using c);simp only[Mi,dl];rw[this];have e:(u+1)*6+j=(cz m v).length+(u*6+j):=by simp[cz];omega
       rw[e,Mh _ _ (Mu _ _),KZ]
section
variable {B:Nat} {Y:TypeId} {v:Va} {kvs:rt} {Z:oa} {w:Wd}
theorem NK.at(h:NK B Y v kvs Z w){g:Nat}(b:v.ownBlock=some g){u j:Nat}{n:Nd}{kv:Va}(l:Z[u]?=some n)(i:kvs[u]?=some kv)(k:j<6){x:Va}(d:(cz n kv)[j]?=some x):w.cell? ⟨g,u*6+j,none⟩=some x/\w.frozen? ⟨g,u*6+j,none⟩=false:=by
 obtain⟨c,a,m,o⟩:=h;obtain⟨_,_,p,f⟩:=cc a b;refine⟨?_,by simp[World.frozen?,f]⟩;have:=a.cells (g:=g) b (u*6+j) _ ((D3 Z kvs u j n kv c l i k).trans d);have e:(⟨g,0,none⟩:Addr).add (u*6+j)=⟨g,u*6+j,none⟩:=by unfold Addr.add;split<;>simp_all
 rwa [e]at this
theorem NK.put(h:NK B Y v kvs Z w){gL:Nat}(q:v.ownBlock=some gL)(f:Nd->Nd)(j:Nat)(s:Va)(M:∀n r,cz (f n) r=(cz n r).set j s)(R:∀n,(f n).kids=n.kids)(P:j<6)(u:Nat)(O:u<Z.length)(K:Y≠3):NK B Y v kvs (Z.modify u f) (w.setCell ⟨gL,u*6+j,none⟩ s):=by
 obtain⟨t,G,y,N⟩:=h;obtain⟨i,o,H,L,x,S,F,U,Q⟩:∃i o,v=.slice (some ⟨gL,0,none⟩) Z.length i/\B<=gL/\w.heap[gL]?=some (.cells o Y (0,0))/\Z.length<=i/\i<=maxLen/\o.size=i*6/\o.toList.take (Z.length*6)=dl Z kvs:=by
  rcases G.2 with⟨h,_⟩|⟨V,i,o,a,b,c,d⟩
  ·rw[h]at q;simp[Value.ownBlock]at q
  ·rw[a]at q
   simp[Value.ownBlock]at q;subst q;exact⟨i,o,a,b,c,d⟩
 have I:=JV w gL (u*6+j) o Y (0,0) s x;rw[I];refine⟨by simpa using t,?_,?_,N⟩
 ·rw[Cf f j s M P Z kvs u t O,List.length_modify]
  refine⟨by rw[List.length_set,rowN_length Z kvs t],.inr ⟨gL,i,_,H,L,J7 w gL _ _ _ _ x,S,F,by simpa using U,?_⟩⟩;rw[KN,<-Q,M9]
 ·intro k m r l D
  have T:∃n,Z[k]?=some n/\m.kids=n.kids:=by
   by_cases z:k=u
   ·subst z
    rw[MY]at l;cases A:Z[k]? with
    | none=>rw[A]at l;cases l
    | some n=>rw[A]at l;simp at l;exact⟨n,rfl,by rw[<-l];exact R n⟩
   ·rw[MZ _ _ (Ne.symm z)]at l;exact⟨m,l,rfl⟩
  obtain⟨n,C,E⟩:=T;rw[E];refine fw (y k n r C D) (fun g J=>Kg w gL g _ ?_);intro e;subst e;obtain⟨_,_,W,p⟩:=cc (y k n r C D) J;rw[x]at p;injection p with p;injection p with _ p _;exact K p
theorem lD{gL k:Nat}{o:Nat}{b:Va}{d:Array Value}{t:TypeId}{e:Nat×Nat}(c:w.heap[gL]?=some (.cells d t e))(a:k≠gL):(w.setCell ⟨gL,o,none⟩ b).heap[k]?=w.heap[k]?:=by
 rw[JV w gL o _ _ _ _ c];exact Kg w gL k _ a
end
section
variable {Y:Nat} {s:dv} {i:Nat} {X:oa} {W:Nat} {Z:Va} {kvs:rt} {w:Wd}
theorem CN.put(h:CN Y s i X W Z kvs w){gL:Nat}(b:Z.ownBlock=some gL)(f:Nd->Nd)(j:Nat)(a:Va)(m:∀n d,cz (f n) d=(cz n d).set j a)(g:∀n,(f n).kids=n.kids)(p:j<6)(u:Nat)(o:u<X.length):CN Y s i (X.modify u f) W Z kvs (w.setCell ⟨gL,u*6+j,none⟩ a)/\cZ Y (own Z kvs) w (own Z kvs) (w.setCell ⟨gL,u*6+j,none⟩ a):=by
 obtain⟨t,r,x,c⟩:=cc h.nk.2.1 b;refine⟨⟨?_,h.nk.put b f j a m g p u o (by decide)⟩,?_⟩
 ·unfold CD;rw[lD c (by omega)];exact h.cd
 ·have e:=JV w gL (u*6+j) _ _ _ a c
  refine⟨by rw[e];rfl,by rw[e];rfl,by rw[e];rfl,by rw[e];simp[World.setRow],fun k q v l=>?_,fun k h=>.inl h⟩;exact lD c (fun e=>l (.inl (by rw[e];exact b)))
end
def VQ(bp:Nat)(s:dv)(i:Nat)(ns:oa)(key:dj)(dp:Nat)(O:Nat->Prop)(w:Wd)(ret:Va)(r:Ending)(w':Wd):JR JT->Prop
 | .ok (t,n)=>r=.returned ret/\∃vL' kvs',CN bp s (i+n) (ns++flat ns.length key t) dp vL' kvs' w'/\cZ bp O w (own vL' kvs') w'
 | .error (e,a)=>0<e/\r=.panicked (gI e a)/\cZ bp O w (fun _=>False) w'
theorem cZ.drop{a:Nat}{O b:Nat->Prop}{w w':Wd}(h:cZ a O w b w'):cZ a O w (fun _=>False) w':=⟨h.os,h.tape,h.output,h.size,h.block,fun _ h=>h.elim⟩
def ev(l:dj)(i:Nat):JR JT:=
 match l with
 | []=>.error (2,i)
 | c::_=>
   if c=34 then(match da l with| .error o=>.error (2,i+o)| .ok (t,n)=>.ok (.str t i,n))
   else if c=45\/d8 c=true then(match di l with| .error (e,o)=>.error (e,i+o)| .ok (n,k)=>.ok (.int n i,k))
   else if c=116\/c=102\/c=110 then df l i
   else .error (2,i)
theorem wq(d:Nat)(l:dj)(i:Nat)(h:l.head?≠some 91)(b:l.head?≠some 123):valL d l i=ev l i:=by
 match l with
 | []=>rw[eK];rfl
 | c::r=>
   have e:c≠91:=by simpa using h
   have a:c≠123:=by simpa using b
   rw[cG,ev];simp only[e,a,or_self,L1];rfl
end Go.Proofs.YtihboehpeehlmaaGreatDoor
