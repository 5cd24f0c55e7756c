import Derived.Test.YtihboehpeehlmaaGreatDoorH9
set_option maxHeartbeats 1000000
set_option maxRecDepth 100000
namespace Go.Proofs.YtihboehpeehlmaaGreatDoor.Dg
open Tryz
set_option maxRecDepth 4000
open Go.RowKit
set_option linter.unusedVariables false
section
attribute [local go_sem] fD oT s8 sr sw oW qR dq
theorem nZ(a:Nat)(w:Wd)(c:w.cell? ⟨a,0,none⟩=some (.int .i64 8)):Calls prog 175 #[.pointer (some ⟨a,0,none⟩)] w fun e b=>e=.returned (.int .i64 128)/\b=w:=by
 go_enter func175,ntmps175;go_wp2;go_ret;exact⟨rfl,rfl⟩
theorem BN(a kb:Nat)(s:St 64)(t:dv)(w:Wd)(p:dN 64)(g:t.size=128)(f:fe p w a kb):Calls prog 201 #[.pointer (some ⟨a,0,none⟩),.agg #[.int .u64 (eW s.a),.int .u64 (eW s.b),.int .u64 (eW s.c),.int .u64 (eW s.d),.int .u64 (eW s.e),.int .u64 (eW s.f),.int .u64 (eW s.g),.int .u64 (eW s.h)],.string t] w fun e b=>(∃u:St 64,u=gv p 8 s t.data.toList/\e=.returned (.agg #[.int .u64 (eW u.a),.int .u64 (eW u.b),.int .u64 (eW u.c),.int .u64 (eW u.d),.int .u64 (eW u.e),.int .u64 (eW u.f),.int .u64 (eW u.g),.int .u64 (eW u.h)]))/\Below w.heap.size w b:=
 (DT a kb s t w p g f).mono fun e b ⟨d,c⟩=>⟨⟨_,rfl,d⟩,c⟩
structure kL (p:dN 64) (w:Wd) (bp kb:Nat) (v:St 64) (wr:Wd):Prop where
 plan0:fe p w bp kb
 h0:wr.heap[w.heap.size]?=some (.cells (en v) 200 (0,0))
 h1:wr.heap[w.heap.size+1]?=some (.cells (en ⟨0,0,0,0,0,0,0,0⟩) 200 (0,0))
 below:Below w.heap.size w wr
theorem kL.plan{p:dN 64}{w wr:Wd}{a kb:Nat}{v:St 64}(h:kL p w a kb v wr):fe p wr a kb:=h.plan0.up h.below h.plan0.lt h.plan0.ltk
theorem kL.step{p:dN 64}{w wr w2:Wd}{c kb:Nat}{v:St 64}(h:kL p w c kb v wr)(b:Below wr.heap.size wr w2)(a:St 64):kL p w c kb a (kz w2 w.heap.size a):=by
 have d:=(go.1 h.h0).1;have e:=(go.1 h.h1).1;refine⟨h.plan0,j6 a (by rw[b.block _ d];exact h.h0),?_,h.below.trans (jo a (b.mono (by omega)) (JQ _))⟩;rw[jp _ (by omega),b.block _ e,h.h1]
theorem AE(c kb:Nat)(s:St 64)(t:dv)(m:Nat)(w:Wd)(p:dN 64)(E:t.size=m*128)(hm:t.size<=4611686018427387904)(f:fe p w c kb):Calls prog 176 #[.pointer (some ⟨c,0,none⟩),.agg #[.int .u64 (eW s.a),.int .u64 (eW s.b),.int .u64 (eW s.c),.int .u64 (eW s.d),.int .u64 (eW s.e),.int .u64 (eW s.f),.int .u64 (eW s.g),.int .u64 (eW s.h)],.string t] w fun e F=>e=.returned (.agg (en (cA p 8 128 s t.data.toList m)))/\Below w.heap.size w F:=by
 have L:=f.ltk;have q:Hid _:=E;have K:=f.c0;go_enter func176,ntmps176;go_wp2_with (go_at_call 175;refine(nZ c _ (lT K _ _)).mono ?_;rintro P w1 ⟨rfl,rfl⟩)
 go_loopw [8] (fun i wr=>∃k:Nat,k<=m/\i=.int .i64 ((k*128:Nat):Int)/\kL p w c kb (cA p 8 128 s t.data.toList k) wr) (fun i _=>t.size-(intOf i).toNat)
 case atStart=>
  refine⟨0,by omega,rfl,f,?_,?_,cK (cK (cF _) _) _⟩
  ·rw[K2];rfl
  ·rw[K1];rfl
 case round=>
  obtain⟨k,hk,rfl,d⟩:=hrel;generalize x:cA p 8 128 s t.data.toList k=v at d;have r:Hid _:=x;have b:Hid _:=d;by_cases H:k<m
  ·have G:k*128+128<=t.size:=by have:=q.out;have:(k+1)*128<=m*128:=Ll _ H;omega
   obtain⟨m0,V,m2,m3,X,W,R,Y⟩:=fm d.h0;have B:=(go.1 d.h0).1;generalize I:k*128=n at G;have h:Hid _:=I;have aa:=fi ((n:Int)+128) (by omega)
   go_wp2
   go_region_with (go_at_call 201;refine(BN c kb v (t.extract n (n+128)) wr.drew p (by simp;omega) (b.out.plan.up (JI wr.heap.size wr).drew b.out.plan.lt b.out.plan.ltk)).mono ?_;rintro e w2 ⟨⟨u,l,rfl⟩,a⟩;have A:Hid _:=l;clear l;have g:=(a.block _ B).trans b.out.h0;obtain⟨T,M,q2,Z,q4,q5,O,q7⟩:=fm g;have qf:=fun j=>KO _ _ j _ _ g;clear g)
   all_goals
    have J:kL p w c kb (cA p 8 128 s t.data.toList (k+1)) (kz w2 w.heap.size u):=by
     have:=b.out.step (w2:=w2) ⟨a.os,a.tape,a.output,a.size,a.block⟩ u;rw[cA,r.out,h.out];rw[A.out,dd,show n+128-n=128 from by omega]at this ⊢;exact this
    have C:Hid _:=J;go_wp2
    have z:(n:Int)+128=(((k+1)*128:Nat):Int):=by have:=h.out;omega
    have D:Hid _:=z;refine⟨⟨k+1,by omega,by rw[D.out],C.out⟩,?_⟩;simp[intOf];omega
  ·obtain rfl:k=m:=by omega
   have y:=d.h0;have o:=d.h1;go_wp2_with (first|(refine Ls rfl 200 (.tmp 4) rfl w.heap.size rfl _ _ _ _ y M7 rfl (ge _) ?_)|(refine Kn rfl 200 (.tmp 6) (.tmp 27) rfl (w.heap.size+1) _ rfl rfl _ _ o (ge _) rfl (pi _) ?_))
   refine Ka (v:=.agg (en v)) (Lb rfl _ _ (w.heap.size+1) _ _ _ _ rfl (J7 _ _ _ _ _ _ o) M7 rfl (ge _)) rfl ⟨?_,KU b.out.below (KG _) _⟩;rw[r.out]
end
section
attribute [local go_sem] fD jX dq lE mo
theorem sP:(prog.info? 5).map (fun i=>(i.zero,i.size,i.bytes))=some (some (.int .u8 0),1,1):=by kernel_rfl
theorem AD(m:Nat)(r:dv)(c:Nat)(w:Wd)(hr:r.size<128)(ac:c<=140737488355328)(c0:w.cell? ⟨m,0,none⟩=some (.int .i64 8)):Calls prog 177 #[.pointer (some ⟨m,0,none⟩),.string r,.int .i64 (c:Int)] w fun e T=>e=.returned (.string ⟨(dw 128 16 r.data.toList c).toArray⟩)/\Below w.heap.size w T:=by
 have aa:=JL w _ c0;obtain⟨o,O,q,A,x⟩:=Kf sP;have u:Hid _:=O;obtain⟨X,hX,S⟩:∃X:BitVec 64,(c:Int)*8=eW X/\BitVec.ofNat 64 (c*8)=X:=⟨_,ww c ac,rfl⟩;have W:Hid _:=S;go_enter func177,ntmps177;go_wp2_with (first|(refine tW rfl _ 9 115 rfl 5 Kl JU KY w.heap.size r rfl (JQ _) (by unfold maxLen;omega) ?_;intro v1 w1 C J;have M:=C;clear C)|(refine gV rfl (.tmp 17) (.tmp 18) 115 rfl 5 o JU u.out q A x w.heap.size _ r.data.toList 128 w1 rfl M J.size (by simp;omega) rfl ?_;intro v2 w2 F Q;have ae:=F;clear F M))
 have ad:=J.trans Q;have ab:Hid _:=ad;go_loopw [8] (fun v wr=>∃k:Nat,k<=dz 128 16 r.size/\OwnB w.heap.size 5 v (r.data.toList++[128]++List.replicate k 0) wr/\Below w.heap.size w wr) (fun v _=>r.size+1+dz 128 16 r.size-slen v)
 case atStart=>exact⟨0,by omega,by simpa using ae,ab.out⟩
 case round=>
  obtain⟨k,hk,b,a⟩:=hrel;have j:(r.data.toList++[128]++List.replicate k 0).length=r.size+1+k:=by simp;omega
  obtain⟨g,al,D⟩:=b.shape (by simp);rw[j]at D;subst D;have l:=b;have ak:dz 128 16 r.size<128:=LB _ (by omega);have I:=cm a aa c0;generalize y:r.size+1+k=n at b l;have Y:Hid _:=y
  by_cases U:k<dz 128 16 r.size
  ·have B:=kO 128 16 r.size k (by omega) (by omega) (by omega) U
   rw[y]at B;have hq:((n:Int)%128 != 112)=true:=by rw[bne_iff_ne];omega
   go_wp2
   go_quiet ((go_at_call 175;exact J2 (nZ m _ I)));have p:=a.size;go_wp2_with (refine gV rfl (.tmp 30) (.tmp 31) 115 rfl 5 o JU u.out q A x w.heap.size _ (r.data.toList++[128]++List.replicate k 0) 0 (wr.drewN nq) rfl l p (by simp;omega) rfl ?_;intro G H h s;have f:=h;clear h)
   have z:=(em a nq).trans s;have N:r.data.toList++[128]++List.replicate k 0++[0]=r.data.toList++[128]++List.replicate (k+1) 0:=by simp[List.replicate_succ']
   have K:=f.slen;rw[N]at f K;go_roundw
   case rel=>exact⟨k+1,by omega,f,z⟩
   case measure=>
    rw[K];simp[slen];have:=Y.out;omega
  ·obtain rfl:k=dz 128 16 r.size:=by omega
   have B:=iP 128 16 r.size (by omega) (by omega) (by omega);rw[y]at B;have hq:((n:Int)%128 != 112)=false:=by rw[bne_eq_false_iff_eq];omega
   go_wp2
   go_quiet ((go_at_call 175;exact J2 (nZ m _ I)));go_wp2
   go_loopw [8,10] (fun v i E=>∃k:Nat,k<=16/\i=.int .i64 ((15:Int)-k)/\OwnB w.heap.size 5 v (r.data.toList++[128]++List.replicate (dz 128 16 r.size) 0++dA 16 X k) E/\Below w.heap.size w E) (fun _ i _=>(intOf i+1).toNat)
   case atStart=>exact⟨0,by omega,rfl,by rw[dA,KB];exact l,em a nq⟩
   case round=>
    obtain⟨k,hk,rfl,b,a⟩:=hrel;by_cases ah:k<16
    ·have l:=b
     have ai:(0:Int)<=8*((15:Int)-k):=by omega
     have p:=a.size;have j:(r.data.toList++[128]++List.replicate (dz 128 16 r.size) 0++dA 16 X k).length+1<=140737488355328:=by simp[dm];omega
     go_wp2_with (refine gV rfl (.tmp 42) (.tmp 48) 115 rfl 5 o JU u.out q A x w.heap.size _ (r.data.toList++[128]++List.replicate (dz 128 16 r.size) 0++dA 16 X k) (fE (X>>>(8*(15-k)))) wr rfl l p j rfl ?_;intro G H h s;have f:=h;clear h)
     have z:=a.trans s;have Z:OwnB w.heap.size 5 G (r.data.toList++[128]++List.replicate (dz 128 16 r.size) 0++dA 16 X (k+1)) H:=by rw[dA,<-J1];exact f
     go_wp2
     go_roundw
     case rel=>exact⟨k+1,by omega,by go_num,Z,z⟩
     case measure=>simp[intOf];omega
    ·obtain rfl:k=16:=by omega
     have V:=b.str (P:=prog) (t:=115) (d:=9) JU KY Kl;generalize j:r.data.toList++[128]++List.replicate (dz 128 16 r.size) 0++dA 16 X 16=L at b V;have R:Hid _:=j;go_wp2;go_ret;refine⟨?_,a⟩;rw[<-R.out,dw,W.out];simp
end
section
attribute [local go_sem] fD jX dq lE mo
theorem Eh(s:St 64)(w:Wd):∀k:Nat,k<8->Sem.run prog (Instr.index 200 (.agg #[.int .u64 (eW s.a),.int .u64 (eW s.b),.int .u64 (eW s.c),.int .u64 (eW s.d),.int .u64 (eW s.e),.int .u64 (eW s.f),.int .u64 (eW s.g),.int .u64 (eW s.h)]) (.int .i64 (k:Int))) w=.ok (.int .u64 (eW (fy s k))) w
 | 0,_=>by kernel_rfl
 | 1,_=>by kernel_rfl
 | 2,_=>by kernel_rfl
 | 3,_=>by kernel_rfl
 | 4,_=>by kernel_rfl
 | 5,_=>by kernel_rfl
 | 6,_=>by kernel_rfl
 | 7,_=>by kernel_rfl
 | (k+8),h=>by omega
def cW(s:St 64):Nat->dj
 | 0=>[]
 | k+1=>cW s k++dA 8 (fy s k) 8
theorem ek(s:St 64)(k:Nat):(cW s k).length=k*8:=by
 induction k with
 | zero=>rfl
 | succ k ih=>simp[cW,ih,dm];omega
theorem DC(j:Nat)(s:St 64)(w:Wd)(c0:w.cell? ⟨j,0,none⟩=some (.int .i64 8)):Calls prog 178 #[.pointer (some ⟨j,0,none⟩),.agg #[.int .u64 (eW s.a),.int .u64 (eW s.b),.int .u64 (eW s.c),.int .u64 (eW s.d),.int .u64 (eW s.e),.int .u64 (eW s.f),.int .u64 (eW s.g),.int .u64 (eW s.h)]] w fun e C=>e=.returned (.string ⟨(cW s 8).toArray⟩)/\Below w.heap.size w C:=by
 have K:=JL w _ c0;obtain⟨o,p,z,M,J⟩:=Kf sP;have B:Hid _:=p;go_enter func178,ntmps178;go_wp2
 go_loopw [5,10] (fun v i wr=>∃k:Nat,k<=8/\i=.int .i64 k/\OwnB w.heap.size 5 v (cW s k) wr/\Below w.heap.size w wr) (fun _ i _=>8-(intOf i).toNat)
 case atStart=>exact⟨0,by omega,rfl,.inl ⟨rfl,rfl⟩,cK (cF _) _⟩
 case round=>
  obtain⟨k,V,rfl,b,a⟩:=hrel;by_cases E:k<8
  ·have H:=fun w=>Eh s w k E
   have T:=cm a K c0;have g:=b;have U:decide ((k:Int)<8)=true:=by simp;omega
   generalize F:fy s k=x at H;have I:Hid _:=F;go_wp2
   go_loopw [5,8] (fun v i h=>∃m:Nat,m<=8/\i=.int .i64 ((7:Int)-m)/\OwnB w.heap.size 5 v (cW s k++dA 8 x m) h/\Below w.heap.size w h) (fun _ i _=>(intOf i+1).toNat)
   case atStart=>exact⟨0,by omega,rfl,by rw[dA,KB];exact g,a⟩
   case round=>
    obtain⟨m,W,rfl,b,a⟩:=hrel;by_cases O:m<8
    ·have g:=b
     have f:(cW s k++dA 8 x m).length+1<=140737488355328:=by simp[dm,ek];omega
     have q:=a.size;go_wp2_with (refine gV rfl (.tmp 22) (.tmp 28) 115 rfl 5 o JU B.out z M J w.heap.size _ (cW s k++dA 8 x m) (fE (x>>>(8*(7-m)))) wr rfl g q f rfl ?_;intro u D n A;have r:=n;clear n)
     have l:=a.trans A;have c:OwnB w.heap.size 5 u (cW s k++dA 8 x (m+1)) D:=by rw[dA,<-J1];exact r
     go_wp2
     go_roundw
     case rel=>first|exact⟨m+1,by omega,by go_num,c,l⟩|((repeat apply Exists.intro);exact⟨⟨m+1,by omega,by go_num,c,l⟩,rfl⟩)
     case measure=>simp[intOf];omega
    ·obtain rfl:m=8:=by omega
     rw[show cW s k++dA 8 x 8=cW s (k+1)from by rw[cW,I.out]]at b;have c:=b;go_wp2
     go_roundw
     case rel=>first|exact⟨k+1,by omega,by go_num,c,a⟩|((repeat apply Exists.intro);exact⟨⟨k+1,by omega,by go_num,c,a⟩,rfl⟩)
     case measure=>simp[intOf];omega
  ·obtain rfl:k=8:=by omega
   have G:=b.str (P:=prog) (t:=115) (d:=9) JU KY Kl;generalize f:cW s 8=L at b G;have y:Hid _:=f;go_wp2;go_ret;refine⟨?_,a⟩;rw[y.out];rfl
end
section
attribute [local go_sem] dq
def iZ(p:dN 64)(s0:St 64)(l:dj):St 64:=
 let m:=l.length/128
 let t:=dw 128 16 (l.drop (m*128)) l.length
 cA p 8 128 (cA p 8 128 s0 (l.take (m*128)) m) t (t.length/128)
theorem lR(r:dj)(a:Nat):(dw 128 16 r a).length=(dw 128 16 r a).length/128*128:=by
 have h:=iP 128 16 r.length (by omega) (by omega) (by omega);have e:(dw 128 16 r a).length=r.length+1+dz 128 16 r.length+16:=by simp[dw,dm];omega
 rw[e];omega
theorem yM(r:dj)(a:Nat)(b:r.length<128):(dw 128 16 r a).length<=4611686018427387904:=by
 have e:(dw 128 16 r a).length=r.length+1+dz 128 16 r.length+16:=by simp[dw,dm];omega
 have c:dz 128 16 r.length<128:=LB _ (by omega);omega
theorem sl(a kb:Nat)(s:St 64)(t:dv)(m:Nat)(w:Wd)(p:dN 64)(h:t.size=m*128)(d:t.size<=4611686018427387904)(g:fe p w a kb):Calls prog 176 #[.pointer (some ⟨a,0,none⟩),.agg #[.int .u64 (eW s.a),.int .u64 (eW s.b),.int .u64 (eW s.c),.int .u64 (eW s.d),.int .u64 (eW s.e),.int .u64 (eW s.f),.int .u64 (eW s.g),.int .u64 (eW s.h)],.string t] w fun e b=>(∃u:St 64,u=cA p 8 128 s t.data.toList m/\e=.returned (.agg #[.int .u64 (eW u.a),.int .u64 (eW u.b),.int .u64 (eW u.c),.int .u64 (eW u.d),.int .u64 (eW u.e),.int .u64 (eW u.f),.int .u64 (eW u.g),.int .u64 (eW u.h)]))/\Below w.heap.size w b:=
 (AE a kb s t m w p h d g).mono fun e b ⟨f,c⟩=>⟨⟨_,rfl,f⟩,c⟩
theorem za(b:Nat)(r:dv)(a:Nat)(w:Wd)(c:r.size<128)(h:a<=140737488355328)(c0:w.cell? ⟨b,0,none⟩=some (.int .i64 8)):Calls prog 177 #[.pointer (some ⟨b,0,none⟩),.string r,.int .i64 (a:Int)] w fun e d=>(∃T:dv,T.data.toList=dw 128 16 r.data.toList a/\T.size=T.size/128*128/\T.size<=4611686018427387904/\e=.returned (.string T))/\Below w.heap.size w d:=
 (AD b r a w c h c0).mono fun e d ⟨g,f⟩=>⟨⟨⟨(dw 128 16 r.data.toList a).toArray⟩,rfl,lR r.data.toList a,yM r.data.toList a (by simpa using c),g⟩,f⟩
theorem EO(a kb:Nat)(b:St 64)(d:dv)(w:Wd)(p:dN 64)(hd:d.size<=140737488355328)(r:fe p w a kb)(b1:w.cell? ⟨a,1,none⟩=some (.int .u64 (eW b.a)))(b2:w.cell? ⟨a,2,none⟩=some (.int .u64 (eW b.b)))(b3:w.cell? ⟨a,3,none⟩=some (.int .u64 (eW b.c)))(b4:w.cell? ⟨a,4,none⟩=some (.int .u64 (eW b.d)))(b5:w.cell? ⟨a,5,none⟩=some (.int .u64 (eW b.e)))(b6:w.cell? ⟨a,6,none⟩=some (.int .u64 (eW b.f)))(b7:w.cell? ⟨a,7,none⟩=some (.int .u64 (eW b.g)))(b8:w.cell? ⟨a,8,none⟩=some (.int .u64 (eW b.h))):Calls prog 140 #[.pointer (some ⟨a,0,none⟩),.string d] w fun e w'=>e=.returned (.string ⟨(cW (iZ p b d.data.toList) 8).toArray⟩)/\Below w.heap.size w w':=by
 have K:=r.lt;have M:=r.ltk;have W:=r.c0;obtain⟨m,hm⟩:∃m,d.size/128=m:=⟨_,rfl⟩;obtain⟨q,V⟩:∃q,m*128=q:=⟨_,rfl⟩;have al:(d.size:Int)-(d.size:Int)%128=(q:Int):=by omega
 have X:Hid (d.size/128=m/\m*128=q):=⟨hm,V⟩;clear hm V;go_enter func140,ntmps140;go_wp2_with (go_at_call 175;refine(nZ a _ W).mono ?_;rintro C w1 ⟨rfl,aa⟩;rw[aa];clear aa w1)
 go_cut [7]from 17 (fun v o=>∃(g:Nat) (u:St 64),v=.pointer (some ⟨g,0,none⟩)/\o.heap[g]?=some (.cells (en u) 200 (0,0))/\w.heap.size<=g/\Below w.heap.size w o/\u=cA p 8 128 b (d.data.toList.take q) m)
 case first=>
  go_region_with (go_at_call 176;refine(sl a kb b (d.extract 0 q) m _ p (by simp;have:=X.out;omega) (by simp;omega) (by exact r.up (by first|exact(cF _).drew|exact(cK (cF _) _).drew) K M)).mono ?_;rintro U G ⟨⟨u,i,rfl⟩,k⟩;have l:Hid _:=i;clear i;try (have A:G.heap[w.heap.size]?=some (.cells (en ⟨0,0,0,0,0,0,0,0⟩) 200 (0,0)):=(k.block _ (by simp)).trans (JK _ _);obtain⟨q0,q1,q2,q3,q4,q5,q6,q7⟩:=fm A;have qf:=fun j=>KO _ _ j _ _ A;have HH:Hid _:=A;clear A))
  all_goals go_wp2_with fail
  all_goals
   have hB:Below w.heap.size w G:=by first|exact((cF w).drew).trans (k.mono (by simp))|exact((cK (cF w) _).drew).trans (k.mono (by simp))
   have i:u=cA p 8 128 b (d.data.toList.take q) m:=by rw[l.out,dd];simp
   have f:Hid _:=hB;have t:Hid _:=i;clear hB i k;go_meet
   case rel=>
    first
     | (refine⟨G.heap.size,u,rfl,?_,?_,?_,t.out⟩
        ·exact JK _ _
        ·exact f.out.size
        ·exact cK f.out _)
     | (refine⟨w.heap.size,u,rfl,?_,?_,?_,t.out⟩
        ·exact j6 u HH.out
        ·exact JQ _
        ·exact jo u f.out (JQ _))
 case rest=>
  obtain⟨g,u,rfl,x,ag,E,i⟩:=hcut;have l:Hid _:=i;clear i;obtain⟨m0,Y,m2,m3,m4,Z,O,m7⟩:=fm x;have af:g<wc.heap.size:=(go.1 x).1;have HG:Hid _:=x;have f:Hid (Below w.heap.size w wc):=E;have s:=r.up E K M;clear x E b1 b2 b3 b4 b5 b6 b7 b8;go_wp2_with fail
  go_cut [7]from 17 (fun v o=>∃(h:St 64),v=.pointer (some ⟨g,0,none⟩)/\o.heap[g]?=some (.cells (en h) 200 (0,0))/\Below w.heap.size w o/\h=iZ p b d.data.toList)
  case first=>
   go_region_with (first|(go_at_call 177;refine(za a (d.extract q d.size) d.size wc.drew (by simp;omega) hd s.c0).mono ?_;rintro e3 y ⟨⟨T,R,ab,S,rfl⟩,c⟩;have I:Hid (T.data.toList=dw 128 16 (d.extract q d.size).data.toList d.size/\T.size=T.size/128*128/\T.size<=4611686018427387904):=⟨R,ab,S⟩;clear R ab S;have L:y.heap[g]?=some (.cells (en u) 200 (0,0)):=(c.block _ af).trans HG.out;obtain⟨q0,q1,q2,q3,q4,q5,q6,q7⟩:=fm L;have Q:Hid _:=L;clear L)|(go_at_call 176;refine(sl a kb u T (T.size/128) y p I.out.2.1 I.out.2.2 (s.up (B:=wc.heap.size) ⟨c.os,c.tape,c.output,c.size,c.block⟩ s.lt s.ltk)).mono ?_;rintro F D ⟨⟨h,n,rfl⟩,J⟩;have t:Hid (h=cA p 8 128 u T.data.toList (T.size/128)):=n;clear n;have ad:g<y.heap.size:=(go.1 Q.out).1;have z:D.heap[g]?=some (.cells (en u) 200 (0,0)):=(J.block _ ad).trans Q.out;obtain⟨r0,r1,r2,r3,r4,r5,r6,r7⟩:=fm z;have rf:∀j,D.frozen? ⟨g,j,none⟩=false:=fun j=>KO _ _ j _ _ z;have ah:Hid _:=z;clear z))
   all_goals go_wp2_with fail
   all_goals
    have H:Below w.heap.size w y:=f.out.trans (Nl (B:=wc.heap.size) ⟨c.os,c.tape,c.output,c.size,c.block⟩ f.out.size);have P:Below w.heap.size w D:=H.trans (J.mono H.size);have aj:Hid _:=P;have hs:h=iZ p b d.data.toList:=by
     have C:=X.out;rw[t.out,iZ,l.out];have U:d.data.toList.length=d.size:=by simp
     rw[U,C.1,C.2];have e3:(d.extract q d.size).data.toList=d.data.toList.drop q:=by rw[dd];rw[Kd (by simp)]
     have F:=I.out.1;rw[e3]at F;rw[<-F,show T.data.toList.length=T.size from by simp]
    have HS:Hid _:=hs;clear H P hs c J;go_meet
    case rel=>
     refine⟨h,rfl,?_,?_,HS.out⟩
     ·exact j6 h ah.out
     ·exact jo h aj.out ag
  case rest=>
   clear m0 Y m2 m3 m4 Z O m7 s l HG f;obtain⟨h,rfl,N,k,n⟩:=hcut;obtain⟨m0,Y,m2,m3,m4,Z,O,m7⟩:=fm N;have l:Hid _:=n;have f:Hid (Below w.heap.size w wc):=k;have ai:=cm k K W;clear N k n;go_wp2_with (go_at_call 178;refine(DC a h _ ai).mono ?_;rintro e5 w5 ⟨rfl,ac⟩)
   have ae:Below w.heap.size w w5:=f.out.trans (ac.mono f.out.size);go_ret;refine⟨?_,ae⟩;rw[l.out];rfl
end
def uH:List (BitVec 32):=[1116352408#32,1899447441#32,3049323471#32,3921009573#32,961987163#32,1508970993#32,2453635748#32,2870763221#32,3624381080#32,310598401#32,607225278#32,1426881987#32,1925078388#32,2162078206#32,2614888103#32,3248222580#32,3835390401#32,4022224774#32,264347078#32,604807628#32,770255983#32,1249150122#32,1555081692#32,1996064986#32,2554220882#32,2821834349#32,2952996808#32,3210313671#32,3336571891#32,3584528711#32,113926993#32,338241895#32,666307205#32,773529912#32,1294757372#32,1396182291#32,1695183700#32,1986661051#32,2177026350#32,2456956037#32,2730485921#32,2820302411#32,3259730800#32,3345764771#32,3516065817#32,3600352804#32,4094571909#32,275423344#32,430227734#32,506948616#32,659060556#32,883997877#32,958139571#32,1322822218#32,1537002063#32,1747873779#32,1955562222#32,2024104815#32,2227730452#32,2361852424#32,2428436474#32,2756734187#32,3204031479#32,3329325298#32]
def uq:List (BitVec 64):=[4794697086780616226#64,8158064640168781261#64,13096744586834688815#64,16840607885511220156#64,4131703408338449720#64,6480981068601479193#64,10538285296894168987#64,12329834152419229976#64,15566598209576043074#64,1334009975649890238#64,2608012711638119052#64,6128411473006802146#64,8268148722764581231#64,9286055187155687089#64,11230858885718282805#64,13951009754708518548#64,16472876342353939154#64,17275323862435702243#64,1135362057144423861#64,2597628984639134821#64,3308224258029322869#64,5365058923640841347#64,6679025012923562964#64,8573033837759648693#64,10970295158949994411#64,12119686244451234320#64,12683024718118986047#64,13788192230050041572#64,14330467153632333762#64,15395433587784984357#64,489312712824947311#64,1452737877330783856#64,2861767655752347644#64,3322285676063803686#64,5560940570517711597#64,5996557281743188959#64,7280758554555802590#64,8532644243296465576#64,9350256976987008742#64,10552545826968843579#64,11727347734174303076#64,12113106623233404929#64,14000437183269869457#64,14369950271660146224#64,15101387698204529176#64,15463397548674623760#64,17586052441742319658#64,1182934255886127544#64,1847814050463011016#64,2177327727835720531#64,2830643537854262169#64,3796741975233480872#64,4115178125766777443#64,5681478168544905931#64,6601373596472566643#64,7507060721942968483#64,8399075790359081724#64,8693463985226723168#64,9568029438360202098#64,10144078919501101548#64,10430055236837252648#64,11840083180663258601#64,13761210420658862357#64,14299343276471374635#64,14566680578165727644#64,15097957966210449927#64,16922976911328602910#64,17689382322260857208#64,500013540394364858#64,748580250866718886#64,1242879168328830382#64,1977374033974150939#64,2944078676154940804#64,3659926193048069267#64,4368137639120453308#64,4836135668995329356#64,5532061633213252278#64,6448918945643986474#64,6902733635092675308#64,7801388544844847127#64]
def nC:dN 32:=⟨7,18,3,17,19,10,6,11,25,2,13,22,uH⟩
def ld:dN 64:=⟨1,8,7,19,61,6,14,18,41,28,34,39,uq⟩
def lq:St 32:=⟨1779033703#32,3144134277#32,1013904242#32,2773480762#32,1359893119#32,2600822924#32,528734635#32,1541459225#32⟩
def j5:St 64:=⟨7640891576956012808#64,13503953896175478587#64,4354685564936845355#64,11912009170470909681#64,5840696475078001361#64,11170449401992604703#64,2270897969802886507#64,6620516959819538809#64⟩
def ii:St 64:=⟨14680500436340154072#64,7105036623409894663#64,10473403895298186519#64,1526699215303891257#64,7436329637833083697#64,10282925794625328401#64,15784041429090275239#64,5167115440072839076#64⟩
def ru:Array Value:=(uH.map fun k=>Value.int .u32 (eW k)).toArray
def oF:Array Value:=(uq.map fun k=>Value.int .u64 (eW k)).toArray
theorem fV{P:Program}{f:Array Oper}{d:List Oper}{o:Oper}{a:Act}{Q:Exit->Act->Wd->Prop}{w:Wd}(g:o.guard=none)(t n:Nat)(b:Array (Nat×Operand))(j:o.op=.buildSlice t n b)(c:Array Value)(e:TypeId)(k:(Instr.buildSlice t n (b.map fun(i,x)=>(i,a.eval x))).run P w=.ok (.slice (some ⟨w.heap.size,0,none⟩) n n) (w.alloc (.cells c e)))(h:wpList P f Q d (a.put o.dst (.slice (some ⟨w.heap.size,0,none⟩) n n)) (w.alloc (.cells c e))):wpList P f Q (o::d) a w:=by
 refine LC g fun K l=>?_
 unfold Oper.wp execOp;simp only[j,K6,Li,k,KP];exact l _ _ h
theorem im{P:Program}{d:Array Oper}{c:List Oper}{o:Oper}{a:Act}{Q:Exit->Act->Wd->Prop}{w:Wd}(e:o.guard=none)(t:Nat)(b:Array (Nat×Operand))(f:o.op=.build t b)(v:Va)(g:(Instr.build t (b.map fun(i,x)=>(i,a.eval x))).run P w=.ok v w)(h:wpList P d Q c (a.put o.dst v) w):wpList P d Q (o::c) a w:=by
 refine LC e fun K j=>?_
 unfold Oper.wp execOp;simp only[f,K6,Li,g,KP];exact j _ _ h
def gR(kb:Nat)(s:St 32):Array Value:= #[.int .i64 4,.int .u32 (eW s.a),.int .u32 (eW s.b),.int .u32 (eW s.c),.int .u32 (eW s.d),.int .u32 (eW s.e),.int .u32 (eW s.f),.int .u32 (eW s.g),.int .u32 (eW s.h),.slice (some ⟨kb,0,none⟩) 64 64,.int .i64 7,.int .i64 18,.int .i64 3,.int .i64 17,.int .i64 19,.int .i64 10,.int .i64 6,.int .i64 11,.int .i64 25,.int .i64 2,.int .i64 13,.int .i64 22]
def ej(kb:Nat)(s:St 64):Array Value:= #[.int .i64 8,.int .u64 (eW s.a),.int .u64 (eW s.b),.int .u64 (eW s.c),.int .u64 (eW s.d),.int .u64 (eW s.e),.int .u64 (eW s.f),.int .u64 (eW s.g),.int .u64 (eW s.h),.slice (some ⟨kb,0,none⟩) 80 80,.int .i64 1,.int .i64 8,.int .i64 7,.int .i64 19,.int .i64 61,.int .i64 6,.int .i64 14,.int .i64 18,.int .i64 41,.int .i64 28,.int .i64 34,.int .i64 39]
theorem ku(kb:Nat)(s:St 32):(prog.info? 197).map (·.size)=some (gR kb s).size:=by
 rw[show(gR kb s).size=22 from rfl];kernel_rfl
theorem eY(kb:Nat)(s:St 64):(prog.info? 203).map (·.size)=some (ej kb s).size:=by
 rw[show(ej kb s).size=22 from rfl];kernel_rfl
theorem nX(kb:Nat)(s:St 32):(gR kb s).all (·.oneCell')=true:=by simp[gR,Value.oneCell']
theorem iw(kb:Nat)(s:St 64):(ej kb s).all (·.oneCell')=true:=by simp[ej,Value.oneCell']
def CG:Array Value:= #[.int .i64 0,.int .u32 0,.int .u32 0,.int .u32 0,.int .u32 0,.int .u32 0,.int .u32 0,.int .u32 0,.int .u32 0,.slice none 0 0,.int .i64 0,.int .i64 0,.int .i64 0,.int .i64 0,.int .i64 0,.int .i64 0,.int .i64 0,.int .i64 0,.int .i64 0,.int .i64 0,.int .i64 0,.int .i64 0]
def vv:Array Value:= #[.int .i64 0,.int .u64 0,.int .u64 0,.int .u64 0,.int .u64 0,.int .u64 0,.int .u64 0,.int .u64 0,.int .u64 0,.slice none 0 0,.int .i64 0,.int .i64 0,.int .i64 0,.int .i64 0,.int .i64 0,.int .i64 0,.int .i64 0,.int .i64 0,.int .i64 0,.int .i64 0,.int .i64 0,.int .i64 0]
theorem wL(w:Wd):Sem.run prog (zeroValue 203) w=.ok (.agg (vv)) w:=by kernel_rfl
theorem Eu(w:Wd):Sem.run prog (zeroValue 197) w=.ok (.agg (CG)) w:=by kernel_rfl
theorem DD(w:Wd):Calls prog 137 #[] w fun e a=>e=.returned (.agg (gR (w.heap.size+1) lq))/\Below w.heap.size w a/\a.heap[w.heap.size+1]?=some (.cells ru 160 (0,0)):=by
 go_enter func137,ntmps137;go_wp2_with (first|(refine fV rfl 194 64 _ rfl ru 160 ?hr ?_;(case hr=>kernel_rfl))|(refine im rfl 193 _ rfl (.agg (et lq)) ?hr ?_;(case hr=>kernel_rfl))|(refine im rfl 197 _ rfl (.agg (gR (w.heap.size+1) lq)) ?hr ?_;(case hr=>kernel_rfl))|(refine Kn rfl 197 _ _ rfl w.heap.size _ rfl rfl _ _ (K2 _ _ _) (ku _ _) rfl (nX _ _) ?_))
 refine Ka (v:=.agg (gR (w.heap.size+1) lq)) (Lb rfl _ _ w.heap.size _ _ _ _ rfl (J7 _ _ _ _ _ _ (K2 _ _ _)) underlying197 rfl (ku _ _)) rfl ⟨rfl,KU (cK (cK (cF _) _) _) (JQ _) _,?_⟩;rw[Kg _ _ _ _ (by omega),K1]
theorem vk(w:Wd):Calls prog 141 #[] w fun e a=>e=.returned (.agg (ej (w.heap.size+1) j5))/\Below w.heap.size w a/\a.heap[w.heap.size+1]?=some (.cells oF 170 (0,0)):=by
 go_enter func141,ntmps141;go_wp2_with (first|(refine fV rfl 201 80 _ rfl oF 170 ?hr ?_;(case hr=>kernel_rfl))|(refine im rfl 200 _ rfl (.agg (en j5)) ?hr ?_;(case hr=>kernel_rfl))|(refine im rfl 203 _ rfl (.agg (ej (w.heap.size+1) j5)) ?hr ?_;(case hr=>kernel_rfl))|(refine Kn rfl 203 _ _ rfl w.heap.size _ rfl rfl _ _ (K2 _ _ _) (eY _ _) rfl (iw _ _) ?_))
 refine Ka (v:=.agg (ej (w.heap.size+1) j5)) (Lb rfl _ _ w.heap.size _ _ _ _ rfl (J7 _ _ _ _ _ _ (K2 _ _ _)) underlying203 rfl (eY _ _)) rfl ⟨rfl,KU (cK (cK (cF _) _) _) (JQ _) _,?_⟩;rw[Kg _ _ _ _ (by omega),K1]
def ub(w:Wd)(g:Nat)(v:St 64):Wd:=
 (((((((w.setCell ⟨g,1,none⟩ (.int .u64 (eW v.a))).setCell ⟨g,2,none⟩ (.int .u64 (eW v.b))).setCell ⟨g,3,none⟩ (.int .u64 (eW v.c))).setCell ⟨g,4,none⟩ (.int .u64 (eW v.d))).setCell ⟨g,5,none⟩ (.int .u64 (eW v.e))).setCell ⟨g,6,none⟩ (.int .u64 (eW v.f))).setCell ⟨g,7,none⟩ (.int .u64 (eW v.g))).setCell ⟨g,8,none⟩ (.int .u64 (eW v.h))
theorem yj{w:Wd}{g kb:Nat}{u:St 64}{t:TypeId}(v:St 64)(h:w.heap[g]?=some (.cells (ej kb u) t (0,0))):(ub w g v).heap[g]?=some (.cells (ej kb v) t (0,0)):=by
 unfold ub;have e:=J5 _ _ 1 _ _ (.int .u64 (eW v.a)) h;have c:=J5 _ _ 2 _ _ (.int .u64 (eW v.b)) e;have j:=J5 _ _ 3 _ _ (.int .u64 (eW v.c)) c;have a:=J5 _ _ 4 _ _ (.int .u64 (eW v.d)) j;have d:=J5 _ _ 5 _ _ (.int .u64 (eW v.e)) a;have b:=J5 _ _ 6 _ _ (.int .u64 (eW v.f)) d;have f:=J5 _ _ 7 _ _ (.int .u64 (eW v.g)) b;have i:=J5 _ _ 8 _ _ (.int .u64 (eW v.h)) f;rw[i];simp[ej]
theorem vw{w:Wd}{g k:Nat}(v:St 64)(h:k≠g):(ub w g v).heap[k]?=w.heap[k]?:=by
 unfold ub;rw[JX _ _ _ _ h,JX _ _ _ _ h,JX _ _ _ _ h,JX _ _ _ _ h,JX _ _ _ _ h,JX _ _ _ _ h,JX _ _ _ _ h,JX _ _ _ _ h]
theorem wn{B:Nat}{a w:Wd}{g:Nat}(v:St 64)(h:Below B a w)(b:B<=g):Below B a (ub w g v):=
 (((((((h.setCell b _).setCell b _).setCell b _).setCell b _).setCell b _).setCell b _).setCell b _).setCell b _
theorem yK{P:Program}{f:Array Oper}{e:List Oper}{o:Oper}{a:Act}{Q:Exit->Act->Wd->Prop}{w:Wd}(i:o.guard=none)(c:TypeId)(x y:Operand)(q:o.op=.store c x y)(g kb:Nat)(u v:St 64)(t:TypeId)(l:a.eval x=.pointer (some ⟨g,1,none⟩))(s:a.eval y=.agg #[.int .u64 (eW v.a),.int .u64 (eW v.b),.int .u64 (eW v.c),.int .u64 (eW v.d),.int .u64 (eW v.e),.int .u64 (eW v.f),.int .u64 (eW v.g),.int .u64 (eW v.h)])(d:w.heap[g]?=some (.cells (ej kb u) t (0,0)))(p:(P.info? c).map (·.size)=some 8)(h:∀b,b.heap[g]?=some (.cells (ej kb v) t (0,0))->(∀k,k≠g->b.heap[k]?=w.heap[k]?)->(∀B a,Below B a w->B<=g->Below B a b)->wpList P f Q e (a.put o.dst undef) b):wpList P f Q (o::e) a w:=by
 refine wpList_store_mid i c x y q g 1 _ l s ?_ p (by simp[Value.oneCell']) ?_
 ·intro j z
  have A:j<8:=by simpa using z
  refine⟨?_,KO _ _ _ _ _ d⟩;rw[JE _ _ _ _ _ _ d,LR (by show 1+j<22;omega)];rfl
 ·exact h (ub w g v) (yj v d) (fun k m=>vw v m) (fun B a r n=>wn v r n)
theorem JB{w a:Wd}{kb:Nat}{c k:Array Value}{t e:TypeId}(T:St 64)(d:a.heap[kb]?=some (.cells k e (0,0)))(f:a.heap[w.heap.size]?=some (.cells c t (0,0)))(g:Below w.heap.size w a):∃b,a.alloc (.cells (ej kb T) t)=b/\b.heap[a.heap.size]?=some (.cells (ej kb T) t (0,0))/\b.heap[w.heap.size]?=some (.cells c t (0,0))/\b.heap[kb]?=some (.cells k e (0,0))/\Below w.heap.size w b:=
 ⟨_,rfl,JK _ _,by rw[JO _ _ (go.1 f).1];exact f,by rw[JO _ _ (go.1 d).1];exact d,cK g _⟩
theorem Do(w:Wd):Calls prog 139 #[] w fun e l=>∃a,e=.returned (.agg (ej a ii))/\Below w.heap.size w l/\w.heap.size<=a/\l.heap[a]?=some (.cells oF 170 (0,0)):=by
 have N:=wL;go_enter func139,ntmps139;go_wp2_with fail
 refine(vk _).mono ?_;rintro L b ⟨rfl,n,d⟩;have B:=(cK (cF w) _).trans (n.mono (by simp));have I:=(n.block _ (by simp)).trans (JK _ _);generalize E:(w.alloc (Obj.cells vv 203)).heap.size+1=a at d;have J:w.heap.size<a:=by rw[<-E];simp;omega
 have H:=(go.1 d).1;generalize O:j5=T;have C:Hid _:=d;have A:Hid _:=I;have G:Hid _:=B;have q:w.heap.size<b.heap.size:=by omega
 go_wp2_with (first|(refine Kn rfl 203 (.tmp 1) (.tmp 2) rfl b.heap.size _ rfl rfl _ _ (JK _ _) (eY _ _) rfl (iw _ _) ?_;rw[World.setRow_alloc_new];obtain⟨M,k,p,i,m,f⟩:=JB T C.out A.out G.out;rw[k];have u:Hid _:=p;have D:Hid _:=i;have x:Hid _:=m;have z:Hid _:=f;clear k p i m f)|(refine im rfl 200 _ rfl (.agg #[.int .u64 (eW ii.a),.int .u64 (eW ii.b),.int .u64 (eW ii.c),.int .u64 (eW ii.d),.int .u64 (eW ii.e),.int .u64 (eW ii.f),.int .u64 (eW ii.g),.int .u64 (eW ii.h)]) ?hr ?_;(case hr=>kernel_rfl))|(refine yK rfl 200 (.tmp 4) (.tmp 3) rfl b.heap.size a T ii 203 rfl rfl u.out ?hi ?_;(case hi=>kernel_rfl);intro K g c r;have o:=(c _ (Nat.ne_of_lt q)).trans D.out;have j:=(c _ (Nat.ne_of_lt H)).trans x.out;have s:=r _ _ z.out (Nat.le_of_lt q);have F:Hid _:=g;have h:Hid _:=o;have y:Hid _:=j;have t:Hid _:=s;clear g c r o j s)|(refine Ls rfl 203 (.tmp 1) rfl b.heap.size rfl _ _ _ _ F.out underlying203 rfl (eY _ _) ?_)|(refine Kn rfl 203 (.tmp 0) (.tmp 5) rfl w.heap.size _ rfl rfl _ _ h.out (eY _ _) rfl (iw _ _) ?_))
 refine Ka (v:=.agg (ej a ii)) (Lb rfl _ _ w.heap.size _ _ _ _ rfl (J7 _ _ _ _ _ _ h.out) underlying203 rfl (eY _ _)) rfl ⟨a,rfl,?_,Nat.le_of_lt J,?_⟩
 ·exact KU t.out (JQ _) _
 ·rw[Kg _ _ _ _ (by omega)]
  exact y.out
end Go.Proofs.YtihboehpeehlmaaGreatDoor.Dg
