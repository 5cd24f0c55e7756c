import Derived.Test.YtihboehpeehlmaaGreatDoorIIx
import Derived.Test.YtihboehpeehlmaaGreatDoorDMv
import Derived.Test.YtihboehpeehlmaaGreatDoorTS
set_option maxRecDepth 8000
set_option linter.unusedVariables false
set_option linter.unusedSimpArgs false
set_option maxHeartbeats 4000000
namespace Go.Proofs.YtihboehpeehlmaaGreatDoor.Dg
open Tryz Go.RowKit Go.Deep
def mE(iss:bZQ)(now ttl:Int)(ks:List Ky)(s:bZQ):bZQ×Int×Int:=
 match ks.getLast? with
 | none=>(⟨#[]⟩,7,0)
 | some k=>
   if(mkR s.data.toList iss.data.toList now ttl).2.1=0 then
    ((sgR k.alg k.kid k.key (cB (mkR s.data.toList iss.data.toList now ttl).1)).1,(sgR k.alg k.kid k.key (cB (mkR s.data.toList iss.data.toList now ttl).1)).2.1,0)
   else(⟨#[]⟩,(mkR s.data.toList iss.data.toList now ttl).2.1,(mkR s.data.toList iss.data.toList now ttl).2.2)
theorem DW(s iss:List UInt8)(a ttl:Int):(mkR s iss a ttl).1.length<=65536:=by
 unfold mkR Ff D0;repeat' split
 all_goals first|(simp;done)|assumption
theorem last_cases(a:List Ky):a=[]\/∃(m:Nat) (k:Ky),a.length=m+1/\a[m]?=some k/\a.getLast?=some k:=by
 rcases Nh a with h|⟨l,k,h⟩
 ·exact .inl h
 ·right
  subst h;exact⟨l.length,k,by simp,by simp,by simp⟩
theorem th(s:bZQ):(⟨s.data.toList.toArray⟩:bZQ)=s:=by cases s;simp
theorem Jg(b:Nat)(a:Int)(w:World)(c0:w.cell? ⟨b,0,none⟩=some (.int .i64 a)):Calls prog 40 #[.pointer (some ⟨b,0,none⟩)] w fun r c=>r=.returned (.int .i64 a)/\c=w:=by
 go_enter func40,ntmps40;go_wp2;go_ret;exact⟨rfl,rfl⟩
theorem Jv(iss:bZQ)(ttl f:Int)(n:Nat)(i:List Ky)(kv:Value)(B b:Nat)(s:bZQ)(w:World)(h:SI (cO iss ttl f n kv) 73 B b i kv w)(I:WG w)(hg:9<=w.heap.size)(F:GV w)(A:Lib.TabBelow prog w.heap.size w "internal/strconv.uint64pow10" .u64 Lib.pow10Tab)(hl:i.length<=20)(u:∀k∈i,keyErr k.alg k.kid k.key=0)(O:iss.size<=100)(h0:0<=f/\f<=9007199254740991)(h1:1<=ttl/\ttl<=1000000000):Calls prog 16 #[.pointer (some ⟨b,0,none⟩),.string s] w fun r t=>r=.returned (.tuple #[.string (mE iss f ttl i s).1,.int .i64 (mE iss f ttl i s).2.1,.int .i64 (mE iss f ttl i s).2.2])/\Below w.heap.size w t:=by
 have R:w.cell? ⟨b,0,none⟩=some (.int .i64 f):=by simp[World.cell?,h.obj,cO]
 have c1:w.cell? ⟨b,1,none⟩=some (.string iss):=by simp[World.cell?,h.obj,cO]
 have c2:w.cell? ⟨b,2,none⟩=some (.int .i64 ttl):=by simp[World.cell?,h.obj,cO]
 have K:w.cell? ⟨b,3,none⟩=some kv:=by simp[World.cell?,h.obj,cO]
 have p:=cE (KR.of h.row);obtain⟨ad,af,rfl⟩:=p.out.shape;rcases last_cases i with rfl|⟨m,k,hm,H,S⟩
 ·simp only[JY]at K
  rw[show mE iss f ttl [] s=(⟨#[]⟩,7,0)from rfl];clear h I F A u p R c1 c2;go_enter func16,ntmps16;go_wp2;go_ret3
  exact⟨rfl,JI _ _⟩
 ·have ae:iss.data.toList.length<=1048576:=by rw[Mx];exact Ki O (by decide)
  have z:=fun a (d:Below w.heap.size w a)=>Hj s iss.data.toList f ttl a (by have:=d.size;omega) (F.kept fun k u=>d.block k (by omega)) (fun x j=>A x (d.trans (j.mono d.size))) ae (by omega) (by omega) (by omega) (by omega)
  have T:=u k (JZ H);have ac:=hI T;have W:=fun(c:bZQ) a (d:Below w.heap.size w a)=>Il k.alg k.kid k.key c a (by have:=d.size;omega) (F.kept fun k u=>d.block k (by omega)) (fun x j=>A x (d.trans (j.mono d.size))) (I.below d) (by omega) (by omega)
  unfold mE;rw[S];rw[th]at z;dsimp only;generalize mkR s.data.toList iss.data.toList f ttl=M at *;obtain⟨Q,J,M3⟩:=M;dsimp only at z ⊢;have q:=W ⟨Q.toArray⟩;dsimp only at q;generalize sgR k.alg k.kid k.key (cB Q)=G at q ⊢;obtain⟨G1,G2,G3⟩:=G;dsimp only at q ⊢;have L:=cE z;have Z:=cE q;rw[hm]at p K;have ao:(m:Int)<=20:=by omega
  have aa:=cE H;have ag:=h.lt;clear h I F A u z W q T ac S H O h0 h1 hg;have U:=fun a (d:Below w.heap.size w a)=>Jg b f a (cl d R)
  have N:=cE U;clear U;by_cases l:J=0
  ·rw[if_pos l]
   subst l;dsimp only;go_enter func16,ntmps16;go_wp2_with fail
   go_region_with (first|(go_at_call 40;refine(N.out _ (by first|exact JI _ _|exact(JI _ _).drew)).mono ?_;rintro e t ⟨rfl,hw⟩;rw[hw];clear hw t)|(go_at_call 39;refine(L.out _ (by first|exact JI _ _|exact(JI _ _).drew)).mono ?_;rintro e a ⟨rfl,v⟩;have C:=cE v;clear v))
   all_goals (
    have d:Below w.heap.size w a:=(JI w.heap.size w).drew.trans C.out;have Y:=cl d K;obtain⟨ah,ai,e',_,X⟩:=p.out.below d;injection e' with e1 e2 e3;subst e1 e3;obtain⟨g,D,rfl,P,q1,q2⟩:=X m k aa.out;have y:=cE d;have V:b<a.heap.size:=JL a _ Y;have E:g<a.heap.size:=JL a _ P;have g3:∀o:Obj,(a.alloc o).cell? ⟨b,3,none⟩=some (.slice (some ⟨g,D,none⟩) (m+1) af):=fun o=>(JN _ _ _ V).trans Y
    have p0:∀o:Obj,(a.alloc o).cell? ⟨g,D+m*3,none⟩=some (.int .i64 k.alg):=fun o=>(JN _ _ _ E).trans P
    have p1:∀o:Obj,(a.alloc o).cell? ⟨g,D+m*3+1,none⟩=some (.string k.kid):=fun o=>(JN _ _ _ E).trans q1
    have p2:∀o:Obj,(a.alloc o).cell? ⟨g,D+m*3+2,none⟩=some (.string k.key):=fun o=>(JN _ _ _ E).trans q2
    have ak:IntKind.i64.wrap (m:Int)=(m:Int):=fi _ (by omega);have aj:(0:Int)<=(m:Int):=by omega
    have am:(m:Int)<(m:Int)+1:=by omega
    clear d X e2 C L N p V E;go_wp2_with fail
    go_region
    all_goals go_wp2_with fail
    all_goals (
     refine(Z.out _ (d6 y.out _).drew).mono ?_;rintro e x ⟨rfl,j⟩;have ab:=cE ((d6 y.out _).drew.trans (j.mono (d6 y.out _).drew.size));clear j Z y;go_wp2;go_ret3
     exact⟨rfl,ab.out⟩))
  ·rw[if_neg l]
   dsimp only;have an:(J==0)=false:=by rw[JJ];exact l
   have al:(J != 0)=true:=by rw[bne_iff_ne];exact l
   clear l;go_enter func16,ntmps16;go_wp2_with fail
   go_region_with (first|(go_at_call 40;refine(N.out _ (by first|exact JI _ _|exact(JI _ _).drew)).mono ?_;rintro e t ⟨rfl,hw⟩;rw[hw];clear hw t)|(go_at_call 39;refine(L.out _ (by first|exact JI _ _|exact(JI _ _).drew)).mono ?_;rintro e a ⟨rfl,v⟩;have C:=cE v;clear v))
   all_goals go_wp2
   all_goals go_ret3
   all_goals exact⟨rfl,(JI w.heap.size w).drew.trans C.out⟩
theorem Jh(iss:bZQ)(ttl d:Int)(n:Nat)(f:List Ky)(kv:Value)(B b:Nat)(s:bZQ)(w:World)(h:SI (dO iss ttl d n kv) 53 B b f kv w)(Q:s.size<=140737488351232)(hl:f.length<=20)(E:∀k∈f,keyErr k.alg k.kid k.key=0)(I:iss.size<=100)(h0:0<=d/\d<=9007199254740991)(h1:1<=ttl/\ttl<=1000000000):Calls prog 24 #[.pointer (some ⟨b,0,none⟩),.string s] w fun r Y=>r=.returned (.tuple #[.string (mE iss d ttl f s).1,.int .i64 (mE iss d ttl f s).2.1,.int .i64 (mE iss d ttl f s).2.2])/\Below w.heap.size w Y:=by
 have c0:w.cell? ⟨b,2,none⟩=some (.int .i64 d):=by simp[World.cell?,h.obj,dO]
 have X:w.cell? ⟨b,0,none⟩=some (.string iss):=by simp[World.cell?,h.obj,dO]
 have c2:w.cell? ⟨b,1,none⟩=some (.int .i64 ttl):=by simp[World.cell?,h.obj,dO]
 have D:w.cell? ⟨b,4,none⟩=some kv:=by simp[World.cell?,h.obj,dO]
 have j:=cE (KR.of h.row);obtain⟨ad,ae,rfl⟩:=j.out.shape;rcases last_cases f with rfl|⟨m,k,hm,A,K⟩
 ·simp only[JY]at D
  rw[show mE iss d ttl [] s=(⟨#[]⟩,7,0)from rfl];clear h E j c0 X c2;go_enter func24,ntmps24;go_wp2;go_ret3
  exact⟨rfl,JI _ _⟩
 ·have ac:iss.data.toList.length<=1048576:=by rw[Mx];exact Ki I (by decide)
  have t:=fun a=>Hv s iss.data.toList d ttl a Q ac (by omega) (by omega) (by omega) (by omega)
  have L:=E k (JZ A);have ab:=hI L;have R:=DW s.data.toList iss.data.toList d ttl;have P:=fun(c:bZQ) a (x:c.size<=140737488351232)=>yC k.alg k.kid k.key c a (by omega) (by omega) x
  unfold mE;rw[K];rw[th]at t;dsimp only;generalize mkR s.data.toList iss.data.toList d ttl=M at *;obtain⟨z,C,M3⟩:=M;dsimp only at t ⊢;have l:=fun a=>P ⟨z.toArray⟩ a (by show z.toArray.size<=_;simp;dsimp only at R;omega)
  dsimp only at l;generalize sgR k.alg k.kid k.key (cB z)=G at l ⊢;obtain⟨G1,G2,G3⟩:=G;dsimp only at l ⊢;have H:=cE t;have T:=cE l;rw[hm]at j D;have an:(m:Int)<=20:=by omega
  have W:=cE A;have af:=h.lt;clear h E t P l L ab K A I h0 h1 Q R;by_cases i:C=0
  ·rw[if_pos i]
   subst i;dsimp only;go_enter func24,ntmps24;go_wp2_with fail
   go_region_with (go_at_call 17;refine(H.out _).mono ?_;rintro e a ⟨rfl,p⟩;have u:=cE p;clear p)
   all_goals (
    have q:Below w.heap.size w a:=(JI w.heap.size w).drew.trans u.out;have S:=cl q D;obtain⟨ag,ah,e',_,x⟩:=j.out.below q;injection e' with V Z e3;subst V e3;obtain⟨g,v,rfl,J,U,q2⟩:=x m k W.out;have F:=cE q;have N:b<a.heap.size:=JL a _ S;have y:g<a.heap.size:=JL a _ J;have g3:∀o:Obj,(a.alloc o).cell? ⟨b,4,none⟩=some (.slice (some ⟨g,v,none⟩) (m+1) ae):=fun o=>(JN _ _ _ N).trans S
    have p0:∀o:Obj,(a.alloc o).cell? ⟨g,v+m*3,none⟩=some (.int .i64 k.alg):=fun o=>(JN _ _ _ y).trans J
    have p1:∀o:Obj,(a.alloc o).cell? ⟨g,v+m*3+1,none⟩=some (.string k.kid):=fun o=>(JN _ _ _ y).trans U
    have p2:∀o:Obj,(a.alloc o).cell? ⟨g,v+m*3+2,none⟩=some (.string k.key):=fun o=>(JN _ _ _ y).trans q2
    have aj:IntKind.i64.wrap (m:Int)=(m:Int):=fi _ (by omega);have ai:(0:Int)<=(m:Int):=by omega
    have al:(m:Int)<(m:Int)+1:=by omega
    clear q x Z u H j N y;go_wp2_with fail
    go_region
    all_goals go_wp2_with fail
    all_goals (
     refine(T.out _).mono ?_;rintro e w2 ⟨rfl,O⟩;have aa:=cE ((d6 F.out _).drew.trans (O.mono (d6 F.out _).drew.size));clear O T F;go_wp2;go_ret3
     exact⟨rfl,aa.out⟩))
  ·rw[if_neg i]
   dsimp only;have am:(C==0)=false:=by rw[JJ];exact i
   have ak:(C != 0)=true:=by rw[bne_iff_ne];exact i
   clear i;go_enter func24,ntmps24;go_wp2_with fail
   go_region_with (go_at_call 17;refine(H.out _).mono ?_;rintro e a ⟨rfl,p⟩;have u:=cE p;clear p)
   all_goals go_wp2
   all_goals go_ret3
   all_goals exact⟨rfl,(JI w.heap.size w).drew.trans u.out⟩
theorem SI.drew{o:Obj}{T:TypeId}{B b:Nat}{a:List Ky}{kv:Value}{w:World}(h:SI o T B b a kv w):SI o T B b a kv w.drew:=⟨h.obj,mT h.row fun _ _=>rfl,h.sep,h.bB⟩
structure Gd (now:Int) (ks:List Ky):Prop where
 clk:0<=now/\now<=9007199254740991
 few:ks.length<=20
 fit:∀k∈ks,keyErr k.alg k.kid k.key=0
theorem Gd.tick{c:Int}{b:List Ky}(h:Gd c b)(a:Int):Gd (tickN c a) b:=⟨z6 h.clk,h.few,h.fit⟩
theorem Gd.rot{f:Int}{b:List Ky}(h:Gd f b)(n:Nat)(g:n<=1000000000000000000)(d:Int)(c:bZQ):Gd f (tF n b d c):=by
 unfold tF;by_cases e:gF b d c=0
 ·rw[if_pos e]
  have j:=vS n g;unfold gF at e;split at e
  ·cases e
  split at e
  ·cases e
  split at e
  ·cases e
  rename_i l i m;refine⟨h.clk,by simp;omega,fun k a=>?_⟩;rcases KX.1 a with a|a
  ·exact h.fit k a
  ·rw[Lw]at a
   subst a;show keyErr d (kidB (n+1)) c=0
   unfold keyErr;rw[if_neg l,j,if_neg (by decide),if_neg i]
 ·rw[if_neg e];exact h
theorem Gd.ret{b:Int}{a:List Ky}(h:Gd b a)(c:bZQ):Gd b (sk c a):=by
 unfold sk;split
 ·exact h
 ·refine⟨h.clk,?_,fun k d=>h.fit k (List.mem_of_mem_eraseIdx d)⟩
  have:=List.length_eraseIdx_le a (findK c a 0).toNat;have:=h.few;omega
theorem Ef(n:Nat)(a:List Ky)(c:Int)(b:bZQ):sX n a c b<=n+1:=by
 unfold sX;split<;>omega
def LQ(iss:bZQ)(ttl:Int)(n B b d:Nat)(kv dv:Value)(w:World)(r:Ending)(w':World):Prop:=
 r=.returned (.bool true)/\∃(now':Int) (n':Nat) (ks':List Ky),n'<=n+1/\Gd now' ks'/\vJ (cO iss ttl now' n') (dO iss ttl now' n') 73 53 B b d ks' kv dv w w'
theorem DQ(iss:bZQ)(ttl l:Int)(n:Nat)(j:List Ky)(kv C:Value)(B b d:Nat)(y z ob:Int)(s t:bZQ)(va:Option Addr)(vl vc:Nat)(w:World)(K:SI (cO iss ttl l n kv) 73 B b j kv w)(hd:SI (dO iss ttl l n C) 53 B d j C w)(U:Dj b d kv C)(Q:WG w)(hg:9<=w.heap.size)(hG:GV w)(Y:Lib.TabBelow prog w.heap.size w "internal/strconv.uint64pow10" .u64 Lib.pow10Tab)(ab:Gd l j)(P:iss.size<=100)(h1:1<=ttl/\ttl<=1000000000)(hn:n<=100000000000000000)(hs:s.size<=140737488351232):Calls prog 9 #[.pointer (some ⟨b,0,none⟩),.pointer (some ⟨d,0,none⟩),.agg #[.int .i64 y,.int .i64 z,.int .i64 ob,.string s,.string t,.slice va vl vc]] w fun r w'=>LQ iss ttl n B b d kv C w r w':=by
 have L:∀X,Below w.heap.size w (w.alloc X):=fun X=>cK (cF _) X
 have R:∀X,Below w.heap.size w (w.alloc X).drew:=fun X=>(L X).drew
 have A:=cE (fun a (v:Below w.heap.size w a)=>K.below v);have o:=cE (fun a (v:Below w.heap.size w a)=>hd.below v);have O:=cE (fun a (v:Below w.heap.size w a)=>Q.below v);have Z:=cE (fun a (v:Below w.heap.size w a)=>(fun G (ad:Below a.heap.size a G)=>Y G (v.trans (ad.mono v.size)):Lib.TabBelow prog a.heap.size a "internal/strconv.uint64pow10" .u64 Lib.pow10Tab));have ae:=cE (fun a (v:Below w.heap.size w a)=>hG.kept fun k hk=>v.block k (by omega));have E:=cE U;have g:=cE ab;have H:Hid (∀(N a:World) (X:Obj) (f:Value->Obj) (T:TypeId) (aa:List Ky),jh f T B b aa kv N a->N.heap=(w.alloc X).heap->a.heap[w.heap.size]?=some X):=fun N a X f T aa h e=>by
  obtain⟨_,_,_,h⟩:=h;have v:=K.lt;rw[h.block w.heap.size (by rw[e];simp) (by omega) (fun e=>by have:=(K.row.lt _ e).2;omega),e];exact JK w X
 have c:=cE L;have J:=cE R;clear K hd Q hG Y U L R;by_cases k1:y=1
 ·subst k1
  go_enter func9,ntmps9;go_wp2_with fail
  go_region_with (go_at_call 12;refine(Ie iss ttl l n j kv B b z _ (A.out _ (J.out _)) g.out.clk.1 g.out.clk.2).mono ?_;rintro r a ⟨rfl,i⟩;have p:=cE i;clear i)
  all_goals (
   have q:=H.out _ a _ _ _ _ p.out rfl;have M:a.cell? ⟨w.heap.size,1,none⟩=some (.int .i64 z):=by rw[JE _ _ _ _ _ _ q];rfl
   have x:=cE (Hh iss ttl l n j C B d z a (p.out.pair (o.out _ (J.out _)) E.out).1 g.out.clk.1 g.out.clk.2);clear q;go_wp2_with fail
   refine x.out.mono ?_;rintro r G ⟨rfl,m⟩;have D:=cE m;clear m x M;go_wp2_with (refine(oK _ _).mono ?_;rintro r F ⟨rfl,u⟩;rw[u];clear u F)
   go_ret;exact⟨by simp,_,n,j,by omega,g.out.tick z,(p.out.both (o.out _ (J.out _)) E.out D.out).back (J.out _)⟩)
 have e1:(y==1)=false:=by rw[JJ];exact k1
 by_cases W:y=2
 ·subst W
  go_enter func9,ntmps9;go_wp2_with fail
  refine(Jd iss ttl l n j kv B b z s _ (A.out _ (c.out _)) (O.out _ (c.out _)) (Z.out _ (c.out _)) g.out.few (by omega) (by omega)).mono ?_;rintro r a ⟨rfl,i⟩;have p:=cE i;have q:=H.out _ a _ _ _ _ i rfl;have M:a.cell? ⟨w.heap.size,1,none⟩=some (.int .i64 z):=by rw[JE _ _ _ _ _ _ q];rfl
  have I:a.cell? ⟨w.heap.size,3,none⟩=some (.string s):=by rw[JE _ _ _ _ _ _ q];rfl
  have x:=cE (Er iss ttl l n j C B d z s a (i.pair (o.out _ (c.out _)) E.out).1 g.out.few (by omega) (by omega));clear q i;go_wp2_with fail
  refine x.out.mono ?_;rintro r G ⟨rfl,m⟩;have D:=cE m;clear m x M I;go_wp2_with (refine(oK _ _).mono ?_;rintro r F ⟨rfl,u⟩;rw[u];clear u F)
  go_ret;exact⟨by simp,_,_,_,Ef n j z s,g.out.rot n (by omega) z s,(p.out.both (o.out _ (c.out _)) E.out D.out).back (c.out _)⟩
 have e2:(y==2)=false:=by rw[JJ];exact W
 by_cases k3:y=3
 ·subst k3
  go_enter func9,ntmps9;go_wp2_with fail
  refine(Jo iss ttl l n j kv B b s _ (A.out _ (c.out _)) g.out.few).mono ?_;rintro r a ⟨rfl,i⟩;have p:=cE i;have q:=H.out _ a _ _ _ _ i rfl;have I:a.cell? ⟨w.heap.size,3,none⟩=some (.string s):=by rw[JE _ _ _ _ _ _ q];rfl
  have af:=cE (i.pair (o.out _ (c.out _)) E.out).1;clear q i;go_wp2_with fail
  go_region_with (first|(go_at_call 8;refine(oK _ _).mono ?_;rintro r F ⟨rfl,u⟩;rw[u];clear u F)|(go_at_call 23;refine(E6 iss ttl l n j C B d s _ af.out.drew g.out.few).mono ?_;rintro r G ⟨rfl,m⟩;have D:=cE m;clear m))
  all_goals go_wp2
  all_goals go_ret
  all_goals exact⟨rfl,l,n,_,by omega,g.out.ret s,(p.out.both (o.out _ (c.out _)) E.out (.pre (.of (JI _ _).drew) D.out)).back (c.out _)⟩
 have e3:(y==3)=false:=by rw[JJ];exact k3
 by_cases S:y=4
 ·subst S
  go_enter func9,ntmps9;go_wp2_with fail
  refine(GZ iss ttl l n j kv B b _ (A.out _ (c.out _)) (O.out _ (c.out _)) g.out.few g.out.fit).mono ?_;rintro r a ⟨rfl,i⟩;have p:=cE i;have x:=cE (GR iss ttl l n j C B d a ((o.out _ (c.out _)).below i) g.out.few g.out.fit);clear i;go_wp2_with fail
  refine x.out.mono ?_;rintro r G ⟨rfl,m⟩;have D:=cE m;clear m x;go_wp2;go_ret;exact⟨by simp,l,n,j,by omega,g.out,(jh.both (o.out _ (c.out _)) E.out (.of (A.out _ (c.out _)) p.out) (.of ((o.out _ (c.out _)).below p.out) D.out)).back (c.out _)⟩
 have e4:(y==4)=false:=by rw[JJ];exact S
 by_cases k5:y=5
 ·subst k5
  have V:∀X,9<=(w.alloc X).heap.size:=fun X=>by simp;omega
  have ac:=cE V;clear V;go_enter func9,ntmps9;go_wp2_with fail
  refine(Jv iss ttl l n j kv B b s _ (A.out _ (c.out _)) (O.out _ (c.out _)) (ac.out _) (ae.out _ (c.out _)) (Z.out _ (c.out _)) g.out.few g.out.fit P g.out.clk h1).mono ?_;rintro r a ⟨rfl,i⟩;have p:=cE i;have q:=H.out _ a _ _ _ _ (jh.of (A.out _ (c.out _)) i) rfl;have I:a.cell? ⟨w.heap.size,3,none⟩=some (.string s):=by rw[JE _ _ _ _ _ _ q];rfl
  have x:=cE (Jh iss ttl l n j C B d s a ((o.out _ (c.out _)).below i) hs g.out.few g.out.fit P g.out.clk h1);clear q i;go_wp2_with fail
  refine x.out.mono ?_;rintro r G ⟨rfl,m⟩;have D:=cE m;clear m x I;go_wp2_with (refine(oK _ _).mono ?_;rintro r F ⟨rfl,u⟩;rw[u];clear u F)
  go_ret;exact⟨by simp,l,n,j,by omega,g.out,(jh.both (o.out _ (c.out _)) E.out (.of (A.out _ (c.out _)) p.out) (.of ((o.out _ (c.out _)).below p.out) D.out)).back (c.out _)⟩
 have e5:(y==5)=false:=by rw[JJ];exact k5
 go_enter func9,ntmps9;go_wp2;go_ret;exact⟨rfl,l,n,j,by omega,g.out,(jh.both (o.out _ (c.out _)) E.out (.of (A.out _ (c.out _)) (JI _ _)) (.of (o.out _ (c.out _)) (JI _ _))).back (c.out _)⟩
structure DG where
 kind:Int
 a:Int
 b:Int
 s:bZQ
 t:bZQ
 va:Option Addr
 vl:Nat
 vc:Nat
def OR(w:World)(x:Value)(os:List DG):Prop:=
 ∃ad cap,x=.slice ad os.length cap/\∀(j:Nat) (o:DG),os[j]?=some o->∃g off,ad=some ⟨g,off,none⟩/\w.cell? ⟨g,off+j*6,none⟩=some (.int .i64 o.kind)/\w.cell? ⟨g,off+j*6+1,none⟩=some (.int .i64 o.a)/\w.cell? ⟨g,off+j*6+2,none⟩=some (.int .i64 o.b)/\w.cell? ⟨g,off+j*6+3,none⟩=some (.string o.s)/\w.cell? ⟨g,off+j*6+4,none⟩=some (.string o.t)/\w.cell? ⟨g,off+j*6+5,none⟩=some (.slice o.va o.vl o.vc)
def Ja(iss:bZQ)(ttl E:Int)(w:World)(r:Ending)(w':World):Prop:=
 (E=0/\∃d,w.heap.size<=d/\r=.returned (.tuple #[.pointer (some ⟨d,0,none⟩),.int .i64 0])/\w'.heap[d]?=some (dO iss ttl 0 0 (.slice none 0 0)))\/(E≠0/\r=.returned (.tuple #[.pointer none,.int .i64 E]))
theorem Ig(iss:bZQ)(ttl:Int)(w:World)(e:iss.size<=140737488351232):Calls prog 7 #[.string iss,.int .i64 ttl] w fun r d=>Ja iss ttl (newE iss ttl) w r d/\Below w.heap.size w d:=by
 have H:=cE (Dc iss w e);have b:Hid (newE iss ttl=if nameOk iss=false then 2 else if ttl<1\/1000000000<ttl then 3 else 0):=rfl;generalize newE iss ttl=E at *;generalize nameOk iss=N at *;cases N with
 | false=>
   obtain rfl:E=2:=by rw[b.out];rfl
   clear b;go_enter func7,ntmps7;go_wp2_with (refine H.out.mono ?_;rintro r c ⟨rfl,a⟩;rw[a];clear a c)
   refine Ka (LM rfl _ _ _) rfl ?_;exact⟨.inr ⟨by decide,rfl⟩,JI _ _⟩
 | true=>
   by_cases g:ttl<1
   ·obtain rfl:E=3:=by rw[b.out,if_neg (by simp),if_pos (.inl g)]
    clear b;go_enter func7,ntmps7;go_wp2_with (refine H.out.mono ?_;rintro r c ⟨rfl,a⟩;rw[a];clear a c)
    refine Ka (LM rfl _ _ _) rfl ?_;exact⟨.inr ⟨by decide,rfl⟩,JI _ _⟩
   ·by_cases f:1000000000<ttl
    ·obtain rfl:E=3:=by rw[b.out,if_neg (by simp),if_pos (.inr f)]
     clear b;go_enter func7,ntmps7;go_wp2_with (refine H.out.mono ?_;rintro r c ⟨rfl,a⟩;rw[a];clear a c)
     refine Ka (LM rfl _ _ _) rfl ?_;exact⟨.inr ⟨by decide,rfl⟩,JI _ _⟩
    ·obtain rfl:E=0:=by rw[b.out,if_neg (by simp),if_neg (by omega)]
     clear b;go_enter func7,ntmps7;go_wp2_with (refine H.out.mono ?_;rintro r c ⟨rfl,a⟩;rw[a];clear a c)
     refine Ka (LM rfl _ _ _) rfl ?_;exact⟨.inl ⟨rfl,w.heap.size,JQ _,rfl,JK _ _⟩,d6 (JI _ _) _⟩
theorem CT{iss:bZQ}{ttl:Int}(h:newE iss ttl=0):iss.size<=100/\1<=ttl/\ttl<=1000000000:=by
 unfold newE at h;split at h
 ·cases h
 split at h
 ·cases h
 rename_i c d;have a:nameOk iss=true:=by cases b:nameOk iss<;>simp_all
 unfold nameOk at a;simp only[Kz,Kx]at a;omega
theorem Gg.below{B b d:Nat}{o i:Obj}{T j:TypeId}{g:List Ky}{kv f:Value}{w w':World}(h:Gg b d kv f w w')(a:SI o T B b g kv w)(c:SI i j B d g f w):Below B w w':=
 ⟨h.os,h.tape,h.output,h.size,fun k l=>h.block k (by have:=a.lt;have:=a.bB;omega) (by have:=a.bB;omega) (by have:=c.bB;omega) (fun e=>by have:=(a.row.lt k e).1;omega) (fun e=>by have:=(c.row.lt k e).1;omega)⟩
structure Kp (iss:bZQ) (ttl:Int) (B b d n:Nat) (now:Int) (ks:List Ky) (kv dv:Value) (w:World):Prop where
 gd:Gd now ks
 sc:SI (cO iss ttl now n kv) 73 B b ks kv w
 sd:SI (dO iss ttl now n dv) 53 B d ks dv w
 dj:Dj b d kv dv
theorem Kp.new{iss:bZQ}{ttl:Int}{B b d:Nat}{w:World}(f:w.heap[b]?=some (cO iss ttl 0 0 (.slice none 0 0)))(j:w.heap[d]?=some (dO iss ttl 0 0 (.slice none 0 0)))(c:B<=b)(i:B<=d)(a:b≠d):Kp iss ttl B b d 0 0 [] (.slice none 0 0) (.slice none 0 0) w:=
 ⟨⟨⟨by decide,by decide⟩,by simp,fun k e=>by cases e⟩,⟨f,Le _ _ _ _,by simp[Value.ownBlock],c⟩,⟨j,Le _ _ _ _,by simp[Value.ownBlock],i⟩,⟨a,by simp[Value.ownBlock],by simp[Value.ownBlock],fun g h=>by simp[Value.ownBlock]at h⟩⟩
structure Gw (w:World):Prop where
 ways:WG w
 size:9<=w.heap.size
 vars:GV w
 tab:Lib.TabBelow prog w.heap.size w "internal/strconv.uint64pow10" .u64 Lib.pow10Tab
theorem Gw.below{w w':World}(h:Gw w)(a:Below w.heap.size w w'):Gw w':=
 ⟨h.ways.below a,Ki h.size a.size,h.vars.kept fun k d=>a.block k (by have:=h.size;omega),fun b c=>h.tab b (a.trans (c.mono a.size))⟩
theorem Kp.step{iss:bZQ}{ttl:Int}{B b d n:Nat}{y:Int}{p:List Ky}{kv i:Value}{w:World}(h:Kp iss ttl B b d n y p kv i w)(f:Gw w)(A:iss.size<=100)(D:1<=ttl/\ttl<=1000000000)(F:n<=100000000000000000)(x u q:Int)(s t:bZQ)(o:Option Addr)(v m:Nat)(z:s.size<=140737488351232):Calls prog 9 #[.pointer (some ⟨b,0,none⟩),.pointer (some ⟨d,0,none⟩),.agg #[.int .i64 x,.int .i64 u,.int .i64 q,.string s,.string t,.slice o v m]] w fun r l=>r=.returned (.bool true)/\∃j a k c e,a<=n+1/\Kp iss ttl B b d a j k c e l/\(∀g,c.ownBlock=some g->kv.ownBlock=some g\/w.heap.size<=g)/\(∀g,e.ownBlock=some g->i.ownBlock=some g\/w.heap.size<=g)/\Gg b d kv i w l:=by
 refine(DQ iss ttl y n p kv i B b d x u q s t o v m w h.sc h.sd h.dj f.ways f.size f.vars f.tab h.gd A D F z).mono ?_;rintro r l ⟨rfl,j,a,k,J,H,c,e,C,K,L,G,E,I⟩;exact⟨rfl,j,a,k,c,e,J,⟨H,C,K,L⟩,G,E,I⟩
def K2(iss:bZQ)(ttl:Int)(B b d b2 d2 i:Nat)(w:World):Prop:=
 ∃n t k c e m u l f g,n<=i/\m<=i/\Kp iss ttl B b d n t k c e w/\Kp iss ttl B b2 d2 m u l f g w/\Dj b b2 c f/\Dj b d2 c g/\Dj d b2 e f/\Dj d d2 e g
section
variable {iss:bZQ} {ttl:Int} {B b d Z U i:Nat} {V:List Ky} {W X R:Value} {w Y:World} {o:Obj} {T:TypeId}
theorem Dj.sy(h:Dj b d W X):Dj d b X W:=⟨Ne.symm h.bd,h.s2,h.s1,fun g a c=>h.s3 g c a⟩
theorem SI.fr{j:Value}(h:SI o T B Z V X w)(k:Gg b d W j w Y)(f:Dj b Z W X)(c:Dj d Z j X):SI o T B Z V X Y:=
 h.keep (k.block Z h.lt (Ne.symm f.bd) (Ne.symm c.bd) f.s1 c.s1) fun g a=>k.block g (h.row.lt g a).2 (fun e=>f.s2 (by rw[a,e])) (fun e=>c.s2 (by rw[a,e])) (fun e=>f.s3 g e a) (fun e=>c.s3 g e a)
theorem Dj.grow(h:Dj b Z W X)(c:SI o T B Z V X w)(a:∀g,R.ownBlock=some g->W.ownBlock=some g\/w.heap.size<=g):Dj b Z R X:=
 ⟨h.bd,fun e=>(a Z e).elim h.s1 fun x=>by have:=c.lt;omega,h.s2,fun g f e=>(a g f).elim (fun x=>h.s3 g x e) fun x=>by have:=(c.row.lt g e).2;omega⟩
theorem K2.sy(h:K2 iss ttl B b d Z U i w):K2 iss ttl B Z U b d i w:=by
 obtain⟨n,p,V,W,a,l,s,c,X,m,k,g,e,q,j,t,f,r⟩:=h;exact⟨l,s,c,X,m,n,p,V,W,a,g,k,q,e,j.sy,f.sy,t.sy,r.sy⟩
theorem K2.step(h:K2 iss ttl B b d Z U i w)(E:Gw w)(L:iss.size<=100)(A:1<=ttl/\ttl<=1000000000)(P:i<=100000000000000000)(g v u:Int)(s t:bZQ)(k:Option Addr)(m x:Nat)(D:s.size<=140737488351232):Calls prog 9 #[.pointer (some ⟨b,0,none⟩),.pointer (some ⟨d,0,none⟩),.agg #[.int .i64 g,.int .i64 v,.int .i64 u,.string s,.string t,.slice k m x]] w fun r Y=>r=.returned (.bool true)/\K2 iss ttl B b d Z U (i+1) Y/\Below B w Y:=by
 obtain⟨n,N,V,W,Q,F,H,K,X,M,O,S,c,a,f,p,l,y⟩:=h;refine(c.step E L A (by omega) g v u s t k m x D).mono ?_;rintro r Y ⟨rfl,G,I,J,R,z,aa,C,q,j,e⟩;exact⟨rfl,⟨I,G,J,R,z,F,H,K,X,M,by omega,by omega,C,⟨a.gd,a.sc.fr e f l,a.sd.fr e p y,a.dj⟩,f.grow a.sc q,p.grow a.sd q,l.grow a.sc j,y.grow a.sd j⟩,e.below c.sc c.sd⟩
def EA(b f:Nat)(T:bZQ)(w:World):Prop:=Calls prog f #[.pointer (some ⟨b,0,none⟩)] w fun r Y=>r=.returned (.string T)/\Below w.heap.size w Y
theorem K2.exps(h:K2 iss ttl B b d Z U i w)(g:Gw w):∃T S,∀Y,Below w.heap.size w Y->EA b 10 T Y/\EA Z 10 S Y/\EA d 11 T Y/\EA U 11 S Y:=by
 obtain⟨n,k,V,W,m,j,l,f,X,p,r,q,c,a,s⟩:=h;exact⟨expB V,expB f,fun Y e=>⟨GZ iss ttl k n V W B b Y (c.sc.below e) (g.below e).ways c.gd.few c.gd.fit,GZ iss ttl l j f X B Z Y (a.sc.below e) (g.below e).ways a.gd.few a.gd.fit,GR iss ttl k n V m B d Y (c.sd.below e) c.gd.few c.gd.fit,GR iss ttl l j f p B U Y (a.sd.below e) a.gd.few a.gd.fit⟩⟩
theorem K2.new{u v:Obj}(c:u=cO iss ttl 0 0 (.slice none 0 0))(l:v=dO iss ttl 0 0 (.slice none 0 0))(m:w.heap[b]?=some u)(a:w.heap[d]?=some v)(k:w.heap[Z]?=some u)(j:w.heap[U]?=some v)(h:B<=b/\b<Z/\Z<d/\d<U):K2 iss ttl B b d Z U 0 w:=by
 subst c l;have s:∀x y:Nat,x≠y->Dj x y (.slice none 0 0) (.slice none 0 0):=fun x y e=>⟨e,by simp[Value.ownBlock],by simp[Value.ownBlock],fun g f=>by simp[Value.ownBlock]at f⟩
 exact⟨0,0,[],_,_,0,0,[],_,_,Nat.le_refl _,Nat.le_refl _,.new m a h.1 (by omega) (by omega),.new k j (by omega) (by omega) (by omega),by refine⟨?_,?_,?_,?_⟩<;>exact s _ _ (by omega)⟩
end
theorem lapt(iss:bZQ)(ttl:Int)(x:Value)(l:List DG)(w:World)(z:OR w x l)(hl:l.length<=2000000000000)(H:iss.size<=140737488351232)(aa:∀o∈l,o.s.size<=140737488351232)(O:Gw w):Calls prog 4 #[.string iss,.int .i64 ttl,x] w fun r w'=>r=.returned (.bool true)/\Below w.heap.size w w':=by
 have N:=ci (fun v (h:Below w.heap.size w v)=>I8 iss ttl v H (O.below h).vars.tabs);have C:=ci (fun v=>Ig iss ttl v H);have af:=ci aa;have ag:=ci (CT (iss:=iss) (ttl:=ttl));obtain⟨ad,al,rfl,z⟩:=z;have HX:=ci z;generalize newE iss ttl=E at *;clear aa z H;go_enter func4,ntmps4;go_wp2_with fail
 refine(N.out _ (Below.refl _ _)).mono ?_;rintro r v ⟨⟨rfl,b,b0,rfl,L⟩|⟨e,rfl⟩,j⟩
 ·have Y:=ci (ag.out rfl)
  go_wp2_with fail
  refine(N.out _ j).mono ?_;rintro r w2 ⟨⟨_,n,D,rfl,m⟩|⟨e,rfl⟩,c⟩
  ·go_wp2_with fail
   refine(C.out _).mono ?_;rintro r u ⟨⟨_,d,d0,rfl,K⟩|⟨e,rfl⟩,a⟩
   ·go_wp2_with fail
    refine(C.out _).mono ?_;rintro r p ⟨⟨_,A,e0,rfl,Z⟩|⟨e,rfl⟩,k⟩
    ·have ab:Hid (K2 iss ttl w.heap.size b d n A 0 p/\Below w.heap.size w p):=by
      have Q:=(go.1 L.obj).1;have V:=(go.1 m.obj).1;have k3:=(go.1 K).1;have:=j.size;have:=c.size;have:=a.size;exact⟨.new rfl rfl ((k.block b (by omega)).trans ((a.block b (by omega)).trans ((c.block b Q).trans L.obj))) ((k.block d k3).trans K) ((k.block n (by omega)).trans ((a.block n V).trans m.obj)) Z (by omega),j.trans ((c.trans ((a.trans (k.mono a.size)).mono c.size)).mono j.size)⟩
     clear j c a k L m K Z;go_wp2_with (refine(oK 0 _).mono ?_;rintro r u ⟨rfl,t⟩;rw[t];clear t u)
     go_loopw [15] (fun y wr=>∃(i:Nat),i<=l.length/\y=.int .i64 (i:Int)/\Hid (K2 iss ttl w.heap.size b d n A i wr/\Below w.heap.size w wr)) (fun y _=>l.length-(intOf y).toNat)
     case atStart=>exact⟨0,by omega,rfl,ab⟩
     case round=>
      obtain⟨i,hi,rfl,f⟩:=hrel;by_cases ah:i<l.length
      ·have Q:(i:Int)<(l.length:Int):=by omega
       have V:(i:Int)<1152921504606846976:=by omega
       have k3:(i:Int)<=2000000000000:=by omega
       obtain⟨o,U⟩:∃o,l[i]?=some o:=⟨_,List.getElem?_eq_getElem ah⟩;obtain⟨g,ai,rfl,D,m,G,P,J,M⟩:=HX.out i o U;have W:=af.out o (List.mem_of_getElem? U);replace D:=cl f.out.2 D
       replace m:=cl f.out.2 m
       replace G:=cl f.out.2 G
       replace P:=cl f.out.2 P
       replace J:=cl f.out.2 J
       replace M:=cl f.out.2 M
       obtain⟨ac,oa,ob,ae,B,va,vl,vc⟩:=o;simp only at D m G P J M W;have X:=ci (fun(b d n A:Nat) (h:K2 iss ttl w.heap.size b d n A i wr)=>h.step (O.below f.out.2) Y.out.1 Y.out.2 (by omega) ac oa ob ae B va vl vc W);by_cases hT:B.size%2=1
       ·have t1:((B.size:Int)%2==1)=true:=by rw[beq_iff_eq];omega
        go_wp2_with fail
        refine(X.out _ _ _ _ f.out.1.sy).mono ?_;rintro r p ⟨rfl,R,I⟩;go_wp2_with fail
        exact⟨⟨i+1,by omega,by go_num,R.sy,f.out.2.trans I⟩,by simp[intOf];omega⟩
       ·have t1:((B.size:Int)%2==1)=false:=by rw[beq_eq_false_iff_ne];omega
        go_wp2_with fail
        refine(X.out _ _ _ _ f.out.1).mono ?_;rintro r p ⟨rfl,R,I⟩;go_wp2_with fail
        exact⟨⟨i+1,by omega,by go_num,R,f.out.2.trans I⟩,by simp[intOf];omega⟩
      ·have Q:¬(i:Int)<(l.length:Int):=by omega
       obtain⟨T,S,e⟩:=f.out.1.exps (O.below f.out.2);have F:=ci e;clear e;go_wp2_with fail
       refine(F.out _ (Below.refl _ _)).1.mono ?_;rintro r w5 ⟨rfl,j⟩;go_wp2_with fail
       refine(F.out _ j).2.1.mono ?_;rintro r w6 ⟨rfl,c⟩;have c:=j.trans (c.mono j.size);go_wp2_with fail
       refine(F.out _ c).2.2.1.mono ?_;rintro r w7 ⟨rfl,a⟩;have a:=c.trans (a.mono c.size);go_wp2_with fail
       refine(F.out _ a).2.2.2.mono ?_;rintro r w8 ⟨rfl,k⟩;go_wp2;go_ret;exact⟨by simp,f.out.2.trans ((a.trans (k.mono a.size)).mono f.out.2.size)⟩
    ·exact absurd rfl e
   ·exact absurd rfl e
  ·exact absurd rfl e
 ·have aj:(E==0)=false:=by rw[beq_eq_false_iff_ne];exact e
  have ak:(E != 0)=true:=by simp[e]
  go_wp2_with fail
  refine(N.out _ j).mono ?_;rintro r w2 ⟨⟨s,_⟩|⟨_,rfl⟩,c⟩
  ·exact absurd s e
  go_wp2_with fail
  refine(C.out _).mono ?_;rintro r u ⟨⟨s,_⟩|⟨_,rfl⟩,a⟩
  ·exact absurd s e
  go_wp2_with fail
  refine(C.out _).mono ?_;rintro r p ⟨⟨s,_⟩|⟨_,rfl⟩,k⟩
  ·exact absurd s e
  have q:=ci (j.trans ((c.trans ((a.trans (k.mono a.size)).mono c.size)).mono j.size));clear e j c a k;go_wp2_with (refine(oK E _).mono ?_;rintro r u ⟨rfl,t⟩;rw[t];clear t u)
  go_loopw [15] (fun y wr=>y=.int .i64 0/\wr=p) (fun _ _=>0)
  case atStart=>exact⟨rfl,rfl⟩
  case round=>
   obtain⟨rfl,rfl⟩:=hrel;go_wp2;all_goals go_ret
   all_goals exact⟨rfl,q.out⟩
end Go.Proofs.YtihboehpeehlmaaGreatDoor.Dg
