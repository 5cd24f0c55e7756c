import Derived.Test.YtihboehpeehlmaaGreatDoorIIx
import Derived.Test.YtihboehpeehlmaaGreatDoorDMv
import Derived.Test.YtihboehpeehlmaaGreatDoorTS
set_option maxRecDepth 4000
set_option linter.unusedVariables false
set_option linter.unusedSimpArgs false
set_option maxHeartbeats 4000000
namespace Go.Proofs.YtihboehpeehlmaaGreatDoor.Dg
open Tryz Go.RowKit Go.Deep
def mE(iss:ByteArray)(now ttl:Int)(ks:List Ky)(s:ByteArray):ByteArray×Int×Int:=
 match ks.getLast? with
 | none=>(⟨#[]⟩,7,0)
 | some k=>
   if(mkR s.data.toList iss.data.toList now ttl).2.1=0 then
    ((sgR k.alg k.kid k.key (cB (mkR s.data.toList iss.data.toList now ttl).1)).1,(sgR k.alg k.kid k.key (cB (mkR s.data.toList iss.data.toList now ttl).1)).2.1,0)
   else(⟨#[]⟩,(mkR s.data.toList iss.data.toList now ttl).2.1,(mkR s.data.toList iss.data.toList now ttl).2.2)
theorem DW(s iss:List UInt8)(a ttl:Int):(mkR s iss a ttl).1.length<=65536:=by
 unfold mkR Ff D0;repeat' split
 all_goals first|(simp;done)|assumption
theorem last_cases(a:List Ky):a=[]\/∃(m:Nat) (k:Ky),a.length=m+1/\a[m]?=some k/\a.getLast?=some k:=by
 rcases Nh a with h|⟨l,k,h⟩
 ·exact .inl h
 ·right
  subst h;exact⟨l.length,k,by simp,by simp,by simp⟩
theorem th(s:ByteArray):(⟨s.data.toList.toArray⟩:ByteArray)=s:=by cases s;simp
theorem Jg(b:Nat)(a:Int)(w:World)(c0:w.cell? ⟨b,0,none⟩=some (.int .i64 a)):Calls prog 40 #[.pointer (some ⟨b,0,none⟩)] w fun r c=>r=.returned (.int .i64 a)/\c=w:=by
 go_enter func40,ntmps40;go_wp2;go_ret;exact⟨rfl,rfl⟩
set_option maxRecDepth 4000 in
set_option maxHeartbeats 4000000 in
theorem Jv(iss:ByteArray)(ttl f:Int)(n:Nat)(i:List Ky)(kv:Value)(B b:Nat)(s:ByteArray)(w:World)(h:SI (cO iss ttl f n kv) 73 B b i kv w)(I:WG w)(hg:9<=w.heap.size)(F:GV w)(A:Lib.TabBelow prog w.heap.size w "internal/strconv.uint64pow10" .u64 Lib.pow10Tab)(hl:i.length<=20)(u:∀k∈i,keyErr k.alg k.kid k.key=0)(O:iss.size<=100)(h0:0<=f/\f<=9007199254740991)(h1:1<=ttl/\ttl<=1000000000):Calls prog 16 #[.pointer (some ⟨b,0,none⟩),.string s] w fun r t=>r=.returned (.tuple #[.string (mE iss f ttl i s).1,.int .i64 (mE iss f ttl i s).2.1,.int .i64 (mE iss f ttl i s).2.2])/\Below w.heap.size w t:=by
 have R:w.cell? ⟨b,0,none⟩=some (.int .i64 f):=by simp[World.cell?,h.obj,cO]
 have c1:w.cell? ⟨b,1,none⟩=some (.string iss):=by simp[World.cell?,h.obj,cO]
 have c2:w.cell? ⟨b,2,none⟩=some (.int .i64 ttl):=by simp[World.cell?,h.obj,cO]
 have K:w.cell? ⟨b,3,none⟩=some kv:=by simp[World.cell?,h.obj,cO]
 have p:=cE (KR.of h.row);obtain⟨ad,af,rfl⟩:=p.out.shape;rcases last_cases i with rfl|⟨m,k,hm,H,S⟩
 ·simp only[JY]at K
  rw[show mE iss f ttl [] s=(⟨#[]⟩,7,0)from rfl];clear h I F A u p R c1 c2;go_enter func16,ntmps16;go_wp2;go_ret3
  exact⟨rfl,JI _ _⟩
 ·have ae:iss.data.toList.length<=1048576:=by rw[Mx];exact Ki O (by decide)
  have z:=fun a (d:Below w.heap.size w a)=>Hj s iss.data.toList f ttl a (by have:=d.size;omega) (F.kept fun k u=>d.block k (by omega)) (fun x j=>A x (d.trans (j.mono d.size))) ae (by omega) (by omega) (by omega) (by omega)
  have T:=u k (JZ H);have ac:=hI T;have W:=fun(c:ByteArray) a (d:Below w.heap.size w a)=>Il k.alg k.kid k.key c a (by have:=d.size;omega) (F.kept fun k u=>d.block k (by omega)) (fun x j=>A x (d.trans (j.mono d.size))) (I.below d) (by omega) (by omega)
  unfold mE;rw[S];rw[th]at z;dsimp only;generalize mkR s.data.toList iss.data.toList f ttl=M at *;obtain⟨Q,J,M3⟩:=M;dsimp only at z ⊢;have q:=W ⟨Q.toArray⟩;dsimp only at q;generalize sgR k.alg k.kid k.key (cB Q)=G at q ⊢;obtain⟨G1,G2,G3⟩:=G;dsimp only at q ⊢;have L:=cE z;have Z:=cE q;rw[hm]at p K;have ao:(m:Int)<=20:=by omega
  have aa:=cE H;have ag:=h.lt;clear h I F A u z W q T ac S H O h0 h1 hg;have U:=fun a (d:Below w.heap.size w a)=>Jg b f a (cl d R)
  have N:=cE U;clear U;by_cases l:J=0
  ·rw[if_pos l]
   subst l;dsimp only;go_enter func16,ntmps16;go_wp2_with fail
   go_region_with (first|(go_at_call 40;refine(N.out _ (by first|exact JI _ _|exact(JI _ _).drew)).mono ?_;rintro e t ⟨rfl,hw⟩;rw[hw];clear hw t)|(go_at_call 39;refine(L.out _ (by first|exact JI _ _|exact(JI _ _).drew)).mono ?_;rintro e a ⟨rfl,v⟩;have C:=cE v;clear v))
   all_goals (
    have d:Below w.heap.size w a:=(JI w.heap.size w).drew.trans C.out;have Y:=cl d K;obtain⟨ah,ai,e',_,X⟩:=p.out.below d;injection e' with e1 e2 e3;subst e1 e3;obtain⟨g,D,rfl,P,q1,q2⟩:=X m k aa.out;have y:=cE d;have V:b<a.heap.size:=JL a _ Y;have E:g<a.heap.size:=JL a _ P;have g3:∀o:Obj,(a.alloc o).cell? ⟨b,3,none⟩=some (.slice (some ⟨g,D,none⟩) (m+1) af):=fun o=>(JN _ _ _ V).trans Y
    have p0:∀o:Obj,(a.alloc o).cell? ⟨g,D+m*3,none⟩=some (.int .i64 k.alg):=fun o=>(JN _ _ _ E).trans P
    have p1:∀o:Obj,(a.alloc o).cell? ⟨g,D+m*3+1,none⟩=some (.string k.kid):=fun o=>(JN _ _ _ E).trans q1
    have p2:∀o:Obj,(a.alloc o).cell? ⟨g,D+m*3+2,none⟩=some (.string k.key):=fun o=>(JN _ _ _ E).trans q2
    have ak:IntKind.i64.wrap (m:Int)=(m:Int):=fi _ (by omega);have aj:(0:Int)<=(m:Int):=by omega
    have am:(m:Int)<(m:Int)+1:=by omega
    clear d X e2 C L N p V E;go_wp2_with fail
    go_region
    all_goals go_wp2_with fail
    all_goals (
     refine(Z.out _ (d6 y.out _).drew).mono ?_;rintro e x ⟨rfl,j⟩;have ab:=cE ((d6 y.out _).drew.trans (j.mono (d6 y.out _).drew.size));clear j Z y;go_wp2;go_ret3
     exact⟨rfl,ab.out⟩))
  ·rw[if_neg l]
   dsimp only;have an:(J==0)=false:=by rw[JJ];exact l
   have al:(J != 0)=true:=by rw[bne_iff_ne];exact l
   clear l;go_enter func16,ntmps16;go_wp2_with fail
   go_region_with (first|(go_at_call 40;refine(N.out _ (by first|exact JI _ _|exact(JI _ _).drew)).mono ?_;rintro e t ⟨rfl,hw⟩;rw[hw];clear hw t)|(go_at_call 39;refine(L.out _ (by first|exact JI _ _|exact(JI _ _).drew)).mono ?_;rintro e a ⟨rfl,v⟩;have C:=cE v;clear v))
   all_goals go_wp2
   all_goals go_ret3
   all_goals exact⟨rfl,(JI w.heap.size w).drew.trans C.out⟩
set_option maxRecDepth 4000 in
set_option maxHeartbeats 4000000 in
theorem Jh(iss:ByteArray)(ttl d:Int)(n:Nat)(f:List Ky)(kv:Value)(B b:Nat)(s:ByteArray)(w:World)(h:SI (dO iss ttl d n kv) 53 B b f kv w)(Q:s.size<=140737488351232)(hl:f.length<=20)(E:∀k∈f,keyErr k.alg k.kid k.key=0)(I:iss.size<=100)(h0:0<=d/\d<=9007199254740991)(h1:1<=ttl/\ttl<=1000000000):Calls prog 24 #[.pointer (some ⟨b,0,none⟩),.string s] w fun r Y=>r=.returned (.tuple #[.string (mE iss d ttl f s).1,.int .i64 (mE iss d ttl f s).2.1,.int .i64 (mE iss d ttl f s).2.2])/\Below w.heap.size w Y:=by
 have c0:w.cell? ⟨b,2,none⟩=some (.int .i64 d):=by simp[World.cell?,h.obj,dO]
 have X:w.cell? ⟨b,0,none⟩=some (.string iss):=by simp[World.cell?,h.obj,dO]
 have c2:w.cell? ⟨b,1,none⟩=some (.int .i64 ttl):=by simp[World.cell?,h.obj,dO]
 have D:w.cell? ⟨b,4,none⟩=some kv:=by simp[World.cell?,h.obj,dO]
 have j:=cE (KR.of h.row);obtain⟨ad,ae,rfl⟩:=j.out.shape;rcases last_cases f with rfl|⟨m,k,hm,A,K⟩
 ·simp only[JY]at D
  rw[show mE iss d ttl [] s=(⟨#[]⟩,7,0)from rfl];clear h E j c0 X c2;go_enter func24,ntmps24;go_wp2;go_ret3
  exact⟨rfl,JI _ _⟩
 ·have ac:iss.data.toList.length<=1048576:=by rw[Mx];exact Ki I (by decide)
  have t:=fun a=>Hv s iss.data.toList d ttl a Q ac (by omega) (by omega) (by omega) (by omega)
  have L:=E k (JZ A);have ab:=hI L;have R:=DW s.data.toList iss.data.toList d ttl;have P:=fun(c:ByteArray) a (x:c.size<=140737488351232)=>yC k.alg k.kid k.key c a (by omega) (by omega) x
  unfold mE;rw[K];rw[th]at t;dsimp only;generalize mkR s.data.toList iss.data.toList d ttl=M at *;obtain⟨z,C,M3⟩:=M;dsimp only at t ⊢;have l:=fun a=>P ⟨z.toArray⟩ a (by show z.toArray.size<=_;simp;dsimp only at R;omega)
  dsimp only at l;generalize sgR k.alg k.kid k.key (cB z)=G at l ⊢;obtain⟨G1,G2,G3⟩:=G;dsimp only at l ⊢;have H:=cE t;have T:=cE l;rw[hm]at j D;have an:(m:Int)<=20:=by omega
  have W:=cE A;have af:=h.lt;clear h E t P l L ab K A I h0 h1 Q R;by_cases i:C=0
  ·rw[if_pos i]
   subst i;dsimp only;go_enter func24,ntmps24;go_wp2_with fail
   go_region_with (go_at_call 17;refine(H.out _).mono ?_;rintro e a ⟨rfl,p⟩;have u:=cE p;clear p)
   all_goals (
    have q:Below w.heap.size w a:=(JI w.heap.size w).drew.trans u.out;have S:=cl q D;obtain⟨ag,ah,e',_,x⟩:=j.out.below q;injection e' with V Z e3;subst V e3;obtain⟨g,v,rfl,J,U,q2⟩:=x m k W.out;have F:=cE q;have N:b<a.heap.size:=JL a _ S;have y:g<a.heap.size:=JL a _ J;have g3:∀o:Obj,(a.alloc o).cell? ⟨b,4,none⟩=some (.slice (some ⟨g,v,none⟩) (m+1) ae):=fun o=>(JN _ _ _ N).trans S
    have p0:∀o:Obj,(a.alloc o).cell? ⟨g,v+m*3,none⟩=some (.int .i64 k.alg):=fun o=>(JN _ _ _ y).trans J
    have p1:∀o:Obj,(a.alloc o).cell? ⟨g,v+m*3+1,none⟩=some (.string k.kid):=fun o=>(JN _ _ _ y).trans U
    have p2:∀o:Obj,(a.alloc o).cell? ⟨g,v+m*3+2,none⟩=some (.string k.key):=fun o=>(JN _ _ _ y).trans q2
    have aj:IntKind.i64.wrap (m:Int)=(m:Int):=fi _ (by omega);have ai:(0:Int)<=(m:Int):=by omega
    have al:(m:Int)<(m:Int)+1:=by omega
    clear q x Z u H j N y;go_wp2_with fail
    go_region
    all_goals go_wp2_with fail
    all_goals (
     refine(T.out _).mono ?_;rintro e w2 ⟨rfl,O⟩;have aa:=cE ((d6 F.out _).drew.trans (O.mono (d6 F.out _).drew.size));clear O T F;go_wp2;go_ret3
     exact⟨rfl,aa.out⟩))
  ·rw[if_neg i]
   dsimp only;have am:(C==0)=false:=by rw[JJ];exact i
   have ak:(C != 0)=true:=by rw[bne_iff_ne];exact i
   clear i;go_enter func24,ntmps24;go_wp2_with fail
   go_region_with (go_at_call 17;refine(H.out _).mono ?_;rintro e a ⟨rfl,p⟩;have u:=cE p;clear p)
   all_goals go_wp2
   all_goals go_ret3
   all_goals exact⟨rfl,(JI w.heap.size w).drew.trans u.out⟩
theorem SI.drew{o:Obj}{T:TypeId}{B b:Nat}{a:List Ky}{kv:Value}{w:World}(h:SI o T B b a kv w):SI o T B b a kv w.drew:=⟨h.obj,mT h.row fun _ _=>rfl,h.sep,h.bB⟩
structure Gd (now:Int) (ks:List Ky):Prop where
 clk:0<=now/\now<=9007199254740991
 few:ks.length<=20
 fit:∀k∈ks,keyErr k.alg k.kid k.key=0
theorem Gd.tick{c:Int}{b:List Ky}(h:Gd c b)(a:Int):Gd (tickN c a) b:=⟨z6 h.clk,h.few,h.fit⟩
theorem Gd.rot{f:Int}{b:List Ky}(h:Gd f b)(n:Nat)(g:n<=1000000000000000000)(d:Int)(c:ByteArray):Gd f (tF n b d c):=by
 unfold tF;by_cases e:gF b d c=0
 ·rw[if_pos e]
  have j:=vS n g;unfold gF at e;split at e
  ·cases e
  split at e
  ·cases e
  split at e
  ·cases e
  rename_i l i m;refine⟨h.clk,by simp;omega,fun k a=>?_⟩;rcases KX.1 a with a|a
  ·exact h.fit k a
  ·rw[Lw]at a
   subst a;show keyErr d (kidB (n+1)) c=0
   unfold keyErr;rw[if_neg l,j,if_neg (by decide),if_neg i]
 ·rw[if_neg e];exact h
theorem Gd.ret{b:Int}{a:List Ky}(h:Gd b a)(c:ByteArray):Gd b (sk c a):=by
 unfold sk;split
 ·exact h
 ·refine⟨h.clk,?_,fun k d=>h.fit k (List.mem_of_mem_eraseIdx d)⟩
  have:=List.length_eraseIdx_le a (findK c a 0).toNat;have:=h.few;omega
theorem Ef(n:Nat)(a:List Ky)(c:Int)(b:ByteArray):sX n a c b<=n+1:=by
 unfold sX;split<;>omega
def LQ(iss:ByteArray)(ttl:Int)(n B b d:Nat)(kv dv:Value)(w:World)(r:Ending)(w':World):Prop:=
 r=.returned (.bool true)/\∃(now':Int) (n':Nat) (ks':List Ky),n'<=n+1/\Gd now' ks'/\vJ (cO iss ttl now' n') (dO iss ttl now' n') 73 53 B b d ks' kv dv w w'
set_option maxRecDepth 8000 in
set_option maxHeartbeats 4000000 in
theorem DQ(iss:ByteArray)(ttl l:Int)(n:Nat)(j:List Ky)(kv C:Value)(B b d:Nat)(y z ob:Int)(s t:ByteArray)(va:Option Addr)(vl vc:Nat)(w:World)(K:SI (cO iss ttl l n kv) 73 B b j kv w)(hd:SI (dO iss ttl l n C) 53 B d j C w)(U:Dj b d kv C)(Q:WG w)(hg:9<=w.heap.size)(hG:GV w)(Y:Lib.TabBelow prog w.heap.size w "internal/strconv.uint64pow10" .u64 Lib.pow10Tab)(ab:Gd l j)(P:iss.size<=100)(h1:1<=ttl/\ttl<=1000000000)(hn:n<=100000000000000000)(hs:s.size<=140737488351232):Calls prog 9 #[.pointer (some ⟨b,0,none⟩),.pointer (some ⟨d,0,none⟩),.agg #[.int .i64 y,.int .i64 z,.int .i64 ob,.string s,.string t,.slice va vl vc]] w fun r w'=>LQ iss ttl n B b d kv C w r w':=by
 have L:∀X,Below w.heap.size w (w.alloc X):=fun X=>cK (cF _) X
 have R:∀X,Below w.heap.size w (w.alloc X).drew:=fun X=>(L X).drew
 have A:=cE (fun a (v:Below w.heap.size w a)=>K.below v);have o:=cE (fun a (v:Below w.heap.size w a)=>hd.below v);have O:=cE (fun a (v:Below w.heap.size w a)=>Q.below v);have Z:=cE (fun a (v:Below w.heap.size w a)=>(fun G (ad:Below a.heap.size a G)=>Y G (v.trans (ad.mono v.size)):Lib.TabBelow prog a.heap.size a "internal/strconv.uint64pow10" .u64 Lib.pow10Tab));have ae:=cE (fun a (v:Below w.heap.size w a)=>hG.kept fun k hk=>v.block k (by omega));have E:=cE U;have g:=cE ab;have H:Hid (∀(N a:World) (X:Obj) (f:Value->Obj) (T:TypeId) (aa:List Ky),jh f T B b aa kv N a->N.heap=(w.alloc X).heap->a.heap[w.heap.size]?=some X):=fun N a X f T aa h e=>by
  obtain⟨_,_,_,h⟩:=h;have v:=K.lt;rw[h.block w.heap.size (by rw[e];simp) (by omega) (fun e=>by have:=(K.row.lt _ e).2;omega),e];exact JK w X
 have c:=cE L;have J:=cE R;clear K hd Q hG Y U L R;by_cases k1:y=1
 ·subst k1
  go_enter func9,ntmps9;go_wp2_with fail
  go_region_with (go_at_call 12;refine(Ie iss ttl l n j kv B b z _ (A.out _ (J.out _)) g.out.clk.1 g.out.clk.2).mono ?_;rintro r a ⟨rfl,i⟩;have p:=cE i;clear i)
  all_goals (
   have q:=H.out _ a _ _ _ _ p.out rfl;have M:a.cell? ⟨w.heap.size,1,none⟩=some (.int .i64 z):=by rw[JE _ _ _ _ _ _ q];rfl
   have x:=cE (Hh iss ttl l n j C B d z a (p.out.pair (o.out _ (J.out _)) E.out).1 g.out.clk.1 g.out.clk.2);clear q;go_wp2_with fail
   refine x.out.mono ?_;rintro r G ⟨rfl,m⟩;have D:=cE m;clear m x M;go_wp2_with (refine(oK _ _).mono ?_;rintro r F ⟨rfl,u⟩;rw[u];clear u F)
   go_ret;exact⟨by simp,_,n,j,by omega,g.out.tick z,(p.out.both (o.out _ (J.out _)) E.out D.out).back (J.out _)⟩)
 have e1:(y==1)=false:=by rw[JJ];exact k1
 by_cases W:y=2
 ·subst W
  go_enter func9,ntmps9;go_wp2_with fail
  refine(Jd iss ttl l n j kv B b z s _ (A.out _ (c.out _)) (O.out _ (c.out _)) (Z.out _ (c.out _)) g.out.few (by omega) (by omega)).mono ?_;rintro r a ⟨rfl,i⟩;have p:=cE i;have q:=H.out _ a _ _ _ _ i rfl;have M:a.cell? ⟨w.heap.size,1,none⟩=some (.int .i64 z):=by rw[JE _ _ _ _ _ _ q];rfl
  have I:a.cell? ⟨w.heap.size,3,none⟩=some (.string s):=by rw[JE _ _ _ _ _ _ q];rfl
  have x:=cE (Er iss ttl l n j C B d z s a (i.pair (o.out _ (c.out _)) E.out).1 g.out.few (by omega) (by omega));clear q i;go_wp2_with fail
  refine x.out.mono ?_;rintro r G ⟨rfl,m⟩;have D:=cE m;clear m x M I;go_wp2_with (refine(oK _ _).mono ?_;rintro r F ⟨rfl,u⟩;rw[u];clear u F)
  go_ret;exact⟨by simp,_,_,_,Ef n j z s,g.out.rot n (by omega) z s,(p.out.both (o.out _ (c.out _)) E.out D.out).back (c.out _)⟩
 have e2:(y==2)=false:=by rw[JJ];exact W
 by_cases k3:y=3
 ·subst k3
  go_enter func9,ntmps9;go_wp2_with fail
  refine(Jo iss ttl l n j kv B b s _ (A.out _ (c.out _)) g.out.few).mono ?_;rintro r a ⟨rfl,i⟩;have p:=cE i;have q:=H.out _ a _ _ _ _ i rfl;have I:a.cell? ⟨w.heap.size,3,none⟩=some (.string s):=by rw[JE _ _ _ _ _ _ q];rfl
  have af:=cE (i.pair (o.out _ (c.out _)) E.out).1;clear q i;go_wp2_with fail
  go_region_with (first|(go_at_call 8;refine(oK _ _).mono ?_;rintro r F ⟨rfl,u⟩;rw[u];clear u F)|(go_at_call 23;refine(E6 iss ttl l n j C B d s _ af.out.drew g.out.few).mono ?_;rintro r G ⟨rfl,m⟩;have D:=cE m;clear m))
  all_goals go_wp2
  all_goals go_ret
  all_goals exact⟨rfl,l,n,_,by omega,g.out.ret s,(p.out.both (o.out _ (c.out _)) E.out (.pre (.of (JI _ _).drew) D.out)).back (c.out _)⟩
 have e3:(y==3)=false:=by rw[JJ];exact k3
 by_cases S:y=4
 ·subst S
  go_enter func9,ntmps9;go_wp2_with fail
  refine(GZ iss ttl l n j kv B b _ (A.out _ (c.out _)) (O.out _ (c.out _)) g.out.few g.out.fit).mono ?_;rintro r a ⟨rfl,i⟩;have p:=cE i;have x:=cE (GR iss ttl l n j C B d a ((o.out _ (c.out _)).below i) g.out.few g.out.fit);clear i;go_wp2_with fail
  refine x.out.mono ?_;rintro r G ⟨rfl,m⟩;have D:=cE m;clear m x;go_wp2;go_ret;exact⟨by simp,l,n,j,by omega,g.out,(jh.both (o.out _ (c.out _)) E.out (.of (A.out _ (c.out _)) p.out) (.of ((o.out _ (c.out _)).below p.out) D.out)).back (c.out _)⟩
 have e4:(y==4)=false:=by rw[JJ];exact S
 by_cases k5:y=5
 ·subst k5
  have V:∀X,9<=(w.alloc X).heap.size:=fun X=>by simp;omega
  have ac:=cE V;clear V;go_enter func9,ntmps9;go_wp2_with fail
  refine(Jv iss ttl l n j kv B b s _ (A.out _ (c.out _)) (O.out _ (c.out _)) (ac.out _) (ae.out _ (c.out _)) (Z.out _ (c.out _)) g.out.few g.out.fit P g.out.clk h1).mono ?_;rintro r a ⟨rfl,i⟩;have p:=cE i;have q:=H.out _ a _ _ _ _ (jh.of (A.out _ (c.out _)) i) rfl;have I:a.cell? ⟨w.heap.size,3,none⟩=some (.string s):=by rw[JE _ _ _ _ _ _ q];rfl
  have x:=cE (Jh iss ttl l n j C B d s a ((o.out _ (c.out _)).below i) hs g.out.few g.out.fit P g.out.clk h1);clear q i;go_wp2_with fail
  refine x.out.mono ?_;rintro r G ⟨rfl,m⟩;have D:=cE m;clear m x I;go_wp2_with (refine(oK _ _).mono ?_;rintro r F ⟨rfl,u⟩;rw[u];clear u F)
  go_ret;exact⟨by simp,l,n,j,by omega,g.out,(jh.both (o.out _ (c.out _)) E.out (.of (A.out _ (c.out _)) p.out) (.of ((o.out _ (c.out _)).below p.out) D.out)).back (c.out _)⟩
 have e5:(y==5)=false:=by rw[JJ];exact k5
 go_enter func9,ntmps9;go_wp2;go_ret;exact⟨rfl,l,n,j,by omega,g.out,(jh.both (o.out _ (c.out _)) E.out (.of (A.out _ (c.out _)) (JI _ _)) (.of (o.out _ (c.out _)) (JI _ _))).back (c.out _)⟩
structure DG where
 kind:Int
 a:Int
 b:Int
 s:ByteArray
 t:ByteArray
 va:Option Addr
 vl:Nat
 vc:Nat
def OR(w:World)(x:Value)(os:List DG):Prop:=
 ∃ad cap,x=.slice ad os.length cap/\∀(j:Nat) (o:DG),os[j]?=some o->∃g off,ad=some ⟨g,off,none⟩/\w.cell? ⟨g,off+j*6,none⟩=some (.int .i64 o.kind)/\w.cell? ⟨g,off+j*6+1,none⟩=some (.int .i64 o.a)/\w.cell? ⟨g,off+j*6+2,none⟩=some (.int .i64 o.b)/\w.cell? ⟨g,off+j*6+3,none⟩=some (.string o.s)/\w.cell? ⟨g,off+j*6+4,none⟩=some (.string o.t)/\w.cell? ⟨g,off+j*6+5,none⟩=some (.slice o.va o.vl o.vc)
def Ja(iss:ByteArray)(ttl E:Int)(w:World)(r:Ending)(w':World):Prop:=
 (E=0/\∃d,w.heap.size<=d/\r=.returned (.tuple #[.pointer (some ⟨d,0,none⟩),.int .i64 0])/\w'.heap[d]?=some (dO iss ttl 0 0 (.slice none 0 0)))\/(E≠0/\r=.returned (.tuple #[.pointer none,.int .i64 E]))
theorem Ig(iss:ByteArray)(ttl:Int)(w:World)(e:iss.size<=140737488351232):Calls prog 7 #[.string iss,.int .i64 ttl] w fun r d=>Ja iss ttl (newE iss ttl) w r d/\Below w.heap.size w d:=by
 have H:=cE (Dc iss w e);have b:Hid (newE iss ttl=if nameOk iss=false then 2 else if ttl<1\/1000000000<ttl then 3 else 0):=rfl;generalize newE iss ttl=E at *;generalize nameOk iss=N at *;cases N with
 | false=>
   obtain rfl:E=2:=by rw[b.out];rfl
   clear b;go_enter func7,ntmps7;go_wp2_with (refine H.out.mono ?_;rintro r c ⟨rfl,a⟩;rw[a];clear a c)
   refine Ka (LM rfl _ _ _) rfl ?_;exact⟨.inr ⟨by decide,rfl⟩,JI _ _⟩
 | true=>
   by_cases g:ttl<1
   ·obtain rfl:E=3:=by rw[b.out,if_neg (by simp),if_pos (.inl g)]
    clear b;go_enter func7,ntmps7;go_wp2_with (refine H.out.mono ?_;rintro r c ⟨rfl,a⟩;rw[a];clear a c)
    refine Ka (LM rfl _ _ _) rfl ?_;exact⟨.inr ⟨by decide,rfl⟩,JI _ _⟩
   ·by_cases f:1000000000<ttl
    ·obtain rfl:E=3:=by rw[b.out,if_neg (by simp),if_pos (.inr f)]
     clear b;go_enter func7,ntmps7;go_wp2_with (refine H.out.mono ?_;rintro r c ⟨rfl,a⟩;rw[a];clear a c)
     refine Ka (LM rfl _ _ _) rfl ?_;exact⟨.inr ⟨by decide,rfl⟩,JI _ _⟩
    ·obtain rfl:E=0:=by rw[b.out,if_neg (by simp),if_neg (by omega)]
     clear b;go_enter func7,ntmps7;go_wp2_with (refine H.out.mono ?_;rintro r c ⟨rfl,a⟩;rw[a];clear a c)
     refine Ka (LM rfl _ _ _) rfl ?_;exact⟨.inl ⟨rfl,w.heap.size,JQ _,rfl,JK _ _⟩,d6 (JI _ _) _⟩
theorem CT{iss:ByteArray}{ttl:Int}(h:newE iss ttl=0):iss.size<=100/\1<=ttl/\ttl<=1000000000:=by
 unfold newE at h;split at h
 ·cases h
 split at h
 ·cases h
 rename_i c d;have a:nameOk iss=true:=by cases b:nameOk iss<;>simp_all
 unfold nameOk at a;simp only[Kz,Kx]at a;omega
theorem Gg.below{B b d:Nat}{o i:Obj}{T j:TypeId}{g:List Ky}{kv f:Value}{w w':World}(h:Gg b d kv f w w')(a:SI o T B b g kv w)(c:SI i j B d g f w):Below B w w':=
 ⟨h.os,h.tape,h.output,h.size,fun k l=>h.block k (by have:=a.lt;have:=a.bB;omega) (by have:=a.bB;omega) (by have:=c.bB;omega) (fun e=>by have:=(a.row.lt k e).1;omega) (fun e=>by have:=(c.row.lt k e).1;omega)⟩
structure Kp (iss:ByteArray) (ttl:Int) (B b d n:Nat) (now:Int) (ks:List Ky) (kv dv:Value) (w:World):Prop where
 gd:Gd now ks
 sc:SI (cO iss ttl now n kv) 73 B b ks kv w
 sd:SI (dO iss ttl now n dv) 53 B d ks dv w
 dj:Dj b d kv dv
theorem Kp.new{iss:ByteArray}{ttl:Int}{B b d:Nat}{w:World}(f:w.heap[b]?=some (cO iss ttl 0 0 (.slice none 0 0)))(j:w.heap[d]?=some (dO iss ttl 0 0 (.slice none 0 0)))(c:B<=b)(i:B<=d)(a:b≠d):Kp iss ttl B b d 0 0 [] (.slice none 0 0) (.slice none 0 0) w:=
 ⟨⟨⟨by decide,by decide⟩,by simp,fun k e=>by cases e⟩,⟨f,Le _ _ _ _,by simp[Value.ownBlock],c⟩,⟨j,Le _ _ _ _,by simp[Value.ownBlock],i⟩,⟨a,by simp[Value.ownBlock],by simp[Value.ownBlock],fun g h=>by simp[Value.ownBlock]at h⟩⟩
structure Gw (w:World):Prop where
 ways:WG w
 size:9<=w.heap.size
 vars:GV w
 tab:Lib.TabBelow prog w.heap.size w "internal/strconv.uint64pow10" .u64 Lib.pow10Tab
theorem Gw.below{w w':World}(h:Gw w)(a:Below w.heap.size w w'):Gw w':=
 ⟨h.ways.below a,Ki h.size a.size,h.vars.kept fun k d=>a.block k (by have:=h.size;omega),fun b c=>h.tab b (a.trans (c.mono a.size))⟩
theorem Kp.step{iss:ByteArray}{ttl:Int}{B b d n:Nat}{y:Int}{p:List Ky}{kv i:Value}{w:World}(h:Kp iss ttl B b d n y p kv i w)(f:Gw w)(A:iss.size<=100)(D:1<=ttl/\ttl<=1000000000)(F:n<=100000000000000000)(x u q:Int)(s t:ByteArray)(o:Option Addr)(v m:Nat)(z:s.size<=140737488351232):Calls prog 9 #[.pointer (some ⟨b,0,none⟩),.pointer (some ⟨d,0,none⟩),.agg #[.int .i64 x,.int .i64 u,.int .i64 q,.string s,.string t,.slice o v m]] w fun r l=>r=.returned (.bool true)/\∃j a k c e,a<=n+1/\Kp iss ttl B b d a j k c e l/\(∀g,c.ownBlock=some g->kv.ownBlock=some g\/w.heap.size<=g)/\(∀g,e.ownBlock=some g->i.ownBlock=some g\/w.heap.size<=g)/\Gg b d kv i w l:=by
 refine(DQ iss ttl y n p kv i B b d x u q s t o v m w h.sc h.sd h.dj f.ways f.size f.vars f.tab h.gd A D F z).mono ?_;rintro r l ⟨rfl,j,a,k,J,H,c,e,C,K,L,G,E,I⟩;exact⟨rfl,j,a,k,c,e,J,⟨H,C,K,L⟩,G,E,I⟩
set_option maxRecDepth 8000 in
theorem Gr(iss:ByteArray)(ttl:Int)(x:Value)(os:List DG)(w:World)(q:OR w x os)(hl:os.length<=2000000000000)(I:iss.size<=140737488351232)(W:∀o∈os,o.s.size<=140737488351232)(J:Gw w):Calls prog 3 #[.string iss,.int .i64 ttl,x] w fun r w'=>r=.returned (.bool true)/\Below w.heap.size w w':=by
 have HN:=ci (I8 iss ttl w I J.vars.tabs);have m:=ci (fun F=>Ig iss ttl F I);have HG:=ci J;have ak:=ci W;have L:=ci (CT (iss:=iss) (ttl:=ttl));obtain⟨ad,aA,rfl,q⟩:=q;have HX:=ci q;generalize newE iss ttl=E at *;clear J W q I;go_enter func3,ntmps3;go_wp2_with fail
 refine HN.out.mono ?_;rintro r F ⟨hq,af⟩;have e:=ci af;clear af HN;rcases hq with⟨rfl,b,ac,rfl,M⟩|⟨h,rfl⟩
 ·have A:=ci M
  have O:=ci ac;obtain⟨u,N,aa⟩:=L.out rfl;have Y:=ci (And.intro u (And.intro N aa));clear M ac L u N aa;go_wp2_with fail
  refine(m.out _).mono ?_;rintro r B ⟨H,f⟩;rcases H with⟨_,d,ao,rfl,U⟩|⟨h,rfl⟩
  ·have P:b<F.heap.size:=(go.1 A.out.obj).1
   have p:=ci (e.out.trans (f.mono e.out.size));have ae:Hid (Kp iss ttl w.heap.size b d 0 0 [] (.slice none 0 0) (.slice none 0 0) B):=.new ((f.block b P).trans A.out.obj) U O.out (by have:=e.out.size;omega) (by omega);clear f m A e P ao U O;go_wp2_with (refine(oK 0 _).mono ?_;rintro r z ⟨rfl,j⟩;rw[j];clear j z)
   go_loopw [11] (fun l wr=>∃(i n:Nat) (t:Int) (k:List Ky) (D v:Value),i<=os.length/\l=.int .i64 (i:Int)/\Hid (n<=i)/\Hid (Kp iss ttl w.heap.size b d n t k D v wr)/\Hid (Below w.heap.size w wr)) (fun l _=>os.length-(intOf l).toNat)
   case atStart=>exact⟨0,0,0,[],_,_,by omega,rfl,JQ _,ae.out,p.out⟩
   case round=>
    clear ae p;obtain⟨i,n,t,k,D,v,u,rfl,R,c,a⟩:=hrel;by_cases ap:i<os.length
    ·have k1:(i:Int)<(os.length:Int):=by omega
     have k2:(i:Int)<1152921504606846976:=by omega
     have k3:(i:Int)<=2000000000000:=by omega
     obtain⟨o,G⟩:∃o,os[i]?=some o:=⟨_,JF ap⟩;obtain⟨g,ay,rfl,c0,Z,c2,c3,c4,c5⟩:=HX.out i o G;have y:=ak.out o (JZ G);have d0:=cl a.out c0;have d1:=cl a.out Z;have X:=cl a.out c2;have d3:=cl a.out c3;have d4:=cl a.out c4;have V:=cl a.out c5;clear c0 Z c2 c3 c4 c5 G;obtain⟨an,oa,ob,ar,ot,va,vl,vc⟩:=o;simp only at d0 d1 X d3 d4 V y;have S:=ci (c.out.step (HG.out.below a.out) Y.out.1 Y.out.2 (by have:=R.out;omega) an oa ob ar ot va vl vc y);clear y;go_wp2_with fail
     refine S.out.mono ?_;rintro r w4 ⟨rfl,av,n',au,ai,aq,Q,ab,_,_,ah⟩;have aj:=ci ab;have aw:Hid (Below w.heap.size w w4):=a.out.trans (ah.below c.out.sc c.out.sd);have am:=ci Q;clear ab ah Q d0 d1 X d3 d4 V S;go_wp2_with fail
     exact⟨⟨i+1,n',av,au,ai,aq,by omega,by go_num,(by have:=am.out;have:=R.out;show n'<=i+1;omega),aj.out,aw.out⟩,by simp[intOf];omega⟩
    ·have k1:¬(i:Int)<(os.length:Int):=by omega
     have HE:=ci (GZ iss ttl t n k D w.heap.size b wr c.out.sc (HG.out.below a.out).ways c.out.gd.few c.out.gd.fit);have HD:=ci (fun C (h5:Below wr.heap.size wr C)=>GR iss ttl t n k v w.heap.size d C (c.out.sd.below h5) c.out.gd.few c.out.gd.fit);generalize expB k=T at *;go_wp2_with fail
     refine HE.out.mono ?_;rintro r C ⟨rfl,K⟩;have s:=ci K;clear K HE;go_wp2_with fail
     refine(HD.out _ s.out).mono ?_;rintro r w6 ⟨rfl,ag⟩;have al:Hid (Below w.heap.size w w6):=a.out.trans ((s.out.trans (ag.mono s.out.size)).mono a.out.size);clear ag HD s;go_wp2;go_ret;exact⟨by simp,al.out⟩
  ·exact absurd rfl h
 ·have az:(E==0)=false:=by rw[JJ];exact h
  have ax:(E != 0)=true:=by simp[h]
  go_wp2_with fail
  refine(m.out _).mono ?_;rintro r B ⟨H,f⟩;rcases H with⟨h0,_⟩|⟨_,rfl⟩
  ·exact absurd h0 h
  ·have p:=ci (e.out.trans (f.mono e.out.size))
   clear f m e h;go_wp2_with (refine(oK E _).mono ?_;rintro r z ⟨rfl,j⟩;rw[j];clear j z)
   go_loopw [11] (fun l wr=>l=.int .i64 0/\wr=B) (fun _ _=>0)
   case atStart=>exact⟨rfl,rfl⟩
   case round=>
    obtain⟨rfl,rfl⟩:=hrel;go_wp2;all_goals go_ret
    all_goals exact⟨rfl,p.out⟩
end Go.Proofs.YtihboehpeehlmaaGreatDoor.Dg
