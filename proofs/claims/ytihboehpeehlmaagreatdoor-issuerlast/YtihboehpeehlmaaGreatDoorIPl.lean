import Derived.Test.YtihboehpeehlmaaGreatDoorIIx
import Derived.Test.YtihboehpeehlmaaGreatDoorDMv
import Derived.Test.YtihboehpeehlmaaGreatDoorTS
set_option maxRecDepth 8000
set_option linter.unusedVariables false
set_option linter.unusedSimpArgs false
set_option maxHeartbeats 4000000
namespace Go.Proofs.YtihboehpeehlmaaGreatDoor.Dg
open Tryz Go.RowKit Go.Deep
def mE(iss:bZQ)(now ttl:Int)(ks:rg)(s:bZQ):bZQ×Int×Int:=
 match ks.getLast? with
 | none=>(⟨#[]⟩,7,0)
 | some k=>
   if(mkR s.data.toList iss.data.toList now ttl).2.1=0 then
    ((sgR k.alg k.kid k.key (cB (mkR s.data.toList iss.data.toList now ttl).1)).1,(sgR k.alg k.kid k.key (cB (mkR s.data.toList iss.data.toList now ttl).1)).2.1,0)
   else(⟨#[]⟩,(mkR s.data.toList iss.data.toList now ttl).2.1,(mkR s.data.toList iss.data.toList now ttl).2.2)
theorem DW(s iss:dj)(a ttl:Int):(mkR s iss a ttl).1.length<=65536:=by
 unfold mkR Ff D0;repeat' split
 all_goals first|(simp;done)|assumption
theorem last_cases(a:rg):a=[]\/∃(m:Nat) (k:Ky),a.length=m+1/\a[m]?=some k/\a.getLast?=some k:=by
 rcases Nh a with h|⟨l,k,h⟩
 ·exact .inl h
 ·right
  subst h;exact⟨l.length,k,by simp,by simp,by simp⟩
theorem th(s:bZQ):(⟨s.data.toList.toArray⟩:bZQ)=s:=by cases s;simp
theorem Jg(b:Nat)(a:Int)(w:Wd)(c0:w.cell? ⟨b,0,none⟩=some (.int .i64 a)):Calls prog 40 #[.pointer (some ⟨b,0,none⟩)] w fun r c=>r=.returned (.int .i64 a)/\c=w:=by
 go_enter func40,ntmps40;go_wp2;go_ret;exact⟨rfl,rfl⟩
theorem Jv(iss:bZQ)(ttl f:Int)(n:Nat)(i:rg)(kv:Value)(B b:Nat)(s:bZQ)(w:Wd)(h:SI (cO iss ttl f n kv) 73 B b i kv w)(I:WG w)(hg:9<=w.heap.size)(F:GV w)(A:Lib.TabBelow prog w.heap.size w "internal/strconv.uint64pow10" .u64 Lib.pow10Tab)(hl:i.length<=20)(u:∀k∈i,keyErr k.alg k.kid k.key=0)(O:iss.size<=100)(h0:0<=f/\f<=9007199254740991)(h1:1<=ttl/\ttl<=1000000000):Calls prog 16 #[.pointer (some ⟨b,0,none⟩),.string s] w fun r t=>r=.returned (.tuple #[.string (mE iss f ttl i s).1,.int .i64 (mE iss f ttl i s).2.1,.int .i64 (mE iss f ttl i s).2.2])/\Below w.heap.size w t:=by
 have R:w.cell? ⟨b,0,none⟩=some (.int .i64 f):=by simp[World.cell?,h.obj,cO]
 have c1:w.cell? ⟨b,1,none⟩=some (.string iss):=by simp[World.cell?,h.obj,cO]
 have c2:w.cell? ⟨b,2,none⟩=some (.int .i64 ttl):=by simp[World.cell?,h.obj,cO]
 have K:w.cell? ⟨b,3,none⟩=some kv:=by simp[World.cell?,h.obj,cO]
 have p:=cE (KR.of h.row);obtain⟨ad,af,rfl⟩:=p.out.shape;rcases last_cases i with rfl|⟨m,k,hm,H,S⟩
 ·simp only[JY]at K
  rw[show mE iss f ttl [] s=(⟨#[]⟩,7,0)from rfl];clear h I F A u p R c1 c2;go_enter func16,ntmps16;go_wp2;go_ret3
  exact⟨rfl,JI _ _⟩
 ·have ae:iss.data.toList.length<=1048576:=by rw[Mx];exact Ki O (by decide)
  have z:=fun a (d:Below w.heap.size w a)=>Hj s iss.data.toList f ttl a (by have:=d.size;omega) (F.kept fun k u=>d.block k (by omega)) (fun x j=>A x (d.trans (j.mono d.size))) ae (by omega) (by omega) (by omega) (by omega)
  have T:=u k (JZ H);have ac:=hI T;have W:=fun(c:bZQ) a (d:Below w.heap.size w a)=>Il k.alg k.kid k.key c a (by have:=d.size;omega) (F.kept fun k u=>d.block k (by omega)) (fun x j=>A x (d.trans (j.mono d.size))) (I.below d) (by omega) (by omega)
  unfold mE;rw[S];rw[th]at z;dsimp only;generalize mkR s.data.toList iss.data.toList f ttl=M at *;obtain⟨Q,J,M3⟩:=M;dsimp only at z ⊢;have q:=W ⟨Q.toArray⟩;dsimp only at q;generalize sgR k.alg k.kid k.key (cB Q)=G at q ⊢;obtain⟨G1,G2,G3⟩:=G;dsimp only at q ⊢;have L:=cE z;have Z:=cE q;rw[hm]at p K;have ao:(m:Int)<=20:=by omega
  have aa:=cE H;have ag:=h.lt;clear h I F A u z W q T ac S H O h0 h1 hg;have U:=fun a (d:Below w.heap.size w a)=>Jg b f a (cl d R)
  have N:=cE U;clear U;by_cases l:J=0
  ·rw[if_pos l]
   subst l;dsimp only;go_enter func16,ntmps16;go_wp2_with fail
   go_region_with (first|(go_at_call 40;refine(N.out _ (by first|exact JI _ _|exact(JI _ _).drew)).mono ?_;rintro e t ⟨rfl,hw⟩;rw[hw];clear hw t)|(go_at_call 39;refine(L.out _ (by first|exact JI _ _|exact(JI _ _).drew)).mono ?_;rintro e a ⟨rfl,v⟩;have C:=cE v;clear v))
   all_goals (
    have d:Below w.heap.size w a:=(JI w.heap.size w).drew.trans C.out;have Y:=cl d K;obtain⟨ah,ai,e',_,X⟩:=p.out.below d;injection e' with e1 e2 e3;subst e1 e3;obtain⟨g,D,rfl,P,q1,q2⟩:=X m k aa.out;have y:=cE d;have V:b<a.heap.size:=JL a _ Y;have E:g<a.heap.size:=JL a _ P;have g3:∀o:Obj,(a.alloc o).cell? ⟨b,3,none⟩=some (.slice (some ⟨g,D,none⟩) (m+1) af):=fun o=>(JN _ _ _ V).trans Y
    have p0:∀o:Obj,(a.alloc o).cell? ⟨g,D+m*3,none⟩=some (.int .i64 k.alg):=fun o=>(JN _ _ _ E).trans P
    have p1:∀o:Obj,(a.alloc o).cell? ⟨g,D+m*3+1,none⟩=some (.string k.kid):=fun o=>(JN _ _ _ E).trans q1
    have p2:∀o:Obj,(a.alloc o).cell? ⟨g,D+m*3+2,none⟩=some (.string k.key):=fun o=>(JN _ _ _ E).trans q2
    have ak:IntKind.i64.wrap (m:Int)=(m:Int):=fi _ (by omega);have aj:(0:Int)<=(m:Int):=by omega
    have am:(m:Int)<(m:Int)+1:=by omega
    clear d X e2 C L N p V E;go_wp2_with fail
    go_region
    all_goals go_wp2_with fail
    all_goals (
     refine(Z.out _ (d6 y.out _).drew).mono ?_;rintro e x ⟨rfl,j⟩;have ab:=cE ((d6 y.out _).drew.trans (j.mono (d6 y.out _).drew.size));clear j Z y;go_wp2;go_ret3
     exact⟨rfl,ab.out⟩))
  ·rw[if_neg l]
   dsimp only;have an:(J==0)=false:=by rw[JJ];exact l
   have al:(J != 0)=true:=by rw[bne_iff_ne];exact l
   clear l;go_enter func16,ntmps16;go_wp2_with fail
   go_region_with (first|(go_at_call 40;refine(N.out _ (by first|exact JI _ _|exact(JI _ _).drew)).mono ?_;rintro e t ⟨rfl,hw⟩;rw[hw];clear hw t)|(go_at_call 39;refine(L.out _ (by first|exact JI _ _|exact(JI _ _).drew)).mono ?_;rintro e a ⟨rfl,v⟩;have C:=cE v;clear v))
   all_goals go_wp2
   all_goals go_ret3
   all_goals exact⟨rfl,(JI w.heap.size w).drew.trans C.out⟩
structure Gd (now:Int) (ks:rg):Prop where
 clk:0<=now/\now<=9007199254740991
 few:ks.length<=20
 fit:∀k∈ks,keyErr k.alg k.kid k.key=0
theorem Gd.tick{c:Int}{b:rg}(h:Gd c b)(a:Int):Gd (tickN c a) b:=⟨z6 h.clk,h.few,h.fit⟩
theorem Gd.rot{f:Int}{b:rg}(h:Gd f b)(n:Nat)(g:n<=1000000000000000000)(d:Int)(c:bZQ):Gd f (tF n b d c):=by
 unfold tF;by_cases e:gF b d c=0
 ·rw[if_pos e]
  have j:=vS n g;unfold gF at e;split at e
  ·cases e
  split at e
  ·cases e
  split at e
  ·cases e
  rename_i l i m;refine⟨h.clk,by simp;omega,fun k a=>?_⟩;rcases KX.1 a with a|a
  ·exact h.fit k a
  ·rw[Lw]at a
   subst a;show keyErr d (kidB (n+1)) c=0
   unfold keyErr;rw[if_neg l,j,if_neg (by decide),if_neg i]
 ·rw[if_neg e];exact h
theorem Gd.ret{b:Int}{a:rg}(h:Gd b a)(c:bZQ):Gd b (sk c a):=by
 unfold sk;split
 ·exact h
 ·refine⟨h.clk,?_,fun k d=>h.fit k (List.mem_of_mem_eraseIdx d)⟩
  have:=List.length_eraseIdx_le a (findK c a 0).toNat;have:=h.few;omega
theorem Ef(n:Nat)(a:rg)(c:Int)(b:bZQ):sX n a c b<=n+1:=by
 unfold sX;split<;>omega
structure DG where
 kind:Int
 a:Int
 b:Int
 s:bZQ
 t:bZQ
 va:sd
 vl:Nat
 vc:Nat
def OR(w:Wd)(x:Value)(os:List DG):Prop:=
 ∃ad cap,x=.slice ad os.length cap/\∀(j:Nat) (o:DG),os[j]?=some o->∃g off,ad=some ⟨g,off,none⟩/\w.cell? ⟨g,off+j*6,none⟩=some (.int .i64 o.kind)/\w.cell? ⟨g,off+j*6+1,none⟩=some (.int .i64 o.a)/\w.cell? ⟨g,off+j*6+2,none⟩=some (.int .i64 o.b)/\w.cell? ⟨g,off+j*6+3,none⟩=some (.string o.s)/\w.cell? ⟨g,off+j*6+4,none⟩=some (.string o.t)/\w.cell? ⟨g,off+j*6+5,none⟩=some (.slice o.va o.vl o.vc)
def Ja(iss:bZQ)(ttl E:Int)(w:Wd)(r:Ending)(w':Wd):Prop:=
 (E=0/\∃d,w.heap.size<=d/\r=.returned (.tuple #[.pointer (some ⟨d,0,none⟩),.int .i64 0])/\w'.heap[d]?=some (dO iss ttl 0 0 (.slice none 0 0)))\/(E≠0/\r=.returned (.tuple #[.pointer none,.int .i64 E]))
theorem Ig(iss:bZQ)(ttl:Int)(w:Wd)(e:iss.size<=140737488351232):Calls prog 7 #[.string iss,.int .i64 ttl] w fun r d=>Ja iss ttl (newE iss ttl) w r d/\Below w.heap.size w d:=by
 have H:=cE (Dc iss w e);have b:Hid (newE iss ttl=if nameOk iss=false then 2 else if ttl<1\/1000000000<ttl then 3 else 0):=rfl;generalize newE iss ttl=E at *;generalize nameOk iss=N at *;cases N with
 | false=>
   obtain rfl:E=2:=by rw[b.out];rfl
   clear b;go_enter func7,ntmps7;go_wp2_with (refine H.out.mono ?_;rintro r c ⟨rfl,a⟩;rw[a];clear a c)
   refine Ka (LM rfl _ _ _) rfl ?_;exact⟨.inr ⟨by decide,rfl⟩,JI _ _⟩
 | true=>
   by_cases g:ttl<1
   ·obtain rfl:E=3:=by rw[b.out,if_neg (by simp),if_pos (.inl g)]
    clear b;go_enter func7,ntmps7;go_wp2_with (refine H.out.mono ?_;rintro r c ⟨rfl,a⟩;rw[a];clear a c)
    refine Ka (LM rfl _ _ _) rfl ?_;exact⟨.inr ⟨by decide,rfl⟩,JI _ _⟩
   ·by_cases f:1000000000<ttl
    ·obtain rfl:E=3:=by rw[b.out,if_neg (by simp),if_pos (.inr f)]
     clear b;go_enter func7,ntmps7;go_wp2_with (refine H.out.mono ?_;rintro r c ⟨rfl,a⟩;rw[a];clear a c)
     refine Ka (LM rfl _ _ _) rfl ?_;exact⟨.inr ⟨by decide,rfl⟩,JI _ _⟩
    ·obtain rfl:E=0:=by rw[b.out,if_neg (by simp),if_neg (by omega)]
     clear b;go_enter func7,ntmps7;go_wp2_with (refine H.out.mono ?_;rintro r c ⟨rfl,a⟩;rw[a];clear a c)
     refine Ka (LM rfl _ _ _) rfl ?_;exact⟨.inl ⟨rfl,w.heap.size,JQ _,rfl,JK _ _⟩,d6 (JI _ _) _⟩
theorem CT{iss:bZQ}{ttl:Int}(h:newE iss ttl=0):iss.size<=100/\1<=ttl/\ttl<=1000000000:=by
 unfold newE at h;split at h
 ·cases h
 split at h
 ·cases h
 rename_i c d;have a:nameOk iss=true:=by cases b:nameOk iss<;>simp_all
 unfold nameOk at a;simp only[Kz,Kx]at a;omega
structure Gw (w:Wd):Prop where
 ways:WG w
 size:9<=w.heap.size
 vars:GV w
 tab:Lib.TabBelow prog w.heap.size w "internal/strconv.uint64pow10" .u64 Lib.pow10Tab
theorem Gw.below{w w':Wd}(h:Gw w)(a:Below w.heap.size w w'):Gw w':=
 ⟨h.ways.below a,Ki h.size a.size,h.vars.kept fun k d=>a.block k (by have:=h.size;omega),fun b c=>h.tab b (a.trans (c.mono a.size))⟩
section
variable {iss:bZQ} {ttl:Int} {B b d Z U i:Nat} {V:rg} {W X R:Value} {w Y:Wd} {o:Obj} {T:TypeId}
end
end Go.Proofs.YtihboehpeehlmaaGreatDoor.Dg
