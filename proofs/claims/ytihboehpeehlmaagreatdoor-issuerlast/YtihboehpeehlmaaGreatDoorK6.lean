import Derived.Test.YtihboehpeehlmaaGreatDoorK5
set_option maxHeartbeats 4000000
set_option maxRecDepth 4000
namespace Go.Proofs.YtihboehpeehlmaaGreatDoor
open Tryz
open Go.RowKit Go.Maps
set_option linter.unusedVariables false
theorem Ei:Keyed prog 9:=string_keyed Kl
theorem CH(w:Wd):(zeroValue 260).run prog w=.ok (.agg #[]) w:=by kernel_rfl
def NM(bm:Nat)(ks:List (dj))(w:Wd):Prop:=w.ownsMap prog 9 (unitElem (H:=Unit)) bm ks.length (setOf (.agg []) (ks.map Lit.string))
theorem FC(a:dj):WideAt.IsKeyLit (.string a):=by simp[WideAt.IsKeyLit]
theorem nW(a b:dj):(Lit.string a).sameKey (.string b)=decide (a=b):=by
 rw[Nm,decide_eq_true_iff];constructor
 ·intro h;have:=WideAt.sameKey_eq h;injection this
 ·rintro rfl;simp[Lit.sameKey]
theorem rm(b:List (dj))(name:dj):Maps.has (setOf (H:=Unit) (.agg []) (b.map Lit.string)) (.string name)=decide (name∈b):=by
 rw[has_setOf _ _ _ (by intro x c;simp at c;obtain⟨a,_,rfl⟩:=c;exact FC a)];rw[List.any_map,Nm,decide_eq_true_iff,List.any_eq_true];constructor
 ·rintro⟨a,d,h⟩
  simp only[Function.comp,nW,decide_eq_true_iff]at h;exact h▸d
 ·intro h;exact⟨name,h,by simp[nW]⟩
theorem NM.kept{bm:Nat}{e:List (dj)}{w w':Wd}(h:NM bm e w)(g:w'.heap[bm]?=w.heap[bm]?):NM bm e w':=by
 obtain⟨f,i,a,b,c,d⟩:=h;exact⟨f,i,g.trans a,b,c,d⟩
theorem NM.lt{bm:Nat}{a:List (dj)}{w:Wd}(h:NM bm a w):bm<w.heap.size:=World.ownsMap.lt h
theorem xL:∀(f:Nat) (l t:dj) (n:Nat),strF f l=.ok (t,n)->t.length<=n:=by
 intro f;induction f with
 | zero=>intro l t n h;simp[strF]at h
 | succ f ih=>
   intro l t n h;match l with
   | []=>simp[strF]at h
   | c::r=>
     have d:∀(a:dj) (k:Nat) (X:Except Nat (dj×Nat)),a.length<=k->(∀t n,X=.ok (t,n)->t.length<=n)->cL a k X=.ok (t,n)->t.length<=n:=by
      intro a k X p i b;cases X with
      | error o=>simp[cL]at b
      | ok q=>obtain⟨g,e⟩:=q;have:=i g e rfl;simp[cL]at b;obtain⟨rfl,rfl⟩:=b;simp;omega
     rw[strF]at h;split at h
     ·injection h with h;injection h with j m;subst j;simp
     ·split at h
      ·cases h
      ·split at h
       ·split at h
        ·cases h
        ·next hE=>exact d _ _ _ (oy hE).1 (fun t n=>ih _ t n) h
       ·split at h
        ·cases h
        ·exact d _ _ _ (by simp;omega) (fun t n=>ih _ t n) h
theorem wC{l t:dj}{n:Nat}(h:da l=.ok (t,n)):t.length<=n:=by
 unfold da at h;split at h
 ·split at h
  ·split at h
   ·next hS=>have:=xL _ _ _ _ hS;injection h with h;injection h with a b;subst a;omega
   ·cases h
  ·cases h
 ·cases h
section
variable (Y:Nat) (s:dv) (i:Nat) (X:Va) (W bm:Nat) (Z:List (dj)) (w:Wd)
def MQ(R:Except Nat (dj×Nat))(r:Ending)(w':Wd):Prop:=
 match R with
 | .error o=>r=.panicked (gI 2 (i+o))/\kH Y bm w w'
 | .ok (name,m)=>(name∈Z->r=.panicked (gI 4 i)/\kH Y bm w w')/\(name∉Z->r=.returned (.string ⟨name.toArray⟩)/\CD Y s (i+m) X W w'/\NM bm (Z++[name]) w'/\kH Y bm w w')
theorem Ij(U:s.size<=65536)(N:9<=Y)(h:CD Y s i X W w)(O:GV w)(J:i<=s.size)(z:NM bm Z w)(u:bm≠Y)(aa:Z.length<=70000):Calls prog 204 #[.pointer (some ⟨Y,0,none⟩),.map (some bm)] w fun r y=>MQ Y s i X W bm Z w (da (b9 s i)) r y:=by
 have c:=DN Y s i X W w (by omega) N h O J;obtain⟨c0,S,T,c3,R⟩:=h.cell;have F:=z.lt;cases f:da (b9 s i)with
 | error o=>
   rw[f]at c;clear f;go_enter func204,ntmps204;go_wp2_with fail
   refine c.mono ?_;rintro r B ⟨⟨rfl,j,n⟩,a⟩;have l:Hid (ca Y w B):=a;clear a c;go_wp2;exact⟨rfl,rfl,l.out.two⟩
 | ok q=>
   obtain⟨b,m⟩:=q;rw[f]at c;have V:=kQ f;have ab:b.length<=65536:=by have:=wC f;omega
   clear f;have v:keyOf prog 9 (.string ⟨b.toArray⟩)=some (.string b):=by
    have:=WideMaps.keyOf_string_mk (P:=prog) (s:=⟨b.toArray⟩) Kl (by unfold maxLen;show b.toArray.size<=_;simp;omega);simpa using this
   by_cases t:b∈Z
   ·have A:Maps.has (setOf (H:=Unit) (.agg []) (Z.map Lit.string)) (.string b)=true:=by rw[rm];simpa using t
    have E:=fun y=>jn 4 i y
    go_enter func204,ntmps204;go_wp2_with fail
    refine c.mono ?_;rintro r B ⟨⟨rfl,n⟩,a⟩;have l:Hid _:=a;have x:=z.kept (a.block bm F (fun e=>by injection e with e;exact u e));have p:=x;clear a c;go_wp2_with (at_lookup;refine wpList_lookup_own_unit _ rfl _ _ 247 rfl 9 260 Ei underlying247 (CH _) bm Z.length _ rfl p _ _ rfl v ?_;rw[A])
    refine(E _).mono ?_;rintro r L ⟨rfl,rfl⟩;clear E;go_wp2;refine⟨rfl,fun _=>⟨rfl,(ca.alloc l.out _).two⟩,fun g=>absurd t g⟩
   ·have A:Maps.has (setOf (H:=Unit) (.agg []) (Z.map Lit.string)) (.string b)=false:=by rw[rm];simpa using t
    go_enter func204,ntmps204;go_wp2_with fail
    refine c.mono ?_;rintro r B ⟨⟨rfl,n⟩,a⟩;have l:Hid _:=a;have x:=z.kept (a.block bm F (fun e=>by injection e with e;exact u e));have p:=x;have K:Hid (Z.length<maxLen):=by show Z.length<maxLen;unfold maxLen;omega
    clear a c;go_wp2_with (first|(at_lookup;refine wpList_lookup_own_unit _ rfl _ _ 247 rfl 9 260 Ei underlying247 (CH _) bm Z.length _ rfl p _ _ rfl v ?_;rw[A])|(at_mapUpdate;refine wpList_mapUpdate_own _ rfl _ _ _ 247 rfl 9 260 Ei underlying247 (unitElem (H:=Unit)) bm Z.length _ rfl (World.ownsMap.alloc p _) K.out _ _ _ rfl rfl v _ [] unitElem_mk ?_;intro L C D;have I:Hid _:=C;have G:Hid _:=D;clear C D))
    go_wp2;go_ret;have d:=G.out;refine⟨fun g=>absurd g t,fun _=>⟨rfl,?_,?_,?_⟩⟩
    ·unfold CD
     rw[d.block Y (by simp;have:=n.lt;omega) (fun e=>by injection e with e;exact u e.symm),JO _ _ n.lt];exact n
    ·have:=I.out
     rw[<-setOf_snoc]at this;show World.ownsMap _ _ _ _ _ _ _
     rw[JH,Kj];exact this
    ·have o:=l.out
     refine⟨d.os.trans o.os,d.tape.trans o.tape,d.output.trans o.output,by have:=d.size;have:=o.size;simp at *;omega,fun k g Q M=>?_⟩;rw[d.block k (by simp;have:=o.size;omega) (fun e=>by injection e with e;exact M e),JO _ _ (by have:=o.size;omega)];exact o.block k g (fun e=>by injection e with e;exact Q e)
end
structure jS (bp bm:Nat) (O:Nat->Prop) (w:Wd) (O':Nat->Prop) (w':Wd):Prop where
 os:w'.os=w.os
 tape:w'.tape=w.tape
 output:w'.output=w.output
 size:w.heap.size<=w'.heap.size
 block:∀k,k<w.heap.size->k≠bp->k≠bm->¬O k->w'.heap[k]?=w.heap[k]?
 own:∀k,O' k->O k\/w.heap.size<=k
theorem cZ.chm{a bm:Nat}{O b:Nat->Prop}{w w':Wd}(h:cZ a O w b w'):jS a bm O w b w':=⟨h.os,h.tape,h.output,h.size,fun k d c _ e=>h.block k d c e,h.own⟩
theorem kH.chm{a bm:Nat}{w w':Wd}(h:kH a bm w w')(O:Nat->Prop):jS a bm O w O w':=⟨h.os,h.tape,h.output,h.size,fun k d b c _=>h.block k d b c,fun _ h=>.inl h⟩
theorem jS.trans{f bm:Nat}{O i n:Nat->Prop}{a b c:Wd}(h:jS f bm O a i b)(g:jS f bm i b n c):jS f bm O a n c:=by
 refine⟨g.os.trans h.os,g.tape.trans h.tape,g.output.trans h.output,Ki h.size g.size,fun k e m o j=>?_,fun k e=>?_⟩
 ·refine(g.block k (J0 e h.size) m o (fun d=>?_)).trans (h.block k e m o j)
  rcases h.own k d with l|l
  ·exact j l
  ·omega
 ·rcases g.own k e with d|d
  ·exact h.own k d
  ·exact .inr (Ki h.size d)
theorem cZ.chm_trans{d bm:Nat}{O e f:Nat->Prop}{a b c:Wd}(h:cZ d O a e b)(g:jS d bm e b f c)(m:a.heap.size<=bm):cZ d O a f c:=by
 have:=(h.chm (bm:=bm)).trans g;exact⟨this.os,this.tape,this.output,this.size,fun k j i l=>this.block k j i (by omega) l,this.own⟩
theorem jS.drop{a bm:Nat}{O b:Nat->Prop}{w w':Wd}(h:jS a bm O w b w'):jS a bm O w (fun _=>False) w':=⟨h.os,h.tape,h.output,h.size,h.block,fun _ h=>h.elim⟩
structure ja (b0 bM b1 bp bm u:Nat) (O:Nat->Prop) (w:Wd):Prop where
 h0:w.heap[b0]?=some (.cells #[.pointer (some ⟨bp,0,none⟩)] 178 (0,0))
 hM:w.heap[bM]?=some (.cells #[.map (some bm)] 247 (0,0))
 h1:w.heap[b1]?=some (.cells #[.int .i64 (u:Int)] 3 (0,0))
 n0:b0≠bp/\b0≠bm/\¬O b0
 nM:bM≠bp/\bM≠bm/\¬O bM
 n1:b1≠bp/\b1≠bm/\¬O b1
 nm:bm≠bp/\¬O bm/\bm<w.heap.size
theorem ja.chm{d c f g bm u:Nat}{O i:Nat->Prop}{w w':Wd}(h:ja d c f g bm u O w)(a:jS g bm O w i w'):ja d c f g bm u i w':=by
 have j:=(go.1 h.h0).1;have m:=(go.1 h.hM).1;have k:=(go.1 h.h1).1;have e:∀b,b<w.heap.size->¬O b->¬i b:=fun b p n o=>by
  rcases a.own b o with l|l
  ·exact n l
  ·omega
 exact⟨(a.block d j h.n0.1 h.n0.2.1 h.n0.2.2).trans h.h0,(a.block c m h.nM.1 h.nM.2.1 h.nM.2.2).trans h.hM,(a.block f k h.n1.1 h.n1.2.1 h.n1.2.2).trans h.h1,⟨h.n0.1,h.n0.2.1,e d j h.n0.2.2⟩,⟨h.nM.1,h.nM.2.1,e c m h.nM.2.2⟩,⟨h.n1.1,h.n1.2.1,e f k h.n1.2.2⟩,⟨h.nm.1,e bm h.nm.2.2 h.nm.2.1,J0 h.nm.2.2 a.size⟩⟩
theorem NM.chg{a bm:Nat}{O e:Nat->Prop}{b:List (dj)}{w w':Wd}(h:NM bm b w)(f:cZ a O w e w')(c:bm≠a)(d:¬O bm):NM bm b w':=h.kept (f.block bm h.lt c d)
theorem GV.chm{a bm:Nat}{w w':Wd}{O d:Nat->Prop}(h:GV w)(c:jS a bm O w d w')(g:9<=a)(f:a<w.heap.size)(b:∀k,O k->a<k)(i:9<=bm):GV w':=
 h.kept fun k e=>c.block k (by omega) (by omega) (by omega) (fun h=>by have:=b k h;omega)
def gq(v:dj->Nat->JR JT)(ks:List (dj))(s:dv)(p:Nat):JR (dj×JT):=
 match da (b9 s p)with
 | .error o=>.error (2,p+o)
 | .ok (name,m)=>
   if name∈ks then .error (4,p)
   else if(b9 s (p+m+nb (b9 s (p+m)))).head?=some 58 then
    (match v (b9 s (p+m+nb (b9 s (p+m))+1+nb (b9 s (p+m+nb (b9 s (p+m))+1)))) (p+m+nb (b9 s (p+m))+1+nb (b9 s (p+m+nb (b9 s (p+m))+1)))with
      | .error e=>.error e
      | .ok (t,n)=>.ok ((name,t),p+m+nb (b9 s (p+m))+1+nb (b9 s (p+m+nb (b9 s (p+m))+1))+n-p))
   else .error (2,p+m+nb (b9 s (p+m)))
section
variable (Z:Nat) (s:dv) (i:Nat) (W:oa) (u:Nat) (V:Nat) (Y:Va) (kvs:rt) (w:Wd) (U T S bm:Nat) (X:List (dj))
def OQ(O:Nat->Prop)(r:Ending)(w':Wd):JR (dj×JT)->Prop
 | .ok (x,n)=>r=.returned (.tuple #[])/\∃vL' kvs',CN Z s (i+n) (cR W (some u) W.length++flat W.length x.1 x.2) V vL' kvs' w'/\NM bm (X++[x.1]) w'/\jS Z bm O w (own vL' kvs') w'
 | .error (e,a)=>0<e/\r=.panicked (gI e a)/\jS Z bm O w (fun _=>False) w'
theorem zQ{O:Nat->Prop}{r:Ending}{w':Wd}{R:JR (dj×JT)}{e a:Nat}(h:R=.error (e,a))(b:0<e)(c:r=.panicked (gI e a))(d:jS Z bm O w (fun _=>False) w'):OQ Z s i W u V w bm X O r w' R:=by
 rw[h];exact⟨b,c,d⟩
theorem Hg(d:Nat)(hv:lY d V)(hs:s.size<=65536)(Q:9<=Z)(h:CN Z s i W V Y kvs w)(hG:GV w)(hi:i<=s.size)(hl:W.length<=i)(hw:iz W)(hu:u<W.length)(hB:ja U T S Z bm u (own Y kvs) w)(hM:NM bm X w)(au:X.length<=70000)(ar:9<=bm):Calls prog 203 #[.pointer (some ⟨U,0,none⟩),.pointer (some ⟨T,0,none⟩),.pointer (some ⟨S,0,none⟩)] w fun r f=>OQ Z s i W u V w bm X (own Y kvs) r f (gq (valL d) X s i):=by
 have D:=Ij Z s i Y V bm X w hs Q h.cd hG hi hM hB.nm.1 au;have c0:w.cell? ⟨U,0,none⟩=some (.pointer (some ⟨Z,0,none⟩)):=by rw[JE w U 0 _ _ _ hB.h0];rfl
 have cM:w.cell? ⟨T,0,none⟩=some (.map (some bm)):=by rw[JE w T 0 _ _ _ hB.hM];rfl
 have aw:=h.cd.lt;cases v:da (b9 s i)with
 | error o=>
   rw[v]at D;have y:Hid (gq (valL d) X s i=.error (2,i+o)):=by show gq (valL d) X s i=_;rw[gq,v]
   clear v hv;go_enter func203,ntmps203;go_wp2_with fail
   refine D.mono ?_;rintro r j ⟨rfl,z⟩;have O1:Hid _:=z;clear z D;go_wp2;exact⟨rfl,zQ Z s i W u V w bm X y.out (by omega) rfl (O1.out.chm _).drop⟩
 | ok q=>
   obtain⟨k,m⟩:=q;rw[v]at D;have aq:=kQ v;have ay:=jE v;by_cases hk:k∈X
   ·have y:Hid (gq (valL d) X s i=.error (4,i)):=by show gq (valL d) X s i=_;rw[gq,v];simp[hk]
    have aa:=D.mono (R':=fun r f=>r=.panicked (gI 4 i)/\kH Z bm w f) (fun r f hh=>hh.1 hk);clear v hv D;go_enter func203,ntmps203;go_wp2_with fail
    refine aa.mono ?_;rintro r j ⟨rfl,z⟩;have O1:Hid _:=z;clear z aa;go_wp2;exact⟨rfl,zQ Z s i W u V w bm X y.out (by omega) rfl (O1.out.chm _).drop⟩
   ·have aa:=D.mono (R':=fun r f=>r=.returned (.string ⟨k.toArray⟩)/\CD Z s (i+m) Y V f/\NM bm (X++[k]) f/\kH Z bm w f) (fun r f hh=>hh.2 hk)
    clear D;have ai:=gx s (i+m) aq;have H:=fun f h'=>gH Z s (i+m) Y V f (by omega) h' aq
    generalize aj:i+m+nb (b9 s (i+m))=b at H ai
    have ad:Hid (gq (valL d) X s i=if(b9 s b).head?=some 58 then
     (match valL d (b9 s (b+1+nb (b9 s (b+1)))) (b+1+nb (b9 s (b+1)))with
       | .error e=>.error e
       | .ok (t,n)=>.ok ((k,t),b+1+nb (b9 s (b+1))+n-i))
     else .error (2,b)):=by
     show gq (valL d) X s i=_
     rw[gq,v];simp only[hk,L1,aj]
    have ao:Hid (i+m<=b):=by show i+m<=b;omega
    clear v aj;go_enter func203,ntmps203;go_wp2_with fail
    refine aa.mono ?_;rintro r j ⟨rfl,h1,ap,z⟩;have ac:=z.chm (own Y kvs);have ag:=hB.chm ac;have ah:NK (Z+1) 150 Y kvs W j:=h.nk.kept fun g hg=>z.block g (h.nk.own_lt hg).2 (by have:=(h.nk.own_lt hg).1;omega) (fun e=>hB.nm.2.1 (e▸hg))
    have an:GV j:=hG.chm ac Q aw h.above ar;have d0:j.cell? ⟨U,0,none⟩=some (.pointer (some ⟨Z,0,none⟩)):=by rw[JE j U 0 _ _ _ ag.h0];rfl
    have H1:Hid (jS Z bm (own Y kvs) w (own Y kvs) j/\ja U T S Z bm u (own Y kvs) j/\NK (Z+1) 150 Y kvs W j/\GV j/\NM bm (X++[k]) j):=⟨ac,ag,ah,an,ap⟩;clear c0 cM aa z ac ag ah an ap;go_wp2_with fail
    refine(H j h1).mono ?_;rintro r B ⟨rfl,h2,R⟩;have H2:Hid (jS Z bm (own Y kvs) w (own Y kvs) B/\ja U T S Z bm u (own Y kvs) B/\NK (Z+1) 150 Y kvs W B/\GV B/\NM bm (X++[k]) B):=by
     obtain⟨G,c,K,J,E⟩:=H1.out;exact⟨G.trans (R.chg _).chm,c.chm (R.chg _).chm,K.onl R (by omega),J.onl R Q h1.lt,E.chg (R.chg (own Y kvs)) c.nm.1 c.nm.2.1⟩
    have e0:B.cell? ⟨U,0,none⟩=some (.pointer (some ⟨Z,0,none⟩)):=by rw[JE B U 0 _ _ _ H2.out.2.1.h0];rfl
    clear H R H1 d0 h1;by_cases I:(b9 s b).head?=some 58
    ·have ax:=dr I
     have F:=hJ Z s b Y V 58 B (by omega) h2 I;rw[show((58:UInt8).toNat:Int)=58 from rfl]at F;have al:=gx s (b+1) (by omega);have H:=fun f h'=>gH Z s (b+1) Y V f (by omega) h' (by omega)
     have ab:=ad.out;rw[if_pos I]at ab;generalize av:b+1+nb (b9 s (b+1))=A at H al ab;have y:Hid _:=ab;have am:Hid (b+1<=A):=by show b+1<=A;omega
     clear I ab ad av;go_wp2_with fail
     refine F.mono ?_;rintro r p ⟨rfl,h3,C⟩;have H3:Hid (jS Z bm (own Y kvs) w (own Y kvs) p/\ja U T S Z bm u (own Y kvs) p/\NK (Z+1) 150 Y kvs W p/\GV p/\NM bm (X++[k]) p):=by
      obtain⟨G,c,K,J,E⟩:=H2.out;exact⟨G.trans (C.chg _).chm,c.chm (C.chg _).chm,K.onl C (by omega),J.onl C Q h2.lt,E.chg (C.chg (own Y kvs)) c.nm.1 c.nm.2.1⟩
     have f0:p.cell? ⟨U,0,none⟩=some (.pointer (some ⟨Z,0,none⟩)):=by rw[JE p U 0 _ _ _ H3.out.2.1.h0];rfl
     clear F C H2 e0 h2;go_wp2_with fail
     refine(H p h3).mono ?_;rintro r l ⟨rfl,h4,L⟩;have N:Hid (jS Z bm (own Y kvs) w (own Y kvs) l/\ja U T S Z bm u (own Y kvs) l/\NK (Z+1) 150 Y kvs W l/\GV l/\NM bm (X++[k]) l):=by
      obtain⟨G,c,K,J,E⟩:=H3.out;exact⟨G.trans (L.chg _).chm,c.chm (L.chg _).chm,K.onl L (by omega),J.onl L Q h3.lt,E.chg (L.chg (own Y kvs)) c.nm.1 c.nm.2.1⟩
     have g0:l.cell? ⟨U,0,none⟩=some (.pointer (some ⟨Z,0,none⟩)):=by rw[JE l U 0 _ _ _ N.out.2.1.h0];rfl
     have g1:l.cell? ⟨S,0,none⟩=some (.int .i64 (u:Int)):=by rw[JE l S 0 _ _ _ N.out.2.1.h1];rfl
     clear H L H3 f0 h3;have M:=GN Z s A W u k V Y kvs l d hv hs Q ⟨h4,N.out.2.2.1⟩ N.out.2.2.2.1 al (by have:=ao.out;have:=am.out;omega) hw hu;clear hv;cases O:valL d (b9 s A) A with
     | error x=>
       obtain⟨e,a⟩:=x;rw[O]at M;have ae:Hid (gq (valL d) X s i=.error (e,a)):=by have:=y.out;rw[O]at this;exact this
       clear O y;go_wp2_with fail
       refine M.mono ?_;rintro r w5 ⟨h0,rfl,h5⟩;have P:Hid (0<e/\jS Z bm (own Y kvs) w (fun _=>False) w5):=⟨h0,N.out.1.trans h5.chm⟩;clear M h0 h5;go_wp2;exact⟨rfl,zQ Z s i W u V w bm X ae.out P.out.1 rfl P.out.2⟩
     | ok x=>
       obtain⟨t,n⟩:=x;rw[O]at M;have ae:Hid (gq (valL d) X s i=.ok ((k,t),A+n-i)):=by have:=y.out;rw[O]at this;exact this
       clear O y;go_wp2_with fail
       refine M.mono ?_;rintro r w5 ⟨rfl,v5,k5,ak,af⟩;have P:Hid (CN Z s (A+n) (cR W (some u) W.length++flat W.length k t) V v5 k5 w5/\NM bm (X++[k]) w5/\jS Z bm (own Y kvs) w (own v5 k5) w5):=by
        obtain⟨G,c,K,J,E⟩:=N.out;exact⟨ak,E.chg af c.nm.1 c.nm.2.1,G.trans af.chm⟩
       clear M ak af;go_wp2;go_end0
       rw[ae.out];refine⟨rfl,v5,k5,?_,P.out.2.1,P.out.2.2⟩;rw[show i+(A+n-i)=A+n by have:=ao.out;have:=am.out;omega];exact P.out.1
    ·have F:=jx Z s b Y V 58 B h2 ai (by decide) I
     rw[show((58:UInt8).toNat:Int)=58 from rfl]at F;have y:Hid (gq (valL d) X s i=.error (2,b)):=by have:=ad.out;rw[if_neg I]at this;exact this
     clear I hv ad;go_wp2_with fail
     refine F.mono ?_;rintro r p ⟨rfl,h3,C⟩;have H3:Hid (jS Z bm (own Y kvs) w (own Y kvs) p):=H2.out.1.trans (C.chg _).chm;clear F C;go_wp2;exact⟨rfl,zQ Z s i W u V w bm X y.out (by omega) rfl H3.out.drop⟩
end
theorem EM{d:Nat}{a:List (dj)}{s:dv}{p n:Nat}{name:dj}{t:JT}(h:gq (valL d) a s p=.ok ((name,t),n)):p+n<=s.size/\t.size+1<=n/\name∉a:=by
 unfold gq at h;split at h
 ·cases h
 ·next nm m hq=>
  split at h
  ·cases h
  ·next hk=>
   split at h
   ·next hc=>
    have l:=dr hc;split at h
    ·cases h
    ·next t' n' hv=>
     have e:=gx s (p+m+nb (b9 s (p+m))+1) (by omega);have k:=pp s d _ _ _ _ hv e;have i:=jH d _ _ _ _ hv;injection h with h;injection h with b j;injection b with f c;subst f;subst c;exact⟨by omega,by omega,hk⟩
   ·cases h
theorem objF_memE{d:Nat}{s:dv}{q p f e a:Nat}{b:List (dj)}(c:q+nb (b9 s q)=p)(h:gq (valL d) b s p=.error (e,a)):dn (valL d) (f+1) b (b9 s q) q=.error (e,a)/\0<e\/dn (valL d) (f+1) b (b9 s q) q=.error (e,a):=by
 right;unfold gq at h;split at h
 ·next o hq=>injection h with h;rw[<-h];exact rh (valL d) s q f p o b c hq
 ·next nm m hq=>
  split at h
  ·next hk=>injection h with h;rw[<-h];exact pT (valL d) s q f p m b nm c hq hk
  ·next hk=>
   split at h
   ·next hc=>
    split at h
    ·next e' hv=>injection h with h;rw[oV (valL d) s q f p _ _ m b nm c hq hk rfl hc rfl,hv,h]
    ·cases h
   ·next hc=>injection h with h;rw[<-h];exact pY (valL d) s q f p _ m b nm c hq hk rfl hc
theorem sb{d:Nat}{s:dv}{q p f n:Nat}{b:List (dj)}{name:dj}{t:JT}(j:q+nb (b9 s q)=p)(h:gq (valL d) b s p=.ok ((name,t),n))(a:Nat)(r:p+n+nb (b9 s (p+n))=a):dn (valL d) (f+1) b (b9 s q) q=match b9 s a with
 | c::_=>
   if c=44 then(match dn (valL d) f (b++[name]) (b9 s (a+1)) (a+1)with| .error e=>.error e| .ok (ms,k)=>.ok ((name,t)::ms,a+1-q+k))
   else if c=125 then .ok ([(name,t)],a+1-q)else .error (2,a)
 | []=>.error (2,a):=by
 unfold gq at h;split at h
 ·cases h
 ·next nm m hq=>
  have u:=jE hq;split at h
  ·cases h
  ·next hk=>
   split at h
   ·next hc=>
    split at h
    ·cases h
    ·next t' n' hv=>
     injection h with h;injection h with g v;injection g with l o;subst l;subst o;rw[oV (valL d) s q f p _ _ m b nm j hq hk rfl hc rfl,hv];have i:p+m+nb (b9 s (p+m))+1+nb (b9 s (p+m+nb (b9 s (p+m))+1))+n'=p+n:=by omega
     simp only[i,r];rfl
   ·cases h
theorem vt{d:Nat}{s:dv}{q p f n a:Nat}{g:List (dj)}{name:dj}{t:JT}(l:q+nb (b9 s q)=p)(h:gq (valL d) g s p=.ok ((name,t),n))(j:p+n+nb (b9 s (p+n))=a)(b:(b9 s a).head?=some 44):dn (valL d) (f+1) g (b9 s q) q=match dn (valL d) f (g++[name]) (b9 s (a+1)) (a+1)with| .error e=>.error e| .ok (ms,k)=>.ok ((name,t)::ms,a+1-q+k):=by
 rw[sb l h a j];match i:b9 s a with
 | []=>rw[i]at b;cases b
 | c::r=>
   rw[i]at b;have b:c=44:=by simpa using b
   simp only[b,if_true]
theorem pG{d:Nat}{s:dv}{q p f n a:Nat}{e:List (dj)}{name:dj}{t:JT}(j:q+nb (b9 s q)=p)(h:gq (valL d) e s p=.ok ((name,t),n))(i:p+n+nb (b9 s (p+n))=a)(b:(b9 s a).head?≠some 44):dn (valL d) (f+1) e (b9 s q) q=if(b9 s a).head?=some 125 then .ok ([(name,t)],a+1-q)else .error (2,a):=by
 rw[sb j h a i];match g:b9 s a with
 | []=>simp
 | c::r=>
   rw[g]at b;have b:c≠44:=by simpa using b
   simp[b]
theorem rX(b:List (dj×JT))(x:dj×JT)(i p a:Nat)(h:i<=p)(d:p<=a)(c:Prop) [Decidable c]:jI b i p (if c then .ok ([x],a+1-p)else .error (2,a))=if c then .ok (.obj (b++[x]) i,a-i+1)else .error (2,a):=by
 split
 ·simp[jI];omega
 ·rfl
theorem yt(b:List (dj×JT)):b.length<=cp b:=by
 induction b with
 | nil=>simp
 | cons a r ih=>obtain⟨k,t⟩:=a;have:=eM t;simp only[JM,cp];omega
section
variable (Z:Nat) (s:dv) (Y:Nat) (w:Wd) (W X V bm:Nat)
def LO(d:Nat)(w0:Wd)(O0:Nat->Prop)(i0:Nat)(key:dj)(ns:oa)(wr:Wd):Prop:=
 ∃q p ms f vR kR,i0<q/\q+nb (b9 s q)=p/\p<=s.size/\(b9 s q).length<f/\CN Z s p (dI ns none key i0 ms) Y vR kR wr/\(dI ns none key i0 ms).length<=q/\iz (dI ns none key i0 ms)/\db (valL d) (b9 s i0) i0=jI ms i0 q (dn (valL d) f (ms.map (·.1)) (b9 s q) q)/\GV wr/\cZ Z O0 w0 (own vR kR) wr/\ja W X V Z bm ns.length (own vR kR) wr/\NM bm (ms.map (·.1)) wr
def kS:Va:=.func (.func 203) #[] #[.pointer (some ⟨W,0,none⟩),.pointer (some ⟨X,0,none⟩),.pointer (some ⟨V,0,none⟩)]
theorem EA(d:Nat)(hv:lY d Y)(hs:s.size<=65536)(R:9<=Z)(al:9<=bm)(o:Wd)(ap:o.heap.size<=bm)(u:Nat->Prop)(i0:Nat)(m:dj)(k:oa)(ar:LO Z s Y W X V bm d o u i0 m k w):Calls prog 222 #[.pointer (some ⟨Z,0,none⟩),.int .u8 125,kS W X V] w fun r w'=>IQ Z s Y u o i0 m k r w' (db (valL d) (b9 s i0) i0):=by
 unfold kS;have aw:Hid _:=ar;clear ar;go_enter func222,ntmps222;go_wp2_with fail
 go_loopw [6] (fun _ wr=>LO Z s Y W X V bm d o u i0 m k wr) (fun _ wr=>s.size+1-dU (wr.cell? ⟨Z,1,none⟩))
 case atStart=>exact aw.out
 case round=>
  clear aw;obtain⟨q,p,c,f,vR,kR,ao,hp,aC,hf,hN,ai,ag,av,ad,hC,hB,hM⟩:=hrel;have HM:Hid _:=gg hN.cd;have aB:k.length<(dI k none m i0 c).length:=by rw[eA];omega
  have aq:(c.map (·.1)).length<=70000:=by rw[Kq];have:=yt c;rw[eA]at ai;omega
  have O:=Hg Z s p (dI k none m i0 c) k.length Y vR kR wr W X V bm (c.map (·.1)) d hv hs R hN ad aC (by omega) ag aB hB hM aq al;obtain⟨f,rfl⟩:∃g,f=g+1:=⟨f-1,by omega⟩;have HP:Hid _:=hp;have HF:Hid _:=av;have HC:Hid _:=hC;have HB:Hid _:=hB;have HX:Hid (i0<q/\q<=p/\(dI k none m i0 c).length<=q/\iz (dI k none m i0 c)/\(b9 s q).length<f+1):=⟨ao,by omega,ai,ag,hf⟩;have HG:Hid (GV wr/\CN Z s p (dI k none m i0 c) Y vR kR wr):=⟨ad,hN⟩;have aD:=hN.cd.lt;clear av hC hB ao ai ag hf hp ad hN aB hv hM aq;cases N:gq (valL d) (c.map (·.1)) s p with
  | error x=>
    obtain⟨e,a⟩:=x;rw[N]at O;have J:Hid (db (valL d) (b9 s i0) i0=.error (e,a)):=by
     show db (valL d) (b9 s i0) i0=.error (e,a)
     rcases objF_memE (f:=f) HP.out N with h|h
     ·rw[HF.out,h.1];rfl
     ·rw[HF.out,h];rfl
    clear N;go_wp2_with fail
    refine O.mono ?_;rintro r y ⟨h0,rfl,h1⟩;have A:Hid (0<e/\cZ Z u o (fun _=>False) y):=⟨h0,HC.out.chm_trans h1 ap⟩;clear O h0 h1;go_wp2;refine⟨rfl,?_⟩;rw[J.out];exact⟨A.out.1,rfl,A.out.2⟩
  | ok x=>
    obtain⟨⟨l,t⟩,n⟩:=x;rw[N]at O;have HV:Hid (gq (valL d) (c.map (·.1)) s p=.ok ((l,t),n)):=N;obtain⟨ak,aE,_⟩:=EM N;clear N;go_wp2_with fail
    refine O.mono ?_;rintro r y ⟨rfl,b,j,ab,ay,ac⟩;have am:ja W X V Z bm k.length (own b j) y:=HB.out.chm ac;have ax:GV y:=HG.out.1.chm ac R aD HG.out.2.above al;have az:=HC.out.chm_trans ac ap;rw[pr]at ab;have aj:Hid (CN Z s (p+n) (dI k none m i0 (c++[(l,t)])) Y b j y):=ab;have A:Hid (ja W X V Z bm k.length (own b j) y/\GV y/\cZ Z u o (own b j) y/\NM bm (c.map (·.1)++[l]) y):=⟨am,ax,az,ay⟩;have P:=gH Z s (p+n) b Y y (by omega) ab.cd ak;have ah:=gx s (p+n) ak;generalize aA:p+n+nb (b9 s (p+n))=i at P ah;have af:Hid (p+n+nb (b9 s (p+n))=i):=aA;have U:Hid (t.size<=n/\p+n<=i):=⟨by omega,by omega⟩;clear am ax az ab O ac aA aE ak ay;go_wp2_with fail
    refine P.mono ?_;rintro r I ⟨rfl,h2,S⟩;have ae:Hid (CN Z s i (dI k none m i0 (c++[(l,t)])) Y b j I):=aj.out.onl h2 S;have G:Hid (ja W X V Z bm k.length (own b j) I/\GV I/\cZ Z u o (own b j) I/\NM bm (c.map (·.1)++[l]) I):=⟨A.out.1.chm (S.chg _).chm,A.out.2.1.onl S R aj.out.cd.lt,A.out.2.2.1.trans (S.chg _),A.out.2.2.2.chg (S.chg (own b j)) A.out.1.nm.1 A.out.1.nm.2.1⟩;clear P S aj A;by_cases F:(b9 s i).head?=some 125
    ·have H:=fQ Z s i b Y 125 I (by omega) h2 F
     rw[show((125:UInt8).toNat:Int)=125 from rfl]at H;have J:Hid (db (valL d) (b9 s i0) i0=.ok (.obj (c++[(l,t)]) i0,i-i0+1)):=by
      show db (valL d) (b9 s i0) i0=_
      have Q:=HX.out;have hz:=U.out;rw[HF.out,pG HP.out HV.out af.out (by rw[F];decide),rX c (l,t) i0 q i (by omega) (by omega),if_pos F]
     clear F;go_wp2_with fail
     refine H.mono ?_;rintro r v ⟨rfl,M,z⟩;have aa:Hid (CN Z s (i+1) (dI k none m i0 (c++[(l,t)])) Y b j v):=ae.out.onl M z;have B:Hid (cZ Z u o (own b j) v):=G.out.2.2.1.trans (z.chg _);clear H z;go_wp2;refine Ka (Ma rfl _ _ _) rfl ?_;rw[J.out];refine⟨rfl,b,j,?_,B.out⟩;rw[show i0+(i-i0+1)=i+1 by have:=HX.out;have:=U.out;omega];exact aa.out
    ·have H:=gt Z s i b Y 125 I h2 ah (by decide) F
     rw[show((125:UInt8).toNat:Int)=125 from rfl]at H;go_wp2_with fail
     refine H.mono ?_;rintro r v ⟨rfl,M,z⟩;have aa:Hid (CN Z s i (dI k none m i0 (c++[(l,t)])) Y b j v):=ae.out.onl M z;have B:Hid (ja W X V Z bm k.length (own b j) v/\GV v/\cZ Z u o (own b j) v/\NM bm (c.map (·.1)++[l]) v):=⟨G.out.1.chm (z.chg _).chm,G.out.2.1.onl z R h2.lt,G.out.2.2.1.trans (z.chg _),G.out.2.2.2.chg (z.chg (own b j)) G.out.1.nm.1 G.out.1.nm.2.1⟩;clear H z G ae h2;by_cases K:(b9 s i).head?=some 44
     ·have L:=hJ Z s i b Y 44 v (by omega) M K
      rw[show((44:UInt8).toNat:Int)=44 from rfl]at L;have aH:=dr K;have P:=fun w' h'=>gH Z s (i+1) b Y w' (by omega) h' (by omega)
      have J:Hid (db (valL d) (b9 s i0) i0=jI (c++[(l,t)]) i0 (i+1) (dn (valL d) f (c.map (·.1)++[l]) (b9 s (i+1)) (i+1))):=by
       show db (valL d) (b9 s i0) i0=_
       have Q:=HX.out;have hz:=U.out;rw[HF.out,vt HP.out HV.out af.out K];exact qO c (l,t) i0 q (i+1) (by omega) (by omega) _
      have aG:=gx s (i+1) (by omega);clear F K;go_wp2_with fail
      refine L.mono ?_;rintro r E ⟨rfl,h4,D⟩;have an:Hid (CN Z s (i+1) (dI k none m i0 (c++[(l,t)])) Y b j E):=aa.out.onl h4 D;have C:Hid (ja W X V Z bm k.length (own b j) E/\GV E/\cZ Z u o (own b j) E/\NM bm (c.map (·.1)++[l]) E):=⟨B.out.1.chm (D.chg _).chm,B.out.2.1.onl D R M.lt,B.out.2.2.1.trans (D.chg _),B.out.2.2.2.chg (D.chg (own b j)) B.out.1.nm.1 B.out.1.nm.2.1⟩;clear L D B aa M;go_wp2_with fail
      refine(P E h4).mono ?_;rintro r w5 ⟨rfl,h5,T⟩;have aF:Hid (CN Z s (i+1+nb (b9 s (i+1))) (dI k none m i0 (c++[(l,t)])) Y b j w5):=an.out.onl h5 T;have H5:Hid (ja W X V Z bm k.length (own b j) w5/\GV w5/\cZ Z u o (own b j) w5/\NM bm (c.map (·.1)++[l]) w5):=⟨C.out.1.chm (T.chg _).chm,C.out.2.1.onl T R h4.lt,C.out.2.2.1.trans (T.chg _),C.out.2.2.2.chg (T.chg (own b j)) C.out.1.nm.1 C.out.1.nm.2.1⟩;clear P T C an h4;go_wp2;have Q:=HX.out;have hz:=U.out;have au:(c++[(l,t)]).map (·.1)=c.map (·.1)++[l]:=by simp
      refine⟨⟨i+1,_,c++[(l,t)],f,b,j,by omega,rfl,aG,?_,aF.out,?_,?_,?_,H5.out.2.1,H5.out.2.2.1,H5.out.1,?_⟩,?_⟩
      ·have:=Q.2.2.2.2;rw[cx]at this ⊢;omega
      ·have e1:=Q.2.2.1
       rw[eA]at e1 ⊢;rw[mH];omega
      ·rw[<-pr];exact jK Q.2.2.2.1 (some k.length) l t
      ·rw[au];exact J.out
      ·rw[au];exact H5.out.2.2.2
      ·rw[HM.out,gg h5];omega
     ·have L:=jx Z s i b Y 44 v M ah (by decide) K
      rw[show((44:UInt8).toNat:Int)=44 from rfl]at L;have J:Hid (db (valL d) (b9 s i0) i0=.error (2,i)):=by
       show db (valL d) (b9 s i0) i0=_
       have Q:=HX.out;have hz:=U.out;rw[HF.out,pG HP.out HV.out af.out K,rX c (l,t) i0 q i (by omega) (by omega),if_neg F]
      clear F K;go_wp2_with fail
      refine L.mono ?_;rintro r E ⟨rfl,h4,D⟩;have C:Hid (cZ Z u o (own b j) E):=B.out.2.2.1.trans (D.chg _);clear L D;go_wp2;refine⟨rfl,?_⟩;rw[J.out];exact⟨by omega,rfl,C.out.drop⟩
end
section
variable (Z:Nat) (s:dv) (i:Nat) (V:dj) (W:oa) (Y:Nat) (X:Va) (kvs:rt) (w:Wd) (T U S bm:Nat)
theorem uJ(h:CN Z s i (dI W none V i []) Y X kvs w)(e:Y=32):Calls prog 202 #[.pointer (some ⟨Z,0,none⟩),.int .u8 125,kS T U S] w fun r a=>r=.panicked (gI 5 i)/\a=w:=by
 unfold kS;obtain⟨c,g,k,j,f⟩:=h.cd.cell;have b:=fun a=>jn 5 i a
 go_enter func202,ntmps202;go_wp2_with fail
 refine(b w).mono ?_;rintro r d ⟨rfl,rfl⟩;go_wp2;exact⟨rfl,rfl,rfl⟩
theorem Fz(o:Wd)(C:Nat->Prop)(d:Nat)(D:lY d (Y+1))(hs:s.size<=65536)(ac:9<=Z)(h:CN Z s i (dI W none V i []) Y X kvs w)(hG:GV w)(hi:i<s.size)(hl:W.length<=i)(hw:iz W)(hd:Y<32)(K:ja T U S Z bm W.length (own X kvs) w)(hM:NM bm [] w)(ae:9<=bm)(ag:o.heap.size<=bm)(af:cZ Z C o (own X kvs) w):Calls prog 202 #[.pointer (some ⟨Z,0,none⟩),.int .u8 125,kS T U S] w fun r w'=>IQ Z s Y C o i V W r w' (db (valL d) (b9 s i) i):=by
 have ah:=h.cd.lt;obtain⟨P,H,J,O,b⟩:=h.cd.cell;have f1:=b 1;have M:=b 3
 have y:Hid (CD Z s (i+1) X (Y+1) ((w.setCell ⟨Z,3,none⟩ (.int .i64 ((Y:Int)+1))).setCell ⟨Z,1,none⟩ (.int .i64 ((i:Int)+1)))/\ca Z w ((w.setCell ⟨Z,3,none⟩ (.int .i64 ((Y:Int)+1))).setCell ⟨Z,1,none⟩ (.int .i64 ((i:Int)+1)))):=⟨(h.cd.setD (Y+1)).setI (i+1),ca.setCell (ca.setCell (ce Z w) _ h.cd) _ (h.cd.setD (Y+1))⟩;have Q:Hid _:=af;have H0:Hid _:=h;unfold kS;go_enter func202,ntmps202;go_wp2_with fail
 generalize (w.setCell ⟨Z,3,none⟩ (.int .i64 ((Y:Int)+1))).setCell ⟨Z,1,none⟩ (.int .i64 ((i:Int)+1))=w1 at y;have h1:=y.out.1;have R:Hid _:=y.out.2;clear y P H J O b f1 M h;have G:=gH Z s (i+1) X (Y+1) w1 (by omega) h1 (by omega);have I:=gx s (i+1) (by omega);have hz:=tK s (i+1) _ rfl;generalize F:i+1+nb (b9 s (i+1))=p at G I hz;have HP:Hid _:=F;have aa:Hid (i+1<=p):=by show i+1<=p;omega
 clear F;refine G.mono ?_;rintro r w2 ⟨rfl,h2,o2⟩;have A:Hid _:=R.out.trans o2;clear G o2 R h1;by_cases m:(b9 s p).head?=some 125
 ·have f:=fQ Z s p X (Y+1) 125 w2 (by omega) h2 m
  rw[show((125:UInt8).toNat:Int)=125 from rfl]at f;have u:Hid (db (valL d) (b9 s i) i=.ok (.obj [] i,p-i+1)):=by
   show db (valL d) (b9 s i) i=_
   rw[n9 (valL d) s i p HP.out,if_pos m]
  clear m D;go_wp2_with fail
  refine f.mono ?_;rintro r B ⟨rfl,v,x⟩;have c:Hid _:=A.out.trans x;clear f x A;obtain⟨P,H,J,O,b⟩:=v.cell;have M:=b 3;go_wp2;go_end0
  rw[u.out];have z:=v.setD Y;have o4:=ca.setCell (k:=3) c.out (.int .i64 (Y:Int)) v;refine⟨rfl,X,kvs,?_,Q.out.trans (o4.chg _)⟩;rw[show i+(p-i+1)=p+1 by have:=aa.out;omega];exact H0.out.onl z o4
 ·have f:=gt Z s p X (Y+1) 125 w2 h2 I (by decide) m
  rw[show((125:UInt8).toNat:Int)=125 from rfl]at f;have u:Hid (db (valL d) (b9 s i) i=jI [] i p (dn (valL d) ((b9 s i).length+1) [] (b9 s p) p)):=by
   show db (valL d) (b9 s i) i=_
   rw[n9 (valL d) s i p HP.out,if_neg m]
  clear m;go_wp2_with fail
  refine f.mono ?_;rintro r B ⟨rfl,v,x⟩;have c:Hid (ca Z w B):=A.out.trans x;clear f x A;have ad:LO Z s (Y+1) T U S bm d o C i V W B:=by
   have F:=aa.out;refine⟨p,p,[],(b9 s i).length+1,X,kvs,by omega,by rw[hz];rfl,I,?_,⟨v,H0.out.nk.onl c.out (by omega)⟩,?_,?_,u.out,hG.onl c.out ac ah,Q.out.trans (c.out.chg _),K.chm (c.out.chg _).chm,hM.chg (c.out.chg (own X kvs)) K.nm.1 K.nm.2.1⟩
   ·rw[cx,cx];omega
   ·rw[eA];simp[cp];omega
   ·exact jK hw none V (.obj [] i)
  have j:=EA Z s (Y+1) B T U S bm d D hs ac ae o ag C i V W ad;unfold kS at j;clear ad D;cases l:db (valL d) (b9 s i) i with
  | error q=>
    obtain⟨e,a⟩:=q;rw[l]at j;have N:Hid _:=l;clear l u;go_wp2_with fail
    refine j.mono ?_;rintro r E ⟨h0,rfl,z⟩;have g:Hid _:=And.intro h0 z;clear h0 z j;go_wp2;refine⟨rfl,?_⟩;rw[N.out];exact⟨g.out.1,rfl,g.out.2⟩
  | ok q=>
    obtain⟨t,n⟩:=q;rw[l]at j;have N:Hid _:=l;clear l u;go_wp2_with fail
    refine j.mono ?_;rintro r E ⟨rfl,v4,k4,L,ab⟩;have g:Hid _:=And.intro L ab;obtain⟨P,H,J,O,b⟩:=L.cd.cell;clear j L ab;go_wp2;go_end0
    have h5:CD Z s (i+n) v4 Y (E.setCell ⟨Z,3,none⟩ (.int .i64 (Y:Int))):=g.out.1.cd.setD Y;have o5:=ca.setCell (k:=3) (ce Z E) (.int .i64 (Y:Int)) g.out.1.cd;rw[N.out];exact⟨rfl,v4,k4,⟨h5,g.out.1.nk.onl o5 (by omega)⟩,g.out.2.trans (o5.chg _)⟩
end
section
variable (Y:Nat) (s:dv) (i:Nat) (Z:oa) (V:dj) (X g cap:Nat) (kvs:rt) (w:Wd)
theorem D9(d:Nat)(S:X<32->∃m,d=m+1/\lY m (X+1))(U:X=32->d=0)(ax:X<=32)(hs:s.size<=65536)(aa:9<=Y)(h:CN Y s i (Z++[fj V i]) X (.slice (some ⟨g,0,none⟩) (Z.length+1) cap) kvs w)(hG:GV w)(M:(b9 s i).head?=some 123)(hl:Z.length<=i)(hw:iz Z):Calls prog 189 #[.pointer (some ⟨Y,0,none⟩),.int .i64 (Z.length:Int)] w fun r w'=>
 VQ Y s i Z V X (own (.slice (some ⟨g,0,none⟩) (Z.length+1) cap) kvs) w (.tuple #[]) r w' (valL d (b9 s i) i):=by
 have ay:=@run_makeMap prog;have aB:∀(fn:Fn) (ah cap:Array Value) (w:Wd),(Instr.makeFunc fn ah cap).run prog w=.ok (.func fn ah cap) w:=fun _ _ _ _=>rfl
 have hi:=dr M
 have af:=h.cd.lt;have az:kvs.length=Z.length+1:=by have:=h.nk.1;simpa using this
 obtain⟨Q,ag⟩:∃Q,kvs[Z.length]?=some Q:=⟨_,JF (by omega)⟩;obtain⟨_,aw,aE,au⟩:=cc h.nk.2.1 (g:=g) rfl;generalize p:(w.alloc (.cells #[.pointer (some ⟨Y,0,none⟩)] 178)).alloc (.cells #[.int .i64 (Z.length:Int)] 3)=W;have aq:W.heap.size=w.heap.size+2:=by subst p;simp
 have F:CN Y s i (Z++[fj V i]) X (.slice (some ⟨g,0,none⟩) (Z.length+1) cap) kvs W:=by subst p;exact(h.alloc _).alloc _
 have ab:cZ Y (own (.slice (some ⟨g,0,none⟩) (Z.length+1) cap) kvs) w (own (.slice (some ⟨g,0,none⟩) (Z.length+1) cap) kvs) W:=by subst p;exact(iK Y _ w _).trans (iK Y _ _ _)
 have G:ix w.heap.size (w.heap.size+1) Y Z.length (own (.slice (some ⟨g,0,none⟩) (Z.length+1) cap) kvs) W:=by
  refine⟨?_,?_,⟨by omega,fun y=>?_⟩,⟨by omega,fun y=>?_⟩⟩
  ·subst p;rw[JO _ _ (by simp),JK]
  ·subst p;have:=JK (w.alloc (.cells #[.pointer (some ⟨Y,0,none⟩)] 178)) (.cells #[.int .i64 (Z.length:Int)] 3);simpa using this
  ·have:=(h.nk.own_lt y).2;omega
  ·have:=(h.nk.own_lt y).2;omega
 obtain⟨p0,al⟩:=F.nk.at (g:=g) rfl (u:=Z.length) (j:=0) (n:=fj V i) (x:=.int .i64 0) (by simp) ag (by omega) rfl;rw[Ku]at p0 al;have D:=F.put (gL:=g) rfl (fun n=>{n with kind:=5}) 0 (.int .i64 5) (fun n Q=>rfl) (fun n=>rfl) (by omega) Z.length (by simp);rw[jr,Ku]at D;have v:=D.1;have z:=ab.trans D.2;have c:=G.chg D.2;have L:=hG.chg z aa af h.above;have C:Hid _:=And.intro v (And.intro z (And.intro c L));obtain⟨c0,c1,c2,c3,cf⟩:=F.cd.cell;have x0:W.cell? ⟨w.heap.size,0,none⟩=some (.pointer (some ⟨Y,0,none⟩)):=by rw[JE W _ 0 _ _ _ G.h0];rfl
 have x1:W.cell? ⟨w.heap.size+1,0,none⟩=some (.int .i64 (Z.length:Int)):=by rw[JE W _ 0 _ _ _ G.h1];rfl
 have HW:Hid _:=p;clear v z c L D G F ab ag au
 go_enter func189,ntmps189;go_wp2_with fail
 go_region
 have T:Hid (CN Y s i (dI Z none V i []) X (.slice (some ⟨g,0,none⟩) (Z.length+1) cap) kvs (W.setCell ⟨g,Z.length*6,none⟩ (.int .i64 5)).drew/\cZ Y (own (.slice (some ⟨g,0,none⟩) (Z.length+1) cap) kvs) w (own (.slice (some ⟨g,0,none⟩) (Z.length+1) cap) kvs) (W.setCell ⟨g,Z.length*6,none⟩ (.int .i64 5)).drew/\ix w.heap.size (w.heap.size+1) Y Z.length (own (.slice (some ⟨g,0,none⟩) (Z.length+1) cap) kvs) (W.setCell ⟨g,Z.length*6,none⟩ (.int .i64 5)).drew/\GV (W.setCell ⟨g,Z.length*6,none⟩ (.int .i64 5)).drew):=⟨C.out.1.drew,C.out.2.1.drew,C.out.2.2.1.drew,C.out.2.2.2.drew⟩;clear p0 al c0 c1 c2 c3 cf x0 x1 HW C aq;generalize (W.setCell ⟨g,Z.length*6,none⟩ (.int .i64 5)).drew=b at T;clear p;obtain⟨v,z,c,L⟩:=T.out;have av:w.heap.size+2<=b.heap.size:=by have:=(go.1 c.h1).1;omega
 generalize B:(b.alloc (.map #[] 0)).alloc (.cells #[.map (some b.heap.size)] 247)=l;have ar:l.heap.size=b.heap.size+2:=by subst B;simp
 have ak:CN Y s i (dI Z none V i []) X (.slice (some ⟨g,0,none⟩) (Z.length+1) cap) kvs l:=by subst B;exact(v.alloc _).alloc _
 have P:cZ Y (own (.slice (some ⟨g,0,none⟩) (Z.length+1) cap) kvs) w (own (.slice (some ⟨g,0,none⟩) (Z.length+1) cap) kvs) l:=by subst B;exact z.trans ((iK Y _ b _).trans (iK Y _ _ _))
 have aj:=hG.chg P aa af h.above;have an:NM b.heap.size [] l:=by
  subst B;exact World.ownsMap.alloc (World.ownsMap_made b prog 9 (unitElem (H:=Unit))) _
 have ae:l.heap[b.heap.size+1]?=some (.cells #[.map (some b.heap.size)] 247 (0,0)):=by
  subst B;have:=JK (b.alloc (.map #[] 0)) (.cells #[.map (some b.heap.size)] 247);simpa using this
 have N:∀k,k<b.heap.size->l.heap[k]?=b.heap[k]?:=by
  intro k hk;subst B;rw[JO _ _ (by simp;omega),JO _ _ hk]
 have R:ja w.heap.size (b.heap.size+1) (w.heap.size+1) Y b.heap.size Z.length (own (.slice (some ⟨g,0,none⟩) (Z.length+1) cap) kvs) l:=by
  refine⟨(N _ (by omega)).trans c.h0,ae,(N _ (by omega)).trans c.h1,⟨c.n0.1,by omega,c.n0.2⟩,⟨by omega,by omega,fun y=>?_⟩,⟨c.n1.1,by omega,c.n1.2⟩,⟨by omega,fun y=>?_,by omega⟩⟩
  ·have:=(v.nk.own_lt y).2;omega
  ·have:=(v.nk.own_lt y).2;omega
 have y0:l.cell? ⟨w.heap.size,0,none⟩=some (.pointer (some ⟨Y,0,none⟩)):=by rw[JE l _ 0 _ _ _ R.h0];rfl
 have o:Hid _:=And.intro ak (And.intro P (And.intro aj (And.intro an R)));have ao:9<=b.heap.size:=by omega
 have ap:w.heap.size<=b.heap.size:=by omega
 clear v z c L ar ak P aj an ae N R T;have I:Hid (valL d (b9 s i) i=GU d (b9 s i) i):=Ai d _ _ M;by_cases J:X=32
 ·have ac:=U J
  have K:Hid (valL d (b9 s i) i=.error (5,i)):=by have:=I.out;rw[ac]at this ⊢;exact this
  have f:=uJ Y s i V Z X _ kvs l w.heap.size (b.heap.size+1) (w.heap.size+1) o.out.1 J;unfold kS at f;clear S U ac I J;go_wp2_with fail
  refine f.mono ?_;rintro r w5 ⟨rfl,rfl⟩;clear f;go_wp2;refine⟨rfl,?_⟩;rw[K.out];exact⟨by omega,rfl,o.out.2.1.drop⟩
 ·obtain⟨m,rfl,ai⟩:=S (by omega)
  have K:Hid (valL (m+1) (b9 s i) i=db (valL m) (b9 s i) i):=I.out;have f:=Fz Y s i V Z X _ kvs l w.heap.size (b.heap.size+1) (w.heap.size+1) b.heap.size w (own (.slice (some ⟨g,0,none⟩) (Z.length+1) cap) kvs) m ai hs aa o.out.1 o.out.2.2.1 hi hl hw (by omega) o.out.2.2.2.2 o.out.2.2.2.1 ao ap o.out.2.1;unfold kS at f;clear S U I ai J;cases A:db (valL m) (b9 s i) i with
  | error q=>
    obtain⟨e,a⟩:=q;rw[A]at f;have O:Hid (valL (m+1) (b9 s i) i=.error (e,a)):=by rw[<-A];exact K.out
    clear A;go_wp2_with fail
    refine f.mono ?_;rintro r w5 ⟨h0,rfl,h5⟩;have E:Hid _:=And.intro h0 h5;clear f h0 h5;go_wp2;refine⟨rfl,?_⟩;rw[O.out];exact⟨E.out.1,rfl,E.out.2⟩
  | ok q=>
    obtain⟨t,n⟩:=q;rw[A]at f;have O:Hid (valL (m+1) (b9 s i) i=.ok (t,n)):=by rw[<-A];exact K.out
    clear A;go_wp2_with fail
    refine f.mono ?_;rintro r w5 ⟨rfl,v5,k5,am,ad⟩;have E:Hid _:=And.intro am ad;clear f am ad;go_wp2;go_end0
    rw[O.out];exact⟨rfl,v5,k5,E.out.1,E.out.2⟩
end
end Go.Proofs.YtihboehpeehlmaaGreatDoor
