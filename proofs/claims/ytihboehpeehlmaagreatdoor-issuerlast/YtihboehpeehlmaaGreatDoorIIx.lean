import Derived.Test.YtihboehpeehlmaaGreatDoorK0
import Derived.Deep.Upon
import Derived.Test.YtihboehpeehlmaaGreatDoorK4
set_option maxRecDepth 8000
set_option linter.unusedVariables false
set_option linter.unusedSimpArgs false
set_option maxHeartbeats 4000000
namespace Go.Proofs.YtihboehpeehlmaaGreatDoor.Dg
abbrev bZQ:=ByteArray
open Tryz Go.RowKit Go.Deep
def kidB(n:Nat):bZQ:=⟨#[107]⟩++⟨(Lib.itoa (n:Int)).toArray⟩
structure Ch (b:Nat) (v:Value) (w w':Wd):Prop where
 os:w'.os=w.os
 tape:w'.tape=w.tape
 output:w'.output=w.output
 size:w.heap.size<=w'.heap.size
 block:∀g,g<w.heap.size->g≠b->v.ownBlock≠some g->w'.heap[g]?=w.heap[g]?
theorem IS.cells{b:Nat}{iss:bZQ}{ttl a:Int}{kv:Value}{n:Int}{w:Wd}(h:IS b iss ttl a kv n w):w.cell? ⟨b,0,none⟩=some (.int .i64 a)/\w.cell? ⟨b,1,none⟩=some (.string iss)/\w.cell? ⟨b,2,none⟩=some (.int .i64 ttl)/\w.cell? ⟨b,3,none⟩=some kv/\w.cell? ⟨b,4,none⟩=some (.int .i64 n):=by
 have:=h.obj;simp[World.cell?,this]
theorem sT(n:Nat):dR n=Lib.decDigits n:=by
 induction n using Nat.strongRecOn with
 | ind n ih=>
   rw[dR,Lib.decDigits];split
   ·rfl
   ·rw[ih (n/10) (by omega)]
theorem pm(n:Int):ew n=Lib.itoa n:=by
 unfold ew Lib.itoa;split
 ·rw[sT];congr 2;omega
 ·rw[sT]
theorem wN:(prog.info? 73).map (fun i=>(i.zero,i.size,i.bytes))=some (some (.agg #[.int .i64 0,.string ⟨#[]⟩,.string ⟨#[]⟩]),3,40):=by kernel_rfl
theorem i7{o:Option TypeInfo}{z:Value}{a b:Nat}(h:o.map (fun i=>(i.zero,i.size,i.bytes))=some (some z,a,b)):∃i,o=some i/\i.zero=some z/\i.size=a/\i.bytes=b:=by
 cases o with
 | none=>simp at h
 | some i=>simp at h;exact⟨i,rfl,h.1,h.2.1,h.2.2⟩
theorem mL(w:Wd)(a b c:Value)(e:TypeId):∀(j:Nat) (u:Value),[a,b,c][j]?=some u->(w.alloc (.cells #[a,b,c] e)).cell? ((⟨w.heap.size,0,none⟩:Addr).add j)=some u:=by
 intro j u h;have d:(⟨w.heap.size,0,none⟩:Addr).add j=⟨w.heap.size,j,none⟩:=by unfold Addr.add;split<;>simp_all
 rw[d];match j with
 | 0=>simp at h;subst h;simp
 | 1=>simp at h;subst h;simp
 | 2=>simp at h;subst h;simp
 | j+3=>simp at h
theorem DH{w:Wd}{g j:Nat}(h:(w.cell? ⟨g,j,none⟩).isSome=true):g<w.heap.size:=by
 by_cases a:g<w.heap.size
 ·exact a
 ·have:w.heap[g]?=none:=Km (by omega)
  simp[World.cell?,this]at h
theorem nn(n:Nat)(h:n<=1000000000000000001):(kidB n).size<=40:=by
 have e:(kidB n).size=1+(Lib.itoa (n:Int)).length:=by
  unfold kidB;rw[K4];show 1+(Lib.itoa (n:Int)).toArray.size=_
  simp
 rw[e,<-pm (n:Int)];have:=kA (n:Int) (by omega) (by omega);omega
def G0(b:Nat)(iss:bZQ)(ttl now:Int)(n:Nat)(kv:Value)(ks:rg)(B:Nat)(alg:Int)(key:bZQ)(w:Wd)(r:Ending)(w':Wd):Prop:=
 (keyErr alg (kidB (n+1)) key≠0/\r=.returned (.tuple #[.string ⟨#[]⟩,.int .i64 (keyErr alg (kidB (n+1)) key)])/\Below w.heap.size w w')\/
 (keyErr alg (kidB (n+1)) key=0/\20<=ks.length/\r=.returned (.tuple #[.string ⟨#[]⟩,.int .i64 8])/\Below w.heap.size w w')\/
 (keyErr alg (kidB (n+1)) key=0/\ks.length<20/\∃kv',r=.returned (.tuple #[.string (kidB (n+1)),.int .i64 0])/\IS b iss ttl now kv' ((n:Int)+1) w'/\w'.ownsRow B 73 3 kv' (ks++[(⟨alg,kidB (n+1),key⟩:Ky)]).length (de (ks++[(⟨alg,kidB (n+1),key⟩:Ky)]))/\(∀g,kv'.ownBlock=some g->kv.ownBlock=some g\/w.heap.size<=g)/\Ch b kv w w')
theorem Di(b:Nat)(iss:bZQ)(ttl F:Int)(n:Nat)(kv:Value)(a:rg)(B:Nat)(p:Int)(k:bZQ)(w:Wd)(S:IS b iss ttl F kv (n:Int) w)(hK:w.ownsRow B 73 3 kv a.length (de a))(ag:kv.ownBlock≠some b)(hB:B<=b)(hW:WG w)(af:Lib.TabBelow prog w.heap.size w "internal/strconv.uint64pow10" .u64 Lib.pow10Tab)(hn:n<=1000000000000000000)(hl:a.length<=20)(hk:k.size<=4611686018427387904):Calls prog 13 #[.pointer (some ⟨b,0,none⟩),.int .i64 p,.string k] w fun r w'=>G0 b iss ttl F n kv a B p k w r w':=by
 have ae:=fun d (M:Below w.heap.size w d)=>strconv_Itoa ((n:Int)+1) (by omega) (by omega) d (af d M)
 obtain⟨c0,c1,c2,c3,c4⟩:=S.cells;have N:kidB (n+1)=⟨#[107]⟩++⟨(Lib.itoa ((n:Int)+1)).toArray⟩:=rfl;have aD:(kidB (n+1)).size<=40:=nn _ (by omega);have al:=fun d (M:Below w.heap.size w d)=>nx p (kidB (n+1)) k d (hW.below M) (by omega) hk
 have z0:(⟨(Lib.itoa ((n:Int)+1)).toArray⟩:bZQ).size<=39:=by
  have h:=aD;rw[N,K4]at h;have e:(⟨#[107]⟩:bZQ).size=1:=rfl;omega
 unfold G0;generalize (⟨(Lib.itoa ((n:Int)+1)).toArray⟩:bZQ)=T at *;generalize kidB (n+1)=s at *;have am:=cE ae;have aa:=cE al;have HI:=cE S;have R:=cE hK;have aw:=cE N;clear ae al S hK N hW af c0 c1 c2;have z1:¬9223372036854775807<1+T.size:=by omega
 go_enter func13,ntmps13;go_wp2_with fail
 refine(am.out w (JI _ _)).mono ?_;rintro r d ⟨rfl,O,aG,aj⟩;have K:Below w.heap.size w d:=by rw[aj];exact Lib.below_grow w.heap.size w (JQ _) O aG
 have d3:=cl K c3;have d4:=cl K c4;have I:=cE K;clear aj K c3 c4 am;go_wp2_with fail
 rw[<-aw.out];refine(aa.out _ (d6 I.out _)).mono ?_;rintro r c ⟨rfl,D⟩;have J:=(d6 (JI d.heap.size d) _).trans (D.mono (by simp));have e3:=cl J d3;have e4:=cl J d4;have f0:c.cell? ⟨d.heap.size,0,none⟩=some (.int .i64 p):=cl D (by simp);have f1:c.cell? ⟨d.heap.size,1,none⟩=some (.string s):=cl D (by simp);have f2:c.cell? ⟨d.heap.size,2,none⟩=some (.string k):=cl D (by simp);have m:=cE (I.out.trans (J.mono I.out.size));by_cases C:keyErr p s k=0
 ·rw[C]
  obtain⟨q,t,rfl⟩:=(KR.of R.out).shape;have aL:(a.length:Int)<=20:=by omega
  by_cases h1:20<=a.length
  ·have av:(20:Int)<=(a.length:Int):=by omega
   go_wp2_with fail
   refine Ka (LM rfl _ _ _) rfl ?_;exact .inr (.inl ⟨C,h1,rfl,m.out⟩)
  ·have av:¬(20:Int)<=(a.length:Int):=by omega
   obtain⟨i0,Z,ar,aI,ay⟩:=i7 wN;have ap:b<w.heap.size:=by
    have:=HI.out.obj;exact(go.1 this).1
   have U:b<c.heap.size:=by have:=m.out.size;omega
   have ak:=(m.out.block b ap).trans HI.out.obj;have ab:=l9 R.out m.out;have aH:Hid (∀o,((c.alloc o).drew).ownsRow B 73 3 (.slice q a.length t) a.length (de a)):=fun o=>ab.alloc o
   have aq:Hid (∀o,B<=((c.alloc o).drew).heap.size):=fun o=>by show _<=(c.alloc o).heap.size;simp;omega
   have A:Hid (∀o,((c.alloc o).drew).heap.size=c.heap.size+1):=fun o=>by show(c.alloc o).heap.size=_;simp
   have az:Hid (∀j u,(kw ⟨p,s,k⟩)[j]?=some u->((c.alloc (.cells #[.int .i64 p,.string s,.string k] 73)).drew).cell? ((⟨c.heap.size,0,none⟩:Addr).add j)=some u):=mL c _ _ _ _;have HL:Hid (a.length+1<=maxLen):=by show a.length+1<=maxLen;unfold maxLen;omega
   have aB:Hid ((a.length+1)*40<=140737488355328):=by show(a.length+1)*40<=140737488355328;omega
   have g3:∀o:Obj,(c.alloc o).cell? ⟨b,3,none⟩=some (.slice q a.length t):=fun o=>(JN _ _ _ U).trans e3
   have aK:=cE ak;have aF:=cE Z;have aJ:Hid (some b≠(Value.slice q a.length t).ownBlock):=fun e=>ag e.symm
   go_wp2_with fail
   go_region_law ((refine Nb _ rfl (.tmp 35) (.tmp 37) 41 rfl B 73 i0 _ 3 40 underlying41 aF.out ar aI ay rfl (by decide) _ a.length (de a) rfl (by exact aH.out _) ⟨c.heap.size,0,none⟩ 1 1 (kw ⟨p,s,k⟩) rfl rfl (by exact az.out) (by intro u hu;simp[kw]at hu;rcases hu with rfl|rfl|rfl<;>rfl) (by decide) HL.out aB.out (by exact aq.out _) (c.heap.size+1) (by exact A.out _) ?_;intro v H i ac P ai _;have z:i.heap[b]?=some (.cells #[.int .i64 F,.string iss,.int .i64 ttl,.slice q a.length t,.int .i64 (n:Int)] 43 (0,0)):=(P.block b (J0 U (by rw[A.out];try omega)) aJ.out).trans ((JO c _ U).trans aK.out);have s3:i.cell? ⟨b,3,none⟩=some (.slice q a.length t):=(by simp[World.cell?,z]);have s4:i.cell? ⟨b,4,none⟩=some (.int .i64 (n:Int)):=(by simp[World.cell?,z]);have au:i.frozen? ⟨b,3,none⟩=false:=(by simp[World.frozen?,z]);have X:=cE z;clear z;have an:Hid (i.ownsRow B 73 3 (.slice (some ⟨v,0,none⟩) (a.length+1) H) (a.length+1) (de a++kw ⟨p,s,k⟩)):=ac;have x:Hid (((c.alloc (.cells #[.int .i64 p,.string s,.string k] 73)).drew).grownBy i (Value.slice q a.length t).ownBlock):=P;have ah:Hid ((Value.slice q a.length t).ownBlock=some v\/v=c.heap.size+1):=ai;clear ac P ai))
   all_goals (
    obtain⟨f,y⟩:∃f,f=i.setCell ⟨b,3,none⟩ (.slice (some ⟨v,0,none⟩) (a.length+1) H):=⟨_,rfl⟩;rw[<-y];have G:f.heap[b]?=some (.cells #[.int .i64 F,.string iss,.int .i64 ttl,.slice (some ⟨v,0,none⟩) (a.length+1) H,.int .i64 (n:Int)] 43 (0,0)):=by
     rw[y,JV i b 3 _ _ _ _ X.out,J7 i b _ _ _ _ X.out];rfl
    have L:∀g,g≠b->f.heap[g]?=i.heap[g]?:=fun g l=>by rw[y];exact blk_setCell_other i _ _ g l
    have q7:f.heap.size=i.heap.size:=by rw[y];exact nblk_setCell i _ _
    have W:f.os=i.os/\f.tape=i.tape/\f.output=i.output:=by rw[y];exact⟨rfl,rfl,rfl⟩
    have t4:f.cell? ⟨b,4,none⟩=some (.int .i64 (n:Int)):=by simp[World.cell?,G]
    have aN:f.frozen? ⟨b,4,none⟩=false:=by simp[World.frozen?,G]
    have ao:=cE (And.intro G (And.intro L (And.intro q7 W)));have aA:∀g,(Value.slice q a.length t).ownBlock=some g->g<w.heap.size:=fun g l=>(R.out.lt g l).2
    have aM:=I.out.size;have aC:d.heap.size<c.heap.size:=by
     have:(c.cell? ⟨d.heap.size,0,none⟩).isSome=true:=by rw[f0];rfl
     exact DH this
    have u1:f.cell? ⟨d.heap.size,1,none⟩=some (.string s):=by
     have e7:f.heap[d.heap.size]?=c.heap[d.heap.size]?:=by
      rw[L _ (by omega),x.out.block d.heap.size (by rw[A.out];omega) (fun e=>by have:=aA _ e.symm;omega)];exact JO c _ aC
     simp only[World.cell?]at f1 ⊢;rw[e7];exact f1
    clear y G L q7 W s3 s4 au g3 e3;go_wp2_with fail
    refine Ka (LM rfl _ _ _) rfl ?_;have ax:v≠b:=by
     rcases ah.out with e|e
     ·exact fun e2=>ag (by rw[e,e2])
     ·omega
    obtain⟨x1,x2,x3,x4,V,Y⟩:=ao.out;have y1:∀g,g≠b->(f.setCell ⟨b,4,none⟩ (.int .i64 ((n:Int)+1))).heap[g]?=i.heap[g]?:=fun g l=>(blk_setCell_other f ⟨b,4,none⟩ _ g l).trans (x2 g l)
    have y2:(f.setCell ⟨b,4,none⟩ (.int .i64 ((n:Int)+1))).heap.size=i.heap.size:=(nblk_setCell f _ _).trans x3;have y3:=x.out.size;rw[A.out]at y3;refine .inr (.inr ⟨C,by omega,.slice (some ⟨v,0,none⟩) (a.length+1) H,rfl,⟨?_⟩,?_,?_,?_⟩)
    ·rw[JV f b 4 _ _ _ _ x1,J7 f b _ _ _ _ x1];rfl
    ·rw[py,JH]
     exact an.out.kept (row:=some b) ⟨x4,V,Y,Mt y2.symm,fun g l aE=>y1 g (fun e=>aE (by rw[e]))⟩ (by simp[Value.ownBlock];exact ax)
    ·intro g l
     simp[Value.ownBlock]at l;subst l;rcases ah.out with e|e
     ·exact .inl e
     ·exact .inr (by have:=m.out.size;omega)
    ·refine⟨x4.trans (x.out.os.trans m.out.os),V.trans (x.out.tape.trans m.out.tape),Y.trans (x.out.output.trans m.out.output),by have:=m.out.size;omega,fun g l h2 h3=>?_⟩
     have:=m.out.size;rw[y1 g h2,x.out.block g (by rw[A.out];omega) (fun e=>h3 e.symm)];exact(JO c _ (by omega)).trans (m.out.block g l))
 ·have O:(keyErr p s k != 0)=true:=by simp[C]
  obtain⟨E,Q⟩:∃E,E=keyErr p s k:=⟨_,rfl⟩;rw[<-Q]at O ⊢;have HE:=cE Q;go_wp2_with fail
  refine Ka (LM rfl _ _ _) rfl ?_;exact .inl ⟨C,by rw[<-HE.out];rfl,m.out⟩
def mN(cur:Array Value)(o:Nat):rt->Array Value
 | []=>cur
 | v::vs=>mN (cur.setIfInBounds o v) (o+1) vs
theorem kK:∀(b:rt) (a:Array Value) (o:Nat),(mN a o b).size=a.size
 | [],a,o=>rfl
 | v::b,a,o=>by rw[mN,kK b];simp
theorem nL:∀(a:rt) (b:Array Value) (o:Nat),o+a.length<=b.size->(mN b o a).toList=b.toList.take o++a++b.toList.drop (o+a.length)
 | [],b,o,h=>by simp[mN]
 | v::a,b,o,h=>by
   simp only[JM]at h;rw[mN,nL a _ _ (by simp;omega),KN];have c:o<b.toList.length:=by simp;omega
   rw[M9,List.drop_set_of_lt (by omega),Lf,JF c];rw[Mh _ _ (by simp;omega)];have:o-(b.toList.take o).length=0:=by simp;omega
   rw[this];simp only[Option.toList_some,List.set_cons_zero,J1,JS,Lj,JM];rw[show o+1+a.length=o+(a.length+1)by omega]
theorem jD{g:Nat}{t:TypeId}{c:Nat×Nat}:∀(b:rt) (o:Nat) (w:Wd) (a:Array Value),w.heap[g]?=some (.cells a t c)->(w.setCells g o b).heap[g]?=some (.cells (mN a o b) t c)
 | [],o,w,a,h=>h
 | v::b,o,w,a,h=>by
   have d:(w.setCell ⟨g,o,none⟩ v).heap[g]?=some (.cells (a.setIfInBounds o v) t c):=by
    rw[JV w g o _ _ _ _ h];exact J7 w g _ _ _ _ h
   exact jD b (o+1) _ _ d
theorem kT(b:Nat):∀(a:rt) (o:Nat) (w:Wd),(w.setCells b o a).heap.size=w.heap.size
 | [],o,w=>rfl
 | v::a,o,w=>(kT b a (o+1) _).trans (nblk_setCell w _ _)
theorem no(b:Nat):∀(a:rt) (o:Nat) (w:Wd),(w.setCells b o a).tape=w.tape
 | [],o,w=>rfl
 | v::a,o,w=>no b a (o+1) _
theorem vV(a:rg)(i:Nat):(de a).take (i*3)=de (a.take i):=by
 induction a generalizing i with
 | nil=>simp[de]
 | cons k a ih=>
   cases i with
   | zero=>simp[de]
   | succ i=>
     rw[LW];have e:de (k::a)=kw k++de a:=by simp[de]
     have c:de (k::a.take i)=kw k++de (a.take i):=by simp[de]
     rw[e,c,<-ih i,List.take_append];have b:(kw k).length=3:=rfl;rw[b,Kd (by rw[b];omega),show(i+1)*3-3=i*3 by omega]
theorem vn(a:rg)(i:Nat):(de a).drop (i*3)=de (a.drop i):=by
 induction a generalizing i with
 | nil=>simp[de]
 | cons k a ih=>
   cases i with
   | zero=>simp[de]
   | succ i=>
     rw[Lp];have e:de (k::a)=kw k++de a:=by simp[de]
     have b:(kw k).length=3:=rfl;rw[e,<-ih i,List.drop_append,J8 (by rw[b];omega),b,show(i+1)*3-3=i*3 by omega];rfl
def gD:rt:=[.int .i64 0,.string ⟨#[]⟩,.string ⟨#[]⟩]
theorem qM(w:Wd)(f:TypeId)(b o c:Nat)(i:∀j,j<3->(w.cell? ⟨b,o+j,none⟩).isSome=true)(e:∀j,j<3->w.frozen? ⟨b,o+j,none⟩=false):(Builtin.clear_ #[41] f #[.slice (some ⟨b,o,none⟩) 1 c]).run prog w=.ok (.tuple #[]) (w.setCells b o gD):=by
 have g:∀w,(zeroValue 73).run prog w=.ok (.agg #[.int .i64 0,.string ⟨#[]⟩,.string ⟨#[]⟩]) w:=fun w=>by kernel_rfl
 have a:=run_storeCells_cells (P:=prog) b o gD 0 w (by simpa [gD]using i) (by simpa [gD]using e) (by intro v d;simp[gD]at d;rcases d with rfl|rfl|rfl<;>rfl);simp only[Ku]at a;have h:(Builtin.zeroCells (Value.agg #[.int .i64 0,.string ⟨#[]⟩,.string ⟨#[]⟩]).cells 1).toList=gD:=by simp[Builtin.zeroCells,gD,Value.cells];rfl
 simp[Builtin.clear_,run_underlying underlying41,g,h,a]
theorem Ee(g cap:Nat)(a:rg)(B i:Nat)(w:Wd)(H:w.ownsRow B 73 3 (.slice (some ⟨g,0,none⟩) a.length cap) a.length (de a))(R:i<a.length)(hl:a.length<=20):Calls prog 30 #[.slice (some ⟨g,0,none⟩) a.length cap,.int .i64 (i:Int),.int .i64 ((i:Int)+1)] w fun r J=>r=.returned (.slice (some ⟨g,0,none⟩) (a.length-1) cap)/\J.ownsRow B 73 3 (.slice (some ⟨g,0,none⟩) (a.length-1) cap) (a.length-1) (de (a.eraseIdx i))/\w.grownBy J (some g):=by
 obtain⟨i0,G,aj,ag,an⟩:=i7 wN;rcases H.2 with⟨_,K⟩|⟨g',al,d,Z,hB,m,ap,P,Y,s⟩
 ·omega
 injection Z with q ak U;injection q with q;injection q with q;subst q U;obtain⟨b,p⟩:∃b,b=de (a.drop (i+1)):=⟨_,rfl⟩;have n:b.length=(a.length-(i+1))*3:=by rw[p,m8,Kk]
 have M:∀t v,(de a)[t]?=some v->w.cell? ⟨g,t,none⟩=some v:=fun t v h=>by
  have o:t<a.length*3:=by have:=(JG.1 h).1;rwa [m8]at this
  rw[JE w g t d _ _ m];rw[<-s,MU,if_pos o]at h;simpa using h
 have D:∀t,t<cap*3->(w.cell? ⟨g,t,none⟩).isSome=true/\w.frozen? ⟨g,t,none⟩=false:=fun t o=>by
  constructor
  ·rw[JE w g t d _ _ m,LR (by omega)];rfl
  ·simp[World.frozen?,m]
 obtain⟨A,hA,af⟩:∃A:Addr,(if cap=i+1 then some (⟨g,0,none⟩:Addr)else some ⟨g,(i+1)*3,none⟩)=some A/\Hid (∀t u,b[t]?=some u->w.drew.cell? (A.add t)=some u):=by
  by_cases h:cap=i+1
  ·refine⟨⟨g,0,none⟩,by simp[h],fun t u l=>?_⟩
   have K:b.length=0:=by rw[n];have:a.length-(i+1)=0:=by omega
                         rw[this]
   rw[Kt.1 K]at l;simp at l
  ·refine⟨⟨g,(i+1)*3,none⟩,by simp[h],fun t u l=>?_⟩
   have ae:(⟨g,(i+1)*3,none⟩:Addr).add t=⟨g,(i+1)*3+t,none⟩:=by unfold Addr.add;split<;>simp_all
   rw[ae];refine M _ _ ?_;rw[p,<-vn,List.getElem?_drop]at l;exact l
 have s1:Hid _:=n;have S:Hid (∀u∈b,u.oneCell'=true):=by
  intro u l;rw[p]at l;obtain⟨k,_,x⟩:=List.mem_flatMap.1 l;simp[kw]at x;rcases x with rfl|rfl|rfl<;>rfl
 have V:Hid (∀t,t<b.length->(w.drew.cell? ⟨g,0+i*3+t,none⟩).isSome=true/\w.drew.frozen? ⟨g,0+i*3+t,none⟩=false):=by
  intro t o;rw[n]at o;exact D _ (by omega)
 obtain⟨c,f⟩:∃c,c=w.drew.setCells g (0+i*3) b:=⟨_,rfl⟩;have T:Hid _:=f;have y:c.heap[g]?=some (.cells (mN d (0+i*3) b) 73 (0,0)):=by rw[f];exact jD b _ _ d m
 have C:∀t,t<cap*3->(c.cell? ⟨g,t,none⟩).isSome=true/\c.frozen? ⟨g,t,none⟩=false:=fun t o=>by
  constructor
  ·rw[JE c g t _ _ _ y,LR (by rw[kK];omega)];rfl
  ·simp[World.frozen?,y]
 have F:i+(a.length-(i+1))=a.length-1:=by omega
 have ao:∀E,(Builtin.clear_ #[41] E #[.slice (some ⟨g,(i+(a.length-(i+1)))*3,none⟩) (a.length-(i+(a.length-(i+1)))) (cap-(i+(a.length-(i+1))))]).run prog c=.ok (.tuple #[]) (c.setCells g ((i+(a.length-(i+1)))*3) gD):=fun E=>by
  rw[show a.length-(i+(a.length-(i+1)))=1 by omega];exact qM c E g _ _ (fun j X=>(C _ (by omega)).1) (fun j X=>(C _ (by omega)).2)
 have O:Hid ((c.setCells g ((a.length-1)*3) gD).ownsRow B 73 3 (.slice (some ⟨g,0,none⟩) (a.length-1) cap) (a.length-1) (de (a.eraseIdx i))/\w.grownBy (c.setCells g ((a.length-1)*3) gD) (some g)):=by
  have ad:gD.length=3:=rfl;have I:(mN d (0+i*3) b).size=d.size:=kK _ _ _;have Q:=nL b d (0+i*3) (by rw[n];omega);have W:=nL gD (mN d (0+i*3) b) ((a.length-1)*3) (by rw[I,ad];omega);have aa:(a.eraseIdx i).length=a.length-1:=by rw[List.length_eraseIdx,if_pos R]
  refine⟨⟨by rw[m8,aa],.inr ⟨g,cap,_,rfl,hB,jD gD _ _ _ y,by omega,P,by rw[kK,I,Y],?_⟩⟩,?_⟩
  ·rw[W,Q]
   have l1:(d.toList.take (0+i*3)).length=i*3:=by rw[J6,Mx];omega
   have z:(d.toList.take (0+i*3)++b).length=(a.length-1)*3:=by rw[JH,l1,n];omega
   rw[J1 _ gD,Lo (by rw[J6,JH,z];omega),MX,Nat.min_self,Lo (Mt z.symm),Kd (Mt z)];have e3:d.toList.take (0+i*3)=de (a.take i):=by
    rw[<-vV,<-s,MX,Mg (by omega),J3]
   rw[e3,p,List.eraseIdx_eq_take_drop_succ];simp[de]
  ·have hp:∀k,k<w.heap.size->some k≠some g->(c.setCells g ((a.length-1)*3) gD).heap[k]?=w.heap[k]?:=fun k x ab=>by
    have N:k≠g:=fun e=>ab (by rw[e])
    have hs:c.heap.size=w.heap.size:=by rw[f];exact(kT g b _ w.drew)
    rw[World.heap_setCells_other c g _ gD (by omega) N,f];exact World.heap_setCells_other w.drew g _ b x N
   refine⟨?_,?_,?_,?_,hp⟩
   ·rw[World.os_setCells,f,World.os_setCells];rfl
   ·rw[no,f,no];rfl
   ·rw[World.output_setCells,f,World.output_setCells];rfl
   ·rw[kT,f,kT];exact JQ _
 rw[<-F]at O;have ac:Hid _:=G;have ai:i<=cap:=by omega
 have k3:(a.length:Int)<=20:=by omega
 have k4:(i:Int)+1<=(a.length:Int):=by omega
 have k5:(a.length:Int)<=(cap:Int):=by omega
 have k6:(0:Int)<=(i:Int)+1:=by omega
 have HC:Hid _:=D;have HG:Hid _:=m;have am:Hid _:=s;have L:=cE F;clear f M D m s p n H G y C F;go_enter func30,ntmps30;go_wp2
 go_region_law (refine step_append_room rfl (.tmp 22) (.tmp 25) 41 rfl 73 i0 3 underlying41 ac.out ag g 0 i cap (by simp[Act.eval,Act.put]) A (a.length-(i+1)) (cap-(i+1)) b (by simp[Act.eval,Act.put]) s1.out af.out S.out (by omega) V.out ?_;rw[<-T.out])
 all_goals go_wp2_with fail
 all_goals go_ret
 all_goals exact⟨by rw[<-L.out];rfl,by rw[<-L.out];exact O.out⟩
def GO(b:Nat)(iss:bZQ)(ttl now:Int)(n:Nat)(kv:Value)(ks:rg)(B:Nat)(kid:bZQ)(w:Wd)(r:Ending)(w':Wd):Prop:=
 (findK kid ks 0<0/\r=.returned (.int .i64 7)/\Below w.heap.size w w')\/
 (∃i:Nat,findK kid ks 0=(i:Int)/\i<ks.length/\r=.returned (.int .i64 0)/\∃kv',IS b iss ttl now kv' (n:Int) w'/\w'.ownsRow B 73 3 kv' (ks.eraseIdx i).length (de (ks.eraseIdx i))/\(∀g,kv'.ownBlock=some g->kv.ownBlock=some g\/w.heap.size<=g)/\Ch b kv w w')
theorem po(b:bZQ):∀(a:rg) (m:Nat),findK b a m<((m+a.length:Nat):Int)
 | [],m=>by simp[findK];omega
 | k::a,m=>by
   rw[findK];split
   ·simp;omega
   ·have:=po b a (m+1)
    simp only[JM];omega
theorem Eg(b:Nat)(iss:bZQ)(ttl s:Int)(n:Nat)(kv:Value)(a:rg)(B:Nat)(m:bZQ)(w:Wd)(y:IS b iss ttl s kv (n:Int) w)(v:w.ownsRow B 73 3 kv a.length (de a))(R:kv.ownBlock≠some b)(hB:B<=b)(hl:a.length<=20):Calls prog 14 #[.pointer (some ⟨b,0,none⟩),.string m] w fun r Y=>GO b iss ttl s n kv a B m w r Y:=by
 have G:=fun f (Q:Below w.heap.size w f)=>DV kv a m f ((KR.of v).below Q) (by omega)
 have V:=ty m a 0;have aa:=po m a 0;obtain⟨c0,W,X,H,S⟩:=y.cells;unfold GO;generalize findK m a 0=N at *;have D:=cE G;have E:=cE y;have Z:=cE v;go_enter func14,ntmps14;go_wp2_with fail
 refine(D.out w (JI _ _)).mono ?_;rintro r f ⟨rfl,o⟩;have d3:=cl o H;have d:=cE o;by_cases K:N<0
 ·go_wp2
  go_ret;exact .inl ⟨K,rfl,d.out⟩
 ·obtain⟨i,rfl⟩:∃i:Nat,N=(i:Int):=⟨N.toNat,by omega⟩
  have u:i<a.length:=by omega
  have x:=l9 Z.out d.out;obtain⟨g,j,rfl,ag,af⟩:=x.form (by omega);have T:=(go.1 E.out.obj).1;have I:g≠b:=fun e=>R (by rw[<-e];rfl)
  have F:=fun c (h:Below f.heap.size f c)=>Ee g j a B i c (l9 x h) u hl
  have z:=(d.out.block b T).trans E.out.obj;have J:=cE F;have ab:=cE z
  go_wp2_with fail
  refine(J.out f (JI _ _)).mono ?_;rintro r c ⟨rfl,C,t⟩;have o:b<f.heap.size:=by have:=d.out.size;omega
  have q:=(t.block b o (by simpa using Ne.symm I)).trans ab.out;have s3:c.cell? ⟨b,3,none⟩=some (.slice (some ⟨g,0,none⟩) a.length j):=by simp[World.cell?,q]
  have ae:c.frozen? ⟨b,3,none⟩=false:=by simp[World.frozen?,q]
  have L:=cE q;have M:=cE C;have p:=cE t;go_wp2
  go_ret;have P:(a.eraseIdx i).length=a.length-1:=by rw[List.length_eraseIdx,if_pos u]
  have A:∀k,k≠b->(c.setCell ⟨b,3,none⟩ (.slice (some ⟨g,0,none⟩) (a.length-1) j)).heap[k]?=c.heap[k]?:=fun k l=>blk_setCell_other c ⟨b,3,none⟩ _ k l
  have O:(c.setCell ⟨b,3,none⟩ (.slice (some ⟨g,0,none⟩) (a.length-1) j)).heap.size=c.heap.size:=nblk_setCell c _ _;refine .inr ⟨i,rfl,u,rfl,.slice (some ⟨g,0,none⟩) (a.length-1) j,⟨?_⟩,?_,?_,?_⟩
  ·rw[JV c b 3 _ _ _ _ L.out,J7 c b _ _ _ _ L.out];rfl
  ·rw[P]
   exact M.out.kept (row:=some b) ⟨rfl,rfl,rfl,Mt O.symm,fun k l U=>A k (fun e=>U (by rw[e]))⟩ (by simp[Value.ownBlock];exact I)
  ·intro k l
   simp[Value.ownBlock]at l;subst l;exact .inl rfl
  ·refine⟨p.out.os.trans d.out.os,p.out.tape.trans d.out.tape,p.out.output.trans d.out.output,by have:=p.out.size;have:=d.out.size;omega,fun k l h2 h3=>?_⟩
   have:=d.out.size;rw[A k h2,p.out.block k (by omega) (fun e=>h3 (by rw[e];rfl))];exact d.out.block k l
theorem mT{w w':Wd}{B:Nat}{e:TypeId}{k:Nat}{v:Value}{n:Nat}{xs:rt}(h:w.ownsRow B e k v n xs)(b:∀g,v.ownBlock=some g->w'.heap[g]?=w.heap[g]?):w'.ownsRow B e k v n xs:=by
 refine⟨h.1,?_⟩;rcases h.2 with a|⟨g,d,j,rfl,c,f,i⟩
 ·exact .inl a
 ·exact .inr ⟨g,d,j,rfl,c,(b g rfl).trans f,i⟩
def cO(iss:bZQ)(ttl now:Int)(n:Nat)(kv:Value):Obj:=.cells #[.int .i64 now,.string iss,.int .i64 ttl,kv,.int .i64 (n:Int)] 43 (0,0)
def dO(iss:bZQ)(ttl now:Int)(n:Nat)(kv:Value):Obj:=.cells #[.string iss,.int .i64 ttl,.int .i64 now,.int .i64 (n:Int),kv] 62 (0,0)
structure SI (o:Obj) (T:TypeId) (B b:Nat) (ks:rg) (kv:Value) (w:Wd):Prop where
 obj:w.heap[b]?=some o
 row:w.ownsRow B T 3 kv ks.length (de ks)
 sep:kv.ownBlock≠some b
 bB:B<=b
section
variable {o:Obj} {T X:TypeId} {B b d:Nat} {Z V:rg} {kv Y:Value} {w w' w2:Wd} {f W:Value->Obj}
theorem SI.lt(h:SI o T B b Z kv w):b<w.heap.size:=(go.1 h.obj).1
theorem SI.keep(h:SI o T B b Z kv w)(a:w'.heap[b]?=w.heap[b]?)(c:∀g,kv.ownBlock=some g->w'.heap[g]?=w.heap[g]?):SI o T B b Z kv w':=⟨a.trans h.obj,mT h.row c,h.sep,h.bB⟩
theorem SI.below(h:SI o T B b Z kv w)(a:Below w.heap.size w w'):SI o T B b Z kv w':=h.keep (a.block b h.lt) fun g c=>a.block g (h.row.lt g c).2
def jh(f:Value->Obj)(T:TypeId)(B b:Nat)(Z:rg)(kv:Value)(w w':Wd):Prop:=
 ∃kv',SI (f kv') T B b Z kv' w'/\(∀g,kv'.ownBlock=some g->kv.ownBlock=some g\/w.heap.size<=g)/\Ch b kv w w'
theorem Ch.of(a:Below w.heap.size w w'):Ch b kv w w':=⟨a.os,a.tape,a.output,a.size,fun g c _ _=>a.block g c⟩
theorem jh.of(h:SI (f kv) T B b Z kv w)(a:Below w.heap.size w w'):jh f T B b Z kv w w':=⟨kv,h.below a,fun g c=>.inl c,.of a⟩
theorem SI.set{c:Array Value}{t:TypeId}{j:Nat}{v:Value}(h:SI (.cells c t (0,0)) T B b Z kv w)(p:f kv=.cells (c.setIfInBounds j v) t (0,0))(a:w'.heap=(w.setCell ⟨b,j,none⟩ v).heap)(q:w'.os=w.os)(n:w'.tape=w.tape)(i:w'.output=w.output):SI (f kv) T B b Z kv w'/\Ch b kv w w':=by
 have y:∀k,k≠b->w'.heap[k]?=w.heap[k]?:=fun k m=>by rw[a];exact blk_setCell_other w ⟨b,j,none⟩ _ k m
 refine⟨⟨?_,mT h.row fun g r=>y g (fun e=>h.sep (by rw[r,e])),h.sep,h.bB⟩,⟨q,n,i,?_,fun g _ l _=>y g l⟩⟩
 ·rw[a,p,JV w b j _ _ _ _ h.obj];exact J7 w b _ _ _ _ h.obj
 ·rw[a,nblk_setCell];exact JQ _
theorem jh.set{l:Array Value}{t:TypeId}{j:Nat}{v:Value}(h:SI (.cells l t (0,0)) T B b Z kv w)(i:f kv=.cells (l.setIfInBounds j v) t (0,0))(c:w'.heap=(w.setCell ⟨b,j,none⟩ v).heap)(k:w'.os=w.os)(e:w'.tape=w.tape)(a:w'.output=w.output):jh f T B b Z kv w w':=
 ⟨kv,(h.set i c k e a).1,fun g m=>.inl m,(h.set i c k e a).2⟩
end
def tickN(now a:Int):Int:=if a<0 then now else if 9007199254740991-now<a then 9007199254740991 else now+a
def uR(now a:Int):Int:=if a<0 then 0 else tickN now a
def uF(a:Int):Int:=if a<0 then 3 else 0
theorem z6{b a:Int}(c:0<=b/\b<=9007199254740991):0<=tickN b a/\tickN b a<=9007199254740991:=by
 unfold tickN;repeat' split
 all_goals omega
theorem JA(b a:Int)(w:Wd)(e:0<=b)(d:b<=9007199254740991)(f:0<=a):Calls prog 51 #[.int .i64 b,.int .i64 a] w fun r c=>r=.returned (.int .i64 (tickN b a))/\c=w:=by
 unfold tickN;rw[if_neg (by omega)];by_cases h:9007199254740991-b<a
 ·rw[if_pos h]
  go_enter func51,ntmps51;go_wp2;go_ret;exact⟨rfl,rfl⟩
 ·rw[if_neg h]
  go_enter func51,ntmps51;go_wp2;go_ret;exact⟨rfl,rfl⟩
theorem Ie(iss:bZQ)(ttl c:Int)(n:Nat)(e:rg)(kv:Value)(B b:Nat)(a:Int)(w:Wd)(h:SI (cO iss ttl c n kv) 73 B b e kv w)(k:0<=c)(j:c<=9007199254740991):Calls prog 12 #[.pointer (some ⟨b,0,none⟩),.int .i64 a] w fun r f=>r=.returned (.tuple #[.int .i64 (uR c a),.int .i64 (uF a)])/\jh (cO iss ttl (tickN c a) n) 73 B b e kv w f:=by
 have i:w.cell? ⟨b,0,none⟩=some (.int .i64 c):=by simp[World.cell?,h.obj,cO]
 have g:w.frozen? ⟨b,0,none⟩=false:=by simp[World.frozen?,h.obj,cO]
 have H:=cE h;unfold uR uF;by_cases d:a<0
 ·rw[if_pos d,if_pos d,show tickN c a=c by unfold tickN;rw[if_pos d]]
  go_enter func12,ntmps12;go_wp2;go_ret2
  exact⟨rfl,.of H.out (JI _ _)⟩
 ·rw[if_neg d,if_neg d,show tickN c a=c+min a (9007199254740991-c)by unfold tickN;rw[if_neg d];split<;>omega]
  go_enter func12,ntmps12;go_wp2
  go_region
  all_goals go_wp2_with fail
  all_goals go_ret2
  all_goals exact⟨rfl,.set H.out rfl rfl rfl rfl rfl⟩
def gF(ks:rg)(alg:Int)(key:bZQ):Int:=if sizeN alg=0 then 9 else if fx alg key=false then 10 else if 20<=ks.length then 8 else 0
def zG(n:Nat)(ks:rg)(alg:Int)(key:bZQ):bZQ:=if gF ks alg key=0 then kidB (n+1)else⟨#[]⟩
def sX(n:Nat)(ks:rg)(alg:Int)(key:bZQ):Nat:=if gF ks alg key=0 then n+1 else n
def tF(n:Nat)(ks:rg)(alg:Int)(key:bZQ):rg:=if gF ks alg key=0 then ks++[⟨alg,kidB (n+1),key⟩]else ks
theorem Bv(m:Nat):∀c∈dR m,fN (c.toNat:Int)=true:=by
 have b:∀d,d<10->fN ((UInt8.ofNat (48+d)).toNat:Int)=true:=by decide
 induction m using Nat.strongRecOn with
 | ind m ih=>
   by_cases h:m<10
   ·rw[io m h];intro c a;rw[Lw]at a;subst a;exact b m h
   ·rw[kD m (by omega)]
    intro c a;rcases KX.1 a with a|a
    ·exact ih (m/10) (by omega) c a
    ·rw[Lw]at a;subst a;exact b _ (by omega)
theorem vS(n:Nat)(h:n<=1000000000000000000):eP (kidB (n+1))=true:=by
 have a:=nn (n+1) (by omega);have e:(kidB (n+1)).data.toList=107::dR (n+1):=by
  unfold kidB;rw[<-pm,Ld];have:ew ((n+1:Nat):Int)=dR (n+1):=by unfold ew;rw[if_neg (by omega)];rfl
  rw[this];simp
 have b:1<=(kidB (n+1)).size:=by
  have:(kidB (n+1)).data.toList.length=(kidB (n+1)).size:=by rw[Mx];rfl
  rw[e]at this;simp at this;omega
 unfold eP l3;rw[e];simp only[List.all_cons,Kz,Kx,List.all_eq_true];exact⟨⟨b,a⟩,by decide,Bv _⟩
theorem Jd(iss:bZQ)(ttl j:Int)(n:Nat)(d:rg)(kv:Value)(B b:Nat)(a:Int)(c:bZQ)(w:Wd)(h:SI (cO iss ttl j n kv) 73 B b d kv w)(C:WG w)(q:Lib.TabBelow prog w.heap.size w "internal/strconv.uint64pow10" .u64 Lib.pow10Tab)(v:d.length<=20)(k:n<=1000000000000000000)(u:c.size<=4611686018427387904):Calls prog 13 #[.pointer (some ⟨b,0,none⟩),.int .i64 a,.string c] w fun r m=>r=.returned (.tuple #[.string (zG n d a c),.int .i64 (gF d a c)])/\jh (cO iss ttl j (sX n d a c)) 73 B b (tF n d a c) kv w m:=by
 refine(Di b iss ttl j n kv d B a c w ⟨h.obj⟩ h.row h.sep h.bB C q k v u).mono ?_;intro r m t;have p:=vS n k;have i:keyErr a (kidB (n+1)) c=if sizeN a=0 then 9 else if fx a c=false then 10 else 0:=by unfold keyErr;rw[p];simp
 unfold zG sX tF;rcases t with⟨f,rfl,g⟩|⟨f,z,rfl,g⟩|⟨f,z,o,rfl,D,A,l,s⟩
 ·have e:gF d a c=keyErr a (kidB (n+1)) c:=by
   rw[i]at f ⊢;unfold gF;repeat' split
   all_goals simp_all
  rw[e,if_neg f,if_neg f,if_neg f];exact⟨rfl,.of h g⟩
 ·have e:gF d a c=8:=by
   rw[i]at f;unfold gF;repeat' split
   all_goals simp_all
  rw[e,if_neg (by decide),if_neg (by decide),if_neg (by decide)];exact⟨rfl,.of h g⟩
 ·have e:gF d a c=0:=by
   rw[i]at f;unfold gF;repeat' split
   all_goals first|omega|simp_all
  rw[e,if_pos rfl,if_pos rfl,if_pos rfl];refine⟨rfl,o,⟨D.obj,A,fun x=>?_,h.bB⟩,l,s⟩;rcases l b x with y|y
  ·exact h.sep y
  ·have:=h.lt;omega
def vH(kid:bZQ)(ks:rg):Int:=if findK kid ks 0<0 then 7 else 0
def sk(kid:bZQ)(ks:rg):rg:=if findK kid ks 0<0 then ks else ks.eraseIdx (findK kid ks 0).toNat
theorem Jo(iss:bZQ)(ttl e:Int)(n:Nat)(a:rg)(kv:Value)(B b:Nat)(c:bZQ)(w:Wd)(h:SI (cO iss ttl e n kv) 73 B b a kv w)(l:a.length<=20):Calls prog 14 #[.pointer (some ⟨b,0,none⟩),.string c] w fun r g=>r=.returned (.int .i64 (vH c a))/\jh (cO iss ttl e n) 73 B b (sk c a) kv w g:=by
 refine(Eg b iss ttl e n kv a B c w ⟨h.obj⟩ h.row h.sep h.bB l).mono ?_;intro r g j;unfold vH sk;rcases j with⟨d,rfl,p⟩|⟨i,d,s,rfl,k,q,o,f,m⟩
 ·rw[if_pos d,if_pos d]
  exact⟨rfl,.of h p⟩
 ·rw[if_neg (by omega),if_neg (by omega),d]
  refine⟨rfl,k,⟨q.obj,o,fun x=>?_,h.bB⟩,f,m⟩;rcases f b x with y|y
  ·exact h.sep y
  ·have:=h.lt;omega
def expB(ks:rg):bZQ:=⟨(prT ks).1.toArray⟩
theorem GZ(iss:bZQ)(ttl j:Int)(n:Nat)(a:rg)(kv:Value)(B b:Nat)(w:Wd)(h:SI (cO iss ttl j n kv) 73 B b a kv w)(f:WG w)(m:a.length<=20)(c:∀k∈a,keyErr k.alg k.kid k.key=0):Calls prog 10 #[.pointer (some ⟨b,0,none⟩)] w fun r l=>r=.returned (.string (expB a))/\Below w.heap.size w l:=by
 have d:=cE (Dp kv a w (KR.of h.row) f (by omega) (fun k i=>by have:=hI (c k i);omega));have p:w.cell? ⟨b,3,none⟩=some kv:=by simp[World.cell?,h.obj,cO]
 unfold expB;go_enter func10,ntmps10;go_wp2_with fail
 refine d.out.mono ?_;rintro r o ⟨rfl,e⟩;have g:=cE e;go_wp2;go_ret;exact⟨rfl,g.out⟩
end Go.Proofs.YtihboehpeehlmaaGreatDoor.Dg
