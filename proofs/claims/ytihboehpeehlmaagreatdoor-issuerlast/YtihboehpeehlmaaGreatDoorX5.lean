import Derived.Test.YtihboehpeehlmaaGreatDoorK6
import Derived.Test.YtihboehpeehlmaaGreatDoorX3
set_option maxHeartbeats 6400000
set_option linter.unusedVariables false
set_option maxRecDepth 4000
namespace Go.Proofs.YtihboehpeehlmaaGreatDoor
open Tryz Go.RowKit
theorem ED:(prog.info? 150).map (fun i=>(i.zero,i.size,i.bytes))=some (some (.agg #[.int .i64 0,.string ⟨#[]⟩,.string ⟨#[]⟩,.int .i64 0,.slice none 0 0,.int .i64 0]),6,80):=by kernel_rfl
section
variable (Y:Nat) (s:dv) (i:Nat) (Z:oa) (X:dj) (W:Nat) (V:Value) (kvs:rt) (w:Wd)
set_option maxRecDepth 4000 in
theorem zN(d:Nat)(Q:W<32->∃d',d=d'+1/\lY d' (W+1))(R:W=32->d=0)(ai:W<=32)(hs:s.size<=65536)(S:9<=Y)(h:CN Y s i Z W V kvs w)(hG:GV w)(hi:i<=s.size)(hl:Z.length<=i)(hw:iz Z):Calls prog 162 #[.pointer (some ⟨Y,0,none⟩),.string ⟨X.toArray⟩] w fun r w'=>VQ Y s i Z X W (own V kvs) w (.int .i64 (Z.length:Int)) r w' (valL d (b9 s i) i):=by
 obtain⟨i0,ag,ah,au,ak⟩:=Kf ED;have HI:Hid _:=ag;obtain⟨l,p,rfl⟩:=h.nk.shape;have aa:=h.cd.lt;obtain⟨c0,c1,c2,c3,cf⟩:=h.cd.cell;have f2:=cf 2;have H0:Hid _:=h;clear ag;go_enter func162,ntmps162;go_upto_region 3 with fail
 go_cut [] (fun wx=>∃y f D,CN Y s i (Z++[fj X i]) W (.slice (some ⟨y,0,none⟩) (Z.length+1) f) D wx/\cZ Y (own (.slice l Z.length p) kvs) w (own (.slice (some ⟨y,0,none⟩) (Z.length+1) f) D) wx)
 case first=>
  have ar:Hid (w.ownsRow (Y+1) 150 6 (.slice l Z.length p) Z.length (dl Z kvs)):=h.nk.2.1
  have aF:Hid _:=fun o=>ar.out.alloc o
  have ay:Hid (∀o,Y+1<=((w.alloc o).drew).heap.size):=fun o=>by show _<=(w.alloc o).heap.size;simp;omega
  have aw:Hid (∀o,((w.alloc o).drew).heap.size=w.heap.size+1):=fun o=>by show(w.alloc o).heap.size=_;simp
  have az:Hid (∀j u,(cz (fj X i) (.slice none 0 0))[j]?=some u->((w.alloc (.cells #[.int .i64 0,.string ⟨X.toArray⟩,.string ⟨#[]⟩,.int .i64 0,.slice none 0 0,.int .i64 (i:Int)] 150)).drew).cell? ((⟨w.heap.size,0,none⟩:Addr).add j)=some u):=by
   intro j u U;have aE:(⟨w.heap.size,0,none⟩:Addr).add j=⟨w.heap.size,j,none⟩:=by unfold Addr.add;split<;>simp_all
   rw[aE];show(w.alloc _).cell? _=_
   rw[JE _ _ j _ _ _ (JK w _)];simpa [cz,fj]using U
  have HL:Hid (Z.length+1<=maxLen):=by show Z.length+1<=maxLen;unfold maxLen;omega
  have aA:Hid ((Z.length+1)*80<=140737488355328):=by show(Z.length+1)*80<=140737488355328;omega
  have aG:Hid (some Y≠(Value.slice l Z.length p).ownBlock):=by
   intro e;have:=(cc ar.out e.symm).1;omega
  clear h;go_region_law ((refine Nb _ rfl (.tmp 15) (.tmp 23) 116 rfl (Y+1) 150 i0 _ 6 80 underlying116 HI.out ah au ak rfl (by decide) _ Z.length (dl Z kvs) rfl (by exact aF.out _) ⟨w.heap.size,0,none⟩ 1 1 (cz (fj X i) (.slice none 0 0)) rfl rfl (by exact az.out) (by intro u U;simp[cz]at U;rcases U with rfl|rfl|rfl|rfl|rfl|rfl<;>rfl) (by decide) HL.out aA.out (by exact ay.out _) (w.heap.size+1) (by exact aw.out _) ?_;intro y f B al ae ap _;have T:=c6 ae aa aG.out;have s2:=(T.2.1 2).trans c2;have aH:=(T.2.2 2).trans f2;have ao:Hid (CD Y s i (.slice l Z.length p) W B):=T.1.trans H0.out.cd;clear T;have W6:Hid (B.ownsRow (Y+1) 150 6 (.slice (some ⟨y,0,none⟩) (Z.length+1) f) (Z.length+1) (dl Z kvs++cz (fj X i) (.slice none 0 0))):=al;have P:Hid (((w.alloc (.cells #[.int .i64 0,.string ⟨X.toArray⟩,.string ⟨#[]⟩,.int .i64 0,.slice none 0 0,.int .i64 (i:Int)] 150)).drew).grownBy B (Value.slice l Z.length p).ownBlock):=ae;have ax:Hid ((Value.slice l Z.length p).ownBlock=some y\/y=w.heap.size+1):=ap;clear al ae ap))
  all_goals
   have h7:=ao.out.setL (.slice (some ⟨y,0,none⟩) (Z.length+1) f);have J:ca Y B (B.setCell ⟨Y,2,none⟩ (.slice (some ⟨y,0,none⟩) (Z.length+1) f)):=ca.setCell (ce Y B) _ ao.out;have ac:∀g,g<w.heap.size->some g≠(Value.slice l Z.length p).ownBlock->B.heap[g]?=w.heap[g]?:=fun g hg aC=>(c6 P.out hg aC).1
   obtain⟨k1,k2,x,k4⟩:=H0.out.nk;have an:NK (Y+1) 150 (.slice (some ⟨y,0,none⟩) (Z.length+1) f) (kvs++[.slice none 0 0]) (Z++[fj X i]) (B.setCell ⟨Y,2,none⟩ (.slice (some ⟨y,0,none⟩) (Z.length+1) f)):=(NK.push k1 k2 x k4 W6.out ac (by decide) rfl).onl J (by omega);have a2:(w.alloc (.cells #[.int .i64 0,.string ⟨X.toArray⟩,.string ⟨#[]⟩,.int .i64 0,.slice none 0 0,.int .i64 (i:Int)] 150)).heap.size<=B.heap.size:=P.out.size;have aq:cZ Y (own (.slice l Z.length p) kvs) w (own (.slice (some ⟨y,0,none⟩) (Z.length+1) f) (kvs++[.slice none 0 0])) (B.setCell ⟨Y,2,none⟩ (.slice (some ⟨y,0,none⟩) (Z.length+1) f)):=by
    refine⟨J.os.trans P.out.os,J.tape.trans P.out.tape,J.output.trans P.out.output,by have:=J.size;simp at a2;omega,fun k C hb hO=>?_,fun k C=>?_⟩
    ·rw[J.block k (by simp at a2;omega) (fun e=>by injection e with e;exact hb e)]
     exact ac k C (fun e=>hO (.inl e.symm))
    ·rcases C with C|⟨kv,L,C⟩
     ·simp[Value.ownBlock]at C
      subst C;rcases ax.out with e|e
      ·exact .inl (.inl e)
      ·exact .inr (by omega)
     ·rw[KX]at L
      rcases L with L|L
      ·exact .inl (.inr ⟨kv,L,C⟩)
      ·simp at L;subst L;simp[Value.ownBlock]at C
   have HF:Hid _:=And.intro (CN.mk h7 an) aq;clear h7 J ac an aq a2 k1 k2 x k4;go_wp2_with fail
   go_meet
   case rel=>exact⟨y,f,_,HF.out⟩
 case rest=>
  have av:=H0.out.above;clear c0 c1 c2 c3 cf f2 h H0;obtain⟨g,f,D,hN,hC⟩:=hcut;have aj:GV wc:=hG.chg hC S aa av;have aB:=hN.cd.lt;have HC:Hid (cZ Y (own (.slice l Z.length p) kvs) w (own (.slice (some ⟨g,0,none⟩) (Z.length+1) f) D) wc):=hC;have am:=ji Y s i _ W wc hN.cd hi;clear av hC HI ah au ak hG;go_wp2_with fail
  refine am.mono ?_;rintro r N ⟨rfl,h2,o2⟩;have ab:CN Y s i (Z++[fj X i]) W (.slice (some ⟨g,0,none⟩) (Z.length+1) f) D N:=hN.onl h2 o2;have af:GV N:=aj.onl o2 S aB;have O:Hid (cZ Y (own (.slice l Z.length p) kvs) w (own (.slice (some ⟨g,0,none⟩) (Z.length+1) f) D) N):=HC.out.trans (o2.chg _);clear am o2 hN aj HC;by_cases K:(b9 s i).head?=some 123
  ·have hb:(((pk (b9 s i)).toNat:Int)==123)=true:=by rw[fU K];rfl
   have c:=D9 Y s i Z X W g f D N d Q R ai hs S ab af K hl hw;have F:Hid (valL d (b9 s i) i=valL d (b9 s i) i):=rfl;clear K Q R;cases b:valL d (b9 s i) i with
   | error q=>
     obtain⟨e,a⟩:=q;rw[b]at c;have z:Hid (valL d (b9 s i) i=.error (e,a)):=by rw[<-b];exact F.out
     clear b;go_wp2_with fail
     refine c.mono ?_;rintro r v ⟨G,rfl,E⟩;have m:Hid (0<e/\cZ Y (own (.slice l Z.length p) kvs) w (fun _=>False) v):=⟨G,O.out.trans E⟩;clear c G E;go_wp2;refine⟨rfl,?_⟩;rw[z.out];exact⟨m.out.1,rfl,m.out.2⟩
   | ok q=>
     obtain⟨t,n⟩:=q;rw[b]at c;have z:Hid (valL d (b9 s i) i=.ok (t,n)):=by rw[<-b];exact F.out
     clear b;go_wp2_with fail
     refine c.mono ?_;rintro r v ⟨rfl,A,x,I,H⟩;have m:Hid (CN Y s (i+n) (Z++flat Z.length X t) W A x v/\cZ Y (own (.slice l Z.length p) kvs) w (own A x) v):=⟨I,O.out.trans H⟩;clear c I H;go_wp2;go_ret;rw[z.out];exact⟨rfl,A,x,m.out.1,m.out.2⟩
  ·have hb:(((pk (b9 s i)).toNat:Int)==123)=false:=by
    rw[JJ];intro e;exact kV (by decide) K (K9.1 (by simpa using by omega))
   by_cases M:(b9 s i).head?=some 91
   ·have aD:(((pk (b9 s i)).toNat:Int)==91)=true:=by rw[fU M];rfl
    have c:=F6 Y s i Z X W g f D N d Q R ai hs S ab af M hl hw;have F:Hid (valL d (b9 s i) i=valL d (b9 s i) i):=rfl;clear K M Q R;cases b:valL d (b9 s i) i with
    | error q=>
      obtain⟨e,a⟩:=q;rw[b]at c;have z:Hid (valL d (b9 s i) i=.error (e,a)):=by rw[<-b];exact F.out
      clear b;go_wp2_with fail
      refine c.mono ?_;rintro r v ⟨G,rfl,E⟩;have m:Hid (0<e/\cZ Y (own (.slice l Z.length p) kvs) w (fun _=>False) v):=⟨G,O.out.trans E⟩;clear c G E;go_wp2;refine⟨rfl,?_⟩;rw[z.out];exact⟨m.out.1,rfl,m.out.2⟩
    | ok q=>
      obtain⟨t,n⟩:=q;rw[b]at c;have z:Hid (valL d (b9 s i) i=.ok (t,n)):=by rw[<-b];exact F.out
      clear b;go_wp2_with fail
      refine c.mono ?_;rintro r v ⟨rfl,A,x,I,H⟩;have m:Hid (CN Y s (i+n) (Z++flat Z.length X t) W A x v/\cZ Y (own (.slice l Z.length p) kvs) w (own A x) v):=⟨I,O.out.trans H⟩;clear c I H;go_wp2;go_ret;rw[z.out];exact⟨rfl,A,x,m.out.1,m.out.2⟩
   ·have aD:(((pk (b9 s i)).toNat:Int)==91)=false:=by
     rw[JJ];intro e;exact kV (by decide) M (K9.1 (by simpa using by omega))
    have c:=FV Y s i Z X W g f D N hs S ab af hi;have F:Hid (valL d (b9 s i) i=ev (b9 s i) i):=wq d _ _ M K;obtain⟨c0,c1,c2,c3,cf⟩:=ab.cd.cell
    clear K M Q R;cases b:ev (b9 s i) i with
    | error q=>
      obtain⟨e,a⟩:=q;rw[b]at c;have z:Hid (valL d (b9 s i) i=.error (e,a)):=by rw[<-b];exact F.out
      clear b;go_wp2_with fail
      refine c.mono ?_;rintro r v ⟨G,rfl,E⟩;have m:Hid (0<e/\cZ Y (own (.slice l Z.length p) kvs) w (fun _=>False) v):=⟨G,O.out.trans E⟩;clear c G E;go_wp2;refine⟨rfl,?_⟩;rw[z.out];exact⟨m.out.1,rfl,m.out.2⟩
    | ok q=>
      obtain⟨t,n⟩:=q;rw[b]at c;have z:Hid (valL d (b9 s i) i=.ok (t,n)):=by rw[<-b];exact F.out
      clear b;go_wp2_with fail
      refine c.mono ?_;rintro r v ⟨rfl,A,x,I,H⟩;have m:Hid (CN Y s (i+n) (Z++flat Z.length X t) W A x v/\cZ Y (own (.slice l Z.length p) kvs) w (own A x) v):=⟨I,O.out.trans H⟩;clear c I H;go_wp2;go_ret;rw[z.out];exact⟨rfl,A,x,m.out.1,m.out.2⟩
end
theorem Jk:∀(d a:Nat),d+a=32->lY d a:=by
 intro d;induction d with
 | zero=>
   intro a o b s i n k f e w c l h m j g hw;exact zN b s i n k a f e w 0 (fun h=>by omega) (fun _=>rfl) (by omega) c l h m j g hw
 | succ d ih=>
   intro a o b s i n k f e w c l h m j g hw;exact zN b s i n k a f e w (d+1) (fun _=>⟨d,rfl,ih (a+1) (by omega)⟩) (fun h=>by omega) (by omega) c l h m j g hw
def ls:Value:=.slice none 0 0
theorem rn(k:Nat):¬own ls [] k:=by rintro(h|⟨b,a,_⟩);cases h;cases a
def XQ(bp:Nat)(s:dv)(w:Wd)(r:Ending)(w':Wd):Except (Nat×Nat) JT->Prop
 | .ok t=>r=.returned (.tuple #[])/\∃vL kvs j,CN bp s j (flat 0 [] t) 0 vL kvs w'/\cZ bp (own ls []) w (own vL kvs) w'
 | .error (e,a)=>0<e/\r=.panicked (gI e a)/\cZ bp (own ls []) w (fun _=>False) w'
section
variable (Z:Nat) (s:dv) (w:Wd)
theorem Ih(O:s.size<=65536)(S:9<=Z)(h:CD Z s 0 ls 0 w)(T:GV w):Calls prog 130 #[.pointer (some ⟨Z,0,none⟩)] w fun r w'=>XQ Z s w r w' (cB s.data.toList):=by
 have v:=gH Z s 0 ls 0 w (by omega) h (by omega);have y:=gx s 0 (by omega);rw[J3]at v y;have af:=h.lt;generalize U:nb (b9 s 0)=a at v y;have x:Hid _:=tJ s O a U;have J:CN Z s 0 [] 0 ls [] w:=⟨h,NK.nil _ _ _⟩;clear U;go_enter func130,ntmps130;go_wp2_with fail
 refine v.mono ?_;rintro r X ⟨rfl,h1,p⟩;have aa:=J.onl h1 p;have ac:=T.onl p S af;have A:Hid (ca Z w X):=p;have g:=Jk 32 0 rfl Z s a [] [] ls [] X O S aa ac y (by simp) (by intro n hn;cases hn);rw[show([]:dj).toArray= #[]from rfl]at g;clear v p J T;cases k:valL 32 (b9 s a) a with
 | error q=>
   obtain⟨e,c⟩:=q;rw[k]at g;have j:Hid (cB s.data.toList=.error (e,c)):=by have:=x.out;rw[k]at this;exact this
   clear k x;go_wp2_with fail
   refine g.mono ?_;rintro r z ⟨Y,rfl,V⟩;have H2:Hid (0<e/\cZ Z (own ls []) w (fun _=>False) z):=⟨Y,(A.out.chg _).trans V⟩;clear g Y V;go_wp2;refine⟨rfl,?_⟩;rw[j.out];exact⟨H2.out.1,rfl,H2.out.2⟩
 | ok q=>
   obtain⟨t,n⟩:=q;rw[k]at g;have F:=pp s 32 a a t n k y;have j:Hid (cB s.data.toList=if a+n+nb (b9 s (a+n))<s.size then .error (2,a+n+nb (b9 s (a+n)))else .ok t):=by have:=x.out;rw[k]at this;exact this
   clear k x;go_wp2_with fail
   refine g.mono ?_;rintro r z ⟨rfl,f,i,D,Q⟩;have P:Hid (cZ Z (own ls []) w (own f i) z):=(A.out.chg _).trans Q;have B:=gH Z s (a+n) f 0 z (by omega) D.cd F;have ab:=gx s (a+n) F;generalize a+n+nb (b9 s (a+n))=b at B ab j;clear g Q A;go_wp2_with fail
   refine B.mono ?_;rintro r d ⟨rfl,m,E⟩;have N:CN Z s b ([]++flat 0 [] t) 0 f i d:=D.onl m E;have H:Hid (cZ Z (own ls []) w (own f i) d):=P.out.trans (E.chg _);have ae:Hid _:=N;clear B E P D N;obtain⟨W,L,M,R,I⟩:=m.cell;by_cases u:b<s.size
   ·have ad:(b:Int)<(s.size:Int):=by omega
    have C:Hid (cB s.data.toList=.error (2,b)):=by have:=j.out;rw[if_pos u]at this;exact this
    clear j u;go_wp2_with fail
    go_quiet (fail);have o:=m.drewN nq;have l:Hid (cZ Z (own ls []) w (own f i) (d.drewN nq)):=H.out.trans (((ce Z d).drewN nq).chg _);generalize d.drewN nq=G at o l;clear W L M R I nq m;have K:=l7 Z s b f 0 G o;go_wp2_with fail
    refine K.mono ?_;rintro r w5 ⟨rfl,rfl⟩;clear K;go_wp2;refine⟨rfl,?_⟩;rw[C.out];exact⟨by omega,rfl,l.out.drop⟩
   ·have ad:¬(b:Int)<(s.size:Int):=by omega
    have C:Hid (cB s.data.toList=.ok t):=by have:=j.out;rw[if_neg u]at this;exact this
    clear j u;go_wp2_with fail
    go_quiet (fail);have o:=m.drewN nq;have l:Hid (cZ Z (own ls []) w (own f i) (d.drewN nq)/\NK (Z+1) 150 f i (flat 0 [] t) (d.drewN nq)):=⟨H.out.trans (((ce Z d).drewN nq).chg _),ae.out.nk.onl ((ce Z d).drewN nq) (by omega)⟩;generalize d.drewN nq=G at o l;clear W L M R I nq m;go_wp2;go_end0
    rw[C.out];exact⟨rfl,f,i,b,⟨o,l.out.2⟩,l.out.1⟩
end
def PP(B:Nat)(R:Except (Nat×Nat) JT)(r:Ending)(w':Wd):Prop:=
 match R with
 | .ok t=>∃v kvs,r=.returned (.tuple #[v,.int .i64 0,.int .i64 0])/\NK B 150 v kvs (flat 0 [] t) w'
 | .error (e,a)=>r=.returned (.tuple #[.slice none 0 0,.int .i64 (e:Int),.int .i64 (a:Int)])/\0<e
theorem zK(s:dv)(w:Wd)(F:9<=w.heap.size)(hG:GV w):Calls prog 100 #[.string s] w fun r S=>PP (w.heap.size+1) (cB s.data.toList) r S/\Below w.heap.size w S:=by
 by_cases M:s.size<=65536
 ·have aa:decide ((65536:Int)<(s.size:Int))=false:=by simp;omega
  have HS:Hid _:=M;clear M;generalize K:w.alloc (.cells #[.string s,.int .i64 0,.slice none 0 0,.int .i64 0] 182)=W;have L:CD w.heap.size s 0 ls 0 W:=by subst K;exact JK w _
  have Q:W.heap.size=w.heap.size+1:=by subst K;simp
  have n:Below w.heap.size w W:=by subst K;exact cK (cF w) _
  generalize ab:w.heap.size=c at *;have P:=hG.kept fun k p=>n.block k (by omega)
  have I:CD c s 0 ls 0 (W.alloc (.cells #[.int .i64 0,.int .i64 0] 184)):=L.alloc _;have J:GV (W.alloc (.cells #[.int .i64 0,.int .i64 0] 184)):=P.kept fun k p=>JO _ _ (by omega)
  have u:=Ih c s (W.alloc (.cells #[.int .i64 0,.int .i64 0] 184)) HS.out F I J;have D:∀{H:Nat->Prop} {d:Wd},cZ c (own ls []) (W.alloc (.cells #[.int .i64 0,.int .i64 0] 184)) H d->d.heap[W.heap.size]?=some (.cells #[.int .i64 0,.int .i64 0] 184 (0,0)):=fun o=>by
   rw[o.block W.heap.size (by simp) (by omega) (rn _)];exact JK W _
  have E:∀{H:Nat->Prop} {d b:Wd},cZ c (own ls []) (W.alloc (.cells #[.int .i64 0,.int .i64 0] 184)) H d->ca W.heap.size d b->Below c w b:=fun {H d b} o m=>by
   have a1:=o.size;simp at a1;refine⟨m.os.trans (o.os.trans n.os),m.tape.trans (o.tape.trans n.tape),m.output.trans (o.output.trans n.output),by have:=m.size;omega,fun k p=>?_⟩;rw[m.block k (by omega) (fun e=>by injection e with e;omega),o.block k (by simp;omega) (by omega) (rn _),JO _ _ (by omega)];exact n.block k p
  cases v:cB s.data.toList with
  | error q=>
    obtain⟨e,a⟩:=q;rw[v]at u
    have z:=ps c W e (fun R d=>R=a/\0<e/\cZ c (own ls []) (W.alloc (.cells #[.int .i64 0,.int .i64 0] 184)) (fun _=>False) d)
     (u.mono (by rintro r d ⟨y,rfl,G⟩;exact⟨a,rfl,D G,rfl,y,G⟩))
    have A:=z.mono (R':=fun r b=>r=.returned (fv e a)/\0<e/\Below c w b) (by
     rintro r b ⟨R,rfl,d,⟨rfl,y,G⟩,m⟩;exact⟨rfl,y,E G m⟩)
    clear z u D E L I J P n Q;have N:Hid _:=v;clear v;go_enter func100,ntmps100;go_wp2_with fail
    refine A.mono ?_;rintro r b ⟨rfl,y,x⟩;have B:Hid (0<e/\Below c w b):=⟨y,x⟩;have he:((e:Int)==0)=false:=by rw[JJ];omega
    have Y:c<=b.heap.size:=by have:=x.size;rw[ab]at this;exact this
    unfold fv;clear A y x;go_wp2_with fail
    go_quiet (fail);go_wp2;refine Ka (results_tmp3 rfl _ _ _) rfl ?_;refine⟨⟨rfl,B.out.1⟩,?_⟩;have f:=B.out.2;refine⟨f.os,f.tape,f.output,?_,?_⟩
    ·have:=f.size;simp[World.drewN]at *;omega
    ·intro k p
     refine Eq.trans ?_ (f.block k p);exact JO b _ (by omega)
  | ok t=>
    rw[v]at u
    have z:=qg c W (fun d=>∃l i j,CN c s j (flat 0 [] t) 0 l i d/\cZ c (own ls []) (W.alloc (.cells #[.int .i64 0,.int .i64 0] 184)) (own l i) d)
     (u.mono (by rintro r d ⟨rfl,l,i,j,h,C⟩;exact⟨rfl,D C,l,i,j,h,C⟩))
    have A:=z.mono (R':=fun r b=>r=.returned (fv 0 0)/\∃l i j,CN c s j (flat 0 [] t) 0 l i b/\Below c w b) (by
     rintro r b ⟨rfl,d,⟨l,i,j,h,C⟩,m⟩;refine⟨rfl,l,i,j,⟨?_,?_⟩,E C m⟩
     ·exact(m.block c h.cd.lt (fun e=>by injection e with e;omega)).trans h.cd
     ·refine h.nk.kept fun g F=>m.block g (h.nk.own_lt F).2 (fun e=>?_)
      injection e with e;rcases C.own g F with O|O
      ·exact rn _ O
      ·simp at O;omega)
    clear z u D E L I J P n Q;have N:Hid _:=v;clear v;go_enter func100,ntmps100;go_wp2_with fail
    refine A.mono ?_;rintro r b ⟨rfl,l,i,j,h,x⟩;have B:Hid (NK (c+1) 150 l i (flat 0 [] t) b/\Below c w b):=⟨h.nk,x⟩;have Y:c<b.heap.size:=h.cd.lt;obtain⟨c0,Z,c2,c3,X⟩:=h.cd.cell;unfold fv;clear A h x c0 Z c3 X;go_wp2;refine Ka (results_tmp3 rfl _ _ _) rfl ?_;refine⟨⟨l,i,rfl,B.out.1.alloc _⟩,?_⟩;have f:=B.out.2;refine⟨f.os,f.tape,f.output,?_,?_⟩
    ·have:=f.size;simp at *;omega
    ·intro k p
     refine Eq.trans ?_ (f.block k p);exact JO b _ (by omega)
 ·have aa:(65536:Int)<(s.size:Int):=by omega
  have N:Hid (cB s.data.toList=.error (1,0)):=by
   show cB s.data.toList=.error (1,0)
   rw[cB,if_pos (by simp;omega)]
  clear M;go_enter func100,ntmps100;go_wp2;refine Ka (results_tmp3 rfl _ _ _) rfl ?_;rw[N.out];exact⟨⟨rfl,by omega⟩,JI _ _⟩
theorem Ia:(prog.info? 240).map (fun i=>(i.zero,i.size,i.bytes))=some (some (.agg #[.slice none 0 0,.int .i64 0]),2,32):=by kernel_rfl
theorem Ds:(prog.info? 3).map (fun i=>(i.zero,i.size,i.bytes))=some (some (.int .i64 0),1,8):=by kernel_rfl
structure MI (L:oa) (w:Wd) (ks:hH) (j:Nat) (v:Value) (us:rt) (wr:Wd):Prop where
 le:j<=ks.length
 len:us.length=j
 row:wr.ownsRow w.heap.size 240 2 v j (kJ (ks.take j) us)
 un:∀(i k:Nat) (u:Value),(ks.take j)[i]?=some k->us[i]?=some u->wr.ownsRow w.heap.size 243 1 u (unitsL (keyL L k)).length ((unitsL (keyL L k)).map uV)
 bel:Below w.heap.size w wr
theorem MI.shape{L:oa}{w:Wd}{d:hH}{j:Nat}{v:Value}{us:rt}{wr:Wd}(h:MI L w d j v us wr):∃e f,v=.slice e j f:=by
 rcases h.row.2 with⟨a,b⟩|⟨g,c,i,a,_⟩
 ·exact⟨none,0,by rw[a,b]⟩
 ·exact⟨_,_,a⟩
theorem pJ{w:Wd}{B f d n:Nat}{e:TypeId}{v:Value}{xs:rt}(h:w.ownsRow B e d v n xs)(k:f<=B):w.ownsRow f e d v n xs:=by
 refine⟨h.1,?_⟩;rcases h.2 with h|⟨g,i,j,a,b,c⟩
 ·exact .inl h
 ·exact .inr ⟨g,i,j,a,by omega,c⟩
theorem MI.push{L:oa}{w:Wd}{b:hH}{j:Nat}{v u:Value}{us:rt}{wr d f:Wd}{k:Nat}(h:MI L w b j v us wr)(r:b[j]?=some k)(l:Below wr.heap.size wr d)(C:d.ownsRow (wr.heap.size+1) 243 1 u (unitsL (keyL L k)).length ((unitsL (keyL L k)).map uV))(o:Obj){g cap:Nat}(H:f.ownsRow w.heap.size 240 2 (.slice (some ⟨g,0,none⟩) (j+1) cap) (j+1) (kJ (b.take j) us++[u,iV k]))(s:(d.alloc o).grownBy f v.ownBlock):MI L w b (j+1) (.slice (some ⟨g,0,none⟩) (j+1) cap) (us++[u]) f:=by
 have A:=(JG.1 r).1;have q:b.take (j+1)=b.take j++[k]:=by rw[Lf,r];rfl
 have D:=h.bel.size;have J:=l.size;have F:∀{x:Nat},v.ownBlock=some x->x<wr.heap.size:=fun a=>(cc h.row a).2.1
 have m:∀x,x<d.heap.size->some x≠v.ownBlock->f.heap[x]?=d.heap[x]?:=fun x a E=>by
  rw[s.block x (by simp;omega) E,JO _ _ a]
 have n:=fw h.row (fun x a=>l.block x (F a));refine⟨A,by simp[h.len],?_,?_,?_⟩
 ·rw[q,qG _ _ k u (by rw[h.len,J6];omega)];exact H
 ·intro i B G c e
  rw[q]at c;have p:(b.take j).length=j:=by rw[J6];omega
  by_cases K:i<j
  ·rw[J4 (by omega)]at c
   rw[J4 (by rw[h.len];omega)]at e;have t:=h.un i B G c e;have z:=fw t (fun x a=>l.block x (cc t a).2.1);exact iy (by decide) n z m
  ·have I:i=j:=by
    have:=(JG.1 c).1;rw[JH,p]at this;simp at this;omega
   subst I;rw[J9 (by omega),p,L9]at c;rw[J9 (by rw[h.len];exact JQ _),h.len,L9]at e;simp at c e;subst c;subst e;exact iy (by decide) n (pJ C (by omega)) m
 ·have y:=h.bel.trans (l.mono D)
  exact(y.alloc (by omega) o).grown s (by simp;omega) (fun x a=>(cc h.row a).1)
structure yT (w2:Wd) (xs:hH) (j:Nat) (v:Value) (wr:Wd):Prop where
 le:j<=xs.length
 row:wr.ownsRow w2.heap.size 3 1 v j ((xs.take j).map iV)
 bel:Below w2.heap.size w2 wr
theorem yT.shape{w2:Wd}{xs:hH}{j:Nat}{v:Value}{wr:Wd}(h:yT w2 xs j v wr):∃d e,v=.slice d j e:=by
 rcases h.row.2 with⟨a,b⟩|⟨g,c,f,a,_⟩
 ·exact⟨none,0,by rw[a,b]⟩
 ·exact⟨_,_,a⟩
theorem yT.push{w2:Wd}{xs:hH}{j k:Nat}{v:Value}{wr w9:Wd}(h:yT w2 xs j v wr)(b:xs[j]?=some k)(c a:Obj){g cap:Nat}(d:w9.ownsRow w2.heap.size 3 1 (.slice (some ⟨g,0,none⟩) (j+1) cap) (j+1) ((xs.take j).map iV++[iV k]))(f:((wr.alloc c).alloc a).grownBy w9 v.ownBlock):yT w2 xs (j+1) (.slice (some ⟨g,0,none⟩) (j+1) cap) w9:=by
 have i:=h.bel.size;refine⟨(JG.1 b).1,?_,?_⟩
 ·rw[Lf,b]
  simpa using d
 ·exact((h.bel.alloc (by omega) c).alloc (by simp;omega) a).grown f (by simp;omega) (fun x e=>(cc h.row e).1)
section
variable (Y:Nat) (W X:Value) (w:Wd)
theorem EX(L:oa)(d:hH)(kv:Value)(hd:WD Y W X w)(hN:NR Y (own X []) W L w)(hK:KR Y (own X []) kv d w)(hn:d.length<=1000000)(hL:L.length<=1000000)(aB:∀c∈d,c<L.length)(y:∀c∈d,U8 (keyL L c))(ap:d.Pairwise (fun a b=>keyL L a≠keyL L b))(aq:∀c∈d,(keyL L c).length<=65536):Calls prog 169 #[.pointer (some ⟨Y,0,none⟩),kv] w fun e t=>∃v,e=.returned v/\t.ownsRow w.heap.size 3 1 v d.length ((eE (dZ L) d).map iV)/\Below w.heap.size w t:=by
 obtain⟨i0,av,aN,aL,aG⟩:=Kf Ia;obtain⟨i1,ao,aM,aE,aJ⟩:=Kf Ds;have HI:Hid _:=av;have aH:Hid _:=ao;obtain⟨aR,aW,rfl⟩:=hK.shape;obtain⟨c0,T,cf⟩:=hd.cell;have aO:=hd.lt;have HK:Hid _:=hK;have HN:Hid _:=hN;have aP:Hid _:=aB;have HU:Hid _:=y;have HD:Hid _:=ap;have am:Hid _:=aq;have C0:Hid _:=c0;clear av ao hK hN aB y ap aq hd cf T c0;go_enter func169,ntmps169;go_wp2;go_loopw [5,13] (fun mv C wr=>∃(j:Nat) (z:rt),C=.int .i64 (j:Int)/\MI L w d j mv z wr) (fun _ C _=>d.length-(intOf C).toNat)
 case atStart=>exact⟨0,[],rfl,KI _,rfl,⟨rfl,.inl ⟨rfl,rfl⟩⟩,fun i k u h=>by simp at h,JI _ _⟩
 case round=>
  obtain⟨j,z,rfl,l⟩:=hrel;obtain⟨H,G,rfl⟩:=l.shape;have aZ:=l.bel.size;have F:=fun g o n=>Lm (a:=⟨g,o,none⟩) (l.bel.block g n)
  by_cases hj:j<d.length
  ·have k1:(j:Int)<(d.length:Int):=by omega
   obtain⟨k,p⟩:∃k,d[j]?=some k:=⟨_,JF hj⟩;have N:=JZ p;obtain⟨g,aU,e,E,g2,g3,g4⟩:=HK.out.at' j k p;obtain rfl:aR=some ⟨g,0,none⟩:=by injection e
   have r4:=(F g j E).trans g4;have az:=aP.out k N;have k2:(k:Int)<(L.length:Int):=by omega
   obtain⟨nd,V⟩:∃nd,L[k]?=some nd:=⟨_,JF az⟩;obtain⟨gN,aV,aX,rfl,n1,n2,n3,aK,b0,b1,b2,b3,b4,b5⟩:=HN.out.at' k nd V;have q0:=(F Y 0 aO).trans C0.out;have q1:=(F gN (k*6+1) n1).trans b1;have K:=gc V;have af:=Fw ⟨nd.key.toArray⟩ wr (by have:=HU.out k N;rw[K]at this;simpa using this) (by have:=am.out k N;rw[K]at this;show nd.key.toArray.size<=_;simpa using this);have ar:(⟨nd.key.toArray⟩:dv).data.toList=nd.key:=by simp
   rw[ar,<-K]at af;rw[<-K]at q1;have HP:Hid (∀{u:Value} {f U:Wd},Below wr.heap.size wr f->f.ownsRow (wr.heap.size+1) 243 1 u (unitsL (keyL L k)).length ((unitsL (keyL L k)).map uV)->∀(o:Obj) {B A:Nat},U.ownsRow w.heap.size 240 2 (.slice (some ⟨B,0,none⟩) (j+1) A) (j+1) (kJ (d.take j) z++[u,iV k])->(f.alloc o).grownBy U (Value.slice H j G).ownBlock->MI L w d (j+1) (.slice (some ⟨B,0,none⟩) (j+1) A) (z++[u]) U):=fun D y o _ _ s n=>l.push p D y o s n
   have ab:Hid (∀f,Below wr.heap.size wr f->∀o,(f.alloc o).ownsRow w.heap.size 240 2 (.slice H j G) j (kJ (d.take j) z)):=fun f D o=>(fw l.row (fun x hx=>D.block x (cc l.row hx).2.1)).alloc o
   generalize keyL L k=R at *;clear l F g4 e b0 b1 b2 b3 b4 b5 aK p N V K ar E g2 g3 n1 n2 n3 az;go_wp2_with fail
   refine af.mono ?_;rintro r f ⟨u,rfl,ac,ak⟩;obtain⟨au,aD,rfl⟩:=(UR.of ac).shape;have aI:Hid (f.ownsRow (wr.heap.size+1) 243 1 (.slice au (unitsL R).length aD) (unitsL R).length ((unitsL R).map uV)):=ac;have aA:Hid (Below wr.heap.size wr f):=ak;have a0:=ak.size;clear af ac ak r4 q0 q1;go_wp2_with (refine L8 _ rfl (.tmp 17) (.tmp 29) 236 rfl w.heap.size 240 i0 _ 2 32 underlying236 HI.out aN aL aG rfl (by decide) _ j (kJ (d.take j) z) rfl (ab.out f aA.out _) ⟨f.heap.size,0,none⟩ 1 1 [.slice au (unitsL R).length aD,.int .i64 (k:Int)] rfl rfl (sx f _ 240) (by intro u y;rcases Ke.1 y with rfl|y;exact rfl;rw[Lw.1 y];rfl) (by decide) (by unfold maxLen;omega) (by omega) (by simp;omega) (f.heap.size+1) (by simp) ?_;intro B A J s n aj _;have Z:Hid _:=And.intro s n;clear s n aj)
   go_wp2_with fail
   go_roundw
   case rel=>exact⟨j+1,_,by go_num,HP.out aA.out aI.out _ Z.out.1 Z.out.2⟩
   case measure=>simp[intOf];omega
  ·obtain rfl:j=d.length:=by have:=l.le;omega
   have k1:¬(d.length:Int)<(d.length:Int):=by omega
   have an:=l.len;have M:=l.row;have ah:=l.un;rw[LD]at M ah;have ag:Calls prog 197 #[.slice H d.length G,.func (.func 198) #[] #[]] wr fun e t=>e=.returned (.tuple #[])/\Below w.heap.size wr t/\∀(i k:Nat),(eE (dZ L) d)[i]?=some k->∃g a m c,H=some ⟨g,0,none⟩/\g<t.heap.size/\t.cell? ⟨g,i*2,none⟩=some (.slice a m c)/\t.cell? ⟨g,i*2+1,none⟩=some (.int .i64 (k:Int)):=by
    rcases MF d.length with P|P
    ·rw[P]
     refine Calls.mono (AnyF.slices_SortFunc_none sortM H G _ wr) ?_;rintro e t ⟨rfl,rfl⟩;refine⟨rfl,JI _ _,fun i k p=>?_⟩;have h1:=(JG.1 p).1;rw[gj,P]at h1;omega
    ·rcases M.2 with⟨_,b⟩|⟨g,c,a4,a,b,T,_⟩
     ·omega
     ·injection a with a1 a2 a3
      subst a1;subst a3;refine(Hu L d z w.heap.size g G wr an P hn M ah HU.out HD.out am.out).mono ?_;rintro e t ⟨rfl,D,hc⟩;refine⟨rfl,D,fun i k p=>?_⟩;obtain⟨a',m',c',Q,O⟩:=hc i k p;have n:g<wr.heap.size:=(go.1 T).1;exact⟨g,a',m',c',rfl,J0 n D.size,Q,O⟩
   have ae:=gj (dZ L) d;obtain⟨xs,ai⟩:∃xs,xs=eE (dZ L) d:=⟨_,rfl⟩;rw[<-ai]at ag ae;have HX:=Lib.hid ai;have aa:=Lib.hid l.bel;clear F l M ah ai an;rw[<-ae]at k1;go_wp2_with (go_at_call 197;refine ag.mono ?_;rintro e I ⟨rfl,aC,ax⟩;have ay:=Lib.hid aC;have aQ:=Lib.hid ax;clear aC ax ag)
   have aS:=ay.out.size;go_loopw [8,36] (fun ov C aF=>∃(j:Nat),C=.int .i64 (j:Int)/\yT I xs j ov aF) (fun _ C _=>xs.length-(intOf C).toNat)
   case atStart=>exact⟨0,rfl,KI _,⟨rfl,.inl ⟨rfl,rfl⟩⟩,JI _ _⟩
   case round=>
    obtain⟨j,rfl,q⟩:=hrel;obtain⟨aw,al,rfl⟩:=q.shape;have HO:=Lib.hid q;by_cases hj:j<xs.length
    ·have k2:(j:Int)<(d.length:Int):=by omega
     obtain⟨k,p⟩:∃k,xs[j]?=some k:=⟨_,JF hj⟩;obtain⟨g,a,m,c,rfl,E,Q,O⟩:=aQ.out j k p;have e1:=(Lm (a:=⟨g,j*2,none⟩) (q.bel.block g E)).trans Q;have e2:=(Lm (a:=⟨g,j*2+1,none⟩) (q.bel.block g E)).trans O;have ab:Hid (∀o,(wr.alloc o).ownsRow I.heap.size 3 1 (.slice aw j al) j ((xs.take j).map iV)):=fun o=>q.row.alloc o
     have HP:Hid (∀(S o2:Obj) {B A:Nat} {J:Wd},J.ownsRow I.heap.size 3 1 (.slice (some ⟨B,0,none⟩) (j+1) A) (j+1) ((xs.take j).map iV++[iV k])->((wr.alloc S).alloc o2).grownBy J (Value.slice aw j al).ownBlock->yT I xs (j+1) (.slice (some ⟨B,0,none⟩) (j+1) A) J):=fun S o2 _ _ _ s n=>q.push p S o2 s n
     have aY:=q.bel.size;clear q Q O p E;go_wp2_with (refine qL rfl (.tmp 40) (.tmp 43) 32 rfl 3 i1 _ 8 KT aH.out aM aE aJ rfl (by decide) I.heap.size _ j ((xs.take j).map iV) [.int .i64 (k:Int)] _ rfl (ab.out _) (by simp;omega) (by omega) (LE _) (by simp) (by simp[Value.oneCell']) (by show Value.slice (some ⟨wr.heap.size+1,0,none⟩) 1 1=_;simp) ?_;intro B A J s n aj;have Z:=Lib.hid (And.intro s n);clear s n aj)
     go_wp2_with fail
     go_roundw
     case rel=>exact⟨j+1,by go_num,HP.out _ _ Z.out.1 Z.out.2⟩
     case measure=>simp[intOf];omega
    ·obtain rfl:j=xs.length:=by have:=q.le;omega
     clear q;go_wp2;go_ret;refine⟨_,rfl,?_,?_⟩
     ·have h8:=HO.out.row
      rw[LD]at h8;rw[<-HX.out,<-ae];exact pJ h8 (by have:=aa.out.size;omega)
     ·have aT:=aa.out.size
      exact aa.out.trans (ay.out.trans (HO.out.bel.mono (by omega)))
end
theorem WZ.below{a B:Nat}{d e:Value}{l:dj}{w w':Wd}(h:WZ a d e l w)(b:Below B w w')(c:w.heap.size<=B):WZ a d e l w':=
 ⟨(b.block a (J0 h.wd.lt c)).trans h.wd,fw h.row (fun g f=>b.block g (J0 (cc h.row f).2.1 c))⟩
theorem xB{b B:Nat}{O:Nat->Prop}{w w':Wd}(a:Below B w w')(d:w.heap.size<=B):cZ b O w O w':=
 ⟨a.os,a.tape,a.output,a.size,fun k c _ _=>a.block k (J0 c d),fun _ h=>.inl h⟩
theorem KR.of{e B:Nat}{O:Nat->Prop}{v:Value}{d:hH}{w:Wd}(h:w.ownsRow B 3 1 v d.length (d.map iV))(o:e<B)(i:∀g,O g->g<B):KR e O v d w:=by
 refine⟨?_,fun j x f=>?_⟩
 ·rcases h.2 with⟨a,b⟩|⟨g,c,k,a,_⟩
  ·exact⟨none,0,by rw[a,b]⟩
  ·exact⟨_,_,a⟩
 ·rcases h.2 with⟨a,b⟩|⟨g,c,k,a,b,n,_⟩
  ·have:=(JG.1 f).1;omega
  ·refine⟨g,c,a,(go.1 n).1,by omega,fun m=>by have:=i g m;omega,?_⟩
   have:=h.cells (g:=g) (by rw[a];rfl) j (iV x) (by rw[KM,f];rfl);have l:(⟨g,0,none⟩:Addr).add j=⟨g,j,none⟩:=by unfold Addr.add;split<;>simp_all
   rwa [l]at this
section
variable (Z:Nat) (Y X:Value) (l:dj) (w:Wd)
theorem zj(L:oa)(k:Nat)(n:Nd)(F:L[k]?=some n)(hL:L.length<=1000000)(A:NR Z (own X []) Y L w)(h:WZ Z Y X l w)(G:Nat->dj)(hl:l.length+(ct (fc L G) (eE (dZ L) n.kids) n.kids.length).length+2<=4000000000)(W:n.kind=5)(ai:n.kids.length<=1000000)(K:∀c∈n.kids,c<L.length)(Q:∀c∈n.kids,U8 (keyL L c))(U:n.kids.Pairwise (fun a b=>keyL L a≠keyL L b))(H:∀c∈n.kids,(keyL L c).length<=65536)(hf:∀c∈n.kids,∀(q:Value) (s:dj) (d:Wd),WZ Z Y q s d->cZ Z (own X []) w (own q []) d->s.length+(G c).length<=4000000000->Calls prog 135 #[.pointer (some ⟨Z,0,none⟩),.int .i64 (c:Int)] d fun r D=>WQ Z Y (own q []) d (s++G c) r D):Calls prog 135 #[.pointer (some ⟨Z,0,none⟩),.int .i64 (k:Int)] w fun r d=>WQ Z Y (own X []) w (l++(123::ct (fc L G) (eE (dZ L) n.kids) n.kids.length++[125])) r d:=by
 have ao:=(JG.1 F).1;obtain⟨g,B,kv,rfl,g1,g2,g3,E,b0,b1,b2,b3,b4,b5⟩:=A.at' k n F;obtain⟨ac,M,rfl⟩:=E.shape;rw[W]at b0;obtain⟨f,i,rfl⟩:=h.shape;obtain⟨c0,c1,cf⟩:=h.wd.cell;have an:=h.wd.lt
 have t:=gj (dZ L) n.kids;have P:∀x,own (.slice f l.length i) [] x->x<w.heap.size:=fun x u=>by
  rcases u with u|⟨_,hm,_⟩
  ·exact(cc h.row u).2.1
  ·simp at hm
 have HS:Hid (∀o,Calls prog 169 #[.pointer (some ⟨Z,0,none⟩),.slice ac n.kids.length M] (w.alloc o) fun e j=>∃m p,e=.returned (.slice m n.kids.length p)/\
  Calls prog 168 #[.pointer (some ⟨Z,0,none⟩),.int .u8 123,.slice m n.kids.length p,.func (.func 170) #[.pointer (some ⟨Z,0,none⟩)] #[],.int .u8 125] j fun r d=>WQ Z (.slice (some ⟨g,0,none⟩) L.length B) (own (.slice f l.length i) []) w (l++(123::ct (fc L G) (eE (dZ L) n.kids) n.kids.length++[125])) r d):=fun o=>by
  refine(EX Z (.slice (some ⟨g,0,none⟩) L.length B) (.slice f l.length i) (w.alloc o) L n.kids (.slice ac n.kids.length M) (h.alloc o).wd (A.chg (eX _ _ _ o)) (E.chg (eX _ _ _ o)) ai hL K Q U H).mono ?_;rintro e j ⟨v,rfl,O,N⟩;rw[<-t]at O;have I:KR Z (own (.slice f l.length i) []) v (eE (dZ L) n.kids) j:=KR.of O (by simp;omega) (fun x u=>by have:=P x u;simp;omega);have aj:=(h.alloc o).below N (JQ _);have J:cZ Z (own (.slice f l.length i) []) w (own (.slice f l.length i) []) j:=(eX _ _ _ o).trans (xB N (JQ _));obtain⟨m,p,rfl⟩:=I.shape;rw[t]at I ⊢;refine⟨m,p,rfl,?_⟩;have hw:=Fp Z (.slice (some ⟨g,0,none⟩) L.length B) (.slice f l.length i) l j 123 125 (fc L G) (eE (dZ L) n.kids) (.slice m n.kids.length p) (by omega) I aj (by rw[t];exact hl) ?_
  ·rw[t]at hw
   refine hw.mono ?_;rintro r w2 ⟨e,v2,z2,ak⟩;exact⟨e,v2,z2,J.trans ak⟩
  ·intro c hc q s d y V aa
   have C:=rM (dZ L) n.kids c hc;have am:=K c C;obtain⟨z,ab⟩:∃z,L[c]?=some z:=⟨_,JF am⟩;have S:=gc ab;have e1:fc L G c=dk z.key++58::G c:=by unfold fc;rw[S]
   rw[e1]at aa ⊢;refine D1 Z (.slice (some ⟨g,0,none⟩) L.length B) q s d L c z ab (by omega) (G c) ((A.chg J).chg V) y (by simp only[JH,JM]at aa;omega) (by have:=H c C;rwa [S]at this) ?_;intro al af D ah ag ae;exact hf c C al af D ah (J.trans (V.trans ag)) ae
 clear h cf A F W E hf P K Q U H t;generalize l++(123::ct (fc L G) (eE (dZ L) n.kids) n.kids.length++[125])=T at *;go_enter func135,ntmps135;go_wp2_with fail
 refine(HS.out _).mono ?_;rintro r j ⟨m,p,rfl,R⟩;have HQ:=Lib.hid R;clear R HS;go_wp2_with fail
 refine HQ.out.mono ?_;rintro r w2 ⟨rfl,y⟩;have HZ:=Lib.hid y;clear y;go_wp2;go_end0
 exact⟨rfl,HZ.out⟩
end
theorem sJ{b:Nat}{d:Value}{i:Nat->Prop}{l:dj}{f:Value}{w w':Wd}(h:WZ b f d l w)(a:cZ b (own d []) w i w'):Below b w w':=
 ⟨a.os,a.tape,a.output,a.size,fun k e=>a.block k (Nat.lt_trans e h.wd.lt) (by omega) (fun c=>by
   rcases c with c|⟨_,g,_⟩
   ·have:=(cc h.row c).1;omega
   ·simp at g)⟩
structure TK (L:oa):Prop where
 text:∀(k:Nat) (n:Nd),L[k]?=some n->n.text.length<=65536
 key:∀(k:Nat) (n:Nd),L[k]?=some n->n.key.length<=65536
 names:vA L
theorem TK.keyL{L:oa}(h:TK L)(k:Nat):(keyL L k).length<=65536:=by
 unfold Go.Proofs.YtihboehpeehlmaaGreatDoor.keyL;split
 ·rename_i n a;exact h.key k n a
 ·simp
theorem IG(L:oa)(m:nJ L)(u:TK L)(a:Nat)(e:Value):∀(f k:Nat),k<L.length->L.length-k<=f->∀(g:Value) (l:dj) (w:Wd),NR a (own g []) e L w->WZ a e g l w->l.length+(formN L f k).length<=4000000000->Lib.TabBelow prog a w "internal/strconv.uint64pow10" .u64 Lib.pow10Tab->Calls prog 135 #[.pointer (some ⟨a,0,none⟩),.int .i64 (k:Int)] w fun r i=>WQ a e (own g []) w (l++formN L f k) r i:=by
 intro f;induction f with
 | zero=>intro k D M;omega
 | succ f ih=>
   intro k D M g l w j h b z;obtain⟨n,d⟩:∃n,L[k]?=some n:=⟨_,JF D⟩;have O:=m.kind k n d;have E:=m.kids k n d;have C:=m.few k n d;have N:=m.len;have B:∀c∈n.kids,∀(o:Value) (p:dj) (i:Wd),WZ a e o p i->cZ a (own g []) w (own o []) i->p.length+(formN L f c).length<=4000000000->Calls prog 135 #[.pointer (some ⟨a,0,none⟩),.int .i64 (c:Int)] i fun r I=>WQ a e (own o []) i (p++formN L f c) r I:=by
    intro c v o p i K A H;obtain⟨s,q⟩:=E c v;exact ih c q (by omega) o p i (j.chg A) K H (z.on (sJ h A))
   unfold formN at b ⊢;rw[d]at b ⊢;simp only at b ⊢;by_cases y:n.kind=0
   ·rw[if_pos y]at b ⊢;exact vm a e g l w L k n d (by omega) j h (by omega) y
   rw[if_neg y]at b ⊢;by_cases s:n.kind=1
   ·rw[if_pos s]at b ⊢;exact uB a e g l w L k n d (by omega) j h (by omega) s
   rw[if_neg s]at b ⊢;by_cases q:n.kind=2
   ·rw[if_pos q]at b ⊢;exact xq a e g l w L k n d (by omega) j h (by omega) q (m.lo k n d) (m.hi k n d) z
   rw[if_neg q]at b ⊢;by_cases x:n.kind=3
   ·rw[if_pos x]at b ⊢;exact xQ a e g l w L k n d (by omega) j h (by omega) x (u.text k n d)
   rw[if_neg x]at b ⊢;by_cases t:n.kind=4
   ·rw[if_pos t]at b ⊢
    exact xC a e g l w L k n d (by omega) j h (formN L f) (by simp only[JH,JM,JY]at b;omega) t C B
   rw[if_neg t]at b ⊢;have F:n.kind=5:=by omega
   obtain⟨J,G⟩:=u.names k n d F;exact zj a e g l w L k n d N j h (formN L f) (by simp only[JH,JM,JY]at b;omega) F C (fun c v=>(E c v).2) J G (fun c _=>u.keyL c) B
theorem E3{l:dj}{t:JT}(h:cB l=.ok t):TK (flat 0 [] t):=by
 have c:=(nw h).2.1;have b:=ou 65536 0 [] t c (by simp);exact⟨fun k n a=>(b n (JZ a)).2.2.2.2.1,fun k n a=>(b n (JZ a)).2.2.2.2.2,wh (rZ h)⟩
theorem NR.of_nk{B p:Nat}{v:Value}{kvs:rt}{L:oa}{w w2:Wd}(h:NK B 150 v kvs L w)(I:w.heap.size<=p)(s:∀g,g<w.heap.size->w2.heap[g]?=w.heap[g]?)(K:w.heap.size<=w2.heap.size):NR p (own (.slice none 0 0) []) v L w2:=by
 have r:∀x,¬own (.slice none 0 0) [] x:=fun x d=>by
  rcases d with d|⟨_,F,_⟩
  ·simp[Value.ownBlock]at d
  ·simp at F
 have E:∀(g j:Nat),(⟨g,0,none⟩:Addr).add j=⟨g,j,none⟩:=fun g j=>by unfold Addr.add;split<;>simp_all
 refine⟨fun k n o=>?_⟩;have M:=(JG.1 o).1;obtain⟨l,t⟩:∃l,kvs[k]?=some l:=⟨_,JF (by have:=h.1;omega)⟩;have m:=h.2.2.1 k n l o t;rcases h.2.1.2 with⟨_,b⟩|⟨g,z,N,a,b,c,_⟩
 ·omega
 ·have D:=(go.1 c).1
  have G:v.ownBlock=some g:=by rw[a];rfl
  have i:∀j x,j<6->(cz n l)[j]?=some x->w2.cell? ⟨g,k*6+j,none⟩=some x:=fun j x A d=>by
   rw[Lm (a:=⟨g,k*6+j,none⟩) (s g D)];exact(h.at G o t A d).1
  refine⟨g,z,l,a,by omega,by omega,r g,?_,i 0 _ (by omega) rfl,i 1 _ (by omega) rfl,i 2 _ (by omega) rfl,i 3 _ (by omega) rfl,i 4 _ (by omega) rfl,i 5 _ (by omega) rfl⟩;refine⟨?_,fun j x d=>?_⟩
  ·rcases m.2 with⟨e,u⟩|⟨f,q,C,e,_⟩
   ·exact⟨none,0,by rw[e,u]⟩
   ·exact⟨_,_,e⟩
  ·rcases m.2 with⟨e,u⟩|⟨f,q,C,e,J,H,_⟩
   ·have:=(JG.1 d).1;omega
   ·have y:f<w.heap.size:=(go.1 H).1
    refine⟨f,q,e,by omega,by omega,r f,?_⟩;rw[Lm (a:=⟨f,j,none⟩) (s f y)];have:=m.cells (g:=f) (by rw[e];rfl) j (iV x) (by rw[KM,d];rfl);rwa [E]at this
theorem Hq(L:oa)(s:nJ L)(j:TK L)(v:0<L.length)(G:(formN L L.length 0).length<=1000000000)(B:Nat)(a:sd)(cap:Nat)(kvs:rt)(w:Wd)(q:NK B 150 (.slice a L.length cap) kvs L w)(m:Lib.TabBelow prog w.heap.size w "internal/strconv.uint64pow10" .u64 Lib.pow10Tab):Calls prog 108 #[.slice a L.length cap,.int .i64 0] w fun r i=>r=.returned (.string ⟨(formN L L.length 0).toArray⟩)/\Below w.heap.size w i:=by
 obtain⟨F,f⟩:∃F,F=formN L L.length 0:=⟨_,rfl⟩;have l:Hid (∀o,NR w.heap.size (own (.slice none 0 0) []) (.slice a L.length cap) L (w.alloc o)):=fun o=>NR.of_nk q (JQ _) (fun g A=>JO _ _ A) (by simp)
 have n:WZ w.heap.size (.slice a L.length cap) (.slice none 0 0) [] (w.alloc (.cells #[.slice a L.length cap,.slice none 0 0] 190)):=⟨JK w _,⟨rfl,.inl ⟨rfl,rfl⟩⟩⟩;have p:=IG L s j w.heap.size (.slice a L.length cap) L.length 0 v (by omega) (.slice none 0 0) [] (w.alloc (.cells #[.slice a L.length cap,.slice none 0 0] 190)) (l.out _) n (by simp only[JY];omega) (fun i c=>by
  refine m i ⟨c.os,c.tape,c.output,by have:=c.size;simp at this;omega,fun k z=>?_⟩;rw[c.block k (by omega),JO _ _ (by omega)])
 rw[Lj,<-f]at p;rw[<-f];clear n l f m q s j;go_enter func108,ntmps108;go_wp2_with fail
 refine p.mono ?_;rintro r u ⟨rfl,I,h,b⟩;have D:=h.wd.cell.2.1;have H:=(fL.of rfl h.row).b.str (P:=prog) (t:=115) (d:=9) JU KY Kl;have y:Hid (Below w.heap.size w u):=by
  have x:=b.size;simp at x;refine⟨b.os,b.tape,b.output,by omega,fun k z=>?_⟩;rw[b.block k (by simp;omega) (by omega) (fun e=>by
   rcases e with e|⟨_,C,_⟩
   ·simp[Value.ownBlock]at e
   ·simp at C),JO _ _ (by omega)]
 obtain⟨E,J,rfl⟩:=h.shape;go_wp2;go_ret;exact⟨rfl,y.out⟩
theorem uc(s:dv)(w:Wd)(D:9<=w.heap.size)(z:GV w)(u:Lib.TabBelow prog w.heap.size w "internal/strconv.uint64pow10" .u64 Lib.pow10Tab):Calls prog 75 #[.string s] w fun r d=>r=.returned (.tuple #[.string ⟨(prF (cB s.data.toList)).1.toArray⟩,.int .i64 ((prF (cB s.data.toList)).2.1:Int),.int .i64 ((prF (cB s.data.toList)).2.2:Int)])/\Below w.heap.size w d:=by
 have c:=zK s w D z;have g:∀t,cB s.data.toList=.ok t->(nJ (flat 0 [] t)/\q9 (flat 0 [] t))/\TK (flat 0 [] t):=fun t h=>⟨ey h,E3 h⟩
 generalize K:cB s.data.toList=R at c g ⊢;match R,c,g with
 | .error (e,a),c,g=>
   go_enter func75,ntmps75;go_wp2_with fail
   refine c.mono ?_;rintro r i ⟨⟨rfl,M⟩,b⟩;have j:=Lib.hid b
   go_wp2;go_ret3
   exact⟨rfl,j.out⟩
 | .ok t,c,g=>
   obtain⟨⟨G,E⟩,p⟩:=g t rfl;have o:0<(flat 0 [] t).length:=by rw[cJ];have:=eM t;omega
   have q:=E.one (flat 0 [] t).length 0;have B:=Lib.hid (fun(m:sd) (l:Nat) (f:rt) (i:Wd) (b:Below w.heap.size w i) k=>Hq (flat 0 [] t) G p o q (w.heap.size+1) m l f i k (fun n C=>u n (b.trans (C.mono b.size))));show Calls _ _ _ _ fun r d=>r=.returned (.tuple #[.string ⟨(formN (flat 0 [] t) (flat 0 [] t).length 0).toArray⟩,.int .i64 ((0:Nat):Int),.int .i64 ((0:Nat):Int)])/\Below w.heap.size w d
   have y:Calls prog 100 #[.string s] w fun r d=>(∃v f,r=.returned (.tuple #[v,.int .i64 0,.int .i64 0])/\NK (w.heap.size+1) 150 v f (flat 0 [] t) d)/\Below w.heap.size w d:=c
   generalize flat 0 [] t=L at *;generalize formN L L.length 0=F at *;go_enter func75,ntmps75;go_wp2_with fail
   refine y.mono ?_;rintro r i ⟨⟨v,f,rfl,k⟩,b⟩;obtain⟨m,l,rfl⟩:=k.shape;have x:=B.out m l f i b k;have j:=Lib.hid b;go_wp2_with fail
   refine x.mono ?_;rintro r I ⟨rfl,H⟩;have A:=Lib.hid (j.out.trans (H.mono j.out.size));go_wp2;go_ret3
   exact⟨rfl,A.out⟩
theorem oK(e:Int)(w:Wd):Calls prog 8 #[.int .i64 e] w fun r a=>r=.returned (.int .i64 e)/\a=w:=by
 go_enter func8,ntmps8;go_wp2;go_ret;exact⟨rfl,rfl⟩
end Go.Proofs.YtihboehpeehlmaaGreatDoor
