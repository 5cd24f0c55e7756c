import Derived.Test.YtihboehpeehlmaaGreatDoorNR3
import Derived.Test.YtihboehpeehlmaaGreatDoorS2
set_option maxHeartbeats 8000000
set_option maxRecDepth 10000
set_option linter.unusedVariables false
set_option linter.unusedSimpArgs false
namespace Go.Proofs.YtihboehpeehlmaaGreatDoor
open Tryz Go.RowKit
theorem kC(s:dv)(w:Wd)(g:s.size<=140737488351232):Calls prog 31 #[.string s] w fun r b=>(match cB s.data.toList with
 | .ok t=>∃v,r=.returned (.tuple #[v,.int .i64 0,.int .i64 0])/\RR 83 v (flat 0 [] t) b/\cr (w.heap.size+1) 83 v (flat 0 [] t) b
 | .error (e,a)=>r=.returned (.tuple #[.slice none 0 0,.int .i64 (e:Int),.int .i64 (a:Int)])/\0<e)/\Below w.heap.size w b:=by
 refine(CF s w g).mono ?_;rintro r b ⟨h,i⟩;refine⟨?_,i⟩;cases c:cB s.data.toList with
 | error q=>obtain⟨e,a⟩:=q;rw[c]at h;exact h
 | ok t=>
   rw[c]at h;obtain⟨v,e,kvs,d⟩:=h;obtain⟨j,_⟩:=ey c;exact⟨v,e,RR.of (kvs:=kvs) d (fun n l=>by obtain⟨k,f⟩:=LT l;have:=j.few k n f;omega),kvs,d⟩
theorem yL(s:dv)(f:dj)(a ttl:Int)(w:Wd)(c:s.size<=140737488351232)(e p:Nat)(g:cB s.data.toList=.error (e,p)):Calls prog 17 #[.string s,.string ⟨f.toArray⟩,.int .i64 a,.int .i64 ttl] w fun r j=>r=.returned (.tuple #[.string ⟨([]:dj).toArray⟩,.int .i64 (e:Int),.int .i64 (p:Int)])/\Below w.heap.size w j:=by
 have b:=kC s w c;rw[g]at b;have i:=cb b;go_enter func17,ntmps17;go_wp2_with fail
 refine i.out.mono ?_;rintro r l ⟨⟨rfl,m⟩,h⟩
 have d:=cb h;go_wp2
 go_ret3
 exact⟨rfl,d.out⟩
theorem wI(s:dv)(m:dj)(a ttl:Int)(w:Wd)(o:s.size<=140737488351232)(t:JT)(i:cB s.data.toList=.ok t)(b:Nd)(c:(flat 0 [] t)[0]?=some b)(Q:¬b.kind=5):Calls prog 17 #[.string s,.string ⟨m.toArray⟩,.int .i64 a,.int .i64 ttl] w fun r n=>r=.returned (.tuple #[.string ⟨([]:dj).toArray⟩,.int .i64 6,.int .i64 (b.at':Int)])/\Below w.heap.size w n:=by
 have j:=kC s w o;simp only[i]at j;have p:=cb j;have F:=(JG.1 c).1;have d:=(ey i).1;have q:=d.kids 0 b c;have G:=d.few 0 b c;generalize flat 0 [] t=L at *;have A:(0:Int)<(L.length:Int):=by omega
 go_enter func17,ntmps17;go_wp2_with fail
 refine p.out.mono ?_;rintro r R ⟨⟨v,rfl,e,y⟩,l⟩;have x:=cb l;have H:=cb y;obtain⟨D,J,rfl⟩:=e.shape;obtain⟨g,T,z,rfl,_,N,k,u,C,E,M,f,h⟩:=e.node c;rw[Lk]at u f h;rw[J3]at f h;have I:=cb e;have U:=cb d;have P:=cb c;have S:=cb k;have O:=cb q;have B:((b.kind:Int) != 5)=true:=by simp;omega
 go_wp2
 go_region
 all_goals go_wp2_with fail
 all_goals go_ret3
 all_goals exact⟨rfl,x.out.drew⟩
theorem yo(s:dv)(il:dj)(a ttl:Int)(w:Wd)(hs:s.size<=140737488351232)(t:JT)(K:cB s.data.toList=.ok t)(b:Nd)(n:(flat 0 [] t)[0]?=some b)(hk:b.kind=5)(Z:(dE (flat 0 [] t) b.kids).1≠0):Calls prog 17 #[.string s,.string ⟨il.toArray⟩,.int .i64 a,.int .i64 ttl] w fun r w'=>r=.returned (.tuple #[.string ⟨([]:dj).toArray⟩,.int .i64 (dE (flat 0 [] t) b.kids).1,.int .i64 (dE (flat 0 [] t) b.kids).2])/\Below w.heap.size w w':=by
 have O:=kC s w hs;simp only[K]at O;have R:=cb O;have av:=(JG.1 n).1;have p:=(ey K).1;have ay:=p.len;have aa:=p.kids 0 b n;have aw:=p.few 0 b n;clear O K;have ac:=cb Z;clear Z;generalize flat 0 [] t=L at *;have ar:(0:Int)<(L.length:Int):=by omega
 go_enter func17,ntmps17;go_wp2_with fail
 refine R.out.mono ?_;rintro r T ⟨⟨v,rfl,A,V⟩,h⟩;have y:=cb h;have am:=cb V;clear h R V;obtain⟨ad,ah,rfl⟩:=A.shape;obtain⟨g,aA,ab,rfl,_,ao,W,G,d1,d2,d3,l,D⟩:=A.node n;rw[Lk]at G l D;rw[J3]at l D;have HX:=cb A;have HW:=cb p;have ap:=cb n;have ak:=cb W;have aj:=cb aa;clear A p n W aa d1 d2 d3;rw[show((b.kind:Nat):Int)=5 by omega]at G;clear D hk;go_wp2_with fail
 have af:=cb l;clear G l;go_loopw [14] (fun M wr=>∃i:Nat,i<=b.kids.length/\M=.int .i64 (i:Int)/\Below T.heap.size T wr/\Hid (dE L b.kids=dE L (b.kids.drop i))) (fun M _=>b.kids.length-(intOf M).toNat)
 case atStart=>exact⟨0,by omega,rfl,JI _ _,rfl⟩
 case round=>
  obtain⟨i,hi,rfl,h,q⟩:=hrel;have J:=cb h;have l:=dc h af.out;by_cases ae:i<b.kids.length
  ·have k1:(i:Int)<(b.kids.length:Int):=by omega
   obtain⟨c,B⟩:∃c,b.kids[i]?=some c:=⟨_,JF ae⟩;obtain⟨Q,rfl,S⟩:=ak.out i c B;have Y:=dc h S;have ai:=aj.out c (JZ B);obtain⟨m,C⟩:∃m,L[c]?=some m:=⟨_,JF ai.2⟩;have E:=kN L b.kids i c B;rw[gw C]at E;have f:=cb E;have I:=HX.out.below h;obtain⟨g',an,az,z,_,_,_,e0,u,e2,e3,e4,e5⟩:=I.node C;obtain rfl:g=g':=by injection z with z;injection z
   have k2:(c:Int)<(L.length:Int):=by omega
   have au:(c:Int)<=1000000:=by omega
   have n1:g<wr.heap.size:=JL wr _ e0;have n2:=JL wr _ Y;have aq:∀o,(wr.alloc o).cell? ⟨g,4,none⟩=some (.slice (some ⟨Q,0,none⟩) b.kids.length ab):=fun o=>(JN _ _ _ n1).trans l
   have ax:∀o,(wr.alloc o).cell? ⟨Q,i,none⟩=some (.int .i64 (c:Int)):=fun o=>(JN _ _ _ n2).trans Y
   have U:=cb (fun o=>nr (.slice (some ⟨g,0,none⟩) L.length ah) L (wr.alloc o) (I.below (dC (JI wr.heap.size wr) o)) HW.out c m C);have x:=cb (fun o=>J.out.trans ((dC (JI wr.heap.size wr) o).mono J.out.size));have ag:=cb (fun o:Obj=>(show wr.heap.size<=(wr.alloc o).heap.size by simp));clear h B S C E I z;by_cases j:m.key=eh
   ·have k:eO L m=eV L m:=by unfold eO;rw[j];rw[if_neg (by decide),if_pos rfl]
    rw[j]at u;unfold eh at u;rw[k]at f;clear j k;go_wp2_with fail
    refine(U.out _).mono ?_;rintro r w2 ⟨rfl,X⟩;have P:=cb ((x.out _).trans (X.mono (Ki J.out.size (ag.out _))));clear X U x;by_cases F:(eV L m).1=0
    ·have N:Hid (dE L (b.kids.drop i)=dE L (b.kids.drop (i+1))):=cb (by rw[f.out,if_pos F])
     clear f;go_wp2_with fail
     go_roundw
     case rel=>exact⟨i+1,by omega,by go_num,P.out,by rw[q.out,N.out];exact rfl⟩
     case measure=>simp[intOf];omega
    ·have H:Hid (dE L b.kids=eV L m):=cb (by rw[q.out,f.out,if_neg F])
     have al:((eV L m).1 != 0)=true:=by simp[F]
     clear f;go_wp2_with fail
     go_ret3
     exact⟨by rw[H.out];rfl,y.out.trans (P.out.mono (by have:=y.out.size;omega))⟩
   ·by_cases d:m.key=f9\/m.key=f7\/m.key=f8\/m.key=gi
    ·have H:Hid (dE L b.kids=(4,(m.at':Int))):=cb (by
      have k:eO L m=(4,(m.at':Int)):=by unfold eO;rw[if_pos d]
      rw[q.out,f.out,k,if_neg (by simp)])
     clear f;rcases d with d|d|d|d;all_goals rw[d]at u
     all_goals simp only[f9,f7,f8,gi]at u
     all_goals clear d j
     all_goals go_wp2_with fail
     all_goals go_quiet (fail)
     all_goals go_wp2_with fail
     all_goals go_ret3
     all_goals exact⟨by rw[H.out];rfl,qH (y.out.trans ((x.out _).mono (by have:=y.out.size;omega))) _⟩
    ·skip
     have q1:(m.key==[105,115,115])=false:=JJ.2 (fun e=>d (.inl e));have q2:(m.key==[97,117,100])=false:=JJ.2 j;have q3:(m.key==[105,97,116])=false:=JJ.2 (fun e=>d (.inr (.inl e)));have q4:(m.key==[110,98,102])=false:=JJ.2 (fun e=>d (.inr (.inr (.inl e))));have q5:(m.key==[101,120,112])=false:=JJ.2 (fun e=>d (.inr (.inr (.inr e))));have N:Hid (dE L (b.kids.drop i)=dE L (b.kids.drop (i+1))):=cb (by
      have k:eO L m=(0,0):=by unfold eO;rw[if_neg d,if_neg j]
      rw[f.out,k,if_pos rfl])
     clear f d j;go_wp2_with fail
     go_roundw
     case rel=>exact⟨i+1,by omega,by go_num,x.out _,by rw[q.out,N.out];exact rfl⟩
     case measure=>simp[intOf];omega
  ·have ha:(dE L b.kids).1=0:=by rw[q.out,MG (by omega)];rfl
   exact absurd ha ac.out
theorem lH(s:dv)(f:dj)(a ttl:Int)(w:Wd)(hs:s.size<=140737488351232)(t:JT)(U:cB s.data.toList=.ok t)(b:Nd)(x:(flat 0 [] t)[0]?=some b)(hk:b.kind=5)(hE:(dE (flat 0 [] t) b.kids).1=0)(aK:f.length<=1048576)(aQ: -9223372036854775808<=a)(aU:a<=9223372036854775807)(aH: -9223372036854775808<=ttl)(aD:ttl<=9223372036854775807)(q:Int)(ab:fd (flat 0 [] t) eh b.kids<0->q=7)(aj:¬fd (flat 0 [] t) eh b.kids<0->Lib.validD f=false->q=2)(ak:¬fd (flat 0 [] t) eh b.kids<0->Lib.validD f=true->q=3/\(a<0\/ttl<1\/9007199254740991-ttl<a)):Calls prog 17 #[.string s,.string ⟨f.toArray⟩,.int .i64 a,.int .i64 ttl] w fun r w'=>r=.returned (.tuple #[.string ⟨([]:dj).toArray⟩,.int .i64 q,.int .i64 0])/\Below w.heap.size w w':=by
 have W:=kC s w hs;simp only[U]at W;have HR:=cb W;have aM:=(JG.1 x).1;have z:=(ey U).1;have aP:=z.len;have am:=z.kids 0 b x;have aN:=z.few 0 b x;clear W U;have X:=fun E=>uQ ⟨f.toArray⟩ E (by show f.toArray.size<=_;simp;omega)
 have el:(⟨f.toArray⟩:dv).data.toList=f:=by simp
 rw[el]at X;have ah:=cb X;have ap:=cb ab;have aq:=cb aj;have ar:=cb ak;clear ab aj ak X el;have aa:=cb hE;clear hE;generalize flat 0 [] t=L at *;have aJ:(0:Int)<(L.length:Int):=by omega
 go_enter func17,ntmps17;go_wp2_with fail
 refine HR.out.mono ?_;rintro r E ⟨⟨v,rfl,H,af⟩,d⟩;have Q:=cb d;have aE:=cb af;clear d HR af;obtain⟨ad,al,rfl⟩:=H.shape;obtain⟨g,aT,ao,rfl,_,aG,ag,P,d1,d2,d3,p,M⟩:=H.node x;rw[Lk]at P p M;rw[J3]at p M;have O:=cb H;have HW:=cb z;have ay:=cb x;have an:=cb ag;have aC:=cb am;clear H z x ag am d1 d2 d3;rw[show((b.kind:Nat):Int)=5 by omega]at P;clear M hk;go_wp2_with fail
 have ax:=cb p;clear P p;go_loopw [14] (fun V wr=>∃i:Nat,i<=b.kids.length/\V=.int .i64 (i:Int)/\Below E.heap.size E wr/\Hid (dE L b.kids=dE L (b.kids.drop i))) (fun V _=>b.kids.length-(intOf V).toNat)
 case atStart=>exact⟨0,by omega,rfl,JI _ _,rfl⟩
 case round=>
  obtain⟨i,hi,rfl,d,A⟩:=hrel;have T:=cb d;have p:=dc d ax.out;by_cases aw:i<b.kids.length
  ·have k1:(i:Int)<(b.kids.length:Int):=by omega
   obtain⟨c,I⟩:∃c,b.kids[i]?=some c:=⟨_,JF aw⟩;obtain⟨gk,rfl,ac⟩:=an.out i c I;have ck:=dc d ac;have aB:=aC.out c (JZ I);obtain⟨m,F⟩:∃m,L[c]?=some m:=⟨_,JF aB.2⟩;have N:=kN L b.kids i c I;rw[gw F]at N;have j:=cb N;have S:=O.out.below d;obtain⟨g',aF,aS,G,_,_,_,e0,Z,e2,e3,e4,e5⟩:=S.node F;obtain rfl:g=g':=by injection G with G;injection G
   have k2:(c:Int)<(L.length:Int):=by omega
   have aL:(c:Int)<=1000000:=by omega
   have n1:g<wr.heap.size:=JL wr _ e0;have n2:=JL wr _ ck;have aI:∀o,(wr.alloc o).cell? ⟨g,4,none⟩=some (.slice (some ⟨gk,0,none⟩) b.kids.length ao):=fun o=>(JN _ _ _ n1).trans p
   have aO:∀o,(wr.alloc o).cell? ⟨gk,i,none⟩=some (.int .i64 (c:Int)):=fun o=>(JN _ _ _ n2).trans ck
   have ae:=cb (fun o=>nr (.slice (some ⟨g,0,none⟩) L.length al) L (wr.alloc o) (S.below (dC (JI wr.heap.size wr) o)) HW.out c m F);have K:=cb (fun o=>T.out.trans ((dC (JI wr.heap.size wr) o).mono T.out.size));have az:=cb (fun o:Obj=>(show wr.heap.size<=(wr.alloc o).heap.size by simp));clear d I ac F N S G;by_cases l:m.key=eh
   ·have n:eO L m=eV L m:=by unfold eO;rw[l];rw[if_neg (by decide),if_pos rfl]
    rw[l]at Z;unfold eh at Z;rw[n]at j;clear l n;go_wp2_with fail
    refine(ae.out _).mono ?_;rintro r w2 ⟨rfl,ai⟩;have av:=cb ((K.out _).trans (ai.mono (Ki T.out.size (az.out _))));clear ai ae K;have J:Hid ((eV L m).1=0/\dE L (b.kids.drop i)=dE L (b.kids.drop (i+1))):=cb (by
     by_cases B:(eV L m).1=0
     ·exact⟨B,by rw[j.out,if_pos B]⟩
     ·exact absurd (by have:=aa.out;rw[A.out,j.out,if_neg B]at this;exact this) B)
    have B:=J.out.1;clear j;go_wp2_with fail
    go_roundw
    case rel=>exact⟨i+1,by omega,by go_num,av.out,by rw[A.out,J.out.2];exact rfl⟩
    case measure=>simp[intOf];omega
   ·have y:¬(m.key=f9\/m.key=f7\/m.key=f8\/m.key=gi):=fun h=>by
     have n:eO L m=(4,(m.at':Int)):=by unfold eO;rw[if_pos h]
     have:=aa.out;rw[A.out,j.out,n,if_neg (by simp)]at this;simp at this
    have q1:(m.key==[105,115,115])=false:=JJ.2 (fun e=>y (.inl e));have q2:(m.key==[97,117,100])=false:=JJ.2 l;have q3:(m.key==[105,97,116])=false:=JJ.2 (fun e=>y (.inr (.inl e)));have q4:(m.key==[110,98,102])=false:=JJ.2 (fun e=>y (.inr (.inr (.inl e))));have q5:(m.key==[101,120,112])=false:=JJ.2 (fun e=>y (.inr (.inr (.inr e))));have J:Hid (dE L (b.kids.drop i)=dE L (b.kids.drop (i+1))):=cb (by
     have n:eO L m=(0,0):=by unfold eO;rw[if_neg y,if_neg l]
     rw[j.out,n,if_pos rfl])
    clear j y l;go_wp2_with fail
    go_roundw
    case rel=>exact⟨i+1,by omega,by go_num,K.out _,by rw[A.out,J.out];exact rfl⟩
    case measure=>simp[intOf];omega
  ·have k1:¬(i:Int)<(b.kids.length:Int):=by omega
   have au:=cb (O.out.below d);have k:Hid (Below w.heap.size w wr):=cb (Q.out.trans (d.mono (by have:=Q.out.size;omega)));have HM:=cb (EL (.slice (some ⟨g,0,none⟩) L.length al) L wr au.out HW.out 0 b ay.out eh);have aR:=cb d;clear A d O Q an;go_wp2_with fail
   refine HM.out.mono ?_;rintro r R ⟨rfl,C⟩;rw[C];clear C R HM;by_cases Y:fd L eh b.kids<0
   ·obtain rfl:=ap.out Y
    go_wp2_with fail
    go_ret3
    exact⟨rfl,k.out⟩
   go_wp2_with fail
   refine(ah.out wr).mono ?_;rintro r R ⟨⟨bq,rfl,D⟩,C⟩;rw[C];clear C R ah;cases bq with
   | false=>
     have hU:Lib.validD f=false:=by
      cases hv:Lib.validD f with
      | false=>rfl
      | true=>exact absurd (D.2 ((kE f).1 hv)) (by decide)
     obtain rfl:=aq.out Y hU;clear D hU;go_wp2_with fail
     go_ret3
     exact⟨rfl,k.out⟩
   | true=>
     obtain⟨rfl,hr⟩:=ar.out Y ((kE f).2 (D.1 rfl));have aA:=cb hr;clear D hr;by_cases r1:a<0
     ·go_wp2_with fail
      go_ret3
      exact⟨rfl,k.out⟩
     by_cases r2:ttl<1
     ·go_wp2_with fail
      go_ret3
      exact⟨rfl,k.out⟩
     by_cases r3:9007199254740991<a
     ·go_wp2_with fail
      go_ret3
      exact⟨rfl,k.out⟩
     have r4:9007199254740991-a<ttl:=by have:=aA.out;omega
     go_wp2_with fail
     go_ret3
     exact⟨rfl,k.out⟩
theorem uf{a:Nat}{s:dv}{i d l f:Nat}{b:Value}{w:Wd}{B k n:Nat}{e:TypeId}{v:Value}{xs:rt}(h:RD a s i b d l f w)(j:w.ownsRow B e k v n xs)(o:e≠94):v.ownBlock≠some a:=fun m=>by
 obtain⟨_,_,p,g⟩:=cc j m;unfold RD at h;rw[g]at h;injection h with h;injection h with _ c;exact o c
theorem Gt{a g:Nat}{s:dv}{i d k f:Nat}{b:Value}{w:Wd}{l:Array Value}(h:RD a s i b d k f w)(j:w.heap[g]?=some (.cells l 83 (0,0))):a≠g:=fun e=>by
 subst e;unfold RD at h;rw[j]at h;injection h with h;injection h with _ c;exact absurd c (by decide)
theorem xb{B f:Nat}{v m:Value}{c:oa}{w w':Wd}{s:dv}{i t p n:Nat}(h:cr B 83 v c w)(k:RD f s i m t p n w)(u:ca f w w'):cr B 83 v c w':=by
 obtain⟨d,b⟩:=h;have b:NK B 83 v d c w:=b;refine⟨d,b.kept fun g a=>u.block g (b.own_lt a).2 (fun e=>?_)⟩;injection e with e;subst e;obtain⟨z,l,r,y⟩:=b;rcases a with a|⟨A,x,a⟩
 ·exact uf k l (by decide) a
 ·obtain⟨j,q,rfl⟩:=MR x
  have o:j<c.length:=by omega
  exact uf k (r j c[j] d[j] (JF o) (JF q)) (by decide) a
theorem Hw(B l:Nat)(bm:B<=l)(s:dv)(i:Nat)(q:sd)(cap:Nat)(C G D:Nat)(d:oa)(nd:Nd)(w:Wd)(h:RD l s i (.slice q d.length cap) C G D w)(hN:cr B 83 (.slice q d.length cap) d w)(hk:nd.kids=[])(hl:d.length<=900000000)(u:Nat)(F:u<d.length)(a5:∀n∈d,n.kids.length<=900000000):Calls prog 44 #[.pointer (some ⟨l,0,none⟩),.int .i64 (u:Int),iF nd] w fun r w'=>r=.returned (.int .i64 (d.length:Int))/\(∃v',RD l s i v' C G D w'/\cr B 83 v' (cR d (some u) d.length++[nd]) w')/\Below B w w':=by
 obtain⟨i0,aN,bf,bb,a4⟩:=Kf ui;have HI:Hid _:=aN;obtain⟨ak,k1,k2,k3,k4⟩:=hN;have bh:=h.lt;have hW:RD l s i (.slice q d.length cap) C G D (w.alloc (.cells #[.int .i64 (nd.kind:Int),.string ⟨nd.key.toArray⟩,.string ⟨nd.text.toArray⟩,.int .i64 nd.num,.slice none 0 0,.int .i64 (nd.at':Int)] 83)):=h.alloc _;obtain⟨c0,c1,Q,c3,c4,c5,Z⟩:=hW.cell;have f2:=Z 2;have aL:Hid _:=k1;have ac:Hid (w.ownsRow B 83 6 (.slice q d.length cap) d.length (dl d ak)):=k2;have aE:Hid _:=k3;have aD:Hid _:=k4;clear aN k1 k2 k3 k4;unfold iF;go_enter func44,ntmps44;go_upto_region 2 with fail
 go_cut [] (fun wx=>∃f p,RD l s i (.slice (some ⟨f,0,none⟩) (d.length+1) p) C G D wx/\cr B 83 (.slice (some ⟨f,0,none⟩) (d.length+1) p) (d++[nd]) wx/\Below B w wx)
 case first=>
  have L:∀k u,[Value.int .i64 (nd.kind:Int),.string ⟨nd.key.toArray⟩,.string ⟨nd.text.toArray⟩,.int .i64 nd.num,.slice none 0 0,.int .i64 (nd.at':Int)][k]?=some u->(w.alloc (.cells #[.int .i64 (nd.kind:Int),.string ⟨nd.key.toArray⟩,.string ⟨nd.text.toArray⟩,.int .i64 nd.num,.slice none 0 0,.int .i64 (nd.at':Int)] 83)).cell? ⟨w.heap.size,k,none⟩=some u:=by
   intro k u F;rw[JE _ _ k _ _ _ (JK w _)];simpa using F
  have b0:=L 0 _ rfl;have b1:=L 1 _ rfl;have b2:=L 2 _ rfl;have b3:=L 3 _ rfl;have b4:=L 4 _ rfl;have b5:=L 5 _ rfl;have ar:Below w.heap.size w (w.alloc (.cells #[.int .i64 (nd.kind:Int),.string ⟨nd.key.toArray⟩,.string ⟨nd.text.toArray⟩,.int .i64 nd.num,.slice none 0 0,.int .i64 (nd.at':Int)] 83)):=cK (cF w) _;have aS:(w.alloc (.cells #[.int .i64 (nd.kind:Int),.string ⟨nd.key.toArray⟩,.string ⟨nd.text.toArray⟩,.int .i64 nd.num,.slice none 0 0,.int .i64 (nd.at':Int)] 83)).heap.size=w.heap.size+1:=by simp
  clear L;generalize w.alloc (.cells #[.int .i64 (nd.kind:Int),.string ⟨nd.key.toArray⟩,.string ⟨nd.text.toArray⟩,.int .i64 nd.num,.slice none 0 0,.int .i64 (nd.at':Int)] 83)=m at *;have Y:Hid (Below w.heap.size w m):=ar;have V:Hid (m.heap.size=w.heap.size+1):=aS;have T:Hid (RD l s i (.slice q d.length cap) C G D m):=hW;have aX:Hid (m.ownsRow B 83 6 (.slice q d.length cap) d.length (dl d ak)):=ez ac.out (fun g _ z=>ar.block g z);clear ar aS hW c0 c1 c3 c4 c5 Z;have P:l<m.heap.size:=T.out.lt
  have ae:Hid (∀o,((m.alloc o).drew).ownsRow B 83 6 (.slice q d.length cap) d.length (dl d ak)):=fun o=>aX.out.alloc o
  have W:Hid (∀o,B<=((m.alloc o).drew).heap.size):=fun o=>by show _<=(m.alloc o).heap.size;simp;omega
  have ai:Hid (∀j u,(cz nd (.slice none 0 0))[j]?=some u->((m.alloc (.cells #[.int .i64 (nd.kind:Int),.string ⟨nd.key.toArray⟩,.string ⟨nd.text.toArray⟩,.int .i64 nd.num,.slice none 0 0,.int .i64 (nd.at':Int)] 83)).drew).cell? ((⟨m.heap.size,0,none⟩:Addr).add j)=some u):=by
   intro j u F;have aB:(⟨m.heap.size,0,none⟩:Addr).add j=⟨m.heap.size,j,none⟩:=by unfold Addr.add;split<;>simp_all
   rw[aB];show(m.alloc _).cell? _=_
   rw[JE _ _ j _ _ _ (JK m _)];simpa [cz]using F
  have X:Hid (d.length+1<=1000000000):=by show d.length+1<=1000000000;omega
  have aI:Hid (∀g c,(Value.slice q d.length cap).ownBlock=some g->g=c->B<=c/\c<w.heap.size):=by
   intro g c z hc;subst hc;rcases ac.out.2 with⟨e,_⟩|⟨g',bk,aC,e,hb,hh,_⟩
   ·rw[e]at z;simp[Value.ownBlock]at z
   ·rw[e]at z;simp[Value.ownBlock]at z;subst z;exact⟨hb,(go.1 hh).1⟩
  have K:Hid (some l≠(Value.slice q d.length cap).ownBlock/\some w.heap.size≠(Value.slice q d.length cap).ownBlock/\w.heap.size<m.heap.size):=by
   refine⟨fun e=>?_,fun e=>?_,by have:=V.out;omega⟩
   ·exact uf T.out aX.out (by decide) e.symm
   ·have:=aI.out w.heap.size _ e.symm rfl;omega
  have aW:∀o:Obj,(m.alloc o).cell? ⟨l,2,none⟩=some (.slice q d.length cap):=fun o=>(JN _ _ _ P).trans Q
  go_region_law ((refine xx rfl (.tmp 17) (.tmp 19) 77 rfl 83 i0 _ 6 80 underlying77 HI.out bf bb a4 rfl (by decide) B _ d.length (dl d ak) (cz nd (.slice none 0 0)) ⟨m.heap.size,0,none⟩ rfl rfl rfl (by intro u F;simp[cz]at F;rcases F with rfl|rfl|rfl|rfl|rfl|rfl<;>rfl) X.out (by omega) (by exact ae.out _) (by exact W.out _) (by exact ai.out) ?_;intro v6 A am aa;obtain⟨f,p,rfl⟩:=jL am;have I:=c6 aa P K.out.1;have t:=c6 aa K.out.2.2 K.out.2.1;have s2:=(I.2.1 2).trans Q;have bn:=(I.2.2 2).trans f2;have t0:=(t.2.1 0).trans b0;have t1:=(t.2.1 1).trans b1;have t2:=(t.2.1 2).trans b2;have t3:=(t.2.1 3).trans b3;have t4:=(t.2.1 4).trans b4;have t5:=(t.2.1 5).trans b5;have aq:Hid (RD l s i (.slice q d.length cap) C G D A):=I.1.trans T.out;clear I t;have W6:Hid _:=am;have N:Hid _:=aa;clear am aa))
  all_goals
   have R:=aq.out.setL (.slice (some ⟨f,0,none⟩) (d.length+1) p);have M:ca l A (A.setCell ⟨l,2,none⟩ (.slice (some ⟨f,0,none⟩) (d.length+1) p)):=ca.setCell (ce l A) _ aq.out;have ay:∀g,g<w.heap.size->some g≠(Value.slice q d.length cap).ownBlock->A.heap[g]?=w.heap[g]?:=fun g z au=>(c6 N.out (by have:=V.out;omega) au).1.trans (Y.out.block g z)
   have aj:cr B 83 (.slice (some ⟨f,0,none⟩) (d.length+1) p) (d++[nd]) (A.setCell ⟨l,2,none⟩ (.slice (some ⟨f,0,none⟩) (d.length+1) p)):=xb (cr.push aL.out ac.out aE.out aD.out W6.out ay (by decide) hk) aq.out M;have aP:Below B w (A.setCell ⟨l,2,none⟩ (.slice (some ⟨f,0,none⟩) (d.length+1) p)):=by
    refine⟨M.os.trans (N.out.os.trans Y.out.os),M.tape.trans (N.out.tape.trans Y.out.tape),M.output.trans (N.out.output.trans Y.out.output),?_,?_⟩
    ·have a1:=M.size
     have S:(m.alloc _).heap.size<=A.heap.size:=N.out.size;have a3:=V.out;simp at S;omega
    ·intro k br
     have S:(m.alloc _).heap.size<=A.heap.size:=N.out.size;refine(M.block k (by simp at S;omega) (fun e=>by injection e with e;omega)).trans (ay k (by omega) ?_);intro e;have:=aI.out k k e.symm rfl;omega
   have HF:Hid _:=And.intro R (And.intro aj aP);clear R M ay aj aP;go_wp2_with fail
   go_meet
   case rel=>exact⟨f,p,HF.out⟩
 case rest=>
  obtain⟨f,p,R,aj,aF⟩:=hcut;obtain⟨c0,c1,Q,c3,c4,c5,Z⟩:=R.cell;obtain⟨aO,q1,U,q3,q4⟩:=aj;have aR:u<(d++[nd]).length:=by simp;omega
  obtain⟨n,hn⟩:∃n,(d++[nd])[u]?=some n:=⟨_,JF aR⟩;obtain⟨kv,ah⟩:∃kv,aO[u]?=some kv:=⟨_,JF (by omega)⟩;have al:=q3 u n kv hn ah;obtain⟨y,x,a7⟩:∃y x,kv=.slice y n.kids.length x:=by
   rcases al.2 with⟨a,b⟩|⟨g,c,cu,a,_⟩
   ·exact⟨none,0,by rw[a,b]⟩
   ·exact⟨_,_,a⟩
  subst a7;have ao:wc.cell? ⟨f,u*6+4,none⟩=some (.slice y n.kids.length x):=by
   have:=U.cells (g:=f) rfl (u*6+4) _ (md _ _ u _ q1 ah);have aB:(⟨f,0,none⟩:Addr).add (u*6+4)=⟨f,u*6+4,none⟩:=by unfold Addr.add;split<;>simp_all
   rwa [aB]at this
  have aA:f<wc.heap.size/\B<=f:=by have:=cc U (g:=f) rfl;exact⟨this.2.1,this.1⟩
  have aK:wc.frozen? ⟨f,u*6+4,none⟩=false:=by
   obtain⟨_,_,aC,hc⟩:=cc U (g:=f) rfl;simp[World.frozen?,hc]
  have bi:Hid _:=q1;have ag:Hid (wc.ownsRow B 83 6 (.slice (some ⟨f,0,none⟩) (d.length+1) p) (d++[nd]).length (dl (d++[nd]) aO)):=U;have be:Hid _:=q3;have ba:Hid _:=q4;have HN:Hid _:=hn;have aY:Hid _:=ah;have ab:Hid (wc.ownsRow B 3 1 (.slice y n.kids.length x) n.kids.length (n.kids.map iV)):=al;have ax:Hid (RD l s i (.slice (some ⟨f,0,none⟩) (d.length+1) p) C G D wc):=R;have bc:Hid (Below B w wc):=aF;have aG:Hid (f<wc.heap.size):=aA.1;have bq:(u:Int)<(d.length:Int)+1:=by omega
  have bl:decide ((0:Int)<=(u:Int))=true:=by simp
  clear q1 U q3 q4 hn ah al aF aR aL ac aE aD h hk bh HI;obtain⟨i1,aH,bd,aZ,a9⟩:=Kf lv;have a6:Hid _:=aH;have P:l<wc.heap.size:=ax.out.lt;have aW:∀o:Obj,(wc.alloc o).cell? ⟨l,2,none⟩=some (.slice (some ⟨f,0,none⟩) (d.length+1) p):=fun o=>(JN _ _ _ P).trans Q
  have bj:∀o:Obj,(wc.alloc o).cell? ⟨f,u*6+4,none⟩=some (.slice y n.kids.length x):=fun o=>(JN _ _ _ aA.1).trans ao
  have ae:Hid (∀o,((wc.alloc o).drew).ownsRow B 3 1 (.slice y n.kids.length x) n.kids.length (n.kids.map iV)):=fun o=>ab.out.alloc o
  have W:Hid (∀o,B<=((wc.alloc o).drew).heap.size):=fun o=>by show _<=(wc.alloc o).heap.size;simp;omega
  have aM:Hid (∀o,((wc.alloc o).drew).heap.size=wc.heap.size+1):=fun o=>by show(wc.alloc o).heap.size=_;simp
  have ai:Hid (∀j v,[iV d.length][j]?=some v->((wc.alloc (.cells #[.int .i64 (d.length:Int)] 3)).drew).cell? ((⟨wc.heap.size,0,none⟩:Addr).add j)=some v):=fH wc (iV d.length) 3;have X:Hid (n.kids.length+1<=1000000000):=by
   show n.kids.length+1<=1000000000
   have a0:n∈d:=by
    have aU:=HN.out;rw[J4 F]at aU;exact JZ aU
   have:=a5 n a0;omega
  have K:Hid (some l≠(Value.slice y n.kids.length x).ownBlock/\some f≠(Value.slice y n.kids.length x).ownBlock):=by
   refine⟨fun e=>?_,fun e=>?_⟩
   ·exact uf ax.out ab.out (by decide) e.symm
   ·exact jN (by decide) ag.out ab.out (g:=f) rfl e.symm
  clear aH aA;go_wp2_with fail
  go_region_law ((refine yb rfl (.tmp 37) (.tmp 39) 32 rfl 3 i1 KT a6.out bd aZ a9 B _ n.kids.length (n.kids.map iV) d.length ⟨wc.heap.size,0,none⟩ (wc.heap.size+1) rfl rfl X.out (by exact ae.out _) (by exact W.out _) (by exact aM.out _) (by exact ai.out) ?_;intro H O E aV af aJ;have I:=c6 af P K.out.1;have t:=c6 af aG.out K.out.2;have s2:=(I.2.1 2).trans Q;have t0:=(t.2.1 (u*6+4)).trans ao;have t1:=(t.2.2 (u*6+4)).trans aK;have ap:Hid (RD l s i (.slice (some ⟨f,0,none⟩) (d.length+1) p) C G D E):=I.1.trans ax.out;clear I t;have W8:Hid (E.ownsRow B 3 1 (.slice (some ⟨H,0,none⟩) (n.kids.length+1) O) (n.kids.length+1) (n.kids.map iV++[iV d.length])):=aV;have J:Hid (((wc.alloc (.cells #[.int .i64 (d.length:Int)] 3)).drew).grownBy E (Value.slice y n.kids.length x).ownBlock):=af;have aT:Hid ((Value.slice y n.kids.length x).ownBlock=some H\/H=wc.heap.size+1):=aJ;clear aV af aJ))
  all_goals
   have an:=cr.kid bi.out ag.out be.out ba.out u d.length H O f n _ HN.out aY.out W8.out (fun g' a8 au=>(c6 J.out a8 au).1) (aT.out.elim .inl fun e=>.inr (by omega)) rfl (by decide);rw[pO d nd u _ F]at an;have aw:=(c6 J.out aG.out K.out.2).1;obtain⟨_,_,aC,az⟩:=cc ag.out (g:=f) rfl;have av:=JV E f (u*6+4) aC _ _ (.slice (some ⟨H,0,none⟩) (n.kids.length+1) O) (aw.trans az);have bg:B<=f:=(cc ag.out (g:=f) rfl).1;have h9:RD l s i (.slice (some ⟨f,0,none⟩) (d.length+1) p) C G D (E.setCell ⟨f,u*6+4,none⟩ (.slice (some ⟨H,0,none⟩) (n.kids.length+1) O)):=by
    rw[av];exact(Kg E f l _ (Gt ap.out (aw.trans az))).trans ap.out
   have aQ:Below B w (E.setCell ⟨f,u*6+4,none⟩ (.slice (some ⟨H,0,none⟩) (n.kids.length+1) O)):=by
    rw[av];refine KU (bc.out.trans ?_) (by omega) _;have S:(wc.alloc (.cells #[.int .i64 (d.length:Int)] 3)).heap.size<=E.heap.size:=J.out.size;refine⟨J.out.os,J.out.tape,J.out.output,by simp at S;omega,fun k hk=>(c6 J.out (by omega) (fun e=>?_)).1⟩;have:=(cc ab.out e.symm).1;omega
   have H9:Hid _:=And.intro h9 (And.intro an aQ);clear an aw az av bg h9 aQ s2 t0 t1 W8 J aT ap ae W aM ai X K aW bj ao aK c0 c1 Q c3 c4 c5 Z;generalize E.setCell ⟨f,u*6+4,none⟩ (.slice (some ⟨H,0,none⟩) (n.kids.length+1) O)=w9 at H9;go_wp2;go_ret;exact⟨rfl,⟨_,H9.out.1,H9.out.2.1⟩,H9.out.2.2⟩
theorem k8(B b:Nat)(p:B<=b)(s:dv)(i:Nat)(c:sd)(cap:Nat)(e f d:Nat)(a:oa)(nd:Nd)(kv:Value)(w:Wd)(h:RD b s i (.slice c a.length cap) e f d w)(k:cr B 83 (.slice c a.length cap) a w)(l:nd.kids=[])(o:a.length<=900000000)(t:0<a.length)(q:∀n∈a,n.kids.length<=900000000)(m:kv=iF nd):Calls prog 44 #[.pointer (some ⟨b,0,none⟩),.int .i64 0,kv] w fun r g=>r=.returned (.int .i64 (a.length:Int))/\(∃j,RD b s i j e f d g/\cr B 83 j (cR a (some 0) a.length++[nd]) g)/\Below B w g:=by
 subst m;exact Hw B b p s i c cap e f d a nd w h k l o 0 t q
theorem tz(s:dv)(j:dj)(a ttl:Int)(w:Wd)(hs:s.size<=140737488351232)(b:List (dj×JT))(f:Nat)(Q:cB s.data.toList=.ok (.obj b f))(hE:(dE (flat 0 [] (.obj b f)) (cq 1 b)).1=0)(hA:¬fd (flat 0 [] (.obj b f)) eh (cq 1 b)<0)(aV:j.length<=1048576)(hU:Lib.validD j=true)(hr:¬(a<0\/ttl<1\/9007199254740991-ttl<a))(F:dj)(hF:F=cQ (.obj (b++iC j a (a+ttl)) 0))(R1:dj)(R2:Int)(aW:F.length<=65536->R1=F/\R2=0)(aR:¬F.length<=65536->R1=[]/\R2=1):Calls prog 17 #[.string s,.string ⟨j.toArray⟩,.int .i64 a,.int .i64 ttl] w fun r w'=>r=.returned (.tuple #[.string ⟨R1.toArray⟩,.int .i64 R2,.int .i64 0])/\Below w.heap.size w w':=by
 have bx:=cb aW;have bE:=cb aR;clear aW aR;have t:(flat 0 [] (.obj b f))[0]?=some ⟨5,[],[],0,cq 1 b,f⟩:=by rw[flat];rfl
 have ah:=nw Q;have aO:=(ey Q).1;have a3:mB 65536 b:=by have:=ah.2.1;rw[fK]at this;exact this
 have bo:gA b<=1966080:=by have:=ah.1;rw[ep]at this;omega
 have aL:=Es b f j a (a+ttl) aO (by have:=ah.2.2;omega) aV ⟨by omega,by omega⟩ ⟨by omega,by omega⟩;have a9:=yH b f j a (a+ttl) a3 bo aV ⟨by omega,by omega⟩ ⟨by omega,by omega⟩;have bd:=wz b f j a (a+ttl);have ap:=BT b f j a (a+ttl) (1+cp b+3) (by rw[JT.size];omega);rw[show 1+cp b+3+1=(mkN (flat 0 [] (.obj b f)) j a (a+ttl)).length by omega,<-hF]at ap;have bh:=yJ (flat 0 [] (.obj b f)) (fun e=>by rw[e]at t;simp at t) j a (a+ttl);have N:=cb (And.intro aL (And.intro a9 ap));have aM:0<(mkN (flat 0 [] (.obj b f)) j a (a+ttl)).length/\(mkN (flat 0 [] (.obj b f)) j a (a+ttl)).length=(flat 0 [] (.obj b f)).length+4:=⟨by omega,by rw[bd,cJ,JT.size]⟩;clear ah a3 bo aL a9 bd ap hF aO;generalize mkN (flat 0 [] (.obj b f)) j a (a+ttl)=M at *;obtain⟨d,S⟩:∃d:Nd,d=⟨5,[],[],0,cq 1 b,f⟩:=⟨_,rfl⟩;have A:d.kind=5:=by rw[S]
 have hE:(dE (flat 0 [] (.obj b f)) d.kids).1=0:=by rw[S];exact hE
 have hA:¬fd (flat 0 [] (.obj b f)) eh d.kids<0:=by rw[S];exact hA
 rw[<-S]at t;clear S;have aC:=kC s w hs;simp only[Q]at aC;have HR:=cb aC;have bA:=(JG.1 t).1;have G:=(ey Q).1;have bX:=G.len;have a0:=G.kids 0 d t;have bW:=G.few 0 d t;clear aC Q;obtain⟨y,P⟩:∃x,x=cR (flat 0 [] (.obj b f)) (some 0) (flat 0 [] (.obj b f)).length++[⟨3,f9,j,0,[],0⟩]:=⟨_,rfl⟩;obtain⟨B,Z⟩:∃x,x=cR y (some 0) y.length++[⟨2,f7,[],a,[],0⟩]:=⟨_,rfl⟩;obtain⟨L3,aa⟩:∃x,x=cR B (some 0) B.length++[⟨2,f8,[],a,[],0⟩]:=⟨_,rfl⟩;have aS:=bh y B L3 P Z aa;have aA:∀n∈flat 0 [] (.obj b f),n.kids.length<=1000000:=fun n q=>by obtain⟨k,A⟩:=LT q;exact G.few k n A
 have az:∀n∈y,n.kids.length<=1000001:=by rw[P];exact lS _ 0 _ _ _ aA rfl
 have ao:∀n∈B,n.kids.length<=1000002:=by rw[Z];exact lS _ 0 _ _ _ az rfl
 have bn:∀n∈L3,n.kids.length<=1000003:=by rw[aa];exact lS _ 0 _ _ _ ao rfl
 have z1:y.length=(flat 0 [] (.obj b f)).length+1:=by rw[P,JH,dL];rfl
 have z2:B.length=y.length+1:=by rw[Z,JH,dL];rfl
 have z3:L3.length=B.length+1:=by rw[aa,JH,dL];rfl
 have R:=cb (And.intro aA (And.intro az (And.intro ao bn)));have O:=cb (And.intro P (And.intro Z (And.intro aa aS)));clear bh P Z aa aS aA az ao bn;have aD:=fun w1=>uQ ⟨j.toArray⟩ w1 (by show j.toArray.size<=_;simp;omega)
 have el:(⟨j.toArray⟩:dv).data.toList=j:=by simp
 rw[el]at aD;have be:=cb aD;have aN:=cb hA;clear hA aD el;have am:=cb hE;clear hE;generalize flat 0 [] (.obj b f)=L at *;have bQ:(0:Int)<(L.length:Int):=by omega
 go_enter func17,ntmps17;go_wp2_with fail
 refine HR.out.mono ?_;rintro r w1 ⟨⟨v,rfl,hx,aQ⟩,l⟩;have HB:=cb l;have aJ:=cb aQ;clear l HR aQ;obtain⟨ad,p,rfl⟩:=hx.shape;obtain⟨g,bZ,bF,rfl,_,bT,aT,d0,d1,d2,d3,I,d5⟩:=hx.node t;rw[Lk]at d0 I d5;rw[J3]at I d5;have HX:=cb hx;have HW:=cb G;have W:=cb t;have bm:=cb aT;have bj:=cb a0;clear hx G t aT a0 d1 d2 d3;rw[show((d.kind:Nat):Int)=5 by omega]at d0;clear d5 A;go_wp2_with fail
 have bH:=cb I;clear d0 I;go_loopw [14] (fun iv wr=>∃i:Nat,i<=d.kids.length/\iv=.int .i64 (i:Int)/\Below w1.heap.size w1 wr/\Hid (dE L d.kids=dE L (d.kids.drop i))) (fun iv _=>d.kids.length-(intOf iv).toNat)
 case atStart=>exact⟨0,by omega,rfl,JI _ _,rfl⟩
 case round=>
  obtain⟨i,hi,rfl,l,K⟩:=hrel;have aB:=cb l;have I:=dc l bH.out;by_cases bG:i<d.kids.length
  ·have k1:(i:Int)<(d.kids.length:Int):=by omega
   obtain⟨c,hc⟩:∃c,d.kids[i]?=some c:=⟨_,JF bG⟩;obtain⟨gk,rfl,aP⟩:=bm.out i c hc;have ck:=dc l aP;have bN:=bj.out c (JZ hc);obtain⟨m,hm⟩:∃m,L[c]?=some m:=⟨_,JF bN.2⟩;have ax:=kN L d.kids i c hc;rw[gw hm]at ax;have u:=cb ax;have ar:=HX.out.below l;obtain⟨g',bS,bY,eg,_,_,_,e0,C,e2,e3,e4,e5⟩:=ar.node hm;obtain rfl:g=g':=by injection eg with eg;injection eg
   have k2:(c:Int)<(L.length:Int):=by omega
   have bU:(c:Int)<=1000000:=by omega
   have n1:g<wr.heap.size:=JL wr _ e0;have n2:gk<wr.heap.size:=JL wr _ ck;have bP:∀o,(wr.alloc o).cell? ⟨g,4,none⟩=some (.slice (some ⟨gk,0,none⟩) d.kids.length bF):=fun o=>(JN _ _ _ n1).trans I
   have bR:∀o,(wr.alloc o).cell? ⟨gk,i,none⟩=some (.int .i64 (c:Int)):=fun o=>(JN _ _ _ n2).trans ck
   have bc:=cb (fun o=>nr (.slice (some ⟨g,0,none⟩) L.length p) L (wr.alloc o) (ar.below (dC (JI wr.heap.size wr) o)) HW.out c m hm);have al:=cb (fun o=>aB.out.trans ((dC (JI wr.heap.size wr) o).mono aB.out.size));have bv:=cb (fun o:Obj=>(show wr.heap.size<=(wr.alloc o).heap.size by simp));clear l hc aP hm ax ar eg;by_cases H:m.key=eh
   ·have D:eO L m=eV L m:=by unfold eO;rw[H];rw[if_neg (by decide),if_pos rfl]
    rw[H]at C;unfold eh at C;rw[D]at u;clear H D;go_wp2_with fail
    refine(bc.out _).mono ?_;rintro r w2 ⟨rfl,Y⟩;have bp:=cb ((al.out _).trans (Y.mono (Ki aB.out.size (bv.out _))));clear Y bc al;have af:Hid ((eV L m).1=0/\dE L (d.kids.drop i)=dE L (d.kids.drop (i+1))):=cb (by
     by_cases V:(eV L m).1=0
     ·exact⟨V,by rw[u.out,if_pos V]⟩
     ·exact absurd (by have:=am.out;rw[K.out,u.out,if_neg V]at this;exact this) V)
    have V:=af.out.1;clear u;go_wp2_with fail
    go_roundw
    case rel=>exact⟨i+1,by omega,by go_num,bp.out,by rw[K.out,af.out.2];exact rfl⟩
    case measure=>simp[intOf];omega
   ·have E:¬(m.key=f9\/m.key=f7\/m.key=f8\/m.key=gi):=fun h=>by
     have D:eO L m=(4,(m.at':Int)):=by unfold eO;rw[if_pos h]
     have:=am.out;rw[K.out,u.out,D,if_neg (by simp)]at this;simp at this
    have q1:(m.key==[105,115,115])=false:=JJ.2 (fun e=>E (.inl e));have q2:(m.key==[97,117,100])=false:=JJ.2 H;have q3:(m.key==[105,97,116])=false:=JJ.2 (fun e=>E (.inr (.inl e)));have q4:(m.key==[110,98,102])=false:=JJ.2 (fun e=>E (.inr (.inr (.inl e))));have q5:(m.key==[101,120,112])=false:=JJ.2 (fun e=>E (.inr (.inr (.inr e))));have af:Hid (dE L (d.kids.drop i)=dE L (d.kids.drop (i+1))):=cb (by
     have D:eO L m=(0,0):=by unfold eO;rw[if_neg E,if_neg H]
     rw[u.out,D,if_pos rfl])
    clear u E H;go_wp2_with fail
    go_roundw
    case rel=>exact⟨i+1,by omega,by go_num,al.out _,by rw[K.out,af.out];exact rfl⟩
    case measure=>simp[intOf];omega
  ·have k1:¬(i:Int)<(d.kids.length:Int):=by omega
   have a6:=cb (HX.out.below l);have aw:Hid (Below w.heap.size w wr):=cb (HB.out.trans (l.mono (by have:=HB.out.size;omega)));have HM:=cb (EL (.slice (some ⟨g,0,none⟩) L.length p) L wr a6.out HW.out 0 d W.out eh);have bB:=cb l;clear K l HX HB bm;go_wp2_with fail
   refine HM.out.mono ?_;rintro r w9 ⟨rfl,U⟩;rw[U];clear U w9 HM;have p2:=aN.out;go_wp2_with fail
   refine(be.out wr).mono ?_;rintro r w9 ⟨⟨bq,rfl,aI⟩,U⟩;rw[U];clear U w9 be;obtain rfl:bq=true:=aI.2 ((kE j).1 hU);clear aI;have r1:¬a<0:=by omega
   have r2:¬ttl<1:=by omega
   have r3:¬9007199254740991<a:=by omega
   have r4:¬9007199254740991-a<ttl:=by omega
   have J:Hid (cr (w.heap.size+1) 83 (.slice (some ⟨g,0,none⟩) L.length p) L wr):=aJ.out.kept fun k _ A=>bB.out.block k A
   clear aJ am bj hr aN;have bL:w.heap.size+1<=wr.heap.size:=AB J.out bA;go_wp2_with fail
   have au:Hid (RD wr.heap.size ⟨#[]⟩ 0 (.slice (some ⟨g,0,none⟩) L.length p) 0 0 0 (wr.alloc (.cells #[.string ⟨#[]⟩,.int .i64 0,.slice (some ⟨g,0,none⟩) L.length p,.int .i64 0,.int .i64 0,.int .i64 0] 94))):=JK _ _;have W:Hid (cr (w.heap.size+1) 83 (.slice (some ⟨g,0,none⟩) L.length p) L (wr.alloc (.cells #[.string ⟨#[]⟩,.int .i64 0,.slice (some ⟨g,0,none⟩) L.length p,.int .i64 0,.int .i64 0,.int .i64 0] 94))):=J.out.kept fun k _ A=>JO _ _ A
   have HZ:Hid (Below wr.heap.size wr (wr.alloc (.cells #[.string ⟨#[]⟩,.int .i64 0,.slice (some ⟨g,0,none⟩) L.length p,.int .i64 0,.int .i64 0,.int .i64 0] 94))):=cb (dC (JI _ _) _);clear J;generalize wr.alloc (.cells #[.string ⟨#[]⟩,.int .i64 0,.slice (some ⟨g,0,none⟩) L.length p,.int .i64 0,.int .i64 0,.int .i64 0] 94)=z at *;have ac:=bL;have aF:Hid (Below (w.heap.size+1) z z):=cb (JI _ _);obtain⟨bJ,bO⟩:∃x,x=some (⟨g,0,none⟩:Addr):=⟨_,rfl⟩;obtain⟨br,bK⟩:∃x,x=p:=⟨_,rfl⟩;rw[<-bO,<-bK]at au W;refine(k8 (w.heap.size+1) wr.heap.size ac ⟨#[]⟩ 0 bJ br 0 0 0 L ⟨3,f9,j,0,[],0⟩ (.agg #[.int .i64 3,.string ⟨#[105,115,115]⟩,.string ⟨j.toArray⟩,.int .i64 0,.slice none 0 0,.int .i64 0]) z au.out W.out rfl (by omega) (by omega) (fun n q=>by have:=R.out.1 n q;omega) rfl).mono ?_;rintro r x1 ⟨rfl,⟨v1,a5,aj⟩,bi⟩;rw[<-O.out.1]at aj;obtain⟨bI,bw,rfl⟩:=aj.shape;have aU:=cb a5;have J:=cb aj;have bf:Hid (Below (w.heap.size+1) z x1):=cb (aF.out.trans bi);clear a5 aj bi au W aF;go_wp2_with fail
   refine(k8 (w.heap.size+1) wr.heap.size ac ⟨#[]⟩ 0 bI bw 0 0 0 y ⟨2,f7,[],a,[],0⟩ (.agg #[.int .i64 2,.string ⟨#[105,97,116]⟩,.string ⟨#[]⟩,.int .i64 a,.slice none 0 0,.int .i64 0]) x1 aU.out J.out rfl (by omega) (by omega) (fun n q=>by have:=R.out.2.1 n q;omega) rfl).mono ?_;rintro r x2 ⟨rfl,⟨v2,aY,ak⟩,Y⟩;rw[<-O.out.2.1]at ak;obtain⟨bM,bs,rfl⟩:=ak.shape;have aE:=cb aY;have aX:=cb ak;have bb:Hid (Below (w.heap.size+1) z x2):=cb (bf.out.trans Y);clear aY ak Y aU J bf;go_wp2_with fail
   refine(k8 (w.heap.size+1) wr.heap.size ac ⟨#[]⟩ 0 bM bs 0 0 0 B ⟨2,f8,[],a,[],0⟩ (.agg #[.int .i64 2,.string ⟨#[110,98,102]⟩,.string ⟨#[]⟩,.int .i64 a,.slice none 0 0,.int .i64 0]) x2 aE.out aX.out rfl (by omega) (by omega) (fun n q=>by have:=R.out.2.2.1 n q;omega) rfl).mono ?_;rintro r x3 ⟨rfl,⟨v3,aH,ae⟩,aZ⟩;rw[<-O.out.2.2.1]at ae;obtain⟨bt,bC,rfl⟩:=ae.shape;have bl:=cb aH;have a7:=cb ae;have bg:Hid (Below (w.heap.size+1) z x3):=cb (bb.out.trans aZ);clear aH ae aZ aE aX bb;go_wp2_with fail
   refine(k8 (w.heap.size+1) wr.heap.size ac ⟨#[]⟩ 0 bt bC 0 0 0 L3 ⟨2,gi,[],a+ttl,[],0⟩ (.agg #[.int .i64 2,.string ⟨#[101,120,112]⟩,.string ⟨#[]⟩,.int .i64 (a+ttl),.slice none 0 0,.int .i64 0]) x3 bl.out a7.out rfl (by omega) (by omega) (fun n q=>by have:=R.out.2.2.2 n q;omega) rfl).mono ?_;rintro r x4 ⟨rfl,⟨v4,a1,ag⟩,ba⟩;rw[<-O.out.2.2.2]at ag;obtain⟨bD,bz,rfl⟩:=ag.shape;have aK:=cb a1;have an:=cb ag;have bk:Hid (Below (w.heap.size+1) z x4):=cb (bg.out.trans ba);clear a1 ag ba bl a7 bg;obtain⟨X,rfl⟩:∃X,bD=some ⟨X,0,none⟩:=by
    obtain⟨bV,_,k2,_⟩:=an.out;rcases k2.2 with⟨e,h0⟩|⟨X,c,cu,e,_⟩
    ·omega
    ·injection e with e _ _;exact⟨X,e⟩
   have c2:=aK.out.cell.2.2.1;have bu:=aM.1;clear aM z1 z2 z3;have ab:=cb (E7 (w.heap.size+1) X bz M N.out.1 N.out.2.1 M.length 0 bu (Nat.sub_le _ _) x4 an.out);rw[N.out.2.2]at ab;obtain⟨T,hT,a2⟩:∃T:dv,T=⟨F.toArray⟩/\T.size=F.length:=⟨_,rfl,by show F.toArray.size=F.length;simp⟩;rw[<-hT]at ab;have aG:=cb a2;clear a2;have ay:Hid (Below w.heap.size w x4):=cb ((aw.out.trans (HZ.out.mono (by have:=aw.out.size;omega))).trans (bk.out.mono (KG _)));clear aK an bk HZ R O aw a6;go_wp2_with fail
   refine ab.out.mono ?_;rintro r x5 ⟨rfl,a4⟩;have a8:Hid (Below w.heap.size w x5):=cb (ay.out.trans (a4.mono ay.out.size));have HT:=cb hT;clear a4 ab ay c2 hT;by_cases ai:F.length<=65536
   ·skip
    have k9:¬(65536:Int)<(T.size:Int):=by have:=aG.out;omega
    have av:=cb ai;clear N ai;go_wp2_with fail
    go_ret3
    refine⟨?_,a8.out⟩;obtain⟨C,e2⟩:=bx.out av.out;rw[C,e2,<-HT.out];rfl
   ·skip
    have k9:(65536:Int)<(T.size:Int):=by have:=aG.out;omega
    have av:=cb ai;clear N ai;go_wp2_with fail
    go_ret3
    refine⟨?_,a8.out⟩;obtain⟨C,e2⟩:=bE.out av.out;rw[C,e2];rfl
theorem Hj(s:dv)(b:dj)(a ttl:Int)(w:Wd)(g:9<=w.heap.size)(d:GV w)(G:Lib.TabBelow prog w.heap.size w "internal/strconv.uint64pow10" .u64 Lib.pow10Tab)(o:b.length<=1048576)(A: -9223372036854775808<=a)(y:a<=9223372036854775807)(z: -9223372036854775808<=ttl)(x:ttl<=9223372036854775807):Calls prog 39 #[.string s,.string ⟨b.toArray⟩,.int .i64 a,.int .i64 ttl] w fun r B=>r=.returned (.tuple #[.string ⟨(mkR s.data.toList b a ttl).1.toArray⟩,.int .i64 (mkR s.data.toList b a ttl).2.1,.int .i64 (mkR s.data.toList b a ttl).2.2])/\Below w.heap.size w B:=by
 unfold mkR;cases k:cB s.data.toList with
 | error q=>
   obtain⟨e,p⟩:=q;exact qS s b a ttl w g d e p ((BJ s w g d e p k).mono fun r B h=>⟨h.1,h.2.1,by have:=h.2.2;omega⟩)
 | ok t=>
   obtain⟨c,J,H,_⟩:=mU 0 [] t;have m:(flat 0 [] t)[0]?=some c:=by rw[H];rfl
   dsimp only;unfold Ff;rw[gw m];by_cases f:c.kind=5
   ·rw[if_pos f]
    by_cases j:(dE (flat 0 [] t) c.kids).1=0
    ·rw[if_pos j]
     by_cases l:fd (flat 0 [] t) eh c.kids<0
     ·rw[if_pos l];exact lJ s b a ttl w g d t k c m f j o A y z x 7 (fun _=>rfl) (fun h=>absurd l h) (fun h=>absurd l h)
     ·rw[if_neg l]
      cases u:Lib.validD b with
      | false=>rw[if_pos rfl];exact lJ s b a ttl w g d t k c m f j o A y z x 2 (fun h=>absurd h l) (fun _ _=>rfl) (fun _ h=>by rw[u]at h;cases h)
      | true=>
        rw[if_neg (by decide)];by_cases n:a<0\/ttl<1\/9007199254740991-ttl<a
        ·rw[if_pos n];exact lJ s b a ttl w g d t k c m f j o A y z x 3 (fun h=>absurd h l) (fun _ h=>by rw[u]at h;cases h) (fun _ _=>⟨rfl,n⟩)
        ·rw[if_neg n]
         have v:=gw m;have C:(e8 (flat 0 [] t) 0).kind=5:=by rw[v];exact f
         have D:(dE (flat 0 [] t) (e8 (flat 0 [] t) 0).kids).1=0:=by rw[v];exact j
         have F:¬fd (flat 0 [] t) eh (e8 (flat 0 [] t) 0).kids<0:=by rw[v];exact l
         obtain⟨pre,E⟩:∃pre,cQ t=pre++[125]:=by
          obtain⟨I,i,rfl,_⟩:=pt C D F;exact DJ I i
         exact A6 s b a ttl w g d t k c m f j l o u n G pre E _ (yY k C D F b u a ttl n pre E)
    ·rw[if_neg j];exact yl s b a ttl w g d t k c m f j
   ·rw[if_neg f]
    exact qS s b a ttl w g d 6 c.at' ((yU s w g d t k c m f).mono fun r B h=>⟨h.1,h.2,by decide⟩)
theorem Hv(s:dv)(b:dj)(a ttl:Int)(w:Wd)(j:s.size<=140737488351232)(n:b.length<=1048576)(A: -9223372036854775808<=a)(B:a<=9223372036854775807)(z: -9223372036854775808<=ttl)(y:ttl<=9223372036854775807):Calls prog 17 #[.string s,.string ⟨b.toArray⟩,.int .i64 a,.int .i64 ttl] w fun r E=>r=.returned (.tuple #[.string ⟨(mkR s.data.toList b a ttl).1.toArray⟩,.int .i64 (mkR s.data.toList b a ttl).2.1,.int .i64 (mkR s.data.toList b a ttl).2.2])/\Below w.heap.size w E:=by
 unfold mkR;cases k:cB s.data.toList with
 | error q=>
   obtain⟨e,p⟩:=q;exact yL s b a ttl w j e p k
 | ok t=>
   obtain⟨f,F,C,_⟩:=mU 0 [] t;have g:(flat 0 [] t)[0]?=some f:=by rw[C];rfl
   dsimp only;unfold Ff;rw[gw g];by_cases l:f.kind=5
   ·rw[if_pos l]
    by_cases c:(dE (flat 0 [] t) f.kids).1=0
    ·rw[if_pos c]
     by_cases d:fd (flat 0 [] t) eh f.kids<0
     ·rw[if_pos d];exact lH s b a ttl w j t k f g l c n A B z y 7 (fun _=>rfl) (fun h=>absurd d h) (fun h=>absurd d h)
     ·rw[if_neg d]
      cases v:Lib.validD b with
      | false=>rw[if_pos rfl];exact lH s b a ttl w j t k f g l c n A B z y 2 (fun h=>absurd h d) (fun _ _=>rfl) (fun _ h=>by rw[v]at h;cases h)
      | true=>
        rw[if_neg (by decide)];by_cases m:a<0\/ttl<1\/9007199254740991-ttl<a
        ·rw[if_pos m];exact lH s b a ttl w j t k f g l c n A B z y 3 (fun h=>absurd h d) (fun _ h=>by rw[v]at h;cases h) (fun _ _=>⟨rfl,m⟩)
        ·rw[if_neg m]
         have x:=gw g;obtain⟨o,i,rfl,_⟩:=pt (t:=t) (by rw[x];exact l) (by rw[x];exact c) (by rw[x];exact d);have D:f=⟨5,[],[],0,cq 1 o,i⟩:=by rw[flat]at g;simpa using g.symm
         rw[D]at c d;unfold D0;dsimp only;by_cases u:(cQ (.obj (o++iC b a (a+ttl)) 0)).length<=65536
         ·rw[if_pos u]
          exact tz s b a ttl w j o i k c d n v m _ rfl _ 0 (fun _=>⟨rfl,rfl⟩) (fun h=>absurd u h)
         ·rw[if_neg u]
          exact tz s b a ttl w j o i k c d n v m _ rfl [] 1 (fun h=>absurd h u) (fun _=>⟨rfl,rfl⟩)
    ·rw[if_neg c];exact yo s b a ttl w j t k f g l c
   ·rw[if_neg l];exact wI s b a ttl w j t k f g l
end Go.Proofs.YtihboehpeehlmaaGreatDoor
