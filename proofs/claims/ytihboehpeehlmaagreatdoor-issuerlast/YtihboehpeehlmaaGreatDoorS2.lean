import Derived.Test.YtihboehpeehlmaaGreatDoorX5
import Derived.Test.YtihboehpeehlmaaGreatDoorM1
import Derived.Test.YtihboehpeehlmaaGreatDoorShelfV
set_option maxHeartbeats 4000000
set_option maxRecDepth 4000
set_option linter.unusedVariables false
set_option linter.unusedSimpArgs false
namespace Go.Proofs.YtihboehpeehlmaaGreatDoor
open Tryz Go.RowKit
def iR(n:Nd)(adk:sd)(capk:Nat):Value:=.agg #[.int .i64 (n.kind:Int),.string ⟨n.key.toArray⟩,.string ⟨n.text.toArray⟩,.int .i64 n.num,.slice adk n.kids.length capk,.int .i64 (n.at':Int)]
def KC(w:Wd)(adk:sd)(kids:hH):Prop:=∀j c:Nat,kids[j]?=some c->∃gk,adk=some ⟨gk,0,none⟩/\w.cell? ⟨gk,j,none⟩=some (.int .i64 (c:Int))
theorem KC.below{w w':Wd}{a:sd}{b:hH}(h:KC w a b)(e:Below w.heap.size w w'):KC w' a b:=fun j c f=>by
 obtain⟨i,d,g⟩:=h j c f;exact⟨i,d,dc e g⟩
def CB(w:Wd)(g:Nat):Prop:=∃cur e,w.heap[g]?=some (.cells cur e (0,0))
def Jl(B:Nat)(w:Wd)(y:Value):Prop:=∃ay cy ly,y=.slice ay ly cy/\∀g o sp,ay=some ⟨g,o,sp⟩->B<=g/\CB w g
def mC(L:oa)(kids:hH):List ByteArray:=kids.map fun c=>⟨(e8 L c).text.toArray⟩
theorem A7(d:sd)(cap:Nat)(L:oa)(w:Wd)(hx:RR 150 (.slice d L.length cap) L w)(aG:L.length<=1000000)(n:Nd)(f:sd)(k:Nat)(am:KC w f n.kids)(ae:∀c∈n.kids,c<L.length)(aD:n.kids.length<=1000000):Calls prog 101 #[.agg #[.slice d L.length cap],iR n f k] w fun r F=>(∃y,r=.returned (.tuple #[y,.int .i64 (eV L n).1,.int .i64 (eV L n).2])/\((eV L n).1=0->SR F y (vi L n))/\Jl w.heap.size F y)/\Below w.heap.size w F:=by
 unfold iR;obtain⟨i0,ab,ac,aw,af⟩:=uO El;have HI:=cb ab;have HX:=cb hx;have ax:=cb am;have au:=cb ae;by_cases a:n.kind=3
 ·have e:eV L n=(0,0):=by unfold eV;rw[if_pos a]
  have I:vi L n=[⟨n.text.toArray⟩]:=by unfold vi;rw[if_pos a]
  rw[e,I,a];go_enter func101,ntmps101;go_wp2;go_ret3
  refine⟨⟨_,rfl,fun _=>⟨_,_,rfl,fun h=>(by cases h),fun j z H=>?_⟩,⟨_,_,_,rfl,fun g o s h=>by injection h with h;injection h with v h2;exact⟨by omega,_,_,by rw[<-v,<-show((w.alloc (.cells #[.slice d L.length cap] 118)).alloc (.cells #[.int .i64 3,.string ⟨n.key.toArray⟩,.string ⟨n.text.toArray⟩,.int .i64 n.num,.slice f n.kids.length k,.int .i64 (n.at':Int)] 150)).heap.size=w.heap.size+1+1 by simp];exact JK _ _⟩⟩⟩,dC (dC (dC (JI _ _) _) _) _⟩;match j with
  | 0=>
    simp at H;subst H;refine⟨_,_,rfl,?_⟩;have:=rU ((w.alloc (.cells #[.slice d L.length cap] 118)).alloc (.cells #[.int .i64 3,.string ⟨n.key.toArray⟩,.string ⟨n.text.toArray⟩,.int .i64 n.num,.slice f n.kids.length k,.int .i64 (n.at':Int)] 150)) (.string ⟨n.text.toArray⟩) 9 0 _ rfl;simpa [Addr.add]using this
  | j+1=>simp at H
 ·have k3:((n.kind:Int)==3)=false:=by simp;omega
  by_cases q:n.kind=4/\n.kids≠[]
  ·have e:eV L n=mI L n.kids:=by unfold eV;rw[if_neg a,if_pos q]
   have I:vi L n=mC L n.kids:=by unfold vi mC;rw[if_neg a]
   have ap:((n.kind:Nat):Int)=4:=by omega
   rw[e,I,ap];have k5:((n.kids.length:Int)==0)=false:=by have:=q.2;simp[this]
   go_enter func101,ntmps101;go_wp2
   have K:=dC (dC (JI w.heap.size w) (.cells #[.slice d L.length cap] 118)) (.cells #[.int .i64 4,.string ⟨n.key.toArray⟩,.string ⟨n.text.toArray⟩,.int .i64 n.num,.slice f n.kids.length k,.int .i64 (n.at':Int)] 150);have b0:((w.alloc (.cells #[.slice d L.length cap] 118)).alloc (.cells #[.int .i64 4,.string ⟨n.key.toArray⟩,.string ⟨n.text.toArray⟩,.int .i64 n.num,.slice f n.kids.length k,.int .i64 (n.at':Int)] 150)).cell? ⟨w.heap.size,0,none⟩=some (.slice d L.length cap):=by
    rw[JN _ _ _ (by simp)];simp
   have ai:((w.alloc (.cells #[.slice d L.length cap] 118)).alloc (.cells #[.int .i64 4,.string ⟨n.key.toArray⟩,.string ⟨n.text.toArray⟩,.int .i64 n.num,.slice f n.kids.length k,.int .i64 (n.at':Int)] 150)).heap.size=w.heap.size+2:=by simp
   have HB:=cb K;have X:=cb b0;have O:=cb ai;have U:=cb (HX.out.below K);have ak:=cb (ax.out.below K);generalize (w.alloc (.cells #[.slice d L.length cap] 118)).alloc (.cells #[.int .i64 4,.string ⟨n.key.toArray⟩,.string ⟨n.text.toArray⟩,.int .i64 n.num,.slice f n.kids.length k,.int .i64 (n.at':Int)] 150)=W at *;go_loopw [7,30] (fun tv M wr=>∃i:Nat,i<=n.kids.length/\M=.int .i64 (i:Int)/\Hid (mI L n.kids=mI L (n.kids.drop i))/\wr.ownsRow (w.heap.size+2) 9 1 tv (mC L (n.kids.take i)).length ((mC L (n.kids.take i)).map Value.string)/\Below (w.heap.size+2) W wr) (fun _ M _=>n.kids.length-(intOf M).toNat)
   case atStart=>exact⟨0,by omega,rfl,rfl,Le _ _ _ _,JI _ _⟩
   case round=>
    obtain⟨i,hi,rfl,x,l,t⟩:=hrel;have E:=HB.out.trans (t.mono (by omega));have p:Below W.heap.size W wr:=by rw[O.out];exact t
    have c0:=dc p X.out;by_cases ah:i<n.kids.length
    ·have k1:(i:Int)<(n.kids.length:Int):=by omega
     obtain⟨c,A⟩:∃c,n.kids[i]?=some c:=⟨_,JF ah⟩;obtain⟨gk,rfl,aj⟩:=ak.out i c A;have ck:=dc p aj;have aq:=au.out c (JZ A);obtain⟨m,C⟩:∃m,L[c]?=some m:=⟨_,JF aq⟩;obtain⟨g,_,_,rfl,_⟩:=U.out.node C;obtain⟨an,aE,ao,az,Z⟩:=U.out.cs C;have d0:=dc p an;have d2:=dc p ao;have d5:=dc p Z
     have u:=qy L n.kids i c A;have ht:mC L (n.kids.take (i+1))=mC L (n.kids.take i)++[⟨m.text.toArray⟩]:=by
      unfold mC;rw[Lf,A];simp[gw C]
     rw[gw C]at u;by_cases R:m.kind=3
     ·rw[if_pos R]at u
      have B:=cb u;have HT:=cb ht;have N:=cb l;have al:=cb t;have aB:=t.size;have Y:w.heap.size+2<=wr.heap.size:=by have:=O.out;omega
      have aa:(mC L (n.kids.take i)).length<=8796093022208:=by unfold mC;rw[Kq,J6];omega
      rw[show((m.kind:Nat):Int)=3 by omega]at d0;go_wp2_with (at_builtin;go_must (refine yA rfl (.tmp 47) (.tmp 54) 103 rfl 9 i0 underlying103 HI.out ac aw af (w.heap.size+2) u7 (mC L (n.kids.take i)) ⟨m.text.toArray⟩ wr rfl N.out Y aa rfl ?_;intro y w4 G S;rw[<-HT.out]at G;have ag:=cb G;have av:=cb (al.out.trans S);clear G S))
      go_roundw
      case rel=>exact⟨i+1,by omega,by go_num,by rw[x.out,B.out];exact rfl,ag.out,av.out⟩
      case measure=>simp[intOf];omega
     ·rw[if_neg R]at u
      have B:=cb u;have J:=cb E
      go_wp2
      go_quiet (fail);go_wp2
      go_ret3
      refine⟨⟨_,by rw[x.out,B.out];rfl,fun h=>?_,⟨_,_,_,rfl,fun g o s h=>by cases h⟩⟩,qH J.out _⟩;rw[x.out,B.out]at h;simp at h
    ·have k1:¬(i:Int)<(n.kids.length:Int):=by omega
     rw[Kd (by omega)]at l;have N:=cb l;have J:=cb E;obtain⟨T,cy,b⟩:=(SR.of l).shape;have V:∀g o s,T=some ⟨g,o,s⟩->w.heap.size<=g/\CB wr g:=fun g o s h=>by
      rcases l.2 with⟨v,_⟩|⟨g',c',cu,v,h2,a,_⟩
      ·rw[v]at b;injection b with b;rw[<-b]at h;cases h
      ·rw[v]at b;injection b with b;rw[<-b]at h;injection h with h;injection h with h;subst h;exact⟨by omega,_,_,a⟩
     have HY:=cb b;have ar:=cb V;clear l t E p b V;go_wp2;go_ret3
     refine⟨⟨_,?_,fun h=>SR.of N.out,⟨T,cy,_,HY.out,ar.out⟩⟩,J.out⟩;rw[x.out,J8 (by omega)];rfl
  ·have e:eV L n=(6,(n.at':Int)):=by unfold eV;rw[if_neg a,if_neg q]
   rw[e];by_cases D:n.kind=4
   ·have P:n.kids=[]:=by
     by_cases h:n.kids=[]
     ·exact h
     ·exact absurd ⟨D,h⟩ q
    have Q:n.kids.length=0:=by rw[P];rfl
    rw[D,Q];clear e a k3 q D P Q;go_enter func101,ntmps101;go_wp2
    go_quiet (fail);go_wp2
    go_ret3
    exact⟨⟨_,rfl,fun h=>by simp at h,⟨_,_,_,rfl,fun g o s h=>by cases h⟩⟩,qH (dC (dC (JI _ _) _) _) _⟩
   ·have k4:((n.kind:Int)==4)=false:=by simp;omega
    clear e a q D;go_enter func101,ntmps101;go_wp2
    go_quiet (fail);go_wp2
    go_ret3
    exact⟨⟨_,rfl,fun h=>by simp at h,⟨_,_,_,rfl,fun g o s h=>by cases h⟩⟩,qH (dC (dC (JI _ _) _) _) _⟩
set_option linter.unusedSimpArgs false
def gz(L:oa)(name:dj)(ks:hH):Bool:=ks.any fun c=>(e8 L c).key==name
theorem xn(L:oa)(name:dj)(a:hH)(i:Nat)(c:Nat)(h:a[i]?=some c):gz L name (a.drop i)=((e8 L c).key==name||gz L name (a.drop (i+1))):=by
 obtain⟨b,rfl⟩:=JG.1 h;rw[Kc b];rfl
def kI(L:oa)(ks:hH)(names:List (dj)):Bool:=names.any fun z=>!gz L z ks
theorem yR(L:oa)(a:hH)(b:List (dj))(i:Nat)(z:dj)(h:b[i]?=some z):kI L a (b.drop i)=(!gz L z a||kI L a (b.drop (i+1))):=by
 obtain⟨c,rfl⟩:=JG.1 h;rw[Kc c];rfl
theorem Bj(L:oa)(name:dj)(a:hH):(fd L name a<0)↔gz L name a=false:=by
 induction a with
 | nil=>simp[fd,gz]
 | cons c a ih=>
   by_cases h:(e8 L c).key=name
   ·simp[fd,gz,h]
   ·have b:((e8 L c).key==name)=false:=by simp[h]
    have e:gz L name (c::a)=gz L name a:=by simp[gz,b]
    rw[e,<-ih];simp[fd,h]
def I9(b:Bool)(r:Ending):Prop:=∃q:Int,r=.returned (.int .i64 q)/\decide (0<=q)=b
theorem GE(b:sd)(cap:Nat)(L:oa)(p:L.length<=1000000)(w:Wd)(f:RR 150 (.slice b L.length cap) L w)(c:Nat)(h:c<L.length)(name:dj)(e a:Nat)(x:w.cell? ⟨e,0,none⟩=some (.slice b L.length cap))(s:w.cell? ⟨a,0,none⟩=some (.string ⟨name.toArray⟩)):Calls prog 105 #[.int .i64 (c:Int),.pointer (some ⟨e,0,none⟩),.pointer (some ⟨a,0,none⟩)] w fun r i=>
 r=.returned (.bool ((e8 L c).key==name))/\Below w.heap.size w i:=by
 obtain⟨m,d⟩:∃m,L[c]?=some m:=⟨_,JF h⟩;rw[gw d];obtain⟨g,z,k,rfl,_,q,n,t,u,y,o,j,v⟩:=f.node d
 go_enter func105,ntmps105;go_wp2
 go_quiet (fail);go_wp2
 go_ret;exact⟨rfl,qH (JI _ _) _⟩
theorem IL(g:sd)(cap:Nat)(L:oa)(D:L.length<=1000000)(w:Wd)(C:RR 150 (.slice g L.length cap) L w)(a:hH)(s:sd)(u:Nat)(v:KC w s a)(z:∀c∈a,c<L.length)(U:a.length<=1000000)(name:dj)(p h:Nat)(M:w.cell? ⟨p,0,none⟩=some (.slice g L.length cap))(G:w.cell? ⟨h,0,none⟩=some (.string ⟨name.toArray⟩)):Calls prog 132 #[.slice s a.length u,.func (.func 105) #[] #[.pointer (some ⟨p,0,none⟩),.pointer (some ⟨h,0,none⟩)]] w fun r A=>
 I9 (gz L name a) r/\Below w.heap.size w A:=by
 have y:=fun n (b:Below w.heap.size w n) c d=>GE g cap L D n (C.below b) c d name p h (dc b M) (dc b G)
 have O:=cb y;have K:=cb v;have H:=cb z;go_enter func132,ntmps132;go_wp2
 go_loopw [8] (fun m wr=>∃i:Nat,i<=a.length/\m=.int .i64 (i:Int)/\Below w.heap.size w wr/\Hid (gz L name a=gz L name (a.drop i))) (fun m _=>a.length-(intOf m).toNat)
 case atStart=>exact⟨0,by omega,rfl,JI _ _,rfl⟩
 case round=>
  obtain⟨i,R,rfl,b,j⟩:=hrel;have l:=cb b;by_cases I:i<a.length
  ·have x:(i:Int)<(a.length:Int):=by omega
   obtain⟨c,d⟩:∃c,a[i]?=some c:=⟨_,JF I⟩;obtain⟨S,rfl,J⟩:=K.out i c d;have T:=dc b J;have F:=H.out c (JZ d);have B:=xn L name a i c d;have P:=cb (O.out wr b c F);have o:=cb B;go_wp2_with fail
   refine P.out.mono ?_;rintro r n ⟨rfl,E⟩;have q:=cb (l.out.trans (E.mono l.out.size));by_cases k:((e8 L c).key==name)=true
   ·have e:gz L name a=true:=by rw[j.out,o.out,k];rfl
    have f:=cb e;go_wp2
    go_ret;exact⟨⟨i,rfl,by rw[f.out];simp⟩,q.out⟩
   ·have Q:((e8 L c).key==name)=false:=by simpa using k
    have t:gz L name (a.drop i)=gz L name (a.drop (i+1)):=by rw[o.out,Q];rfl
    have N:=cb t;clear t o k;go_wp2
    go_roundw
    case rel=>exact⟨i+1,by omega,by go_num,q.out,by rw[j.out,N.out];exact rfl⟩
    case measure=>simp[intOf];omega
  ·have x:¬(i:Int)<(a.length:Int):=by omega
   have e:gz L name a=false:=by rw[j.out,MG (by omega)];rfl
   have f:=cb e;clear e;go_wp2
   go_ret;exact⟨⟨-1,rfl,by rw[f.out];rfl⟩,l.out⟩
theorem Hf(e:sd)(cap:Nat)(L:oa)(l:L.length<=1000000)(w:Wd)(h:RR 150 (.slice e L.length cap) L w)(a:hH)(f:sd)(g:Nat)(i:KC w f a)(u:∀c∈a,c<L.length)(s:a.length<=1000000)(name:dj)(b d:Nat)(p:w.cell? ⟨b,0,none⟩=some (.slice e L.length cap))(n:w.cell? ⟨d,0,none⟩=some (.string ⟨name.toArray⟩)):Calls prog 104 #[.slice f a.length g,.func (.func 105) #[] #[.pointer (some ⟨b,0,none⟩),.pointer (some ⟨d,0,none⟩)]] w fun r v=>
 r=.returned (.bool (gz L name a))/\Below w.heap.size w v:=by
 have t:=cb (IL e cap L l w h a f g i u s name b d p n);go_enter func104,ntmps104;go_wp2_with fail
 refine t.out.mono ?_;rintro r x ⟨⟨q,rfl,o⟩,m⟩;have k:=cb m;have j:=cb o;go_wp2
 go_ret;exact⟨by rw[<-j.out];rfl,k.out⟩
theorem G9(m:sd)(cap:Nat)(L:oa)(d:nJ L)(a:Nd)(b:L[0]?=some a)(w:Wd)(h:RR 150 (.slice m L.length cap) L w)(name:dj)(f:Nat)(e:w.cell? ⟨f,0,none⟩=some (.slice m L.length cap)):Calls prog 103 #[.string ⟨name.toArray⟩,.pointer (some ⟨f,0,none⟩)] w fun r y=>
 r=.returned (.bool (!gz L name a.kids))/\Below w.heap.size w y:=by
 have C:=d.len;obtain⟨g,s,j,rfl,_,H,k,p,u,x,B,i,v⟩:=h.node b;have l:=Hf (some ⟨g,0,none⟩) cap L C (w.alloc (.cells #[.string ⟨name.toArray⟩] 9)) (h.below (dC (JI _ _) _)) a.kids s j (KC.below k (dC (JI _ _) _)) (fun c A=>(d.kids 0 a b c A).2) (d.few 0 a b) name f w.heap.size (dc (dC (JI _ _) _) e) (by simp);have q:=cb l;have G:=(JG.1 b).1
 have z:=JL w _ e;have D:g<w.heap.size:=JL w _ p;have I:∀o,(w.alloc o).cell? ⟨f,0,none⟩=some (.slice (some ⟨g,0,none⟩) L.length cap):=fun o=>(JN _ _ _ z).trans e
 have E:∀o,(w.alloc o).cell? ⟨g,4,none⟩=some (.slice s a.kids.length j):=fun o=>by
  have:=i;rw[Lk,J3]at this;exact(JN _ _ _ D).trans this
 clear h k b p u x B i v l d e;go_enter func103,ntmps103;go_wp2_with fail
 refine q.out.mono ?_;rintro r J ⟨rfl,n⟩;have t:=cb ((dC (JI w.heap.size w) _).trans (n.mono (by simp)));clear n q;go_wp2
 go_ret;exact⟨rfl,t.out⟩
def wH(l:dj):dv:=⟨l.toArray⟩
theorem H6(h:sd)(cap:Nat)(L:oa)(E:nJ L)(b:Nd)(B:L[0]?=some b)(w:Wd)(H:RR 150 (.slice h L.length cap) L w)(a:List (dj))(n:sd)(u:Nat)(I:SR w (.slice n a.length u) (a.map wH))(aa:a.length<=1000000)(k:Nat)(Q:w.cell? ⟨k,0,none⟩=some (.slice h L.length cap)):Calls prog 131 #[.slice n a.length u,.func (.func 103) #[] #[.pointer (some ⟨k,0,none⟩)]] w fun r F=>
 I9 (kI L b.kids a) r/\Below w.heap.size w F:=by
 have C:=fun q (c:Below w.heap.size w q) U=>G9 h cap L E b B q (H.below c) U k (dc c Q)
 have R:=cb C;have x:∀(i:Nat) z,a[i]?=some z->∃g j,n=some ⟨g,j,none⟩/\w.cell? ⟨g,j+i,none⟩=some (.string ⟨z.toArray⟩):=by
  intro i z e;obtain⟨X,Z,J,h0,O⟩:=I;injection J with y e2 e3;subst y;exact O i (wH z) (by rw[KM,e];rfl)
 have D:=cb x;go_enter func131,ntmps131;go_wp2
 go_loopw [8] (fun p wr=>∃i:Nat,i<=a.length/\p=.int .i64 (i:Int)/\Below w.heap.size w wr/\Hid (kI L b.kids a=kI L b.kids (a.drop i))) (fun p _=>a.length-(intOf p).toNat)
 case atStart=>exact⟨0,by omega,rfl,JI _ _,rfl⟩
 case round=>
  obtain⟨i,V,rfl,c,l⟩:=hrel;have o:=cb c;by_cases M:i<a.length
  ·have A:(i:Int)<(a.length:Int):=by omega
   obtain⟨z,e⟩:∃z,a[i]?=some z:=⟨_,JF M⟩;obtain⟨W,j,rfl,N⟩:=D.out i z e;have Y:=dc c N;have G:=yR L b.kids a i z e;have T:=cb (R.out wr c z);have s:=cb G;go_wp2_with fail
   refine T.out.mono ?_;rintro r q ⟨rfl,K⟩;have t:=cb (o.out.trans (K.mono o.out.size));by_cases m:gz L z b.kids=false
   ·have d:kI L b.kids a=true:=by rw[l.out,s.out,m];rfl
    have f:=cb d;go_wp2
    go_ret;exact⟨⟨i,rfl,by rw[f.out];simp⟩,t.out⟩
   ·have S:gz L z b.kids=true:=by simpa using m
    have v:kI L b.kids (a.drop i)=kI L b.kids (a.drop (i+1)):=by rw[s.out,S];rfl
    have P:=cb v;clear v s m;go_wp2
    go_roundw
    case rel=>exact⟨i+1,by omega,by go_num,t.out,by rw[l.out,P.out];exact rfl⟩
    case measure=>simp[intOf];omega
  ·have A:¬(i:Int)<(a.length:Int):=by omega
   have d:kI L b.kids a=false:=by rw[l.out,MG (by omega)];rfl
   have f:=cb d;clear d;go_wp2
   go_ret;exact⟨⟨-1,rfl,by rw[f.out];rfl⟩,o.out⟩
theorem G4(c:sd)(cap:Nat)(L:oa)(t:nJ L)(d:Nd)(n:L[0]?=some d)(w:Wd)(g:RR 150 (.slice c L.length cap) L w)(a:List (dj))(b:sd)(e:Nat)(i:SR w (.slice b a.length e) (a.map wH))(m:a.length<=1000000)(f:Nat)(p:w.cell? ⟨f,0,none⟩=some (.slice c L.length cap)):Calls prog 102 #[.slice b a.length e,.func (.func 103) #[] #[.pointer (some ⟨f,0,none⟩)]] w fun r h=>
 r=.returned (.bool (kI L d.kids a))/\Below w.heap.size w h:=by
 have s:=cb (H6 c cap L t d n w g a b e i m f p);go_enter func102,ntmps102;go_wp2_with fail
 refine s.out.mono ?_;rintro r u ⟨⟨q,rfl,o⟩,l⟩;have k:=cb l;have j:=cb o;go_wp2
 go_ret;exact⟨by rw[<-j.out];rfl,k.out⟩
theorem zz(b:sd)(cap:Nat)(L:oa)(m:nJ L)(d:Nd)(k:L[0]?=some d)(w:Wd)(f:RR 150 (.slice b L.length cap) L w)(a:List (dj))(c:sd)(e:Nat)(g:SR w (.slice c a.length e) (a.map wH))(j:a.length<=1000000):Calls prog 73 #[.agg #[.slice b L.length cap],.slice c a.length e] w fun r n=>
 r=.returned (.bool (kI L d.kids a))/\Below w.heap.size w n:=by
 have l:=cb (G4 b cap L m d k (w.alloc (.cells #[.slice b L.length cap] 118)) (f.below (dC (JI _ _) _)) a c e (g.below (dC (JI _ _) _)) j w.heap.size (by simp));go_enter func73,ntmps73;go_wp2_with fail
 refine l.out.mono ?_;rintro r o ⟨rfl,i⟩;have h:=cb ((dC (JI w.heap.size w) _).trans (i.mono (by simp)));go_wp2
 go_ret;exact⟨rfl,h.out⟩
theorem xA(n:Nd)(b:sd)(c:Nat)(v:Value)(w:Wd)(a:n.key=f9\/n.key=f7\/n.key=f8\/n.key=gi):Calls prog 72 #[.agg #[v],iR n b c] w fun r d=>r=.returned (.tuple #[.int .i64 4,.int .i64 (n.at':Int)])/\Below w.heap.size w d:=by
 have e:∀l,n.key=l->iR n b c=.agg #[.int .i64 (n.kind:Int),.string ⟨l.toArray⟩,.string ⟨n.text.toArray⟩,.int .i64 n.num,.slice b n.kids.length c,.int .i64 (n.at':Int)]:=fun l h=>by unfold iR;rw[h]
 rcases a with a|a|a|a;all_goals rw[e _ a]
 all_goals simp only[f9,f7,f8,gi]
 all_goals clear e a
 all_goals go_enter func72,ntmps72
 all_goals go_wp2_with fail
 all_goals go_quiet (fail)
 all_goals go_wp2
 all_goals go_ret2
 all_goals exact⟨rfl,qH (dC (dC (JI _ _) _) _) _⟩
theorem sG(n:Nd)(h:sd)(g:Nat)(v:Value)(w:Wd)(d:n.key≠f9)(b:n.key≠eh)(a:n.key≠f7)(c:n.key≠f8)(e:n.key≠gi):Calls prog 72 #[.agg #[v],iR n h g] w fun r f=>r=.returned (.tuple #[.int .i64 0,.int .i64 0])/\Below w.heap.size w f:=by
 have i:(n.key==[105,115,115])=false:=JJ.2 d;have j:(n.key==[97,117,100])=false:=JJ.2 b;have l:(n.key==[105,97,116])=false:=JJ.2 a;have m:(n.key==[110,98,102])=false:=JJ.2 c;have k:(n.key==[101,120,112])=false:=JJ.2 e;unfold iR;clear d b a c e;go_enter func72,ntmps72;go_wp2
 go_ret2
 exact⟨rfl,dC (dC (JI _ _) _) _⟩
theorem uL(f:sd)(cap:Nat)(L:oa)(w:Wd)(j:RR 150 (.slice f L.length cap) L w)(m:L.length<=1000000)(n:Nd)(b:sd)(d:Nat)(k:KC w b n.kids)(u:∀c∈n.kids,c<L.length)(s:n.kids.length<=1000000)(i:n.key=eh):Calls prog 72 #[.agg #[.slice f L.length cap],iR n b d] w fun r v=>r=.returned (.tuple #[.int .i64 (eV L n).1,.int .i64 (eV L n).2])/\Below w.heap.size w v:=by
 have t:=fun g (h:Below w.heap.size w g)=>A7 f cap L g (j.below h) m n b d (k.below h) u s
 have a:=cb t;unfold iR at a;have e:iR n b d=.agg #[.int .i64 (n.kind:Int),.string ⟨#[97,117,100]⟩,.string ⟨n.text.toArray⟩,.int .i64 n.num,.slice b n.kids.length d,.int .i64 (n.at':Int)]:=by unfold iR;rw[i];rfl
 rw[e];rw[i]at a;unfold eh at a;obtain⟨x,p⟩:∃q,eV L n=q:=⟨_,rfl⟩;rw[p]at a ⊢;go_enter func72,ntmps72;go_wp2_with fail
 refine(a.out _ (dC (dC (JI _ _) _) _)).mono ?_;rintro r g ⟨⟨y,rfl,_,A,B,z,rfl,_⟩,l⟩;have o:=cb ((dC (dC (JI w.heap.size w) _) _).trans (l.mono (by simp;omega)));go_wp2
 go_ret2
 exact⟨rfl,o.out⟩
theorem DU(f:sd)(cap:Nat)(L:oa)(w:Wd)(g:RR 150 (.slice f L.length cap) L w)(k:L.length<=1000000)(n:Nd)(a:sd)(b:Nat)(i:KC w a n.kids)(l:∀c∈n.kids,c<L.length)(j:n.kids.length<=1000000):Calls prog 72 #[.agg #[.slice f L.length cap],iR n a b] w fun r m=>r=.returned (.tuple #[.int .i64 (eO L n).1,.int .i64 (eO L n).2])/\Below w.heap.size w m:=by
 by_cases h:n.key=f9\/n.key=f7\/n.key=f8\/n.key=gi
 ·rw[show eO L n=(4,(n.at':Int))by unfold eO;rw[if_pos h]]
  exact xA n a b _ w h
 ·by_cases d:n.key=eh
  ·rw[show eO L n=eV L n by unfold eO;rw[if_neg h,if_pos d]]
   exact uL f cap L w g k n a b i l j d
  ·rw[show eO L n=(0,0)by unfold eO;rw[if_neg h,if_neg d]]
   exact sG n a b _ w (fun e=>h (.inl e)) d (fun e=>h (.inr (.inl e))) (fun e=>h (.inr (.inr (.inl e)))) (fun e=>h (.inr (.inr (.inr e))))
theorem um(q:sd)(cap:Nat)(L:oa)(b:nJ L)(w:Wd)(a:Nd)(j:L[0]?=some a)(x:RR 150 (.slice q L.length cap) L w):Calls prog 71 #[.agg #[.slice q L.length cap],.func (.func 72) #[.agg #[.slice q L.length cap]] #[]] w fun r Z=>
 r=.returned (.tuple #[.int .i64 (dE L a.kids).1,.int .i64 (dE L a.kids).2])/\Below w.heap.size w Z:=by
 have ab:=b.len;have P:=b.kids 0 a j;obtain⟨g,ai,S,rfl,_,ak,H,O,T,e2,e3,s,e5⟩:=x.node j;have af:g<w.heap.size:=JL w _ O;have an:=(JG.1 j).1
 rw[Lk,J3]at s;have U:∀o,(w.alloc o).cell? ⟨g,4,none⟩=some (.slice ai a.kids.length S):=fun o=>(JN _ _ _ af).trans s
 have HX:=cb x;have ag:=cb H;have ae:=cb P;have E:=cb b;clear x H P b j O T e2 e3 s e5;go_enter func71,ntmps71;go_wp2_with fail
 clear U;have B:=cb (dC (JI w.heap.size w) (.cells #[.slice (some ⟨g,0,none⟩) L.length cap] 118));have R:Hid ((w.alloc (.cells #[.slice (some ⟨g,0,none⟩) L.length cap] 118)).cell? ⟨w.heap.size,0,none⟩=some (.slice (some ⟨g,0,none⟩) L.length cap)):=cb (by simp);have A:Hid ((w.alloc (.cells #[.slice (some ⟨g,0,none⟩) L.length cap] 118)).heap.size=w.heap.size+1):=cb (by simp);generalize w.alloc (.cells #[.slice (some ⟨g,0,none⟩) L.length cap] 118)=W at *;go_loopw [16] (fun y wr=>∃(i:Nat),i<=a.kids.length/\y=.int .i64 (i:Int)/\Hid (dE L a.kids=dE L (a.kids.drop i))/\Below W.heap.size W wr) (fun y _=>a.kids.length-(intOf y).toNat)
 case atStart=>exact⟨0,by omega,rfl,rfl,JI _ _⟩
 case round=>
  obtain⟨i,hi,rfl,l,h⟩:=hrel;have f:=B.out.trans (h.mono (by have:=A.out;omega));have C:=cb h;have V:=cb f;have bx:wr.cell? ⟨w.heap.size,0,none⟩=some (.slice (some ⟨g,0,none⟩) L.length cap):=dc h R.out;by_cases Y:i<a.kids.length
  ·have k1:(i:Int)<(a.kids.length:Int):=by omega
   obtain⟨c,p⟩:∃c,a.kids[i]?=some c:=⟨_,JF Y⟩;obtain⟨X,rfl,G⟩:=ag.out i c p;have ac:=ae.out c (JZ p);obtain⟨m,k⟩:∃m,L[c]?=some m:=⟨_,JF ac.2⟩;have v:=HX.out.below f;obtain⟨Q,aa,ah,e,_,_,D,d0,d1,d2,d3,d4,d5⟩:=v.node k;obtain rfl:g=Q:=by injection e with e;injection e
   have ck:wr.cell? ⟨X,i,none⟩=some (.int .i64 (c:Int)):=dc f G;have k2:(c:Int)<(L.length:Int):=by omega
   have t:=kN L a.kids i c p;rw[gw k]at t;have I:=DU (some ⟨g,0,none⟩) cap L wr v ab m aa ah D (fun c' aj=>(E.out.kids c m k c' aj).2) (E.out.few c m k);have u:=cb I;unfold iR at u;have n:=cb t;clear p k v f I t e D G h;go_wp2_with fail
   refine u.out.mono ?_;rintro r w1 ⟨rfl,N⟩;have J:=cb (C.out.trans (N.mono C.out.size));clear N u;by_cases F:(eO L m).1=0
   ·have d:dE L (List.drop i a.kids)=dE L (List.drop (i+1) a.kids):=by rw[n.out,if_pos F]
    have z:=cb d;clear d n;go_wp2_with fail
    go_roundw
    case rel=>exact⟨i+1,by omega,by go_num,by rw[l.out,z.out];exact rfl,J.out⟩
    case measure=>simp[intOf];omega
   ·have d:dE L a.kids=eO L m:=by rw[l.out,n.out,if_neg F]
    have z:=cb d;clear d n;go_wp2_with fail
    go_ret2
    exact⟨by rw[z.out];rfl,B.out.trans (J.out.mono (by have:=A.out;omega))⟩
  ·have k1:¬(i:Int)<(a.kids.length:Int):=by omega
   have M:a.kids.drop i=[]:=MG (by omega);have K:=cb l.out;rw[M]at K;clear M l h f;go_wp2_with fail
   go_ret2
   exact⟨by rw[K.out];rfl,V.out⟩
theorem ny{w:Wd}{b g j:Nat}{u v:Value}(h:w.cell? ⟨g,j,none⟩=some v)(c:g≠b):(w.setCell ⟨b,0,none⟩ u).cell? ⟨g,j,none⟩=some v:=(K0 _ _ _ _ (by intro a;injection a;omega)).trans h
theorem RR.setO{x:TypeId}{v:Value}{L:oa}{w:Wd}{b:Nat}(h:RR x v L w)(K:0<L.length)(o:w.cell? ⟨b,0,none⟩=some (.slice none 0 0))(u:Value):RR x v L (w.setCell ⟨b,0,none⟩ u):=by
 refine⟨h.shape,fun k n H=>?_⟩;obtain⟨g,I,e,⟨O,y,J,p⟩,N,M,E,F,G,A,P⟩:=h.at' k n H;have d:g≠b:=by
  obtain⟨m,B⟩:∃m,L[0]?=some m:=⟨_,JF K⟩;obtain⟨Q,R,a,_,_,t,_⟩:=h.at' 0 m B;rw[e]at a;injection a with a _ _;injection a with a;injection a with a;intro l;rw[Lk,<-a,l,o]at t;cases t
 refine⟨g,I,e,⟨O,y,J,fun j c r=>?_⟩,N,ny M d,ny E d,ny F d,ny G d,ny A d,ny P d⟩;obtain⟨C,s,D⟩:=p j c r;refine⟨C,s,ny D ?_⟩;obtain⟨i,z⟩:∃i,n.kids[0]?=some i:=⟨_,JF (by have:=(JG.1 r).1;omega)⟩;obtain⟨S,f,q⟩:=p 0 i z;rw[s]at f;injection f with f;injection f with f;intro l;rw[<-f,l,o]at q;cases q
theorem ni(s:dv)(w:Wd)(j:9<=w.heap.size)(l:GV w):Calls prog 100 #[.string s] w fun r c=>(match cB s.data.toList with
 | .ok t=>∃v,r=.returned (.tuple #[v,.int .i64 0,.int .i64 0])/\RR 150 v (flat 0 [] t) c
 | .error (e,a)=>r=.returned (.tuple #[.slice none 0 0,.int .i64 (e:Int),.int .i64 (a:Int)])/\0<e)/\Below w.heap.size w c:=by
 refine(zK s w j l).mono ?_;rintro r c ⟨h,i⟩;refine⟨?_,i⟩;cases b:cB s.data.toList with
 | error q=>obtain⟨e,a⟩:=q;rw[b]at h;exact h
 | ok t=>
   rw[b]at h;obtain⟨v,kvs,e,d⟩:=h;obtain⟨g,_⟩:=ey b;exact⟨v,e,RR.of (kvs:=kvs) d (fun n m=>by obtain⟨k,f⟩:=LT m;have:=g.few k n f;omega)⟩
theorem BJ(s:dv)(w:Wd)(t:9<=w.heap.size)(j:GV w)(e a:Nat)(h:cB s.data.toList=.error (e,a)):Calls prog 70 #[.string s] w fun r m=>r=.returned (.tuple #[.agg #[.slice none 0 0],.int .i64 (e:Int),.int .i64 (a:Int)])/\Below w.heap.size w m/\0<e:=by
 have d:=ni s (w.alloc (.cells #[.slice none 0 0] 118)) (by simp;omega) (j.kept fun k o=>(dC (JI w.heap.size w) _).block k (by omega));simp only[h]at d;have i:=cb d;go_enter func70,ntmps70;go_wp2_with fail
 refine i.out.mono ?_;rintro r c ⟨⟨rfl,l⟩,b⟩;have f:c.cell? ⟨w.heap.size,0,none⟩=some (.slice none 0 0):=dc b (by simp);have q:∀k,c.frozen? ⟨w.heap.size,k,none⟩=false:=fun k=>(b.frozen (p:=⟨w.heap.size,k,none⟩) (by simp)).trans (by simp)
 have g:=cb ((dC (JI w.heap.size w) _).trans (b.mono (by simp)));go_wp2
 refine Ka (v:=.tuple #[.agg #[.slice none 0 0],.int .i64 (e:Int),.int .i64 (a:Int)]) (by simp[results,results70,go_sem,f]) rfl ⟨rfl,?_,l⟩;exact g.out.setCell (JQ _) _
theorem yU(s:dv)(w:Wd)(G:9<=w.heap.size)(n:GV w)(t:JT)(f:cB s.data.toList=.ok t)(a:Nd)(c:(flat 0 [] t)[0]?=some a)(q:a.kind≠5):Calls prog 70 #[.string s] w fun r j=>r=.returned (.tuple #[.agg #[.slice none 0 0],.int .i64 6,.int .i64 (a.at':Int)])/\Below w.heap.size w j:=by
 have i:=ni s (w.alloc (.cells #[.slice none 0 0] 118)) (by simp;omega) (n.kept fun k q=>(dC (JI w.heap.size w) _).block k (by omega));simp only[f]at i;have m:=cb i;have H:=(JG.1 c).1;generalize flat 0 [] t=L at *
 go_enter func70,ntmps70;go_wp2_with fail
 refine m.out.mono ?_;rintro r h ⟨⟨v,rfl,e⟩,b⟩;have l:h.cell? ⟨w.heap.size,0,none⟩=some (.slice none 0 0):=dc b (by simp);have y:∀k,h.frozen? ⟨w.heap.size,k,none⟩=false:=fun k=>(b.frozen (p:=⟨w.heap.size,k,none⟩) (by simp)).trans (by simp)
 have u:=cb ((dC (JI w.heap.size w) _).trans (b.mono (by simp)));obtain⟨E,I,rfl⟩:=e.shape;obtain⟨g,N,z,rfl,_,M,A,o,D,F,K,x,d⟩:=e.node c;rw[Lk]at o d;rw[J3]at d;go_wp2
 go_region
 all_goals go_wp2_with fail
 all_goals refine Ka (v:=.tuple #[.agg #[.slice none 0 0],.int .i64 6,.int .i64 (a.at':Int)]) (by simp[results,results70,go_sem,l]) rfl ⟨rfl,?_⟩
 all_goals exact(u.out.setCell (JQ _) _).drew
theorem rl(s:dv)(w:Wd)(J:9<=w.heap.size)(u:GV w)(t:JT)(h:cB s.data.toList=.ok t)(d:Nd)(c:(flat 0 [] t)[0]?=some d)(j:d.kind=5):Calls prog 70 #[.string s] w fun r e=>(∃v,r=.returned (.tuple #[.agg #[v],.int .i64 0,.int .i64 0])/\RR 150 v (flat 0 [] t) e)/\Below w.heap.size w e:=by
 have m:=ni s (w.alloc (.cells #[.slice none 0 0] 118)) (by simp;omega) (u.kept fun k j=>(dC (JI w.heap.size w) _).block k (by omega));simp only[h]at m;have q:=cb m;have n:=(JG.1 c).1;generalize flat 0 [] t=L at *
 go_enter func70,ntmps70;go_wp2_with fail
 refine q.out.mono ?_;rintro r l ⟨⟨v,rfl,b⟩,a⟩;have f:l.cell? ⟨w.heap.size,0,none⟩=some (.slice none 0 0):=dc a (by simp);have B:∀k,l.frozen? ⟨w.heap.size,k,none⟩=false:=fun k=>(a.frozen (p:=⟨w.heap.size,k,none⟩) (by simp)).trans (by simp)
 have y:=cb ((dC (JI w.heap.size w) _).trans (a.mono (by simp)));obtain⟨G,i,rfl⟩:=b.shape;obtain⟨g,O,C,rfl,_,N,D,x,F,I,M,A,H⟩:=b.node c;rw[Lk,j]at x;have o:=cb b;have z:=cb (o.out.setO n f (.slice (some ⟨g,0,none⟩) L.length i));go_wp2
 refine Ka (v:=.tuple #[.agg #[.slice (some ⟨g,0,none⟩) L.length i],.int .i64 0,.int .i64 0]) (by simp[results,results70,go_sem,f]) rfl ⟨⟨_,rfl,z.out⟩,?_⟩;exact y.out.setCell (JQ _) _
theorem Gc(s:dv)(h:s.size<=100000000)(w:Wd):Calls prog 107 #[.string s] w fun r n=>r=.returned (.string ⟨(dk s.data.toList).toArray⟩)/\Below w.heap.size w n:=by
 have l:WZ w.heap.size (.slice none 0 0) (.slice none 0 0) [] (w.alloc (.cells #[.slice none 0 0,.slice none 0 0] 190)):=⟨JK w _,⟨rfl,.inl ⟨rfl,rfl⟩⟩⟩;have e:=rA _ _ _ _ _ s h (by simp only[JY];omega) l;rw[Lj]at e;have i:=Lib.hid e;go_enter func107,ntmps107;go_wp2_with fail
 refine i.out.mono ?_;rintro r f ⟨rfl,x,c,a⟩;have o:=c.wd.cell.2.1;have u:=(fL.of rfl c.row).b.str (P:=prog) (t:=115) (d:=9) JU KY Kl;have j:Hid (Below w.heap.size w f):=by
  have g:=a.size;simp at g;refine⟨a.os,a.tape,a.output,by omega,fun k v=>?_⟩;rw[a.block k (by simp;omega) (by omega) (fun b=>by
   rcases b with b|⟨_,m,_⟩
   ·simp[Value.ownBlock]at b
   ·simp at m),JO _ _ (by omega)]
 obtain⟨q,p,rfl⟩:=c.shape;go_wp2;go_ret;exact⟨rfl,j.out⟩
theorem yN(pre:dj):Lib.trimSuffix (pre++[125]) [125]=pre:=by
 unfold Lib.trimSuffix Lib.hasSuffix;rw[if_pos (by simp[List.isSuffixOf_iff_suffix])];simp
theorem Hc(s:dv)(c:dj)(a ttl:Int)(w:Wd)(hg:9<=w.heap.size)(F:GV w)(f:Lib.TabBelow prog w.heap.size w "internal/strconv.uint64pow10" .u64 Lib.pow10Tab)(t:JT)(A:cB s.data.toList=.ok t)(pre:dj)(m:cQ t=pre++[125])(al:c.length<=1048576)(h0:0<=a)(h1:1<=ttl)(h2:a+ttl<=9007199254740991):Calls prog 74 #[.string s,.string ⟨c.toArray⟩,.int .i64 a,.int .i64 ttl] w fun r w'=>r=.returned (.tuple #[.string ⟨(prF (cB (pre++fT c a (a+ttl)++[125]))).1.toArray⟩,.int .i64 ((prF (cB (pre++fT c a (a+ttl)++[125]))).2.1:Int),.int .i64 ((prF (cB (pre++fT c a (a+ttl)++[125]))).2.2:Int)])/\Below w.heap.size w w':=by
 have u:=(qv A);have g:=uc s w hg F f;rw[A,kG,m]at g;have ah:pre.length<=65536:=by have h:=u.1;rw[m,JH,JM,JY]at h;have:=u.2.2.2;omega
 obtain⟨Y,q,am⟩:∃x:dv,x=⟨(pre++[125]).toArray⟩/\x.size=pre.length+1:=⟨_,rfl,by show(pre++[125]).toArray.size=_;simp⟩;obtain⟨P,o,ag⟩:∃x:dv,x=⟨pre.toArray⟩/\x.size=pre.length:=⟨_,rfl,by show pre.toArray.size=_;simp⟩;have B:=fun b=>strings_TrimSuffix Y ⟨#[125]⟩ b (by omega)
 have W:(⟨(Lib.trimSuffix Y.data.toList (⟨#[125]⟩:dv).data.toList).toArray⟩:dv)=P:=by rw[q,o];show(⟨(Lib.trimSuffix (pre++[125]) [125]).toArray⟩:dv)=_;rw[yN]
 rw[W]at B;have ak:=jz c;obtain⟨Q,n,ap⟩:∃x:dv,x=⟨(dk c).toArray⟩/\x.size=(dk c).length:=⟨_,rfl,by show(dk c).toArray.size=_;simp⟩;have E:=fun b=>Gc ⟨c.toArray⟩ (by show c.toArray.size<=_;simp;omega) b
 have L:(⟨c.toArray⟩:dv).data.toList=c:=by simp
 rw[L,<-n]at E;have aj:=kA a (by omega) (by omega);have an:=kA (a+ttl) (by omega) (by omega);obtain⟨i,j,ao⟩:∃x:dv,x=⟨(ew a).toArray⟩/\x.size=(ew a).length:=⟨_,rfl,by show(ew a).toArray.size=_;simp⟩;obtain⟨M,z,ai⟩:∃x:dv,x=⟨(ew (a+ttl)).toArray⟩/\x.size=(ew (a+ttl)).length:=⟨_,rfl,by show(ew (a+ttl)).toArray.size=_;simp⟩;have p:=fun b (d:Below w.heap.size w b)=>strconv_Itoa a (by omega) (by omega) b (f b d)
 have y:=fun b (d:Below w.heap.size w b)=>strconv_Itoa (a+ttl) (by omega) (by omega) b (f b d)
 rw[<-qU,<-j]at p;rw[<-qU,<-z]at y;have D:=fun b (d:Below w.heap.size w b)=>uc (P++⟨#[44,34,105,115,115,34,58]⟩++Q++⟨#[44,34,105,97,116,34,58]⟩++i++⟨#[44,34,110,98,102,34,58]⟩++i++⟨#[44,34,101,120,112,34,58]⟩++M++⟨#[125]⟩) b (by have:=d.size;omega) (F.kept fun k hk=>d.block k (by omega)) (fun e ad=>f e (d.trans (ad.mono d.size)))
 have ex:(P++⟨#[44,34,105,115,115,34,58]⟩++Q++⟨#[44,34,105,97,116,34,58]⟩++i++⟨#[44,34,110,98,102,34,58]⟩++i++⟨#[44,34,101,120,112,34,58]⟩++M++⟨#[125]⟩:dv).data.toList=pre++fT c a (a+ttl)++[125]:=by
  rw[o,n,j,z];simp[fT]
 rw[ex]at D;generalize prF (cB (pre++fT c a (a+ttl)++[125]))=R at *;rw[<-q]at g;have U:=Lib.hid g;have K:=Lib.hid B;have Z:=Lib.hid E;have V:=Lib.hid p;have J:=Lib.hid y;have T:=Lib.hid D;clear g B E p y D ex W q o n j z L u A m f F;go_enter func74,ntmps74;go_wp2_with fail
 refine U.out.mono ?_;rintro r b ⟨rfl,aa⟩;have v:=Lib.hid aa;clear aa U;go_wp2_with fail
 refine(V.out b v.out).mono ?_;rintro r e ⟨rfl,k2,af,I⟩;have S:Hid (Below w.heap.size w e):=by rw[I];exact v.out.trans ((Lib.below_grow b.heap.size b (JQ _) k2 af).mono v.out.size)
 clear I V;go_wp2_with fail
 refine(K.out e).mono ?_;rintro r w3 ⟨rfl,H⟩;rw[H];clear H w3 K;go_wp2_with fail
 refine(Z.out e).mono ?_;rintro r l ⟨rfl,O⟩;have G:Hid _:=S.out.trans (O.mono S.out.size);clear O Z;go_wp2_with fail
 refine(J.out l G.out).mono ?_;rintro r N ⟨rfl,k5,ae,X⟩;have C:Hid (Below w.heap.size w N):=by rw[X];exact G.out.trans ((Lib.below_grow l.heap.size l (JQ _) k5 ae).mono G.out.size)
 clear X J;go_wp2_with fail
 refine(T.out N C.out).mono ?_;rintro r w6 ⟨rfl,ab⟩;have ac:Hid _:=C.out.trans (ab.mono C.out.size);clear ab T;go_wp2_with fail
 go_ret3
 exact⟨rfl,ac.out⟩
set_option linter.unusedSimpArgs false
theorem zt(a:dj)(w:Wd)(b:GV w)(e:a.length<=1048576):Calls prog 50 #[.string ⟨a.toArray⟩] w fun r d=>r=.returned (.bool (Lib.validD a))/\Below w.heap.size w d:=by
 have h:=Any.utf8_ValidString laysValid ⟨a.toArray⟩ w (by show a.toArray.size<=_;simp;omega) b.tabs;have c:(⟨a.toArray⟩:dv).data.toList=a:=by simp
 rw[c]at h;exact h
theorem GX(L:oa)(a:hH):kI L a [eh]=decide (fd L eh a<0):=by
 have h:=Bj L eh a;unfold kI;simp only[List.any_cons,List.any_nil,Bool.or_false];cases b:gz L eh a with
 | true=>rw[b]at h;have:¬fd L eh a<0:=fun x=>by have:=h.1 x;simp at this
         simp[this]
 | false=>have:=h.2 b;simp[this]
theorem IX(w:Wd):SR (w.alloc (.cells #[.string ⟨#[97,117,100]⟩] 9)) (.slice (some ⟨w.heap.size,0,none⟩) 1 1) ([eh].map wH):=by
 refine⟨some ⟨w.heap.size,0,none⟩,1,rfl,(fun h=>by cases h),fun j z a=>⟨_,_,rfl,?_⟩⟩;match j with
 | 0=>simp at a;subst a;simp;rfl
 | j+1=>simp at a
theorem qS(s:dv)(g:dj)(a ttl:Int)(w:Wd)(k:9<=w.heap.size)(m:GV w)(e p:Int)(i:Calls prog 70 #[.string s] w fun r b=>r=.returned (.tuple #[.agg #[.slice none 0 0],.int .i64 e,.int .i64 p])/\Below w.heap.size w b/\e≠0):Calls prog 39 #[.string s,.string ⟨g.toArray⟩,.int .i64 a,.int .i64 ttl] w fun r b=>r=.returned (.tuple #[.string ⟨([]:dj).toArray⟩,.int .i64 e,.int .i64 p])/\Below w.heap.size w b:=by
 have h:=cb i;go_enter func39,ntmps39;go_wp2_with fail
 refine h.out.mono ?_;rintro r c ⟨rfl,d,j⟩
 have f:=cb (d.trans ((dC (JI c.heap.size c) (.cells #[.slice none 0 0] 118)).mono d.size));go_wp2
 go_ret3
 exact⟨rfl,f.out⟩
theorem yl(s:dv)(x:dj)(a ttl:Int)(w:Wd)(C:9<=w.heap.size)(j:GV w)(t:JT)(h:cB s.data.toList=.ok t)(b:Nd)(k:(flat 0 [] t)[0]?=some b)(p:b.kind=5)(m:(dE (flat 0 [] t) b.kids).1≠0):Calls prog 39 #[.string s,.string ⟨x.toArray⟩,.int .i64 a,.int .i64 ttl] w fun r D=>r=.returned (.tuple #[.string ⟨([]:dj).toArray⟩,.int .i64 (dE (flat 0 [] t) b.kids).1,.int .i64 (dE (flat 0 [] t) b.kids).2])/\Below w.heap.size w D:=by
 have y:=rl s w C j t h b k p;have n:=cb y;have A:=(ey h).1;have l:=cb A;have o:=cb k;generalize flat 0 [] t=L at *;go_enter func39,ntmps39;go_wp2_with fail
 refine n.out.mono ?_;rintro r c ⟨⟨v,rfl,f⟩,i⟩;obtain⟨e,d,rfl⟩:=f.shape;have g:=cb (i.trans ((dC (JI c.heap.size c) (.cells #[.slice e L.length d] 118)).mono i.size));have z:=cb (f.below (dC (JI c.heap.size c) (.cells #[.slice e L.length d] 118)));have B:=cb (um e d L l.out (c.alloc (.cells #[.slice e L.length d] 118)) b o.out z.out);go_wp2_with fail
 refine B.out.mono ?_;rintro r E ⟨rfl,q⟩;have u:=cb (g.out.trans (q.mono g.out.size))
 go_wp2
 go_ret3
 exact⟨rfl,u.out⟩
theorem lJ(s:dv)(f:dj)(a ttl:Int)(w:Wd)(hg:9<=w.heap.size)(C:GV w)(t:JT)(B:cB s.data.toList=.ok t)(b:Nd)(x:(flat 0 [] t)[0]?=some b)(D:b.kind=5)(hE:(dE (flat 0 [] t) b.kids).1=0)(Z:f.length<=1048576)(af: -9223372036854775808<=a)(ag:a<=9223372036854775807)(ae: -9223372036854775808<=ttl)(ac:ttl<=9223372036854775807)(q:Int)(H:fd (flat 0 [] t) eh b.kids<0->q=7)(g:¬fd (flat 0 [] t) eh b.kids<0->Lib.validD f=false->q=2)(h:¬fd (flat 0 [] t) eh b.kids<0->Lib.validD f=true->q=3/\(a<0\/ttl<1\/9007199254740991-ttl<a)):Calls prog 39 #[.string s,.string ⟨f.toArray⟩,.int .i64 a,.int .i64 ttl] w fun r w'=>r=.returned (.tuple #[.string ⟨([]:dj).toArray⟩,.int .i64 q,.int .i64 0])/\Below w.heap.size w w':=by
 have V:=cb H;have X:=cb g;have Y:=cb h;clear H g h;have G:=rl s w hg C t B b x D;have N:=cb G;have I:=(ey B).1;have U:=cb I;have Q:=cb x;have HG:=cb C;clear G I x D C B;generalize flat 0 [] t=L at *;go_enter func39,ntmps39;go_wp2_with fail
 refine N.out.mono ?_;rintro r e ⟨⟨v,rfl,A⟩,p⟩;obtain⟨c,d,rfl⟩:=A.shape;have F:=cb (p.trans ((dC (JI e.heap.size e) (.cells #[.slice c L.length d] 118)).mono p.size));have z:=cb (A.below (dC (JI e.heap.size e) (.cells #[.slice c L.length d] 118)));have J:=cb (um c d L U.out (e.alloc (.cells #[.slice c L.length d] 118)) b Q.out z.out);have S:Hid ((e.alloc (.cells #[.slice c L.length d] 118)).cell? ⟨e.heap.size,0,none⟩=some (.slice c L.length d)):=cb (by simp);clear p A N;go_wp2_with fail
 refine J.out.mono ?_;rintro r i ⟨rfl,n⟩;have E:=cb (F.out.trans (n.mono F.out.size));have o2:=dc n S.out;have K:=cb (z.out.below n);clear n J z S;have y:=cb (zz c d L U.out b Q.out (i.alloc (.cells #[.string ⟨#[97,117,100]⟩] 9)) (K.out.below (dC (JI _ _) _)) [eh] (some ⟨i.heap.size,0,none⟩) 1 (IX i) (by decide));have u:=cb (E.out.trans ((dC (JI i.heap.size i) (.cells #[.string ⟨#[97,117,100]⟩] 9)).mono E.out.size));rw[GX]at y;go_wp2_with fail
 refine y.out.mono ?_;rintro r w3 ⟨rfl,M⟩;have l:Hid _:=u.out.trans (M.mono u.out.size);clear M y u E K o2;by_cases m:fd L eh b.kids<0
 ·have j:=Mr m
  obtain rfl:=V.out m;rw[j];clear m j;go_wp2_with fail
  go_ret3
  exact⟨rfl,l.out⟩
 have g:=X.out (by omega);have h:=Y.out (by omega);have j:=Lt (by omega);rw[j];have R:=cb (zt f w3 (HG.out.kept fun k D=>l.out.block k (by omega)) Z);have W:=cb g;have aa:=cb h;clear m j g h;go_wp2_with fail
 refine R.out.mono ?_;rintro r w4 ⟨rfl,P⟩;have o:Hid _:=l.out.trans (P.mono l.out.size);clear P R l;cases T:Lib.validD f with
 | false=>
   obtain rfl:=W.out T;go_wp2_with fail
   go_ret3
   exact⟨rfl,o.out⟩
 | true=>
   obtain⟨rfl,O⟩:=aa.out T;have ab:=cb O;clear O;by_cases r1:a<0
   ·go_wp2_with fail
    go_ret3
    exact⟨rfl,o.out⟩
   by_cases r2:ttl<1
   ·go_wp2_with fail
    go_ret3
    exact⟨rfl,o.out⟩
   have r4:9007199254740991-ttl<a:=by have:=ab.out;omega
   go_wp2_with fail
   go_ret3
   exact⟨rfl,o.out⟩
theorem A6(s:dv)(b:dj)(a ttl:Int)(w:Wd)(hg:9<=w.heap.size)(m:GV w)(t:JT)(l:cB s.data.toList=.ok t)(e:Nd)(u:(flat 0 [] t)[0]?=some e)(o:e.kind=5)(hE:(dE (flat 0 [] t) e.kids).1=0)(hA:¬fd (flat 0 [] t) eh e.kids<0)(I:b.length<=1048576)(hU:Lib.validD b=true)(hr:¬(a<0\/ttl<1\/9007199254740991-ttl<a))(G:Lib.TabBelow prog w.heap.size w "internal/strconv.uint64pow10" .u64 Lib.pow10Tab)(pre:dj)(H:cQ t=pre++[125])(R:dj×Int×Int)(j:((prF (cB (pre++fT b a (a+ttl)++[125]))).1,((prF (cB (pre++fT b a (a+ttl)++[125]))).2.1:Int),((prF (cB (pre++fT b a (a+ttl)++[125]))).2.2:Int))=R):Calls prog 39 #[.string s,.string ⟨b.toArray⟩,.int .i64 a,.int .i64 ttl] w fun r w'=>r=.returned (.tuple #[.string ⟨R.1.toArray⟩,.int .i64 R.2.1,.int .i64 R.2.2])/\Below w.heap.size w w':=by
 have p:=fun c (d:Below w.heap.size w c)=>Hc s b a ttl c (by have:=d.size;omega) (m.kept fun k o=>d.block k (by omega)) (fun g i=>G g (d.trans (i.mono d.size))) t l pre H I (by omega) (by omega) (by omega)
 have F:(prF (cB (pre++fT b a (a+ttl)++[125]))).1=R.1:=by rw[<-j]
 have T:((prF (cB (pre++fT b a (a+ttl)++[125]))).2.1:Int)=R.2.1:=by rw[<-j]
 have P:((prF (cB (pre++fT b a (a+ttl)++[125]))).2.2:Int)=R.2.2:=by rw[<-j]
 rw[F,T,P]at p;have W:=cb p;clear p F T P j H G;have J:=rl s w hg m t l e u o;have Q:=cb J;have K:=(ey l).1;have Y:=cb K;have V:=cb u;have HG:=cb m;clear J K u o m l;generalize flat 0 [] t=L at *;go_enter func39,ntmps39;go_wp2_with fail
 refine Q.out.mono ?_;rintro r c ⟨⟨v,rfl,z⟩,d⟩;obtain⟨f,h,rfl⟩:=z.shape;have E:=cb (d.trans ((dC (JI c.heap.size c) (.cells #[.slice f L.length h] 118)).mono d.size));have y:=cb (z.below (dC (JI c.heap.size c) (.cells #[.slice f L.length h] 118)));have M:=cb (um f h L Y.out (c.alloc (.cells #[.slice f L.length h] 118)) e V.out y.out);have X:Hid ((c.alloc (.cells #[.slice f L.length h] 118)).cell? ⟨c.heap.size,0,none⟩=some (.slice f L.length h)):=cb (by simp);clear d z Q;go_wp2_with fail
 refine M.out.mono ?_;rintro r g ⟨rfl,i⟩;have C:=cb (E.out.trans (i.mono E.out.size));have o2:=dc i X.out;have N:=cb (y.out.below i);clear i M y X;have x:=cb (zz f h L Y.out e V.out (g.alloc (.cells #[.string ⟨#[97,117,100]⟩] 9)) (N.out.below (dC (JI _ _) _)) [eh] (some ⟨g.heap.size,0,none⟩) 1 (IX g) (by decide));have q:=cb (C.out.trans ((dC (JI g.heap.size g) (.cells #[.string ⟨#[97,117,100]⟩] 9)).mono C.out.size));rw[GX]at x;go_wp2_with fail
 refine x.out.mono ?_;rintro r w3 ⟨rfl,O⟩;have n:Hid _:=q.out.trans (O.mono q.out.size);clear O x q C N o2;have S:decide (fd L eh e.kids<0)=false:=Lt (by omega);rw[S];have B:=cb (zt b w3 (HG.out.kept fun k o=>n.out.block k (by omega)) I);rw[hU]at B;clear hA S;go_wp2_with fail
 refine B.out.mono ?_;rintro r Z ⟨rfl,U⟩;have A:Hid _:=n.out.trans (U.mono n.out.size);clear U B n;have r1:¬a<0:=by omega
 have r2:¬ttl<1:=by omega
 have r4:¬9007199254740991-ttl<a:=by omega
 clear hr;go_wp2_with fail
 refine(W.out Z A.out).mono ?_;rintro r w5 ⟨rfl,D⟩;have aa:Hid _:=A.out.trans (D.mono A.out.size);clear D W;go_wp2_with fail
 go_ret3
 exact⟨rfl,aa.out⟩
end Go.Proofs.YtihboehpeehlmaaGreatDoor
