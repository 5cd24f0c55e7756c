import Derived.Test.YtihboehpeehlmaaGreatDoorK4
set_option linter.unusedVariables false
set_option maxHeartbeats 1000000
set_option maxRecDepth 4000
namespace Go.Proofs.YtihboehpeehlmaaGreatDoor
open Go.RowKit Tryz
def IR(w:Wd)(v:Va)(us:hH):Prop:=
 ∃ad cap,v=.slice ad us.length cap/\∀j k:Nat,us[j]?=some k->∃g,ad=some ⟨g,0,none⟩/\w.cell? ⟨g,j,none⟩=some (.int .i64 (k:Int))
theorem IR.keep{w w':Wd}{v:Va}{us:hH}(h:IR w v us)(l:∀g j u,w.cell? ⟨g,j,none⟩=some u->w'.cell? ⟨g,j,none⟩=some u):IR w' v us:=by
 obtain⟨i,e,c,d⟩:=h;refine⟨i,e,c,fun j k f=>?_⟩;obtain⟨g,a,b⟩:=d j k f;exact⟨g,a,l _ _ _ b⟩
theorem dc{w w':Wd}(h:Below w.heap.size w w'){g j:Nat}{u:Va}(a:w.cell? ⟨g,j,none⟩=some u):w'.cell? ⟨g,j,none⟩=some u:=by
 by_cases b:g<w.heap.size
 ·have:=h.block g b
  simp only[World.cell?]at a ⊢;rw[this];exact a
 ·have:w.heap[g]?=none:=Km (by omega)
  simp[World.cell?,this]at a
theorem IR.below{w w':Wd}{v:Va}{us:hH}(h:IR w v us)(a:Below w.heap.size w w'):IR w' v us:=h.keep fun g j u b=>dc a b
structure RR (tN:TypeId) (v:Va) (ns:oa) (w:Wd):Prop where
 shape:∃ad cap,v=.slice ad ns.length cap
 at':∀(k:Nat) (n:Nd),ns[k]?=some n->∃g kv,v=.slice (some ⟨g,0,none⟩) ns.length (match v with| .slice _ _ c=>c|_=>0)/\IR w kv n.kids/\n.kids.length<=1000000000/\
  w.cell? ⟨g,k*6,none⟩=some (.int .i64 (n.kind:Int))/\w.cell? ⟨g,k*6+1,none⟩=some (.string ⟨n.key.toArray⟩)/\w.cell? ⟨g,k*6+2,none⟩=some (.string ⟨n.text.toArray⟩)/\
  w.cell? ⟨g,k*6+3,none⟩=some (.int .i64 n.num)/\w.cell? ⟨g,k*6+4,none⟩=some kv/\w.cell? ⟨g,k*6+5,none⟩=some (.int .i64 (n.at':Int))
theorem RR.below{d:TypeId}{v:Va}{e:oa}{w w':Wd}(h:RR d v e w)(c:Below w.heap.size w w'):RR d v e w':=by
 refine⟨h.shape,fun k n q=>?_⟩;obtain⟨g,f,a,b,i,j,m,p,o,l,r⟩:=h.at' k n q;exact⟨g,f,a,b.below c,i,dc c j,dc c m,dc c p,dc c o,dc c l,dc c r⟩
theorem IR.of{B:Nat}{e:TypeId}{w:Wd}{v:Va}{us:hH}(h:w.ownsRow B e 1 v us.length (us.map iV)):IR w v us:=by
 have f:∀(g j:Nat),(⟨g,0,none⟩:Addr).add j=⟨g,j,none⟩:=fun g j=>by unfold Addr.add;split<;>simp_all
 rcases h.2 with⟨a,b⟩|⟨g,c,i,a,_⟩
 ·refine⟨none,0,by rw[a,b],fun j k d=>?_⟩
  obtain rfl:=Kt.1 b;simp at d
 ·refine⟨some ⟨g,0,none⟩,c,a,fun j k d=>⟨g,rfl,?_⟩⟩
  have:=h.cells (g:=g) (by rw[a];rfl) j (iV k) (by simp[d]);rwa [f]at this
theorem RR.of{B:Nat}{f:TypeId}{v:Va}{kvs:rt}{d:oa}{w:Wd}(h:NK B f v kvs d w)(m:∀n∈d,n.kids.length<=1000000000):RR f v d w:=by
 refine⟨h.shape,fun k n b=>?_⟩;have t:k<d.length:=(JG.1 b).1;obtain⟨a,i⟩:∃a,kvs[k]?=some a:=⟨_,JF (by have:=h.1;omega)⟩;obtain⟨o,r,rfl⟩:=h.shape;obtain⟨g,rfl⟩:∃g,o=some ⟨g,0,none⟩:=by
  rcases h.2.1.2 with⟨e,s⟩|⟨g,c,q,e,_⟩
  ·omega
  ·injection e with e _ _;exact⟨g,e⟩
 have c:=fun j x p l=>(h.at (g:=g) rfl (u:=k) (j:=j) b i p (x:=x) l).1
 exact⟨g,a,rfl,IR.of (h.2.2.1 k n a b i),m n (JZ b),c 0 _ (by omega) rfl,c 1 _ (by omega) rfl,c 2 _ (by omega) rfl,c 3 _ (by omega) rfl,c 4 _ (by omega) rfl,c 5 _ (by omega) rfl⟩
def SR(w:Wd)(v:Va)(zs:List ByteArray):Prop:=
 ∃ad cap,v=.slice ad zs.length cap/\(ad=none->cap=0)/\∀(j:Nat) (z:dv),zs[j]?=some z->∃g off,ad=some ⟨g,off,none⟩/\w.cell? ⟨g,off+j,none⟩=some (.string z)
theorem BD{w w':Wd}(h:Below w.heap.size w w'){g j:Nat}{u:Va}(a:w.cell? ⟨g,j,none⟩=some u):w'.cell? ⟨g,j,none⟩=some u:=by
 by_cases b:g<w.heap.size
 ·have:=h.block g b
  simp only[World.cell?]at a ⊢;rw[this];exact a
 ·have:w.heap[g]?=none:=Km (by omega)
  simp[World.cell?,this]at a
theorem SR.keep{w w':Wd}{v:Va}{c:List ByteArray}(h:SR w v c)(f:∀g j u,w.cell? ⟨g,j,none⟩=some u->w'.cell? ⟨g,j,none⟩=some u):SR w' v c:=by
 obtain⟨e,l,i,m,d⟩:=h;refine⟨e,l,i,m,fun j k n=>?_⟩;obtain⟨g,o,a,b⟩:=d j k n;exact⟨g,o,a,f _ _ _ b⟩
theorem SR.below{w w':Wd}{v:Va}{a:List ByteArray}(h:SR w v a)(b:Below w.heap.size w w'):SR w' v a:=h.keep fun g j u c=>BD b c
theorem SR.of{B:Nat}{e:TypeId}{w:Wd}{v:Va}{d:List ByteArray}(h:w.ownsRow B e 1 v d.length (d.map Value.string)):SR w v d:=by
 have i:∀(g j:Nat),(⟨g,0,none⟩:Addr).add j=⟨g,j,none⟩:=fun g j=>by unfold Addr.add;split<;>simp_all
 rcases h.2 with⟨a,b⟩|⟨g,c,l,a,_⟩
 ·refine⟨none,0,by rw[a,b],fun _=>rfl,fun j k f=>?_⟩
  obtain rfl:=Kt.1 b;simp at f
 ·refine⟨some ⟨g,0,none⟩,c,a,fun h=>(by cases h),fun j k f=>⟨g,0,rfl,?_⟩⟩
  have:=h.cells (g:=g) (by rw[a];rfl) j (.string k) (by simp[f]);rw[i]at this;rwa [J3]
theorem El:(prog.info? 9).map (fun i=>(i.zero,i.size,i.bytes))=some (some (.string ByteArray.empty),1,16):=by kernel_rfl
theorem uO{o:Option TypeInfo}{z:Va}{a b:Nat}(h:o.map (fun i=>(i.zero,i.size,i.bytes))=some (some z,a,b)):∃i,o=some i/\i.zero=some z/\i.size=a/\i.bytes=b:=by
 cases o with
 | none=>simp at h
 | some i=>simp at h;exact⟨i,rfl,h.1,h.2.1,h.2.2⟩
theorem SR.shape{w:Wd}{v:Va}{c:List ByteArray}(h:SR w v c):∃a b,v=.slice a c.length b:=by
 obtain⟨a,b,h,_⟩:=h;exact⟨a,b,h⟩
theorem rU(w:Wd)(y:Va)(e:TypeId):∀(j:Nat) (u:Va),[y][j]?=some u->(w.alloc (.cells #[y] e)).cell? ((⟨w.heap.size,0,none⟩:Addr).add j)=some u:=by
 intro j u h;match j with
 | 0=>simp at h;subst h;simp[Addr.add]
 | j+1=>simp at h
theorem yA{P:Program}{j:Array Oper}{l:List Oper}{o:Oper}{a:Act}{Q:Exit->Act->Wd->Prop}(A:o.guard=none)(s x:Operand)(t:TypeId)(E:o.op=.call {callee:=.builtin .append,args:= #[s,x],argTypes:= #[t,t]})
 (e:TypeId) (i:TypeInfo) (F:P.underlying t=some (.slice e)) (q:P.info? e=some i) (G:i.zero=some (.string ByteArray.empty)) (w:i.size=1) (z:i.bytes=16)
 (B:Nat) (v:Va) (xs:List ByteArray) (y:dv) (b:Wd) (n:a.eval s=v) (f:b.ownsRow B e 1 v xs.length (xs.map Value.string)) (p:B<=b.heap.size) (H:xs.length<=8796093022208)
 (m:a.eval x=.slice (some ⟨b.heap.size,0,none⟩) 1 1)
 (h:∀d c,c.ownsRow B e 1 d (xs++[y]).length ((xs++[y]).map Value.string)->Below B b c->wpList P j Q l (a.put o.dst d) c):wpList P j Q (o::l) a (b.alloc (.cells #[.string y] e)):=by
 refine wpList_append_own_wide _ A s x t E B e i (.string ByteArray.empty) 1 16 F q G w z rfl (by decide) v xs.length (xs.map Value.string) n (f.alloc _) ⟨b.heap.size,0,none⟩ 1 1 [.string y] m rfl (rU b _ e) (by intro u g;simp at g;subst g;rfl) (by unfold maxLen;omega) (by omega) (by simp;omega) ?_;intro d c r D _;refine h d c (by simpa using r) (((JI B b).alloc p _).grown D (by simp;omega) ?_);intro k C;exact(f.lt k C).1
def f9:dj:=[105,115,115]
def eh:dj:=[97,117,100]
def f7:dj:=[105,97,116]
def f8:dj:=[110,98,102]
def gi:dj:=[101,120,112]
def e8(L:oa)(c:Nat):Nd:=match L[c]? with|some n=>n|none=>⟨0,[],[],0,[],0⟩
theorem gw{L:oa}{c:Nat}{n:Nd}(h:L[c]?=some n):e8 L c=n:=by unfold e8;rw[h]
def mI(L:oa):hH->Int×Int
 | []=>(0,0)
 | c::cs=>if(e8 L c).kind=3 then mI L cs else(6,((e8 L c).at':Int))
def eV(L:oa)(n:Nd):Int×Int:=if n.kind=3 then(0,0)else if n.kind=4/\n.kids≠[]then mI L n.kids else(6,(n.at':Int))
def fd(L:oa)(name:dj):hH->Int
 | []=> -1
 | c::cs=>if(e8 L c).key=name then(c:Int)else fd L name cs
def vi(L:oa)(n:Nd):List ByteArray:=if n.kind=3 then [⟨n.text.toArray⟩]else n.kids.map fun c=>⟨(e8 L c).text.toArray⟩
theorem qy(L:oa)(a:hH)(i:Nat)(c:Nat)(h:a[i]?=some c):mI L (a.drop i)=if(e8 L c).kind=3 then mI L (a.drop (i+1))else(6,((e8 L c).at':Int)):=by
 obtain⟨b,e⟩:=JG.1 h;rw[Kc b,e];rfl
theorem yp(L:oa)(name:dj)(a:hH)(i:Nat)(c:Nat)(h:a[i]?=some c):fd L name (a.drop i)=if(e8 L c).key=name then(c:Int)else fd L name (a.drop (i+1)):=by
 obtain⟨b,e⟩:=JG.1 h;rw[Kc b,e];rfl
theorem cb{p:Prop}(h:p):Hid p:=h
theorem RR.node{v:TypeId}{i:sd}{d cap:Nat}{L:oa}{w:Wd}(h:RR v (.slice i d cap) L w){k:Nat}{n:Nd}(r:L[k]?=some n):∃g a b,i=some ⟨g,0,none⟩/\d=L.length/\n.kids.length<=1000000000/\(∀j c:Nat,n.kids[j]?=some c->∃l,a=some ⟨l,0,none⟩/\w.cell? ⟨l,j,none⟩=some (.int .i64 (c:Int)))/\w.cell? ⟨g,k*6,none⟩=some (.int .i64 (n.kind:Int))/\w.cell? ⟨g,k*6+1,none⟩=some (.string ⟨n.key.toArray⟩)/\w.cell? ⟨g,k*6+2,none⟩=some (.string ⟨n.text.toArray⟩)/\w.cell? ⟨g,k*6+3,none⟩=some (.int .i64 n.num)/\w.cell? ⟨g,k*6+4,none⟩=some (.slice a n.kids.length b)/\w.cell? ⟨g,k*6+5,none⟩=some (.int .i64 (n.at':Int)):=by
 obtain⟨g,A,e,⟨a,b,s,o⟩,t,u,x,y,q,f,z⟩:=h.at' k n r;injection e with m p _;rw[s]at f;exact⟨g,a,b,m,p,t,o,u,x,y,q,f,z⟩
theorem RR.cs{d:TypeId}{g a cap:Nat}{L:oa}{w:Wd}(h:RR d (.slice (some ⟨g,0,none⟩) a cap) L w){k:Nat}{n:Nd}(l:L[k]?=some n):w.cell? ⟨g,k*6,none⟩=some (.int .i64 (n.kind:Int))/\w.cell? ⟨g,k*6+1,none⟩=some (.string ⟨n.key.toArray⟩)/\w.cell? ⟨g,k*6+2,none⟩=some (.string ⟨n.text.toArray⟩)/\w.cell? ⟨g,k*6+3,none⟩=some (.int .i64 n.num)/\w.cell? ⟨g,k*6+5,none⟩=some (.int .i64 (n.at':Int)):=by
 obtain⟨b,_,_,e,_,_,_,c,f,j,i,_,m⟩:=h.node l;obtain rfl:g=b:=by injection e with e;injection e
 exact⟨c,f,j,i,m⟩
theorem EL(v:Va)(L:oa)(w:Wd)(d:RR 83 v L w)(o:nJ L)(k:Nat)(n:Nd)(h:L[k]?=some n)(name:dj):Calls prog 34 #[v,.int .i64 (k:Int),.string ⟨name.toArray⟩] w fun r x=>r=.returned (.int .i64 (fd L name n.kids))/\x=w:=by
 have Z:=(JG.1 h).1;have R:=o.len;have u:=o.kids k n h;obtain⟨H,Q,rfl⟩:=d.shape;obtain⟨g,aa,D,rfl,_,U,q,W,P,O,T,G,c5⟩:=d.node h;have y:=cb d;have C:=cb q;have A:=cb u
 go_enter func34,ntmps34;go_wp2
 go_loopw [7] (fun j wr=>∃i:Nat,i<=n.kids.length/\j=.int .i64 (i:Int)/\wr=w/\Hid (fd L name n.kids=fd L name (n.kids.drop i))) (fun j _=>n.kids.length-(intOf j).toNat)
 case atStart=>exact⟨0,by omega,rfl,rfl,rfl⟩
 case round=>
  obtain⟨i,F,rfl,rfl,f⟩:=hrel;by_cases B:i<n.kids.length
  ·have s:(i:Int)<(n.kids.length:Int):=by omega
   obtain⟨c,e⟩:∃c,n.kids[i]?=some c:=⟨_,JF B⟩;obtain⟨J,rfl,N⟩:=C.out i c e;have z:=A.out c (JZ e);obtain⟨m,p⟩:∃m,L[c]?=some m:=⟨_,JF z.2⟩;obtain⟨V,t,M,S,K⟩:=y.out.cs p
   have a:=yp L name n.kids i c e;rw[gw p]at a;by_cases b:m.key=name
   ·rw[if_pos b]at a
    have l:=cb a;rw[b]at t;go_wp2;go_ret;exact⟨by rw[f.out,l.out];rfl,rfl⟩
   ·rw[if_neg b]at a
    have l:=cb a;have Y:(m.key==name)=false:=by simp[b]
    go_wp2
    go_roundw
    case rel=>exact⟨i+1,by omega,by go_num,trivial,by rw[f.out,l.out];exact rfl⟩
    case measure=>simp[intOf];omega
  ·have s:¬(i:Int)<(n.kids.length:Int):=by omega
   go_wp2;go_ret;refine⟨?_,rfl⟩;rw[f.out,J8 (by omega)];rfl
theorem dC{a w:Wd}(h:Below a.heap.size a w)(o:Obj):Below a.heap.size a (w.alloc o):=h.alloc h.size o
theorem qH{B:Nat}{a w:Wd}(h:Below B a w)(n:Nat):Below B a (w.drewN n):=⟨h.os,h.tape,h.output,h.size,h.block⟩
theorem nr(v:Va)(L:oa)(w:Wd)(x:RR 83 v L w)(D:nJ L)(k:Nat)(n:Nd)(u:L[k]?=some n):Calls prog 42 #[v,.int .i64 (k:Int)] w fun r J=>r=.returned (.tuple #[.int .i64 (eV L n).1,.int .i64 (eV L n).2])/\Below w.heap.size w J:=by
 have ah:=(JG.1 u).1;have ak:=D.len;have I:=D.kids k n u;obtain⟨ad,aj,rfl⟩:=x.shape;obtain⟨g,b,d,rfl,_,af,R,p,c1,c2,c3,S,c5⟩:=x.node u;have K:=cb x;have ab:=cb R;have aa:=cb I
 by_cases o:n.kind=3
 ·have e:eV L n=(0,0):=by unfold eV;rw[if_pos o]
  rw[e];have U:((n.kind:Int)==3)=true:=by simp[o]
  rw[o]at p;go_enter func42,ntmps42;go_wp2;go_ret2
  exact⟨rfl,dC (JI _ _) _⟩
 ·have U:((n.kind:Int)==3)=false:=by simp;omega
  by_cases a:n.kind=4/\n.kids≠[]
  ·have e:eV L n=mI L n.kids:=by unfold eV;rw[if_neg o,if_pos a]
   rw[e];have Y:((n.kids.length:Int)==0)=false:=by have:=a.2;simp[this]
   rw[a.1]at p;have C:n.kids.length≠0:=by have:=a.2;simpa using this
   go_enter func42,ntmps42;go_wp2
   have y:=dC (JI w.heap.size w) (.cells #[.int .i64 4,.string ⟨n.key.toArray⟩,.string ⟨n.text.toArray⟩,.int .i64 n.num,.slice b n.kids.length d,.int .i64 (n.at':Int)] 83);have b4:(w.alloc (.cells #[.int .i64 4,.string ⟨n.key.toArray⟩,.string ⟨n.text.toArray⟩,.int .i64 n.num,.slice b n.kids.length d,.int .i64 (n.at':Int)] 83)).cell? ⟨w.heap.size,4,none⟩=some (.slice b n.kids.length d):=by simp
   have E:=cb y;have V:=cb (K.out.below y);have Q:Hid (∀j c:Nat,n.kids[j]?=some c->∃f,b=some ⟨f,0,none⟩/\(w.alloc (.cells #[.int .i64 4,.string ⟨n.key.toArray⟩,.string ⟨n.text.toArray⟩,.int .i64 n.num,.slice b n.kids.length d,.int .i64 (n.at':Int)] 83)).cell? ⟨f,j,none⟩=some (.int .i64 (c:Int))):=fun j c M=>by
    obtain⟨f,X,P⟩:=ab.out j c M;exact⟨f,X,dc y P⟩
   generalize w.alloc (.cells #[.int .i64 4,.string ⟨n.key.toArray⟩,.string ⟨n.text.toArray⟩,.int .i64 n.num,.slice b n.kids.length d,.int .i64 (n.at':Int)] 83)=W at *;go_loopw [7] (fun A wr=>∃i q:Nat,i<=n.kids.length/\A=.int .i64 (i:Int)/\wr=W.drewN q/\Hid (mI L n.kids=mI L (n.kids.drop i))) (fun A _=>n.kids.length-(intOf A).toNat)
   case atStart=>exact⟨0,0,by omega,rfl,rfl,rfl⟩
   case round=>
    obtain⟨i,q,hi,rfl,rfl,s⟩:=hrel;by_cases N:i<n.kids.length
    ·have T:(i:Int)<(n.kids.length:Int):=by omega
     obtain⟨c,z⟩:∃c,n.kids[i]?=some c:=⟨_,JF N⟩;obtain⟨f,rfl,ck⟩:=Q.out i c z;have Z:=aa.out c (JZ z);obtain⟨m,F⟩:∃m,L[c]?=some m:=⟨_,JF Z.2⟩;obtain⟨O,d1,d2,d3,d5⟩:=V.out.cs F
     have l:=qy L n.kids i c z;rw[gw F]at l;by_cases t:m.kind=3
     ·rw[if_pos t]at l
      have B:=cb l;rw[t]at O;go_wp2
      go_roundw
      case rel=>exact⟨i+1,q,by omega,by go_num,rfl,by rw[s.out,B.out];exact rfl⟩
      case measure=>simp[intOf];omega
     ·rw[if_neg t]at l
      have B:=cb l
      go_wp2
      go_quiet (fail);go_wp2
      go_ret2
      exact⟨by rw[s.out,B.out];rfl,qH (qH E.out _) _⟩
    ·have T:¬(i:Int)<(n.kids.length:Int):=by omega
     go_wp2;go_ret2
     refine⟨?_,qH E.out _⟩;rw[s.out,J8 (by omega)];rfl
  ·have e:eV L n=(6,(n.at':Int)):=by unfold eV;rw[if_neg o,if_neg a]
   rw[e];by_cases C:n.kind=4
   ·have G:n.kids=[]:=by
     by_cases h:n.kids=[]
     ·exact h
     ·exact absurd ⟨C,h⟩ a
    have H:n.kids.length=0:=by rw[G];rfl
    rw[C]at p;rw[H]at S;go_enter func42,ntmps42;go_wp2
    go_quiet (fail);go_wp2
    go_ret2
    exact⟨rfl,qH (dC (JI _ _) _) _⟩
   ·have k4:((n.kind:Int)==4)=false:=by simp;omega
    go_enter func42,ntmps42;go_wp2
    go_quiet (fail);go_wp2
    go_ret2
    exact⟨rfl,qH (dC (JI _ _) _) _⟩
def eO(L:oa)(n:Nd):Int×Int:=if n.key=f9\/n.key=f7\/n.key=f8\/n.key=gi then(4,(n.at':Int))else if n.key=eh then eV L n else(0,0)
def dE(L:oa):hH->Int×Int
 | []=>(0,0)
 | c::cs=>if(eO L (e8 L c)).1=0 then dE L cs else eO L (e8 L c)
theorem kN(L:oa)(a:hH)(i:Nat)(c:Nat)(h:a[i]?=some c):dE L (a.drop i)=if(eO L (e8 L c)).1=0 then dE L (a.drop (i+1))else eO L (e8 L c):=by
 obtain⟨b,e⟩:=JG.1 h;rw[Kc b,e];rfl
theorem qY(L:oa):∀d:hH,(dE L d).1=0->∀c∈d,¬((e8 L c).key=f9\/(e8 L c).key=f7\/(e8 L c).key=f8\/(e8 L c).key=gi)
 | [],_,c,b=>by simp at b
 | k::d,h,c,b=>by
   rw[dE]at h;by_cases a:(eO L (e8 L k)).1=0
   ·rw[if_pos a]at h
    rcases Ke.1 b with rfl|b
    ·intro e
     rw[eO,if_pos e]at a;simp at a
    ·exact qY L d h c b
   ·rw[if_neg a]at h;exact absurd h a
end Go.Proofs.YtihboehpeehlmaaGreatDoor
