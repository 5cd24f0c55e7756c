import Derived.Test.YtihboehpeehlmaaGreatDoorB0
set_option maxHeartbeats 2000000
set_option maxRecDepth 10000
namespace Go.Proofs.YtihboehpeehlmaaGreatDoor.Dg
open Tryz
set_option maxRecDepth 4000
open Go.RowKit
set_option linter.unusedVariables false
structure Ky where
 alg:Int
 kid:dv
 key:dv
abbrev rg:=List Ky
def kw(k:Ky):rt:=[.int .i64 k.alg,.string k.kid,.string k.key]
def KR(w:Wd)(v:Va)(ks:rg):Prop:=
 ∃ad cap,v=.slice ad ks.length cap/\ks.length<=cap/\∀(j:Nat) (k:Ky),ks[j]?=some k->∃g off,ad=some ⟨g,off,none⟩/\w.cell? ⟨g,off+j*3,none⟩=some (.int .i64 k.alg)/\w.cell? ⟨g,off+j*3+1,none⟩=some (.string k.kid)/\w.cell? ⟨g,off+j*3+2,none⟩=some (.string k.key)
theorem KR.keep{w w':Wd}{v:Va}{f:rg}(h:KR w v f)(e:∀g j u,w.cell? ⟨g,j,none⟩=some u->w'.cell? ⟨g,j,none⟩=some u):KR w' v f:=by
 obtain⟨l,n,m,o,i⟩:=h;refine⟨l,n,m,o,fun j k p=>?_⟩;obtain⟨g,q,a,b,c,d⟩:=i j k p;exact⟨g,q,a,e _ _ _ b,e _ _ _ c,e _ _ _ d⟩
theorem KR.below{w w':Wd}{v:Va}{a:rg}(h:KR w v a)(b:Below w.heap.size w w'):KR w' v a:=h.keep fun g j u c=>cl b c
theorem KR.shape{w:Wd}{v:Va}{c:rg}(h:KR w v c):∃a b,v=.slice a c.length b:=by
 obtain⟨a,b,h,_⟩:=h;exact⟨a,b,h⟩
theorem KR.take{w:Wd}{b:sd}{n cap:Nat}{a:rg}(h:KR w (.slice b n cap) a)(m:Nat)(l:m<=a.length):KR w (.slice b m cap) (a.take m):=by
 obtain⟨q,o,i,p,g⟩:=h;injection i with f r e;subst f e;refine⟨b,cap,by rw[J6,Mg l],by rw[J6];omega,fun j k c=>?_⟩;refine g j k ?_;rw[MU]at c;by_cases d:j<m
 ·simpa [d]using c
 ·simp[d]at c
def de(ks:rg):rt:=ks.flatMap kw
theorem m8(a:rg):(de a).length=a.length*3:=by
 induction a with
 | nil=>rfl
 | cons k a ih=>simp only[de,List.flatMap_cons,JH]at ih ⊢;rw[ih];simp[kw];omega
theorem xh(a:rg)(j:Nat)(k:Ky)(h:a[j]?=some k)(i:Nat)(v:Va)(b:(kw k)[i]?=some v):(de a)[j*3+i]?=some v:=by
 have d:i<3:=by have:=(JG.1 b).1;simpa [kw]using this
 induction a generalizing j with
 | nil=>simp at h
 | cons c a ih=>
   cases j with
   | zero=>
     simp at h;subst h;simp only[de,List.flatMap_cons,Lk,J3];rw[J4 (by simp[kw];omega)];exact b
   | succ j=>
     simp at h;have:=ih j h;simp only[de,List.flatMap_cons]at this ⊢;rw[J9 (by simp[kw];omega)];rw[show(j+1)*3+i-(kw c).length=j*3+i by simp[kw];omega];exact this
theorem py(a:rg)(k:Ky):de (a++[k])=de a++kw k:=by simp[de]
theorem KR.of{B:Nat}{e:TypeId}{w:Wd}{v:Va}{d:rg}(h:w.ownsRow B e 3 v d.length (de d)):KR w v d:=by
 have o:∀(g j:Nat),(⟨g,0,none⟩:Addr).add j=⟨g,j,none⟩:=fun g j=>by unfold Addr.add;split<;>simp_all
 rcases h.2 with⟨a,b⟩|⟨g,c,p,a,_,_,n,_⟩
 ·refine⟨none,0,by rw[a,b],by omega,fun j k l=>?_⟩
  obtain rfl:=Kt.1 b;simp at l
 ·refine⟨some ⟨g,0,none⟩,c,a,n,fun j k l=>⟨g,0,rfl,?_⟩⟩
  have f:=fun i x m=>h.cells (g:=g) (by rw[a];rfl) (j*3+i) x (xh d j k l i x m)
  simp only[o]at f;exact⟨by rw[J3];exact f 0 _ rfl,by rw[J3];exact f 1 _ rfl,by rw[J3];exact f 2 _ rfl⟩
def findK(kid:dv):rg->Nat->Int
 | [],_=> -1
 | k::ks,m=>if k.kid.data.toList=kid.data.toList then(m:Int)else findK kid ks (m+1)
theorem Ji{a b:dv}(h:¬a.data.toList=b.data.toList):(a.toList==b.toList)=false:=by
 rw[JJ,Lc,Lc];exact h
theorem FZ{a b:dv}(h:a.data.toList=b.data.toList):a=b:=by cases a;cases b;simp at h;simp[h]
theorem ty(b:dv)(a:rg)(m:Nat): -1<=findK b a m/\findK b a m<(m+a.length+1:Nat):=by
 induction a generalizing m with
 | nil=>simp[findK];omega
 | cons k a ih=>
   unfold findK;split
   ·simp;omega
   ·have:=ih (m+1);simp only[JM];omega
theorem pR(b:dv)(a:rg)(i:Nat)(k:Ky)(h:a[i]?=some k):findK b (a.drop i) i=if k.kid.data.toList=b.data.toList then(i:Int)else findK b (a.drop (i+1)) (i+1):=by
 obtain⟨c,e⟩:=JG.1 h;rw[Kc c,e];rfl
theorem C6(x:Va)(a:rg)(b:dv)(w:Wd)(e:KR w x a)(u:a.length<=140737488355328):Calls prog 38 #[x,.string b] w fun r q=>r=.returned (.int .i64 (findK b a 0))/\q=w:=by
 obtain⟨v,t,rfl,_,e⟩:=e;have m:=ci e;go_enter func38,ntmps38;go_wp2
 go_loopw [5] (fun j wr=>∃i:Nat,i<=a.length/\j=.int .i64 (i:Int)/\wr=w/\Hid (findK b a 0=findK b (a.drop i) i)) (fun j _=>a.length-(intOf j).toNat)
 case atStart=>exact⟨0,by omega,rfl,rfl,rfl⟩
 case round=>
  obtain⟨i,s,rfl,rfl,f⟩:=hrel;by_cases o:i<a.length
  ·have n:(i:Int)<(a.length:Int):=by omega
   obtain⟨k,l⟩:∃k,a[i]?=some k:=⟨_,JF o⟩;obtain⟨g,z,rfl,_,p,_⟩:=m.out i k l;have c:=pR b a i k l;by_cases d:k.kid.data.toList=b.data.toList
   ·rw[if_pos d]at c
    have h:=ci c;rw[FZ d]at p;go_wp2;go_ret;exact⟨by rw[f.out,h.out];rfl,rfl⟩
   ·rw[if_neg d]at c
    have h:=ci c;have y:=Ji d;go_wp2
    go_roundw
    case rel=>exact⟨i+1,by omega,by go_num,trivial,by rw[f.out,h.out];exact rfl⟩
    case measure=>simp[intOf];omega
  ·have n:¬(i:Int)<(a.length:Int):=by omega
   go_wp2;go_ret;refine⟨?_,rfl⟩;rw[f.out,J8 (by omega)];rfl
theorem F7(k:Ky)(a:dv)(b:Nat)(w:Wd)(c0:w.cell? ⟨b,0,none⟩=some (.string a))(e:Bool)(c:e=decide (k.kid.data.toList=a.data.toList)):Calls prog 63 #[.agg #[.int .i64 k.alg,.string k.kid,.string k.key],.pointer (some ⟨b,0,none⟩)] w fun r g=>r=.returned (.bool e)/\Below w.heap.size w g:=by
 have f:=JL w _ c0
 by_cases d:k.kid.data.toList=a.data.toList
 ·rw[FZ d]
  rw[Mr d]at c;subst c;go_enter func63,ntmps63;go_wp2;go_ret;exact⟨rfl,d6 (JI _ _) _⟩
 ·have i:=Ji d
  rw[Lt d]at c;subst c;go_enter func63,ntmps63;go_wp2;go_ret;exact⟨rfl,d6 (JI _ _) _⟩
theorem Ea(x:Va)(a:rg)(c:dv)(b:Nat)(w:Wd)(l:KR w x a)(P:a.length<=140737488355328)(c0:w.cell? ⟨b,0,none⟩=some (.string c)):Calls prog 62 #[x,.func (.func 63) #[] #[.pointer (some ⟨b,0,none⟩)]] w fun r B=>r=.returned (.int .i64 (findK c a 0))/\Below w.heap.size w B:=by
 obtain⟨K,O,rfl,_,l⟩:=l;have D:=ci l;have t:=fun(k:Ky) o (y:Below w.heap.size w o) A F=>F7 k c b o (cl y c0) A F
 have v:=ci t;go_enter func62,ntmps62;go_wp2
 go_loopw [8] (fun n wr=>∃i:Nat,i<=a.length/\n=.int .i64 (i:Int)/\Below w.heap.size w wr/\Hid (findK c a 0=findK c (a.drop i) i)) (fun n _=>a.length-(intOf n).toNat)
 case atStart=>exact⟨0,by omega,rfl,JI _ _,rfl⟩
 case round=>
  obtain⟨i,J,rfl,d,m⟩:=hrel;have h:=ci d;by_cases H:i<a.length
  ·have u:(i:Int)<(a.length:Int):=by omega
   obtain⟨k,q⟩:∃k,a[i]?=some k:=⟨_,JF H⟩;obtain⟨g,N,rfl,z,I,C⟩:=D.out i k q;have c0:=cl d z;have L:=cl d I;have M:=cl d C;have E:=pR c a i k q;have s:=ci E;go_wp2_with fail
   refine(v.out k _ h.out _ rfl).mono ?_;rintro r o ⟨rfl,G⟩;have p:=ci (h.out.trans (G.mono h.out.size));by_cases f:k.kid.data.toList=c.data.toList
   ·have e:=s.out
    rw[if_pos f]at e;rw[Mr f];have j:=ci e;go_wp2;go_ret;exact⟨by rw[m.out,j.out];rfl,p.out⟩
   ·have e:=s.out
    rw[if_neg f]at e;rw[Lt f];have j:=ci e;go_wp2
    go_roundw
    case rel=>exact⟨i+1,by omega,by go_num,p.out,by rw[m.out,j.out];exact rfl⟩
    case measure=>simp[intOf];omega
  ·have u:¬(i:Int)<(a.length:Int):=by omega
   go_wp2;go_ret;refine⟨?_,h.out⟩;rw[m.out,J8 (by omega)];rfl
theorem DV(x:Va)(a:rg)(c:dv)(w:Wd)(e:KR w x a)(h:a.length<=140737488355328):Calls prog 29 #[x,.string c] w fun r f=>r=.returned (.int .i64 (findK c a 0))/\Below w.heap.size w f:=by
 have k:=fun d (m:Below w.heap.size w d) b j=>Ea x a c b d (e.below m) h j
 have i:=ci k;go_enter func29,ntmps29;go_wp2_with fail
 refine(i.out _ (d6 (JI _ _) _) w.heap.size (by simp)).mono ?_;rintro r d ⟨rfl,l⟩;have g:=ci ((d6 (JI w.heap.size w) _).trans (l.mono (by simp)));go_wp2;go_ret;exact⟨rfl,g.out⟩
def kc(done:rg)(k:Ky):Int:=
 if 20<=done.length then 8 else if keyErr k.alg k.kid k.key=0 then(if 0<=findK k.kid done 0 then 4 else 0)else keyErr k.alg k.kid k.key
def db(k:Ky):dj:=
 [123,34,97,108,103,34,58,34]++((nameB k.alg).data.toList++([34,44,34,107,34,58,34]++(enc (dB k.key) k.key.size++([34,44,34,107,105,100,34,58,34]++(k.kid.data.toList++[34,44,34,107,116,121,34,58,34,111,99,116,34,125])))))
def oX(done:rg):rg->Option (Int×Nat)
 | []=>none
 | k::ks=>if kc done k=0 then oX (done++[k]) ks else some (kc done k,done.length)
def sz:dj:=[123,34,107,101,121,115,34,58,91]
def rB(ks:rg):dj:=sz++Lib.join (ks.map db) [44]++[93,125]
def prT(ks:rg):dj×Int×Nat:=match oX [] ks with|none=>(rB ks,0,0)|some (e,i)=>([],e,i)
theorem zn(a:rg)(i:Nat)(k:Ky)(h:a[i]?=some k):oX (a.take i) (a.drop i)=if kc (a.take i) k=0 then oX (a.take (i+1)) (a.drop (i+1))else some (kc (a.take i) k,i):=by
 obtain⟨c,e⟩:=JG.1 h;rw[Kc c,e];have b:a.take (i+1)=a.take i++[k]:=by rw[Lf,h];rfl
 have d:(a.take i).length=i:=by rw[J6];omega
 rw[b];conv=>lhs;unfold oX
 rw[d]
theorem vd{b:rg}{k:Ky}(h:kc b k=0):b.length<20/\keyErr k.alg k.kid k.key=0:=by
 unfold kc at h;split at h
 ·omega
 ·rename_i c
  split at h
  ·rename_i a;exact⟨by omega,a⟩
  ·rename_i a;exact absurd h a
theorem hI{a:Int}{b d:dv}(h:keyErr a b d=0):(a=256\/a=384\/a=512)/\1<=b.size/\b.size<=40/\d.size<=200:=by
 unfold keyErr at h;split at h
 ·omega
 ·rename_i f
  split at h
  ·omega
  ·rename_i i
   split at h
   ·omega
   ·rename_i g
    refine⟨?_,?_⟩
    ·unfold sizeN at f
     repeat' split at f
     all_goals omega
    ·have c:eP b=true:=by simpa using i
     have e:fx a d=true:=by simpa using g
     unfold eP at c;unfold fx at e;simp only[Kz,Kx]at c e;exact⟨c.1.1,c.1.2,e.2.2⟩
theorem DY(x:Va)(a:rg)(k:Ky)(w:Wd)(j:KR w x a)(t:WG w)(z:a.length<=140737488355328)(p:k.kid.size<=4611686018427387904)(A:k.key.size<=4611686018427387904):Calls prog 54 #[x,.agg #[.int .i64 k.alg,.string k.kid,.string k.key]] w fun r o=>r=.returned (.int .i64 (kc a k))/\Below w.heap.size w o:=by
 have s:=fun c (b:Below w.heap.size w c)=>nx k.alg k.kid k.key c (t.below b) p A
 have B:=fun c (b:Below w.heap.size w c)=>DV x a k.kid c (j.below b) z
 have g:Hid (kc a k=if 20<=a.length then 8 else if keyErr k.alg k.kid k.key=0 then(if 0<=findK k.kid a 0 then 4 else 0)else keyErr k.alg k.kid k.key):=by unfold kc;exact rfl
 obtain⟨F,E,rfl⟩:=j.shape;have y:=ci s;have v:=ci B;by_cases m:20<=a.length
 ·have u:(20:Int)<=(a.length:Int):=by omega
  go_enter func54,ntmps54;go_wp2;go_ret;exact⟨by rw[g.out,if_pos m];rfl,d6 (JI _ _) _⟩
 ·have u:¬(20:Int)<=(a.length:Int):=by omega
  have h:=ci m;go_enter func54,ntmps54;go_wp2_with fail
  refine(y.out _ (d6 (JI _ _) _)).mono ?_;rintro r c ⟨rfl,e⟩;have G:c.cell? ⟨w.heap.size,1,none⟩=some (.string k.kid):=cl e (by simp);have f:=ci ((d6 (JI w.heap.size w) _).trans (e.mono (by simp)));by_cases b:keyErr k.alg k.kid k.key=0
  ·rw[b]
   have d:=ci b;go_wp2_with fail
   refine(v.out _ f.out).mono ?_;rintro r C ⟨rfl,e⟩;have l:=ci (f.out.trans (e.mono f.out.size));by_cases n:0<=findK k.kid a 0
   ·have i:=ci n
    go_wp2;go_ret;exact⟨by rw[g.out,if_neg h.out,if_pos d.out,if_pos i.out];rfl,l.out⟩
   ·have i:=ci n
    go_wp2;go_ret;exact⟨by rw[g.out,if_neg h.out,if_pos d.out,if_neg (by have:=i.out;omega)];rfl,l.out⟩
  ·have d:=ci b
   generalize keyErr k.alg k.kid k.key=q at *;go_wp2;go_ret;exact⟨by rw[g.out,if_neg h.out,if_neg d.out];rfl,f.out⟩
theorem Ah{a b:dv}(h:a.data.toList=b.data.toList):Ending.returned (.string a)=.returned (.string b):=by rw[FZ h]
theorem Eo(k:Ky)(w:Wd)(D:WG w)(H:keyErr k.alg k.kid k.key=0):Calls prog 55 #[.agg #[.int .i64 k.alg,.string k.kid,.string k.key]] w fun r i=>r=.returned (.string ⟨(db k).toArray⟩)/\Below w.heap.size w i:=by
 obtain⟨C,U,T,L⟩:=hI H;have G:=fun m (z:Below w.heap.size w m)=>pv k.alg m (D.below z)
 have A:=fun m=>j1 k.key m (by omega)
 have K:(nameB k.alg).size<=5:=by rcases C with h|h|h<;>rw[h]<;>decide
 have o:(enc (dB k.key) k.key.size).length<=1000:=by rw[jb];omega
 have B:=ci G;have q:=ci A;obtain⟨E,l⟩:∃E:dv,E=⟨(enc (dB k.key) k.key.size).toArray⟩:=⟨_,rfl⟩;rw[<-l]at q;have J:E.size<=1000:=by rw[l];show(enc (dB k.key) k.key.size).toArray.size<=1000;simpa using o
 have v:Hid (db k=[123,34,97,108,103,34,58,34]++((nameB k.alg).data.toList++([34,44,34,107,34,58,34]++(E.data.toList++([34,44,34,107,105,100,34,58,34]++(k.kid.data.toList++[34,44,34,107,116,121,34,58,34,111,99,116,34,125])))))):=by rw[l];exact rfl
 clear l o;generalize nameB k.alg=a at *;have O:¬9223372036854775807<8+a.size:=by omega
 have P:¬9223372036854775807<8+a.size+7:=by omega
 have N:¬9223372036854775807<8+a.size+7+E.size:=by omega
 have S:¬9223372036854775807<8+a.size+7+E.size+9:=by omega
 have M:¬9223372036854775807<8+a.size+7+E.size+9+k.kid.size:=by omega
 have Q:¬9223372036854775807<8+a.size+7+E.size+9+k.kid.size+9:=by omega
 have I:¬9223372036854775807<8+a.size+7+E.size+9+k.kid.size+9+3:=by omega
 have R:¬9223372036854775807<8+a.size+7+E.size+9+k.kid.size+9+3+2:=by omega
 go_enter func55,ntmps55;go_wp2
 have f:=ci ((d6 (JI w.heap.size w) (.cells #[.int .i64 k.alg,.string k.kid,.string k.key] 73)).drew);have u:Hid (∀g,Below (w.heap.size+1) (w.alloc (.cells #[.int .i64 k.alg,.string k.kid,.string k.key] 73)) g->g.cell? ⟨w.heap.size,0,none⟩=some (.int .i64 k.alg)/\g.cell? ⟨w.heap.size,1,none⟩=some (.string k.kid)/\g.cell? ⟨w.heap.size,2,none⟩=some (.string k.key)):=fun g n=>
  ⟨(n.cell (p:=⟨w.heap.size,0,none⟩) (by simp)).trans (by simp),(n.cell (p:=⟨w.heap.size,1,none⟩) (by simp)).trans (by simp),(n.cell (p:=⟨w.heap.size,2,none⟩) (by simp)).trans (by simp)⟩
 go_region_held3 (fun i=>i.cell? ⟨w.heap.size,0,none⟩=some (.int .i64 k.alg)/\i.cell? ⟨w.heap.size,1,none⟩=some (.string k.kid)/\i.cell? ⟨w.heap.size,2,none⟩=some (.string k.key)) (go_keep) (first|(go_at_call 59;refine(B.out _ (by first|exact b.out.1|exact f.out)).mono ?_;rintro e t ⟨rfl,j⟩;have c:Hid (Below w.heap.size w t/\Below (w.heap.size+1) (w.alloc (.cells #[.int .i64 k.alg,.string k.kid,.string k.key] 73)) t):=(by first|exact⟨b.out.1.trans (j.mono b.out.1.size),b.out.2.trans (j.mono (by have:=b.out.2.size;simp at this;omega))⟩|exact⟨f.out.trans (j.mono f.out.size),(JI _ _).drew.trans (j.mono (by simp))⟩);obtain⟨x,F,y⟩:=u.out _ c.out.2;clear j)|(go_at_call 77;refine(q.out _).mono ?_;rintro e s ⟨rfl,d⟩;have b:Hid (Below w.heap.size w s/\Below (w.heap.size+1) (w.alloc (.cells #[.int .i64 k.alg,.string k.kid,.string k.key] 73)) s):=(by first|exact⟨c.out.1.trans (d.mono c.out.1.size),c.out.2.trans (d.mono (by have:=c.out.2.size;simp at this;omega))⟩|exact⟨f.out.trans (d.mono f.out.size),(JI _ _).drew.trans (d.mono (by simp))⟩);obtain⟨x,F,y⟩:=u.out _ b.out.2;clear d))
 all_goals go_wp2_with fail
 all_goals go_ret
 all_goals refine⟨Ah ?_,by first|exact b.out.1|exact c.out.1⟩
 all_goals rw[v.out]
 all_goals simp
theorem AC:(prog.info? 9).map (fun i=>(i.zero,i.size,i.bytes))=some (some (.string ByteArray.empty),1,16):=by kernel_rfl
theorem sE{o:Option TypeInfo}{z:Va}{a b:Nat}(h:o.map (fun i=>(i.zero,i.size,i.bytes))=some (some z,a,b)):∃i,o=some i/\i.zero=some z/\i.size=a/\i.bytes=b:=by
 cases o with
 | none=>simp at h
 | some i=>simp at h;exact⟨i,rfl,h.1,h.2.1,h.2.2⟩
theorem ze(w:Wd)(y:Va)(e:TypeId):∀(j:Nat) (u:Va),[y][j]?=some u->(w.alloc (.cells #[y] e)).cell? ((⟨w.heap.size,0,none⟩:Addr).add j)=some u:=by
 intro j u h;match j with
 | 0=>simp at h;subst h;simp[Addr.add]
 | j+1=>simp at h
theorem DP{P:Program}{j:Array Oper}{l:List Oper}{o:Oper}{a:Act}{Q:Exit->Act->Wd->Prop}(A:o.guard=none)(s x:Operand)(t:TypeId)(E:o.op=.call {callee:=.builtin .append,args:= #[s,x],argTypes:= #[t,t]})
 (e:TypeId) (i:TypeInfo) (F:P.underlying t=some (.slice e)) (q:P.info? e=some i) (G:i.zero=some (.string ByteArray.empty)) (w:i.size=1) (z:i.bytes=16)
 (B:Nat) (v:Va) (xs:List ByteArray) (y:dv) (b:Wd) (n:a.eval s=v) (f:b.ownsRow B e 1 v xs.length (xs.map Value.string)) (p:B<=b.heap.size) (H:xs.length<=8796093022208)
 (m:a.eval x=.slice (some ⟨b.heap.size,0,none⟩) 1 1)
 (h:∀d c,c.ownsRow B e 1 d (xs++[y]).length ((xs++[y]).map Value.string)->Below B b c->wpList P j Q l (a.put o.dst d) c):wpList P j Q (o::l) a (b.alloc (.cells #[.string y] e)):=by
 refine wpList_append_own_wide _ A s x t E B e i (.string ByteArray.empty) 1 16 F q G w z rfl (by decide) v xs.length (xs.map Value.string) n (f.alloc _) ⟨b.heap.size,0,none⟩ 1 1 [.string y] m rfl (ze b _ e) (by intro u g;simp at g;subst g;rfl) (by unfold maxLen;omega) (by omega) (by simp;omega) ?_;intro d c r D _;refine h d c (by simpa using r) (((JI B b).alloc p _).grown D (by simp;omega) ?_);intro k C;exact(f.lt k C).1
theorem l9{B:Nat}{e:TypeId}{k:Nat}{v:Va}{n:Nat}{xs:rt}{w w':Wd}(h:w.ownsRow B e k v n xs)(a:Below w.heap.size w w'):w'.ownsRow B e k v n xs:=
 h.kept (row:=none) ⟨a.os,a.tape,a.output,a.size,fun j b _=>a.block j b⟩ (by cases c:v.ownBlock<;>simp)
def mS(k:Ky):dv:=⟨(db k).toArray⟩
theorem tZ{k:Ky}(h:keyErr k.alg k.kid k.key=0):(db k).length<=400:=by
 obtain⟨b,d,a,f⟩:=hI h;have e:(nameB k.alg).data.toList.length<=5:=by rcases b with h|h|h<;>rw[h]<;>decide
 have c:k.kid.data.toList.length<=40:=by simpa using a
 unfold db;simp only[JH,JM,JY,jb];omega
theorem tf(a:List (dj))(h:∀l∈a,l.length<=400):(Lib.join a [44]).length<=401*a.length:=by
 induction a with
 | nil=>simp[Lib.join]
 | cons l a ih=>
   have e:=h l (by simp);have d:=ih fun x c=>h x (by simp[c])
   cases a with
   | nil=>rw[Lib.join_one];simp;omega
   | cons z b=>
     have:Lib.join (l::z::b) [44]=l++([44]++Lib.join (z::b) [44]):=by simp[Lib.join,List.intercalate]
     rw[this];simp only[JH,JM,JY]at d ⊢;omega
theorem GW{a b:dv}{x y c d:Va}(h:a.data.toList=b.data.toList)(f:x=c)(e:y=d):Ending.returned (.tuple #[.string a,x,y])=.returned (.tuple #[.string b,c,d]):=by rw[FZ h,f,e]
structure JC (ks:rg) (w:Wd) (ov iv:Va) (i:Nat) (wr:Wd):Prop where
 le:i<=ks.length
 iv:iv=.int .i64 (i:Int)
 row:wr.ownsRow w.heap.size 9 1 ov ((ks.take i).map mS).length (((ks.take i).map mS).map Value.string)
 bel:Below w.heap.size w wr
 so:oX [] ks=oX (ks.take i) (ks.drop i)
 few:i<=20
 ok:∀k∈ks.take i,keyErr k.alg k.kid k.key=0
theorem Dp(x:Va)(a:rg)(w:Wd)(B:KR w x a)(hG:WG w)(hl:a.length<=140737488355328)(P:∀k∈a,k.kid.size<=4611686018427387904/\k.key.size<=4611686018427387904):Calls prog 25 #[x] w fun r D=>r=.returned (.tuple #[.string ⟨(prT a).1.toArray⟩,.int .i64 (prT a).2.1,.int .i64 ((prT a).2.2:Int)])/\Below w.heap.size w D:=by
 obtain⟨i0,Q,ao,aD,ar⟩:=sE AC;have HI:=ci Q;have HK:=ci B;obtain⟨ad,aB,rfl,aH,B⟩:=B;have HX:=ci B;have HG:=ci hG;have HZ:=ci P;have hp:Hid (prT a=match oX [] a with|none=>(rB a,0,0)|some (e,i)=>([],e,i)):=by unfold prT;exact rfl
 clear B Q hG P;generalize prT a=T at *;go_enter func25,ntmps25;go_wp2_with fail
 go_loopw [5,11] (fun ov O wr=>∃i:Nat,JC a w ov O i wr) (fun _ O _=>a.length-(intOf O).toNat)
 case atStart=>exact⟨0,⟨KI _,rfl,Le _ _ _ _,JI _ _,rfl,by omega,fun k f=>by simp at f⟩⟩
 case round=>
  obtain⟨i,t⟩:=hrel;obtain rfl:=t.iv;have b:=ci t;have aJ:=t.le;have aL:=t.few;have ap:=t.bel.size;clear t;by_cases au:i<a.length
  ·have k1:(i:Int)<(a.length:Int):=by omega
   obtain⟨k,f⟩:∃k,a[i]?=some k:=⟨_,JF au⟩;obtain⟨g,aK,rfl,U,a1,a2⟩:=HX.out i k f;have c0:=cl b.out.bel U;have c1:=cl b.out.bel a1;have c2:=cl b.out.bel a2;have V:a.take (i+1)=a.take i++[k]:=by rw[Lf,f];rfl
   have p:=zn a i k f;have S:=JZ f;have s:=ci V;have ah:=ci p;have X:=HZ.out k S;have aw:(a.take i).length=i:=by rw[J6];omega
   have ac:=fun m (H:Below w.heap.size w m)=>DY _ (a.take i) k m ((HK.out.take i (by omega)).below H) (HG.out.below H) (by omega) X.1 X.2
   have ai:=ci ac;clear V p f U a1 a2 ac S;have I:=ci ((b.out.bel.alloc ap (.cells #[.int .i64 k.alg,.string k.kid,.string k.key] 73)).drew);go_wp2_with fail
   go_region_with (go_at_call 54;refine(ai.out _ I.out).mono ?_;rintro e m ⟨rfl,v⟩;have d0:m.cell? ⟨wr.heap.size,0,none⟩=some (.int .i64 k.alg):=cl v (by simp);have d1:m.cell? ⟨wr.heap.size,1,none⟩=some (.string k.kid):=cl v (by simp);have d2:m.cell? ⟨wr.heap.size,2,none⟩=some (.string k.key):=cl v (by simp);have G:=ci (I.out.trans (v.mono I.out.size));have ae:=ci (l9 (b.out.row.alloc _).drew v);clear v)
   all_goals
    obtain⟨q,d⟩:∃q,kc (a.take i) k=q:=⟨_,rfl⟩;rw[d];by_cases C:q=0
    ·subst C
     have o:=(vd d).2;have av:=(vd d).1;rw[aw]at av;have n:=ah.out;rw[if_pos d]at n;have M:=ci n;have aa:=fun m (H:Below w.heap.size w m)=>Eo k m (HG.out.below H) o
     have HW:=ci aa;have an:=ci o;have hm:(a.take (i+1)).map mS=(a.take i).map mS++[mS k]:=by rw[s.out,Kj];rfl
     have HM:=ci hm;have aC:((a.take i).map mS).length<=8796093022208:=by rw[Kq];omega
     clear d n aa o hm;go_wp2_with fail
     refine(HW.out _ G.out).mono ?_;rintro r W ⟨rfl,u⟩;have E:=ci (G.out.trans (u.mono G.out.size));have ak:=ci (l9 ae.out u);have al:=E.out.size;clear u ae d0 d1 d2;go_wp2_with (at_builtin;go_must (refine DP rfl (.tmp 25) (.tmp 28) 103 rfl 9 i0 underlying103 HI.out ao aD ar w.heap.size u5 ((a.take i).map mS) (mS k) W rfl ak.out al aC rfl ?_;intro y w3 L af;rw[<-HM.out]at L;have aE:=ci L;have ay:=ci (E.out.trans af);clear L af))
     go_roundw
     case rel=>exact⟨i+1,⟨by omega,by go_num,aE.out,ay.out,by rw[b.out.so,M.out],by omega,fun k' ab=>by
      rw[s.out]at ab;rcases KX.1 ab with h|h
      ·exact b.out.ok k' h
      ·rw[Lw.1 h];exact an.out⟩⟩
     case measure=>simp[intOf];omega
    ·have HQ:=ci d
     have e2:(q != 0)=true:=by simp[C]
     have n:=ah.out;rw[if_neg (by rw[d];exact C),d]at n;have M:=ci n;clear d C n;go_wp2_with fail
     go_ret3
     refine⟨?_,G.out⟩;rw[hp.out,b.out.so,M.out];rfl
  ·have k1:¬(i:Int)<(a.length:Int):=by omega
   obtain rfl:i=a.length:=by omega
   have z:=b.out.row;have p:=b.out.so;have o:=b.out.ok;rw[LD]at z o;rw[LD,List.drop_length]at p;have ag:oX [] a=none:=p.trans rfl;have s:=hp.out;rw[ag]at s;have aA:=ci s;have Z:=ci b.out.bel;have am:(Lib.join (a.map db) [44]).length<=401*a.length:=by
    have:=tf (a.map db) (fun l hl=>by obtain⟨k,f,rfl⟩:=Ly.1 hl;exact tZ (o k f));simpa using this
   have K:((a.map mS).map (·.data.toList))=a.map db:=by rw[List.map_map];apply List.map_congr_left;intro k _;rfl
   have Y:Calls prog 56 #[u5,.string ⟨#[44]⟩] wr fun e D=>e=.returned (.string ⟨(Lib.join (a.map db) [44]).toArray⟩)/\Below wr.heap.size wr D:=by
    have az:∀(g j:Nat),(⟨g,0,none⟩:Addr).add j=⟨g,j,none⟩:=fun g j=>by unfold Addr.add;split<;>simp_all
    rcases z.2 with⟨A,h0⟩|⟨g,c,cu,A,aI,aG,aF,_⟩
    ·have:a=[]:=by simpa using h0
     subst this;rw[A];exact(strings_Join_none none 0 ⟨#[44]⟩ wr).mono fun e D R=>⟨R.1,by rw[R.2];exact JI _ _⟩
    ·rw[A]
     have hc:=z.cells (g:=g) (by rw[A];rfl);have:=strings_Join g 0 c (a.map mS) ⟨#[44]⟩ wr (fun j x hj=>by
      have:=hc j (.string x) (by rw[KM,hj];rfl);rw[az]at this;rwa [J3]) (z.lt g (by rw[A];rfl)).2 (by rw[Kq];omega) aF (by rw[K];show(Lib.join (a.map db) [44]).length<=_;omega)
     rw[K]at this;exact this
   have HJ:=ci Y;have aj:∃J:dv,J=⟨(Lib.join (a.map db) [44]).toArray⟩:=⟨_,rfl⟩;obtain⟨J,F⟩:=aj;have N:=HJ.out;rw[<-F]at N;have aq:=ci N;have aM:J.size<=10000:=by rw[F];show(Lib.join (a.map db) [44]).toArray.size<=10000;simp;omega
   have ax:Hid (rB a=sz++J.data.toList++[93,125]):=by rw[F];exact rfl
   clear z p o ag s am K Y HJ F N b;go_wp2_with fail
   refine aq.out.mono ?_;rintro r W ⟨rfl,u⟩;have E:=ci (Z.out.trans (u.mono Z.out.size));clear u;go_wp2;go_ret3
   refine⟨?_,E.out⟩;rw[aA.out];refine GW ?_ rfl rfl;rw[ax.out];simp[sz]
end Go.Proofs.YtihboehpeehlmaaGreatDoor.Dg
