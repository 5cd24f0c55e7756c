import Derived.Test.YtihboehpeehlmaaGreatDoorJPureP
import Derived.Test.YtihboehpeehlmaaGreatDoorShelf
set_option maxHeartbeats 1000000
namespace Go.Proofs.YtihboehpeehlmaaGreatDoor
open Tryz
open Go.RowKit
set_option linter.unusedVariables false
def Dk(s:dv)(i:Nat)(vL:Va)(dp:Nat):Array Value:= #[.string s,.int .i64 (i:Int),vL,.int .i64 (dp:Int)]
def CD(bp:Nat)(s:dv)(i:Nat)(vL:Va)(dp:Nat)(w:Wd):Prop:=w.heap[bp]?=some (.cells (Dk s i vL dp) 182 (0,0))
def fv(e a:Nat):Va:=.agg #[.int .i64 (e:Int),.int .i64 (a:Int)]
def gI(e a:Nat):List PanicEntry:=[{v:=.iface 184 (fv e a),recovered:=false}]
theorem CD.cell{a:Nat}{s:dv}{i:Nat}{b:Va}{c:Nat}{w:Wd}(h:CD a s i b c w):w.cell? ⟨a,0,none⟩=some (.string s)/\w.cell? ⟨a,1,none⟩=some (.int .i64 (i:Int))/\w.cell? ⟨a,2,none⟩=some b/\w.cell? ⟨a,3,none⟩=some (.int .i64 (c:Int))/\(∀k,w.frozen? ⟨a,k,none⟩=false):=by
 refine⟨?_,?_,?_,?_,?_⟩
 ·rw[JE w a 0 _ _ _ h];rfl
 ·rw[JE w a 1 _ _ _ h];rfl
 ·rw[JE w a 2 _ _ _ h];rfl
 ·rw[JE w a 3 _ _ _ h];rfl
 ·intro k;unfold CD at h;simp[World.frozen?,h]
section
variable {Z:Nat} {s:dv} {i:Nat} {Y:Va} {X:Nat} {w:Wd}
theorem CD.setI(h:CD Z s i Y X w)(j:Nat):CD Z s j Y X (w.setCell ⟨Z,1,none⟩ (.int .i64 (j:Int))):=by
 rw[JV w Z 1 _ _ _ _ h];exact J7 w Z _ _ _ _ h
theorem CD.setL(h:CD Z s i Y X w)(v:Va):CD Z s i v X (w.setCell ⟨Z,2,none⟩ v):=by
 rw[JV w Z 2 _ _ _ _ h];exact J7 w Z _ _ _ _ h
theorem CD.setD(h:CD Z s i Y X w)(j:Nat):CD Z s i Y j (w.setCell ⟨Z,3,none⟩ (.int .i64 (j:Int))):=by
 rw[JV w Z 3 _ _ _ _ h];exact J7 w Z _ _ _ _ h
theorem CD.lt(h:CD Z s i Y X w):Z<w.heap.size:=(go.1 h).1
theorem CD.drewN(h:CD Z s i Y X w)(n:Nat):CD Z s i Y X (w.drewN n):=h
theorem CD.alloc(h:CD Z s i Y X w)(o:Obj):CD Z s i Y X (w.alloc o):=by
 unfold CD;rw[JO _ _ h.lt];exact h
end
theorem jn(e a:Nat)(w:Wd):Calls prog 192 #[.int .i64 (e:Int),.int .i64 (a:Int)] w fun r b=>r=.panicked (gI e a)/\b=w:=by
 go_enter func192,ntmps192;go_wp2;exact⟨rfl,rfl,rfl⟩
def pk(l:dj):UInt8:=l.head?.getD 0
theorem ji(a:Nat)(s:dv)(i:Nat)(c:Va)(d:Nat)(w:Wd)(h:CD a s i c d w)(k:i<=s.size):Calls prog 188 #[.pointer (some ⟨a,0,none⟩)] w fun r e=>r=.returned (.int .u8 ((pk (b9 s i)).toNat:Int))/\CD a s i c d e/\ca a w e:=by
 obtain⟨o,p,q,n,l⟩:=h.cell;by_cases g:i=s.size
 ·have f:((i:Int)==(s.size:Int))=true:=by simp[g]
  have b:pk (b9 s i)=0:=by rw[cU s i (by omega)];rfl
  rw[b];go_enter func188,ntmps188;go_wp2
  go_quiet (fail);go_wp2;go_ret;exact⟨rfl,h.drewN _,(ce a w).drewN _⟩
 ·have f:((i:Int)==(s.size:Int))=false:=by simp;omega
  have j:i<s.size:=by omega
  have b:pk (b9 s i)=s[i]:=by rw[cg s i j];rfl
  rw[b];go_enter func188,ntmps188;go_wp2
  go_quiet (fail);go_wp2
  go_quiet (fail);go_wp2;go_ret;exact⟨rfl,(h.drewN _).drewN _,((ce a w).drewN _).drewN _⟩
theorem l7(a:Nat)(s:dv)(i:Nat)(b:Va)(c:Nat)(w:Wd)(h:CD a s i b c w):Calls prog 163 #[.pointer (some ⟨a,0,none⟩)] w fun r f=>r=.panicked (gI 2 i)/\f=w:=by
 obtain⟨g,l,n,m,k⟩:=h.cell;have d:=jn 2 i w
 go_enter func163,ntmps163;go_wp2_with fail
 refine d.mono ?_;rintro e j ⟨rfl,rfl⟩;go_wp2;exact⟨rfl,rfl,rfl⟩
theorem fU{l:dj}{c:UInt8}(h:l.head?=some c):pk l=c:=by simp[pk,h]
theorem kV{l:dj}{c:UInt8}(b:c≠0)(h:l.head?≠some c):pk l≠c:=by
 match l with
 | []=>simpa [pk]using fun e=>b e.symm
 | a::r=>simpa [pk]using h
section
variable (Z:Nat) (s:dv) (i:Nat) (Y:Va) (X:Nat) (c:UInt8) (w:Wd)
theorem fQ(l:s.size<=140737488355328)(h:CD Z s i Y X w)(d:(b9 s i).head?=some c):Calls prog 221 #[.pointer (some ⟨Z,0,none⟩),.int .u8 (c.toNat:Int)] w fun r f=>r=.returned (.bool true)/\CD Z s (i+1) Y X f/\ca Z w f:=by
 have n:=dr d;have q:i<=140737488355328:=by omega
 have b:=ji Z s i Y X w h (by omega);rw[fU d]at b;go_enter func221,ntmps221;go_wp2_with fail
 refine b.mono ?_;rintro e o ⟨rfl,a,g⟩;have k:Hid _:=g;obtain⟨m,t,v,u,j⟩:=a.cell;go_wp2;go_ret;exact⟨rfl,a.setI (i+1),ca.setCell k.out _ a⟩
theorem gt(h:CD Z s i Y X w)(b:i<=s.size)(l:c≠0)(f:(b9 s i).head?≠some c):Calls prog 221 #[.pointer (some ⟨Z,0,none⟩),.int .u8 (c.toNat:Int)] w fun r a=>r=.returned (.bool false)/\CD Z s i Y X a/\ca Z w a:=by
 have d:=ji Z s i Y X w h b;have n:(((pk (b9 s i)).toNat:Int)==(c.toNat:Int))=false:=by
  rw[JJ];intro e;exact kV l f (K9.1 (by exact_mod_cast e))
 go_enter func221,ntmps221;go_wp2_with fail
 refine d.mono ?_;rintro e m ⟨rfl,j,g⟩;have k:Hid _:=g;go_wp2;go_ret;exact⟨rfl,j,k.out⟩
theorem hJ(b:s.size<=140737488355328)(h:CD Z s i Y X w)(f:(b9 s i).head?=some c):Calls prog 205 #[.pointer (some ⟨Z,0,none⟩),.int .u8 (c.toNat:Int)] w fun r a=>r=.returned (.tuple #[])/\CD Z s (i+1) Y X a/\ca Z w a:=by
 have d:=fQ Z s i Y X c w b h f;go_enter func205,ntmps205;go_wp2_with fail
 refine d.mono ?_;rintro e l ⟨rfl,j,g⟩;have k:Hid _:=g;go_wp2;go_end0
 exact⟨rfl,j,k.out⟩
theorem jx(h:CD Z s i Y X w)(d:i<=s.size)(n:c≠0)(j:(b9 s i).head?≠some c):Calls prog 205 #[.pointer (some ⟨Z,0,none⟩),.int .u8 (c.toNat:Int)] w fun r b=>r=.panicked (gI 2 i)/\CD Z s i Y X b/\ca Z w b:=by
 have g:=gt Z s i Y X c w h d n j;go_enter func205,ntmps205;go_wp2_with fail
 refine g.mono ?_;rintro e f ⟨rfl,a,k⟩;have m:Hid _:=k;have l:=l7 Z s i Y X f a;go_wp2_with fail
 refine l.mono ?_;rintro e o ⟨rfl,rfl⟩;go_wp2;exact⟨rfl,rfl,a,m.out⟩
end
def run(p:UInt8->Bool):dj->Nat|[]=>0|c::r=>if p c then run p r+1 else 0
theorem qo(p:UInt8->Bool)(l:dj):run p l<=l.length:=by
 induction l with
 | nil=>simp[run]
 | cons c r ih=>rw[run];split<;>simp<;>omega
theorem pb(p:UInt8->Bool)(s:dv)(i:Nat)(h:i<s.size)(a:p s[i]=true):run p (b9 s i)=run p (b9 s (i+1))+1:=by rw[cg s i h,run,if_pos a]
theorem oM(p:UInt8->Bool)(l:dj)(a:p 0=false)(h:p (pk l)=false):run p l=0:=by
 match l with
 | []=>rfl
 | c::r=>rw[run,if_neg (by simpa [pk]using h)]
theorem FK(l:dj):run iS l=nb l:=by
 induction l with
 | nil=>rfl
 | cons c r ih=>rw[run,nb,ih]
theorem Fk(l:dj):run d8 l=nd l:=by
 induction l with
 | nil=>rfl
 | cons c r ih=>rw[run,nd,ih]
theorem zY(l:dj):run jJ l=nl l:=by
 induction l with
 | nil=>rfl
 | cons c r ih=>rw[run,nl,ih]
def EU(K:Nat)(p:UInt8->Bool):Prop:=∀(c:UInt8) (w:Wd),Calls prog K #[.int .u8 (c.toNat:Int)] w fun e w'=>e=.returned (.bool (p c))/\w'=w
theorem FI:EU 187 iS:=by
 intro c w;by_cases d:c=32
 ·subst d
  go_enter func187,ntmps187;go_wp2;go_ret;exact⟨rfl,rfl⟩
 ·by_cases b:c=9
  ·subst b
   go_enter func187,ntmps187;go_wp2;go_ret;exact⟨rfl,rfl⟩
  ·by_cases a:c=10
   ·subst a
    go_enter func187,ntmps187;go_wp2;go_ret;exact⟨rfl,rfl⟩
   ·have k:((c.toNat:Int)==32)=false:=by rw[JJ];intro e;exact d (K9.1 (by simpa using by omega))
    have l:((c.toNat:Int)==9)=false:=by rw[JJ];intro e;exact b (K9.1 (by simpa using by omega))
    have j:((c.toNat:Int)==10)=false:=by rw[JJ];intro e;exact a (K9.1 (by simpa using by omega))
    have h:iS c=((c.toNat:Int)==13):=by
     have g:=JJ.2 d;have f:=JJ.2 b;have i:=JJ.2 a;rw[iS,g,f,i,Nt,Nt,Nt,Nm,beq_iff_eq,beq_iff_eq];constructor
     ·rintro rfl;rfl
     ·intro e;exact K9.1 (by simpa using by omega)
    rw[h];go_enter func187,ntmps187;go_wp2;go_ret;exact⟨rfl,rfl⟩
theorem zq:EU 209 d8:=by
 intro c w;by_cases a:48<=c.toNat
 ·have e:(48:Int)<=(c.toNat:Int):=by omega
  by_cases b:c.toNat<=57
  ·have d:(c.toNat:Int)<=57:=by omega
   go_enter func209,ntmps209;go_wp2;go_ret;exact⟨by simp[d8,a,b],rfl⟩
  ·have d:(57:Int)<(c.toNat:Int):=by omega
   go_enter func209,ntmps209;go_wp2;go_ret;exact⟨by simp[d8,b];omega,rfl⟩
 ·have e:(c.toNat:Int)<48:=by omega
  go_enter func209,ntmps209;go_wp2;go_ret;exact⟨by simp[d8,a],rfl⟩
theorem FT:EU 227 jJ:=by
 intro c w;by_cases a:97<=c.toNat
 ·have e:(97:Int)<=(c.toNat:Int):=by omega
  by_cases b:c.toNat<=122
  ·have d:(c.toNat:Int)<=122:=by omega
   go_enter func227,ntmps227;go_wp2;go_ret;exact⟨by simp[jJ,a,b],rfl⟩
  ·have d:(122:Int)<(c.toNat:Int):=by omega
   go_enter func227,ntmps227;go_wp2;go_ret;exact⟨by simp[jJ,b];omega,rfl⟩
 ·have e:(c.toNat:Int)<97:=by omega
  go_enter func227,ntmps227;go_wp2;go_ret;exact⟨by simp[jJ,a],rfl⟩
theorem gg{a:Nat}{s:dv}{i:Nat}{b:Va}{c:Nat}{w:Wd}(h:CD a s i b c w):dU (w.cell? ⟨a,1,none⟩)=i:=by rw[h.cell.2.1];rfl
theorem pu{a:Nat}{s:dv}{i:Nat}{b:Va}{c:Nat}{w:Wd}(h:CD a s i b c w)(k:Nat):dU ((w.setCell ⟨a,1,none⟩ (.int .i64 ((k:Int)+1))).cell? ⟨a,1,none⟩)=k+1:=gg (h.setI (k+1))
theorem p8(a:Nat)(s:dv)(i:Nat)(n:Va)(j:Nat)(w:Wd)(R:s.size<=140737488355328)(h:CD a s i n j w)(H:i<=s.size):Calls prog 186 #[.pointer (some ⟨a,0,none⟩),.func (.func 187) #[] #[]] w fun r m=>r=.returned (.string (s.extract i (i+run iS (b9 s i))))/\CD a s (i+run iS (b9 s i)) n j m/\ca a w m:=by
 generalize g:i+run iS (b9 s i)=E
 have B:Hid _:=g;clear g;obtain⟨u,p,q,t,l⟩:=h.cell;go_enter func186,ntmps186;go_wp2
 clear u p q t l;go_loopw [10] (fun v wr=>∃k:Nat,k<=s.size/\i<=k/\k+run iS (b9 s k)=E/\CD a s k n j wr/\ca a w wr) (fun _ wr=>s.size-dU (wr.cell? ⟨a,1,none⟩))
 case atStart=>exact⟨i,H,JQ _,B.out,h,ce a w⟩
 case round=>
  clear h B;obtain⟨k,M,P,g,h,D⟩:=hrel;have o:Hid _:=g;have F:Hid _:=D;have G:=gg h;have x:Hid _:=G;clear g D G;have A:=ji a s k n j wr h M
  have c:=fun m=>FI (pk (b9 s k)) m
  go_wp2_with fail
  refine A.mono ?_;rintro e U ⟨rfl,f,y⟩;clear A;have C:Hid _:=F.out.trans y;clear y F;cases b:iS (pk (b9 s k))with
  | true=>
    rw[b]at c;have z:k<s.size:=by
     by_cases K:k<s.size
     ·exact K
     ·rw[cU s k (by omega)]at b;cases b
    have d:=o.out;rw[pb iS s k z (by rw[cg s k z]at b;exact b)]at d;have L:Hid _:=d;clear d o b;go_wp2_with fail
    refine(c _).mono ?_;rintro e J ⟨rfl,rfl⟩;clear c;obtain⟨u,p,q,t,l⟩:=f.cell;go_wp2;refine⟨⟨k+1,by omega,by omega,by have:=L.out;omega,f.setI (k+1),ca.setCell C.out _ f⟩,?_⟩;rw[x.out,pu f k];omega
  | false=>
    rw[b]at c;have d:=o.out;rw[oM iS _ rfl b]at d;have I:k=E:=by omega
    subst I;clear d o b x;go_wp2_with fail
    refine(c _).mono ?_;rintro e J ⟨rfl,rfl⟩;clear c;obtain⟨u,p,q,t,l⟩:=f.cell
    go_wp2
    go_quiet (fail);go_wp2;go_ret;exact⟨rfl,f.drewN _,ca.drewN C.out _⟩
theorem p9(a:Nat)(s:dv)(i:Nat)(n:Va)(j:Nat)(w:Wd)(R:s.size<=140737488355328)(h:CD a s i n j w)(H:i<=s.size):Calls prog 186 #[.pointer (some ⟨a,0,none⟩),.func (.func 209) #[] #[]] w fun r m=>r=.returned (.string (s.extract i (i+run d8 (b9 s i))))/\CD a s (i+run d8 (b9 s i)) n j m/\ca a w m:=by
 generalize g:i+run d8 (b9 s i)=E
 have B:Hid _:=g;clear g;obtain⟨u,p,q,t,l⟩:=h.cell;go_enter func186,ntmps186;go_wp2
 clear u p q t l;go_loopw [10] (fun v wr=>∃k:Nat,k<=s.size/\i<=k/\k+run d8 (b9 s k)=E/\CD a s k n j wr/\ca a w wr) (fun _ wr=>s.size-dU (wr.cell? ⟨a,1,none⟩))
 case atStart=>exact⟨i,H,JQ _,B.out,h,ce a w⟩
 case round=>
  clear h B;obtain⟨k,M,P,g,h,D⟩:=hrel;have o:Hid _:=g;have F:Hid _:=D;have G:=gg h;have x:Hid _:=G;clear g D G;have A:=ji a s k n j wr h M
  have c:=fun m=>zq (pk (b9 s k)) m
  go_wp2_with fail
  refine A.mono ?_;rintro e U ⟨rfl,f,y⟩;clear A;have C:Hid _:=F.out.trans y;clear y F;cases b:d8 (pk (b9 s k))with
  | true=>
    rw[b]at c;have z:k<s.size:=by
     by_cases K:k<s.size
     ·exact K
     ·rw[cU s k (by omega)]at b;cases b
    have d:=o.out;rw[pb d8 s k z (by rw[cg s k z]at b;exact b)]at d;have L:Hid _:=d;clear d o b;go_wp2_with fail
    refine(c _).mono ?_;rintro e J ⟨rfl,rfl⟩;clear c;obtain⟨u,p,q,t,l⟩:=f.cell;go_wp2;refine⟨⟨k+1,by omega,by omega,by have:=L.out;omega,f.setI (k+1),ca.setCell C.out _ f⟩,?_⟩;rw[x.out,pu f k];omega
  | false=>
    rw[b]at c;have d:=o.out;rw[oM d8 _ rfl b]at d;have I:k=E:=by omega
    subst I;clear d o b x;go_wp2_with fail
    refine(c _).mono ?_;rintro e J ⟨rfl,rfl⟩;clear c;obtain⟨u,p,q,t,l⟩:=f.cell
    go_wp2
    go_quiet (fail);go_wp2;go_ret;exact⟨rfl,f.drewN _,ca.drewN C.out _⟩
theorem qe(a:Nat)(s:dv)(i:Nat)(n:Va)(j:Nat)(w:Wd)(R:s.size<=140737488355328)(h:CD a s i n j w)(H:i<=s.size):Calls prog 186 #[.pointer (some ⟨a,0,none⟩),.func (.func 227) #[] #[]] w fun r m=>r=.returned (.string (s.extract i (i+run jJ (b9 s i))))/\CD a s (i+run jJ (b9 s i)) n j m/\ca a w m:=by
 generalize g:i+run jJ (b9 s i)=E
 have B:Hid _:=g;clear g;obtain⟨u,p,q,t,l⟩:=h.cell;go_enter func186,ntmps186;go_wp2
 clear u p q t l;go_loopw [10] (fun v wr=>∃k:Nat,k<=s.size/\i<=k/\k+run jJ (b9 s k)=E/\CD a s k n j wr/\ca a w wr) (fun _ wr=>s.size-dU (wr.cell? ⟨a,1,none⟩))
 case atStart=>exact⟨i,H,JQ _,B.out,h,ce a w⟩
 case round=>
  clear h B;obtain⟨k,M,P,g,h,D⟩:=hrel;have o:Hid _:=g;have F:Hid _:=D;have G:=gg h;have x:Hid _:=G;clear g D G;have A:=ji a s k n j wr h M
  have c:=fun m=>FT (pk (b9 s k)) m
  go_wp2_with fail
  refine A.mono ?_;rintro e U ⟨rfl,f,y⟩;clear A;have C:Hid _:=F.out.trans y;clear y F;cases b:jJ (pk (b9 s k))with
  | true=>
    rw[b]at c;have z:k<s.size:=by
     by_cases K:k<s.size
     ·exact K
     ·rw[cU s k (by omega)]at b;cases b
    have d:=o.out;rw[pb jJ s k z (by rw[cg s k z]at b;exact b)]at d;have L:Hid _:=d;clear d o b;go_wp2_with fail
    refine(c _).mono ?_;rintro e J ⟨rfl,rfl⟩;clear c;obtain⟨u,p,q,t,l⟩:=f.cell;go_wp2;refine⟨⟨k+1,by omega,by omega,by have:=L.out;omega,f.setI (k+1),ca.setCell C.out _ f⟩,?_⟩;rw[x.out,pu f k];omega
  | false=>
    rw[b]at c;have d:=o.out;rw[oM jJ _ rfl b]at d;have I:k=E:=by omega
    subst I;clear d o b x;go_wp2_with fail
    refine(c _).mono ?_;rintro e J ⟨rfl,rfl⟩;clear c;obtain⟨u,p,q,t,l⟩:=f.cell
    go_wp2
    go_quiet (fail);go_wp2;go_ret;exact⟨rfl,f.drewN _,ca.drewN C.out _⟩
theorem gH(a:Nat)(s:dv)(i:Nat)(b:Va)(c:Nat)(w:Wd)(g:s.size<=140737488355328)(h:CD a s i b c w)(j:i<=s.size):Calls prog 161 #[.pointer (some ⟨a,0,none⟩)] w fun r f=>r=.returned (.tuple #[])/\CD a s (i+nb (b9 s i)) b c f/\ca a w f:=by
 have d:=p8 a s i b c w g h j;rw[FK]at d;generalize i+nb (b9 s i)=E at d ⊢;go_enter func161,ntmps161;go_wp2_with fail
 refine d.mono ?_;rintro e n ⟨rfl,l,k⟩;have m:Hid _:=k;go_wp2;go_end0
 exact⟨rfl,l,m.out⟩
theorem A0(v:Va)(w:Wd):(Instr.typeAssert (.iface 184 v) 20 184 false).run prog w=.ok v w:=by kernel_rfl
theorem pI(b:Nat)(x y:Va)(e a:Nat)(d:List PanicEntry)(w:Wd)(c:w.heap[b]?=some (.cells #[x,y] 184 (0,0))):CallsD prog 160 #[.pointer (some ⟨b,0,none⟩)] (.panicking ({v:=.iface 184 (fv e a),recovered:=false}::d)) w fun r g i=>
 r=.returned (.tuple #[])/\g=.panicking ({v:=.iface 184 (fv e a),recovered:=true}::d)/\i=(w.setCell ⟨b,0,none⟩ (.int .i64 (e:Int))).setCell ⟨b,1,none⟩ (.int .i64 (a:Int)):=by
 have m:w.cell? ⟨b,0,none⟩=some x:=by rw[JE w b 0 _ _ _ c];rfl
 have p:w.cell? ⟨b,1,none⟩=some y:=by rw[JE w b 1 _ _ _ c];rfl
 have f:∀k,w.frozen? ⟨b,k,none⟩=false:=by intro k;simp[World.frozen?,c]
 refine callsD_of_wpS func160 rfl fun q n h=>?_
 apply wpS_seq;apply wpS_region;simp[wpOpsS,go_sem,recoverD,h,ntmps160,Exit.thenS];apply wpS_seq;apply wpS_region;simp[wpOpsS,go_sem,Exit.thenS,fv];refine wpS_cond (t:=true) (by simp[Act.eval,Array.replicate]) ?_;simp only[if_true];have j:=A0;refine wpS_of_wp ?_;change Code.wp _ _ _ ⟨#[.pointer (some ⟨b,0,none⟩),.iface 184 (.agg #[.int .i64 (e:Int),.int .i64 (a:Int)]),.iface 184 (.agg #[.int .i64 (e:Int),.int .i64 (a:Int)]),.iface 184 (.agg #[.int .i64 (e:Int),.int .i64 (a:Int)]),.bool true,undef,undef],[]⟩ w;go_wp2;simp[bodyPostS,results,results160]
theorem oC(b:Nat)(w:Wd):CallsD prog 160 #[.pointer (some ⟨b,0,none⟩)] .returning w fun r a e=>r=.returned (.tuple #[])/\a=.returning/\e=w:=by
 refine callsD_of_wpS func160 rfl fun d f c=>?_
 apply wpS_seq;apply wpS_region;simp[wpOpsS,go_sem,recoverD,c,ntmps160,Exit.thenS];apply wpS_seq;apply wpS_region;simp[wpOpsS,go_sem,Exit.thenS];refine wpS_cond (t:=false) (by simp[Act.eval,Array.replicate]) ?_;simp only[Bool.false_eq_true,L1];refine wpS_of_wp (wp_skip ?_);cases d;simp_all [bodyPostS,results,results160]
theorem ps(d:Nat)(w:Wd)(e:Nat)(S:Nat->Wd->Prop)(j:Calls prog 130 #[.pointer (some ⟨d,0,none⟩)] (w.alloc (.cells #[.int .i64 0,.int .i64 0] 184)) fun r b=>∃a,r=.panicked (gI e a)/\b.heap[w.heap.size]?=some (.cells #[.int .i64 0,.int .i64 0] 184 (0,0))/\S a b):Calls prog 129 #[.func (.func 130) #[.pointer (some ⟨d,0,none⟩)] #[]] w fun r o=>∃a,r=.returned (fv e a)/\∃b,S a b/\ca w.heap.size b o:=by
 go_enter_defers func129,ntmps129
 go_wp2_with fail
 refine j.mono ?_;rintro r b ⟨a,rfl,c,m⟩;go_wp2;refine leaves_cons (f:=160) (args:= #[.pointer (some ⟨w.heap.size,0,none⟩)]) (by simp) (by simp[go_sem]) ?_;refine(pI w.heap.size _ _ e a [] _ c).mono ?_;rintro r s p ⟨rfl,rfl,rfl⟩;have l:=JE b w.heap.size 0 _ _ _ c;have n:=JE b w.heap.size 1 _ _ _ c;have k:ca w.heap.size b ((b.setCell ⟨w.heap.size,0,none⟩ (.int .i64 (e:Int))).setCell ⟨w.heap.size,1,none⟩ (.int .i64 (a:Int))):=ca.setCell (ca.setCell (ce _ b) _ c) _ (by rw[JV b _ 0 _ _ _ _ c];exact J7 b _ _ _ _ _ c);simp[Leaves,settle,results,results129,go_sem,l,n,fv];exact⟨a,rfl,b,m,k⟩
theorem qg(c:Nat)(w:Wd)(S:Wd->Prop)(h:Calls prog 130 #[.pointer (some ⟨c,0,none⟩)] (w.alloc (.cells #[.int .i64 0,.int .i64 0] 184)) fun r a=>r=.returned (.tuple #[])/\a.heap[w.heap.size]?=some (.cells #[.int .i64 0,.int .i64 0] 184 (0,0))/\S a):Calls prog 129 #[.func (.func 130) #[.pointer (some ⟨c,0,none⟩)] #[]] w fun r m=>r=.returned (fv 0 0)/\∃a,S a/\ca w.heap.size a m:=by
 go_enter_defers func129,ntmps129
 go_wp2_with fail
 refine h.mono ?_;rintro r a ⟨rfl,b,k⟩;have j:=JE a w.heap.size 0 _ _ _ b;have l:=JE a w.heap.size 1 _ _ _ b;have o:a.frozen? ⟨w.heap.size,0,none⟩=false:=by simp[World.frozen?,b]
 have q:a.frozen? ⟨w.heap.size,1,none⟩=false:=by simp[World.frozen?,b]
 go_wp2;refine leaves_cons (f:=160) (args:= #[.pointer (some ⟨w.heap.size,0,none⟩)]) (by simp) (by simp[go_sem]) ?_;refine(oC w.heap.size _).mono ?_;rintro r s n ⟨rfl,rfl,rfl⟩;have i:ca w.heap.size a ((a.setCell ⟨w.heap.size,0,none⟩ (.int .i64 0)).setCell ⟨w.heap.size,1,none⟩ (.int .i64 0)):=ca.setCell (ca.setCell (ce _ a) _ b) _ (by rw[JV a _ 0 _ _ _ _ b];exact J7 a _ _ _ _ _ b);simp[Leaves,settle,results,results129,go_sem,j,l,fv];exact⟨a,k,i⟩
theorem p7(h a2:Nat)(w:Wd)(e:Nat)(S:Nat->Wd->Prop)(j:Calls prog 269 #[.pointer (some ⟨h,0,none⟩),.pointer (some ⟨a2,0,none⟩)] (w.alloc (.cells #[.int .i64 0,.int .i64 0] 184)) fun r b=>∃a,r=.panicked (gI e a)/\b.heap[w.heap.size]?=some (.cells #[.int .i64 0,.int .i64 0] 184 (0,0))/\S a b):Calls prog 129 #[.func (.func 269) #[] #[.pointer (some ⟨h,0,none⟩),.pointer (some ⟨a2,0,none⟩)]] w fun r o=>∃a,r=.returned (fv e a)/\∃b,S a b/\ca w.heap.size b o:=by
 go_enter_defers func129,ntmps129
 go_wp2_with fail
 refine j.mono ?_;rintro r b ⟨a,rfl,c,m⟩;go_wp2;refine leaves_cons (f:=160) (args:= #[.pointer (some ⟨w.heap.size,0,none⟩)]) (by simp) (by simp[go_sem]) ?_;refine(pI w.heap.size _ _ e a [] _ c).mono ?_;rintro r s p ⟨rfl,rfl,rfl⟩;have l:=JE b w.heap.size 0 _ _ _ c;have n:=JE b w.heap.size 1 _ _ _ c;have k:ca w.heap.size b ((b.setCell ⟨w.heap.size,0,none⟩ (.int .i64 (e:Int))).setCell ⟨w.heap.size,1,none⟩ (.int .i64 (a:Int))):=ca.setCell (ca.setCell (ce _ b) _ c) _ (by rw[JV b _ 0 _ _ _ _ c];exact J7 b _ _ _ _ _ c);simp[Leaves,settle,results,results129,go_sem,l,n,fv];exact⟨a,rfl,b,m,k⟩
theorem rT(e a2:Nat)(w:Wd)(S:Wd->Prop)(h:Calls prog 269 #[.pointer (some ⟨e,0,none⟩),.pointer (some ⟨a2,0,none⟩)] (w.alloc (.cells #[.int .i64 0,.int .i64 0] 184)) fun r a=>r=.returned (.tuple #[])/\a.heap[w.heap.size]?=some (.cells #[.int .i64 0,.int .i64 0] 184 (0,0))/\S a):Calls prog 129 #[.func (.func 269) #[] #[.pointer (some ⟨e,0,none⟩),.pointer (some ⟨a2,0,none⟩)]] w fun r m=>r=.returned (fv 0 0)/\∃a,S a/\ca w.heap.size a m:=by
 go_enter_defers func129,ntmps129
 go_wp2_with fail
 refine h.mono ?_;rintro r a ⟨rfl,b,k⟩;have j:=JE a w.heap.size 0 _ _ _ b;have l:=JE a w.heap.size 1 _ _ _ b;have o:a.frozen? ⟨w.heap.size,0,none⟩=false:=by simp[World.frozen?,b]
 have q:a.frozen? ⟨w.heap.size,1,none⟩=false:=by simp[World.frozen?,b]
 go_wp2;refine leaves_cons (f:=160) (args:= #[.pointer (some ⟨w.heap.size,0,none⟩)]) (by simp) (by simp[go_sem]) ?_;refine(oC w.heap.size _).mono ?_;rintro r s n ⟨rfl,rfl,rfl⟩;have i:ca w.heap.size a ((a.setCell ⟨w.heap.size,0,none⟩ (.int .i64 0)).setCell ⟨w.heap.size,1,none⟩ (.int .i64 0)):=ca.setCell (ca.setCell (ce _ a) _ b) _ (by rw[JV a _ 0 _ _ _ _ b];exact J7 a _ _ _ _ _ b);simp[Leaves,settle,results,results129,go_sem,j,l,fv];exact⟨a,k,i⟩
def lN:dv:=⟨#[48,49,50,51,52,53,54,55,56,57,97,98,99,100,101,102,65,66,67,68,69,70]⟩
def hexX(c:UInt8):Int:=Lib.indexByte lN.data.toList c
def uv(c:UInt8):Bool:=match fA c with
 | none=>decide (hexX c= -1)
 | some d=>decide (0<=hexX c)&&decide (hexX c<=21)&&decide (d<16)&&(if 15<hexX c then decide (hexX c-6=(d:Int))else decide (hexX c=(d:Int)))
theorem xf:∀n,n<256->uv (UInt8.ofNat n)=true:=by decide +kernel
theorem u2(c:UInt8):uv c=true:=by have:=xf c.toNat c.toNat_lt;rwa [MJ]at this
theorem zb{c:UInt8}(h:fA c=none):hexX c= -1:=by have:=u2 c;rw[uv,h]at this;simpa using this
theorem qX{c:UInt8}{d:Nat}(h:fA c=some d):0<=hexX c/\hexX c<=21/\d<16/\(15<hexX c->hexX c-6=(d:Int))/\(¬15<hexX c->hexX c=(d:Int)):=by
 have:=u2 c;rw[uv,h]at this;simp only[Kz,Kx]at this;obtain⟨⟨⟨a,b⟩,g⟩,e⟩:=this;refine⟨a,b,g,?_,?_⟩
 ·intro f;rw[if_pos f]at e;simpa using e
 ·intro f;rw[if_neg f]at e;simpa using e
theorem og{k n o:Nat}{l:dj}(h:fA (pk l)=none):dH (k+1) n l o=(none,o):=by
 match l with
 | []=>rfl
 | c::r=>rw[dH];rw[show pk (c::r)=c from rfl]at h;rw[h]
theorem nN{s:dv}{i k n o d:Nat}(h:fA (pk (b9 s i))=some d):i<s.size/\dH (k+1) n (b9 s i) o=dH k (16*n+d) (b9 s (i+1)) (o+1):=by
 by_cases a:i<s.size
 ·refine⟨a,?_⟩
  rw[cg s i a]at h ⊢;rw[dH];rw[show pk (s[i]::b9 s (i+1))=s[i]from rfl]at h;rw[h]
 ·rw[cU s i (by omega)]at h;cases h
theorem Js(c:UInt8)(w:Wd):Calls prog 193 #[.string ⟨#[48,49,50,51,52,53,54,55,56,57,97,98,99,100,101,102,65,66,67,68,69,70]⟩,.int .u8 (c.toNat:Int)] w fun e a=>e=.returned (.int .i64 (hexX c))/\a=w:=by
 have h:=strings_IndexByte lN (c.toNat:Int) w;rw[show((c.toNat:Int).toNat.toUInt8)=c by simp]at h;exact h
def FP(bp:Nat)(s:dv)(i:Nat)(vL:Va)(dp:Nat)(r:Ending)(w':Wd):Option Nat×Nat->Prop
 | (some n,_)=>r=.returned (.int .i32 (n:Int))/\CD bp s (i+4) vL dp w'
 | (none,o)=>r=.panicked (gI 2 (i+o))/\CD bp s (i+o) vL dp w'
theorem EK(c:Nat)(s:dv)(i:Nat)(u:Va)(q:Nat)(w:Wd)(hs:s.size<=140737488355328)(h:CD c s i u q w)(U:i<=s.size):Calls prog 257 #[.pointer (some ⟨c,0,none⟩)] w fun r A=>FP c s i u q r A (dt (b9 s i))/\ca c w A:=by
 generalize t:dt (b9 s i)=E;have L:Hid _:=t;clear t;go_enter func257,ntmps257;go_wp2_with fail
 go_loopw [3,5] (fun T G wr=>∃k N:Nat,k<=4/\i+k<=s.size/\N<16^k/\T=.int .i64 (N:Int)/\G=.int .i64 (k:Int)/\dH (4-k) N (b9 s (i+k)) k=E/\CD c s (i+k) u q wr/\ca c w wr) (fun _ G _=>4-(intOf G).toNat)
 case atStart=>exact⟨0,0,by omega,U,by decide,rfl,rfl,L.out,h,ce c w⟩
 case round=>
  clear h L;obtain⟨k,N,hk,V,I,rfl,rfl,t,h,S⟩:=hrel;have m:Hid _:=t;have j:Hid _:=S;clear t S;have v:Hid _:=I;clear I;by_cases ae:k<4
  ·have P:(k:Int)<4:=by omega
   have W:(N:Int)<=4096:=by
    have:=v.out;have h2:16^k<=16^3:=K7 (by omega) (by omega);omega
   have l:=ji c s (i+k) u q wr h V;have g:=fun A=>Js (pk (b9 s (i+k))) A
   cases p:fA (pk (b9 s (i+k)))with
   | none=>
     rw[zb p]at g;have b:=m.out;rw[show 4-k=3-k+1 by omega,og p]at b;subst b;clear m p;go_wp2_with fail
     refine l.mono ?_;rintro e R ⟨rfl,a,f⟩;clear l;have x:Hid _:=j.out.trans f;clear f j;go_wp2_with fail
     refine(g _).mono ?_;rintro e F ⟨rfl,rfl⟩;clear g;have M:=l7 c s (i+k) u q F a;go_wp2_with fail
     refine M.mono ?_;rintro e w3 ⟨rfl,rfl⟩;clear M;go_wp2;exact⟨rfl,⟨rfl,a⟩,x.out⟩
   | some d=>
     obtain⟨ad,K⟩:=nN (k:=3-k) (n:=N) (o:=k) p;obtain⟨C,D,hd,z,y⟩:=qX p;have b:=m.out;rw[show 4-k=3-k+1 by omega,K]at b;have Q:Hid (dH (4-(k+1)) (16*N+d) (b9 s (i+(k+1))) (k+1)=E):=by rw[show 4-(k+1)=3-k by omega];exact b
     have O:Hid (16*N+d<16^(k+1)):=by show 16*N+d<16^(k+1);rw[LU];have:=v.out;omega
     clear m p b K v;generalize hexX (pk (b9 s (i+k)))=X at g C D z y;by_cases J:15<X
     ·have H:=z J
      clear z y;have ab:X=(d:Int)+6:=by omega
      subst ab;have aa:¬((d:Int)+6<0):=by omega
      clear H C D;go_wp2_with fail
      refine l.mono ?_;rintro e R ⟨rfl,a,f⟩;clear l;have x:Hid _:=j.out.trans f;clear f j;go_wp2_with fail
      refine(g _).mono ?_;rintro e F ⟨rfl,rfl⟩;clear g;obtain⟨c0,Y,Z,c3,B⟩:=a.cell;have f1:=B 1;go_wp2;refine⟨⟨k+1,16*N+d,by omega,by omega,O.out,by rw[show((16*N+d:Nat):Int)=(N:Int)*16+(d:Int)by omega],by rw[show((k+1:Nat):Int)=(k:Int)+1 by omega],Q.out,a.setI (i+(k+1)),ca.setCell x.out _ a⟩,?_⟩;simp only[intOf];omega
     ·have H:=y J
      clear z y;subst H
      clear C D;go_wp2_with fail
      refine l.mono ?_;rintro e R ⟨rfl,a,f⟩;clear l;have x:Hid _:=j.out.trans f;clear f j;go_wp2_with fail
      refine(g _).mono ?_;rintro e F ⟨rfl,rfl⟩;clear g;obtain⟨c0,Y,Z,c3,B⟩:=a.cell;go_wp2;refine⟨⟨k+1,16*N+d,by omega,by omega,O.out,by rw[show((16*N+d:Nat):Int)=(N:Int)*16+(d:Int)by omega],by rw[show((k+1:Nat):Int)=(k:Int)+1 by omega],Q.out,a.setI (i+(k+1)),ca.setCell x.out _ a⟩,?_⟩;simp only[intOf];omega
  ·have P:k=4:=by omega
   subst P;have W:(N:Int)<65536:=by have:=v.out;omega
   have b:=m.out;rw[show 4-4=0 from rfl,dH]at b;subst b;clear m v;go_wp2;go_ret;exact⟨⟨rfl,h⟩,j.out⟩
def sj(n:Nat):Bool:=decide (55296<=n)&&decide (n<56320)
def mQ(n:Nat):Bool:=decide (56320<=n)&&decide (n<57344)
theorem Jz(n:Nat)(w:Wd):Calls prog 258 #[.int .i32 (n:Int)] w fun e f=>e=.returned (.bool (sj n))/\f=w:=by
 by_cases a:55296<=n
 ·have d:(55296:Int)<=(n:Int):=by omega
  by_cases b:n<56320
  ·have c:(n:Int)<56320:=by omega
   go_enter func258,ntmps258;go_wp2;go_ret;exact⟨by simp[sj,a,b],rfl⟩
  ·have c:¬(n:Int)<56320:=by omega
   go_enter func258,ntmps258;go_wp2;go_ret;exact⟨by simp[sj,b],rfl⟩
 ·have d:¬(55296:Int)<=(n:Int):=by omega
  go_enter func258,ntmps258;go_wp2;go_ret;exact⟨by simp[sj,a],rfl⟩
theorem Jf(n:Nat)(w:Wd):Calls prog 261 #[.int .i32 (n:Int)] w fun e f=>e=.returned (.bool (mQ n))/\f=w:=by
 by_cases a:56320<=n
 ·have d:(56320:Int)<=(n:Int):=by omega
  by_cases b:n<57344
  ·have c:(n:Int)<57344:=by omega
   go_enter func261,ntmps261;go_wp2;go_ret;exact⟨by simp[mQ,a,b],rfl⟩
  ·have c:¬(n:Int)<57344:=by omega
   go_enter func261,ntmps261;go_wp2;go_ret;exact⟨by simp[mQ,b],rfl⟩
 ·have d:¬(56320:Int)<=(n:Int):=by omega
  go_enter func261,ntmps261;go_wp2;go_ret;exact⟨by simp[mQ,a],rfl⟩
def SP(bp:Nat)(s:dv)(i:Nat)(vL:Va)(dp:Nat)(r:Ending)(w':Wd):Option Nat->Prop
 | some m=>r=.returned (.int .i32 (m:Int))/\CD bp s (i+6) vL dp w'
 | none=>∃a j,r=.panicked (gI 2 a)/\CD bp s j vL dp w'
theorem ti{s:dv}{i:Nat}(h:(b9 s i).head?≠some 92):dP (b9 s i)=none:=by
 unfold dP;split
 ·next a b r he=>rw[he]at h;rw[if_neg];simp at h;exact fun e=>h e.1
 ·rfl
theorem sY{s:dv}{i:Nat}(h:(b9 s (i+1)).head?≠some 117):dP (b9 s i)=none:=by
 rw[<-cw s i 1]at h;unfold dP;split
 ·next a b r he=>rw[he]at h;rw[if_neg];simp at h;exact fun e=>h e.2
 ·rfl
def zF:Option Nat->Option Nat
 | some n=>if 56320<=n/\n<=57343 then some n else none
 | none=>none
theorem s9{s:dv}{i:Nat}(a:(b9 s i).head?=some 92)(b:(b9 s (i+1)).head?=some 117):dP (b9 s i)=zF (dt (b9 s (i+2))).1:=by
 have c:=dr a;have d:=dr b;rw[cg s i c]at a ⊢;rw[cg s (i+1) d]at b ⊢;simp only[Lr,Lg]at a b;rw[dP,if_pos ⟨a,b⟩];rfl
theorem qW{l:dj}{n o:Nat}(h:dt l=(some n,o)):n<65536:=by
 have g:∀(k N:Nat) (l:dj) (o n b:Nat),dH k N l o=(some n,b)->N<16^(4-k)->k<=4->n<65536:=by
  intro k;induction k with
  | zero=>intro N l o n b h f _;rw[dH]at h;injection h with a _;injection a with a;subst a;simpa using f
  | succ k ih=>
    intro N l o n b h f i;match l with
    | []=>rw[dH]at h;injection h with a _;cases a
    | c::r=>
      rw[dH]at h;cases e:fA c with
      | none=>rw[e]at h;injection h with a _;cases a
      | some d=>
        rw[e]at h;have j:=(qX e).2.2.1;refine ih (16*N+d) r (o+1) n b h ?_ (by omega);rw[show 4-k=4-(k+1)+1 by omega,LU];omega
 exact g 4 0 l 0 n o h (by decide) (by omega)
section
variable (Z:Nat) (s:dv) (i:Nat) (Y:Va) (X:Nat) (w:Wd)
theorem GP(K:s.size<=140737488355328)(h:CD Z s i Y X w)(N:i<=s.size):Calls prog 260 #[.pointer (some ⟨Z,0,none⟩)] w fun r j=>SP Z s i Y X r j (dP (b9 s i))/\ca Z w j:=by
 by_cases m:(b9 s i).head?=some 92
 ·have O:=dr m
  have c:=hJ Z s i Y X 92 w K h m;rw[show((92:UInt8).toNat:Int)=92 from rfl]at c;by_cases z:(b9 s (i+1)).head?=some 117
  ·have P:=dr z
   have d:=fun j F=>hJ Z s (i+1) Y X 117 j K F z
   rw[show((117:UInt8).toNat:Int)=117 from rfl]at d;have v:=fun j F=>EK Z s (i+2) Y X j K F (by omega)
   have A:Hid _:=s9 m z;clear m z;cases G:dt (b9 s (i+2))with
   | mk q o=>
     rw[G]at v;have H:Hid (dP (b9 s i)=zF q):=by have:=A.out;rw[G]at this;exact this
     clear A;cases q with
     | none=>
       clear G;go_enter func260,ntmps260;go_wp2_with fail
       refine c.mono ?_;rintro e p ⟨rfl,l,a⟩;have b:Hid _:=a;clear a c;go_wp2_with fail
       refine(d p l).mono ?_;rintro e B ⟨rfl,u,f⟩;have g:Hid _:=b.out.trans f;clear f d b;go_wp2_with fail
       refine(v B u).mono ?_;rintro e I ⟨⟨rfl,C⟩,t⟩;have E:Hid _:=g.out.trans t;clear t v g;go_wp2;refine⟨rfl,?_,E.out⟩;rw[H.out];exact⟨_,_,rfl,C⟩
     | some n=>
       have D:=fun j=>Jf n j
       clear G;cases k:mQ n with
       | true=>
         have J:Hid (dP (b9 s i)=some n):=by
          have:=H.out;rw[zF]at this;rw[mQ]at k;simp at k;rw[if_pos ⟨k.1,by omega⟩]at this;exact this
         clear H;rw[k]at D;clear k;go_enter func260,ntmps260;go_wp2_with fail
         refine c.mono ?_;rintro e p ⟨rfl,l,a⟩;have b:Hid _:=a;clear a c;go_wp2_with fail
         refine(d p l).mono ?_;rintro e B ⟨rfl,u,f⟩;have g:Hid _:=b.out.trans f;clear f d b;go_wp2_with fail
         refine(v B u).mono ?_;rintro e I ⟨⟨rfl,C⟩,t⟩;have E:Hid _:=g.out.trans t;clear t v g;go_wp2_with fail
         refine(D I).mono ?_;rintro e L ⟨rfl,rfl⟩;clear D;go_wp2;go_ret;refine⟨?_,E.out⟩;rw[J.out];exact⟨rfl,C⟩
       | false=>
         have J:Hid (dP (b9 s i)=none):=by
          have:=H.out;rw[zF]at this;rw[if_neg (by rintro⟨x,y⟩;rw[mQ]at k;simp[x]at k;omega)]at this;exact this
         clear H;rw[k]at D;clear k;go_enter func260,ntmps260;go_wp2_with fail
         refine c.mono ?_;rintro e p ⟨rfl,l,a⟩;have b:Hid _:=a;clear a c;go_wp2_with fail
         refine(d p l).mono ?_;rintro e B ⟨rfl,u,f⟩;have g:Hid _:=b.out.trans f;clear f d b;go_wp2_with fail
         refine(v B u).mono ?_;rintro e I ⟨⟨rfl,C⟩,t⟩;have E:Hid _:=g.out.trans t;clear t v g;go_wp2_with fail
         refine(D I).mono ?_;rintro e L ⟨rfl,rfl⟩;clear D;have M:=l7 Z s (i+2+4) Y X L C;go_wp2_with fail
         refine M.mono ?_;rintro e R ⟨rfl,rfl⟩;clear M;go_wp2;refine⟨rfl,?_,E.out⟩;rw[J.out];exact⟨_,_,rfl,C⟩
  ·have d:=fun j F=>jx Z s (i+1) Y X 117 j F (by omega) (by decide) z
   rw[show((117:UInt8).toNat:Int)=117 from rfl]at d;have A:Hid _:=sY z;clear m z;go_enter func260,ntmps260;go_wp2_with fail
   refine c.mono ?_;rintro e p ⟨rfl,l,a⟩;have b:Hid _:=a;clear a c;go_wp2_with fail
   refine(d p l).mono ?_;rintro e B ⟨rfl,u,f⟩;have g:Hid _:=b.out.trans f;clear f d b;go_wp2;refine⟨rfl,?_,g.out⟩;rw[A.out];exact⟨_,_,rfl,u⟩
 ·have c:=jx Z s i Y X 92 w h N (by decide) m
  rw[show((92:UInt8).toNat:Int)=92 from rfl]at c;have A:Hid _:=ti m;clear m;go_enter func260,ntmps260;go_wp2_with fail
  refine c.mono ?_;rintro e p ⟨rfl,l,a⟩;have b:Hid _:=a;clear a c;go_wp2;refine⟨rfl,?_,b.out⟩;rw[A.out];exact⟨_,_,rfl,l⟩
end
structure kH (bp a:Nat) (w w':Wd):Prop where
 os:w'.os=w.os
 tape:w'.tape=w.tape
 output:w'.output=w.output
 size:w.heap.size<=w'.heap.size
 block:∀k,k<w.heap.size->k≠bp->k≠a->w'.heap[k]?=w.heap[k]?
theorem ca.two{b a:Nat}{w w':Wd}(h:ca b w w'):kH b a w w':=⟨h.os,h.tape,h.output,h.size,fun k d c _=>h.block k d (fun e=>by injection e with e;exact c e)⟩
def i8(bp:Nat):Va:=.func (.func 260) #[.pointer (some ⟨bp,0,none⟩)] #[]
section
variable (Z:Nat) (s:dv) (i:Nat) (Y:Va) (X V a2:Nat) (w:Wd)
theorem Br(x:s.size<=140737488355328)(h:CD Z s i Y X w)(p:i<=s.size)(m:Nat)(A:dP (b9 s i)=some m)(z:w.heap[V]?=some (.cells #[i8 Z] 263 (0,0)))(l:w.heap[a2]?=some (.cells #[.int .i32 0] 21 (0,0)))(g:Z≠a2):Calls prog 269 #[.pointer (some ⟨V,0,none⟩),.pointer (some ⟨a2,0,none⟩)] w fun r d=>r=.returned (.tuple #[])/\CD Z s (i+6) Y X d/\d.heap[a2]?=some (.cells #[.int .i32 (m:Int)] 21 (0,0))/\kH Z a2 w d:=by
 have v:w.cell? ⟨V,0,none⟩=some (i8 Z):=by rw[JE w V 0 _ _ _ z];rfl
 unfold i8 at v;have j:=GP Z s i Y X w x h p;rw[A]at j;have q:=(go.1 l).1;go_enter func269,ntmps269;go_wp2_with fail
 refine j.mono ?_;rintro e a ⟨⟨rfl,y⟩,f⟩;have c:a.heap[a2]?=some (.cells #[.int .i32 0] 21 (0,0)):=by rw[f.block a2 q (fun e=>by injection e with e;exact g e.symm)];exact l
 have u:Hid _:=f;have D:a.cell? ⟨a2,0,none⟩=some (.int .i32 0):=by rw[JE a a2 0 _ _ _ c];rfl
 have C:a.frozen? ⟨a2,0,none⟩=false:=by simp[World.frozen?,c]
 go_wp2;go_end0
 have b:=JV a a2 0 _ _ _ (.int .i32 (m:Int)) c;refine⟨rfl,?_,?_,?_⟩
 ·unfold CD;rw[b,Kg a a2 Z _ g];exact y
 ·rw[b];exact J7 a a2 _ _ _ _ c
 ·have o:=u.out
  refine⟨by rw[b];exact o.os,by rw[b];exact o.tape,by rw[b];exact o.output,by rw[b];have:=o.size;simpa [World.setRow]using this,?_⟩;intro k B t n;rw[b,Kg a a2 k _ n];exact o.block k B (fun e=>by injection e with e;exact t e)
theorem xS(f:s.size<=140737488355328)(h:CD Z s i Y X w)(k:i<=s.size)(n:dP (b9 s i)=none)(m:w.heap[V]?=some (.cells #[i8 Z] 263 (0,0))):Calls prog 269 #[.pointer (some ⟨V,0,none⟩),.pointer (some ⟨a2,0,none⟩)] w fun r c=>∃a j,r=.panicked (gI 2 a)/\CD Z s j Y X c/\ca Z w c:=by
 have o:w.cell? ⟨V,0,none⟩=some (i8 Z):=by rw[JE w V 0 _ _ _ m];rfl
 unfold i8 at o;have b:=GP Z s i Y X w f h k;rw[n]at b;go_enter func269,ntmps269;go_wp2_with fail
 refine b.mono ?_;rintro e p ⟨⟨a,j,rfl,g⟩,l⟩;have d:Hid _:=l;go_wp2;exact⟨rfl,_,_,rfl,g,d.out⟩
theorem qx{w:Wd}{b k:Nat}(a:b<w.heap.size)(o:Obj):(w.alloc o).cell? ⟨b,k,none⟩=w.cell? ⟨b,k,none⟩:=by
 unfold World.cell?;simp[heap_alloc_old _ _ a]
theorem xV{w:Wd}{b k:Nat}(a:b<w.heap.size)(o:Obj):(w.alloc o).frozen? ⟨b,k,none⟩=w.frozen? ⟨b,k,none⟩:=by
 unfold World.frozen?;simp[heap_alloc_old _ _ a]
def TP(Z:Nat)(s:dv)(i:Nat)(Y:Va)(X:Nat)(r:Ending)(w':Wd):Option Nat->Prop
 | some m=>r=.returned (.tuple #[.int .i32 (m:Int),.bool true])/\CD Z s (i+6) Y X w'
 | none=>r=.returned (.tuple #[.int .i32 0,.bool false])/\CD Z s i Y X w'
theorem Jb(hs:s.size<=140737488355328)(h:CD Z s i Y X w)(hi:i<=s.size):Calls prog 259 #[.pointer (some ⟨Z,0,none⟩),i8 Z] w fun r w'=>TP Z s i Y X r w' (dP (b9 s i))/\ca Z w w':=by
 have ag:=h.lt;obtain⟨U,S,O,N,A⟩:=h.cell;cases M:dP (b9 s i)with
 | some m=>
   generalize f:(((w.alloc (.cells #[i8 Z] 263)).alloc (.cells #[.int .i32 0] 21)).alloc (.cells #[.string s,.int .i64 (i:Int)] 180))=W;have aa:W.heap.size=w.heap.size+3:=by subst f;simp
   have F:W.heap[w.heap.size]?=some (.cells #[i8 Z] 263 (0,0)):=by
    subst f;rw[JO _ _ (by simp;omega),JO _ _ (by simp),JK]
   have H:W.heap[w.heap.size+1]?=some (.cells #[.int .i32 0] 21 (0,0)):=by
    subst f;rw[JO _ _ (by simp)];have:=JK (w.alloc (.cells #[i8 Z] 263)) (.cells #[.int .i32 0] 21);simpa using this
   have J:CD Z s i Y X W:=by subst f;exact((h.alloc _).alloc _).alloc _
   have l:Hid (ca Z w W):=by subst f;exact(((ce Z w).alloc _).alloc _).alloc _
   have K:Hid _:=f;clear f;have D:=Br Z s i Y X w.heap.size (w.heap.size+1) (W.alloc (.cells #[.int .i64 0,.int .i64 0] 184)) hs (J.alloc _) hi m M (by rw[JO _ _ (by omega)];exact F) (by rw[JO _ _ (by omega)];exact H) (by omega)
   have I:=rT w.heap.size (w.heap.size+1) W (fun g=>CD Z s (i+6) Y X g/\g.heap[w.heap.size+1]?=some (.cells #[.int .i32 (m:Int)] 21 (0,0))/\ca Z w g)
    (D.mono (by
      rintro r g ⟨rfl,t,B,c⟩;refine⟨rfl,?_,t,B,?_⟩
      ·rw[c.block W.heap.size (by simp) (by omega) (by omega)];exact JK W _
      ·have l:=l.out
       refine⟨c.os.trans l.os,c.tape.trans l.tape,c.output.trans l.output,by have:=c.size;simp at this;omega,?_⟩;intro k p n;rw[c.block k (by simp;omega) (fun e=>n (by rw[e])) (by omega),JO _ _ (by omega)];exact l.block k p n))
   have u:=I.mono (R':=fun r b=>r=.returned (fv 0 0)/\CD Z s (i+6) Y X b/\b.heap[w.heap.size+1]?=some (.cells #[.int .i32 (m:Int)] 21 (0,0))/\ca Z w b/\w.heap.size+1<b.heap.size) (by
    rintro r b ⟨rfl,g,⟨t,B,c⟩,d⟩;have l2:=(go.1 B).1;have Q:=d.block _ l2 (fun e=>by injection e with e;omega);refine⟨rfl,?_,Q.trans B,?_,by have:=d.size;omega⟩
    ·exact(d.block Z t.lt (fun e=>by injection e with e;omega)).trans t
    ·exact⟨d.os.trans c.os,d.tape.trans c.tape,d.output.trans c.output,Ki c.size d.size,fun k p n=>(d.block k (by omega) (fun e=>by injection e with e;omega)).trans (c.block k p n)⟩)
   clear I;rw[<-K.out]at u;unfold i8 at u ⊢;clear D F H J M l K aa W;go_enter func259,ntmps259;go_wp2_with fail
   refine u.mono ?_;rintro e b ⟨rfl,x,q,d,L⟩;clear u U S O N A;unfold fv;have z:Hid _:=x;have R:Hid _:=d;have G:Hid _:=q;have q4:b.cell? ⟨w.heap.size+1,0,none⟩=some (.int .i32 (m:Int)):=by rw[JE b _ 0 _ _ _ q];rfl
   have f4:b.frozen? ⟨w.heap.size+1,0,none⟩=false:=by simp[World.frozen?,q]
   have q5:∀o,(b.alloc o).cell? ⟨w.heap.size+1,0,none⟩=some (.int .i32 (m:Int)):=fun o=>by rw[qx L];exact q4
   have f5:∀o,(b.alloc o).frozen? ⟨w.heap.size+1,0,none⟩=false:=fun o=>by rw[xV L];exact f4
   clear x d q;go_wp2;have y:=JV b (w.heap.size+1) 0 _ _ _ (.int .i32 (m:Int)) G.out;have r2:=J7 b (w.heap.size+1) _ (#[.int .i32 (m:Int)]) _ _ G.out;have ab:((b.setCell ⟨w.heap.size+1,0,none⟩ (.int .i32 (m:Int))).alloc (.cells #[.int .i64 0,.int .i64 0] 184)).cell? ⟨w.heap.size+1,0,none⟩=some (.int .i32 (m:Int)):=by
    rw[y,qx (by simpa [World.setRow]using L)];exact JE _ _ 0 _ _ _ r2
   refine Ka (v:=.tuple #[.int .i32 (m:Int),.bool true]) (by simp[results,results259,go_sem,ab]) rfl ?_;refine⟨⟨rfl,?_⟩,?_⟩
   ·refine CD.alloc ?_ _
    rw[y];exact(Kg b _ Z _ (by omega)).trans z.out
   ·refine ca.alloc ?_ _
    exact ca.setNew R.out G.out (by omega) 0 _
 | none=>
   generalize f:(((w.alloc (.cells #[i8 Z] 263)).alloc (.cells #[.int .i32 0] 21)).alloc (.cells #[.string s,.int .i64 (i:Int)] 180))=W;have aa:W.heap.size=w.heap.size+3:=by subst f;simp
   have F:W.heap[w.heap.size]?=some (.cells #[i8 Z] 263 (0,0)):=by
    subst f;rw[JO _ _ (by simp;omega),JO _ _ (by simp),JK]
   have H:W.heap[w.heap.size+1]?=some (.cells #[.int .i32 0] 21 (0,0)):=by
    subst f;rw[JO _ _ (by simp)];have:=JK (w.alloc (.cells #[i8 Z] 263)) (.cells #[.int .i32 0] 21);simpa using this
   have b2:W.heap[w.heap.size+1+1]?=some (.cells #[.string s,.int .i64 (i:Int)] 180 (0,0)):=by
    subst f;have:=JK ((w.alloc (.cells #[i8 Z] 263)).alloc (.cells #[.int .i32 0] 21)) (.cells #[.string s,.int .i64 (i:Int)] 180);simpa using this
   have J:CD Z s i Y X W:=by subst f;exact((h.alloc _).alloc _).alloc _
   have l:Hid (ca Z w W):=by subst f;exact(((ce Z w).alloc _).alloc _).alloc _
   have K:Hid _:=f;clear f;have D:=xS Z s i Y X w.heap.size (w.heap.size+1) (W.alloc (.cells #[.int .i64 0,.int .i64 0] 184)) hs (J.alloc _) hi M (by rw[JO _ _ (by omega)];exact F)
   have I:=p7 w.heap.size (w.heap.size+1) W 2 (fun _ g=>(∃j,CD Z s j Y X g)/\g.heap[w.heap.size+1]?=some (.cells #[.int .i32 0] 21 (0,0))/\g.heap[w.heap.size+1+1]?=some (.cells #[.string s,.int .i64 (i:Int)] 180 (0,0))/\ca Z w g)
    (D.mono (by
      rintro r g ⟨a,j,rfl,t,c⟩;have T:∀k,k<W.heap.size->k≠Z->g.heap[k]?=W.heap[k]?:=fun k p n=>by
       rw[c.block k (by simp;omega) (fun e=>by injection e with e;exact n e),JO _ _ p]
      refine⟨a,rfl,?_,⟨j,t⟩,?_,?_,?_⟩
      ·rw[c.block W.heap.size (by simp) (fun e=>by injection e with e;omega)];exact JK W _
      ·rw[T _ (by omega) (by omega)];exact H
      ·rw[T _ (by omega) (by omega)];exact b2
      ·have l:=l.out
       refine⟨c.os.trans l.os,c.tape.trans l.tape,c.output.trans l.output,by have:=c.size;simp at this;omega,?_⟩;intro k p n;rw[T k (by omega) (fun e=>n (by rw[e]))];exact l.block k p n))
   have u:=I.mono (R':=fun r b=>∃a,r=.returned (fv 2 a)/\(∃j,CD Z s j Y X b)/\b.heap[w.heap.size+1]?=some (.cells #[.int .i32 0] 21 (0,0))/\b.heap[w.heap.size+1+1]?=some (.cells #[.string s,.int .i64 (i:Int)] 180 (0,0))/\ca Z w b/\w.heap.size+1+1<b.heap.size) (by
    rintro r b ⟨a,rfl,g,⟨⟨j,t⟩,B,y2,c⟩,d⟩;have l2:w.heap.size+1+1<g.heap.size:=(go.1 y2).1;have Q:b.heap[w.heap.size+1]?=g.heap[w.heap.size+1]?:=d.block _ (by omega) (fun e=>by injection e with e;omega);have y:b.heap[w.heap.size+1+1]?=g.heap[w.heap.size+1+1]?:=d.block _ (by omega) (fun e=>by injection e with e;omega);refine⟨a,rfl,⟨j,?_⟩,Q.trans B,y.trans y2,?_,by have:=d.size;omega⟩
    ·exact(d.block Z t.lt (fun e=>by injection e with e;omega)).trans t
    ·exact⟨d.os.trans c.os,d.tape.trans c.tape,d.output.trans c.output,Ki c.size d.size,fun k p n=>(d.block k (by omega) (fun e=>by injection e with e;omega)).trans (c.block k p n)⟩)
   clear I;rw[<-K.out]at u;unfold i8 at u ⊢;clear D F H b2 J M l K aa W;go_enter func259,ntmps259;go_wp2_with fail
   refine u.mono ?_;rintro e b ⟨a,rfl,⟨j,x⟩,q,P,d,L⟩;clear u U S O N A;unfold fv;have z:Hid (CD Z s j Y X b):=x;have R:Hid (ca Z w b):=d;have G:Hid _:=q;have l2:w.heap.size+1<b.heap.size:=by omega
   have lb:Z<b.heap.size:=x.lt;obtain⟨U,S,O,N,A⟩:=x.cell;have q5:b.cell? ⟨w.heap.size+1,0,none⟩=some (.int .i32 0):=by rw[JE b _ 0 _ _ _ q];rfl
   have f5:b.frozen? ⟨w.heap.size+1,0,none⟩=false:=by simp[World.frozen?,q]
   have y5:b.cell? ⟨w.heap.size+1+1,0,none⟩=some (.string s):=by rw[JE b _ 0 _ _ _ P];rfl
   have y6:b.cell? ⟨w.heap.size+1+1,1,none⟩=some (.int .i64 (i:Int)):=by rw[JE b _ 1 _ _ _ P];rfl
   have b7:=A 0;have b8:=A 1
   have ad:¬w.heap.size+1=Z:=by omega
   clear x d q P O N A;go_wp2;have g4:CD Z s j Y X (b.setCell ⟨Z,0,none⟩ (.string s)):=by
    unfold CD;rw[JV b Z 0 _ _ _ _ z.out];exact J7 b Z _ _ _ _ z.out
   have o4:ca Z w (b.setCell ⟨Z,0,none⟩ (.string s)):=ca.setCell R.out _ z.out;have q4:(b.setCell ⟨Z,0,none⟩ (.string s)).heap[w.heap.size+1]?=some (.cells #[.int .i32 0] 21 (0,0)):=by
    rw[JV b Z 0 _ _ _ _ z.out,Kg b Z _ _ ad];exact G.out
   have g5:=g4.setI i;have o5:=ca.setCell (k:=1) o4 (.int .i64 (i:Int)) g4;have C:((b.setCell ⟨Z,0,none⟩ (.string s)).setCell ⟨Z,1,none⟩ (.int .i64 (i:Int))).heap[w.heap.size+1]?=some (.cells #[.int .i32 0] 21 (0,0)):=by
    rw[JV _ Z 1 _ _ _ _ g4,Kg _ Z _ _ ad];exact q4
   generalize (b.setCell ⟨Z,0,none⟩ (.string s)).setCell ⟨Z,1,none⟩ (.int .i64 (i:Int))=E at g5 o5 C ⊢;have l5:w.heap.size+1<E.heap.size:=(go.1 C).1;have y:=JV E (w.heap.size+1) 0 _ _ _ (.int .i32 0) C;have r2:=J7 E (w.heap.size+1) _ (#[.int .i32 0]) _ _ C;have ab:((E.setCell ⟨w.heap.size+1,0,none⟩ (.int .i32 0)).alloc (.cells #[.int .i64 2,.int .i64 (a:Int)] 184)).cell? ⟨w.heap.size+1,0,none⟩=some (.int .i32 0):=by
    rw[y,qx (by simpa [World.setRow]using l5)];exact JE _ _ 0 _ _ _ r2
   refine Ka (v:=.tuple #[.int .i32 0,.bool false]) (by simp[results,results259,go_sem,ab]) rfl ?_;refine⟨⟨rfl,?_⟩,?_⟩
   ·refine CD.alloc ?_ _
    rw[y];exact(Kg E _ Z _ (by omega)).trans g5
   ·refine ca.alloc ?_ _
    exact ca.setNew o5 C (by omega) 0 _
end
end Go.Proofs.YtihboehpeehlmaaGreatDoor
