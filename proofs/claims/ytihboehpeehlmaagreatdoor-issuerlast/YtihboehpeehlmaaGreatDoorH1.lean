import Derived.Test.YtihboehpeehlmaaGreatDoorJPureP
set_option maxHeartbeats 400000
namespace Go.Proofs.YtihboehpeehlmaaGreatDoor.Dg
open Tryz
set_option maxRecDepth 4000
structure St (n:Nat) where
 a:BitVec n
 b:BitVec n
 c:BitVec n
 d:BitVec n
 e:BitVec n
 f:BitVec n
 g:BitVec n
 h:BitVec n
structure dN (n:Nat) where
 f1:Nat
 f2:Nat
 f3:Nat
 n1:Nat
 n2:Nat
 n3:Nat
 e1:Nat
 e2:Nat
 e3:Nat
 a1:Nat
 a2:Nat
 a3:Nat
 K:List (BitVec n)
def lu{n:Nat}(x:BitVec n)(i j k:Nat):BitVec n:=dG x i^^^dG x j^^^dG x k
def mM{n:Nat}(x:BitVec n)(i j k:Nat):BitVec n:=dG x i^^^dG x j^^^x>>>k
def Ax{n:Nat}(p:dN n)(s:St n)(x:BitVec n):BitVec n:=s.h+lu s.e p.e1 p.e2 p.e3+((s.e&&&s.f)^^^(~~~s.e&&&s.g))+x
def you{n:Nat}(p:dN n)(s:St n):BitVec n:=lu s.a p.a1 p.a2 p.a3+((s.a&&&s.b)^^^(s.a&&&s.c)^^^(s.b&&&s.c))
def round{n:Nat}(p:dN n)(s:St n)(x:BitVec n):St n:=⟨Ax p s x+you p s,s.a,s.b,s.c,s.d+Ax p s x,s.e,s.f,s.g⟩
def rd(n:Nat)(l:dj):BitVec n:=l.foldl (fun x c=>x<<<8|||BitVec.ofNat n c.toNat) 0
theorem lC(n:Nat)(l:dj)(c:UInt8):rd n (l++[c])=rd n l<<<8|||BitVec.ofNat n c.toNat:=by
 unfold rd;rw[List.foldl_append];rfl
def mX{n:Nat}(p:dN n)(l:List (BitVec n)):BitVec n:=
 l.getD (l.length-16) 0+mM (l.getD (l.length-15) 0) p.f1 p.f2 p.f3+l.getD (l.length-7) 0+mM (l.getD (l.length-2) 0) p.n1 p.n2 p.n3
def c8{n:Nat}(p:dN n)(l:List (BitVec n)):Nat->List (BitVec n)
 | 0=>l
 | m+1=>c8 p l m++[mX p (c8 p l m)]
theorem gs{n:Nat}(p:dN n)(l:List (BitVec n))(m:Nat):(c8 p l m).length=l.length+m:=by
 induction m with
 | zero=>rfl
 | succ m ih=>simp[c8,ih];omega
def cP(n y:Nat)(t:dj):Nat->List (BitVec n)
 | 0=>[]
 | k+1=>cP n y t k++[rd n ((t.drop (k*y)).take y)]
theorem es(n y:Nat)(t:dj)(k:Nat):(cP n y t k).length=k:=by
 induction k with
 | zero=>rfl
 | succ k ih=>simp[cP,ih]
def iN{n:Nat}(p:dN n)(y:Nat)(t:dj):List (BitVec n):=c8 p (cP n y t 16) (p.K.length-16)
def cT{n:Nat}(p:dN n)(s:St n)(ws:List (BitVec n)):Nat->St n
 | 0=>s
 | k+1=>round p (cT p s ws k) (p.K.getD k 0+ws.getD k 0)
def jB{n:Nat}(s v:St n):St n:=⟨s.a+v.a,s.b+v.b,s.c+v.c,s.d+v.d,s.e+v.e,s.f+v.f,s.g+v.g,s.h+v.h⟩
def gv{n:Nat}(p:dN n)(y:Nat)(s:St n)(t:dj):St n:=jB s (cT p s (iN p y t) p.K.length)
def cA{n:Nat}(p:dN n)(y z:Nat)(s:St n)(t:dj):Nat->St n
 | 0=>s
 | k+1=>gv p y (cA p y z s t k) ((t.drop (k*z)).take z)
def dz(z c n:Nat):Nat:=(2*z-c-(n+1)%z)%z
theorem iP(z c n:Nat)(d:0<z)(g:0<c)(f:c<z):(n+1+dz z c n)%z=z-c:=by
 unfold dz;have b:(n+1)%z<z:=LB _ d;rw[Nat.add_mod,Nat.mod_mod];generalize (n+1)%z=r at b;by_cases h:r<=z-c
 ·have e:2*z-c-r=(z-c-r)+z:=by omega
  rw[e,Nat.add_mod_right,KW (a:=z-c-r) (by omega),KW (by omega)];omega
 ·rw[KW (a:=2*z-c-r) (by omega)]
  have e:r+(2*z-c-r)=(z-c)+z:=by omega
  rw[e,Nat.add_mod_right,KW (by omega)]
theorem kO(z c n k:Nat)(d:0<z)(g:0<c)(i:c<z)(l:k<dz z c n):(n+1+k)%z≠z-c:=by
 have m:dz z c n<z:=LB _ d;have b:=iP z c n d g i;intro h;have e:n+1+dz z c n=(n+1+k)+(dz z c n-k):=by omega
 rw[e,Nat.add_mod,h]at b;rw[KW (a:=dz z c n-k) (by omega)]at b;by_cases f:z-c+(dz z c n-k)<z
 ·rw[KW f]at b;omega
 ·have j:z-c+(dz z c n-k)=(dz z c n-k-c)+z:=by omega
  rw[j,Nat.add_mod_right,KW (by omega)]at b;omega
theorem At(z c n:Nat):dz z c (n%z)=dz z c n:=by unfold dz;rw[Nat.mod_add_mod]
def fE{n:Nat}(x:BitVec n):UInt8:=UInt8.ofNat x.toNat
theorem xa{n:Nat}(x:BitVec n):((fE x).toNat:Int)=eW x%256:=by
 unfold fE eW;simp
theorem lE{n:Nat}(x:BitVec n):eW x%256=((fE x).toNat:Int):=(xa x).symm
theorem mo{n:Nat}(x:BitVec n):IntKind.u8.wrap (eW x)=((fE x).toNat:Int):=by rw[IntKind.wrap_u8',lE]
theorem ww(s:Nat)(h:s<=140737488355328):(s:Int)*8=eW (BitVec.ofNat 64 (s*8)):=by
 unfold eW;rw[Kw];omega
def dA{n:Nat}(c:Nat)(x:BitVec n):Nat->dj
 | 0=>[]
 | k+1=>dA c x k++[fE (x>>>(8*(c-1-k)))]
theorem dm{n:Nat}(c:Nat)(x:BitVec n)(k:Nat):(dA c x k).length=k:=by
 induction k with
 | zero=>rfl
 | succ k ih=>simp[dA,ih]
def dw(z c:Nat)(r:dj)(size:Nat):dj:=r++[128]++List.replicate (dz z c r.length) 0++dA c (BitVec.ofNat 64 (size*8)) c
open Go.RowKit
set_option linter.unusedVariables false
def eS(x:BitVec 64):Int:=x.toInt
theorem e9(x:BitVec 64):BitVec.ofInt 64 (eS x)=x:=by unfold eS;simp
theorem jZ(n:Int):IntKind.i64.wrap n=eS (BitVec.ofInt 64 n):=by
 rw[IntKind.wrap_i64];unfold eS;rw[BitVec.toInt_ofInt];rw[Int.bmod_def];split<;>omega
theorem iD(x:BitVec 64):IntKind.i64.wrap (x.toNat:Int)=eS x:=by rw[jZ];simp
theorem nz(n:Int):wrap64 n=eS (BitVec.ofInt 64 n):=by rw[<-jZ,IntWalk.i64_left]
theorem re(x y:BitVec 64):bits .and .i64 (eS x) (eS y)=eS (x&&&y):=by
 show IntKind.i64.wrap ((BitVec.ofInt 64 (eS x)&&&BitVec.ofInt 64 (eS y)).toNat:Int)=_
 rw[e9,e9,iD]
theorem yD(x y:BitVec 64):bits .or .i64 (eS x) (eS y)=eS (x|||y):=by
 show IntKind.i64.wrap ((BitVec.ofInt 64 (eS x)|||BitVec.ofInt 64 (eS y)).toNat:Int)=_
 rw[e9,e9,iD]
theorem q8(x y:BitVec 64):bits .xor .i64 (eS x) (eS y)=eS (x^^^y):=by
 show IntKind.i64.wrap ((BitVec.ofInt 64 (eS x)^^^BitVec.ofInt 64 (eS y)).toNat:Int)=_
 rw[e9,e9,iD]
theorem tV(x:BitVec 64):bits .xor .i64 (-1) (eS x)=eS (~~~x):=by
 show IntKind.i64.wrap ((BitVec.ofInt 64 (-1)^^^BitVec.ofInt 64 (eS x)).toNat:Int)=_
 rw[e9,iD,show BitVec.ofInt 64 (-1)=BitVec.allOnes 64 from rfl,BitVec.allOnes_xor]
theorem tH(x y:BitVec 64):IntKind.i64.wrap (eS x+eS y)=eS (x+y):=by rw[jZ,BitVec.ofInt_add,e9,e9]
theorem oN(x y:BitVec 64):wrap64 (eS x+eS y)=eS (x+y):=by rw[nz,BitVec.ofInt_add,e9,e9]
theorem xw(n:Nat):BitVec.ofInt 64 (2^n)=BitVec.twoPow 64 n:=by
 apply LP;rw[MD,BitVec.toNat_twoPow];have:((2:Int)^n)=((2^n:Nat):Int):=by simp
 rw[this];exact_mod_cast rfl
theorem qE(x:BitVec 64)(n:Nat):IntKind.i64.wrap (eS x*2^n)=eS (x<<<n):=by
 rw[jZ,BitVec.ofInt_mul,e9,xw,BitVec.shiftLeft_eq_mul_twoPow]
theorem nK(x:BitVec 64)(n:Nat):wrap64 (eS x*2^n)=eS (x<<<n):=by rw[<-qE,IntWalk.i64_left]
theorem qB(x:BitVec 64)(n:Nat):eS x/2^n=eS (x.sshiftRight n):=by
 unfold eS;rw[BitVec.toInt_sshiftRight,Int.shiftRight_eq_div_pow];have:((2:Int)^n)=((2^n:Nat):Int):=by simp
 rw[this]
theorem Fc(x:BitVec 32)(n:Nat):(x.setWidth 64).sshiftRight n=(x>>>n).setWidth 64:=by
 apply LV;intro i a;have b:(x.setWidth 64).msb=false:=by
  rw[BitVec.msb_setWidth];simp
 simp only[MP,MA,Mk,b];by_cases h:n+i<64
 ·simp[h,a]
 ·have:¬(n+i<32):=by omega
  simp[h,a];rw[BitVec.getLsbD_of_ge x _ (by omega)]
theorem DE(x:BitVec 64)(n:Nat)(f:0<n)(d:n<64):x.sshiftRight n&&&BitVec.ofInt 64 (2^(64-n)-1)=x>>>n:=by
 apply LV;intro i a;have e:BitVec.ofInt 64 (2^(64-n)-1)=BitVec.ofNat 64 (2^(64-n)-1):=by
  have c:0<2^(64-n):=Nat.two_pow_pos _;have:((2:Int)^(64-n)-1)=((2^(64-n)-1:Nat):Int):=by
   rw[Int.natCast_sub c];simp
  rw[this,Nk]
 rw[e];simp only[BitVec.getLsbD_and,MP,Mk,BitVec.getLsbD_ofNat,Nat.testBit_two_pow_sub_one];by_cases h:n+i<64
 ·have b:i<64-n:=by omega
  simp[h,a,b]
 ·simp[h,a]
  rw[BitVec.getLsbD_of_ge x _ (by omega)];simp;omega
theorem uP(a:Int):wrap64 (wrap64 a-1)=wrap64 (a-1):=by unfold wrap64;omega
theorem zy(x:BitVec 64)(n:Int)(b:0<n)(a:n<64):bits .and .i64 (eS (x.sshiftRight n.toNat)) (wrap64 (wrap64 (2^(64-n).toNat)-1))=eS (x>>>n.toNat):=by
 rw[uP,nz,re,show(64-n).toNat=64-n.toNat from by omega,DE x n.toNat (by omega) (by omega)]
theorem C9(x:BitVec 64):x&&&BitVec.ofInt 64 4294967295=(x.setWidth 32).setWidth 64:=by
 apply LV;intro i a;have e:BitVec.ofInt 64 4294967295=BitVec.ofNat 64 (2^32-1):=rfl;rw[e];simp only[BitVec.getLsbD_and,MA,BitVec.getLsbD_ofNat,Nat.testBit_two_pow_sub_one];by_cases h:i<32<;>simp[h,a]
theorem Iv(x:BitVec 64):bits .and .i64 (eS x) 4294967295=eS ((x.setWidth 32).setWidth 64):=by
 show IntKind.i64.wrap ((BitVec.ofInt 64 (eS x)&&&BitVec.ofInt 64 4294967295).toNat:Int)=_
 rw[e9,iD,C9]
def ex(x:BitVec 32):BitVec 64:=x.setWidth 64
theorem mh(x y:BitVec 32):ex x^^^ex y=ex (x^^^y):=by unfold ex;rw[BitVec.setWidth_xor]
theorem mz(x y:BitVec 32):ex x&&&ex y=ex (x&&&y):=by unfold ex;rw[BitVec.setWidth_and]
theorem oS(x y:BitVec 32):ex x|||ex y=ex (x|||y):=by unfold ex;rw[BitVec.setWidth_or]
theorem qk(x:BitVec 32):BitVec.setWidth 32 (ex x)=x:=by unfold ex;simp
theorem nY(x y:BitVec 64):BitVec.setWidth 32 (x+y)=BitVec.setWidth 32 x+BitVec.setWidth 32 y:=BitVec.setWidth_add x y (by omega)
theorem tG(x:BitVec 32)(n:Nat):(ex x).sshiftRight n=ex (x>>>n):=Fc x n
theorem mn(x:BitVec 64):bits .and .i64 (eS x) 4294967295=eS (ex (x.setWidth 32)):=Iv x
theorem ER(x:BitVec 32)(n:Nat)(d:0<n)(c:n<32):((x>>>n).setWidth 64|||x.setWidth 64<<<(32-n)).setWidth 32=dG x n:=by
 apply LV;intro i b;unfold dG;simp only[BitVec.getLsbD_or,MA,Mk,BitVec.getLsbD_shiftLeft];have a:i<64:=by omega
 simp[b,a];by_cases h:i<32-n
 ·simp[h]
 ·have:i-(32-n)<64:=by omega
  simp[h,this]
theorem DR(x:BitVec 32)(n:Nat)(b:0<n)(a:n<32):(ex (x>>>n)|||ex x<<<(32-n)).setWidth 32=dG x n:=ER x n b a
section
attribute [local go_sem] re yD q8 tV tH oN qE nK qB mn mh mz oS tG
theorem uh(x:BitVec 32)(n:Int)(w:Wd)(b:0<n)(a:n<32):Calls prog 180 #[.int .i64 (eS (ex (x))),.int .i64 n,.int .i64 32] w fun e c=>e=.returned (.int .i64 (eS (ex (x>>>n.toNat))))/\∃k,c=w.drewN k:=by
 go_enter func180,ntmps180;go_wp2
 try go_quiet (fail)
 try go_wp2
 go_ret
 first
  | exact⟨rfl,0,rfl⟩
  | exact⟨by rw[<-zy x n b a];rfl,nq,rfl⟩
theorem lz(x:BitVec 64)(w:Wd):Calls prog 150 #[.int .i64 (eS x),.int .i64 32] w fun e a=>e=.returned (.int .i64 (eS (ex (BitVec.setWidth 32 (x)))))/\a=w:=by
 go_enter func150,ntmps150;go_wp2;go_ret;exact⟨rfl,rfl⟩
theorem gJ(x:BitVec 32)(n:Int)(w:Wd)(b:0<n)(a:n<32):Calls prog 179 #[.int .i64 (eS (ex (x))),.int .i64 n,.int .i64 32] w fun e c=>e=.returned (.int .i64 (eS (ex (dG x n.toNat))))/\∃k,c=w.drewN k:=by
 go_enter func179,ntmps179;go_wp2
 go_quiet (first|(go_at_call 180;exact Kb (uh x n _ b a))|(go_at_call 150;exact J2 (lz _ _)));go_wp2;go_ret
 first
  | exact⟨by rw[<-DR x n.toNat (by omega) (by omega),show 32-n.toNat=(32-n).toNat from by omega];rfl,nq,rfl⟩
  | exact⟨by unfold dG;rw[show 64-n.toNat=(64-n).toNat from by omega];rfl,nq,rfl⟩
structure i6 (w:Wd) (p:dN 32) (by_:Nat):Prop where
 len:p.K.length=64
 f1:w.cell? ⟨by_,0,none⟩=some (.int .i64 7)
 f2:w.cell? ⟨by_,1,none⟩=some (.int .i64 18)
 f3:w.cell? ⟨by_,2,none⟩=some (.int .i64 3)
 n1:w.cell? ⟨by_,3,none⟩=some (.int .i64 17)
 n2:w.cell? ⟨by_,4,none⟩=some (.int .i64 19)
 n3:w.cell? ⟨by_,5,none⟩=some (.int .i64 10)
 e1:w.cell? ⟨by_,6,none⟩=some (.int .i64 6)
 e2:w.cell? ⟨by_,7,none⟩=some (.int .i64 11)
 e3:w.cell? ⟨by_,8,none⟩=some (.int .i64 25)
 a1:w.cell? ⟨by_,9,none⟩=some (.int .i64 2)
 a2:w.cell? ⟨by_,10,none⟩=some (.int .i64 13)
 a3:w.cell? ⟨by_,11,none⟩=some (.int .i64 22)
 hf:p.f1=7/\p.f2=18/\p.f3=3
 hn:p.n1=17/\p.n2=19/\p.n3=10
 he:p.e1=6/\p.e2=11/\p.e3=25
 ha:p.a1=2/\p.a2=13/\p.a3=22
theorem Df(x:BitVec 32)(b:Nat)(w:Wd)(p:dN 32)(a:i6 w p b)(v3 v4:Va):Calls prog 149 #[.agg #[.int .i64 32,.int .i64 64,.slice (some ⟨b,0,none⟩) 12 12,v3,v4],.int .i64 (eS (ex (x))),.int .i64 6] w fun e f=>e=.returned (.int .i64 (eS (ex (lu x p.e1 p.e2 p.e3))))/\∃k,f=(w.alloc (.cells #[.int .i64 32,.int .i64 64,.slice (some ⟨b,0,none⟩) 12 12,v3,v4] 166)).drewN k:=by
 have d:=a.e1;have i:=a.e2;have h:=a.e3;have g:=JL w _ d;have c:Hid _:=a.he;go_enter func149,ntmps149;go_wp2
 go_quiet (first|(go_at_call_of 179 (Value.int IntKind.i64 6);exact Kb (gJ x 6 _ (by omega) (by omega)))|(go_at_call_of 179 (Value.int IntKind.i64 11);exact Kb (gJ x 11 _ (by omega) (by omega)))|(go_at_call_of 179 (Value.int IntKind.i64 25);exact Kb (gJ x 25 _ (by omega) (by omega))));go_wp2;go_ret;refine⟨?_,nq,rfl⟩;unfold lu;rw[c.out.1,c.out.2.1,c.out.2.2];rfl
theorem Dh(x:BitVec 32)(b:Nat)(w:Wd)(p:dN 32)(a:i6 w p b)(v3 v4:Va):Calls prog 149 #[.agg #[.int .i64 32,.int .i64 64,.slice (some ⟨b,0,none⟩) 12 12,v3,v4],.int .i64 (eS (ex (x))),.int .i64 9] w fun e f=>e=.returned (.int .i64 (eS (ex (lu x p.a1 p.a2 p.a3))))/\∃k,f=(w.alloc (.cells #[.int .i64 32,.int .i64 64,.slice (some ⟨b,0,none⟩) 12 12,v3,v4] 166)).drewN k:=by
 have d:=a.a1;have i:=a.a2;have h:=a.a3;have g:=JL w _ d;have c:Hid _:=a.ha;go_enter func149,ntmps149;go_wp2
 go_quiet (first|(go_at_call_of 179 (Value.int IntKind.i64 2);exact Kb (gJ x 2 _ (by omega) (by omega)))|(go_at_call_of 179 (Value.int IntKind.i64 13);exact Kb (gJ x 13 _ (by omega) (by omega)))|(go_at_call_of 179 (Value.int IntKind.i64 22);exact Kb (gJ x 22 _ (by omega) (by omega))));go_wp2;go_ret;refine⟨?_,nq,rfl⟩;unfold lu;rw[c.out.1,c.out.2.1,c.out.2.2];rfl
end
section
attribute [local go_sem] re yD q8 tV tH oN qE nK qB mn mh mz oS tG
theorem ux(x:BitVec 64)(n:Int)(w:Wd)(b:0<n)(a:n<64):Calls prog 180 #[.int .i64 (eS (x)),.int .i64 n,.int .i64 64] w fun e c=>e=.returned (.int .i64 (eS (x>>>n.toNat)))/\∃k,c=w.drewN k:=by
 go_enter func180,ntmps180;go_wp2
 try go_quiet (fail)
 try go_wp2
 go_ret
 first
  | exact⟨rfl,0,rfl⟩
  | exact⟨by rw[<-zy x n b a];rfl,nq,rfl⟩
theorem lM(x:BitVec 64)(w:Wd):Calls prog 150 #[.int .i64 (eS x),.int .i64 64] w fun e a=>e=.returned (.int .i64 (eS (x)))/\a=w:=by
 go_enter func150,ntmps150;go_wp2;go_ret;exact⟨rfl,rfl⟩
theorem gK(x:BitVec 64)(n:Int)(w:Wd)(b:0<n)(a:n<64):Calls prog 179 #[.int .i64 (eS (x)),.int .i64 n,.int .i64 64] w fun e c=>e=.returned (.int .i64 (eS (dG x n.toNat)))/\∃k,c=w.drewN k:=by
 go_enter func179,ntmps179;go_wp2
 go_quiet (first|(go_at_call 180;exact Kb (ux x n _ b a))|(go_at_call 150;exact J2 (lM _ _)));go_wp2;go_ret
 first
  | exact⟨by rw[<-DR x n.toNat (by omega) (by omega),show 32-n.toNat=(32-n).toNat from by omega];rfl,nq,rfl⟩
  | exact⟨by unfold dG;rw[show 64-n.toNat=(64-n).toNat from by omega];rfl,nq,rfl⟩
structure iY (w:Wd) (p:dN 64) (by_:Nat):Prop where
 len:p.K.length=80
 f1:w.cell? ⟨by_,0,none⟩=some (.int .i64 1)
 f2:w.cell? ⟨by_,1,none⟩=some (.int .i64 8)
 f3:w.cell? ⟨by_,2,none⟩=some (.int .i64 7)
 n1:w.cell? ⟨by_,3,none⟩=some (.int .i64 19)
 n2:w.cell? ⟨by_,4,none⟩=some (.int .i64 61)
 n3:w.cell? ⟨by_,5,none⟩=some (.int .i64 6)
 e1:w.cell? ⟨by_,6,none⟩=some (.int .i64 14)
 e2:w.cell? ⟨by_,7,none⟩=some (.int .i64 18)
 e3:w.cell? ⟨by_,8,none⟩=some (.int .i64 41)
 a1:w.cell? ⟨by_,9,none⟩=some (.int .i64 28)
 a2:w.cell? ⟨by_,10,none⟩=some (.int .i64 34)
 a3:w.cell? ⟨by_,11,none⟩=some (.int .i64 39)
 hf:p.f1=1/\p.f2=8/\p.f3=7
 hn:p.n1=19/\p.n2=61/\p.n3=6
 he:p.e1=14/\p.e2=18/\p.e3=41
 ha:p.a1=28/\p.a2=34/\p.a3=39
theorem DL(x:BitVec 64)(b:Nat)(w:Wd)(p:dN 64)(a:iY w p b)(v3 v4:Va):Calls prog 149 #[.agg #[.int .i64 64,.int .i64 80,.slice (some ⟨b,0,none⟩) 12 12,v3,v4],.int .i64 (eS (x)),.int .i64 6] w fun e f=>e=.returned (.int .i64 (eS (lu x p.e1 p.e2 p.e3)))/\∃k,f=(w.alloc (.cells #[.int .i64 64,.int .i64 80,.slice (some ⟨b,0,none⟩) 12 12,v3,v4] 166)).drewN k:=by
 have d:=a.e1;have i:=a.e2;have h:=a.e3;have g:=JL w _ d;have c:Hid _:=a.he;go_enter func149,ntmps149;go_wp2
 go_quiet (first|(go_at_call_of 179 (Value.int IntKind.i64 14);exact Kb (gK x 14 _ (by omega) (by omega)))|(go_at_call_of 179 (Value.int IntKind.i64 18);exact Kb (gK x 18 _ (by omega) (by omega)))|(go_at_call_of 179 (Value.int IntKind.i64 41);exact Kb (gK x 41 _ (by omega) (by omega))));go_wp2;go_ret;refine⟨?_,nq,rfl⟩;unfold lu;rw[c.out.1,c.out.2.1,c.out.2.2];rfl
theorem DM(x:BitVec 64)(b:Nat)(w:Wd)(p:dN 64)(a:iY w p b)(v3 v4:Va):Calls prog 149 #[.agg #[.int .i64 64,.int .i64 80,.slice (some ⟨b,0,none⟩) 12 12,v3,v4],.int .i64 (eS (x)),.int .i64 9] w fun e f=>e=.returned (.int .i64 (eS (lu x p.a1 p.a2 p.a3)))/\∃k,f=(w.alloc (.cells #[.int .i64 64,.int .i64 80,.slice (some ⟨b,0,none⟩) 12 12,v3,v4] 166)).drewN k:=by
 have d:=a.a1;have i:=a.a2;have h:=a.a3;have g:=JL w _ d;have c:Hid _:=a.ha;go_enter func149,ntmps149;go_wp2
 go_quiet (first|(go_at_call_of 179 (Value.int IntKind.i64 28);exact Kb (gK x 28 _ (by omega) (by omega)))|(go_at_call_of 179 (Value.int IntKind.i64 34);exact Kb (gK x 34 _ (by omega) (by omega)))|(go_at_call_of 179 (Value.int IntKind.i64 39);exact Kb (gK x 39 _ (by omega) (by omega))));go_wp2;go_ret;refine⟨?_,nq,rfl⟩;unfold lu;rw[c.out.1,c.out.2.1,c.out.2.2];rfl
end
def mD(l:dj):Nat:=l.foldl (fun a c=>a*256+c.toNat) 0
theorem qF(l:dj)(c:UInt8):mD (l++[c])=mD l*256+c.toNat:=by unfold mD;rw[List.foldl_append];rfl
theorem D8(n v c:Nat)(h:8<=n)(f:c<256):BitVec.ofNat n v<<<8|||BitVec.ofNat n c=BitVec.ofNat n (v*256+c):=by
 apply LP;rw[BitVec.toNat_or,M4,Kw,Kw,Kw];have i:256<=2^n:=by
  have:=K7 (n:=2) (by omega) h;simpa using this
 rw[KW (a:=c) (by omega),Ms];have e:v%2^n*2^8%2^n=(v*256)%2^n:=by rw[Nat.mod_mul_mod]
 rw[e];obtain⟨m,rfl⟩:∃m,n=m+8:=⟨n-8,by omega⟩;have b:v*256%2^(m+8)=(v%2^m)*2^8:=by
  rw[Nat.pow_add,show(256:Nat)=2^8 from rfl,Nat.mul_mod_mul_right]
 have d:(v*256+c)%2^(m+8)=(v%2^m)*2^8+c:=by
  rw[Nat.add_mod,b,KW (a:=c) (by omega)];apply KW;have g:v%2^m<2^m:=LB _ (Nat.two_pow_pos _);rw[Nat.pow_add];omega
 rw[b,d,<-Ms,<-Nat.shiftLeft_add_eq_or_of_lt (by simpa using f)]
theorem zo(n:Nat)(c:8<=n)(l:dj):rd n l=BitVec.ofNat n (mD l):=by
 have h:∀(k:Nat) (l:dj),l.length=k->rd n l=BitVec.ofNat n (mD l):=by
  intro k;induction k with
  | zero=>intro l a;rw[Kt.1 a];rfl
  | succ k ih=>
    intro l a;have b:l≠[]:=by intro h;rw[h]at a;simp at a
    rw[<-List.dropLast_concat_getLast b,lC,qF,ih _ (by simp[a]),D8 n _ _ c (UInt8.toNat_lt _)]
 exact h l.length l rfl
theorem CC(l:dj):mD l<256^l.length:=by
 have h:∀(k:Nat) (l:dj),l.length=k->mD l<256^k:=by
  intro k;induction k with
  | zero=>intro l a;rw[Kt.1 a];simp[mD]
  | succ k ih=>
    intro l a;have b:l≠[]:=by intro h;rw[h]at a;simp at a
    have c:=ih l.dropLast (by simp[a]);have d:=UInt8.toNat_lt (l.getLast b);rw[<-List.dropLast_concat_getLast b,qF,LU];omega
 exact h l.length l rfl
theorem DS(l:dj)(h:l.length<=4):rd 64 l=ex (rd 32 l):=by
 have c:mD l<4294967296:=by
  have d:=CC l;have e:256^l.length<=256^4:=K7 (by omega) h;omega
 rw[zo 64 (by omega),zo 32 (by omega)];apply LP;unfold ex;rw[Ng,Kw,Kw];rw[KW (a:=mD l) (b:=2^32) (by omega)]
theorem pz(s:dv)(k m y:Nat)(b:m<y)(h:y*k+y<=s.size)(c:y*k+m<s.size):((s.data.toList.drop (k*y)).take y).take (m+1)=((s.data.toList.drop (k*y)).take y).take m++[s[y*k+m]]:=by
 have a:m<((s.data.toList.drop (k*y)).take y).length:=by simp;rw[ML k y];omega
 rw[Ks a];congr 2
 rw[List.getElem_take,List.getElem_drop];have e:k*y+m=y*k+m:=by rw[ML]
 simp only[e];rfl
theorem tQ(x:BitVec 64)(c:UInt8):bits .or .i64 (wrap64 (eS x*256)) (wrap64 (c.toNat:Int))=eS (x<<<8|||BitVec.ofNat 64 c.toNat):=by
 have a:wrap64 (eS x*256)=eS (x<<<8):=nK x 8;have b:wrap64 (c.toNat:Int)=eS (BitVec.ofNat 64 c.toNat):=by
  rw[nz,Nk]
 rw[a,b,yD]
theorem rq(s:dv)(k:Nat)(h:k<s.size):s.data.toList.take (k+1)=s.data.toList.take k++[s[k]]:=by
 rw[Ks (by simpa using h)];rfl
theorem cI{w w':Wd}(h:Below w.heap.size w w'){b o:Nat}{v:Va}(a:w.cell? ⟨b,o,none⟩=some v):w'.cell? ⟨b,o,none⟩=some v:=cm h (JL w _ a) a
theorem I7{P:Program}(w:Wd)(t m e:TypeId)(i:TypeInfo)(v:P.underlying t=some (.slice e))(s:P.info? e=some i)(z:i.zero=some (.int .i64 0))(d:i.size=1)(D:i.bytes=8)(B g n cap:Nat)(xs:rt)(q:w.ownsRow B e 1 (.slice (some ⟨g,0,none⟩) n cap) n xs)(T:n<=1000)(K:B<=w.heap.size)(f:Addr)(y:Va)(O:y.oneCell'=true)(h:∀j u,[y][j]?=some u->w.cell? (f.add j)=some u):∃l c,(Builtin.append_ #[t,t] m #[.slice (some ⟨g,0,none⟩) n cap,.slice (some f) 1 1]).run P w=.ok l c/\c.ownsRow B e 1 l (n+1) (xs++[y])/\w.grownBy c (some g)/\(∀j,j<n->c.cell? ⟨g,j,none⟩=w.cell? ⟨g,j,none⟩):=by
 have A:∀u∈[y],u.oneCell'=true:=by intro u C;simp at C;subst C;exact O
 obtain⟨l,c,a,G,J,_⟩:=Nq (P:=P) w B t m e i (.int .i64 0) 1 8 v s z d D rfl (by decide) (.slice (some ⟨g,0,none⟩) n cap) n xs q f 1 1 [y] rfl h A (by unfold maxLen;omega) (by omega) K;refine⟨l,c,a,G,J,?_⟩;intro j S;rcases q.2 with⟨M,_⟩|⟨b,p,r,E,R,o,V,Q,W,U⟩
 ·cases M
 ·have F:b=g/\p=cap:=by injection E with k _ h;injection k with k;injection k with k;exact⟨k.symm,h.symm⟩
  obtain⟨rfl,rfl⟩:=F;by_cases N:n+1<=p
  ·have x:=run_append_room (P:=P) w t m e i v s b n p r o f 1 1 [y] (by rw[d];rfl) h A N (by rw[d];simp;omega)
   rw[x]at a;injection a with _ a;rw[<-a,cell_setRow_same w b j r _ e (0,0) o,JE w b j r e (0,0) o,d];have L:j<(r.toList.take (n*1)).length:=by simp;omega
   rw[Kr,J1,J4 L,MU,if_pos (by omega)];simp
  ·have H:=q.cells (g:=b) rfl
   have x:=run_append_grow (P:=P) w t m e i (.int .i64 0) v s z ⟨b,0,none⟩ n p xs (by rw[d];exact q.1) H f 1 1 [y] (by rw[d];rfl) h (by omega) (by omega) (by rw[D];exact L2 (by omega) (by omega));rw[x]at a;injection a with _ a;have I:=(go.1 o).1;rw[<-a,JN _ _ _ (by exact I)];rfl
theorem Dx{P:Program}{f:Array Oper}{o:Oper}{a:Act}{w:Wd}{K:Act->Wd->Prop}{Q:Exit->Act->Wd->Prop}{E:Prop}(I:o.guard=none)(s x:Operand)(t:TypeId)(J:o.op=.call {callee:=.builtin .append,args:= #[s,x],argTypes:= #[t,t]})
 (e:TypeId) (i:TypeInfo) (M:P.underlying t=some (.slice e)) (r:P.info? e=some i) (A:i.zero=some (.int .i64 0)) (D:i.size=1) (H:i.bytes=8)
 (B g n cap:Nat) (xs:rt) (d:Addr) (y:Va) (L:y.oneCell'=true) (F:n<=1000)
 (m:a.eval s=.slice (some ⟨g,0,none⟩) n cap) (l:a.eval x=.slice (some d) 1 1)
 (C:w.ownsRow B e 1 (.slice (some ⟨g,0,none⟩) n cap) n xs) (p:B<=w.heap.size) (z:∀j u,[y][j]?=some u->w.cell? (d.add j)=some u)
 (h:∀c b,b.ownsRow B e 1 c (n+1) (xs++[y])->w.grownBy b (some g)->(∀j,j<n->b.cell? ⟨g,j,none⟩=w.cell? ⟨g,j,none⟩)->K (a.put o.dst c) b):
 if Region.wanted o (yielded f a.tmps)=true then Oper.wp P o a w K Q else E:=by
 have hw:Region.wanted o (yielded f a.tmps)=true:=by simp[Region.wanted,I]
 rw[if_pos hw];obtain⟨c,b,q,v,k,G⟩:=I7 (P:=P) w t o.type e i M r A D H B g n cap xs C F p d y L z;unfold Oper.wp execOp;simp only[J,resolve,invoke,builtin,K6,Li,KP,Ln,JW,Ko,m,l,q];exact h c b v k G
theorem dq(w:Wd)(n:Nat)(o:Obj):(w.drewN n).alloc o=(w.alloc o).drewN n:=rfl
end Go.Proofs.YtihboehpeehlmaaGreatDoor.Dg
