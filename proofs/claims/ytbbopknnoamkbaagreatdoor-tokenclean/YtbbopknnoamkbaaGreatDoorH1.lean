import Derived.Test.YtbbopknnoamkbaaGreatDoorJPureP
import Derived.Test.YtbbopknnoamkbaaGreatDoorProg
import Derived.WalkKit
import Derived.WalkSpells
import Derived.WalkLawsBesides
import Derived.Deep.QuietTactic
import Derived.BigQuiet
import Derived.Deep.RegionWith
set_option maxHeartbeats 400000
namespace Go.Proofs.YtbbopknnoamkbaaGreatDoor.Dg
set_option maxRecDepth 4000
structure St (n:Nat) where
 a:BitVec n
 b:BitVec n
 c:BitVec n
 d:BitVec n
 e:BitVec n
 f:BitVec n
 g:BitVec n
 h:BitVec n
structure Way (n:Nat) where
 f1:Nat
 f2:Nat
 f3:Nat
 n1:Nat
 n2:Nat
 n3:Nat
 e1:Nat
 e2:Nat
 e3:Nat
 a1:Nat
 a2:Nat
 a3:Nat
 K:List (BitVec n)
def sig{n:Nat}(x:BitVec n)(i j k:Nat):BitVec n:=rotr x i^^^rotr x j^^^rotr x k
def sigS{n:Nat}(x:BitVec n)(i j k:Nat):BitVec n:=rotr x i^^^rotr x j^^^x>>>k
def tee{n:Nat}(p:Way n)(s:St n)(x:BitVec n):BitVec n:=s.h+sig s.e p.e1 p.e2 p.e3+((s.e&&&s.f)^^^(~~~s.e&&&s.g))+x
def you{n:Nat}(p:Way n)(s:St n):BitVec n:=sig s.a p.a1 p.a2 p.a3+((s.a&&&s.b)^^^(s.a&&&s.c)^^^(s.b&&&s.c))
def round{n:Nat}(p:Way n)(s:St n)(x:BitVec n):St n:=⟨tee p s x+you p s,s.a,s.b,s.c,s.d+tee p s x,s.e,s.f,s.g⟩
def rd(n:Nat)(l:List UInt8):BitVec n:=l.foldl (fun x c=>x<<<8|||BitVec.ofNat n c.toNat) 0
theorem rd_snoc(n:Nat)(l:List UInt8)(c:UInt8):rd n (l++[c])=rd n l<<<8|||BitVec.ofNat n c.toNat:=by
 unfold rd;rw[List.foldl_append];rfl
def nextW{n:Nat}(p:Way n)(l:List (BitVec n)):BitVec n:=
 l.getD (l.length-16) 0+sigS (l.getD (l.length-15) 0) p.f1 p.f2 p.f3+l.getD (l.length-7) 0+sigS (l.getD (l.length-2) 0) p.n1 p.n2 p.n3
def spreadTo{n:Nat}(p:Way n)(l:List (BitVec n)):Nat→List (BitVec n)
 | 0=>l
 | m+1=>spreadTo p l m++[nextW p (spreadTo p l m)]
theorem spreadTo_length{n:Nat}(p:Way n)(l:List (BitVec n))(m:Nat):(spreadTo p l m).length=l.length+m:=by
 induction m with
 | zero=>rfl
 | succ m ih=>simp[spreadTo,ih];omega
def wordsTo(n y:Nat)(t:List UInt8):Nat→List (BitVec n)
 | 0=>[]
 | k+1=>wordsTo n y t k++[rd n ((t.drop (k*y)).take y)]
theorem wordsTo_length(n y:Nat)(t:List UInt8)(k:Nat):(wordsTo n y t k).length=k:=by
 induction k with
 | zero=>rfl
 | succ k ih=>simp[wordsTo,ih]
def sched{n:Nat}(p:Way n)(y:Nat)(t:List UInt8):List (BitVec n):=spreadTo p (wordsTo n y t 16) (p.K.length-16)
def roundsTo{n:Nat}(p:Way n)(s:St n)(ws:List (BitVec n)):Nat→St n
 | 0=>s
 | k+1=>round p (roundsTo p s ws k) (p.K.getD k 0+ws.getD k 0)
def plusS{n:Nat}(s v:St n):St n:=⟨s.a+v.a,s.b+v.b,s.c+v.c,s.d+v.d,s.e+v.e,s.f+v.f,s.g+v.g,s.h+v.h⟩
def blockS{n:Nat}(p:Way n)(y:Nat)(s:St n)(t:List UInt8):St n:=plusS s (roundsTo p s (sched p y t) p.K.length)
def blocksTo{n:Nat}(p:Way n)(y z:Nat)(s:St n)(t:List UInt8):Nat→St n
 | 0=>s
 | k+1=>blockS p y (blocksTo p y z s t k) ((t.drop (k*z)).take z)
def padZ(z c n:Nat):Nat:=(2*z-c-(n+1)%z)%z
theorem padZ_hit(z c n:Nat)(hz:0<z)(hc:0<c)(hcz:c<z):(n+1+padZ z c n)%z=z-c:=by
 unfold padZ;have h1:(n+1)%z<z:=Nat.mod_lt _ hz;rw[Nat.add_mod,Nat.mod_mod];generalize (n+1)%z=r at h1;by_cases h:r≤z-c
 ·have e:2*z-c-r=(z-c-r)+z:=by omega
  rw[e,Nat.add_mod_right,Nat.mod_eq_of_lt (a:=z-c-r) (by omega),Nat.mod_eq_of_lt (by omega)];omega
 ·rw[Nat.mod_eq_of_lt (a:=2*z-c-r) (by omega)]
  have e:r+(2*z-c-r)=(z-c)+z:=by omega
  rw[e,Nat.add_mod_right,Nat.mod_eq_of_lt (by omega)]
theorem padZ_miss(z c n k:Nat)(hz:0<z)(hc:0<c)(hcz:c<z)(hk:k<padZ z c n):(n+1+k)%z≠z-c:=by
 have hp:padZ z c n<z:=Nat.mod_lt _ hz;have hh:=padZ_hit z c n hz hc hcz;intro h;have e:n+1+padZ z c n=(n+1+k)+(padZ z c n-k):=by omega
 rw[e,Nat.add_mod,h]at hh;rw[Nat.mod_eq_of_lt (a:=padZ z c n-k) (by omega)]at hh;by_cases h2:z-c+(padZ z c n-k)<z
 ·rw[Nat.mod_eq_of_lt h2]at hh;omega
 ·have e2:z-c+(padZ z c n-k)=(padZ z c n-k-c)+z:=by omega
  rw[e2,Nat.add_mod_right,Nat.mod_eq_of_lt (by omega)]at hh;omega
theorem padZ_mod(z c n:Nat):padZ z c (n%z)=padZ z c n:=by unfold padZ;rw[Nat.mod_add_mod]
def byteOf{n:Nat}(x:BitVec n):UInt8:=UInt8.ofNat x.toNat
theorem byteOf_eW{n:Nat}(x:BitVec n):((byteOf x).toNat:Int)=eW x%256:=by
 unfold byteOf eW;simp
theorem eW_byte{n:Nat}(x:BitVec n):eW x%256=((byteOf x).toNat:Int):=(byteOf_eW x).symm
theorem eW_bytew{n:Nat}(x:BitVec n):IntKind.u8.wrap (eW x)=((byteOf x).toNat:Int):=by rw[IntKind.wrap_u8',eW_byte]
theorem eW_bits(s:Nat)(h:s≤140737488355328):(s:Int)*8=eW (BitVec.ofNat 64 (s*8)):=by
 unfold eW;rw[BitVec.toNat_ofNat];omega
def beTo{n:Nat}(c:Nat)(x:BitVec n):Nat→List UInt8
 | 0=>[]
 | k+1=>beTo c x k++[byteOf (x>>>(8*(c-1-k)))]
theorem beTo_length{n:Nat}(c:Nat)(x:BitVec n)(k:Nat):(beTo c x k).length=k:=by
 induction k with
 | zero=>rfl
 | succ k ih=>simp[beTo,ih]
def endL(z c:Nat)(r:List UInt8)(size:Nat):List UInt8:=r++[128]++List.replicate (padZ z c r.length) 0++beTo c (BitVec.ofNat 64 (size*8)) c
open Go.RowKit
set_option linter.unusedVariables false
def eS(x:BitVec 64):Int:=x.toInt
theorem ofInt_eS(x:BitVec 64):BitVec.ofInt 64 (eS x)=x:=by unfold eS;simp
theorem i64wrap_eq(n:Int):IntKind.i64.wrap n=eS (BitVec.ofInt 64 n):=by
 rw[IntKind.wrap_i64];unfold eS;rw[BitVec.toInt_ofInt];rw[Int.bmod_def];split<;>omega
theorem i64wrap_nat(x:BitVec 64):IntKind.i64.wrap (x.toNat:Int)=eS x:=by rw[i64wrap_eq];simp
theorem wrap64_eS(n:Int):wrap64 n=eS (BitVec.ofInt 64 n):=by rw[←i64wrap_eq,IntWalk.i64_left]
theorem andS(x y:BitVec 64):bits .and .i64 (eS x) (eS y)=eS (x&&&y):=by
 show IntKind.i64.wrap ((BitVec.ofInt 64 (eS x)&&&BitVec.ofInt 64 (eS y)).toNat:Int)=_
 rw[ofInt_eS,ofInt_eS,i64wrap_nat]
theorem orS(x y:BitVec 64):bits .or .i64 (eS x) (eS y)=eS (x|||y):=by
 show IntKind.i64.wrap ((BitVec.ofInt 64 (eS x)|||BitVec.ofInt 64 (eS y)).toNat:Int)=_
 rw[ofInt_eS,ofInt_eS,i64wrap_nat]
theorem xorS(x y:BitVec 64):bits .xor .i64 (eS x) (eS y)=eS (x^^^y):=by
 show IntKind.i64.wrap ((BitVec.ofInt 64 (eS x)^^^BitVec.ofInt 64 (eS y)).toNat:Int)=_
 rw[ofInt_eS,ofInt_eS,i64wrap_nat]
theorem notS(x:BitVec 64):bits .xor .i64 (-1) (eS x)=eS (~~~x):=by
 show IntKind.i64.wrap ((BitVec.ofInt 64 (-1)^^^BitVec.ofInt 64 (eS x)).toNat:Int)=_
 rw[ofInt_eS,i64wrap_nat,show BitVec.ofInt 64 (-1)=BitVec.allOnes 64 from rfl,BitVec.allOnes_xor]
theorem addS(x y:BitVec 64):IntKind.i64.wrap (eS x+eS y)=eS (x+y):=by rw[i64wrap_eq,BitVec.ofInt_add,ofInt_eS,ofInt_eS]
theorem addSw(x y:BitVec 64):wrap64 (eS x+eS y)=eS (x+y):=by rw[wrap64_eS,BitVec.ofInt_add,ofInt_eS,ofInt_eS]
theorem ofInt_pow(n:Nat):BitVec.ofInt 64 (2^n)=BitVec.twoPow 64 n:=by
 apply BitVec.eq_of_toNat_eq;rw[BitVec.toNat_ofInt,BitVec.toNat_twoPow];have:((2:Int)^n)=((2^n:Nat):Int):=by simp
 rw[this];exact_mod_cast rfl
theorem shlS(x:BitVec 64)(n:Nat):IntKind.i64.wrap (eS x*2^n)=eS (x<<<n):=by
 rw[i64wrap_eq,BitVec.ofInt_mul,ofInt_eS,ofInt_pow,BitVec.shiftLeft_eq_mul_twoPow]
theorem shlSw(x:BitVec 64)(n:Nat):wrap64 (eS x*2^n)=eS (x<<<n):=by rw[←shlS,IntWalk.i64_left]
theorem sarS(x:BitVec 64)(n:Nat):eS x/2^n=eS (x.sshiftRight n):=by
 unfold eS;rw[BitVec.toInt_sshiftRight,Int.shiftRight_eq_div_pow];have:((2:Int)^n)=((2^n:Nat):Int):=by simp
 rw[this]
theorem eS_32(x:BitVec 32):eS (x.setWidth 64)=eW x:=by
 unfold eS eW;have h:=x.isLt;rw[BitVec.toInt_eq_toNat_cond,BitVec.toNat_setWidth];rw[Nat.mod_eq_of_lt (by omega)];split<;>omega
theorem sar_32(x:BitVec 32)(n:Nat):(x.setWidth 64).sshiftRight n=(x>>>n).setWidth 64:=by
 apply BitVec.eq_of_getLsbD_eq;intro i hi;have hm:(x.setWidth 64).msb=false:=by
  rw[BitVec.msb_setWidth];simp
 simp only[BitVec.getLsbD_sshiftRight,BitVec.getLsbD_setWidth,BitVec.getLsbD_ushiftRight,hm];by_cases h:n+i<64
 ·simp[h,hi]
 ·have:¬(n+i<32):=by omega
  simp[h,hi];rw[BitVec.getLsbD_of_ge x _ (by omega)]
theorem mask_64(x:BitVec 64)(n:Nat)(h0:0<n)(h1:n<64):x.sshiftRight n&&&BitVec.ofInt 64 (2^(64-n)-1)=x>>>n:=by
 apply BitVec.eq_of_getLsbD_eq;intro i hi;have e:BitVec.ofInt 64 (2^(64-n)-1)=BitVec.ofNat 64 (2^(64-n)-1):=by
  have hp:0<2^(64-n):=Nat.two_pow_pos _;have:((2:Int)^(64-n)-1)=((2^(64-n)-1:Nat):Int):=by
   rw[Int.natCast_sub hp];simp
  rw[this,BitVec.ofInt_natCast]
 rw[e];simp only[BitVec.getLsbD_and,BitVec.getLsbD_sshiftRight,BitVec.getLsbD_ushiftRight,BitVec.getLsbD_ofNat,Nat.testBit_two_pow_sub_one];by_cases h:n+i<64
 ·have h2:i<64-n:=by omega
  simp[h,hi,h2]
 ·simp[h,hi]
  rw[BitVec.getLsbD_of_ge x _ (by omega)];simp;omega
theorem wrap64_less(a:Int):wrap64 (wrap64 a-1)=wrap64 (a-1):=by unfold wrap64;omega
theorem shrfin(x:BitVec 64)(n:Int)(h0:0<n)(h1:n<64):bits .and .i64 (eS (x.sshiftRight n.toNat)) (wrap64 (wrap64 (2^(64-n).toNat)-1))=eS (x>>>n.toNat):=by
 rw[wrap64_less,wrap64_eS,andS,show(64-n).toNat=64-n.toNat from by omega,mask_64 x n.toNat (by omega) (by omega)]
theorem word_32(x:BitVec 64):x&&&BitVec.ofInt 64 4294967295=(x.setWidth 32).setWidth 64:=by
 apply BitVec.eq_of_getLsbD_eq;intro i hi;have e:BitVec.ofInt 64 4294967295=BitVec.ofNat 64 (2^32-1):=rfl;rw[e];simp only[BitVec.getLsbD_and,BitVec.getLsbD_setWidth,BitVec.getLsbD_ofNat,Nat.testBit_two_pow_sub_one];by_cases h:i<32<;>simp[h,hi]
theorem wordS(x:BitVec 64):bits .and .i64 (eS x) 4294967295=eS ((x.setWidth 32).setWidth 64):=by
 show IntKind.i64.wrap ((BitVec.ofInt 64 (eS x)&&&BitVec.ofInt 64 4294967295).toNat:Int)=_
 rw[ofInt_eS,i64wrap_nat,word_32]
def ex(x:BitVec 32):BitVec 64:=x.setWidth 64
theorem ex_xor(x y:BitVec 32):ex x^^^ex y=ex (x^^^y):=by unfold ex;rw[BitVec.setWidth_xor]
theorem ex_and(x y:BitVec 32):ex x&&&ex y=ex (x&&&y):=by unfold ex;rw[BitVec.setWidth_and]
theorem ex_or(x y:BitVec 32):ex x|||ex y=ex (x|||y):=by unfold ex;rw[BitVec.setWidth_or]
theorem set_ex(x:BitVec 32):BitVec.setWidth 32 (ex x)=x:=by unfold ex;simp
theorem set_add(x y:BitVec 64):BitVec.setWidth 32 (x+y)=BitVec.setWidth 32 x+BitVec.setWidth 32 y:=BitVec.setWidth_add x y (by omega)
theorem set_not(x:BitVec 32):BitVec.setWidth 32 (~~~(ex x))= ~~~x:=by
 unfold ex;rw[BitVec.setWidth_not (by omega)];simp
theorem eS_ex(x:BitVec 32):eS (ex x)=eW x:=eS_32 x
theorem sarX(x:BitVec 32)(n:Nat):(ex x).sshiftRight n=ex (x>>>n):=sar_32 x n
theorem wordSx(x:BitVec 64):bits .and .i64 (eS x) 4294967295=eS (ex (x.setWidth 32)):=wordS x
theorem rotr_32(x:BitVec 32)(n:Nat)(h0:0<n)(h1:n<32):((x>>>n).setWidth 64|||x.setWidth 64<<<(32-n)).setWidth 32=rotr x n:=by
 apply BitVec.eq_of_getLsbD_eq;intro i hi;unfold rotr;simp only[BitVec.getLsbD_or,BitVec.getLsbD_setWidth,BitVec.getLsbD_ushiftRight,BitVec.getLsbD_shiftLeft];have h2:i<64:=by omega
 simp[hi,h2];by_cases h:i<32-n
 ·simp[h]
 ·have:i-(32-n)<64:=by omega
  simp[h,this]
theorem rotrX(x:BitVec 32)(n:Nat)(h0:0<n)(h1:n<32):(ex (x>>>n)|||ex x<<<(32-n)).setWidth 32=rotr x n:=rotr_32 x n h0 h1
section
attribute [local go_sem] andS orS xorS notS addS addSw shlS shlSw sarS wordSx ex_xor ex_and ex_or sarX
theorem rshr32(x:BitVec 32)(n:Int)(w:World)(h0:0<n)(h1:n<32):Calls Tryz.prog 193 #[.int .i64 (eS (ex (x))),.int .i64 n,.int .i64 32] w fun e w'=>e=.returned (.int .i64 (eS (ex (x>>>n.toNat))))∧∃k,w'=w.drewN k:=by
 have hn0:(n==0)=false:=by rw[beq_eq_false_iff_ne];omega
 go_enter Tryz.func193,Tryz.ntmps193;go_wp2_with fail
 try go_quiet (fail)
 try go_wp2
 go_ret
 first
  | exact⟨rfl,0,rfl⟩
  | exact⟨by rw[←shrfin x n h0 h1];rfl,nq,rfl⟩
theorem rword32(x:BitVec 64)(w:World):Calls Tryz.prog 172 #[.int .i64 (eS x),.int .i64 32] w fun e w'=>e=.returned (.int .i64 (eS (ex (BitVec.setWidth 32 (x)))))∧w'=w:=by
 go_enter Tryz.func172,Tryz.ntmps172;go_wp2;go_ret;exact⟨rfl,rfl⟩
theorem rrotr32(x:BitVec 32)(n:Int)(w:World)(h0:0<n)(h1:n<32):Calls Tryz.prog 192 #[.int .i64 (eS (ex (x))),.int .i64 n,.int .i64 32] w fun e w'=>e=.returned (.int .i64 (eS (ex (rotr x n.toNat))))∧∃k,w'=w.drewN k:=by
 go_enter Tryz.func192,Tryz.ntmps192;go_wp2_with fail
 go_quiet (first|(go_at_call 193;exact Calls.quiet_of (rshr32 x n _ h0 h1))|(go_at_call 172;exact Calls.quiet_of_same (rword32 _ _)));go_wp2;go_ret
 first
  | exact⟨by rw[←rotrX x n.toNat (by omega) (by omega),show 32-n.toNat=(32-n).toNat from by omega];rfl,nq,rfl⟩
  | exact⟨by unfold rotr;rw[show 64-n.toNat=(64-n).toNat from by omega];rfl,nq,rfl⟩
structure RWay32 (w:World) (p:Way 32) (by_:Nat):Prop where
 len:p.K.length=64
 f1:w.cell? ⟨by_,0,none⟩=some (.int .i64 7)
 f2:w.cell? ⟨by_,1,none⟩=some (.int .i64 18)
 f3:w.cell? ⟨by_,2,none⟩=some (.int .i64 3)
 n1:w.cell? ⟨by_,3,none⟩=some (.int .i64 17)
 n2:w.cell? ⟨by_,4,none⟩=some (.int .i64 19)
 n3:w.cell? ⟨by_,5,none⟩=some (.int .i64 10)
 e1:w.cell? ⟨by_,6,none⟩=some (.int .i64 6)
 e2:w.cell? ⟨by_,7,none⟩=some (.int .i64 11)
 e3:w.cell? ⟨by_,8,none⟩=some (.int .i64 25)
 a1:w.cell? ⟨by_,9,none⟩=some (.int .i64 2)
 a2:w.cell? ⟨by_,10,none⟩=some (.int .i64 13)
 a3:w.cell? ⟨by_,11,none⟩=some (.int .i64 22)
 hf:p.f1=7∧p.f2=18∧p.f3=3
 hn:p.n1=17∧p.n2=19∧p.n3=10
 he:p.e1=6∧p.e2=11∧p.e3=25
 ha:p.a1=2∧p.a2=13∧p.a3=22
theorem rmixE32(x:BitVec 32)(b:Nat)(w:World)(p:Way 32)(hR:RWay32 w p b)(v3 v4:Value):Calls Tryz.prog 171 #[.agg #[.int .i64 32,.int .i64 64,.slice (some ⟨b,0,none⟩) 12 12,v3,v4],.int .i64 (eS (ex (x))),.int .i64 6] w fun e w'=>e=.returned (.int .i64 (eS (ex (sig x p.e1 p.e2 p.e3))))∧∃k,w'=(w.alloc (.cells #[.int .i64 32,.int .i64 64,.slice (some ⟨b,0,none⟩) 12 12,v3,v4] 166)).drewN k:=by
 have c1:=hR.e1;have c2:=hR.e2;have c3:=hR.e3;have hlt:b<w.heap.size:=World.block_lt_of_cell? w _ c1;have HE:Hid _:=hR.he;go_enter Tryz.func171,Tryz.ntmps171;go_wp2_with fail
 go_quiet (first|(go_at_call_of 192 (Value.int IntKind.i64 6);exact Calls.quiet_of (rrotr32 x 6 _ (by omega) (by omega)))|(go_at_call_of 192 (Value.int IntKind.i64 11);exact Calls.quiet_of (rrotr32 x 11 _ (by omega) (by omega)))|(go_at_call_of 192 (Value.int IntKind.i64 25);exact Calls.quiet_of (rrotr32 x 25 _ (by omega) (by omega))));go_wp2;go_ret;refine⟨?_,nq,rfl⟩;unfold sig;rw[HE.out.1,HE.out.2.1,HE.out.2.2];rfl
theorem rmixA32(x:BitVec 32)(b:Nat)(w:World)(p:Way 32)(hR:RWay32 w p b)(v3 v4:Value):Calls Tryz.prog 171 #[.agg #[.int .i64 32,.int .i64 64,.slice (some ⟨b,0,none⟩) 12 12,v3,v4],.int .i64 (eS (ex (x))),.int .i64 9] w fun e w'=>e=.returned (.int .i64 (eS (ex (sig x p.a1 p.a2 p.a3))))∧∃k,w'=(w.alloc (.cells #[.int .i64 32,.int .i64 64,.slice (some ⟨b,0,none⟩) 12 12,v3,v4] 166)).drewN k:=by
 have c1:=hR.a1;have c2:=hR.a2;have c3:=hR.a3;have hlt:b<w.heap.size:=World.block_lt_of_cell? w _ c1;have HA:Hid _:=hR.ha;go_enter Tryz.func171,Tryz.ntmps171;go_wp2_with fail
 go_quiet (first|(go_at_call_of 192 (Value.int IntKind.i64 2);exact Calls.quiet_of (rrotr32 x 2 _ (by omega) (by omega)))|(go_at_call_of 192 (Value.int IntKind.i64 13);exact Calls.quiet_of (rrotr32 x 13 _ (by omega) (by omega)))|(go_at_call_of 192 (Value.int IntKind.i64 22);exact Calls.quiet_of (rrotr32 x 22 _ (by omega) (by omega))));go_wp2;go_ret;refine⟨?_,nq,rfl⟩;unfold sig;rw[HA.out.1,HA.out.2.1,HA.out.2.2];rfl
end
section
attribute [local go_sem] andS orS xorS notS addS addSw shlS shlSw sarS wordSx ex_xor ex_and ex_or sarX
theorem rshr64(x:BitVec 64)(n:Int)(w:World)(h0:0<n)(h1:n<64):Calls Tryz.prog 193 #[.int .i64 (eS (x)),.int .i64 n,.int .i64 64] w fun e w'=>e=.returned (.int .i64 (eS (x>>>n.toNat)))∧∃k,w'=w.drewN k:=by
 have hn0:(n==0)=false:=by rw[beq_eq_false_iff_ne];omega
 go_enter Tryz.func193,Tryz.ntmps193;go_wp2_with fail
 try go_quiet (fail)
 try go_wp2
 go_ret
 first
  | exact⟨rfl,0,rfl⟩
  | exact⟨by rw[←shrfin x n h0 h1];rfl,nq,rfl⟩
theorem rword64(x:BitVec 64)(w:World):Calls Tryz.prog 172 #[.int .i64 (eS x),.int .i64 64] w fun e w'=>e=.returned (.int .i64 (eS (x)))∧w'=w:=by
 go_enter Tryz.func172,Tryz.ntmps172;go_wp2;go_ret;exact⟨rfl,rfl⟩
theorem rrotr64(x:BitVec 64)(n:Int)(w:World)(h0:0<n)(h1:n<64):Calls Tryz.prog 192 #[.int .i64 (eS (x)),.int .i64 n,.int .i64 64] w fun e w'=>e=.returned (.int .i64 (eS (rotr x n.toNat)))∧∃k,w'=w.drewN k:=by
 go_enter Tryz.func192,Tryz.ntmps192;go_wp2_with fail
 go_quiet (first|(go_at_call 193;exact Calls.quiet_of (rshr64 x n _ h0 h1))|(go_at_call 172;exact Calls.quiet_of_same (rword64 _ _)));go_wp2;go_ret
 first
  | exact⟨by rw[←rotrX x n.toNat (by omega) (by omega),show 32-n.toNat=(32-n).toNat from by omega];rfl,nq,rfl⟩
  | exact⟨by unfold rotr;rw[show 64-n.toNat=(64-n).toNat from by omega];rfl,nq,rfl⟩
structure RWay64 (w:World) (p:Way 64) (by_:Nat):Prop where
 len:p.K.length=80
 f1:w.cell? ⟨by_,0,none⟩=some (.int .i64 1)
 f2:w.cell? ⟨by_,1,none⟩=some (.int .i64 8)
 f3:w.cell? ⟨by_,2,none⟩=some (.int .i64 7)
 n1:w.cell? ⟨by_,3,none⟩=some (.int .i64 19)
 n2:w.cell? ⟨by_,4,none⟩=some (.int .i64 61)
 n3:w.cell? ⟨by_,5,none⟩=some (.int .i64 6)
 e1:w.cell? ⟨by_,6,none⟩=some (.int .i64 14)
 e2:w.cell? ⟨by_,7,none⟩=some (.int .i64 18)
 e3:w.cell? ⟨by_,8,none⟩=some (.int .i64 41)
 a1:w.cell? ⟨by_,9,none⟩=some (.int .i64 28)
 a2:w.cell? ⟨by_,10,none⟩=some (.int .i64 34)
 a3:w.cell? ⟨by_,11,none⟩=some (.int .i64 39)
 hf:p.f1=1∧p.f2=8∧p.f3=7
 hn:p.n1=19∧p.n2=61∧p.n3=6
 he:p.e1=14∧p.e2=18∧p.e3=41
 ha:p.a1=28∧p.a2=34∧p.a3=39
theorem rmixE64(x:BitVec 64)(b:Nat)(w:World)(p:Way 64)(hR:RWay64 w p b)(v3 v4:Value):Calls Tryz.prog 171 #[.agg #[.int .i64 64,.int .i64 80,.slice (some ⟨b,0,none⟩) 12 12,v3,v4],.int .i64 (eS (x)),.int .i64 6] w fun e w'=>e=.returned (.int .i64 (eS (sig x p.e1 p.e2 p.e3)))∧∃k,w'=(w.alloc (.cells #[.int .i64 64,.int .i64 80,.slice (some ⟨b,0,none⟩) 12 12,v3,v4] 166)).drewN k:=by
 have c1:=hR.e1;have c2:=hR.e2;have c3:=hR.e3;have hlt:b<w.heap.size:=World.block_lt_of_cell? w _ c1;have HE:Hid _:=hR.he;go_enter Tryz.func171,Tryz.ntmps171;go_wp2_with fail
 go_quiet (first|(go_at_call_of 192 (Value.int IntKind.i64 14);exact Calls.quiet_of (rrotr64 x 14 _ (by omega) (by omega)))|(go_at_call_of 192 (Value.int IntKind.i64 18);exact Calls.quiet_of (rrotr64 x 18 _ (by omega) (by omega)))|(go_at_call_of 192 (Value.int IntKind.i64 41);exact Calls.quiet_of (rrotr64 x 41 _ (by omega) (by omega))));go_wp2;go_ret;refine⟨?_,nq,rfl⟩;unfold sig;rw[HE.out.1,HE.out.2.1,HE.out.2.2];rfl
theorem rmixA64(x:BitVec 64)(b:Nat)(w:World)(p:Way 64)(hR:RWay64 w p b)(v3 v4:Value):Calls Tryz.prog 171 #[.agg #[.int .i64 64,.int .i64 80,.slice (some ⟨b,0,none⟩) 12 12,v3,v4],.int .i64 (eS (x)),.int .i64 9] w fun e w'=>e=.returned (.int .i64 (eS (sig x p.a1 p.a2 p.a3)))∧∃k,w'=(w.alloc (.cells #[.int .i64 64,.int .i64 80,.slice (some ⟨b,0,none⟩) 12 12,v3,v4] 166)).drewN k:=by
 have c1:=hR.a1;have c2:=hR.a2;have c3:=hR.a3;have hlt:b<w.heap.size:=World.block_lt_of_cell? w _ c1;have HA:Hid _:=hR.ha;go_enter Tryz.func171,Tryz.ntmps171;go_wp2_with fail
 go_quiet (first|(go_at_call_of 192 (Value.int IntKind.i64 28);exact Calls.quiet_of (rrotr64 x 28 _ (by omega) (by omega)))|(go_at_call_of 192 (Value.int IntKind.i64 34);exact Calls.quiet_of (rrotr64 x 34 _ (by omega) (by omega)))|(go_at_call_of 192 (Value.int IntKind.i64 39);exact Calls.quiet_of (rrotr64 x 39 _ (by omega) (by omega))));go_wp2;go_ret;refine⟨?_,nq,rfl⟩;unfold sig;rw[HA.out.1,HA.out.2.1,HA.out.2.2];rfl
end
def valB(l:List UInt8):Nat:=l.foldl (fun a c=>a*256+c.toNat) 0
theorem valB_snoc(l:List UInt8)(c:UInt8):valB (l++[c])=valB l*256+c.toNat:=by unfold valB;rw[List.foldl_append];rfl
theorem or_step(n v c:Nat)(hn:8≤n)(hc:c<256):BitVec.ofNat n v<<<8|||BitVec.ofNat n c=BitVec.ofNat n (v*256+c):=by
 apply BitVec.eq_of_toNat_eq;rw[BitVec.toNat_or,BitVec.toNat_shiftLeft,BitVec.toNat_ofNat,BitVec.toNat_ofNat,BitVec.toNat_ofNat];have h256:256≤2^n:=by
  have:=Nat.pow_le_pow_right (n:=2) (by omega) hn;simpa using this
 rw[Nat.mod_eq_of_lt (a:=c) (by omega),Nat.shiftLeft_eq];have e1:v%2^n*2^8%2^n=(v*256)%2^n:=by rw[Nat.mod_mul_mod]
 rw[e1];obtain⟨m,rfl⟩:∃m,n=m+8:=⟨n-8,by omega⟩;have e2:v*256%2^(m+8)=(v%2^m)*2^8:=by
  rw[Nat.pow_add,show(256:Nat)=2^8 from rfl,Nat.mul_mod_mul_right]
 have e3:(v*256+c)%2^(m+8)=(v%2^m)*2^8+c:=by
  rw[Nat.add_mod,e2,Nat.mod_eq_of_lt (a:=c) (by omega)];apply Nat.mod_eq_of_lt;have h1:v%2^m<2^m:=Nat.mod_lt _ (Nat.two_pow_pos _);have h2:(v%2^m+1)*2^8≤2^m*2^8:=Nat.mul_le_mul_right _ h1;rw[Nat.pow_add];omega
 rw[e2,e3,←Nat.shiftLeft_eq,←Nat.shiftLeft_add_eq_or_of_lt (by simpa using hc)]
theorem rd_val(n:Nat)(hn:8≤n)(l:List UInt8):rd n l=BitVec.ofNat n (valB l):=by
 have h:∀(k:Nat) (l:List UInt8),l.length=k→rd n l=BitVec.ofNat n (valB l):=by
  intro k;induction k with
  | zero=>intro l hl;rw[List.length_eq_zero_iff.1 hl];rfl
  | succ k ih=>
    intro l hl;have hne:l≠[]:=by intro h;rw[h]at hl;simp at hl
    rw[←List.dropLast_concat_getLast hne,rd_snoc,valB_snoc,ih _ (by simp[hl]),or_step n _ _ hn (UInt8.toNat_lt _)]
 exact h l.length l rfl
theorem valB_lt(l:List UInt8):valB l<256^l.length:=by
 have h:∀(k:Nat) (l:List UInt8),l.length=k→valB l<256^k:=by
  intro k;induction k with
  | zero=>intro l hl;rw[List.length_eq_zero_iff.1 hl];simp[valB]
  | succ k ih=>
    intro l hl;have hne:l≠[]:=by intro h;rw[h]at hl;simp at hl
    have h1:=ih l.dropLast (by simp[hl]);have h2:=UInt8.toNat_lt (l.getLast hne);rw[←List.dropLast_concat_getLast hne,valB_snoc,Nat.pow_succ];omega
 exact h l.length l rfl
theorem rd_ex(l:List UInt8)(h:l.length≤4):rd 64 l=ex (rd 32 l):=by
 have hv:valB l<4294967296:=by
  have h1:=valB_lt l;have h2:256^l.length≤256^4:=Nat.pow_le_pow_right (by omega) h;omega
 rw[rd_val 64 (by omega),rd_val 32 (by omega)];apply BitVec.eq_of_toNat_eq;unfold ex;rw[BitVec.toNat_setWidth,BitVec.toNat_ofNat,BitVec.toNat_ofNat];rw[Nat.mod_eq_of_lt (a:=valB l) (b:=2^32) (by omega)]
theorem take_piece(s:ByteArray)(k m y:Nat)(hm:m<y)(h:y*k+y≤s.size)(hx:y*k+m<s.size):((s.data.toList.drop (k*y)).take y).take (m+1)=((s.data.toList.drop (k*y)).take y).take m++[s[y*k+m]]:=by
 have hl:m<((s.data.toList.drop (k*y)).take y).length:=by simp;rw[Nat.mul_comm k y];omega
 rw[List.take_succ_eq_append_getElem hl];congr 2
 rw[List.getElem_take,List.getElem_drop];have e:k*y+m=y*k+m:=by rw[Nat.mul_comm]
 simp only[e];rfl
theorem rdS_step(x:BitVec 64)(c:UInt8):bits .or .i64 (wrap64 (eS x*256)) (wrap64 (c.toNat:Int))=eS (x<<<8|||BitVec.ofNat 64 c.toNat):=by
 have h:=c.toNat_lt;have h1:wrap64 (eS x*256)=eS (x<<<8):=shlSw x 8;have h2:wrap64 (c.toNat:Int)=eS (BitVec.ofNat 64 c.toNat):=by
  rw[wrap64_eS,BitVec.ofInt_natCast]
 rw[h1,h2,orS]
theorem ret_bool{a b:Bool}(h:a=b):Ending.returned (.bool a)=.returned (.bool b):=by rw[h]
theorem xor_zero_iff(c d:Nat):c^^^d=0↔c=d:=
 ⟨fun h=>by have h2:=congrArg (fun x=>x^^^d) h;simpa [Nat.xor_assoc]using h2,fun h=>by simp[h]⟩
theorem orx(q:Int)(c d:UInt8)(h0:0≤q)(h1:q≤255):0≤bits .or .u8 q (bits .xor .u8 (c.toNat:Int) (d.toNat:Int))∧bits .or .u8 q (bits .xor .u8 (c.toNat:Int) (d.toNat:Int))≤255∧(bits .or .u8 q (bits .xor .u8 (c.toNat:Int) (d.toNat:Int))=0↔q=0∧c=d):=by
 obtain⟨m,rfl⟩:=Int.eq_ofNat_of_zero_le h0;have hc:c.toNat<256:=c.toNat_lt;have hd:d.toNat<256:=d.toNat_lt;have hx:c.toNat^^^d.toNat<256:=Nat.xor_lt_two_pow (n:=8) hc hd;rw[u8_xor_nat _ _ hc hd,u8_or_nat _ _ (by omega) hx];have ho:m|||(c.toNat^^^d.toNat)<256:=Nat.or_lt_two_pow (n:=8) (by omega) hx;refine⟨by omega,by omega,?_⟩;have e1:((m|||(c.toNat^^^d.toNat):Nat):Int)=0↔m|||(c.toNat^^^d.toNat)=0:=by omega
 rw[e1,Nat.or_eq_zero_iff,xor_zero_iff];have e2:(c.toNat=d.toNat)↔c=d:=UInt8.toNat_inj;rw[e2];have e3:((m:Int)=0)↔m=0:=by omega
 rw[e3]
theorem take_snoc(s:ByteArray)(k:Nat)(h:k<s.size):s.data.toList.take (k+1)=s.data.toList.take k++[s[k]]:=by
 rw[List.take_succ_eq_append_getElem (by simpa using h)];rfl
theorem snoc_inj(l m:List UInt8)(x y:UInt8):l++[x]=m++[y]↔l=m∧x=y:=
 ⟨fun h=>by have h2:=List.append_inj' h rfl;exact⟨h2.1,by simpa using h2.2⟩,fun h=>by rw[h.1,h.2]⟩
theorem eq_of_all(a b:ByteArray)(q:Int)(hs:a.size=b.size)(hq:q=0↔a.data.toList.take b.size=b.data.toList.take b.size):(q==0)=decide (a=b):=by
 rw[List.take_of_length_le (by simp;omega),List.take_of_length_le (by simp)]at hq;have h1:a.data.toList=b.data.toList↔a=b:=⟨fun h=>by cases a;cases b;simp at h;simp[h],fun h=>by rw[h]⟩;rw[h1]at hq;rw[Bool.eq_iff_iff];simp[hq]
theorem b_self{w w':World}(h:Below w.heap.size w w'){b o:Nat}{v:Value}(hv:w.cell? ⟨b,o,none⟩=some v):w'.cell? ⟨b,o,none⟩=some v:=b_cell h (World.block_lt_of_cell? w _ hv) hv
theorem appI{P:Program}(w:World)(t ty e:TypeId)(i:TypeInfo)(ht:P.underlying t=some (.slice e))(hi:P.info? e=some i)(hz:i.zero=some (.int .i64 0))(hsize:i.size=1)(hby:i.bytes=8)(B g n cap:Nat)(xs:List Value)(hown:w.ownsRow B e 1 (.slice (some ⟨g,0,none⟩) n cap) n xs)(hn:n≤1000)(hB:B≤w.heap.size)(ad:Addr)(y:Value)(hy:y.oneCell'=true)(hc:∀j u,[y][j]?=some u→w.cell? (ad.add j)=some u):∃v' w',(Builtin.append_ #[t,t] ty #[.slice (some ⟨g,0,none⟩) n cap,.slice (some ad) 1 1]).run P w=.ok v' w'∧w'.ownsRow B e 1 v' (n+1) (xs++[y])∧w.grownBy w' (some g)∧(∀j,j<n→w'.cell? ⟨g,j,none⟩=w.cell? ⟨g,j,none⟩):=by
 have h1:∀u∈[y],u.oneCell'=true:=by intro u hu;simp at hu;subst hu;exact hy
 obtain⟨v',w',r1,r2,r3,_⟩:=run_append_own (P:=P) w B t ty e i (.int .i64 0) 1 8 ht hi hz hsize hby rfl (by decide) (.slice (some ⟨g,0,none⟩) n cap) n xs hown ad 1 1 [y] rfl hc h1 (by unfold maxLen;omega) (by omega) hB;refine⟨v',w',r1,r2,r3,?_⟩;intro j hj;rcases hown.2 with⟨h0,_⟩|⟨g',cap',cur,hv,hbg,hg,hnc,hcm,hcs,htk⟩
 ·cases h0
 ·have e1:g'=g∧cap'=cap:=by injection hv with ha _ hc;injection ha with ha;injection ha with ha;exact⟨ha.symm,hc.symm⟩
  obtain⟨rfl,rfl⟩:=e1;by_cases hroom:n+1≤cap'
  ·have hr:=run_append_room (P:=P) w t ty e i ht hi g' n cap' cur hg ad 1 1 [y] (by rw[hsize];rfl) hc h1 hroom (by rw[hsize];simp;omega)
   rw[hr]at r1;injection r1 with _ r1;rw[←r1,cell_setRow_same w g' j cur _ e (0,0) hg,cell_of_row w g' j cur e (0,0) hg,hsize];have hlen:j<(cur.toList.take (n*1)).length:=by simp;omega
   rw[List.getElem?_toArray,List.append_assoc,List.getElem?_append_left hlen,List.getElem?_take,if_pos (by omega)];simp
  ·have holds:=hown.cells (g:=g') rfl
   have hr:=run_append_grow (P:=P) w t ty e i (.int .i64 0) ht hi hz ⟨g',0,none⟩ n cap' xs (by rw[hsize];exact hown.1) holds ad 1 1 [y] (by rw[hsize];rfl) hc (by omega) (by omega) (by rw[hby];exact growslice_fits (by omega) (by omega));rw[hr]at r1;injection r1 with _ r1;have hgl:g'<w.heap.size:=(Array.getElem?_eq_some_iff.1 hg).1;rw[←r1,World.cell?_alloc_lt _ _ _ (by exact hgl)];rfl
theorem stepI{P:Program}{ops:Array Oper}{o:Oper}{a:Act}{w:World}{K:Act→World→Prop}{Q:Exit→Act→World→Prop}{E:Prop}(hgd:o.guard=none)(s x:Operand)(t:TypeId)(ho:o.op=.call {callee:=.builtin .append,args:= #[s,x],argTypes:= #[t,t]})
 (e:TypeId) (i:TypeInfo) (ht:P.underlying t=some (.slice e)) (hi:P.info? e=some i) (hz:i.zero=some (.int .i64 0)) (hsize:i.size=1) (hby:i.bytes=8)
 (B g n cap:Nat) (xs:List Value) (ad:Addr) (y:Value) (hy:y.oneCell'=true) (hn:n≤1000)
 (hs:a.eval s=.slice (some ⟨g,0,none⟩) n cap) (hx:a.eval x=.slice (some ad) 1 1)
 (hown:w.ownsRow B e 1 (.slice (some ⟨g,0,none⟩) n cap) n xs) (hB:B≤w.heap.size) (hc:∀j u,[y][j]?=some u→w.cell? (ad.add j)=some u)
 (h:∀v' w',w'.ownsRow B e 1 v' (n+1) (xs++[y])→w.grownBy w' (some g)→(∀j,j<n→w'.cell? ⟨g,j,none⟩=w.cell? ⟨g,j,none⟩)→K (a.put o.dst v') w'):
 if Region.wanted o (yielded ops a.tmps)=true then Oper.wp P o a w K Q else E:=by
 have hw:Region.wanted o (yielded ops a.tmps)=true:=by simp[Region.wanted,hgd]
 rw[if_pos hw];obtain⟨v',w',r1,r2,r3,r4⟩:=appI (P:=P) w t o.type e i ht hi hz hsize hby B g n cap xs hown hn hB ad y hy hc;unfold Oper.wp execOp;simp only[ho,resolve,invoke,builtin,Sem.run_bind,Sem.run_pure,Result.andThen_ok,List.map_toArray,List.map_cons,List.map_nil,hs,hx,r1];exact h v' w' r2 r3 r4
end Go.Proofs.YtbbopknnoamkbaaGreatDoor.Dg
