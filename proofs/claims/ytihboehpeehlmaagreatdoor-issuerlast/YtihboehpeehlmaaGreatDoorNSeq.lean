import Derived.Test.YtihboehpeehlmaaGreatDoorG1
set_option maxHeartbeats 1000000
namespace Go.Proofs.YtihboehpeehlmaaGreatDoor
open Tryz
open Go.RowKit
set_option linter.unusedVariables false
theorem gY(c:UInt8)(w:Wd):Calls prog 95 #[.int .u8 (c.toNat:Int)] w fun e g=>e=.returned (.bool (d8 c))/\g=w:=by
 by_cases a:48<=c.toNat
 ·have f:(48:Int)<=(c.toNat:Int):=by omega
  by_cases b:c.toNat<=57
  ·have d:(c.toNat:Int)<=57:=by omega
   go_enter func95,ntmps95;go_wp2;go_ret;exact⟨by simp[d8,a,b],rfl⟩
  ·have d:(57:Int)<(c.toNat:Int):=by omega
   go_enter func95,ntmps95;go_wp2;go_ret;exact⟨by simp[d8,b];omega,rfl⟩
 ·have f:(c.toNat:Int)<48:=by omega
  go_enter func95,ntmps95;go_wp2;go_ret;exact⟨by simp[d8,a],rfl⟩
theorem G6(s:dv)(i k b c:Nat)(w:Wd):Calls prog 114 #[.string s,.int .i64 ((i:Int)+(k:Int)),.int .u8 (b:Int),.int .u8 (c:Int)] w fun e n=>e=.returned (.bool (ed (b9 s i) k b c))/\n=w:=by
 by_cases h:i+k<s.size
 ·have j:(i:Int)+(k:Int)<(s.size:Int):=by omega
  have d:=nU s i k h;have a:Hid _:=d;clear d;by_cases g:b<=s[i+k].toNat
  ·have m:(b:Int)<=(s[i+k].toNat:Int):=by omega
   by_cases f:s[i+k].toNat<=c
   ·have l:(s[i+k].toNat:Int)<=(c:Int):=by omega
    go_enter func114,ntmps114;go_wp2;go_ret;exact⟨by rw[ed,a.out];simp[g,f],rfl⟩
   ·have l:(c:Int)<(s[i+k].toNat:Int):=by omega
    go_enter func114,ntmps114;go_wp2;go_ret;exact⟨by rw[ed,a.out];simp[f],rfl⟩
  ·have m:(s[i+k].toNat:Int)<(b:Int):=by omega
   go_enter func114,ntmps114;go_wp2;go_ret;exact⟨by rw[ed,a.out];simp[g],rfl⟩
 ·have j:(s.size:Int)<=(i:Int)+(k:Int):=by omega
  have d:=kt s i k (by omega);have a:Hid _:=d;clear d;go_enter func114,ntmps114;go_wp2;go_ret;exact⟨by rw[ed,a.out];simp,rfl⟩
theorem Jq(c:UInt8)(w:Wd):Calls prog 183 #[.int .u8 (c.toNat:Int)] w fun e o=>e=.returned (.int .i64 (optI (fA c)))/\o=w:=by
 have i:=gY c;by_cases d:48<=c.toNat/\c.toNat<=57
 ·have k:d8 c=true:=by simp[d8,d]
  have b:fA c=some (c.toNat-48):=by simp[fA,d]
  rw[k]at i;rw[b,hY];obtain⟨f,j⟩:=d;clear k b;go_enter func183,ntmps183;go_wp2_with fail
  refine(i _).mono ?_;rintro e g ⟨rfl,a⟩;rw[a];clear a g;go_wp2;go_ret;exact⟨dX (by omega),rfl⟩
 ·have k:d8 c=false:=by simp[d8];omega
  rw[k]at i;clear k;by_cases f:65<=c.toNat/\c.toNat<=70
  ·have b:fA c=some (c.toNat-55):=by simp[fA,d,f]
   rw[b,hY];obtain⟨f,j⟩:=f;have n:(65:Int)<=(c.toNat:Int):=by omega
   have l:(c.toNat:Int)<=70:=by omega
   clear b d;go_enter func183,ntmps183;go_wp2_with fail
   refine(i _).mono ?_;rintro e g ⟨rfl,a⟩;rw[a];clear a g;go_wp2;go_ret;exact⟨dX (by omega),rfl⟩
  ·by_cases j:97<=c.toNat/\c.toNat<=102
   ·have b:fA c=some (c.toNat-87):=by simp[fA,d,f,j]
    rw[b,hY];obtain⟨r,t⟩:=j
    clear b d f;go_enter func183,ntmps183;go_wp2_with fail
    refine(i _).mono ?_;rintro e g ⟨rfl,a⟩;rw[a];clear a g;go_wp2;go_ret;exact⟨dX (by omega),rfl⟩
   ·have b:fA c=none:=by simp[fA,d,f,j]
    rw[b,g7];clear b;have m:c.toNat<65\/(70<c.toNat/\c.toNat<97)\/102<c.toNat:=by omega
    clear d f j;rcases m with h|⟨h,p⟩|h
    all_goals
     go_enter func183,ntmps183;go_wp2_with fail
     refine(i _).mono ?_;rintro e g ⟨rfl,a⟩;rw[a];clear a g;go_wp2;all_goals go_ret
     all_goals exact⟨rfl,rfl⟩
theorem yr(s:dv)(i:Nat)(w:Wd)(C:i<=140737488355328):Calls prog 158 #[.string s,.int .i64 (i:Int)] w fun e B=>e=.returned (.tuple #[.int .i64 (optI (dt (b9 s i)).1),.int .i64 ((i+(dt (b9 s i)).2:Nat):Int)])/\B=w:=by
 go_enter func158,ntmps158;go_wp2_with fail
 go_loopw [6,7] (fun n k wr=>∃j m:Nat,j<=4/\n=.int .i64 (m:Int)/\m<16^j/\k=.int .i64 ((i+j:Nat):Int)/\dt (b9 s i)=dH (4-j) m (b9 s (i+j)) j/\wr=w) (fun _ k _=>i+4-(intOf k).toNat)
 case atStart=>exact⟨0,0,by omega,rfl,by decide,rfl,rfl,rfl⟩
 case round=>
  obtain⟨j,m,z,rfl,A,rfl,t,u⟩:=hrel;rw[u];clear u wr;have p:Hid (dt (b9 s i)=dH (4-j) m (b9 s (i+j)) j):=t;clear t;have D:m<65536:=J0 A (show 16^j<=16^4 from K7 (by omega) z);generalize f:i+j=k;have l:Hid (i+j=k):=f;by_cases F:j<4
  ·have y:(k:Int)<(i:Int)+4:=by omega
   by_cases x:k<s.size
   ·have v:(k:Int)<(s.size:Int):=by omega
    have g:=Jq s[k];have o:=cg s k x;have q:4-j=(3-j)+1:=by omega
    have b:=p.out;rw[f,o,q,dH]at b;cases a:fA s[k]with
    | none=>
      rw[a,g7]at g;rw[a]at b;have c:Hid _:=b;clear b a o f q;go_wp2_with fail
      refine(g _).mono ?_;rintro e r ⟨rfl,h⟩;rw[h];clear h r g;go_wp2;go_ret2
      exact⟨by rw[c.out,l.out];rfl,rfl⟩
    | some d=>
      rw[a,hY]at g;rw[a]at b;have E:d<16:=by
       unfold fA at a;split at a
       ·injection a with a;omega
       ·split at a
        ·injection a with a;omega
        ·split at a
         ·injection a with a;omega
         ·cases a
      have c:Hid _:=b;clear b a o f q;go_wp2_with fail
      refine(g _).mono ?_;rintro e r ⟨rfl,h⟩;rw[h];clear h r g;go_wp2;refine⟨⟨j+1,16*m+d,by omega,by go_num,?_,KV (Value.int .i64) (by have:=l.out;omega),?_,trivial⟩,by simp[intOf];omega⟩
      ·rw[LU];omega
      ·rw[c.out,<-LF,l.out,show 4-(j+1)=3-j by omega]
   ·have v:(s.size:Int)<=(k:Int):=by omega
    have b:=p.out;rw[f,cU s k (by omega),show 4-j=(3-j)+1 by omega,dH]at b;have c:Hid _:=b;clear b f;go_wp2;go_ret2
    exact⟨by rw[c.out,l.out];rfl,rfl⟩
  ·have y:(i:Int)+4<=(k:Int):=by omega
   have b:=p.out;rw[show 4-j=0 by omega,dH]at b;have c:Hid _:=b;clear b f;go_wp2;go_ret2
   refine⟨?_,rfl⟩;rw[c.out];have:i+j=i+4:=by have:=l.out;omega
   rw[this];rfl
theorem GQ(s:dv)(i:Nat)(w:Wd)(A:i<=140737488355000):Calls prog 185 #[.string s,.int .i64 (i:Int)] w fun e z=>e=.returned (.int .i64 (optI (dP (b9 s i))))/\z=w:=by
 by_cases y:i+1<s.size
 ·have x:(i:Int)+1<(s.size:Int):=by omega
  have u:i<s.size:=by omega
  have d:b9 s i=s[i]::s[i+1]::b9 s (i+2):=by rw[cg s i u,cg s (i+1) y]
  by_cases c:s[i]=92
  ·have t:((s[i].toNat:Int) != 92)=false:=by rw[c];rfl
   by_cases f:s[i+1]=117
   ·have a:dP (b9 s i)=qV (dt (b9 s (i+2))).1:=by rw[d,dP,if_pos ⟨c,f⟩];rfl
    have r:((s[i+1].toNat:Int) != 117)=false:=by rw[f];rfl
    have g:=fun w=>yr s (i+2) w (by omega)
    rw[a];generalize (dt (b9 s (i+2))).1=b at g;generalize i+2+(dt (b9 s (i+2))).2=B at g;have j:(optI b<56320/\optI (qV b)= -1)\/(57343<optI b/\optI (qV b)= -1)\/(56320<=optI b/\optI b<=57343/\optI (qV b)=optI b):=by
     match b with
     | none=>left;exact⟨by rw[g7];omega,rfl⟩
     | some n=>
       rw[hY];by_cases p:56320<=n
       ·by_cases o:n<=57343
        ·right;right;exact⟨by omega,by omega,by simp[qV,p,o,optI]⟩
        ·right;left;exact⟨by omega,by simp[qV,o,optI]⟩
       ·left;exact⟨by omega,by simp[qV,p,optI]⟩
    generalize optI b=X at j g;clear a d c f;rcases j with⟨j,l⟩|⟨j,l⟩|⟨j,D,l⟩
    all_goals
     rw[l];clear l;go_enter func185,ntmps185;go_wp2_with fail
     refine(g _).mono ?_;rintro e v ⟨rfl,m⟩;rw[m];clear m v g;go_wp2;all_goals go_ret
     all_goals exact⟨rfl,rfl⟩
   ·have a:dP (b9 s i)=none:=by rw[d,dP,if_neg (fun h=>f h.2)]
    have r:((s[i+1].toNat:Int) != 117)=true:=zv (k:=117) (by omega) f;rw[a,g7];clear a d c f;go_enter func185,ntmps185;go_wp2;go_ret;exact⟨rfl,rfl⟩
  ·have a:dP (b9 s i)=none:=by rw[d,dP,if_neg (fun h=>c h.1)]
   have t:((s[i].toNat:Int) != 92)=true:=zv (k:=92) (by omega) c;rw[a,g7];clear a d c;go_enter func185,ntmps185;go_wp2;go_ret;exact⟨rfl,rfl⟩
 ·have x:(s.size:Int)<=(i:Int)+1:=by omega
  have a:dP (b9 s i)=none:=by
   have:=cx s i;match q:b9 s i with
   | []=>rfl
   | [_]=>rfl
   | _::_::_=>rw[q]at this;simp at this;omega
  rw[a,g7];clear a;go_enter func185,ntmps185;go_wp2;go_ret;exact⟨rfl,rfl⟩
section
attribute [local go_sem] jG pj Eb De
theorem Jp(x:Int)(w:Wd)(a:UInt8)(f:0<=x)(d:x<128)(c:x=(a.toNat:Int)):Calls prog 184 #[.int .i64 x] w fun e b=>e=.returned (.string ⟨#[a]⟩)/\Below w.heap.size w b:=by
 subst c;go_enter func184,ntmps184;go_wp2;go_ret;exact⟨rfl,cK (cF _) _⟩
theorem Jj(x:Int)(w:Wd)(a c2:UInt8)(f:128<=x)(d:x<2048)(c:192+x/64=(a.toNat:Int))(g:128+x%64=(c2.toNat:Int)):Calls prog 184 #[.int .i64 x] w fun e b=>e=.returned (.string ⟨#[a,c2]⟩)/\Below w.heap.size w b:=by
 go_enter func184,ntmps184;go_wp2;go_ret;exact⟨rfl,cK (cF _) _⟩
theorem I6(x:Int)(w:Wd)(a c2 c3:UInt8)(h:2048<=x)(g:x<65536)(f:224+x/4096=(a.toNat:Int))(i:128+x/64%64=(c2.toNat:Int))(c:128+x%64=(c3.toNat:Int)):Calls prog 184 #[.int .i64 x] w fun e b=>e=.returned (.string ⟨#[a,c2,c3]⟩)/\Below w.heap.size w b:=by
 go_enter func184,ntmps184;go_wp2;go_ret;exact⟨rfl,cK (cF _) _⟩
theorem IV(x:Int)(w:Wd)(a c2 c3 c4:UInt8)(j:65536<=x)(i:x<1114112)(g:240+x/262144=(a.toNat:Int))(k:128+x/4096%64=(c2.toNat:Int))(c:128+x/64%64=(c3.toNat:Int))(h:128+x%64=(c4.toNat:Int)):Calls prog 184 #[.int .i64 x] w fun e b=>e=.returned (.string ⟨#[a,c2,c3,c4]⟩)/\Below w.heap.size w b:=by
 go_enter func184,ntmps184;go_wp2;go_ret;exact⟨rfl,cK (cF _) _⟩
theorem tO(n:Nat)(w:Wd)(f:n<1114112):Calls prog 184 #[.int .i64 (n:Int)] w fun e d=>e=.returned (.string ⟨(fJ n).toArray⟩)/\Below w.heap.size w d:=by
 by_cases a:n<128
 ·have hw:fJ n=[UInt8.ofNat n]:=by simp[fJ,a]
  rw[hw];exact Jp n w _ (by omega) (by omega) (fq _ n rfl (by omega))
 ·by_cases b:n<2048
  ·have hw:fJ n=[UInt8.ofNat (192+n/64),UInt8.ofNat (128+n%64)]:=by simp[fJ,a,b]
   rw[hw];exact Jj n w _ _ (by omega) (by omega) (fq _ (192+n/64) (by omega) (by omega)) (fq _ (128+n%64) (by omega) (by omega))
  ·by_cases c:n<65536
   ·have hw:fJ n=[UInt8.ofNat (224+n/4096),UInt8.ofNat (128+n/64%64),UInt8.ofNat (128+n%64)]:=by simp[fJ,a,b,c]
    rw[hw];exact I6 n w _ _ _ (by omega) (by omega) (fq _ (224+n/4096) (by omega) (by omega)) (fq _ (128+n/64%64) (by omega) (by omega)) (fq _ (128+n%64) (by omega) (by omega))
   ·have hw:fJ n=[UInt8.ofNat (240+n/262144),UInt8.ofNat (128+n/4096%64),UInt8.ofNat (128+n/64%64),UInt8.ofNat (128+n%64)]:=by simp[fJ,a,b,c]
    rw[hw];exact IV n w _ _ _ _ (by omega) (by omega) (fq _ (240+n/262144) (by omega) (by omega)) (fq _ (128+n/4096%64) (by omega) (by omega)) (fq _ (128+n/64%64) (by omega) (by omega)) (fq _ (128+n%64) (by omega) (by omega))
end
theorem gZ(s:dv)(i:Nat)(w:Wd)(N:i<s.size)(W:s.size<=140737488351232):Calls prog 80 #[.string s,.int .i64 (i:Int)] w fun e S=>e=.returned (.int .i64 (seqLen (b9 s i):Int))/\S=w:=by
 have L:seqLen (b9 s i)=if s[i].toNat<128 then 1 else if s[i].toNat<194\/244<s[i].toNat then 0 else if fh (b9 s i) (ee s[i].toNat) (eu s[i].toNat) (dV s[i].toNat)=true then dV s[i].toNat else 0:=by
  rw[cg s i N];rfl
 by_cases J:s[i].toNat<128
 ·rw[L,if_pos J]
  have Y:(s[i].toNat:Int)<128:=by omega
  clear L J;go_enter func80,ntmps80;go_wp2;go_ret;exact⟨rfl,rfl⟩
 ·have K:decide ((s[i].toNat:Int)<128)=false:=by simp;omega
  by_cases M:s[i].toNat<194\/244<s[i].toNat
  ·rw[L,if_neg J,if_pos M]
   clear L;by_cases P:s[i].toNat<194
   ·have Q:(s[i].toNat:Int)<194:=by omega
    clear J M P;go_enter func80,ntmps80;go_wp2;go_ret;exact⟨rfl,rfl⟩
   ·have Q:(244:Int)<(s[i].toNat:Int):=by omega
    have H:decide ((s[i].toNat:Int)<194)=false:=by simp;omega
    clear J M P;go_enter func80,ntmps80;go_wp2;go_ret;exact⟨rfl,rfl⟩
  ·rw[L,if_neg J,if_neg M]
   have H:decide ((s[i].toNat:Int)<194)=false:=by simp;omega
   have I:decide ((244:Int)<(s[i].toNat:Int))=false:=by simp;omega
   have g:=fun k V N w=>G6 s i k V N w
   have U:=xZ s[i].toNat (by omega) (by omega);clear L J M;rcases U with⟨h,n,m,v⟩|⟨h,n,m,v⟩|⟨h,n,m,v⟩|⟨h,O,T,n,m,v⟩|⟨h,n,m,v⟩|⟨h,n,m,v⟩|⟨h,O,n,m,v⟩
   ·rw[n,m,v]
    have A:decide ((224:Int)<=(s[i].toNat:Int))=false:=by simp;omega
    have D:decide ((240:Int)<=(s[i].toNat:Int))=false:=by simp;omega
    have C:((s[i].toNat:Int)==224)=false:=by simp;omega
    have B:((s[i].toNat:Int)==237)=false:=by simp;omega
    have F:((s[i].toNat:Int)==240)=false:=by simp;omega
    have y:((s[i].toNat:Int)==244)=false:=by simp;omega
    clear h;clear n m v;generalize p:(if fh (b9 s i) 128 191 2=true then 2 else 0)=R;have r:Hid _:=p;clear p;go_enter func80,ntmps80;go_wp2_with fail
    refine(g 1 128 191 _).mono ?_;rintro e f ⟨rfl,a⟩;rw[a];clear a f;rw[<-sn];go_wp2_with fail
    go_loopw [9,10] (fun ok k wr=>∃j:Nat,2<=j/\j<=2/\k=.int .i64 (j:Int)/\ok=.bool (fh (b9 s i) 128 191 j)/\wr=w) (fun _ k _=>4-(intOf k).toNat)
    case atStart=>exact⟨2,by omega,by omega,rfl,rfl,rfl⟩
    case round=>
     obtain⟨j,t,x,rfl,rfl,l⟩:=hrel;rw[l];clear l wr;by_cases G:j<2
     ·have E:(j:Int)<2:=by omega
      have d:=iM (b9 s i) 128 191 j t (by omega);generalize c:fh (b9 s i) 128 191 j=b at d;have z:Hid _:=d;clear d c;cases b
      all_goals
       go_wp2_with fail
       refine(g j 128 191 _).mono ?_;rintro e f ⟨rfl,a⟩;rw[a];clear a f;go_wp2;exact⟨⟨j+1,by omega,by omega,by go_num,by rw[z.out];simp,trivial⟩,by simp[intOf];omega⟩
     ·have E:(2:Int)<=(j:Int):=by omega
      have q:j=2:=by omega
      have o:Hid (j=2):=q;clear q;generalize c:fh (b9 s i) 128 191 j=b;have u:Hid (fh (b9 s i) 128 191 j=b):=c;clear c;clear t x G g K H I A D C B F y;cases b
      ·go_wp2
       go_ret;refine⟨dX ?_,rfl⟩;have e:=u.out;rw[o.out]at e;rw[<-r.out,e];rfl
      ·go_wp2
       go_ret;refine⟨dX ?_,rfl⟩;have e:=u.out;rw[o.out]at e;rw[<-r.out,e];rfl
   ·rw[n,m,v]
    have A:decide ((224:Int)<=(s[i].toNat:Int))=true:=by simp;omega
    have D:decide ((240:Int)<=(s[i].toNat:Int))=false:=by simp;omega
    have C:((s[i].toNat:Int)==224)=true:=by simp;omega
    have B:((s[i].toNat:Int)==237)=false:=by simp;omega
    have F:((s[i].toNat:Int)==240)=false:=by simp;omega
    have y:((s[i].toNat:Int)==244)=false:=by simp;omega
    clear h;clear n m v;generalize p:(if fh (b9 s i) 160 191 3=true then 3 else 0)=R;have r:Hid _:=p;clear p;go_enter func80,ntmps80;go_wp2_with fail
    refine(g 1 160 191 _).mono ?_;rintro e f ⟨rfl,a⟩;rw[a];clear a f;rw[<-sn];go_wp2_with fail
    go_loopw [9,10] (fun ok k wr=>∃j:Nat,2<=j/\j<=3/\k=.int .i64 (j:Int)/\ok=.bool (fh (b9 s i) 160 191 j)/\wr=w) (fun _ k _=>4-(intOf k).toNat)
    case atStart=>exact⟨2,by omega,by omega,rfl,rfl,rfl⟩
    case round=>
     obtain⟨j,t,x,rfl,rfl,l⟩:=hrel;rw[l];clear l wr;by_cases G:j<3
     ·have E:(j:Int)<3:=by omega
      have d:=iM (b9 s i) 160 191 j t (by omega);generalize c:fh (b9 s i) 160 191 j=b at d;have z:Hid _:=d;clear d c;cases b
      all_goals
       go_wp2_with fail
       refine(g j 128 191 _).mono ?_;rintro e f ⟨rfl,a⟩;rw[a];clear a f;go_wp2;exact⟨⟨j+1,by omega,by omega,by go_num,by rw[z.out];simp,trivial⟩,by simp[intOf];omega⟩
     ·have E:(3:Int)<=(j:Int):=by omega
      have q:j=3:=by omega
      have o:Hid (j=3):=q;clear q;generalize c:fh (b9 s i) 160 191 j=b;have u:Hid (fh (b9 s i) 160 191 j=b):=c;clear c;clear t x G g K H I A D C B F y;cases b
      ·go_wp2
       go_ret;refine⟨dX ?_,rfl⟩;have e:=u.out;rw[o.out]at e;rw[<-r.out,e];rfl
      ·go_wp2
       go_ret;refine⟨dX ?_,rfl⟩;have e:=u.out;rw[o.out]at e;rw[<-r.out,e];rfl
   ·rw[n,m,v]
    have A:decide ((224:Int)<=(s[i].toNat:Int))=true:=by simp;omega
    have D:decide ((240:Int)<=(s[i].toNat:Int))=false:=by simp;omega
    have C:((s[i].toNat:Int)==224)=false:=by simp;omega
    have B:((s[i].toNat:Int)==237)=true:=by simp;omega
    have F:((s[i].toNat:Int)==240)=false:=by simp;omega
    have y:((s[i].toNat:Int)==244)=false:=by simp;omega
    clear h;clear n m v;generalize p:(if fh (b9 s i) 128 159 3=true then 3 else 0)=R;have r:Hid _:=p;clear p;go_enter func80,ntmps80;go_wp2_with fail
    refine(g 1 128 159 _).mono ?_;rintro e f ⟨rfl,a⟩;rw[a];clear a f;rw[<-sn];go_wp2_with fail
    go_loopw [9,10] (fun ok k wr=>∃j:Nat,2<=j/\j<=3/\k=.int .i64 (j:Int)/\ok=.bool (fh (b9 s i) 128 159 j)/\wr=w) (fun _ k _=>4-(intOf k).toNat)
    case atStart=>exact⟨2,by omega,by omega,rfl,rfl,rfl⟩
    case round=>
     obtain⟨j,t,x,rfl,rfl,l⟩:=hrel;rw[l];clear l wr;by_cases G:j<3
     ·have E:(j:Int)<3:=by omega
      have d:=iM (b9 s i) 128 159 j t (by omega);generalize c:fh (b9 s i) 128 159 j=b at d;have z:Hid _:=d;clear d c;cases b
      all_goals
       go_wp2_with fail
       refine(g j 128 191 _).mono ?_;rintro e f ⟨rfl,a⟩;rw[a];clear a f;go_wp2;exact⟨⟨j+1,by omega,by omega,by go_num,by rw[z.out];simp,trivial⟩,by simp[intOf];omega⟩
     ·have E:(3:Int)<=(j:Int):=by omega
      have q:j=3:=by omega
      have o:Hid (j=3):=q;clear q;generalize c:fh (b9 s i) 128 159 j=b;have u:Hid (fh (b9 s i) 128 159 j=b):=c;clear c;clear t x G g K H I A D C B F y;cases b
      ·go_wp2
       go_ret;refine⟨dX ?_,rfl⟩;have e:=u.out;rw[o.out]at e;rw[<-r.out,e];rfl
      ·go_wp2
       go_ret;refine⟨dX ?_,rfl⟩;have e:=u.out;rw[o.out]at e;rw[<-r.out,e];rfl
   ·rw[n,m,v]
    have A:decide ((224:Int)<=(s[i].toNat:Int))=true:=by simp;omega
    have D:decide ((240:Int)<=(s[i].toNat:Int))=false:=by simp;omega
    have C:((s[i].toNat:Int)==224)=false:=by simp;omega
    have B:((s[i].toNat:Int)==237)=false:=by simp;omega
    have F:((s[i].toNat:Int)==240)=false:=by simp;omega
    have y:((s[i].toNat:Int)==244)=false:=by simp;omega
    clear h O T;clear n m v;generalize p:(if fh (b9 s i) 128 191 3=true then 3 else 0)=R;have r:Hid _:=p;clear p;go_enter func80,ntmps80;go_wp2_with fail
    refine(g 1 128 191 _).mono ?_;rintro e f ⟨rfl,a⟩;rw[a];clear a f;rw[<-sn];go_wp2_with fail
    go_loopw [9,10] (fun ok k wr=>∃j:Nat,2<=j/\j<=3/\k=.int .i64 (j:Int)/\ok=.bool (fh (b9 s i) 128 191 j)/\wr=w) (fun _ k _=>4-(intOf k).toNat)
    case atStart=>exact⟨2,by omega,by omega,rfl,rfl,rfl⟩
    case round=>
     obtain⟨j,t,x,rfl,rfl,l⟩:=hrel;rw[l];clear l wr;by_cases G:j<3
     ·have E:(j:Int)<3:=by omega
      have d:=iM (b9 s i) 128 191 j t (by omega);generalize c:fh (b9 s i) 128 191 j=b at d;have z:Hid _:=d;clear d c;cases b
      all_goals
       go_wp2_with fail
       refine(g j 128 191 _).mono ?_;rintro e f ⟨rfl,a⟩;rw[a];clear a f;go_wp2;exact⟨⟨j+1,by omega,by omega,by go_num,by rw[z.out];simp,trivial⟩,by simp[intOf];omega⟩
     ·have E:(3:Int)<=(j:Int):=by omega
      have q:j=3:=by omega
      have o:Hid (j=3):=q;clear q;generalize c:fh (b9 s i) 128 191 j=b;have u:Hid (fh (b9 s i) 128 191 j=b):=c;clear c;clear t x G g K H I A D C B F y;cases b
      ·go_wp2
       go_ret;refine⟨dX ?_,rfl⟩;have e:=u.out;rw[o.out]at e;rw[<-r.out,e];rfl
      ·go_wp2
       go_ret;refine⟨dX ?_,rfl⟩;have e:=u.out;rw[o.out]at e;rw[<-r.out,e];rfl
   ·rw[n,m,v]
    have A:decide ((224:Int)<=(s[i].toNat:Int))=true:=by simp;omega
    have D:decide ((240:Int)<=(s[i].toNat:Int))=true:=by simp;omega
    have C:((s[i].toNat:Int)==224)=false:=by simp;omega
    have B:((s[i].toNat:Int)==237)=false:=by simp;omega
    have F:((s[i].toNat:Int)==240)=true:=by simp;omega
    have y:((s[i].toNat:Int)==244)=false:=by simp;omega
    clear h;clear n m v;generalize p:(if fh (b9 s i) 144 191 4=true then 4 else 0)=R;have r:Hid _:=p;clear p;go_enter func80,ntmps80;go_wp2_with fail
    refine(g 1 144 191 _).mono ?_;rintro e f ⟨rfl,a⟩;rw[a];clear a f;rw[<-sn];go_wp2_with fail
    go_loopw [9,10] (fun ok k wr=>∃j:Nat,2<=j/\j<=4/\k=.int .i64 (j:Int)/\ok=.bool (fh (b9 s i) 144 191 j)/\wr=w) (fun _ k _=>4-(intOf k).toNat)
    case atStart=>exact⟨2,by omega,by omega,rfl,rfl,rfl⟩
    case round=>
     obtain⟨j,t,x,rfl,rfl,l⟩:=hrel;rw[l];clear l wr;by_cases G:j<4
     ·have E:(j:Int)<4:=by omega
      have d:=iM (b9 s i) 144 191 j t (by omega);generalize c:fh (b9 s i) 144 191 j=b at d;have z:Hid _:=d;clear d c;cases b
      all_goals
       go_wp2_with fail
       refine(g j 128 191 _).mono ?_;rintro e f ⟨rfl,a⟩;rw[a];clear a f;go_wp2;exact⟨⟨j+1,by omega,by omega,by go_num,by rw[z.out];simp,trivial⟩,by simp[intOf];omega⟩
     ·have E:(4:Int)<=(j:Int):=by omega
      have q:j=4:=by omega
      have o:Hid (j=4):=q;clear q;generalize c:fh (b9 s i) 144 191 j=b;have u:Hid (fh (b9 s i) 144 191 j=b):=c;clear c;clear t x G g K H I A D C B F y;cases b
      ·go_wp2
       go_ret;refine⟨dX ?_,rfl⟩;have e:=u.out;rw[o.out]at e;rw[<-r.out,e];rfl
      ·go_wp2
       go_ret;refine⟨dX ?_,rfl⟩;have e:=u.out;rw[o.out]at e;rw[<-r.out,e];rfl
   ·rw[n,m,v]
    have A:decide ((224:Int)<=(s[i].toNat:Int))=true:=by simp;omega
    have D:decide ((240:Int)<=(s[i].toNat:Int))=true:=by simp;omega
    have C:((s[i].toNat:Int)==224)=false:=by simp;omega
    have B:((s[i].toNat:Int)==237)=false:=by simp;omega
    have F:((s[i].toNat:Int)==240)=false:=by simp;omega
    have y:((s[i].toNat:Int)==244)=true:=by simp;omega
    clear h;clear n m v;generalize p:(if fh (b9 s i) 128 143 4=true then 4 else 0)=R;have r:Hid _:=p;clear p;go_enter func80,ntmps80;go_wp2_with fail
    refine(g 1 128 143 _).mono ?_;rintro e f ⟨rfl,a⟩;rw[a];clear a f;rw[<-sn];go_wp2_with fail
    go_loopw [9,10] (fun ok k wr=>∃j:Nat,2<=j/\j<=4/\k=.int .i64 (j:Int)/\ok=.bool (fh (b9 s i) 128 143 j)/\wr=w) (fun _ k _=>4-(intOf k).toNat)
    case atStart=>exact⟨2,by omega,by omega,rfl,rfl,rfl⟩
    case round=>
     obtain⟨j,t,x,rfl,rfl,l⟩:=hrel;rw[l];clear l wr;by_cases G:j<4
     ·have E:(j:Int)<4:=by omega
      have d:=iM (b9 s i) 128 143 j t (by omega);generalize c:fh (b9 s i) 128 143 j=b at d;have z:Hid _:=d;clear d c;cases b
      all_goals
       go_wp2_with fail
       refine(g j 128 191 _).mono ?_;rintro e f ⟨rfl,a⟩;rw[a];clear a f;go_wp2;exact⟨⟨j+1,by omega,by omega,by go_num,by rw[z.out];simp,trivial⟩,by simp[intOf];omega⟩
     ·have E:(4:Int)<=(j:Int):=by omega
      have q:j=4:=by omega
      have o:Hid (j=4):=q;clear q;generalize c:fh (b9 s i) 128 143 j=b;have u:Hid (fh (b9 s i) 128 143 j=b):=c;clear c;clear t x G g K H I A D C B F y;cases b
      ·go_wp2
       go_ret;refine⟨dX ?_,rfl⟩;have e:=u.out;rw[o.out]at e;rw[<-r.out,e];rfl
      ·go_wp2
       go_ret;refine⟨dX ?_,rfl⟩;have e:=u.out;rw[o.out]at e;rw[<-r.out,e];rfl
   ·rw[n,m,v]
    have A:decide ((224:Int)<=(s[i].toNat:Int))=true:=by simp;omega
    have D:decide ((240:Int)<=(s[i].toNat:Int))=true:=by simp;omega
    have C:((s[i].toNat:Int)==224)=false:=by simp;omega
    have B:((s[i].toNat:Int)==237)=false:=by simp;omega
    have F:((s[i].toNat:Int)==240)=false:=by simp;omega
    have y:((s[i].toNat:Int)==244)=false:=by simp;omega
    clear h O;clear n m v;generalize p:(if fh (b9 s i) 128 191 4=true then 4 else 0)=R;have r:Hid _:=p;clear p;go_enter func80,ntmps80;go_wp2_with fail
    refine(g 1 128 191 _).mono ?_;rintro e f ⟨rfl,a⟩;rw[a];clear a f;rw[<-sn];go_wp2_with fail
    go_loopw [9,10] (fun ok k wr=>∃j:Nat,2<=j/\j<=4/\k=.int .i64 (j:Int)/\ok=.bool (fh (b9 s i) 128 191 j)/\wr=w) (fun _ k _=>4-(intOf k).toNat)
    case atStart=>exact⟨2,by omega,by omega,rfl,rfl,rfl⟩
    case round=>
     obtain⟨j,t,x,rfl,rfl,l⟩:=hrel;rw[l];clear l wr;by_cases G:j<4
     ·have E:(j:Int)<4:=by omega
      have d:=iM (b9 s i) 128 191 j t (by omega);generalize c:fh (b9 s i) 128 191 j=b at d;have z:Hid _:=d;clear d c;cases b
      all_goals
       go_wp2_with fail
       refine(g j 128 191 _).mono ?_;rintro e f ⟨rfl,a⟩;rw[a];clear a f;go_wp2;exact⟨⟨j+1,by omega,by omega,by go_num,by rw[z.out];simp,trivial⟩,by simp[intOf];omega⟩
     ·have E:(4:Int)<=(j:Int):=by omega
      have q:j=4:=by omega
      have o:Hid (j=4):=q;clear q;generalize c:fh (b9 s i) 128 191 j=b;have u:Hid (fh (b9 s i) 128 191 j=b):=c;clear c;clear t x G g K H I A D C B F y;cases b
      ·go_wp2
       go_ret;refine⟨dX ?_,rfl⟩;have e:=u.out;rw[o.out]at e;rw[<-r.out,e];rfl
      ·go_wp2
       go_ret;refine⟨dX ?_,rfl⟩;have e:=u.out;rw[o.out]at e;rw[<-r.out,e];rfl
end Go.Proofs.YtihboehpeehlmaaGreatDoor
