import Derived.Test.YtihboehpeehlmaaGreatDoorK1
import Derived.Test.YtihboehpeehlmaaGreatDoorNSeq
import Derived.Lib.ValidU
set_option maxHeartbeats 4000000
set_option maxRecDepth 100000
set_option linter.unusedVariables false
namespace Go.Proofs.YtihboehpeehlmaaGreatDoor
open Tryz Go.RowKit
def fk(n:Nat)(r:dj):Option (Nat×Nat):=
 if n<55296\/57343<n then some (n,6)
 else match dP r with
  | none=>none
  | some m=>if 56320<=n then none else some (65536+1024*(n-55296)+(m-56320),12)
def UP(bp:Nat)(s:dv)(i:Nat)(vL:Va)(dp:Nat)(r:Ending)(w':Wd):Option Nat×Nat->Prop
 | (none,o)=>r=.panicked (gI 2 (i+o))/\∃j,CD bp s j vL dp w'
 | (some n,_)=>match fk n (b9 s (i+4))with
   | none=>r=.panicked (gI 2 (i-2))/\∃j,CD bp s j vL dp w'
   | some (q,k)=>r=.returned (.int .i32 (q:Int))/\CD bp s (i+k-2) vL dp w'
theorem zI{a:Nat}{s:dv}{i:Nat}{c:Va}{b:Nat}{r:Ending}{w':Wd}{n o q k:Nat}(h:fk n (b9 s (i+4))=some (q,k))(d:r=.returned (.int .i32 (q:Int)))(g:CD a s (i+k-2) c b w'):UP a s i c b r w' (some n,o):=by
 simp only[UP];rw[h];exact⟨d,g⟩
theorem EB{a:Nat}{s:dv}{i:Nat}{c:Va}{b:Nat}{r:Ending}{w':Wd}{n o j:Nat}(h:fk n (b9 s (i+4))=none)(d:r=.panicked (gI 2 (i-2)))(g:CD a s j c b w'):UP a s i c b r w' (some n,o):=by
 simp only[UP];rw[h];exact⟨d,j,g⟩
theorem zB{l:dj}{m:Nat}(h:dP l=some m):56320<=m/\m<=57343:=by
 unfold dP at h;split at h
 ·split at h
  ·split at h
   ·split at h
    ·next hh=>injection h with h;subst h;exact hh
    ·cases h
   ·cases h
  ·cases h
 ·cases h
theorem pd{s:dv}{i n o:Nat}(h:dt (b9 s i)=(some n,o)):i+4<=s.size:=by
 have f:∀(k N i o n a:Nat),dH k N (b9 s i) o=(some n,a)->i<=s.size->i+k<=s.size:=by
  intro k;induction k with
  | zero=>intro N i o n a _ b;omega
  | succ k ih=>
    intro N i o n a h b;cases e:fA (pk (b9 s i))with
    | none=>rw[og e]at h;injection h with c _;cases c
    | some d=>
      obtain⟨c,g⟩:=nN (k:=k) (n:=N) (o:=o) e;rw[g]at h;have:=ih _ _ _ _ _ h (by omega);omega
 by_cases b:i<=s.size
 ·exact f 4 0 i 0 n o h b
 ·rw[cU s i (by omega)]at h;cases h
section
variable (Z:Nat) (s:dv) (i:Nat) (Y:Va) (X:Nat) (w:Wd)
theorem IE(I:s.size<=140737488355328)(h:CD Z s i Y X w)(L:i<=s.size)(W:2<=i):Calls prog 246 #[.pointer (some ⟨Z,0,none⟩)] w fun r a=>UP Z s i Y X r a (dt (b9 s i))/\ca Z w a:=by
 have f:=EK Z s i Y X w I h L;cases y:dt (b9 s i)with
 | mk q o=>
   rw[y]at f;cases q with
   | none=>
     clear y;go_enter func246,ntmps246;go_wp2_with fail
     refine f.mono ?_;rintro e v ⟨⟨rfl,g⟩,b⟩;have d:Hid _:=b;clear b f;go_wp2;exact⟨rfl,⟨rfl,_,g⟩,d.out⟩
   | some n=>
     have hl:=pd y;have c:=fun a=>Jz n a
     have k:=fun a=>Jf n a
     clear y;cases j:sj n with
     | true=>
       rw[j]at c;have l:55296<=n/\n<56320:=by simpa [sj]using j
       have t:=fun a R=>Jb Z s (i+4) Y X a I R (by omega)
       unfold i8 at t;cases u:dP (b9 s (i+4))with
       | some m=>
         rw[u]at t;have hm:=zB u;have p:Hid (fk n (b9 s (i+4))=some (65536+1024*(n-55296)+(m-56320),12)):=by
          show fk n (b9 s (i+4))=_
          rw[fk,if_neg (by omega),u];simp only;rw[if_neg (by omega)]
         clear u k j
         go_enter func246,ntmps246;go_wp2_with fail
         refine f.mono ?_;rintro e v ⟨⟨rfl,g⟩,b⟩;have d:Hid _:=b;clear b f;go_wp2_with fail
         refine(c _).mono ?_;rintro e E ⟨rfl,rfl⟩;go_wp2_with fail
         refine(t _ g).mono ?_;rintro e H ⟨⟨rfl,B⟩,z⟩;have C:Hid _:=d.out.trans z;clear z d t c;go_wp2;go_ret;refine⟨zI p.out ?_ B,C.out⟩;rw[show((65536+1024*(n-55296)+(m-56320):Nat):Int)=65536+((n:Int)-55296)*1024+(m:Int)-56320 by omega];rfl
       | none=>
         rw[u]at t;have p:Hid (fk n (b9 s (i+4))=none):=by
          show fk n (b9 s (i+4))=_
          rw[fk,if_neg (by omega),u]
         have x:∀a,Calls prog 192 #[.int .i64 2,.int .i64 ((i:Int)+4-6)] a fun r D=>r=.panicked (gI 2 (i-2))/\D=a:=fun a=>by
          rw[show((i:Int)+4-6)=((i-2:Nat):Int)by omega];exact jn 2 (i-2) a
         have N:(i:Int)<=140737488355328:=by omega
         have Q:(2:Int)<=(i:Int):=by omega
         clear u k j;go_enter func246,ntmps246;go_wp2_with fail
         refine f.mono ?_;rintro e v ⟨⟨rfl,g⟩,b⟩;have d:Hid (ca Z w v):=b;clear b f;go_wp2_with fail
         refine(c _).mono ?_;rintro e E ⟨rfl,rfl⟩;go_wp2_with fail
         refine(t _ g).mono ?_;rintro e H ⟨⟨rfl,B⟩,z⟩;have C:Hid (ca Z w H):=d.out.trans z;clear z d t;go_wp2_with fail
         refine(c _).mono ?_;rintro e A ⟨rfl,rfl⟩;clear c;obtain⟨U,O,P,S,M⟩:=B.cell;go_wp2_with fail
         refine(x _).mono ?_;rintro e T ⟨rfl,rfl⟩;clear x;go_wp2;exact⟨rfl,EB p.out rfl B,C.out⟩
     | false=>
       rw[j]at c;cases l:mQ n with
       | true=>
         rw[l]at k;have F:56320<=n/\n<57344:=by simpa [mQ]using l
         have p:Hid (fk n (b9 s (i+4))=none):=by
          show fk n (b9 s (i+4))=_
          rw[fk,if_neg (by omega)];split
          ·rfl
          ·rw[if_pos F.1]
         have x:∀a,Calls prog 192 #[.int .i64 2,.int .i64 ((i:Int)+4-6)] a fun r D=>r=.panicked (gI 2 (i-2))/\D=a:=fun a=>by
          rw[show((i:Int)+4-6)=((i-2:Nat):Int)by omega];exact jn 2 (i-2) a
         clear j l F;go_enter func246,ntmps246;go_wp2_with fail
         refine f.mono ?_;rintro e v ⟨⟨rfl,g⟩,b⟩;have d:Hid (ca Z w v):=b;clear b f;go_wp2_with fail
         refine(c _).mono ?_;rintro e E ⟨rfl,rfl⟩;go_wp2_with fail
         refine(c _).mono ?_;rintro e A ⟨rfl,rfl⟩;clear c;go_wp2_with fail
         refine(k _).mono ?_;rintro e A ⟨rfl,rfl⟩;clear k;obtain⟨U,O,P,S,M⟩:=g.cell;go_wp2_with fail
         refine(x _).mono ?_;rintro e T ⟨rfl,rfl⟩;clear x;go_wp2;exact⟨rfl,EB p.out rfl g,d.out⟩
       | false=>
         rw[l]at k;have p:Hid (fk n (b9 s (i+4))=some (n,6)):=by
          show fk n (b9 s (i+4))=_
          rw[fk,if_pos];simp[sj]at j;simp[mQ]at l;omega
         clear j l;go_enter func246,ntmps246;go_wp2_with fail
         refine f.mono ?_;rintro e v ⟨⟨rfl,g⟩,b⟩;have d:Hid (ca Z w v):=b;clear b f;go_wp2_with fail
         refine(c _).mono ?_;rintro e E ⟨rfl,rfl⟩;go_wp2_with fail
         refine(c _).mono ?_;rintro e A ⟨rfl,rfl⟩;clear c;go_wp2_with fail
         refine(k _).mono ?_;rintro e A ⟨rfl,rfl⟩;clear k;go_wp2;go_ret;exact⟨zI p.out rfl g,d.out⟩
end
def gW(l:dj):Except Nat (Nat×Nat):=
 match l with
 | _::c::r=>
   if c=117 then(match dt r with
    | (none,o)=>.error (2+o)
    | (some n,_)=>match fk n (r.drop 4)with|none=>.error 0|some (q,k)=>.ok (q,k))
   else match fo c with
    | some b=>.ok (b.toNat,2)
    | none=>.error 1
 | _=>.error 1
def GK:Except Nat (Nat×Nat)->Except Nat (dj×Nat)
 | .ok (q,k)=>.ok (fJ q,k)
 | .error o=>.error o
theorem AW:fo 117=none:=by decide
theorem wP{c b:UInt8}(h:fo c=some b):b.toNat<128:=by
 unfold fo at h;repeat' split at h
 all_goals first|(injection h with h;subst h)|cases h
 ·next hc=>rcases hc with rfl|rfl|rfl<;>decide
 all_goals decide
theorem wD(a c:UInt8)(r:dj):eQ (a::c::r)=match fo c with
 | some b=>.ok ([b],2)
 | none=>if c=117 then(match dt r with|(none,o)=>.error (2+o)|(some n,_)=>fZ n (r.drop 4))else .error 1:=rfl
theorem qQ(a c:UInt8)(r:dj):gW (a::c::r)=if c=117 then(match dt r with
 | (none,o)=>.error (2+o)
 | (some n,_)=>match fk n (r.drop 4)with|none=>.error 0|some (q,k)=>.ok (q,k))
 else match fo c with
  | some b=>.ok (b.toNat,2)
  | none=>.error 1:=rfl
theorem uk(l:dj):eQ l=GK (gW l):=by
 match l with
 | []=>rfl
 | [_]=>rfl
 | a::c::r=>
   rw[wD,qQ];by_cases f:c=117
   ·subst f
    rw[AW,if_pos rfl];simp only[if_true];cases i:dt r with
    | mk q o=>
      cases q with
      | none=>rfl
      | some n=>
        simp only;unfold fZ fk;by_cases e:n<55296\/57343<n
        ·rw[if_pos e,if_pos e];rfl
        ·rw[if_neg e,if_neg e]
         cases j:dP (List.drop 4 r)with
         | none=>rfl
         | some m=>
           simp only;by_cases d:56320<=n
           ·rw[if_pos d,if_pos d];rfl
           ·rw[if_neg d,if_neg d];rfl
   ·rw[if_neg f,if_neg f]
    cases h:fo c with
    | none=>rfl
    | some b=>
      have g:=wP h;simp only[GK];rw[fJ,if_pos g];simp
def Jc:dv:=⟨#[34,92,98,102,110,114,116]⟩
def wM(c:UInt8):Int:=Lib.indexByte Jc.data.toList c
def zM(c:UInt8):Bool:=decide (c=47)||match fo c with
 | none=>decide (wM c= -1)
 | some b=>decide (0<=wM c)&&decide (wM c<7)&&decide ((#[34,92,8,12,10,13,9]:Array UInt8)[(wM c).toNat]?=some b)
theorem Bt:∀n,n<256->zM (UInt8.ofNat n)=true:=by decide +kernel
theorem zR(c:UInt8):zM c=true:=by have:=Bt c.toNat c.toNat_lt;rwa [MJ]at this
theorem Ar{c:UInt8}(a:c≠47)(h:fo c=none):wM c= -1:=by have:=zR c;rw[zM,h]at this;simpa [a]using this
theorem AN{c b:UInt8}(a:c≠47)(h:fo c=some b):∃k:Nat,wM c=(k:Int)/\k<7/\(#[34,92,8,12,10,13,9]:Array UInt8)[k]?=some b:=by
 have:=zR c;rw[zM,h]at this;simp only[a,decide_false,Nt,Kz,Kx]at this;exact⟨(wM c).toNat,by omega,by omega,this.2⟩
theorem G5(c:UInt8)(w:Wd):Calls prog 193 #[.string ⟨#[34,92,98,102,110,114,116]⟩,.int .u8 (c.toNat:Int)] w fun e a=>e=.returned (.int .i64 (wM c))/\a=w:=by
 have h:=strings_IndexByte Jc (c.toNat:Int) w;rw[show((c.toNat:Int).toNat.toUInt8)=c by simp]at h;exact h
def EP(bp:Nat)(s:dv)(i:Nat)(vL:Va)(dp:Nat)(r:Ending)(w':Wd):Except Nat (Nat×Nat)->Prop
 | .ok (q,k)=>r=.returned (.int .i32 (q:Int))/\CD bp s (i+k) vL dp w'
 | .error o=>r=.panicked (gI 2 (i+o))/\∃j,CD bp s j vL dp w'
theorem lA{s:dv}{i:Nat}(h:i+1<s.size):b9 s i=s[i]::s[i+1]::b9 s (i+2):=by rw[cg s i (by omega),cg s (i+1) h]
section
variable (Z:Nat) (s:dv) (i:Nat) (Y:Va) (X:Nat) (w:Wd)
theorem Jn(hs:s.size<=140737488355328)(h:CD Z s i Y X w)(h1:(b9 s i).head?=some 92):Calls prog 224 #[.pointer (some ⟨Z,0,none⟩)] w fun r a=>EP Z s i Y X r a (gW (b9 s i))/\ca Z w a:=by
 have hi:=dr h1;have I:=hJ Z s i Y X 92 w hs h h1;rw[show((92:UInt8).toNat:Int)=92 from rfl]at I;clear h1;by_cases E:(b9 s (i+1)).head?=some 117
 ·have g:=dr E
  have U:s[i+1]=117:=by rw[cg s (i+1) g]at E;simpa using E
  have A:=fun a f=>fQ Z s (i+1) Y X 117 a hs f E
  rw[show((117:UInt8).toNat:Int)=117 from rfl]at A;have M:=fun a f=>IE Z s (i+2) Y X a hs f (by omega) (by omega)
  have t:Hid (gW (b9 s i)=(match dt (b9 s (i+2))with
   | (none,o)=>.error (2+o)
   | (some n,_)=>match fk n (b9 s (i+2+4))with|none=>.error 0|some (q,k)=>.ok (q,k))):=by
   show gW (b9 s i)=_
   rw[lA g,gW,if_pos U,cw]
  clear E U;go_enter func224,ntmps224;go_wp2_with fail
  refine I.mono ?_;rintro e D ⟨rfl,L,v⟩;have y:Hid (ca Z w D):=v;clear v I;go_wp2_with fail
  refine(A D L).mono ?_;rintro e p ⟨rfl,H,C⟩;have d:Hid (ca Z w p):=y.out.trans C;clear C y A;cases N:dt (b9 s (i+2))with
  | mk q o=>
    rw[N]at M;cases q with
    | none=>
      have V:Hid (gW (b9 s i)=.error (2+o)):=by have:=t.out;rw[N]at this;exact this
      clear N t;go_wp2_with fail
      refine(M p H).mono ?_;rintro e m ⟨⟨rfl,j,B⟩,c⟩;have l:Hid (ca Z w m):=d.out.trans c;clear c d M;go_wp2;refine⟨rfl,?_,l.out⟩;rw[V.out];exact⟨by rw[LF],j,B⟩
    | some n=>
      cases Q:fk n (b9 s (i+2+4))with
      | none=>
        have V:Hid (gW (b9 s i)=.error 0):=by have:=t.out;rw[N]at this;simp only[Q]at this;exact this
        have T:=fun a f=>(M a f).mono (R':=fun r K=>r=.panicked (gI 2 i)/\(∃j,CD Z s j Y X K)/\ca Z a K) (by
         rintro r K ⟨J,o⟩;simp only[UP,Q]at J;exact⟨J.1,J.2,o⟩)
        clear N t Q M;go_wp2_with fail
        refine(T p H).mono ?_;rintro e m ⟨rfl,⟨j,B⟩,c⟩;have l:Hid (ca Z w m):=d.out.trans c;clear c d T;go_wp2;refine⟨rfl,?_,l.out⟩;rw[V.out];exact⟨rfl,j,B⟩
      | some x=>
        obtain⟨q,k⟩:=x;have V:Hid (gW (b9 s i)=.ok (q,k)):=by have:=t.out;rw[N]at this;simp only[Q]at this;exact this
        have T:=fun a f=>(M a f).mono (R':=fun r K=>r=.returned (.int .i32 (q:Int))/\CD Z s (i+k) Y X K/\ca Z a K) (by
         rintro r K ⟨J,o⟩;simp only[UP,Q]at J;rw[show i+2+k-2=i+k by omega]at J;exact⟨J.1,J.2,o⟩)
        clear N t Q M;go_wp2_with fail
        refine(T p H).mono ?_;rintro e m ⟨rfl,B,c⟩;have l:Hid (ca Z w m):=d.out.trans c;clear c d T;go_wp2;go_ret;refine⟨?_,l.out⟩;rw[V.out];exact⟨rfl,B⟩
 ·have A:=fun a f=>gt Z s (i+1) Y X 117 a f (by omega) (by decide) E
  rw[show((117:UInt8).toNat:Int)=117 from rfl]at A;by_cases G:(b9 s (i+1)).head?=some 47
  ·have g:=dr G
   have U:s[i+1]=47:=by rw[cg s (i+1) g]at G;simpa using G
   have F:=fun a f=>fQ Z s (i+1) Y X 47 a hs f G
   rw[show((47:UInt8).toNat:Int)=47 from rfl]at F;have t:Hid (gW (b9 s i)=.ok (47,2)):=by
    show gW (b9 s i)=_
    rw[lA g,gW,U,if_neg (by decide)];rfl
   clear E G U;go_enter func224,ntmps224;go_wp2_with fail
   refine I.mono ?_;rintro e D ⟨rfl,L,v⟩;have y:Hid (ca Z w D):=v;clear v I;go_wp2_with fail
   refine(A D L).mono ?_;rintro e p ⟨rfl,H,C⟩;have d:Hid (ca Z w p):=y.out.trans C;clear C y A;go_wp2_with fail
   refine(F p H).mono ?_;rintro e m ⟨rfl,B,c⟩;have l:Hid (ca Z w m):=d.out.trans c;clear c d F;go_wp2;go_ret;refine⟨?_,l.out⟩;rw[t.out];exact⟨rfl,B⟩
  ·have F:=fun a f=>gt Z s (i+1) Y X 47 a f (by omega) (by decide) G
   rw[show((47:UInt8).toNat:Int)=47 from rfl]at F;have hp:=fun a f=>ji Z s (i+1) Y X a f (by omega)
   have P:=fun a=>G5 (pk (b9 s (i+1))) a
   have aa:pk (b9 s (i+1))≠47:=kV (by decide) G;have R:pk (b9 s (i+1))≠117:=kV (by decide) E;cases u:fo (pk (b9 s (i+1)))with
   | none=>
     rw[Ar aa u]at P;have t:Hid (gW (b9 s i)=.error 1):=by
      show gW (b9 s i)=_
      by_cases g:i+1<s.size
      ·rw[cg s (i+1) g]at u R
       rw[lA g,gW,if_neg (by exact R)];rw[show pk (s[i+1]::b9 s (i+1+1))=s[i+1]from rfl]at u;rw[u]
      ·rw[cg s i hi,cU s (i+1) (by omega)];rfl
     clear u aa R E G;go_enter func224,ntmps224;go_wp2_with fail
     refine I.mono ?_;rintro e D ⟨rfl,L,v⟩;have y:Hid (ca Z w D):=v;clear v I;go_wp2_with fail
     refine(A D L).mono ?_;rintro e p ⟨rfl,H,C⟩;have d:Hid (ca Z w p):=y.out.trans C;clear C y A;go_wp2_with fail
     refine(F p H).mono ?_;rintro e m ⟨rfl,B,c⟩;have l:Hid (ca Z w m):=d.out.trans c;clear c d F;go_wp2_with fail
     refine(hp m B).mono ?_;rintro e S ⟨rfl,O,W⟩;have O4:Hid (ca Z w S):=l.out.trans W;clear W l hp;go_wp2_with fail
     refine(P S).mono ?_;rintro e w5 ⟨rfl,rfl⟩;clear P;have hf:=l7 Z s (i+1) Y X w5 O;go_wp2_with fail
     refine hf.mono ?_;rintro e w6 ⟨rfl,rfl⟩;clear hf;go_wp2;refine⟨rfl,?_,O4.out⟩;rw[t.out];exact⟨rfl,_,O⟩
   | some b=>
     obtain⟨k,hk,ac,ab⟩:=AN aa u;rw[hk]at P;have g:i+1<s.size:=by
      by_cases g:i+1<s.size
      ·exact g
      ·rw[cU s (i+1) (by omega)]at u;cases u
     have t:Hid (gW (b9 s i)=.ok (b.toNat,2)):=by
      show gW (b9 s i)=_
      rw[cg s (i+1) g]at u R;rw[lA g,gW,if_neg (by exact R)];rw[show pk (s[i+1]::b9 s (i+1+1))=s[i+1]from rfl]at u;rw[u]
     clear u aa R E G hk;have ae:(k:Int)<7:=by omega
     have af:(i:Int)+1<=140737488355328:=by omega
     go_enter func224,ntmps224;go_wp2_with fail
     refine I.mono ?_;rintro e D ⟨rfl,L,v⟩;have y:Hid (ca Z w D):=v;clear v I;go_wp2_with fail
     refine(A D L).mono ?_;rintro e p ⟨rfl,H,C⟩;have d:Hid (ca Z w p):=y.out.trans C;clear C y A;go_wp2_with fail
     refine(F p H).mono ?_;rintro e m ⟨rfl,B,c⟩;have l:Hid (ca Z w m):=d.out.trans c;clear c d F;go_wp2_with fail
     refine(hp m B).mono ?_;rintro e S ⟨rfl,O,W⟩;have O4:Hid (ca Z w S):=l.out.trans W;clear W l hp;go_wp2_with fail
     refine(P S).mono ?_;rintro e w5 ⟨rfl,rfl⟩;clear P;obtain⟨c0,c1,c2,c3,cf⟩:=O.cell;have f1:=cf 1;have ad:k=0\/k=1\/k=2\/k=3\/k=4\/k=5\/k=6:=by omega
     clear ac ae;rcases ad with rfl|rfl|rfl|rfl|rfl|rfl|rfl
     all_goals
      injection ab with ab;have HB:Hid _:=ab;clear ab;go_wp2;go_ret;refine⟨?_,ca.setCell O4.out _ O⟩;rw[t.out];refine⟨?_,O.setI (i+2)⟩;rw[<-HB.out];exact KV (fun z=>Ending.returned (Value.int .i32 z)) (by decide +kernel)
end
structure GV (w:Wd):Prop where
 tabs:Lib.Utf8Tabs 0 1 w
 rng:∃tp p,w.var? prog "strconv.ErrRange" =some #[.iface tp p]
theorem tr:prog.globalNamed "strconv.ErrRange" =some 8:=by kernel_rfl
theorem GV.kept{w w':Wd}(h:GV w)(a:∀k,k<9->w'.heap[k]?=w.heap[k]?):GV w':=by
 refine⟨⟨fun c f=>?_,fun i d=>⟨?_,?_⟩⟩,?_⟩
 ·have:=h.tabs.1 c f;unfold World.cell? at this ⊢;simp only at this ⊢;rw[a _ (by decide)];exact this
 ·have:=(h.tabs.2 i d).1;unfold World.cell? at this ⊢;simp only at this ⊢;rw[a _ (by decide)];exact this
 ·have:=(h.tabs.2 i d).2;unfold World.cell? at this ⊢;simp only at this ⊢;rw[a _ (by decide)];exact this
 ·obtain⟨e,p,b⟩:=h.rng
  refine⟨e,p,?_⟩;unfold World.var? at b ⊢;rw[tr]at b ⊢;simp only[Option.bind_some]at b ⊢;rw[a _ (by decide)];exact b
theorem GV.onl{a:Nat}{w w':Wd}(h:GV w)(b:ca a w w')(d:9<=a)(f:a<w.heap.size):GV w':=
 h.kept fun k c=>b.block k (by omega) (fun e=>by injection e with e;omega)
def jm(n b0 b1 b2 b3:Nat):Nat:=
 if b0<128 then 1
 else if b0<194\/244<b0 then 0
 else if(1<n/\ee b0<=b1/\b1<=eu b0)/\(dV b0<=2\/(2<n/\128<=b2/\b2<=191))/\(dV b0<=3\/(3<n/\128<=b3/\b3<=191))then dV b0 else 0
theorem tY(n b d a c:Nat)(j:1<=n)(i:b<256)(g:d<256)(f:a<256)(e:c<256)(h:jm n b d a c=0):Lib.decodeN n b d a c=(65533,1):=by
 unfold jm ee eu dV at h;unfold Lib.decodeN;repeat' split at h
 all_goals (try (exfalso;omega))
 all_goals (repeat' split)
 all_goals first|rfl|(exfalso;omega)
theorem me(n b d a c:Nat)(k:1<=n)(j:b<256)(i:d<256)(g:a<256)(f:c<256)(h:jm n b d a c≠0):(Lib.decodeN n b d a c).2=jm n b d a c/\¬((Lib.decodeN n b d a c).1=65533/\(Lib.decodeN n b d a c).2=1)/\(Lib.decodeN n b d a c).1<1114112:=by
 generalize e:jm n b d a c=q at h ⊢;unfold jm ee eu dV at e;unfold Lib.decodeN;repeat' split at e
 all_goals (try (exfalso;omega))
 all_goals (repeat' split)
 all_goals first|(exfalso;omega)|(refine⟨?_,?_,?_⟩<;>simp only<;>omega)
theorem pl(t:dv)(k a b:Nat)(c:0<a):ed (b9 t 0) k a b=decide (k<t.size/\a<=(t.get! k).toNat/\(t.get! k).toNat<=b):=by
 by_cases h:k<t.size
 ·rw[ed,show(b9 t 0)[k]?=some t[k]by have:=nU t 0 k (by omega);simpa using this,Utf8W.get!_of_lt t k h]
  simp[h]
 ·rw[ed,kt t 0 k (by omega)];simp[h]
theorem lw(t:dv)(h:0<t.size):seqLen (b9 t 0)=jm t.size (t.get! 0).toNat (t.get! 1).toNat (t.get! 2).toNat (t.get! 3).toNat:=by
 have d:=cg t 0 h;have e:=Utf8W.get!_of_lt t 0 h;have f:0<ee t[0].toNat:=by unfold ee;(repeat' split)<;>omega
 have b:=pl t 1 (ee t[0].toNat) (eu t[0].toNat) f;have c:=pl t 2 128 191 (by omega);have a:=pl t 3 128 191 (by omega);rw[d]at b c a ⊢;rw[seqLen,jm,e,b,c,a];simp only[Kz,Md,Kx,and_assoc]
theorem oA(s:dv)(i:Nat)(h:i<=s.size):b9 (s.extract i s.size) 0=b9 s i:=by
 unfold b9;rw[dd,K3,Kd (by simp)]
theorem lL(s:dv)(i:Nat)(h:i<=s.size):(s.extract i s.size).size=s.size-i:=by simp
theorem wu(s:dv)(i:Nat)(h:i<s.size):(seqLen (b9 s i)=0->Lib.decodeGo (s.extract i s.size)=(65533,1))/\(seqLen (b9 s i)≠0->(Lib.decodeGo (s.extract i s.size)).2=seqLen (b9 s i)/\¬((Lib.decodeGo (s.extract i s.size)).1=65533/\(Lib.decodeGo (s.extract i s.size)).2=1)):=by
 have c:=lL s i (by omega);rw[<-oA s i (by omega)];generalize s.extract i s.size=t at c;have a:0<t.size:=by omega
 rw[lw t a];unfold Lib.decodeGo;rw[if_neg (by omega),Lib.decode_at];have b:=fun k=>(t.get! k).toNat_lt
 exact⟨fun h=>tY t.size _ _ _ _ (by omega) (b 0) (b 1) (b 2) (b 3) h,fun h=>⟨(me t.size _ _ _ _ (by omega) (b 0) (b 1) (b 2) (b 3) h).1,(me t.size _ _ _ _ (by omega) (b 0) (b 1) (b 2) (b 3) h).2.1⟩⟩
theorem seqLen_le(s:dv)(i:Nat):i+seqLen (b9 s i)<=s.size\/seqLen (b9 s i)=0:=by
 by_cases h:i<s.size
 ·have a:=lL s i (by omega)
  rw[<-oA s i (by omega)];generalize s.extract i s.size=t at a;rw[lw t (by omega)];unfold jm dV;repeat' split
  all_goals omega
 ·rw[cU s i (by omega)];exact .inr rfl
section
variable (Z:Nat) (s:dv) (i:Nat) (Y:Va) (X:Nat) (w:Wd)
theorem vC(d:9<=Z)(t:dv)(h:CD Z s i Y X w)(c:GV w):Calls prog 247 #[.string t] w fun e a=>e=.returned (.tuple #[.int .i32 ((Lib.decodeGo t).1:Int),.int .i64 ((Lib.decodeGo t).2:Int)])/\CD Z s i Y X a/\ca Z w a:=by
 refine(utf8_DecodeRuneInString t w c.tabs).mono ?_;rintro e a ⟨rfl,b⟩;exact⟨rfl,(b.block Z h.lt).trans h,iH b⟩
theorem zc(I:s.size<=140737488355328)(G:9<=Z)(h:CD Z s i Y X w)(H:GV w)(C:i<=s.size)(a:(pk (b9 s i)).toNat<32\/seqLen (b9 s i)=0):Calls prog 225 #[.pointer (some ⟨Z,0,none⟩)] w fun r b=>r=.panicked (gI 2 i)/\CD Z s i Y X b/\ca Z w b:=by
 have c:=vC Z s i Y X w G (s.extract i s.size) h H;have l:=fun b q=>ji Z s i Y X b q C
 have m:=fun b q=>l7 Z s i Y X b q
 obtain⟨A,x,y,z,v⟩:=h.cell
 by_cases d:(pk (b9 s i)).toNat<32
 ·have E:((pk (b9 s i)).toNat:Int)<32:=by omega
  clear a d;generalize Lib.decodeGo (s.extract i s.size)=D at c;go_enter func225,ntmps225;go_wp2_with fail
  refine c.mono ?_;rintro e t ⟨rfl,p,f⟩;have g:Hid _:=f;clear f c A x y z v;go_wp2_with fail
  refine(l t p).mono ?_;rintro e o ⟨rfl,j,k⟩;have n:Hid _:=g.out.trans k;clear k l g;go_wp2_with fail
  refine(m o j).mono ?_;rintro e F ⟨rfl,rfl⟩;clear m;go_wp2;exact⟨rfl,rfl,j,n.out⟩
 ·have B:seqLen (b9 s i)=0:=by rcases a with a|a;exact absurd a d;exact a
  have u:i<s.size:=by
   by_cases u:i<s.size
   ·exact u
   ·rw[cU s i (by omega)]at d;exact absurd (by decide) d
  rw[(wu s i u).1 B]at c;have E:¬((pk (b9 s i)).toNat:Int)<32:=by omega
  clear a d B;go_enter func225,ntmps225;go_wp2_with fail
  refine c.mono ?_;rintro e t ⟨rfl,p,f⟩;have g:Hid _:=f;clear f c A x y z v;go_wp2_with fail
  refine(l t p).mono ?_;rintro e o ⟨rfl,j,k⟩;have n:Hid _:=g.out.trans k;clear k l g;go_wp2_with fail
  refine(m o j).mono ?_;rintro e F ⟨rfl,rfl⟩;clear m;go_wp2;exact⟨rfl,rfl,j,n.out⟩
theorem Ck(P:s.size<=140737488355328)(H:9<=Z)(h:CD Z s i Y X w)(I:GV w)(u:¬(pk (b9 s i)).toNat<32)(E:seqLen (b9 s i)≠0):Calls prog 225 #[.pointer (some ⟨Z,0,none⟩)] w fun r x=>r=.returned (.string (s.extract i (i+seqLen (b9 s i))))/\CD Z s (i+seqLen (b9 s i)) Y X x/\ca Z w x:=by
 have D:i<s.size:=by
  by_cases D:i<s.size
  ·exact D
  ·rw[cU s i (by omega)]at u;exact absurd (by decide) u
 have l:=vC Z s i Y X w H (s.extract i s.size) h I;obtain⟨z,p⟩:=(wu s i D).2 E;have O:i+seqLen (b9 s i)<=s.size:=by rcases seqLen_le s i with h|h;exact h;exact absurd h E
 have v:=fun x G=>ji Z s i Y X x G (by omega)
 obtain⟨j,b,f,g,a⟩:=h.cell
 have J:¬((pk (b9 s i)).toNat:Int)<32:=by omega
 rw[z]at l p;generalize (Lib.decodeGo (s.extract i s.size)).1=R at l p;generalize seqLen (b9 s i)=K at *
 by_cases y:R=65533
 ·have N:((K:Int)==1)=false:=by rw[JJ];intro e;exact p ⟨y,by omega⟩
  subst y;clear p u z;go_enter func225,ntmps225;go_wp2_with fail
  refine l.mono ?_;rintro e C ⟨rfl,A,m⟩;have o:Hid _:=m;clear m l j b f g a;go_wp2_with fail
  refine(v C A).mono ?_;rintro e d ⟨rfl,c,t⟩;have q:Hid _:=o.out.trans t;clear t v o;obtain⟨j,b,f,g,a⟩:=c.cell;have B:=a 1;go_wp2_with fail
  have k:CD Z s (i+K) Y X (d.setCell ⟨Z,1,none⟩ (.int .i64 ((i:Int)+(K:Int)))):=c.setI (i+K);have n:Hid (ca Z w (d.setCell ⟨Z,1,none⟩ (.int .i64 ((i:Int)+(K:Int))))):=ca.setCell q.out _ c;generalize d.setCell ⟨Z,1,none⟩ (.int .i64 ((i:Int)+(K:Int)))=F at k n;clear j b f g a B c q d;obtain⟨j,b,f,g,a⟩:=k.cell;rw[show((i+K:Nat):Int)=(i:Int)+(K:Int)by omega]at b;go_quiet (fail);go_wp2;go_ret;refine⟨?_,k.drewN _,ca.drewN n.out _⟩;rfl
 ·have T:((R:Int)==65533)=false:=by rw[JJ];intro e;exact y (by omega)
  clear p u z y;go_enter func225,ntmps225;go_wp2_with fail
  refine l.mono ?_;rintro e C ⟨rfl,A,m⟩;have o:Hid _:=m;clear m l j b f g a;go_wp2_with fail
  refine(v C A).mono ?_;rintro e d ⟨rfl,c,t⟩;have q:Hid _:=o.out.trans t;clear t v o;obtain⟨j,b,f,g,a⟩:=c.cell;have B:=a 1;go_wp2_with fail
  have k:CD Z s (i+K) Y X (d.setCell ⟨Z,1,none⟩ (.int .i64 ((i:Int)+(K:Int)))):=c.setI (i+K);have n:Hid (ca Z w (d.setCell ⟨Z,1,none⟩ (.int .i64 ((i:Int)+(K:Int))))):=ca.setCell q.out _ c;generalize d.setCell ⟨Z,1,none⟩ (.int .i64 ((i:Int)+(K:Int)))=F at k n;clear j b f g a B c q d;obtain⟨j,b,f,g,a⟩:=k.cell;rw[show((i+K:Nat):Int)=(i:Int)+(K:Int)by omega]at b;go_quiet (fail);go_wp2;go_ret;refine⟨?_,k.drewN _,ca.drewN n.out _⟩;rfl
end
def fL(B:Nat)(e:TypeId)(v:Va)(l:dj)(w:Wd):Prop:=
 (v=.slice none 0 0/\l=[])\/
 ∃g cap cur,v=.slice (some ⟨g,0,none⟩) l.length cap/\B<=g/\w.heap[g]?=some (.cells cur e (0,0))/\l.length<=cap/\cap<=maxLen/\cur.size=cap/\cur.toList.take l.length=l.map cj
theorem fL.b{B:Nat}{e:TypeId}{v:Va}{l:dj}{w:Wd}(h:fL B e v l w):OwnB B e v l w:=by
 rcases h with h|⟨g,f,k,a,b,j,d,i,c,m⟩
 ·exact .inl h
 ·exact .inr ⟨g,f,k,(0,0),a,b,j,.inl (KI _),d,i,c,m⟩
theorem fL.row{B:Nat}{e:TypeId}{v:Va}{l:dj}{w:Wd}(h:fL B e v l w):w.ownsRow B e 1 v l.length (l.map cj):=by
 refine⟨by simp,?_⟩;rcases h with⟨a,b⟩|⟨g,i,m,c,d,k,f,j,o,n⟩
 ·exact .inl ⟨a,by rw[b];rfl⟩
 ·exact .inr ⟨g,i,m,c,d,k,f,j,by omega,by rw[Mp];exact n⟩
theorem fL.of{B:Nat}{e:TypeId}{v:Va}{l:dj}{w:Wd}{n:Nat}(o:n=l.length)(h:w.ownsRow B e 1 v n (l.map cj)):fL B e v l w:=by
 subst o;rcases h.2 with⟨a,b⟩|⟨g,j,m,d,f,p,i,k,q,c⟩
 ·exact .inl ⟨a,Kt.1 b⟩
 ·exact .inr ⟨g,j,m,d,f,p,i,k,by omega,by rw[Mp]at c;exact c⟩
theorem fL.onl{a B:Nat}{e:TypeId}{v:Va}{l:dj}{d b:Wd}(h:fL B e v l d)(k:ca a d b)(o:a<B):fL B e v l b:=by
 rcases h with h|⟨g,m,n,i,f,c,j⟩
 ·exact .inl h
 ·refine .inr ⟨g,m,n,i,f,?_,j⟩
  have:=(go.1 c).1;rw[k.block _ this (fun e=>by injection e with e;omega)];exact c
theorem IZ{P:Program}(w:Wd)(t u h e:TypeId)(i:TypeInfo)(k:P.underlying t=some (.slice e))(K:P.underlying u=some .string)(f:P.info? e=some i)(G:i.zero=some (.int .u8 0))(m:i.size=1)(L:i.bytes=1)(B:Nat)(v:Va)(l:dj)(s:dv)(I:fL B e v l w)(H:B<=w.heap.size)(J:l.length+s.size<=140737488355328):∃F A,(Builtin.append_ #[t,u] h #[v,.string s]).run P w=.ok F A/\fL B e F (l++s.data.toList) A/\Below B w A:=by
 have o:Src P i.size u (.string s) s.size (byteCells s) w:=by rw[m];exact Src.ofString w K s
 have y:l.length+s.size<=maxLen:=by unfold maxLen;omega
 have Z:s.data.toList.length=s.size:=by simp
 by_cases M:s.size=0
 ·have D:s.data.toList=[]:=Kt.1 (by omega)
  rw[D,KB];rcases I with⟨rfl,rfl⟩|⟨g,cap,q,rfl,r,d,E,x,N,p⟩
  ·refine⟨.slice none 0 0,w,?_,.inl ⟨rfl,rfl⟩,JI _ _⟩
   simp[Builtin.append_,run_underlying k,run_underlying K,sizeOf,typeInfo,f,Builtin.lenOf,Builtin.firstCells,M]
  ·have a:=My (P:=P) w t u h e i k f g 0 l.length cap (.string s) s.size (byteCells s) o (by omega) (by intro j b;rw[KA]at b;omega) (by intro j b;rw[KA]at b;omega)
   have O:byteCells s=[]:=by rw[dY,D];rfl
   rw[O]at a;refine⟨_,_,a,.inr ⟨g,cap,q,by rw[M];rfl,r,d,E,x,N,p⟩,JI _ _⟩
 ·rcases I with⟨rfl,rfl⟩|⟨g,cap,q,rfl,r,d,E,x,N,p⟩
  ·have a:=LZ (P:=P) w t u h e i (.int .u8 0) k f G none 0 0 [] (by simp[Builtin.firstCells]) (.string s) s.size (byteCells s) o (by omega) (by simp at J ⊢;omega) (by rw[L];exact L2 (by omega) (by simp at J ⊢;omega))
   rw[J3]at a;have z:=Mo w s.size 0 e;have n:=Lv w s.size 0 e (by simpa using y);generalize grownCap w s.size 0 e=c at a z n;refine⟨_,_,a,?_,((JI B w).drew).alloc (by show B<=w.heap.size;omega) _⟩;refine .inr ⟨w.heap.size,c,_,by simp,H,JK w.drew _,by simp;omega,n,?_,?_⟩
   ·have C:(Value.int IntKind.u8 0).cells.size=1:=rfl
    simp only[LH,LI,Mq,C,JH,KA,JY];omega
   ·rw[dY]
    simp only[KK,Lj];rw[Lu (by simp)]
  ·by_cases X:l.length+s.size<=cap
   ·have T:∀j,j<(byteCells s).length->(w.cell? ⟨g,0+l.length*i.size+j,none⟩).isSome=true:=by
     intro j b;rw[KA]at b;rw[m,JE w g _ q e (0,0) d];simp;omega
    have V:∀j,j<(byteCells s).length->w.frozen? ⟨g,0+l.length*i.size+j,none⟩=false:=by
     intro j b;rw[KA]at b;simp[World.frozen?,d]
    have a:=My (P:=P) w t u h e i k f g 0 l.length cap (.string s) s.size (byteCells s) o X T V;obtain⟨Y,W,a2,R,Q⟩:=kr (byteCells s) (0+l.length*i.size) w q d (by rw[KA,m];omega);refine⟨_,_,a,.inr ⟨g,cap,Y,by simp,r,W,by simp;omega,x,by omega,?_⟩,Q B r⟩
    ·rw[R,m,J3,Mp,p,dY]
     rw[Lu (by simp)];simp
   ·have U:=OwnB.cells (B:=B) (cap:=cap) d p
    have S:(Builtin.firstCells i.size l.length (.slice (some ⟨g,0,none⟩) l.length cap)).run P w.drew=.ok (l.map cj).toArray w.drew:=by
     rw[m];exact LK (P:=P) w.drew 1 l.length ⟨g,0,none⟩ l.length cap (l.map cj) (by simp) (by simpa using U)
    have a:=LZ (P:=P) w t u h e i (.int .u8 0) k f G (some ⟨g,0,none⟩) l.length cap (l.map cj) S (.string s) s.size (byteCells s) o (by omega) (by unfold maxLen at y;omega) (by rw[L];exact L2 (by omega) (by omega));have z:=Mo w (l.length+s.size) cap e;have n:=Lv w (l.length+s.size) cap e y;generalize grownCap w (l.length+s.size) cap e=c at a z n;refine⟨_,_,a,?_,((JI B w).drew).alloc (by show B<=w.heap.size;omega) _⟩;refine .inr ⟨w.heap.size,c,_,by simp,H,JK w.drew _,by simp;omega,n,?_,?_⟩
    ·have C:(Value.int IntKind.u8 0).cells.size=1:=rfl
     simp only[LH,LI,Mq,C,JH,KA,Kq];omega
    ·rw[dY]
     simp only[KK];rw[<-Kj,Lu (by simp)]
theorem Dw{P:Program}{d:Array Oper}{f:List Oper}{o:Oper}{a:Act}{Q:Exit->Act->Wd->Prop}{w:Wd}(A:o.guard=none)(x y:Operand)(t u:TypeId)(E:o.op=.call {callee:=.builtin .append,args:= #[x,y],argTypes:= #[t,u]})
 (e:TypeId) (i:TypeInfo) (H:P.underlying t=some (.slice e)) (q:P.underlying u=some .string) (k:P.info? e=some i) (I:i.zero=some (.int .u8 0)) (r:i.size=1) (z:i.bytes=1)
 (B:Nat) (v:Va) (l:dj) (s:dv) (g:a.eval x=v) (G:a.eval y=.string s) (p:l.length+s.size<=140737488355328) (n:fL B e v l w) (j:B<=w.heap.size)
 (h:∀c b,fL B e c (l++s.data.toList) b->Below B w b->wpList P d Q f (a.put o.dst c) b):wpList P d Q (o::f) a w:=by
 refine LC A fun K F=>?_
 obtain⟨c,b,m,D,C⟩:=IZ (P:=P) w t u o.type e i H q k I r z B v l s n j p;unfold Oper.wp execOp;simp only[E,resolve,invoke,builtin,K6,Li,KP,Ln,JW,Ko,g,G,m];exact F _ _ (h c b D C)
theorem sA(q:Nat)(h:(q<55296\/57343<q)/\q<=1114111):Lib.runeCells (q:Int)=(fJ q).map cj:=by
 have a:∀n:Nat,n<256->cj (UInt8.ofNat n)=Value.int .u8 (n:Int):=by
  intro n b;unfold cj;rw[UInt8.toNat_ofNat_of_lt' (by simpa [UInt8.size]using b)]
 unfold Lib.runeCells fJ;split
 ·rw[Lib.encodeRuneZ_one (by omega) (by omega)];simp[a q (by omega)]
 ·split
  ·rw[Lib.encodeRuneZ_two (by omega) (by omega)];simp only[JW,Ko];rw[a _ (by omega),a _ (by omega)];simp
  ·split
   ·rw[Lib.encodeRuneZ_three (by omega)];simp only[JW,Ko];rw[a _ (by omega),a _ (by omega),a _ (by omega)];simp
   ·rw[Lib.encodeRuneZ_four (by omega) (by omega)];simp only[JW,Ko];rw[a _ (by omega),a _ (by omega),a _ (by omega),a _ (by omega)];simp
theorem Hd(B:Nat)(v:Va)(l:dj)(q:Nat)(m:(q<55296\/57343<q)/\q<=1114111)(w:Wd)(j:fL B 5 v l w)(r:l.length+4<=140737488355328)(p:B<=w.heap.size):Calls prog 223 #[v,.int .i32 (q:Int)] w fun e f=>∃d,e=.returned d/\fL B 5 d (l++fJ q) f/\Below B w f:=by
 have s:∀k,k<B->some k≠v.ownBlock:=by
  intro k h e;rcases j with⟨a,b⟩|⟨g,x,y,n,u,_⟩
  ·rw[a]at e;cases e
  ·rw[n]at e;injection e with e;dsimp only at e;omega
 refine(utf8_AppendRune_plain B v l.length (l.map cj) (q:Int) (by omega) (by omega) w j.row r p).mono ?_;rintro e f ⟨d,rfl,i,o,c⟩;refine⟨d,rfl,?_,?_⟩
 ·rw[sA q m,<-Kj]at i
  exact fL.of (by simp) i
 ·have t:=c.size
  refine⟨c.os,c.tape,c.output,by simp at t;omega,fun k h=>?_⟩;rw[c.block k (by simp;omega) (s k h),JO _ _ (by omega)]
theorem BV{s:dv}{j m:Nat}(h:dP (b9 s j)=some m):j+6<=s.size:=by
 by_cases a:(b9 s j).head?=some 92
 ·by_cases b:(b9 s (j+1)).head?=some 117
  ·rw[s9 a b]at h
   cases c:dt (b9 s (j+2))with
   | mk q o=>
     rw[c]at h;cases q with
     | none=>cases h
     | some n=>have:=pd c;omega
  ·rw[sY b]at h;cases h
 ·rw[ti a]at h;cases h
theorem CW{s:dv}{p q k:Nat}(h:gW (b9 s p)=.ok (q,k)):p+k<=s.size/\2<=k/\k<=12/\(q<55296\/57343<q)/\q<=1114111:=by
 by_cases d:p+1<s.size
 ·rw[lA d,qQ]at h
  by_cases i:s[p+1]=117
  ·rw[if_pos i]at h
   cases f:dt (b9 s (p+2))with
   | mk x o=>
     rw[f]at h;cases x with
     | none=>cases h
     | some n=>
       have r:=pd f;have u:=qW f;simp only at h;rw[cw]at h;cases c:fk n (b9 s (p+2+4))with
       | none=>rw[c]at h;cases h
       | some y=>
         obtain⟨a,b⟩:=y;rw[c]at h;injection h with h;injection h with d e;subst d;subst e;unfold fk at c;split at c
         ·injection c with c;injection c with d e;subst d;subst e;omega
         ·split at c
          ·cases c
          ·next m hm=>
           have t:=BV hm;have l:=zB hm;split at c
           ·cases c
           ·injection c with c;injection c with d e;subst d;subst e;omega
  ·rw[if_neg i]at h
   cases g:fo s[p+1]with
   | none=>rw[g]at h;cases h
   | some b=>
     rw[g]at h;have:=wP g;injection h with h;injection h with d e;subst d;subst e;omega
 ·by_cases j:p<s.size
  ·rw[cg s p j,cU s (p+1) (by omega)]at h;cases h
  ·rw[cU s p (by omega)]at h;cases h
section
variable (Z:Nat) (s:dv) (i:Nat) (Y:Va) (X:Nat) (w:Wd)
def CQ(R:Except Nat (dj×Nat))(r:Ending)(w':Wd):Prop:=
 match R with
 | .ok (t,n)=>r=.returned (.string ⟨t.toArray⟩)/\CD Z s (i+n) Y X w'
 | .error o=>r=.panicked (gI 2 (i+o))/\∃j,CD Z s j Y X w'
theorem CD.belowB{j:Nat}{w' wr:Wd}(h:CD Z s j Y X wr)(a:Z<w.heap.size)(b:Below w.heap.size wr w'):CD Z s j Y X w':=by
 unfold CD;rw[b.block _ a];exact h
theorem DN(hs:s.size<=140737488340000)(ab:9<=Z)(h:CD Z s i Y X w)(hG:GV w)(hi:i<=s.size):Calls prog 208 #[.pointer (some ⟨Z,0,none⟩)] w fun r J=>CQ Z s i Y X (da (b9 s i)) r J/\ca Z w J:=by
 have K:=h.lt;obtain⟨i0,ap,aD,aI,aE⟩:=Kf eb;have HI:Hid _:=ap;clear ap;by_cases N:(b9 s i).head?=some 34
 ·have hi:=dr N
  have aC:s[i]=34:=by rw[cg s i hi]at N;simpa using N
  have hR:da (b9 s i)=(match jC (b9 s (i+1))with| .ok (t,n)=>.ok (t,n+1)| .error o=>.error (o+1)):=by
   rw[cg s i hi,da,if_pos aC];rfl
  have HR:Hid _:=hR;clear hR;have hm:=hJ Z s i Y X 34 w (by omega) h N;rw[show((34:UInt8).toNat:Int)=34 from rfl]at hm;clear N aC;go_enter func208,ntmps208;go_wp2_with fail
  refine hm.mono ?_;rintro e w1 ⟨rfl,h1,o1⟩;have H1:Hid _:=h1;have O1:Hid _:=o1;clear h1 o1 hm;go_wp2_with fail
  go_loopw [3] (fun v wr=>∃k f l,(b9 s (i+1+k)).length<f/\i+1+k<=s.size/\l.length<=k/\jC (b9 s (i+1))=cL l k (strF f (b9 s (i+1+k)))/\fL w.heap.size 5 v l wr/\CD Z s (i+1+k) Y X wr/\ca Z w wr) (fun _ wr=>s.size+1-dU (wr.cell? ⟨Z,1,none⟩))
  case atStart=>
   refine⟨0,(b9 s (i+1)).length+1,[],by simp,by omega,by simp,?_,.inl ⟨rfl,rfl⟩,H1.out,O1.out⟩;show jC (b9 s (i+1))=cL [] 0 (strF ((b9 s (i+1)).length+1) (b9 s (i+1)))
   unfold jC;cases strF ((b9 s (i+1)).length+1) (b9 s (i+1))with
   | ok p=>obtain⟨a,b⟩:=p;simp[cL]
   | error o=>simp[cL]
  case round=>
   clear H1 O1;obtain⟨k,f,l,U,O,aL,he,az,ac,ho⟩:=hrel;have M:Hid _:=ho;have ak:=hG.onl ho ab K;clear ho;generalize hp:i+1+k=p at U O he ac;have G:Hid _:=hp;have HE:Hid _:=he;have HW:Hid (fL w.heap.size 5 u3 l wr):=az;have HM:Hid _:=gg ac;obtain⟨f,rfl⟩:∃g,f=g+1:=⟨f-1,by omega⟩;have ay:l.length<=140737488340020:=by omega
   have HA:Hid _:=ay;clear hp he az ay;by_cases u:(b9 s p).head?=some 34
   ·have B:=fQ Z s p Y X 34 wr (by omega) ac u
    rw[show((34:UInt8).toNat:Int)=34 from rfl]at B;have hF:strF (f+1) (b9 s p)=.ok ([],1):=by
     have E:=dr u;rw[cg s p E]at u ⊢;have u:s[p]=34:=by simpa using u
     rw[strF];simp[u]
    have I:Hid _:=hF;clear u hF U O;go_wp2_with fail
    refine B.mono ?_;rintro e m ⟨rfl,H,c⟩;have H3:Hid _:=H;have A:Hid _:=ca.trans M.out c;have aK:=(HW.out.onl c K).b.str (P:=prog) (t:=115) (d:=9) JU KY Kl;clear H c B M HW;go_wp2;go_ret;refine⟨?_,A.out⟩;have S:=HE.out;rw[I.out]at S;have e2:cL l k (.ok ([],1))=.ok (l,k+1):=by simp[cL]
    rw[HR.out,S,e2];refine⟨rfl,?_⟩;have:i+(k+1+1)=p+1:=by have:=G.out;omega
    rw[this];exact H3.out
   ·have B:=gt Z s p Y X 34 wr ac O (by decide) u
    rw[show((34:UInt8).toNat:Int)=34 from rfl]at B;have T:=fun J V=>ji Z s p Y X J V O
    by_cases z:(b9 s p).head?=some 92
    ·have E:=dr z
     have am:s[p]=92:=by rw[cg s p E]at z;simpa using z
     have aJ:(((pk (b9 s p)).toNat:Int)==92)=true:=by rw[fU z];rfl
     have ah:=fun J V=>Jn Z s p Y X J (by omega) V z
     have W:strF (f+1) (b9 s p)=(match eQ (b9 s p)with| .error o=>.error o| .ok (t,n)=>cL t n (strF f ((b9 s p).drop n))):=by
      rw[cg s p E,strF];simp[am];rfl
     rw[uk]at W;cases ag:gW (b9 s p)with
     | error o=>
       rw[ag]at W ah;have I:Hid _:=W;clear W ag am u z U O;go_wp2_with fail
       refine B.mono ?_;rintro e x ⟨rfl,L,y⟩;have F:Hid (ca Z w x):=ca.trans M.out y;clear y B M;go_wp2_with fail
       refine(T x L).mono ?_;rintro e m ⟨rfl,H,c⟩;have A:Hid (ca Z w m):=ca.trans F.out c;clear c T F;go_wp2_with fail
       refine(ah m H).mono ?_;rintro e D ⟨⟨rfl,j,Q⟩,C⟩;have R:Hid (ca Z w D):=ca.trans A.out C;clear C ah A;go_wp2;refine⟨rfl,?_,R.out⟩;have S:=HE.out;rw[I.out]at S;rw[HR.out,S];refine⟨?_,j,Q⟩;rw[show i+(k+o+1)=p+o by have:=G.out;omega]
     | ok q=>
       obtain⟨q,n⟩:=q;obtain⟨aA,aw,ax,av⟩:=CW ag;rw[ag]at W ah;have I:Hid (strF (f+1) (b9 s p)=cL (fJ q) n (strF f ((b9 s p).drop n))):=W;have HL:Hid ((b9 s p).length<f+1):=U;have HB:Hid (p+n<=s.size/\2<=n/\n<=12):=⟨aA,aw,ax⟩;have aF:Hid ((fJ q).length<=n):=by
        have e:=uk (b9 s p);rw[ag]at e;exact(oy e).1
       have HQ:Hid ((q<55296\/57343<q)/\q<=1114111):=av;clear W ag am u z U O aA aw ax av;go_wp2_with fail
       refine B.mono ?_;rintro e x ⟨rfl,L,y⟩;have F:Hid (ca Z w x):=ca.trans M.out y;have W2:Hid (fL w.heap.size 5 u3 l x):=HW.out.onl y K;clear y B M HW;go_wp2_with fail
       refine(T x L).mono ?_;rintro e m ⟨rfl,H,c⟩;have A:Hid (ca Z w m):=ca.trans F.out c;have W3:Hid (fL w.heap.size 5 u3 l m):=W2.out.onl c K;clear c T F W2;go_wp2_with fail
       refine(ah m H).mono ?_;rintro e D ⟨⟨rfl,Q⟩,C⟩;have R:Hid (ca Z w D):=ca.trans A.out C;have W4:Hid (fL w.heap.size 5 u3 l D):=W3.out.onl C K;have ao:=R.out.size;clear C ah A W3;have aq:=Hd w.heap.size u3 l q HQ.out D W4.out (by have:=HA.out;omega) ao;go_wp2_with fail
       refine aq.mono ?_;rintro e w5 ⟨v5,rfl,h5,b5⟩;have W5:Hid _:=h5;have H5:Hid (CD Z s (p+n) Y X w5):=CD.belowB Z s Y X w Q K b5;have O5:Hid (ca Z w w5):=je Z w R.out b5;clear h5 b5 aq Q;go_wp2;refine⟨⟨k+n,f,l++fJ q,?_,?_,?_,?_,W5.out,?_,O5.out⟩,?_⟩
       ·have:=HL.out;have:=HB.out;have:=G.out;rw[cx]at *;omega
       ·have:=HB.out;have:=G.out;omega
       ·have:=aF.out;simp;omega
       ·rw[HE.out,I.out,iE,cw,show i+1+(k+n)=p+n by have:=G.out;omega]
       ·rw[show i+1+(k+n)=p+n by have:=G.out;omega];exact H5.out
       ·rw[HM.out,gg H5.out];have:=HB.out;omega
    ·have aJ:(((pk (b9 s p)).toNat:Int)==92)=false:=by
      rw[JJ];intro e;exact kV (by decide) z (K9.1 (by simpa using by omega))
     by_cases aa:(pk (b9 s p)).toNat<32\/seqLen (b9 s p)=0
     ·have af:=fun J V g'=>zc Z s p Y X J (by omega) ab V g' O aa
      have I:Hid (strF (f+1) (b9 s p)=.error 0):=by
       show strF (f+1) (b9 s p)=.error 0
       by_cases E:p<s.size
       ·have hc:=cg s p E
        rw[hc]at u z aa ⊢;have ai:s[p]≠34:=by simpa using u
        have al:s[p]≠92:=by simpa using z
        rw[strF];simp only[ai,al,L1];rcases aa with hb|hb
        ·rw[if_pos (show s[p].toNat<32 from hb)]
        ·simp[hb]
       ·rw[cU s p (by omega)];rfl
      clear u z aa U O;go_wp2_with fail
      refine B.mono ?_;rintro e x ⟨rfl,L,y⟩;have F:Hid (ca Z w x):=ca.trans M.out y;have g2:GV x:=ak.onl y ab ac.lt;clear y B M;go_wp2_with fail
      refine(T x L).mono ?_;rintro e m ⟨rfl,H,c⟩;have A:Hid (ca Z w m):=ca.trans F.out c;have g3:GV m:=g2.onl c ab L.lt;clear c T F;go_wp2_with fail
      refine(af m H g3).mono ?_;rintro e D ⟨rfl,Q,C⟩;have R:Hid (ca Z w D):=ca.trans A.out C;clear C af A;go_wp2;refine⟨rfl,?_,R.out⟩;have S:=HE.out;rw[I.out]at S;rw[HR.out,S];refine⟨?_,p,Q⟩;rw[show i+(k+0+1)=p by have:=G.out;omega]
     ·have ad:¬(pk (b9 s p)).toNat<32:=fun h=>aa (.inl h)
      have ae:seqLen (b9 s p)≠0:=fun h=>aa (.inr h)
      have af:=fun J V g'=>Ck Z s p Y X J (by omega) ab V g' ad ae
      have E:p<s.size:=by
       by_cases E:p<s.size
       ·exact E
       ·rw[cU s p (by omega)]at ad;exact absurd (by decide) ad
      have ar:p+seqLen (b9 s p)<=s.size:=by rcases seqLen_le s p with h|h;exact h;exact absurd h ae
      have I:Hid (strF (f+1) (b9 s p)=cL ((b9 s p).take (seqLen (b9 s p))) (seqLen (b9 s p)) (strF f ((b9 s p).drop (seqLen (b9 s p))))):=by
       show strF (f+1) (b9 s p)=_
       have hc:=cg s p E;rw[hc]at u z ad ae ⊢;have ai:s[p]≠34:=by simpa using u
       have al:s[p]≠92:=by simpa using z
       have aH:¬s[p].toNat<32:=ad;rw[strF];simp only[ai,al,aH,L1,ae]
      have HT:Hid ((s.extract p (p+seqLen (b9 s p))).data.toList=(b9 s p).take (seqLen (b9 s p))):=by
       show(s.extract p (p+seqLen (b9 s p))).data.toList=_
       rw[dd,show p+seqLen (b9 s p)-p=seqLen (b9 s p)by omega];rfl
      have HZ:Hid ((s.extract p (p+seqLen (b9 s p))).size<=4):=by
       show(s.extract p (p+seqLen (b9 s p))).size<=4
       have:=lK (b9 s p);simp;omega
      have HL:Hid ((b9 s p).length<f+1):=U;have an:Hid (0<seqLen (b9 s p)):=Nat.pos_of_ne_zero ae;have aj:Hid (p+seqLen (b9 s p)<=s.size):=ar;clear u z aa U O ad ae ar E;generalize seqLen (b9 s p)=n at af I HT HZ an aj;go_wp2_with fail
      refine B.mono ?_;rintro e x ⟨rfl,L,y⟩;have F:Hid (ca Z w x):=ca.trans M.out y;have g2:GV x:=ak.onl y ab ac.lt;have W2:Hid (fL w.heap.size 5 u3 l x):=HW.out.onl y K;clear y B M HW;go_wp2_with fail
      refine(T x L).mono ?_;rintro e m ⟨rfl,H,c⟩;have A:Hid (ca Z w m):=ca.trans F.out c;have g3:GV m:=g2.onl c ab L.lt;have W3:Hid (fL w.heap.size 5 u3 l m):=W2.out.onl c K;clear c T F W2;go_wp2_with fail
      refine(af m H g3).mono ?_;rintro e D ⟨rfl,Q,C⟩;have R:Hid (ca Z w D):=ca.trans A.out C;have W4:Hid (fL w.heap.size 5 u3 l D):=W3.out.onl C K;have ao:=R.out.size;have H4:Hid (CD Z s (p+n) Y X D):=Q;clear C af A W3 Q g3 g2 H L ak ac hG;go_wp2_with (refine Dw rfl (.tmp 22) (.tmp 24) 115 9 rfl 5 i0 JU Kl HI.out aD aI aE w.heap.size _ l (s.extract p (p+n)) rfl rfl (by have:=HA.out;have:=HZ.out;omega) W4.out ao ?_;intro v6 w6 au aB;have W6:Hid _:=au;clear au)
      have h7:=CD.belowB Z s Y X w H4.out K aB;refine⟨⟨k+n,f,l++(s.extract p (p+n)).data.toList,?_,?_,?_,?_,W6.out,?_,je Z w R.out aB⟩,?_⟩
      ·have:=HL.out;have:=an.out;have:=G.out;have:=aj.out;rw[cx]at *;omega
      ·have:=aj.out;have:=G.out;omega
      ·rw[HT.out];simp;omega
      ·rw[HE.out,I.out,iE,cw,HT.out,show i+1+(k+n)=p+n by have:=G.out;omega]
      ·rw[show i+1+(k+n)=p+n by have:=G.out;omega];exact h7
      ·rw[HM.out,gg h7];have:=an.out;have:=aj.out;omega
 ·have hm:=jx Z s i Y X 34 w h hi (by decide) N
  rw[show((34:UInt8).toNat:Int)=34 from rfl]at hm;have HR:Hid (da (b9 s i)=.error 0):=by
   show da (b9 s i)=.error 0
   by_cases aG:i<s.size
   ·rw[cg s i aG]at N ⊢
    have ai:s[i]≠34:=by simpa using N
    rw[da,if_neg ai]
   ·rw[cU s i (by omega)];rfl
  clear N;go_enter func208,ntmps208;go_wp2_with fail
  refine hm.mono ?_;rintro e w1 ⟨rfl,h1,o1⟩;have O1:Hid (ca Z w w1):=o1;clear o1 hm;go_wp2;refine⟨rfl,?_,O1.out⟩;rw[HR.out];exact⟨rfl,i,h1⟩
end
theorem CA{p:Prop}(h:p):Hid p:=h
theorem uZ(l:dj)(e:l≠[])(h:seqLen l=0):¬U8 l:=fun c=>by
 cases c with
 | nil=>exact e rfl
 | cons a r b d _=>
   rw[jf a r b d]at h;exact b (Kt.1 h)
theorem wl(l:dj)(h:seqLen l≠0):U8 l↔U8 (l.drop (seqLen l)):=by
 constructor
 ·intro b
  cases b with
  | nil=>exact absurd rfl h
  | cons a r i g d=>rw[jf a r i g,KS rfl];exact d
 ·intro b
  obtain⟨f,j⟩:=gr l h;have c:(l.take (seqLen l)).length=seqLen l:=by rw[J6];omega
  have:=U8.cons (l.take (seqLen l)) (l.drop (seqLen l)) (fun e=>by rw[e]at c;simp at c;omega) (by rw[f,c]) b;rwa [Mc]at this
def RB(l:dj)(r:Ending):Prop:=∃b,r=.returned (.bool b)/\(b=true↔U8 l)
set_option maxRecDepth 4000 in
set_option maxHeartbeats 2000000 in
theorem uQ(s:dv)(w:Wd)(m:s.size<=140737488351232):Calls prog 43 #[.string s] w fun r i=>RB s.data.toList r/\i=w:=by
 go_enter func43,ntmps43;go_wp2;go_loopw [3] (fun g wr=>∃j:Nat,g=.int .i64 (j:Int)/\j<=s.size/\wr=w/\(U8 (b9 s j)↔U8 s.data.toList)) (fun g _=>s.size-(intOf g).toNat)
 case atStart=>exact⟨0,rfl,KI _,rfl,Iff.rfl⟩
 case round=>
  obtain⟨j,rfl,p,rfl,b⟩:=hrel;by_cases l:j<s.size
  ·have k:(j:Int)<(s.size:Int):=by omega
   have f:=gZ s j wr l m;have d:b9 s j≠[]:=fun e=>by have:=KV List.length e;rw[cx]at this;simp at this;omega
   by_cases c:seqLen (b9 s j)=0
   ·have a:=CA (fun h=>uZ _ d c (b.2 h))
    rw[c]at f;clear b d c;go_wp2_with (go_at_call 80;refine f.mono ?_;rintro e i ⟨rfl,rfl⟩)
    go_ret;exact⟨⟨false,rfl,by simpa using a.out⟩,rfl⟩
   ·have n:=(gr _ c).2
    rw[cx]at n;have a:=CA ((wl _ c).symm.trans b);rw[cw]at a;generalize seqLen (b9 s j)=q at *
    clear b d;go_wp2_with (go_at_call 80;refine f.mono ?_;rintro e i ⟨rfl,rfl⟩)
    go_roundw
    case rel=>exact⟨j+q,by go_num,by omega,(by first|rfl|trivial),a.out⟩
    case measure=>simp[intOf];omega
  ·obtain rfl:j=s.size:=by omega
   have a:=CA (b.1 (by rw[cU s s.size (JQ _)];exact .nil));clear b;go_wp2;go_ret;exact⟨⟨true,rfl,by simpa using a.out⟩,rfl⟩
theorem BM(t:dv)(a:0<t.size):(seqLen (b9 t 0)=0->Utf8.decode t 0=(65533,1))/\(seqLen (b9 t 0)≠0->(Utf8.decode t 0).2=seqLen (b9 t 0)/\¬((Utf8.decode t 0).1=65533/\(Utf8.decode t 0).2=1)):=by
 rw[lw t a,Lib.decode_at];have b:∀k,(t.get! k).toNat<256:=fun k=>(t.get! k).toNat_lt
 exact⟨fun h=>tY t.size _ _ _ _ (by omega) (b 0) (b 1) (b 2) (b 3) h,fun h=>⟨(me t.size _ _ _ _ (by omega) (b 0) (b 1) (b 2) (b 3) h).1,(me t.size _ _ _ _ (by omega) (b 0) (b 1) (b 2) (b 3) h).2.1⟩⟩
theorem s7:∀(n:Nat) (l:dj),l.length<=n->(Lib.validGoD n l=true↔U8 l)
 | 0,l,h=>by
   obtain rfl:l=[]:=MH (by omega);exact⟨fun _=>.nil,fun _=>rfl⟩
 | n+1,l,h=>by
   by_cases b:l=[]
   ·subst b;exact⟨fun _=>.nil,fun _=>rfl⟩
   ·have g:=LL.2 b
    have c:=BM ⟨l.toArray⟩ (by show 0<l.toArray.size;simpa using g);have e:b9 ⟨l.toArray⟩ 0=l:=by simp[b9]
    rw[e]at c;rw[Lib.validGoD,if_neg b];unfold Lib.decodeL;by_cases a:seqLen l=0
    ·rw[c.1 a]
     exact⟨fun h=>by simp at h,fun h=>absurd h (uZ l b a)⟩
    ·obtain⟨f,d⟩:=c.2 a
     rw[if_neg d,f,wl l a];exact s7 n _ (by rw[Kk];omega)
theorem kE(l:dj):Lib.validD l=true↔U8 l:=s7 l.length l (JQ _)
end Go.Proofs.YtihboehpeehlmaaGreatDoor
