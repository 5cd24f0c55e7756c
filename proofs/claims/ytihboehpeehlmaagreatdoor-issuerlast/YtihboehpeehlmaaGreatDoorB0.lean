import Derived.Lib.LaidU8
import Derived.Lib.SmallJoins
import Derived.Test.YtihboehpeehlmaaGreatDoorV1
import Derived.Test.YtihboehpeehlmaaGreatDoorShelfV
set_option maxHeartbeats 2000000
set_option maxRecDepth 4000
set_option linter.unusedVariables false
set_option linter.unusedSimpArgs false
namespace Go.Proofs.YtihboehpeehlmaaGreatDoor.Dg
open Tryz Go.RowKit
theorem ci{p:Prop}(h:p):Hid p:=h
theorem d6{a w:Wd}(h:Below a.heap.size a w)(o:Obj):Below a.heap.size a (w.alloc o):=h.alloc h.size o
theorem dS{a b:Bool}(h:a=b):Ending.returned (.bool a)=.returned (.bool b):=by rw[h]
def fN(z:Int):Bool:=decide ((65<=z/\z<=90)\/(97<=z/\z<=122)\/(48<=z/\z<=57)\/z=45\/z=95)
def l3(l:dj):Bool:=l.all fun c=>fN (c.toNat:Int)
def eP(s:dv):Bool:=decide (1<=s.size/\s.size<=40)&&l3 s.data.toList
theorem pq(s:dv)(k:Nat)(h:k<s.size):l3 (s.data.toList.take (k+1))=(l3 (s.data.toList.take k)&&fN (s[k].toNat:Int)):=by
 have e:s.data.toList.take (k+1)=s.data.toList.take k++[s[k]]:=by
  rw[Ks (by simpa using h)];rfl
 unfold l3;rw[e,List.all_append];simp
theorem qn{s:dv}{k:Nat}(h:l3 (s.data.toList.take k)=false):l3 s.data.toList=false:=by
 unfold l3 at *;have:=Mc k s.data.toList;rw[<-this,List.all_append,h];rfl
theorem wQ{s:dv}{k:Nat}(a:s.size<=k):s.data.toList.take k=s.data.toList:=Kd (by simpa using a)
theorem Fh(z:Int)(n:0<=z)(j:z<=255)(w:Wd):Calls prog 91 #[.int .u8 z] w fun r h=>r=.returned (.bool (fN z))/\h=w:=by
 by_cases e:65<=z/\z<=90
 ·obtain⟨b,k⟩:=e
  rw[show fN z=true by unfold fN;simp;omega];go_enter func91,ntmps91;go_wp2;go_ret;exact⟨rfl,rfl⟩
 ·by_cases g:97<=z/\z<=122
  ·obtain⟨d,i⟩:=g
   rw[show fN z=true by unfold fN;simp;omega];have b:¬z<=90:=by omega
   go_enter func91,ntmps91;go_wp2;go_ret;exact⟨rfl,rfl⟩
  ·by_cases f:48<=z/\z<=57
   ·obtain⟨p,m⟩:=f
    rw[show fN z=true by unfold fN;simp;omega]
    go_enter func91,ntmps91;go_wp2;go_ret;exact⟨rfl,rfl⟩
   ·by_cases c:z=45
    ·subst c
     rw[show fN 45=true by decide];go_enter func91,ntmps91;go_wp2;go_ret;exact⟨rfl,rfl⟩
    ·by_cases a:z=95
     ·subst a
      rw[show fN 95=true by decide];go_enter func91,ntmps91;go_wp2;go_ret;exact⟨rfl,rfl⟩
     ·rw[show fN z=false by unfold fN;simp;omega]
      have o:(z==45)=false:=by simp[c]
      have l:(z==95)=false:=by simp[a]
      go_enter func91,ntmps91;go_wp2;all_goals first|(exfalso;omega)|skip
      all_goals go_ret
      all_goals exact⟨rfl,rfl⟩
theorem Fd(z:Int)(d:0<=z)(b:z<=255)(w:Wd):Calls prog 95 #[.int .u8 z] w fun r a=>r=.returned (.bool (decide (48<=z/\z<=57)))/\a=w:=by
 by_cases c:48<=z
 ·by_cases e:z<=57
  ·rw[show decide (48<=z/\z<=57)=true by simp;omega]
   go_enter func95,ntmps95;go_wp2;go_ret;exact⟨rfl,rfl⟩
  ·rw[show decide (48<=z/\z<=57)=false by simp;omega]
   go_enter func95,ntmps95;go_wp2;go_ret;exact⟨rfl,rfl⟩
 ·rw[show decide (48<=z/\z<=57)=false by simp;omega]
  go_enter func95,ntmps95;go_wp2;go_ret;exact⟨rfl,rfl⟩
theorem I5(s:dv)(w:Wd)(u:s.size<=4611686018427387904):Calls prog 60 #[.string s] w fun r a=>r=.returned (.bool (eP s))/\a=w:=by
 have l:=fun z t c a=>Fh z t c a
 by_cases c:1<=s.size
 ·by_cases n:s.size<=40
  ·have e:eP s=l3 s.data.toList:=by unfold eP;simp[c,n]
   rw[e];have i:¬(s.size:Int)<1:=by omega
   have o:¬(40:Int)<(s.size:Int):=by omega
   have p:=ci l;go_enter func60,ntmps60;go_wp2
   go_loopw [14] (fun f wr=>∃k:Nat,k<=s.size/\f=.int .i64 (k:Int)/\wr=w/\Hid (l3 (s.data.toList.take k)=true)) (fun f _=>s.size-(intOf f).toNat)
   case atStart=>exact⟨0,by omega,rfl,rfl,rfl⟩
   case round=>
    obtain⟨k,l,rfl,rfl,d⟩:=hrel;by_cases j:k<s.size
    ·have q:(k:Int)<(s.size:Int):=by omega
     have v:=s[k].toNat_lt;obtain⟨b,g⟩:∃b,fN (s[k].toNat:Int)=b:=⟨_,rfl⟩;have h:=fun a=>p.out (s[k].toNat:Int) (by omega) (by omega) a
     rw[g]at h;have m:=ci g;go_wp2_with fail
     refine(h _).mono ?_;rintro r x ⟨rfl,hw⟩;rw[hw];cases b with
     | true=>
       go_wp2
       go_roundw
       case rel=>exact⟨k+1,by omega,by go_num,trivial,by rw[pq s k j,d.out,m.out];exact rfl⟩
       case measure=>simp[intOf];omega
     | false=>
       go_wp2;go_ret;refine⟨dS ?_,rfl⟩;rw[qn (k:=k+1) (by rw[pq s k j,d.out,m.out];rfl)]
    ·have q:¬(k:Int)<(s.size:Int):=by omega
     go_wp2;go_ret;refine⟨dS ?_,rfl⟩;have:=d.out;rw[wQ (by omega)]at this;exact this.symm
  ·have e:eP s=false:=by unfold eP;simp[n]
   rw[e];have i:¬(s.size:Int)<1:=by omega
   go_enter func60,ntmps60;go_wp2;go_ret;exact⟨rfl,rfl⟩
 ·have e:eP s=false:=by unfold eP;simp[c]
  rw[e]
  go_enter func60,ntmps60;go_wp2;go_ret;exact⟨rfl,rfl⟩
theorem Jx(s:dv)(w:Wd)(O:s.size<=4611686018427387904):Calls prog 83 #[.string s] w fun r l=>r=.returned (.bool (eP s))/\l=w:=by
 have m:=fun z I t l=>Fd z I t l
 have E:=ci m;clear m;go_enter func83,ntmps83;go_wp2
 go_loopw [3] (fun n wr=>∃k:Nat,k<=s.size/\n=.int .i64 (k:Int)/\wr=w/\Hid (l3 (s.data.toList.take k)=true)) (fun n _=>s.size-(intOf n).toNat)
 case atStart=>exact⟨0,by omega,rfl,rfl,rfl⟩
 case round=>
  obtain⟨k,m,rfl,rfl,c⟩:=hrel;by_cases G:k<s.size
  ·have v:(k:Int)<(s.size:Int):=by omega
   have D:=s[k].toNat_lt;have d:=ci (pq s k G);go_wp2_with fail
   have y:(0:Int)<=(s[k].toNat:Int):=by omega
   have C:(s[k].toNat:Int)<=255:=by omega
   clear D;generalize (s[k].toNat:Int)=z at *;refine(E.out z y C _).mono ?_;rintro r H ⟨rfl,hw⟩;rw[hw];clear hw H;by_cases b:48<=z/\z<=57
   ·rw[Mr b]
    have a:Hid (fN z=true):=by unfold fN;exact Mr (.inr (.inr (.inl b)))
    go_wp2_with fail
    go_roundw
    case rel=>exact⟨k+1,by omega,by go_num,trivial,by rw[d.out,c.out,a.out];exact rfl⟩
    case measure=>simp[intOf];omega
   ·rw[Lt b]
    by_cases f:65<=z/\z<=90
    ·obtain⟨q,o⟩:=f
     have a:Hid (fN z=true):=by unfold fN;exact Mr (.inl ⟨q,o⟩)
     clear b;go_wp2_with fail
     go_roundw
     case rel=>exact⟨k+1,by omega,by go_num,trivial,by rw[d.out,c.out,a.out];exact rfl⟩
     case measure=>simp[intOf];omega
    ·by_cases g:97<=z/\z<=122
     ·obtain⟨x,F⟩:=g
      have a:Hid (fN z=true):=by unfold fN;exact Mr (.inr (.inl ⟨x,F⟩))
      clear b f;go_wp2_with fail
      go_roundw
      case rel=>exact⟨k+1,by omega,by go_num,trivial,by rw[d.out,c.out,a.out];exact rfl⟩
      case measure=>simp[intOf];omega
     ·by_cases h:z=45
      ·subst h
       have a:Hid (fN 45=true):=ci (by decide);clear b f g;go_wp2_with fail
       go_roundw
       case rel=>exact⟨k+1,by omega,by go_num,trivial,by rw[d.out,c.out,a.out];exact rfl⟩
       case measure=>simp[intOf];omega
      ·by_cases i:z=95
       ·subst i
        have a:Hid (fN 95=true):=ci (by decide);clear b f g h;go_wp2_with fail
        go_roundw
        case rel=>exact⟨k+1,by omega,by go_num,trivial,by rw[d.out,c.out,a.out];exact rfl⟩
        case measure=>simp[intOf];omega
       ·have a:Hid (fN z=false):=by unfold fN;exact Lt (by omega)
        have P:(z != 45)=true:=by simp[h]
        have N:(z != 95)=true:=by simp[i]
        clear h i;by_cases K:65<=z
        ·have J:¬z<=90:=by omega
         have S:=Lt J;by_cases u:97<=z
         ·have A:¬z<=122:=by omega
          have L:=Lt A;clear b f g;go_wp2;go_ret;refine⟨dS ?_,rfl⟩;unfold eP;rw[qn (k:=k+1) (by rw[d.out,c.out,a.out];rfl)];simp
         ·clear b f g
          go_wp2;go_ret;refine⟨dS ?_,rfl⟩;unfold eP;rw[qn (k:=k+1) (by rw[d.out,c.out,a.out];rfl)];simp
        ·have u:¬97<=z:=by omega
         clear b f g;go_wp2;go_ret;refine⟨dS ?_,rfl⟩;unfold eP;rw[qn (k:=k+1) (by rw[d.out,c.out,a.out];rfl)];simp
  ·have v:¬(k:Int)<(s.size:Int):=by omega
   have e:eP s=decide (1<=s.size/\s.size<=40):=by
    unfold eP;have:=c.out;rw[wQ (by omega)]at this;rw[this,Bool.and_true]
   have j:=ci e;clear e;by_cases t:1<=s.size
   ·by_cases R:s.size<=40
    ·have p:(1:Int)<=(s.size:Int):=by omega
     have B:(s.size:Int)<=40:=by omega
     go_wp2;go_ret;exact⟨dS (by rw[j.out];simp;omega),rfl⟩
    ·have p:(1:Int)<=(s.size:Int):=by omega
     have B:¬(s.size:Int)<=40:=by omega
     go_wp2;go_ret;exact⟨dS (by rw[j.out];simp;omega),rfl⟩
   ·have p:¬(1:Int)<=(s.size:Int):=by omega
    go_wp2;go_ret;exact⟨dS (by rw[j.out];simp;omega),rfl⟩
def sizeN(alg:Int):Int:=if alg=256 then 32 else if alg=384 then 48 else if alg=512 then 64 else 0
theorem sW(a:Int):0<=sizeN a/\sizeN a<=64:=by
 unfold sizeN;repeat' split
 all_goals omega
theorem Hi(a:Int)(w:Wd):Calls prog 92 #[.int .i64 a] w fun r e=>r=.returned (.int .i64 (sizeN a))/\e=w:=by
 by_cases b:a=256
 ·subst b
  rw[show sizeN 256=32 from rfl];go_enter func92,ntmps92;go_wp2;go_ret;exact⟨rfl,rfl⟩
 ·by_cases d:a=384
  ·subst d
   rw[show sizeN 384=48 from rfl];go_enter func92,ntmps92;go_wp2;go_ret;exact⟨rfl,rfl⟩
  ·by_cases c:a=512
   ·subst c
    rw[show sizeN 512=64 from rfl];go_enter func92,ntmps92;go_wp2;go_ret;exact⟨rfl,rfl⟩
   ·rw[show sizeN a=0 by unfold sizeN;simp[b,d,c]]
    go_enter func92,ntmps92;go_wp2;go_ret;exact⟨rfl,rfl⟩
theorem yx(a:Int)(w:Wd):Calls prog 52 #[.int .i64 a] w fun r e=>r=.returned (.int .i64 (sizeN a))/\e=w:=by
 by_cases b:a=256
 ·subst b
  rw[show sizeN 256=32 from rfl];go_enter func52,ntmps52;go_wp2;go_ret;exact⟨rfl,rfl⟩
 ·by_cases d:a=384
  ·subst d
   rw[show sizeN 384=48 from rfl];go_enter func52,ntmps52;go_wp2;go_ret;exact⟨rfl,rfl⟩
  ·by_cases c:a=512
   ·subst c
    rw[show sizeN 512=64 from rfl];go_enter func52,ntmps52;go_wp2;go_ret;exact⟨rfl,rfl⟩
   ·rw[show sizeN a=0 by unfold sizeN;simp[b,d,c]]
    have f:(a==384)=false:=by simp[d]
    have h:(a==512)=false:=by simp[c]
    go_enter func52,ntmps52;go_wp2;go_ret;exact⟨rfl,rfl⟩
def fx(alg:Int)(key:dv):Bool:=decide (0<sizeN alg/\sizeN alg<=(key.size:Int)/\key.size<=200)
theorem Ib(b:Int)(a:dv)(w:Wd)(h:a.size<=4611686018427387904):Calls prog 61 #[.string a,.int .i64 b] w fun r d=>r=.returned (.bool (fx b a))/\d=w:=by
 have e:=fun d=>Hi b d
 have f:=sW b;have c:Hid (fx b a=decide (0<sizeN b/\sizeN b<=(a.size:Int)/\a.size<=200)):=by unfold fx;exact rfl
 generalize sizeN b=q at *;obtain⟨j,m⟩:=f;go_enter func61,ntmps61;go_wp2_with fail
 refine(e _).mono ?_;rintro r k ⟨rfl,hw⟩;rw[hw];by_cases l:0<q
 ·by_cases i:q<=(a.size:Int)
  ·by_cases g:(a.size:Int)<=200
   ·go_wp2
    go_ret;exact⟨dS (by rw[c.out];simp;omega),rfl⟩
   ·go_wp2
    go_ret;exact⟨dS (by rw[c.out,Lt (p:=0<q/\q<=(a.size:Int)/\a.size<=200) (by omega)];first|done|(simp;omega)),rfl⟩
  ·go_wp2
   go_ret;exact⟨dS (by rw[c.out];simp;omega),rfl⟩
 ·go_wp2
  go_ret;exact⟨dS (by rw[c.out];simp;omega),rfl⟩
theorem Cz(b:Int)(a:dv)(w:Wd)(j:a.size<=4611686018427387904):Calls prog 37 #[.int .i64 b,.string a] w fun r d=>r=.returned (.bool (fx b a))/\d=w:=by
 have e:=fun d=>yx b d
 have h:=sW b;have f:Hid (fx b a=decide (0<sizeN b/\sizeN b<=(a.size:Int)/\a.size<=200)):=by unfold fx;exact rfl
 generalize sizeN b=q at *;obtain⟨l,n⟩:=h;by_cases m:0<q
 ·by_cases k:q<=(a.size:Int)
  ·by_cases i:(a.size:Int)<=200
   ·go_enter func37,ntmps37
    go_wp2_with (go_at_call 52;refine(e _).mono ?_;rintro g d ⟨rfl,hw⟩;have c:=hw.symm;subst c)
    go_ret;exact⟨dS (by rw[f.out];simp;omega),rfl⟩
   ·go_enter func37,ntmps37
    go_wp2_with (go_at_call 52;refine(e _).mono ?_;rintro g d ⟨rfl,hw⟩;have c:=hw.symm;subst c)
    go_ret;exact⟨dS (by rw[f.out,Lt (p:=0<q/\q<=(a.size:Int)/\a.size<=200) (by omega)];first|done|(simp;omega)),rfl⟩
  ·go_enter func37,ntmps37
   go_wp2_with (go_at_call 52;refine(e _).mono ?_;rintro g d ⟨rfl,hw⟩;have c:=hw.symm;subst c)
   go_ret;exact⟨dS (by rw[f.out];simp;omega),rfl⟩
 ·go_enter func37,ntmps37
  go_wp2_with (go_at_call 52;refine(e _).mono ?_;rintro g d ⟨rfl,hw⟩;have c:=hw.symm;subst c)
  go_ret;exact⟨dS (by rw[f.out];simp;omega),rfl⟩
def nameB(alg:Int):dv:=if alg=256 then⟨#[72,83,50,53,54]⟩else if alg=384 then⟨#[72,83,51,56,52]⟩else if alg=512 then⟨#[72,83,53,49,50]⟩else⟨#[]⟩
structure WG (w:Wd):Prop where
 g0:w.cell? ⟨2,0,none⟩=some (.int .i64 256)
 g1:w.cell? ⟨2,1,none⟩=some (.string ⟨#[72,83,50,53,54]⟩)
 g2:w.cell? ⟨2,2,none⟩=some (.int .i64 384)
 g3:w.cell? ⟨2,3,none⟩=some (.string ⟨#[72,83,51,56,52]⟩)
 g4:w.cell? ⟨2,4,none⟩=some (.int .i64 512)
 g5:w.cell? ⟨2,5,none⟩=some (.string ⟨#[72,83,53,49,50]⟩)
theorem cl{w w':Wd}(h:Below w.heap.size w w'){g j:Nat}{u:Va}(a:w.cell? ⟨g,j,none⟩=some u):w'.cell? ⟨g,j,none⟩=some u:=by
 by_cases b:g<w.heap.size
 ·have:=h.block g b
  simp only[World.cell?]at a ⊢;rw[this];exact a
 ·have:w.heap[g]?=none:=Km (by omega)
  simp[World.cell?,this]at a
theorem WG.below{w w':Wd}(h:WG w)(a:Below w.heap.size w w'):WG w':=
 ⟨cl a h.g0,cl a h.g1,cl a h.g2,cl a h.g3,cl a h.g4,cl a h.g5⟩
theorem jA{P:Program}{c:Array Oper}{b:List Oper}{o:Oper}{a:Act}{Q:Exit->Act->Wd->Prop}{w:Wd}(d:o.guard=none)(t:Nat)(x y:Operand)(e:o.op=.index t x y)(v:Va)(f:(Instr.index t (a.eval x) (a.eval y)).run P w=.ok v w)(h:wpList P c Q b (a.put o.dst v) w):wpList P c Q (o::b) a w:=by
 refine LC d fun K g=>?_
 unfold Oper.wp execOp;simp only[e,K6,Li,f,KP];exact g _ _ h
def x8:Array Value:= #[.int .i64 256,.string ⟨#[72,83,50,53,54]⟩,.int .i64 384,.string ⟨#[72,83,51,56,52]⟩,.int .i64 512,.string ⟨#[72,83,53,49,50]⟩]
theorem DB(w:Wd):(Instr.index 146 (.agg x8) (.int .i64 0)).run prog w=.ok (.agg #[.int .i64 256,.string ⟨#[72,83,50,53,54]⟩]) w:=by kernel_rfl
theorem CK(w:Wd):(Instr.index 146 (.agg x8) (.int .i64 1)).run prog w=.ok (.agg #[.int .i64 384,.string ⟨#[72,83,51,56,52]⟩]) w:=by kernel_rfl
theorem Du(w:Wd):(Instr.index 146 (.agg x8) (.int .i64 2)).run prog w=.ok (.agg #[.int .i64 512,.string ⟨#[72,83,53,49,50]⟩]) w:=by kernel_rfl
def Ga(alg:Int)(w:Wd)(iv:Va)(wr:Wd):Prop:=
 (iv=.int .i64 0\/(iv=.int .i64 1/\alg≠256)\/(iv=.int .i64 2/\alg≠256/\alg≠384)\/(iv=.int .i64 3/\alg≠256/\alg≠384/\alg≠512))/\Below w.heap.size w wr
theorem pv(a:Int)(w:Wd)(l:WG w):Calls prog 59 #[.int .i64 a] w fun r o=>r=.returned (.string (nameB a))/\Below w.heap.size w o:=by
 obtain⟨t,s,q,p,u,v⟩:=l;go_enter func59,ntmps59;go_wp2
 go_loopw [6] (fun i wr=>Ga a w i wr) (fun i _=>3-(intOf i).toNat)
 case atStart=>exact⟨.inl rfl,JI _ _⟩
 case round=>
  obtain⟨rfl|⟨rfl,f⟩|⟨rfl,f,j⟩|⟨rfl,f,j,m⟩,g⟩:=hrel
  ·have b:=ci g
   by_cases c:a=256
   ·subst c
    go_wp2_with (refine jA rfl 146 _ _ rfl _ (DB _) ?_)
    go_ret;exact⟨rfl,d6 b.out _⟩
   ·have k:(256==a)=false:=by simp;omega
    have d:=ci c;go_wp2_with (refine jA rfl 146 _ _ rfl _ (DB _) ?_)
    go_roundw
    case rel=>exact⟨.inr (.inl ⟨rfl,d.out⟩),d6 b.out _⟩
    case measure=>simp[intOf]
  ·have b:=ci g
   have h:=ci f;by_cases c:a=384
   ·subst c
    go_wp2_with (refine jA rfl 146 _ _ rfl _ (CK _) ?_)
    go_ret;exact⟨rfl,d6 b.out _⟩
   ·have k:(384==a)=false:=by simp;omega
    have d:=ci c;go_wp2_with (refine jA rfl 146 _ _ rfl _ (CK _) ?_)
    go_roundw
    case rel=>exact⟨.inr (.inr (.inl ⟨rfl,h.out,d.out⟩)),d6 b.out _⟩
    case measure=>simp[intOf]
  ·have b:=ci g
   have h:=ci f;have n:=ci j;by_cases c:a=512
   ·subst c
    go_wp2_with (refine jA rfl 146 _ _ rfl _ (Du _) ?_)
    go_ret;exact⟨rfl,d6 b.out _⟩
   ·have k:(512==a)=false:=by simp;omega
    have d:=ci c;go_wp2_with (refine jA rfl 146 _ _ rfl _ (Du _) ?_)
    go_roundw
    case rel=>exact⟨.inr (.inr (.inr ⟨rfl,h.out,n.out,d.out⟩)),d6 b.out _⟩
    case measure=>simp[intOf]
  ·have b:=ci g
   have e:Hid (nameB a=⟨#[]⟩):=by unfold nameB;rw[if_neg f,if_neg j,if_neg m];exact rfl
   go_wp2;go_ret;exact⟨by rw[e.out];rfl,b.out⟩
def keyErr(alg:Int)(kid key:dv):Int:=if sizeN alg=0 then 9 else if eP kid=false then 11 else if fx alg key=false then 10 else 0
theorem yi(a:Int):nameB a=⟨#[]⟩↔sizeN a=0:=by
 unfold nameB sizeN;repeat' split
 all_goals simp
theorem nx(a:Int)(c d:dv)(w:Wd)(A:WG w)(H:c.size<=4611686018427387904)(l:d.size<=4611686018427387904):Calls prog 28 #[.agg #[.int .i64 a,.string c,.string d]] w fun r E=>r=.returned (.int .i64 (keyErr a c d))/\Below w.heap.size w E:=by
 have B:=fun b (g:Below w.heap.size w b)=>pv a b (A.below g)
 have C:=fun b=>I5 c b H
 have z:=fun b=>Ib a d b l
 have v:=yi a;have n:Hid (keyErr a c d=if sizeN a=0 then 9 else if eP c=false then 11 else if fx a d=false then 10 else 0):=by unfold keyErr;exact rfl
 have s:=ci B;have G:=ci C;have D:=ci z;have y:=ci v;clear B C z v A;by_cases i:sizeN a=0
 ·have e:=y.out.2 i
  have o:=s.out;rw[e]at o;have F:=ci o;have j:=ci i;clear e o s i;go_enter func28,ntmps28;go_wp2_with fail
  refine(F.out _ (d6 (JI _ _) _)).mono ?_;rintro r b ⟨rfl,f⟩;have k:=ci ((d6 (JI w.heap.size w) _).trans (f.mono (by simp)));clear f;go_wp2;go_ret;exact⟨by rw[n.out,if_pos j.out];rfl,k.out⟩
 ·have J:((nameB a).toList==[])=false:=by
   rw[JJ,Lc];intro l;exact i (y.out.1 (by
    generalize nameB a=q at l;cases q;simp at l;simp[l]))
  have j:=ci i;clear i;generalize nameB a=I at *;go_enter func28,ntmps28;go_wp2_with fail
  refine(s.out _ (d6 (JI _ _) _)).mono ?_;rintro r b ⟨rfl,f⟩;have M:b.cell? ⟨w.heap.size,0,none⟩=some (.int .i64 a):=cl f (by simp);have L:b.cell? ⟨w.heap.size,1,none⟩=some (.string c):=cl f (by simp);have K:b.cell? ⟨w.heap.size,2,none⟩=some (.string d):=cl f (by simp);have k:=ci ((d6 (JI w.heap.size w) _).trans (f.mono (by simp)));clear f;go_wp2_with fail
  refine(G.out _).mono ?_;rintro r p ⟨rfl,hw⟩;rw[hw];clear hw p;by_cases g:eP c=false
  ·rw[g]
   have m:=ci g;clear g;go_wp2;go_ret;exact⟨by rw[n.out,if_neg j.out,if_pos m.out];rfl,k.out⟩
  ·have x:eP c=true:=by simpa using g
   rw[x];have m:=ci g;clear g x;go_wp2_with fail
   refine(D.out _).mono ?_;rintro r p ⟨rfl,hw⟩;rw[hw];clear hw p;by_cases h:fx a d=false
   ·rw[h]
    have t:=ci h;clear h;go_wp2;go_ret;exact⟨by rw[n.out,if_neg j.out,if_neg m.out,if_pos t.out];rfl,k.out⟩
   ·have u:fx a d=true:=by simpa using h
    rw[u];have t:=ci h;clear h u;go_wp2;go_ret;exact⟨by rw[n.out,if_neg j.out,if_neg m.out,if_neg t.out];rfl,k.out⟩
theorem zw(a:Int)(b c:dv)(w:Wd)(s:b.size<=4611686018427387904)(x:c.size<=4611686018427387904):Calls prog 46 #[.int .i64 a,.string b,.string c] w fun r z=>r=.returned (.int .i64 (keyErr a b c))/\z=w:=by
 have t:=fun d=>yx a d
 have u:=fun d=>Jx b d s
 have p:=fun d=>Cz a c d x
 have g:Hid (keyErr a b c=if sizeN a=0 then 9 else if eP b=false then 11 else if fx a c=false then 10 else 0):=by unfold keyErr;exact rfl
 have o:=ci u;have v:=ci p;generalize sizeN a=q at *;have n:=ci t;go_enter func46,ntmps46;go_wp2_with fail
 refine(n.out _).mono ?_;rintro r l ⟨rfl,hw⟩;rw[hw];by_cases j:q=0
 ·subst j
  go_wp2;go_ret;exact⟨by rw[g.out,if_pos trivial];rfl,rfl⟩
 ·have A:(q==0)=false:=by simp[j]
  have i:=ci j;go_wp2_with fail
  refine(o.out _).mono ?_;rintro r l ⟨rfl,hw⟩;rw[hw];by_cases h:eP b=false
  ·rw[h]
   have e:=ci h;go_wp2;go_ret;exact⟨by rw[g.out,if_neg i.out,if_pos e.out];rfl,rfl⟩
  ·have m:eP b=true:=by simpa using h
   rw[m];have e:=ci h;go_wp2_with fail
   refine(v.out _).mono ?_;rintro r l ⟨rfl,hw⟩;rw[hw];by_cases f:fx a c=false
   ·rw[f]
    have k:=ci f;go_wp2;go_ret;exact⟨by rw[g.out,if_neg i.out,if_neg e.out,if_pos k.out];rfl,rfl⟩
   ·have y:fx a c=true:=by simpa using f
    rw[y];have k:=ci f;go_wp2;go_ret;exact⟨by rw[g.out,if_neg i.out,if_neg e.out,if_neg k.out];rfl,rfl⟩
theorem Fr(W:Wd)(a:UInt8):Sem.run prog (convert 115 9 (.slice (some ⟨W.heap.size,0,none⟩) 1 1)) (W.alloc (.cells #[.int .u8 (a.toNat:Int)] 5))=.ok (.string ⟨#[a]⟩) (W.alloc (.cells #[.int .u8 (a.toNat:Int)] 5)):=by
 have h:OwnB W.heap.size 5 (.slice (some ⟨W.heap.size,0,none⟩) 1 1) [a] (W.alloc (.cells #[.int .u8 (a.toNat:Int)] 5)):=.inr ⟨W.heap.size,1,_,(0,0),rfl,JQ _,JK _ _,.inl (KI _),JQ _,by unfold maxLen;omega,by simp,by simp[cj]⟩;exact h.str JU KY Kl
section
attribute [local go_sem] Fr
theorem xN(x:Int)(w:Wd)(c:UInt8)(f:0<=x)(b:x<10)(g:48+x=(c.toNat:Int)):Calls prog 53 #[.int .i64 x] w fun e a=>e=.returned (.string ⟨#[c]⟩)/\Below w.heap.size w a:=by
 go_enter func53,ntmps53;go_wp2;go_ret;exact⟨rfl,d6 (JI _ _) _⟩
theorem mp(x y:Int)(w:Wd)(c:UInt8)(T:dv)(m:10<=x)(l:x<=9223372036854775807)(n:x/10=y)(k:48+x%10=(c.toNat:Int))(g:T.size<=1000)(d:∀w,Calls prog 53 #[.int .i64 y] w fun e a=>e=.returned (.string T)/\Below w.heap.size w a):Calls prog 53 #[.int .i64 x] w fun e a=>e=.returned (.string (T++⟨#[c]⟩))/\Below w.heap.size w a:=by
 go_enter func53,ntmps53;go_wp2_with fail
 refine(d _).mono ?_;rintro e j ⟨rfl,f⟩;have b:Hid _:=f;go_wp2;go_ret;exact⟨rfl,(b.out).alloc b.out.size _⟩
end
theorem Iz(w:Wd):Calls prog 53 #[.int .i64 2] w fun r a=>r=.returned (.string ⟨#[50]⟩)/\Below w.heap.size w a:=
 xN 2 w 50 (by omega) (by omega) (by decide)
theorem FD(w:Wd):Calls prog 53 #[.int .i64 25] w fun r a=>r=.returned (.string ⟨#[50,53]⟩)/\Below w.heap.size w a:=
 mp 25 2 w 53 ⟨#[50]⟩ (by omega) (by omega) (by decide) (by decide) (by decide) Iz
theorem Da(w:Wd):Calls prog 53 #[.int .i64 256] w fun r a=>r=.returned (.string ⟨#[50,53,54]⟩)/\Below w.heap.size w a:=
 mp 256 25 w 54 ⟨#[50,53]⟩ (by omega) (by omega) (by decide) (by decide) (by decide) FD
theorem Ic(w:Wd):Calls prog 53 #[.int .i64 3] w fun r a=>r=.returned (.string ⟨#[51]⟩)/\Below w.heap.size w a:=
 xN 3 w 51 (by omega) (by omega) (by decide)
theorem Gy(w:Wd):Calls prog 53 #[.int .i64 38] w fun r a=>r=.returned (.string ⟨#[51,56]⟩)/\Below w.heap.size w a:=
 mp 38 3 w 56 ⟨#[51]⟩ (by omega) (by omega) (by decide) (by decide) (by decide) Ic
theorem En(w:Wd):Calls prog 53 #[.int .i64 384] w fun r a=>r=.returned (.string ⟨#[51,56,52]⟩)/\Below w.heap.size w a:=
 mp 384 38 w 52 ⟨#[51,56]⟩ (by omega) (by omega) (by decide) (by decide) (by decide) Gy
theorem Iw(w:Wd):Calls prog 53 #[.int .i64 5] w fun r a=>r=.returned (.string ⟨#[53]⟩)/\Below w.heap.size w a:=
 xN 5 w 53 (by omega) (by omega) (by decide)
theorem GF(w:Wd):Calls prog 53 #[.int .i64 51] w fun r a=>r=.returned (.string ⟨#[53,49]⟩)/\Below w.heap.size w a:=
 mp 51 5 w 49 ⟨#[53]⟩ (by omega) (by omega) (by decide) (by decide) (by decide) Iw
theorem EW(w:Wd):Calls prog 53 #[.int .i64 512] w fun r a=>r=.returned (.string ⟨#[53,49,50]⟩)/\Below w.heap.size w a:=
 mp 512 51 w 50 ⟨#[53,49]⟩ (by omega) (by omega) (by decide) (by decide) (by decide) GF
theorem Et(b:Int)(w:Wd)(e:b=256\/b=384\/b=512):Calls prog 57 #[.int .i64 b] w fun r f=>r=.returned (.string (nameB b))/\Below w.heap.size w f:=by
 rcases e with rfl|rfl|rfl
 ·have h:=fun a=>Da a
  go_enter func57,ntmps57;go_wp2_with fail
  refine(h _).mono ?_;rintro r a ⟨rfl,c⟩;have d:=ci c;go_wp2;go_ret;exact⟨rfl,d.out⟩
 ·have h:=fun a=>En a
  go_enter func57,ntmps57;go_wp2_with fail
  refine(h _).mono ?_;rintro r a ⟨rfl,c⟩;have d:=ci c;go_wp2;go_ret;exact⟨rfl,d.out⟩
 ·have h:=fun a=>EW a
  go_enter func57,ntmps57;go_wp2_with fail
  refine(h _).mono ?_;rintro r a ⟨rfl,c⟩;have d:=ci c;go_wp2;go_ret;exact⟨rfl,d.out⟩
open Go.ChangeShapes Go.WideShapes Go.ChangeAt Go.Joins Go.Deep
theorem vy:prog.globalNamed "notary/token.ways" =some 2:=by kernel_rfl
theorem uo{w:Wd}{t:Nat}{e:rt}{p:List MemPlace}{a:Int}{s:dj}(u:e.length=2)(h:DataW.trod (fun _=>()) prog w 0 (fun _=>true) false t 145 e=some (.agg [.lit (.int .i64 a),.lit (.string s)],p)):e=[.int .i64 a,.string ⟨s.toArray⟩]:=by
 obtain⟨r,q,n,b,_,m,k⟩:=trod_struct2 underlying145 h;match e,u with
 | [c0,c1],_=>
   have o:DataW.trod (fun _=>()) prog w 0 (fun _=>true) false n 3 [c0]=some r:=by simpa [show prog.cellsOf 3=1 by kernel_rfl]using m
   have j:DataW.trod (fun _=>()) prog w 0 (fun _=>true) false n 9 [c1]=some q:=by simpa [show prog.cellsOf 9=1 by kernel_rfl]using k
   obtain⟨v,g,i,_⟩:=Nr M5 o;obtain⟨x,f,l,_⟩:=DataW.trod_string Kl j;simp only[List.cons.injEq,and_true]at g f;subst g f;simp only[Lh,i,l]at b;obtain⟨b,_⟩:=b;injection b with b;injection b with d b;injection b with c _;injection d with d;injection d with _ d;injection c with c;injection c with c;rw[d,c]
theorem Ha{W:Wd}(h:Lib.VarReads prog W "notary/token.ways" (.agg [.agg [.lit (.int .i64 256),.lit (.string [72,83,50,53,54])],.agg [.lit (.int .i64 384),.lit (.string [72,83,51,56,52])],.agg [.lit (.int .i64 512),.lit (.string [72,83,53,49,50])]])):WG W:=by
 obtain⟨g,t,G,N,p,D,F,b,C⟩:=h;obtain rfl:=LJ (vy.symm.trans D);obtain rfl:t=146:=LJ (F.symm.trans (show(prog.globals[2]?).map (·.type)=some 146 by kernel_rfl));obtain⟨xs,m,_,w,i,B,f⟩:=DataW.trod_array underlying146 C;have E:prog.cellsOf 145=2:=by kernel_rfl
 have H:prog.cellsOf 146=6:=by kernel_rfl
 rw[H]at i;simp only[Lh]at w;have a:=w.1;injection a with a;match xs,B with
 | [s,u,A],_=>
   simp only[JW,Ko]at a;injection a with r a;injection a with j a;injection a with x _;have y:=f 0 (by omega);have l:=f 1 (by omega);have z:=f 2 (by omega);obtain⟨s,K⟩:=s;obtain⟨u,J⟩:=u;obtain⟨A,P⟩:=A;simp only at r j x;subst r j x;obtain⟨L⟩:=G;simp only at i;match L,i with
   | [c0,c1,c2,c3,c4,c5],_=>
     simp only[E]at y l z;have v:=uo (by simp) y;have n:=uo (by simp) l;have q:=uo (by simp) z;simp at v n q;obtain⟨rfl,rfl⟩:=v;obtain⟨rfl,rfl⟩:=n;obtain⟨rfl,rfl⟩:=q;unfold World.var? at b;rw[vy]at b;simp only[Option.bind_some]at b;have d:∀k,W.cell? ⟨2,k,none⟩=(#[Value.int .i64 256,.string ⟨#[72,83,50,53,54]⟩,.int .i64 384,.string ⟨#[72,83,51,56,52]⟩,.int .i64 512,.string ⟨#[72,83,53,49,50]⟩]:Array Value)[k]?:=by
      intro k;cases e:W.heap[2]? with
      | none=>simp[e]at b
      | some o=>
        cases o with
        | cells c t O=>
          simp[e]at b;simp[World.cell?,e,b]
        | map I M=>simp[e]at b
        | _=>simp[e]at b
     exact⟨d 0,d 1,d 2,d 3,d 4,d 5⟩
theorem cE{p:Prop}(h:p):Hid p:=h
def nameOk(s:dv):Bool:=decide (1<=s.size)&&decide (s.size<=100)&&Lib.validD s.data.toList
def newE(iss:dv)(ttl:Int):Int:=if nameOk iss=false then 2 else if ttl<1\/1000000000<ttl then 3 else 0
theorem qT(s:dv):s.toList.isEmpty=decide (s.size=0):=by
 rw[Lc];have:s.data.toList.length=s.size:=by rw[Mx];rfl
 cases h:s.data.toList with
 | nil=>rw[h]at this;simp at this;simp[<-this]
 | cons c r=>rw[h]at this;simp at this;simp[show ¬s.size=0 by omega]
theorem D2(s:dv):s.toList=[]↔s.size=0:=by
 rw[<-List.isEmpty_iff,qT];simp
theorem FY(s:dv)(w:Wd)(p:s.size<=140737488351232)(j:Lib.Utf8Tabs 0 1 w):Calls prog 19 #[.string s] w fun r f=>r=.returned (.bool (nameOk s))/\Below w.heap.size w f:=by
 have h:Calls prog 50 #[.string s] w fun e f=>e=.returned (.bool (Lib.validD s.data.toList))/\Below w.heap.size w f:=Any.utf8_ValidString laysValid s w (by omega) j
 have a:Hid (nameOk s=(decide (1<=s.size)&&decide (s.size<=100)&&Lib.validD s.data.toList)):=rfl;generalize nameOk s=N at *;have c:=qT s;have b:=D2 s;generalize Lib.validD s.data.toList=V at *;by_cases d:s.size=0
 ·have k:s.toList=[]:=b.2 d
  obtain rfl:N=false:=by rw[a.out];simp[d]
  clear a c b h;go_enter func19,ntmps19;go_wp2_with fail
  go_ret;exact⟨rfl,JI _ _⟩
 ·have k:s.toList.isEmpty=false:=by rw[c];simp[d]
  by_cases g:s.size<=100
  ·have n:(s.size:Int)<=100:=by omega
   obtain rfl:N=V:=by rw[a.out];simp[g,show 1<=s.size by omega]
   clear a c b;go_enter func19,ntmps19;go_wp2_with (refine h.mono ?_;rintro r q ⟨rfl,i⟩;have l:=cE i;clear i)
   go_ret;exact⟨rfl,l.out⟩
  ·have n:¬(s.size:Int)<=100:=by omega
   obtain rfl:N=false:=by rw[a.out];simp[g]
   clear a c b h;go_enter func19,ntmps19;go_wp2_with fail
   go_ret;exact⟨rfl,JI _ _⟩
theorem Dc(s:dv)(w:Wd)(g:s.size<=140737488351232):Calls prog 20 #[.string s] w fun r l=>r=.returned (.bool (nameOk s))/\l=w:=by
 have h:=uQ s w g;have a:Hid (nameOk s=(decide (1<=s.size)&&decide (s.size<=100)&&Lib.validD s.data.toList)):=rfl;have c:=kE s.data.toList;generalize nameOk s=N at *;go_enter func20,ntmps20;go_wp2_with fail
 refine h.mono ?_;rintro r i ⟨⟨b,rfl,e⟩,hw⟩;rw[hw];clear hw i h;obtain rfl:b=Lib.validD s.data.toList:=by rw[Nm,e,c]
 clear c e;generalize Lib.validD s.data.toList=V at *;cases V with
 | false=>
   obtain rfl:N=false:=by rw[a.out];simp
   clear a;go_wp2_with fail
   go_ret;exact⟨rfl,rfl⟩
 | true=>
   by_cases f:1<=s.size
   ·have j:(1:Int)<=(s.size:Int):=by omega
    by_cases d:s.size<=100
    ·have k:(s.size:Int)<=100:=by omega
     obtain rfl:N=true:=by rw[a.out];simp[f,d]
     clear a;go_wp2_with fail
     go_ret;exact⟨rfl,rfl⟩
    ·have k:¬(s.size:Int)<=100:=by omega
     obtain rfl:N=false:=by rw[a.out];simp[d]
     clear a;go_wp2_with fail
     go_ret;exact⟨by show Ending.returned (.bool (decide ((s.size:Int)<=100)))=_;rw[Lt (by omega)],rfl⟩
   ·have j:¬(1:Int)<=(s.size:Int):=by omega
    obtain rfl:N=false:=by rw[a.out];simp[f]
    clear a;go_wp2_with fail
    go_ret;exact⟨rfl,rfl⟩
structure IS (b:Nat) (iss:dv) (ttl now:Int) (kv:Va) (n:Int) (w:Wd):Prop where
 obj:w.heap[b]?=some (.cells #[.int .i64 now,.string iss,.int .i64 ttl,kv,.int .i64 n] 43 (0,0))
def I2(iss:dv)(ttl E:Int)(w:Wd)(r:Ending)(w':Wd):Prop:=
 (E=0/\∃b,w.heap.size<=b/\r=.returned (.tuple #[.pointer (some ⟨b,0,none⟩),.int .i64 0])/\IS b iss ttl 0 (.slice none 0 0) 0 w')\/(E≠0/\r=.returned (.tuple #[.pointer none,.int .i64 E]))
theorem I8(iss:dv)(ttl:Int)(w:Wd)(g:iss.size<=140737488351232)(f:Lib.Utf8Tabs 0 1 w):Calls prog 6 #[.string iss,.int .i64 ttl] w fun r e=>I2 iss ttl (newE iss ttl) w r e/\Below w.heap.size w e:=by
 have h:=FY iss w g f;have c:Hid (newE iss ttl=if nameOk iss=false then 2 else if ttl<1\/1000000000<ttl then 3 else 0):=rfl;generalize newE iss ttl=E at *;generalize nameOk iss=N at *;have H:=cE h;clear h;cases N with
 | false=>
   obtain rfl:E=2:=by rw[c.out];rfl
   clear c;go_enter func6,ntmps6;go_wp2_with (refine H.out.mono ?_;rintro r d ⟨rfl,a⟩;have b:=cE a;clear a)
   refine Ka (LM rfl _ _ _) rfl ?_;exact⟨.inr ⟨by decide,rfl⟩,b.out⟩
 | true=>
   by_cases j:ttl<1
   ·obtain rfl:E=3:=by rw[c.out,if_neg (by simp),if_pos (.inl j)]
    clear c;go_enter func6,ntmps6;go_wp2_with (refine H.out.mono ?_;rintro r d ⟨rfl,a⟩;have b:=cE a;clear a)
    refine Ka (LM rfl _ _ _) rfl ?_;exact⟨.inr ⟨by decide,rfl⟩,b.out⟩
   ·by_cases i:1000000000<ttl
    ·obtain rfl:E=3:=by rw[c.out,if_neg (by simp),if_pos (.inr i)]
     clear c;go_enter func6,ntmps6;go_wp2_with (refine H.out.mono ?_;rintro r d ⟨rfl,a⟩;have b:=cE a;clear a)
     refine Ka (LM rfl _ _ _) rfl ?_;exact⟨.inr ⟨by decide,rfl⟩,b.out⟩
    ·obtain rfl:E=0:=by rw[c.out,if_neg (by simp),if_neg (by omega)]
     clear c;go_enter func6,ntmps6;go_wp2_with (refine H.out.mono ?_;rintro r d ⟨rfl,a⟩;have b:=cE a;clear a)
     refine Ka (LM rfl _ _ _) rfl ?_;refine⟨.inl ⟨rfl,d.heap.size,b.out.size,rfl,⟨?_⟩⟩,?_⟩
     ·exact JK _ _
     ·exact d6 b.out _
def qt:dv:=⟨#[65,66,67,68,69,70,71,72,73,74,75,76,77,78,79,80,81,82,83,84,85,86,87,88,89,90,97,98,99,100,101,102,103,104,105,106,107,108,109,110,111,112,113,114,115,116,117,118,119,120,121,122,48,49,50,51,52,53,54,55,56,57,45,95]⟩
def sg(n:Nat):UInt8:=qt.data.getD n 0
def mA(k p c:Nat):dj:=if k%3=0 then [sg (c/4)]else if k%3=1 then [sg (p%4*16+c/16)]else [sg (p%16*4+c/64),sg (c%64)]
def pre(d:Nat->Nat):Nat->List UInt8|0=>[]|k+1=>pre d k++mA k (d (k-1)) (d k)
def tl(d:Nat->Nat)(k:Nat):dj:=if k%3=0 then []else if k%3=1 then [sg (d (k-1)%4*16)]else [sg (d (k-1)%16*4)]
def enc(d:Nat->Nat)(n:Nat):dj:=pre d n++tl d n
theorem lV(k p c:Nat):(mA k p c).length=(if k%3=2 then 2 else 1):=by
 unfold mA;have:k%3=0\/k%3=1\/k%3=2:=by omega
 rcases this with h|h|h<;>simp[h]
theorem jY(d:Nat->Nat)(k:Nat):(pre d k).length=4*(k/3)+k%3:=by
 induction k with
 | zero=>rfl
 | succ k ih=>
   rw[pre,JH,ih,lV];split<;>omega
theorem yh(d:Nat->Nat)(k:Nat):(tl d k).length=(if k%3=0 then 0 else 1):=by
 unfold tl;have:k%3=0\/k%3=1\/k%3=2:=by omega
 rcases this with h|h|h<;>simp[h]
theorem jb(d:Nat->Nat)(k:Nat):(enc d k).length=(4*k+2)/3:=by
 rw[enc,JH,jY,yh];have a:k%3=0\/k%3=1\/k%3=2:=by omega
 rcases a with h|h|h<;>simp[h]<;>omega
def dB(s:dv)(k:Nat):Nat:=(s.data.getD k 0).toNat
theorem Ex(s:dv)(k:Nat)(h:k<s.size):dB s k=(s[k]'h).toNat:=by
 unfold dB;have a:=h;rw[MM,LR a];rfl
theorem uy(s:dv)(k:Nat):dB s k<256:=(s.data.getD k 0).toNat_lt
theorem ve(x:BitVec 32)(b:Nat)(d:b<256):(x<<<8|||BitVec.ofNat 32 b).toNat=x.toNat*256%4294967296+b:=by
 rw[BitVec.toNat_or,M4,Kw,Ms];have a:x.toNat*2^8%2^32=(x.toNat%2^24)<<<8:=by rw[Ms];omega
 have c:b%2^32=b:=by omega
 rw[a,c,<-Nat.shiftLeft_add_eq_or_of_lt (by omega),Ms]
theorem AY(x:BitVec 32)(k p c j m:Nat)(e:c<256)(a:0<k->x.toNat%256=p)(g:6*j+m=2*(k%3)+8)(f:6<=m):(mA k p c).take (j+1)=(mA k p c).take j++[sg (((x<<<8|||BitVec.ofNat 32 c)>>>(m-6)).toNat%64)]:=by
 rw[LS,ve x c e,MS];unfold mA;have b:k%3=0\/k%3=1\/k%3=2:=by omega
 rcases b with h|h|h
 ·obtain rfl:j=0:=by omega
  obtain rfl:m=8:=by omega
  simp[h];congr 1;omega
 ·obtain rfl:j=0:=by omega
  obtain rfl:m=10:=by omega
  have:=a (by omega);simp[h];congr 1;omega
 ·have:=a (by omega)
  have d:j=0\/j=1:=by omega
  rcases d with rfl|rfl
  ·obtain rfl:m=12:=by omega
   simp[h];congr 1;omega
  ·obtain rfl:m=6:=by omega
   simp[h];congr 1;omega
theorem Ac(k p c j m:Nat)(b:6*j+m=2*(k%3)+8)(a:m<6):(mA k p c).take j=mA k p c/\m=2*((k+1)%3):=by
 refine⟨Kd ?_,by omega⟩;rw[lV];split<;>omega
theorem Ft(x:BitVec 32)(d:Nat->Nat)(k:Nat)(b:0<k->x.toNat%256=d (k-1))(c:2*(k%3)≠0):tl d k=[sg ((x<<<(6-2*(k%3))).toNat%64)]:=by
 rw[M4,Ms];unfold tl;have:=b (by omega);have a:k%3=1\/k%3=2:=by omega
 rcases a with h|h
 ·simp[h];congr 1;omega
 ·simp[h];congr 1;omega
theorem I4{P:Program}(W:Wd)(t r e:TypeId)(i:TypeInfo)(w:P.underlying t=some (.slice e))(p:P.info? e=some i)(z:i.zero=some (.int .u8 0))(o:i.size=1)(D:i.bytes=1)(B:Nat)(v:Va)(l:dj)(b:UInt8)(d:Addr)(U:OwnB B e v l W)(hB:B<=W.heap.size)(ab:l.length+1<=220000000000000)(x:∀j u,[cj b][j]?=some u->W.cell? (d.add j)=some u):∃n f,(Builtin.append_ #[t,t] r #[v,.slice (some d) 1 1]).run P W=.ok n f/\OwnB B e n (l++[b]) f/\Below B W f:=by
 have s:Below B W W:=JI _ _;have y:l.length+1<=maxLen:=by unfold maxLen;omega
 rcases U with⟨rfl,rfl⟩|⟨g,cap,c,q,rfl,G,a,E,aa,I,Z,C⟩
 ·obtain⟨n,f,K,L,m,_⟩:=Nq (P:=P) W B t r e i (.int .u8 0) 1 1 w p z o D rfl (by decide) (.slice none 0 0) 0 [] ⟨by simp,.inl ⟨rfl,rfl⟩⟩ d 1 1 [cj b] rfl x
   (by intro u A;simp at A;subst A;rfl) (by unfold maxLen;omega) (by omega) (by omega)
  refine⟨n,f,K,?_,s.trans ⟨m.os,m.tape,m.output,m.size,fun k hk=>m.block k (by omega) (by simp[Value.ownBlock])⟩⟩;rcases L.2 with⟨_,h0⟩|⟨g,cap,c,J,M,a,V,X,hs,Y⟩
  ·omega
  ·exact .inr ⟨g,cap,c,(0,0),J,M,a,.inl (KI _),V,X,by omega,by simpa using Y⟩
 ·by_cases F:l.length+1<=cap
  ·have S:=LK (P:=P) W 1 1 d 1 1 [cj b] rfl x
   have Q:W.cell? ⟨g,l.length,none⟩=some c[l.length]:=by simp[World.cell?,a]
   have H:W.frozen? ⟨g,l.length,none⟩=false:=by
    obtain⟨lo,ac⟩:=q;simp only[World.frozen?,a,Nf,Mz];simp only at E;omega
   have O:(⟨g,l.length,none⟩:Addr).add 0=⟨g,l.length,none⟩:=by unfold Addr.add;split<;>simp_all
   have R:(storeCells ⟨g,l.length,none⟩ [cj b] 0).run P W=.ok () (W.setRow g (c.setIfInBounds l.length (cj b))):=by
    simp only[storeCells,K6,O];rw[run_store P W _ (cj b) _ rfl,Q];simp[H,setCell_eq_setRow W g l.length c e q (cj b) a]
   refine⟨.slice (some ⟨g,0,none⟩) (l.length+1) cap,W.setRow g (c.setIfInBounds l.length (cj b)),?_,?_,KU s G _⟩
   ·simp[Builtin.append_,run_underlying w,sizeOf,typeInfo,p,o,Builtin.lenOf,F,S,Addr.add_lit,R]
   ·refine .inr ⟨g,cap,_,q,by simp,G,J7 W g c _ e _ a,?_,by simpa using F,I,by simpa using Z,?_⟩
    ·rcases E with h|h
     ·left;simp;omega
     ·exact .inr h
    ·rw[JH,Mb,KN,Ks (by simp;omega)]
     rw[Nn (JQ _),C];simp
  ·have N:=OwnB.cells (B:=B) (cap:=cap) a C
   have T:=run_append_grow (P:=P) W t r e i (.int .u8 0) w p z ⟨g,0,none⟩ l.length cap (l.map cj) (by rw[o];simp) N d 1 1 [cj b] (by rw[o];rfl) x (by omega) (by unfold maxLen at y;omega)
    (by rw[D];exact growslice_fits_wide (by omega) (by omega))
   refine⟨_,_,T,qA (P:=P) W e B l b _ (by omega) (Mo W _ _ e) (Lv W _ _ e y),?_⟩;exact(s.drew).alloc (by show B<=W.heap.size;omega) _
theorem su{P:Program}{g:Array Oper}{k:List Oper}{o:Oper}{a:Act}{Q:Exit->Act->Wd->Prop}{w:Wd}(E:o.guard=none)(s x:Operand)(t:TypeId)(H:o.op=.call {callee:=.builtin .append,args:= #[s,x],argTypes:= #[t,t]})
 (e:TypeId) (i:TypeInfo) (J:P.underlying t=some (.slice e)) (q:P.info? e=some i) (L:i.zero=some (.int .u8 0)) (A:i.size=1) (C:i.bytes=1)
 (B:Nat) (v:Va) (l:dj) (b:UInt8) (f:Addr) (n:a.eval s=v) (m:a.eval x=.slice (some f) 1 1) (z:l.length+1<=220000000000000)
 (y:OwnB B e v l w) (p:B<=w.heap.size)
 (D:∀j u,[cj b][j]?=some u->w.cell? (f.add j)=some u)
 (h:∀d c,OwnB B e d (l++[b]) c->Below B w c->wpList P g Q k (a.put o.dst d) c):wpList P g Q (o::k) a w:=by
 refine LC E fun K I=>?_
 obtain⟨d,c,r,G,F⟩:=I4 (P:=P) w t o.type e i J q L A C B v l b f y p z D;unfold Oper.wp execOp;simp only[H,resolve,invoke,builtin,K6,Li,KP,Ln,JW,Ko,n,m,r];exact I _ _ (h d c G F)
section
def lo6(x:BitVec 32):Nat:=x.toNat%64
theorem F1(x:BitVec 32):lo6 x<64:=LB _ (by omega)
theorem Iq(x:BitVec 32):bits .and .u32 (eW x) 63=(lo6 x:Int):=by
 have e:(63:Int)=eW 63#32:=rfl;rw[e,oU];unfold eW lo6;rw[BitVec.toNat_and];have:=MC x.toNat 6;exact KV Int.ofNat this
attribute [local go_sem] Iq
theorem CY(n:Nat)(h:n<64):sg n=qt[n]'h:=by
 unfold sg;rw[MM,LR (by exact h)];rfl
theorem tn(x:BitVec 32)(w:Wd):Calls prog 110 #[.int .u32 (eW x)] w fun e b=>e=.returned (.int .u8 ((sg (lo6 x)).toNat:Int))/\b=w:=by
 have a:=F1 x
 go_enter func110,ntmps110;go_wp2;go_ret;refine⟨?_,rfl⟩;rw[CY _ a];rfl
end
section
theorem IY(x:BitVec 32)(b:UInt8):bits .or .u32 (eW x*256%4294967296) ((b.toNat:Int)%4294967296)=eW (x<<<8|||BitVec.ofNat 32 b.toNat):=by
 have e:(b.toNat:Int)%4294967296=eW (BitVec.ofNat 32 b.toNat):=by
  unfold eW;rw[Kw];have:=b.toNat_lt;omega
 have a:eW x*(256:Int)%(4294967296:Int)=eW (x<<<8):=by have:=kU x 8;rw[M0]at this;exact this
 rw[e,a,ra]
theorem Ik(x:BitVec 32)(n:Nat):eW x*(2:Int)^n%(4294967296:Int)=eW (x<<<n):=by have:=kU x n;rw[M0]at this;exact this
attribute [local go_sem] fD IY kU Ik
theorem vx:(prog.info? 5).map (fun i=>(i.zero,i.size,i.bytes))=some (some (.int .u8 0),1,1):=by kernel_rfl
theorem Cb(w:Wd)(e:TypeId)(c:Nat)(d:c<=maxLen)(a:Array Value)(b:a.size=c):OwnB w.heap.size e (.slice (some ⟨w.heap.size,0,none⟩) 0 c) [] (w.alloc (.cells a e)):=
 .inr ⟨w.heap.size,c,a,(0,0),rfl,JQ _,JK _ _,.inl (KI _),KI _,d,b,by simp⟩
theorem _root_.Go.Proofs.YtihboehpeehlmaaGreatDoor.OwnB.alloc_own{B:Nat}{e:TypeId}{v:Va}{l:dj}{w:Wd}(h:OwnB B e v l w)(o:Obj):OwnB B e v l (w.alloc o):=
 h.below (cK (cF w) o) (JQ _)
theorem j1(s:dv)(w:Wd)(hs:s.size<=140737488351232):Calls prog 77 #[.string s] w fun e w'=>e=.returned (.string ⟨(enc (dB s) s.size).toArray⟩)/\Below w.heap.size w w':=by
 obtain⟨p,r,u,A,y⟩:=Kf vx;have Q:=fun W=>by
  have:=run_make (P:=prog) W 115 5 p (.int .u8 0) JU r u .i64 .i64 0 ((s.size:Int)/3*4+4) (by omega) (by omega) (by rw[y];omega) (by omega);rw[A,Mp,show((s.size:Int)/3*4+4).toNat=s.size/3*4+4 by omega]at this;exact this
 have F:Hid _:=r;clear r;go_enter func77,ntmps77;go_wp2_with fail
 go_loopw [3,4,5,15] (fun o R h i wr=>∃(k:Nat) (X:BitVec 32),k<=s.size/\i=.int .i64 k/\R=.int .u32 (eW X)/\h=.int .i64 ((2*(k%3):Nat):Int)/\(0<k->X.toNat%256=dB s (k-1))/\OwnB w.heap.size 5 o (pre (dB s) k) wr/\Below w.heap.size w wr) (fun _ _ _ i _=>s.size-(intOf i).toNat)
 case atStart=>exact⟨0,0#32,by omega,rfl,rfl,rfl,by omega,Cb w _ _ (by unfold maxLen;omega) _ (size_madeCells _ _),cK (cF _) _⟩
 case round=>
  obtain⟨k,X,hk,rfl,rfl,rfl,E,n,a⟩:=hrel;have I:Hid _:=E;have b:Hid (OwnB w.heap.size 5 _ (pre (dB s) k) wr):=n;clear E n Q;have Z:2*(k%3)<=4:=by omega
  generalize O:2*(k%3)=m at Z;have f:Hid _:=O;clear O;by_cases ac:k<s.size
  ·have c:(k:Int)<(s.size:Int):=by omega
   have J:=Ex s k ac;have M:Hid _:=J;clear J;go_wp2_with fail
   go_loopw [3,5] (fun o h D=>∃j q:Nat,6*j+q=m+8/\h=.int .i64 (q:Int)/\OwnB w.heap.size 5 o (pre (dB s) k++(mA k (dB s (k-1)) (dB s k)).take j) D/\Below w.heap.size w D) (fun _ h _=>(intOf h).toNat)
   case atStart=>exact⟨0,m+8,by omega,by go_num,by rw[List.take_zero,KB];exact b.out,a⟩
   case round=>
    clear b a;obtain⟨j,q,L,rfl,n,a⟩:=hrel;have ag:q<=12:=by omega
    have b:Hid (OwnB w.heap.size 5 _ (pre (dB s) k++(mA k (dB s (k-1)) (dB s k)).take j) wr):=n;have x:Hid (6*j+q=m+8):=L;clear n L;by_cases V:6<=q
    ·have ae:(0:Int)<=(q:Int)-6:=by omega
     have ad:(6:Int)<=(q:Int):=by omega
     have aa:((q:Int)-6).toNat=q-6:=by omega
     have S:=a.size;have B:(pre (dB s) k++(mA k (dB s (k-1)) (dB s k)).take j).length+1<=220000000000000:=by
      rw[JH,jY,J6];have:=lV k (dB s (k-1)) (dB s k);split at this<;>omega
     go_wp2_with (first|(go_at_call 110;refine(tn _ _).mono ?_;rintro e C ⟨rfl,g⟩;rw[g];clear g C)|(refine su rfl (.tmp 31) (.tmp 37) 115 rfl 5 p JU F.out u A y w.heap.size _ _ _ ⟨wr.heap.size,0,none⟩ rfl rfl B (b.out.alloc_own _) (by simp;omega) (fH _ _ _) ?_;intro U H l v;have T:Hid _:=l;clear l))
     have ab:Below w.heap.size w H:=(cK a _).trans v;have Y:(mA k (dB s (k-1)) (dB s k)).take (j+1)=(mA k (dB s (k-1)) (dB s k)).take j++[sg (lo6 ((X<<<8|||BitVec.ofNat 32 s[k].toNat)>>>(q-6)))]:=by
      have:=AY X k (dB s (k-1)) (dB s k) j q (uy s k) I.out (by rw[f.out];exact x.out) V;rw[this,M.out];rfl
     go_roundw
     case rel=>exact⟨j+1,q-6,by have:=x.out;omega,by go_num,by rw[Y,<-J1];exact T.out,ab⟩
     case measure=>simp[intOf];omega
    ·have ad:(q:Int)<6:=by omega
     have K:=Ac k (dB s (k-1)) (dB s k) j q (by rw[f.out];exact x.out) (by omega);have G:Hid _:=K;clear K;go_wp2_with fail
     refine⟨⟨k+1,X<<<8|||BitVec.ofNat 32 s[k].toNat,by omega,by go_num,rfl,by rw[G.out.2],fun _=>?_,?_,a⟩,by simp[intOf];omega⟩
     ·have e0:=ve X s[k].toNat s[k].toNat_lt
      rw[e0,L5,M.out];have:=s[k].toNat_lt;omega
     ·rw[pre,<-G.out.1];exact b.out
  ·obtain rfl:k=s.size:=by omega
   by_cases N:m=0
   ·have hs:=b.out.str (P:=prog) (t:=115) (d:=9) JU KY Kl
    subst N;have c:tl (dB s) s.size=[]:=by unfold tl;rw[if_pos (by have:=f.out;omega)]
    have z:Hid _:=c;clear c;go_wp2;go_ret;refine⟨?_,a⟩;rw[enc,z.out,KB];rfl
   ·have ai:(0:Int)<(m:Int):=by omega
    have S:=a.size;have B:(pre (dB s) s.size).length+1<=220000000000000:=by rw[jY];omega
    have c:tl (dB s) s.size=[sg (lo6 (X<<<(6-m)))]:=by
     have:=Ft X (dB s) s.size I.out (by rw[f.out];exact N);rw[f.out]at this;exact this
    have z:Hid _:=c;clear c;go_wp2_with (first|(go_at_call 110;refine(tn _ _).mono ?_;rintro e C ⟨rfl,g⟩;rw[g];clear g C)|(refine su rfl (.tmp 42) (.tmp 48) 115 rfl 5 p JU F.out u A y w.heap.size _ _ _ ⟨wr.heap.size,0,none⟩ rfl rfl B (b.out.alloc_own _) (by simp;omega) (fH _ _ _) ?_;intro U H l v;have af:=l.str (P:=prog) (t:=115) (d:=9) JU KY Kl;clear l))
    go_ret;refine⟨?_,(cK a _).trans v⟩;rw[enc,z.out];rfl
end
section
theorem zh(n:Int):bits .and .i64 n 63=n%64:=by
 have b:(BitVec.ofInt 64 63).toNat=2^6-1:=by decide
 have a:(BitVec.ofInt 64 n&&&BitVec.ofInt 64 63).toNat=(n%((2^64:Nat):Int)).toNat%2^6:=by
  rw[BitVec.toNat_and,MD,b,MC]
 show IntKind.i64.wrap ((BitVec.ofInt 64 n&&&BitVec.ofInt 64 63).toNat:Nat)=n%64
 rw[a,IntKind.wrap_i64];omega
def xs(d:Nat->Nat)(a:Nat):Nat->Nat|0=>0|k+1=>xs d a k*256+d (a+k)
theorem EC(d:Nat->Nat)(b:∀k,d k<256)(a k:Nat)(c:k<=3):xs d a k<256^k:=by
 have f:=b a;have e:=b (a+1);have g:=b (a+2);match k,c with
 | 0,_=>simp[xs]
 | 1,_=>simp[xs];omega
 | 2,_=>simp[xs];omega
 | 3,_=>simp[xs];omega
def gl(x:Nat):Nat->List UInt8|0=>[]|k+1=>gl x k++[sg (x/2^(18-6*k)%64)]
theorem y7(x k:Nat):(gl x k).length=k:=by
 induction k with
 | zero=>rfl
 | succ k ih=>rw[gl,JH,ih];rfl
def gE(d:Nat->Nat)(n t:Nat):dj:=if 3*t<=n then pre d (3*t)else enc d n
theorem yQ(d:Nat->Nat)(n t:Nat)(h:n<=3*t):gE d n t=enc d n:=by
 unfold gE;split
 ·obtain rfl:n=3*t:=by omega
  simp[enc,tl]
 ·rfl
theorem vB(d:Nat->Nat)(n t q:Nat)(c:∀k,d k<256)(g:∀k,n<=k->d k=0)(h:3*t<n)(o:q=min 3 (n-3*t)):gE d n (t+1)=gE d n t++gl (xs d (3*t) 3) (q+1):=by
 have s:=c (3*t);have r:=c (3*t+1);have p:=c (3*t+2);have m:gE d n t=pre d (3*t):=by unfold gE;rw[if_pos (by omega)]
 rw[m];have a:xs d (3*t) 3=d (3*t)*65536+d (3*t+1)*256+d (3*t+2):=by simp[xs];omega
 have j:3*t+3<=n\/n=3*t+1\/n=3*t+2:=by omega
 have b:3*t%3=0:=by omega
 have f:(3*t+1)%3=1:=by omega
 have i:(3*t+2)%3=2:=by omega
 rcases j with j|rfl|rfl
 ·obtain rfl:q=3:=by omega
  unfold gE;rw[if_pos (by omega),show 3*(t+1)=3*t+1+1+1 by omega];simp only[pre,gl,mA,b,f,i,a,J1,Lj,JS];simp;refine⟨?_,?_,?_,?_⟩<;>congr 1<;>omega
 ·obtain rfl:q=1:=by omega
  have l:=g (3*t+1) (by omega);have e:=g (3*t+2) (by omega);unfold gE;rw[if_neg (by omega)];simp only[enc,tl,pre,gl,mA,b,f,a,l,e,J1,Lj,JS];simp;refine⟨?_,?_⟩<;>congr 1<;>omega
 ·obtain rfl:q=2:=by omega
  have e:=g (3*t+2) (by omega);unfold gE;rw[if_neg (by omega)];simp only[enc,tl,pre,gl,mA,b,f,i,a,e,J1,Lj,JS];simp;refine⟨?_,?_,?_⟩<;>congr 1<;>omega
theorem zV(s:dv)(k:Nat)(h:s.size<=k):dB s k=0:=by
 unfold dB;have a:=h;rw[MM,Km a];rfl
def sgr(x n:Nat):Nat:=x/2^n%64
theorem FA(x n:Nat):sgr x n<64:=LB _ (by omega)
theorem F0(x n:Nat):(x:Int)/2^n%64=(sgr x n:Int):=by
 unfold sgr;have:((2:Int)^n)=((2^n:Nat):Int):=by simp
 rw[this];exact_mod_cast rfl
attribute [local go_sem] zh F0
theorem jw(s:dv)(w:Wd)(O:s.size<=140737488351232):Calls prog 47 #[.string s] w fun e L=>e=.returned (.string ⟨(enc (dB s) s.size).toArray⟩)/\Below w.heap.size w L:=by
 obtain⟨F,z,I,V,S⟩:=Kf vx;have K:Hid _:=z;clear z;go_enter func47,ntmps47;go_wp2_with fail
 go_loopw [3,4] (fun o i wr=>∃t:Nat,3*t<=s.size+2/\i=.int .i64 ((3*t:Nat):Int)/\OwnB w.heap.size 5 o (gE (dB s) s.size t) wr/\Below w.heap.size w wr) (fun _ i _=>s.size+3-(intOf i).toNat)
 case atStart=>exact⟨0,by omega,rfl,.inl ⟨rfl,by simp[gE,pre]⟩,cF _⟩
 case round=>
  obtain⟨t,W,rfl,l,b⟩:=hrel;have h:Hid (OwnB w.heap.size 5 _ (gE (dB s) s.size t) wr):=l;clear l;generalize D:3*t=a at W;have c:Hid _:=D;clear D;by_cases U:a<s.size
  ·have ht:(a:Int)<(s.size:Int):=by omega
   go_wp2_with fail
   go_loopw [5,6,7] (fun x n k m=>∃j:Nat,j<=3/\k=.int .i64 (j:Int)/\x=.int .i64 (xs (dB s) a j:Int)/\n=.int .i64 ((min j (s.size-a):Nat):Int)/\m=wr) (fun _ _ k _=>3-(intOf k).toNat)
   case atStart=>exact⟨0,by omega,rfl,rfl,by simp,rfl⟩
   case round=>
    obtain⟨j,y,rfl,rfl,rfl,rfl⟩:=hrel;generalize q:xs (dB s) a j=X;generalize A:min j (s.size-a)=N;have p:Hid _:=q;have v:Hid _:=A
    have ad:N<=3:=by omega
    clear q A;by_cases ai:j<3
    ·have aa:(j:Int)<3:=by omega
     have ah:X<65536:=by rw[<-p.out];exact J0 (EC _ (uy s) a j y) (show 256^j<=256^2 from K7 (by omega) (by omega))
     by_cases Q:a+j<s.size
     ·have R:(a:Int)+(j:Int)<(s.size:Int):=by omega
      have C:=Ex s (a+j) Q;have am:=s[a+j].toNat_lt;have Y:Hid _:=C;clear C;go_wp2_with fail
      exact⟨⟨j+1,by omega,by go_num,KV (Value.int .i64) (by rw[xs,p.out,Y.out];omega),KV (Value.int .i64) (by have:=v.out;omega),trivial⟩,by simp[intOf];omega⟩
     ·have R:(s.size:Int)<=(a:Int)+(j:Int):=by omega
      go_wp2_with fail
      exact⟨⟨j+1,by omega,by go_num,KV (Value.int .i64) (by rw[xs,p.out,zV s (a+j) (by omega)];omega),KV (Value.int .i64) (by have:=v.out;omega),trivial⟩,by simp[intOf];omega⟩
    ·have aa:(3:Int)<=(j:Int):=by omega
     have B:Hid (j=3):=by have:j=3:=by omega
                          exact this
     go_wp2_with fail
     go_loopw [3,8] (fun o k m=>∃g:Nat,g<=N+1/\k=.int .i64 (g:Int)/\OwnB w.heap.size 5 o (gE (dB s) s.size t++gl X g) m/\Below w.heap.size w m) (fun _ k _=>5-(intOf k).toNat)
     case atStart=>exact⟨0,by omega,rfl,by rw[gl,KB];exact h.out,b⟩
     case round=>
      clear h b;obtain⟨g,ak,rfl,l,b⟩:=hrel;have h:Hid (OwnB w.heap.size 5 _ (gE (dB s) s.size t++gl X g) wr):=l;clear l;by_cases ab:g<=N
      ·have H:(g:Int)<=(N:Int):=by omega
       have r:=FA X (18-6*g)
       have ac:=b.size;have Z:(gE (dB s) s.size t++gl X g).length+1<=220000000000000:=by
        rw[JH,y7];unfold gE;split
        ·rw[jY];omega
        ·rw[jb];omega
       go_wp2_with (refine su rfl (.tmp 49) (.tmp 52) 115 rfl 5 F JU K.out I V S w.heap.size _ _ (qt[sgr X (18-6*g)]'r) ⟨wr.heap.size,0,none⟩ rfl rfl Z (h.out.alloc_own _) (by simp;omega) (fH _ _ _) ?_;intro v3 M E J;have G:Hid _:=E;clear E)
       have T:Below w.heap.size w M:=(cK b _).trans J;go_roundw
       case rel=>exact⟨g+1,by omega,by go_num,by rw[gl,<-J1];rw[show sg (X/2^(18-6*g)%64)=qt[sgr X (18-6*g)]'r from CY _ r];exact G.out,T⟩
       case measure=>simp[intOf];omega
      ·have H:(N:Int)<(g:Int):=by omega
       obtain rfl:g=N+1:=by omega
       have f:=vB (dB s) s.size t N (uy s) (zV s) (by rw[c.out];exact U) (by rw[c.out];have:=v.out;have:=B.out;omega);rw[c.out,<-B.out,p.out]at f;have u:Hid _:=f;clear f;go_wp2_with fail
       exact⟨⟨t+1,by have:=c.out;omega,KV (Value.int .i64) (by have:=c.out;omega),by rw[u.out];exact h.out,b⟩,by simp[intOf];omega⟩
  ·have al:(s.size:Int)<=(a:Int):=by omega
   have O:=h.out.str (P:=prog) (t:=115) (d:=9) JU KY Kl;have f:=yQ (dB s) s.size t (by rw[c.out];omega);have u:Hid _:=f;clear f;go_wp2;go_ret;refine⟨?_,b⟩;rw[<-u.out];rfl
end
end Go.Proofs.YtihboehpeehlmaaGreatDoor.Dg
