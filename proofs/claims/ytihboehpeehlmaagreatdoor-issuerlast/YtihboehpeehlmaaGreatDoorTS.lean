import Derived.Test.YtihboehpeehlmaaGreatDoorHD
import Derived.Test.YtihboehpeehlmaaGreatDoorShelfP
import Derived.Test.YtihboehpeehlmaaGreatDoorB0
import Derived.Test.YtihboehpeehlmaaGreatDoorU2
import Derived.Test.YtihboehpeehlmaaGreatDoorX5
import Derived.Test.YtihboehpeehlmaaGreatDoorNR3
import Derived.Test.YtihboehpeehlmaaGreatDoorQPos
import Derived.Test.YtihboehpeehlmaaGreatDoorD1
set_option maxHeartbeats 8000000
set_option maxRecDepth 4000
set_option linter.unusedVariables false
set_option linter.unusedSimpArgs false
namespace Go.Proofs.YtihboehpeehlmaaGreatDoor.Dg
abbrev bZP:=ByteArray
open Tryz Go.RowKit
def cY(l:dj):Array Value:=(l.map cj).toArray
theorem oB(l:dj)(k:Nat)(h:k<l.length):(cY l)[k]?=some (cj l[k]):=by simp[cY,h]
theorem mF(l:dj):(cY l).size=l.length:=by simp[cY]
theorem pV(n:Nat):madeCells (Value.int .u8 0).cells (n*1)=cY (List.replicate n 0):=by
 apply Array.ext';rw[Mp];have:=toList_madeCells_one (.int .u8 0) n;rw[show(Value.int .u8 0).cells= #[.int .u8 0]from rfl,this];simp[cY,cj]
theorem uK{P:Program}{q:Array Oper}{r:List Oper}{o:Oper}{a:Act}{Q:Exit->Act->Wd->Prop}{w:Wd}(E:o.guard=none)(d s:Operand)(f k:TypeId)(F:o.op=.call {callee:=.builtin .copy,args:= #[d,s],argTypes:= #[f,k]})(e:TypeId)(C:P.underlying f=some (.slice e))(J:(P.info? e).map (·.size)=some 1)
 (g n c:Nat) (t:TypeId) (l:dj) (x:bZP) (z:a.eval d=.slice (some ⟨g,0,none⟩) n c) (y:a.eval s=.string x) (L:l.length=n) (u:x.size<=n)
 (H:w.heap[g]?=some (.cells (cY l) t (0,0)))
 (h:∀v,wpList P q Q r (a.put o.dst v) (w.setRow g (cY (x.data.toList++l.drop x.size)))):wpList P q Q (o::r) a w:=by
 refine LC E fun K G=>?_
 have I:=Mg u;have A:List.take x.size (List.map (fun b:UInt8=>Value.int .u8 (b.toNat:Int)) x.data.toList)=(cY x.data.toList).toList:=by
  rw[Kd (by simp)];rfl
 have j:=run_storeCells_at P g 0 t (cY x.data.toList).toList 0 (cY l) w H (by simp[cY];omega) (by intro v m;simp[cY]at m;obtain⟨b,_,rfl⟩:=m;rfl);have D:(List.take (0+0) (cY l).toList++(cY x.data.toList).toList++List.drop (0+0+(cY x.data.toList).toList.length) (cY l).toList).toArray=cY (x.data.toList++l.drop x.size):=by
  simp[cY]
 rw[D]at j;have B:(Builtin.copy_ #[f,k] o.type #[.slice (some ⟨g,0,none⟩) n c,.string x]).run P w=.ok (goInt x.size) (w.setRow g (cY (x.data.toList++l.drop x.size))):=by
  cases p:P.info? e with
  | none=>simp[p]at J
  | some i=>
    simp[Builtin.copy_,run_underlying C,Builtin.lenOf,sizeOf,typeInfo,p,I,Builtin.firstCells,A,j]
 unfold Oper.wp execOp;simp only[F,resolve,invoke,builtin,K6,Li,KP,Ln,JW,Ko,z,y,B];exact G _ _ (h _)
theorem Hz(b c:UInt8):bits .xor .u8 (b.toNat:Int) (c.toNat:Int)=((b^^^c).toNat:Int):=by
 rw[u8_xor_nat _ _ b.toNat_lt c.toNat_lt,UInt8.toNat_xor]
def h6(c:UInt8)(l:dj)(k:Nat):dj:=(l.take k).map (· ^^^c)++l.drop k
theorem iU(c:UInt8)(l:dj)(k:Nat):(h6 c l k).length=l.length:=by simp[h6];omega
theorem wZ(c:UInt8)(l:dj)(k:Nat)(h:k<l.length):(cY (h6 c l k))[k]?=some (cj l[k]):=by
 have a:k<(h6 c l k).length:=by rw[iU];exact h
 rw[oB _ _ a];congr 2
 simp[h6,List.getElem_append_right,Nat.min_eq_left (Nat.le_of_lt h)]
theorem xG(c:UInt8)(l:dj)(k:Nat)(h:k<l.length):(cY (h6 c l k)).setIfInBounds k (cj (l[k]^^^c))=cY (h6 c l (k+1)):=by
 apply Array.ext';rw[KN];simp only[cY];rw[<-List.map_set];congr 1
 have d:=Kc h;have b:=Ks h;have a:k-((l.take k).map (· ^^^c)).length=0:=by simp;omega
 rw[h6,h6,b,d,Mh _ _ (by simp;omega),a,List.set_cons_zero,Kj,J1];rfl
def zE(n:Nat)(k:dj):dj:=k++List.replicate (n-k.length) 0
def lf(n:Nat)(c:UInt8)(k:dj):dj:=(zE n k).map (· ^^^c)
theorem xm(a:Int)(w:Wd):Calls prog 111 #[.int .i64 a] w fun e b=>e=.returned (.int .i64 (if a=256 then 64 else 128))/\b=w:=by
 by_cases h:a=256
 ·subst h
  go_enter func111,ntmps111;go_wp2;go_ret;exact⟨rfl,rfl⟩
 ·have c:(a==256)=false:=by simp[h]
  rw[if_neg h];go_enter func111,ntmps111;go_wp2;go_ret;exact⟨rfl,rfl⟩
section
attribute [local go_sem] Hz
theorem Cw(k:bZP)(n:Nat)(c:UInt8)(w:Wd)(J:k.size<=n)(R:n<=128):Calls prog 113 #[.string k,.int .i64 (n:Int),.int .u8 (c.toNat:Int)] w fun e A=>e=.returned (.string ⟨(lf n c k.data.toList).toArray⟩)/\Below w.heap.size w A:=by
 obtain⟨s,f,y,m,H⟩:=Kf mt;have K:=fun W=>by
  have:=run_make (P:=prog) W 115 5 s (.int .u8 0) JU f y .i64 .i64 (n:Int) (n:Int) (by omega) (by omega) (by rw[H];omega) (by omega);rw[m,Int.toNat_natCast,pV]at this;exact this
 have z:(prog.info? 5).map (·.size)=some 1:=by rw[f];simp[m]
 have E:Hid _:=z;generalize l:k.data.toList++(List.replicate n 0).drop k.size=L;have h:Hid _:=l;have u:L.length=n:=by rw[<-l];simp;omega
 have b:Hid _:=u;go_enter func113,ntmps113;go_wp2_with (refine uK rfl _ _ 115 9 rfl 5 JU E.out w.heap.size n n 5 (List.replicate n 0) k rfl rfl (by simp) J (JK _ _) ?_;intro N;rw[h.out,World.setRow_alloc_new])
 go_loopw [16] (fun i wr=>∃j:Nat,j<=n/\i=.int .i64 j/\wr.heap[w.heap.size]?=some (.cells (cY (h6 c L j)) 5 (0,0))/\Below w.heap.size w wr) (fun i _=>n-(intOf i).toNat)
 case atStart=>exact⟨0,by omega,rfl,by rw[JK];simp[h6],cK (cF _) _⟩
 case round=>
  obtain⟨j,Q,rfl,a,g⟩:=hrel;by_cases I:j<n
  ·have o:j<L.length:=by rw[b.out];exact I
   have F:wr.cell? ⟨w.heap.size,j,none⟩=some (.int .u8 (L[j].toNat:Int)):=by rw[JE _ _ _ _ _ _ a,wZ _ _ _ o];rfl
   have O:wr.frozen? ⟨w.heap.size,j,none⟩=false:=KO _ _ _ _ _ a;have v:Hid _:=a;generalize B:L[j]=x at F;have D:Hid _:=B
   go_wp2
   go_roundw
   case rel=>
    refine⟨j+1,by omega,by go_num,?_,g.setCell (JQ _) _⟩;rw[J5 _ _ _ _ _ _ v.out,<-xG _ _ _ o,D.out];rfl
   case measure=>simp[intOf];omega
  ·obtain rfl:j=n:=by omega
   have p:OwnB w.heap.size 5 (.slice (some ⟨w.heap.size,0,none⟩) (h6 c L j).length j) (h6 c L j) wr:=by
    refine .inr ⟨w.heap.size,j,_,(0,0),rfl,JQ _,a,.inl (KI _),?_,?_,?_,?_⟩
    ·rw[iU,b.out];exact JQ _
    ·unfold maxLen;omega
    ·rw[mF,iU,b.out]
    ·rw[Kd (by simp[cY])];simp[cY]
   rw[iU,b.out]at p;have C:=p.str (P:=prog) (t:=115) (d:=9) JU KY Kl;generalize G:h6 c L j=M at C;have q:Hid _:=G;go_wp2;go_ret;refine⟨?_,g⟩;have r:lf j c k.data.toList=M:=by
    rw[<-q.out,lf,h6,Kd (by omega),J8 (by omega),KB,zE,<-h.out];congr 2
    simp
   rw[r];rfl
end
def blockN(a:Int):Nat:=if a=256 then 64 else 128
def keyL(sum:dj->dj)(n:Nat)(k:dj):dj:=if n<k.length then sum k else k
def iG(sum:dj->dj)(n:Nat)(k d:dj):dj:=sum (lf n 92 (keyL sum n k)++sum (lf n 54 (keyL sum n k)++d))
def gT(a:Int)(k d:dj):dj:=if fY a=true then iG (cX a) (blockN a) k d else []
theorem eo(a:Int)(l:dj):((cX a l).length:Int)=cC a:=by
 unfold cX cC;by_cases c:a=256
 ·rw[if_pos c,if_pos c,fs];rfl
 ·rw[if_neg c,if_neg c]
  by_cases d:a=384
  ·rw[if_pos d,if_pos d,J6,ek];rfl
  ·rw[if_neg d,if_neg d]
   by_cases b:a=512
   ·rw[if_pos b,if_pos b,ek];rfl
   ·rw[if_neg b,if_neg b];rfl
theorem isAlg_cases{a:Int}(h:fY a=true):a=256\/a=384\/a=512:=by
 simp[fY]at h;omega
theorem iI{a:Int}(h:fY a=true):0<cC a/\cC a<=blockN a:=by
 rcases isAlg_cases h with rfl|rfl|rfl<;>decide
theorem pE{a:Int}(h:fY a=false):cC a=0:=by
 simp[fY]at h;simp[cC,h]
theorem wv(a:Int)(d:bZP)(w:Wd)(g:d.size<=140737488355328):Calls prog 112 #[.int .i64 a,.string d] w fun e b=>(∃T:dv,T.data.toList=cX a d.data.toList/\e=.returned (.string T))/\Below w.heap.size w b:=
 (EJ a d w g).mono fun e b ⟨c,f⟩=>⟨⟨_,rfl,c⟩,f⟩
theorem uD(k:bZP)(n:Nat)(c:UInt8)(w:Wd)(b:k.size<=n)(g:n<=128):Calls prog 113 #[.string k,.int .i64 (n:Int),.int .u8 (c.toNat:Int)] w fun e a=>(∃T:dv,T.data.toList=lf n c k.data.toList/\e=.returned (.string T))/\Below w.heap.size w a:=
 (Cw k n c w b g).mono fun e a ⟨f,d⟩=>⟨⟨_,rfl,f⟩,d⟩
theorem iX(n:Nat)(c:UInt8)(k:dj)(h:k.length<=n):(lf n c k).length=n:=by simp[lf,zE];omega
theorem zu(a:Int)(w:Wd):Calls prog 111 #[.int .i64 a] w fun e b=>e=.returned (.int .i64 (blockN a:Int))/\b=w:=
 (xm a w).mono fun e b ⟨c,hw⟩=>⟨by rw[c];unfold blockN;by_cases h:a=256<;>simp[h],hw⟩
theorem Am(a:Int)(k d:bZP)(w:Wd)(h:fY a=false):Calls prog 79 #[.int .i64 a,.string k,.string d] w fun e g=>e=.returned (.string ⟨#[]⟩)/\g=w:=by
 have c:=pE h;go_enter func79,ntmps79;go_wp2_with (go_at_call 92;refine(mu a _).mono ?_;rintro i f ⟨rfl,b⟩;rw[b,c];clear b f)
 go_ret;exact⟨rfl,rfl⟩
theorem xJ(a:Int)(k d:bZP)(w:Wd)(h:fY a=true)(g:k.size<=blockN a)(U:d.size<=140737488351232):Calls prog 79 #[.int .i64 a,.string k,.string d] w fun e F=>e=.returned (.string ⟨(iG (cX a) (blockN a) k.data.toList d.data.toList).toArray⟩)/\Below w.heap.size w F:=by
 have H:=iI h;have W:(cC a==0)=false:=by rw[JJ];omega
 have f:blockN a<=128:=by unfold blockN;split<;>omega
 have y:Hid (keyL (cX a) (blockN a) k.data.toList=k.data.toList):=by show keyL _ _ _=_;rw[keyL,if_neg (by simp;omega)]
 have u:∀l,((cX a l).length:Int)<=128:=fun l=>by rw[eo];omega
 have J:Hid _:=u;clear h H u;generalize B:blockN a=n at g f y;go_enter func79,ntmps79;go_wp2_with (first|(go_at_call 92;refine(mu a _).mono ?_;rintro i m ⟨rfl,c⟩;rw[c];clear c m)|(go_at_call 111;refine(zu a _).mono ?_;rintro i m ⟨rfl,c⟩;rw[c,B];clear c m))
 refine(uD k n 54 _ g f).mono ?_;rintro i m ⟨⟨b,p,rfl⟩,v⟩;have Q:b.size<=128:=by
  have e:b.data.toList.length=b.size:=by simp
  rw[<-e,p,iX _ _ _ (by simpa using g)];exact f
 have D:Hid _:=p;clear p;go_wp2_with fail
 refine(wv a (b++d) _ (by simp;omega)).mono ?_;rintro V S ⟨⟨o,r,rfl⟩,C⟩;have M:o.size<=128:=by
  have e:o.data.toList.length=o.size:=by simp
  have h:=J.out (b++d).data.toList;rw[<-r,e]at h;omega
 have G:Hid _:=r;clear r;go_wp2_with fail
 refine(uD k n 92 _ g f).mono ?_;rintro R T ⟨⟨j,q,rfl⟩,E⟩;have P:j.size<=128:=by
  have e:j.data.toList.length=j.size:=by simp
  rw[<-e,q,iX _ _ _ (by simpa using g)];exact f
 have A:Hid _:=q;clear q;go_wp2_with fail
 refine(wv a (j++o) _ (by simp;omega)).mono ?_;rintro O N ⟨⟨t,x,rfl⟩,K⟩;have L:Hid _:=x;clear x;go_wp2
 go_ret;have s:=v.trans (C.mono v.size);have z:=s.trans (E.mono s.size);have I:=z.trans (K.mono z.size);refine⟨?_,I⟩;show Ending.returned (.string t)=_
 have i:t=⟨(iG (cX a) n k.data.toList d.data.toList).toArray⟩:=by
  apply KF;rw[L.out,iG,y.out];simp[A.out,G.out,D.out]
 rw[i]
theorem Bf(a:Int)(k d:bZP)(w:Wd)(h:fY a=true)(U:blockN a<k.size)(H:k.size<=140737488355328)(hd:d.size<=140737488351232):Calls prog 79 #[.int .i64 a,.string k,.string d] w fun e M=>e=.returned (.string ⟨(iG (cX a) (blockN a) k.data.toList d.data.toList).toArray⟩)/\Below w.heap.size w M:=by
 have O:=iI h;have aa:(cC a==0)=false:=by rw[JJ];omega
 have g:blockN a<=128:=by unfold blockN;split<;>omega
 have C:Hid (keyL (cX a) (blockN a) k.data.toList=cX a k.data.toList):=by show keyL _ _ _=_;rw[keyL,if_pos (by simp;omega)]
 have A:∀l,((cX a l).length:Int)<=128:=fun l=>by rw[eo];omega
 have v:∀l,(cX a l).length<=blockN a:=fun l=>by have:=eo a l;omega
 have Q:Hid _:=A;have y:Hid _:=v;clear h O A v;generalize I:blockN a=n at U g C y;go_enter func79,ntmps79;go_wp2_with (first|(go_at_call 92;refine(mu a _).mono ?_;rintro i o ⟨rfl,f⟩;rw[f];clear f o)|(go_at_call 111;refine(zu a _).mono ?_;rintro i o ⟨rfl,f⟩;rw[f,I];clear f o))
 refine(wv a k _ H).mono ?_;rintro e0 w0 ⟨⟨b,t,rfl⟩,z⟩;have j:b.size<=n:=by
  have e:b.data.toList.length=b.size:=by simp
  have h:=y.out k.data.toList;rw[<-t,e]at h;omega
 have F:Hid _:=t;clear t;go_wp2_with fail
 refine(uD b n 54 _ j g).mono ?_;rintro i o ⟨⟨c,q,rfl⟩,R⟩;have Z:c.size<=128:=by
  have e:c.data.toList.length=c.size:=by simp
  rw[<-e,q,iX _ _ _ (by simpa using j)];exact g
 have K:Hid _:=q;clear q;go_wp2_with fail
 refine(wv a (c++d) _ (by simp;omega)).mono ?_;rintro e2 w2 ⟨⟨p,s,rfl⟩,J⟩;have V:p.size<=128:=by
  have e:p.data.toList.length=p.size:=by simp
  have h:=Q.out (c++d).data.toList;rw[<-s,e]at h;omega
 have N:Hid _:=s;clear s;go_wp2_with fail
 refine(uD b n 92 _ j g).mono ?_;rintro e3 w3 ⟨⟨m,r,rfl⟩,L⟩;have Y:m.size<=128:=by
  have e:m.data.toList.length=m.size:=by simp
  rw[<-e,r,iX _ _ _ (by simpa using j)];exact g
 have G:Hid _:=r;clear r;go_wp2_with fail
 refine(wv a (m++p) _ (by simp;omega)).mono ?_;rintro X W ⟨⟨x,B,rfl⟩,S⟩;have T:Hid _:=B;clear B;go_wp2_with fail
 go_ret;have E:=z.trans (R.mono z.size);have u:=E.trans (J.mono E.size);have D:=u.trans (L.mono u.size);have P:=D.trans (S.mono D.size);refine⟨?_,P⟩;show Ending.returned (.string x)=_
 have i:x=⟨(iG (cX a) n k.data.toList d.data.toList).toArray⟩:=by
  apply KF;rw[T.out,iG,C.out];simp[G.out,N.out,K.out,F.out]
 rw[i]
theorem Ek(a:Int)(k d:bZP)(w:Wd)(i:k.size<=140737488355328)(c:d.size<=140737488351232):Calls prog 79 #[.int .i64 a,.string k,.string d] w fun e b=>e=.returned (.string ⟨(gT a k.data.toList d.data.toList).toArray⟩)/\Below w.heap.size w b:=by
 unfold gT;cases h:fY a with
 | false=>exact(Am a k d w h).mono fun e b ⟨g,hw⟩=>⟨g,by rw[hw];exact cF w⟩
 | true=>
   rw[if_pos rfl];by_cases f:blockN a<k.size
   ·exact Bf a k d w h f i c
   ·exact xJ a k d w h (by omega) c
theorem fS(a:Int)(w:Wd):Calls prog 52 #[.int .i64 a] w fun e g=>e=.returned (.int .i64 (cC a))/\g=w:=by
 by_cases c:a=256
 ·subst c
  go_enter func52,ntmps52;go_wp2;go_ret;exact⟨rfl,rfl⟩
 by_cases d:a=384
 ·subst d
  go_enter func52,ntmps52;go_wp2;go_ret;exact⟨rfl,rfl⟩
 by_cases b:a=512
 ·subst b
  go_enter func52,ntmps52;go_wp2;go_ret;exact⟨rfl,rfl⟩
 ·have i:(a==256)=false:=by simp[c]
  have h:(a==512)=false:=by simp[b]
  have f:Hid (cC a=0):=by show cC a=0;simp[cC,c,d,b]
  go_enter func52,ntmps52;go_wp2;go_ret;exact⟨by rw[f.out];rfl,rfl⟩
theorem wb(a:Int)(k d:dj)(h:fY a=true):((gT a k d).length:Int)=cC a:=by
 unfold gT iG;rw[if_pos h,eo]
theorem yP(a:Int)(d:bZP)(w:Wd)(h:cC a=0):Calls prog 84 #[.int .i64 a,.string d] w fun e f=>e=.returned (.string ⟨#[]⟩)/\Below w.heap.size w f:=by
 go_enter func84,ntmps84;go_wp2_with (go_at_call 52;refine(fS a _).mono ?_;rintro g c ⟨rfl,b⟩;rw[b,h];clear b c)
 go_ret;exact⟨rfl,cF w⟩
theorem Cp(a:Int)(d:bZP)(w:Wd)(i:d.size<=140737488355328):Calls prog 84 #[.int .i64 a,.string d] w fun e c=>e=.returned (.string ⟨(cX a d.data.toList).toArray⟩)/\Below w.heap.size w c:=by
 unfold cX;by_cases g:a=256
 ·subst g
  rw[if_pos rfl];refine(Gi 256 32 lq (fS 256) (by omega) (by omega) GB d w i).mono ?_;rintro e c ⟨rfl,b⟩;refine⟨?_,b⟩;rw[yW,Kd (by rw[fs];omega)]
 ·rw[if_neg g]
  by_cases h:a=384
  ·subst h
   rw[if_pos rfl];refine(zZ 384 48 ii (fS 384) (by omega) (by omega) Gz d w i).mono ?_;rintro e c ⟨rfl,b⟩;refine⟨?_,b⟩;rw[ri]
  ·rw[if_neg h]
   by_cases f:a=512
   ·subst f
    rw[if_pos rfl];refine(zZ 512 64 j5 (fS 512) (by omega) (by omega) FS d w i).mono ?_;rintro e c ⟨rfl,b⟩;refine⟨?_,b⟩;rw[ri,Kd (by rw[ek];omega)]
   ·rw[if_neg f]
    exact yP a d w (by simp[cC,g,h,f])
theorem Jw(b c:UInt8):bits .xor .i64 (b.toNat:Int) (c.toNat:Int)=((b^^^c).toNat:Int):=by
 have a:=b.toNat_lt;have d:=c.toNat_lt;have e:∀u:UInt8,((u.toNat:Nat):Int)=eS (BitVec.ofNat 64 u.toNat):=by
  intro u;have f:=u.toNat_lt;unfold eS;rw[Ml,Kw];split<;>omega
 rw[e b,e c,q8,e (b^^^c)];congr 1
 apply LP;rw[BitVec.toNat_xor,Kw,Kw,Kw,UInt8.toNat_xor,KW (by omega),KW (by omega),KW];exact J0 (Nat.xor_lt_two_pow (n:=8) a d) (by omega)
theorem IJ(b c:UInt8):bits .xor .i64 (b.toNat:Int) (c.toNat:Int)%256=((b^^^c).toNat:Int):=by
 rw[Jw];have h:=(b^^^c).toNat_lt;omega
theorem Ht(b c:UInt8):bits .xor .i64 (wrap64 (b.toNat:Int)) (c.toNat:Int)%256=((b^^^c).toNat:Int):=by
 have h:=b.toNat_lt;rw[show wrap64 (b.toNat:Int)=(b.toNat:Int)from by unfold wrap64;omega,IJ]
def fC(c:UInt8)(l:dj)(j:Nat):dj:=(l.take j).map (· ^^^c)++List.replicate (l.length-j) 0
theorem iA(c:UInt8)(l:dj)(j:Nat)(h:j<=l.length):(fC c l j).length=l.length:=by simp[fC];omega
theorem vP(c:UInt8)(l:dj)(j:Nat)(h:j<l.length):(cY (fC c l j))[j]?=some (.int .u8 0):=by
 have a:j<(fC c l j).length:=by rw[iA _ _ _ (by omega)];exact h
 rw[oB _ _ a];have e:(fC c l j)[j]=0:=by simp[fC,List.getElem_append_right,Nat.min_eq_left (Nat.le_of_lt h)]
 rw[e];rfl
theorem wf(c:UInt8)(l:dj)(j:Nat)(h:j<l.length):(cY (fC c l j)).setIfInBounds j (cj (l[j]^^^c))=cY (fC c l (j+1)):=by
 apply Array.ext';rw[KN];simp only[cY];rw[<-List.map_set];congr 1
 have d:List.replicate (l.length-j) (0:UInt8)=0::List.replicate (l.length-(j+1)) 0:=by
  rw[<-List.replicate_succ];congr 1;omega
 have b:=Ks h;have a:j-((l.take j).map (· ^^^c)).length=0:=by simp;omega
 rw[fC,fC,b,d,Mh _ _ (by simp;omega),a,List.set_cons_zero,Kj,J1];rfl
theorem fO(s:bZP)(c:UInt8)(w:Wd)(H:s.size<=128):Calls prog 85 #[.string s,.int .i64 (c.toNat:Int)] w fun e B=>(∃T:dv,T.data.toList=s.data.toList.map (· ^^^c)/\e=.returned (.string T))/\Below w.heap.size w B:=by
 obtain⟨y,k,u,q,p⟩:=Kf mt;obtain⟨n,f⟩:∃n,s.size=n:=⟨_,rfl⟩;have D:∀W:Wd,(Instr.makeSlice 115 (.int .i64 (s.size:Int)) (.int .i64 (s.size:Int))).run prog W=.ok (.slice (some ⟨W.heap.size,0,none⟩) n n) (W.alloc (.cells (cY (List.replicate n 0)) 5)):=fun W=>by
  have:=run_make (P:=prog) W 115 5 y (.int .u8 0) JU k u .i64 .i64 (n:Int) (n:Int) (by omega) (by omega) (by rw[p];omega) (by omega);rw[q,Int.toNat_natCast,pV]at this;rw[f];exact this
 clear k u q p;have l:s.data.toList.length=n:=by rw[<-f];simp
 have h:Hid _:=f;have a:Hid _:=l;clear l f;go_enter func85,ntmps85;go_wp2_with fail
 go_loopw [6] (fun i wr=>∃j:Nat,j<=n/\i=.int .i64 j/\wr.heap[w.heap.size]?=some (.cells (cY (fC c s.data.toList j)) 5 (0,0))/\Below w.heap.size w wr) (fun i _=>n-(intOf i).toNat)
 case atStart=>exact⟨0,by omega,rfl,by rw[JK];simp[fC,a.out],cK (cF _) _⟩
 case round=>
  obtain⟨j,G,rfl,b,m⟩:=hrel;by_cases z:j<n
  ·have r:j<s.data.toList.length:=by rw[a.out];exact z
   have E:wr.cell? ⟨w.heap.size,j,none⟩=some (.int .u8 0):=by rw[JE _ _ _ _ _ _ b,vP _ _ _ r]
   have F:wr.frozen? ⟨w.heap.size,j,none⟩=false:=KO _ _ _ _ _ b;have A:Hid _:=b;clear b
   have C:(j:Int)<(n:Int):=by omega
   go_wp2_with fail
   refine⟨⟨j+1,by omega,by go_num,?_,m.setCell (JQ _) _⟩,by simp[intOf];omega⟩;rw[J5 _ _ _ _ _ _ A.out,<-wf _ _ _ r,Ht];rfl
  ·obtain rfl:j=n:=by omega
   have I:¬(j:Int)<(s.size:Int):=by have:=h.out;omega
   have g:OwnB w.heap.size 5 (.slice (some ⟨w.heap.size,0,none⟩) (fC c s.data.toList j).length j) (fC c s.data.toList j) wr:=by
    refine .inr ⟨w.heap.size,j,_,(0,0),rfl,JQ _,b,.inl (KI _),?_,?_,?_,?_⟩
    ·rw[iA _ _ _ (by rw[a.out];omega),a.out];exact JQ _
    ·have:=h.out;unfold maxLen;omega
    ·rw[mF,iA _ _ _ (by rw[a.out];omega),a.out]
    ·rw[Kd (by simp[cY])];simp[cY]
   rw[iA _ _ _ (by rw[a.out];omega),a.out]at g;have x:=g.str (P:=prog) (t:=115) (d:=9) JU KY Kl;clear g b;generalize o:fC c s.data.toList j=M at x;have v:Hid _:=o;clear o;go_wp2_with fail
   go_ret;refine⟨⟨_,?_,rfl⟩,m⟩;show M=_
   rw[<-v.out,fC,Kd (by rw[a.out];omega),a.out];simp
theorem kq(a:Int)(d:bZP)(w:Wd)(g:d.size<=140737488355328):Calls prog 84 #[.int .i64 a,.string d] w fun e b=>(∃T:dv,T.data.toList=cX a d.data.toList/\e=.returned (.string T))/\Below w.heap.size w b:=
 (Cp a d w g).mono fun e b ⟨c,f⟩=>⟨⟨_,rfl,c⟩,f⟩
theorem du(T:bZP):T.data.toList.length=T.size:=by simp
theorem dT(L:dj):(⟨L.toArray⟩:bZP).size=L.length:=by show L.toArray.size=_;simp
theorem oD(sum:dj->dj)(n:Nat)(k d K L:dj)(a:keyL sum n k=K)(b:L=K++List.replicate (n-K.length) 0):iG sum n k d=sum (L.map (· ^^^92)++sum (L.map (· ^^^54)++d)):=by
 unfold iG lf zE;rw[a,b]
theorem yq(a:Int)(k d:bZP)(w:Wd)(h:fY a=false):Calls prog 49 #[.int .i64 a,.string k,.string d] w fun e g=>e=.returned (.string ⟨#[]⟩)/\g=w:=by
 have c:=pE h;go_enter func49,ntmps49;go_wp2_with (go_at_call 52;refine(fS a _).mono ?_;rintro i f ⟨rfl,b⟩;rw[b,c];clear b f)
 go_ret;exact⟨rfl,rfl⟩
theorem yd(a:Int)(k d:bZP)(w:Wd)(h:fY a=true)(ha:(a==256)=true)(O:blockN a=64)(hk:k.size<=64)(N:k.size<=140737488355328)(hd:d.size<=140737488351232):Calls prog 49 #[.int .i64 a,.string k,.string d] w fun e S=>e=.returned (.string ⟨(iG (cX a) 64 k.data.toList d.data.toList).toArray⟩)/\Below w.heap.size w S:=by
 have W:=iI h;have ah:(cC a==0)=false:=by rw[JJ];omega
 have C:∀T:dv,∀l,T.data.toList=cX a l->T.size<=64:=fun T l e=>by have:=eo a l;rw[<-e,du]at this;omega
 have Z:Hid _:=C;clear h W C O
 go_enter func49,ntmps49;go_wp2_with (go_at_call 52;refine(fS a _).mono ?_;rintro m G ⟨rfl,B⟩;rw[B];clear B G)
 obtain⟨b,g⟩:∃b,b=k:=⟨_,rfl⟩;obtain⟨c,p⟩:∃c,c=w:=⟨_,rfl⟩;have ae:b.size<=64:=by rw[g];exact hk
 have Y:Hid (keyL (cX a) 64 k.data.toList=b.data.toList):=by show keyL _ _ _=_;rw[keyL,if_neg (by rw[du];omega),g]
 have r:Hid (Below w.heap.size w c):=by rw[p];exact cF w
 have A:Hid (b=k/\c=w):=⟨g,p⟩;clear N g p;go_loopw [1] (fun v wr=>∃j:Nat,j<=64-b.size/\v=.string ⟨(b.data.toList++List.replicate j 0).toArray⟩/\wr=c) (fun v _=>64-(match v with| .string s=>s.size|_=>0))
 case atStart=>exact⟨0,by omega,by rw[A.out.1];simp,A.out.2.symm⟩
 case round=>
  obtain⟨j,hj,rfl,hw⟩:=hrel;subst hw;have f:(b.data.toList++List.replicate j 0).length=b.size+j:=by simp
  generalize D:b.data.toList++List.replicate j 0=L at f;have y:Hid _:=D;clear D;by_cases ai:j<64-b.size
  ·have K:(L.length:Int)<64:=by omega
   have aj:Hid _:=f;clear f;go_wp2
   have ea:(⟨L.toArray⟩++⟨#[0]⟩:bZP)=⟨(b.data.toList++List.replicate (j+1) 0).toArray⟩:=by rw[MO,<-J1,y.out];exact ec L [0]
   refine⟨⟨j+1,by omega,by rw[ea],trivial⟩,?_⟩;show 64-(⟨L.toArray⟩++⟨#[0]⟩:bZP).size<64-(⟨L.toArray⟩:bZP).size
   rw[show(⟨L.toArray⟩++⟨#[0]⟩:bZP)=_ from ec L [0],dT,dT,JH];show 64-(L.length+1)<64-L.length
   omega
  ·have u:L.length=64:=by omega
   have K:¬(L.length:Int)<64:=by omega
   have V:Hid (L=b.data.toList++List.replicate (64-b.data.toList.length) 0):=by show L=_;rw[<-y.out,du];congr 2;omega
   have i:Hid _:=u;clear u f;go_wp2_with fail
   refine(fO ⟨L.toArray⟩ 54 _ (by rw[dT,i.out];omega)).mono ?_;rintro m G ⟨⟨x,n,rfl⟩,aa⟩;have ag:x.size<=128:=by rw[<-du,n,Kq];show L.length<=128;rw[i.out];omega
   have Q:Hid _:=n;clear n;go_wp2_with fail
   refine(kq a (x++d) _ (by simp;omega)).mono ?_;rintro e2 w2 ⟨⟨J,q,rfl⟩,P⟩;have ad:=Z.out J _ q;have U:Hid _:=q;clear q;go_wp2_with fail
   refine(fO ⟨L.toArray⟩ 92 _ (by rw[dT,i.out];omega)).mono ?_;rintro e3 w3 ⟨⟨F,o,rfl⟩,R⟩;have af:F.size<=128:=by rw[<-du,o,Kq];show L.length<=128;rw[i.out];omega
   have M:Hid _:=o;clear o;go_wp2_with fail
   refine(kq a (F++J) _ (by simp;omega)).mono ?_;rintro e4 w4 ⟨⟨z,E,rfl⟩,ab⟩;have ac:Hid _:=E;clear E;go_wp2_with fail
   go_ret;have I:=r.out.trans (aa.mono r.out.size);have t:=I.trans (P.mono I.size);have H:=t.trans (R.mono t.size);have X:=H.trans (ab.mono H.size);refine⟨?_,X⟩;show Ending.returned (.string z)=_
   have m:z=⟨(iG (cX a) 64 k.data.toList d.data.toList).toArray⟩:=by
    apply KF;rw[ac.out,oD _ _ _ _ _ _ Y.out V.out];simp[M.out,U.out,Q.out]
   rw[m]
theorem xy(a:Int)(k d:bZP)(w:Wd)(h:fY a=true)(ha:(a==256)=true)(O:blockN a=64)(G:64<k.size)(t:k.size<=140737488355328)(hd:d.size<=140737488351232):Calls prog 49 #[.int .i64 a,.string k,.string d] w fun e U=>e=.returned (.string ⟨(iG (cX a) 64 k.data.toList d.data.toList).toArray⟩)/\Below w.heap.size w U:=by
 have X:=iI h;have ah:(cC a==0)=false:=by rw[JJ];omega
 have B:∀T:dv,∀l,T.data.toList=cX a l->T.size<=64:=fun T l e=>by have:=eo a l;rw[<-e,du]at this;omega
 have D:Hid _:=B;clear h X B O;have Q:(64:Int)<(k.size:Int):=by omega
 go_enter func49,ntmps49;go_wp2_with (go_at_call 52;refine(fS a _).mono ?_;rintro g H ⟨rfl,A⟩;rw[A];clear A H)
 refine(kq a k _ t).mono ?_;rintro e0 W ⟨⟨b,i,rfl⟩,z⟩;have ae:=D.out b _ i;have HK:Hid (keyL (cX a) 64 k.data.toList=b.data.toList):=by show keyL _ _ _=_;rw[keyL,if_pos (by rw[du];exact G),i]
 have p:Hid _:=z;clear z i G t Q;go_wp2
 go_loopw [1] (fun v wr=>∃j:Nat,j<=64-b.size/\v=.string ⟨(b.data.toList++List.replicate j 0).toArray⟩/\wr=W) (fun v _=>64-(match v with| .string s=>s.size|_=>0))
 case atStart=>exact⟨0,by omega,by simp,rfl⟩
 case round=>
  obtain⟨j,hj,rfl,hw⟩:=hrel;subst hw;have f:(b.data.toList++List.replicate j 0).length=b.size+j:=by simp
  generalize C:b.data.toList++List.replicate j 0=L at f;have x:Hid _:=C;clear C;by_cases ai:j<64-b.size
  ·have M:(L.length:Int)<64:=by omega
   clear f;go_wp2_with fail
   have ea:(⟨L.toArray⟩++⟨#[0]⟩:bZP)=⟨(b.data.toList++List.replicate (j+1) 0).toArray⟩:=by rw[MO,<-J1,x.out];exact ec L [0]
   refine⟨⟨j+1,by omega,by rw[ea],trivial⟩,?_⟩;show 64-(⟨L.toArray⟩++⟨#[0]⟩:bZP).size<64-(⟨L.toArray⟩:bZP).size
   rw[show(⟨L.toArray⟩++⟨#[0]⟩:bZP)=_ from ec L [0],dT,dT,JH];show 64-(L.length+1)<64-L.length
   omega
  ·have r:L.length=64:=by omega
   have M:¬(L.length:Int)<64:=by omega
   have V:Hid (L=b.data.toList++List.replicate (64-b.data.toList.length) 0):=by show L=_;rw[<-x.out,du];congr 2;omega
   have c:Hid _:=r;clear r f;go_wp2_with fail
   refine(fO ⟨L.toArray⟩ 54 _ (by rw[dT,c.out];omega)).mono ?_;rintro g H ⟨⟨u,m,rfl⟩,aa⟩;have ag:u.size<=128:=by rw[<-du,m,Kq];show L.length<=128;rw[c.out];omega
   have R:Hid _:=m;clear m;go_wp2_with fail
   refine(kq a (u++d) _ (by simp;omega)).mono ?_;rintro e2 w2 ⟨⟨K,o,rfl⟩,P⟩;have ad:=D.out K _ o;have Y:Hid _:=o;clear o;go_wp2_with fail
   refine(fO ⟨L.toArray⟩ 92 _ (by rw[dT,c.out];omega)).mono ?_;rintro e3 w3 ⟨⟨F,n,rfl⟩,S⟩;have af:F.size<=128:=by rw[<-du,n,Kq];show L.length<=128;rw[c.out];omega
   have N:Hid _:=n;clear n;go_wp2_with fail
   refine(kq a (F++K) _ (by simp;omega)).mono ?_;rintro e4 w4 ⟨⟨y,E,rfl⟩,ab⟩;have ac:Hid _:=E;clear E;go_wp2_with fail
   go_ret;have J:=p.out.trans (aa.mono p.out.size);have q:=J.trans (P.mono J.size);have I:=q.trans (S.mono q.size);have Z:=I.trans (ab.mono I.size);refine⟨?_,Z⟩;show Ending.returned (.string y)=_
   have g:y=⟨(iG (cX a) 64 k.data.toList d.data.toList).toArray⟩:=by
    apply KF;rw[ac.out,oD _ _ _ _ _ _ HK.out V.out];simp[N.out,Y.out,R.out]
   rw[g]
theorem xi(a:Int)(k d:bZP)(w:Wd)(h:fY a=true)(ha:(a==256)=false)(O:blockN a=128)(hk:k.size<=128)(N:k.size<=140737488355328)(hd:d.size<=140737488351232):Calls prog 49 #[.int .i64 a,.string k,.string d] w fun e S=>e=.returned (.string ⟨(iG (cX a) 128 k.data.toList d.data.toList).toArray⟩)/\Below w.heap.size w S:=by
 have W:=iI h;have ah:(cC a==0)=false:=by rw[JJ];omega
 have C:∀T:dv,∀l,T.data.toList=cX a l->T.size<=128:=fun T l e=>by have:=eo a l;rw[<-e,du]at this;omega
 have Z:Hid _:=C;clear h W C O
 go_enter func49,ntmps49;go_wp2_with (go_at_call 52;refine(fS a _).mono ?_;rintro m G ⟨rfl,B⟩;rw[B];clear B G)
 obtain⟨b,g⟩:∃b,b=k:=⟨_,rfl⟩;obtain⟨c,p⟩:∃c,c=w:=⟨_,rfl⟩;have ae:b.size<=128:=by rw[g];exact hk
 have Y:Hid (keyL (cX a) 128 k.data.toList=b.data.toList):=by show keyL _ _ _=_;rw[keyL,if_neg (by rw[du];omega),g]
 have r:Hid (Below w.heap.size w c):=by rw[p];exact cF w
 have A:Hid (b=k/\c=w):=⟨g,p⟩;clear N g p;go_loopw [1] (fun v wr=>∃j:Nat,j<=128-b.size/\v=.string ⟨(b.data.toList++List.replicate j 0).toArray⟩/\wr=c) (fun v _=>128-(match v with| .string s=>s.size|_=>0))
 case atStart=>exact⟨0,by omega,by rw[A.out.1];simp,A.out.2.symm⟩
 case round=>
  obtain⟨j,hj,rfl,hw⟩:=hrel;subst hw;have f:(b.data.toList++List.replicate j 0).length=b.size+j:=by simp
  generalize D:b.data.toList++List.replicate j 0=L at f;have y:Hid _:=D;clear D;by_cases ai:j<128-b.size
  ·have K:(L.length:Int)<128:=by omega
   have aj:Hid _:=f;clear f;go_wp2
   have ea:(⟨L.toArray⟩++⟨#[0]⟩:bZP)=⟨(b.data.toList++List.replicate (j+1) 0).toArray⟩:=by rw[MO,<-J1,y.out];exact ec L [0]
   refine⟨⟨j+1,by omega,by rw[ea],trivial⟩,?_⟩;show 128-(⟨L.toArray⟩++⟨#[0]⟩:bZP).size<128-(⟨L.toArray⟩:bZP).size
   rw[show(⟨L.toArray⟩++⟨#[0]⟩:bZP)=_ from ec L [0],dT,dT,JH];show 128-(L.length+1)<128-L.length
   omega
  ·have u:L.length=128:=by omega
   have K:¬(L.length:Int)<128:=by omega
   have V:Hid (L=b.data.toList++List.replicate (128-b.data.toList.length) 0):=by show L=_;rw[<-y.out,du];congr 2;omega
   have i:Hid _:=u;clear u f;go_wp2_with fail
   refine(fO ⟨L.toArray⟩ 54 _ (by rw[dT,i.out];omega)).mono ?_;rintro m G ⟨⟨x,n,rfl⟩,aa⟩;have ag:x.size<=128:=by rw[<-du,n,Kq];show L.length<=128;rw[i.out];omega
   have Q:Hid _:=n;clear n;go_wp2_with fail
   refine(kq a (x++d) _ (by simp;omega)).mono ?_;rintro e2 w2 ⟨⟨J,q,rfl⟩,P⟩;have ad:=Z.out J _ q;have U:Hid _:=q;clear q;go_wp2_with fail
   refine(fO ⟨L.toArray⟩ 92 _ (by rw[dT,i.out];omega)).mono ?_;rintro e3 w3 ⟨⟨F,o,rfl⟩,R⟩;have af:F.size<=128:=by rw[<-du,o,Kq];show L.length<=128;rw[i.out];omega
   have M:Hid _:=o;clear o;go_wp2_with fail
   refine(kq a (F++J) _ (by simp;omega)).mono ?_;rintro e4 w4 ⟨⟨z,E,rfl⟩,ab⟩;have ac:Hid _:=E;clear E;go_wp2_with fail
   go_ret;have I:=r.out.trans (aa.mono r.out.size);have t:=I.trans (P.mono I.size);have H:=t.trans (R.mono t.size);have X:=H.trans (ab.mono H.size);refine⟨?_,X⟩;show Ending.returned (.string z)=_
   have m:z=⟨(iG (cX a) 128 k.data.toList d.data.toList).toArray⟩:=by
    apply KF;rw[ac.out,oD _ _ _ _ _ _ Y.out V.out];simp[M.out,U.out,Q.out]
   rw[m]
theorem y8(a:Int)(k d:bZP)(w:Wd)(h:fY a=true)(ha:(a==256)=false)(O:blockN a=128)(G:128<k.size)(t:k.size<=140737488355328)(hd:d.size<=140737488351232):Calls prog 49 #[.int .i64 a,.string k,.string d] w fun e U=>e=.returned (.string ⟨(iG (cX a) 128 k.data.toList d.data.toList).toArray⟩)/\Below w.heap.size w U:=by
 have X:=iI h;have ah:(cC a==0)=false:=by rw[JJ];omega
 have B:∀T:dv,∀l,T.data.toList=cX a l->T.size<=128:=fun T l e=>by have:=eo a l;rw[<-e,du]at this;omega
 have D:Hid _:=B;clear h X B O;have Q:(128:Int)<(k.size:Int):=by omega
 go_enter func49,ntmps49;go_wp2_with (go_at_call 52;refine(fS a _).mono ?_;rintro g H ⟨rfl,A⟩;rw[A];clear A H)
 refine(kq a k _ t).mono ?_;rintro e0 W ⟨⟨b,i,rfl⟩,z⟩;have ae:=D.out b _ i;have HK:Hid (keyL (cX a) 128 k.data.toList=b.data.toList):=by show keyL _ _ _=_;rw[keyL,if_pos (by rw[du];exact G),i]
 have p:Hid _:=z;clear z i G t Q;go_wp2
 go_loopw [1] (fun v wr=>∃j:Nat,j<=128-b.size/\v=.string ⟨(b.data.toList++List.replicate j 0).toArray⟩/\wr=W) (fun v _=>128-(match v with| .string s=>s.size|_=>0))
 case atStart=>exact⟨0,by omega,by simp,rfl⟩
 case round=>
  obtain⟨j,hj,rfl,hw⟩:=hrel;subst hw;have f:(b.data.toList++List.replicate j 0).length=b.size+j:=by simp
  generalize C:b.data.toList++List.replicate j 0=L at f;have x:Hid _:=C;clear C;by_cases ai:j<128-b.size
  ·have M:(L.length:Int)<128:=by omega
   clear f;go_wp2_with fail
   have ea:(⟨L.toArray⟩++⟨#[0]⟩:bZP)=⟨(b.data.toList++List.replicate (j+1) 0).toArray⟩:=by rw[MO,<-J1,x.out];exact ec L [0]
   refine⟨⟨j+1,by omega,by rw[ea],trivial⟩,?_⟩;show 128-(⟨L.toArray⟩++⟨#[0]⟩:bZP).size<128-(⟨L.toArray⟩:bZP).size
   rw[show(⟨L.toArray⟩++⟨#[0]⟩:bZP)=_ from ec L [0],dT,dT,JH];show 128-(L.length+1)<128-L.length
   omega
  ·have r:L.length=128:=by omega
   have M:¬(L.length:Int)<128:=by omega
   have V:Hid (L=b.data.toList++List.replicate (128-b.data.toList.length) 0):=by show L=_;rw[<-x.out,du];congr 2;omega
   have c:Hid _:=r;clear r f;go_wp2_with fail
   refine(fO ⟨L.toArray⟩ 54 _ (by rw[dT,c.out];omega)).mono ?_;rintro g H ⟨⟨u,m,rfl⟩,aa⟩;have ag:u.size<=128:=by rw[<-du,m,Kq];show L.length<=128;rw[c.out];omega
   have R:Hid _:=m;clear m;go_wp2_with fail
   refine(kq a (u++d) _ (by simp;omega)).mono ?_;rintro e2 w2 ⟨⟨K,o,rfl⟩,P⟩;have ad:=D.out K _ o;have Y:Hid _:=o;clear o;go_wp2_with fail
   refine(fO ⟨L.toArray⟩ 92 _ (by rw[dT,c.out];omega)).mono ?_;rintro e3 w3 ⟨⟨F,n,rfl⟩,S⟩;have af:F.size<=128:=by rw[<-du,n,Kq];show L.length<=128;rw[c.out];omega
   have N:Hid _:=n;clear n;go_wp2_with fail
   refine(kq a (F++K) _ (by simp;omega)).mono ?_;rintro e4 w4 ⟨⟨y,E,rfl⟩,ab⟩;have ac:Hid _:=E;clear E;go_wp2_with fail
   go_ret;have J:=p.out.trans (aa.mono p.out.size);have q:=J.trans (P.mono J.size);have I:=q.trans (S.mono q.size);have Z:=I.trans (ab.mono I.size);refine⟨?_,Z⟩;show Ending.returned (.string y)=_
   have g:y=⟨(iG (cX a) 128 k.data.toList d.data.toList).toArray⟩:=by
    apply KF;rw[ac.out,oD _ _ _ _ _ _ HK.out V.out];simp[N.out,Y.out,R.out]
   rw[g]
theorem An(a:Int)(k d:bZP)(w:Wd)(f:k.size<=140737488355328)(g:d.size<=140737488351232):Calls prog 49 #[.int .i64 a,.string k,.string d] w fun e j=>e=.returned (.string ⟨(gT a k.data.toList d.data.toList).toArray⟩)/\Below w.heap.size w j:=by
 unfold gT;cases h:fY a with
 | false=>rw[if_neg (by simp)];exact(yq a k d w h).mono fun e j ⟨l,hw⟩=>⟨l,by rw[hw];exact cF w⟩
 | true=>
   rw[if_pos rfl];by_cases c:a=256
   ·have b:blockN a=64:=by rw[c];rfl
    rw[b];by_cases i:k.size<=64
    ·exact yd a k d w h (by simp[c]) b i f g
    ·exact xy a k d w h (by simp[c]) b (by omega) f g
   ·have b:blockN a=128:=by unfold blockN;rw[if_neg c]
    rw[b];by_cases i:k.size<=128
    ·exact xi a k d w h (by simp[c]) b i f g
    ·exact y8 a k d w h (by simp[c]) b (by omega) f g
def headB(alg:Int)(kid:bZP):bZP:=⟨#[123,34,97,108,103,34,58,34]⟩++nameB alg++⟨#[34,44,34,107,105,100,34,58,34]⟩++kid++⟨#[34,44,34,116,121,112,34,58,34,74,87,84,34,125]⟩
theorem j0(b:Int)(a:bZP):(headB b a).size<=36+a.size:=by
 have h:(nameB b).size<=5:=by
  unfold nameB;repeat' split
  all_goals decide
 simp only[headB,K4];have d:(⟨#[123,34,97,108,103,34,58,34]⟩:bZP).size=8:=rfl;have e:(⟨#[34,44,34,107,105,100,34,58,34]⟩:bZP).size=9:=rfl;have c:(⟨#[34,44,34,116,121,112,34,58,34,74,87,84,34,125]⟩:bZP).size=14:=rfl;omega
theorem vg(a:Int)(b:bZP)(w:Wd)(n:WG w)(y:b.size<=40):Calls prog 78 #[.agg #[.int .i64 a,.string b]] w fun r f=>r=.returned (.string (headB a b))/\Below w.heap.size w f:=by
 have q:=fun l (s:Below w.heap.size w l)=>pv a l (n.below s)
 have A:(nameB a).size<=5:=by
  unfold nameB;repeat' split
  all_goals decide
 unfold headB;have m:=ci q;generalize nameB a=c at *;have t:¬9223372036854775807<8+c.size:=by omega
 have u:¬9223372036854775807<8+c.size+9:=by omega
 have B:¬9223372036854775807<8+c.size+9+b.size:=by omega
 have x:¬9223372036854775807<8+c.size+9+b.size+14:=by omega
 go_enter func78,ntmps78;go_wp2
 have g:=ci ((d6 (JI w.heap.size w) (.cells #[.int .i64 a,.string b] 90)).drew);have o:Hid (∀d,Below (w.heap.size+1) (w.alloc (.cells #[.int .i64 a,.string b] 90)) d->d.cell? ⟨w.heap.size,0,none⟩=some (.int .i64 a)/\d.cell? ⟨w.heap.size,1,none⟩=some (.string b)):=fun d j=>
  ⟨(j.cell (p:=⟨w.heap.size,0,none⟩) (by simp)).trans (by simp),(j.cell (p:=⟨w.heap.size,1,none⟩) (by simp)).trans (by simp)⟩
 go_region_held3 (fun f=>f.cell? ⟨w.heap.size,0,none⟩=some (.int .i64 a)/\f.cell? ⟨w.heap.size,1,none⟩=some (.string b)) (go_keep) (first|(go_at_call 59;refine(m.out _ (by exact g.out)).mono ?_;rintro e i ⟨rfl,h⟩;have k:Hid (Below w.heap.size w i/\Below (w.heap.size+1) (w.alloc (.cells #[.int .i64 a,.string b] 90)) i):=(by exact⟨g.out.trans (h.mono g.out.size),(JI _ _).drew.trans (h.mono (by simp))⟩);obtain⟨v,z⟩:=o.out _ k.out.2;clear h))
 all_goals go_wp2_with fail
 all_goals go_ret
 all_goals exact⟨rfl,k.out.1⟩
theorem Id(a:Int)(b:bZP)(w:Wd)(g:a=256\/a=384\/a=512)(n:b.size<=40):Calls prog 48 #[.agg #[.int .i64 a,.string b]] w fun r j=>r=.returned (.string (headB a b))/\Below w.heap.size w j:=by
 have i:=fun d=>Et a d g
 have o:(nameB a).size<=5:=by
  unfold nameB;repeat' split
  all_goals decide
 unfold headB;have f:=ci i;generalize nameB a=c at *;have k:¬9223372036854775807<8+c.size:=by omega
 have l:¬9223372036854775807<8+c.size+9:=by omega
 have p:¬9223372036854775807<8+c.size+9+b.size:=by omega
 have m:¬9223372036854775807<8+c.size+9+b.size+14:=by omega
 go_enter func48,ntmps48;go_wp2_with fail
 refine(f.out _).mono ?_;rintro r d ⟨rfl,e⟩;have q:d.cell? ⟨w.heap.size,1,none⟩=some (.string b):=cl e (by simp);have h:=ci ((d6 (JI w.heap.size w) _).trans (e.mono (by simp)));go_wp2;go_ret;exact⟨rfl,h.out⟩
def encB(x:bZP):bZP:=⟨(enc (dB x) x.size).toArray⟩
def macB(alg:Int)(key d:bZP):bZP:=⟨(gT alg key.data.toList d.data.toList).toArray⟩
def signedB(alg:Int)(kid form:bZP):bZP:=encB (headB alg kid)++⟨#[46]⟩++encB form
def qq(alg:Int)(kid key form:bZP):bZP:=signedB alg kid form++⟨#[46]⟩++encB (macB alg key (signedB alg kid form))
def yO:JT->Bool
 | .obj _ _=>true
 | _=>false
def sgR(alg:Int)(kid key:bZP)(R:Except (Nat×Nat) JT):bZP×Int×Int:=
 if keyErr alg kid key=0 then
  match R with
  | .error (e,a)=>(⟨#[]⟩,(e:Int),(a:Int))
  | .ok t=>if yO t=true then(if(qq alg kid key ⟨(cQ t).toArray⟩).size<=65536 then(qq alg kid key ⟨(cQ t).toArray⟩,0,0)else(⟨#[]⟩,1,0))else(⟨#[]⟩,6,0)
 else(⟨#[]⟩,keyErr alg kid key,0)
theorem td{a:Int}{b f:bZP}(h:keyErr a b f=0):(a=256\/a=384\/a=512)/\1<=b.size/\b.size<=40/\f.size<=200:=by
 unfold keyErr at h;split at h
 ·omega
 ·rename_i c
  split at h
  ·omega
  ·rename_i j
   split at h
   ·omega
   ·rename_i i
    refine⟨?_,?_⟩
    ·unfold sizeN at c
     by_cases d:a=256
     ·exact .inl d
     ·by_cases e:a=384
      ·exact .inr (.inl e)
      ·by_cases g:a=512
       ·exact .inr (.inr g)
       ·rw[if_neg d,if_neg e,if_neg g]at c;exact absurd rfl c
    ·simp only[eP,fx,Bool.not_eq_false,Kz,Kx]at j i
     omega
theorem iT(x:bZP):(encB x).size<=2*x.size+2:=by
 have:(encB x).size=(enc (dB x) x.size).length:=by show(enc (dB x) x.size).toArray.size=_;simp
 rw[this,jb];omega
theorem Ca(t:JT):([123]:dj).isPrefixOf (cQ t)=yO t:=by
 cases t with
 | null i=>rfl
 | truth b i=>cases b<;>rfl
 | int n i=>
   rw[cQ];obtain⟨x,_,⟨_,e,_⟩|⟨_,e⟩⟩:=mc n
   ·rw[e];rfl
   ·obtain⟨c,r,a,d,_⟩:=kX x
    rw[e,a];have:(123==c)=false:=by
     rw[JJ];rintro rfl;exact absurd d (by decide)
    simp[List.isPrefixOf,this,yO]
 | str s i=>rw[cQ];rfl
 | arr f i=>rw[cQ];rfl
 | obj g i=>rw[cQ];rfl
theorem ox(a:Int)(b d:bZP):(macB a b d).size<=64:=by
 have h:(macB a b d).size=(gT a b.data.toList d.data.toList).length:=by show(gT a b.data.toList d.data.toList).toArray.size=_;simp
 rw[h];cases c:fY a with
 | true=>
   have:=wb a b.data.toList d.data.toList c;unfold cC at this;split at this<;>(try split at this)<;>(try split at this)<;>omega
 | false=>unfold gT;rw[c,if_neg (by simp)];simp
theorem I1(s:bZP)(w:Wd):Calls prog 76 #[.string s] w fun r a=>r=.returned (.bool (([123]:dj).isPrefixOf s.data.toList))/\a=w:=by
 have h:=strings_HasPrefix s ⟨#[123]⟩ w;go_enter func76,ntmps76;go_wp2_with fail
 refine h.mono ?_;rintro r b ⟨rfl,hw⟩;rw[hw];go_wp2;go_ret;exact⟨rfl,rfl⟩
theorem CO(a:Int)(b d c:bZP)(f:b.size<=40)(i:c.size<=1000000000):(encB (headB a b)).size<=1000/\(encB c).size<=3000000000/\(signedB a b c).size<=4000000000/\(encB (macB a d (signedB a b c))).size<=1000/\(encB (headB a b)++(⟨#[46]⟩:bZP)).size<=1001:=by
 have j:=iT (headB a b);have g:=j0 a b;have e:=iT c;have h:=iT (macB a d (signedB a b c));have m:=ox a d (signedB a b c);have k:(signedB a b c).size=(encB (headB a b)).size+1+(encB c).size:=by simp only[signedB,K4];rfl
 have l:(encB (headB a b)++(⟨#[46]⟩:bZP)).size=(encB (headB a b)).size+1:=by simp only[K4];rfl
 omega
theorem Il(b:Int)(d g y:bZP)(w:Wd)(hg:9<=w.heap.size)(hG:GV w)(ak:Lib.TabBelow prog w.heap.size w "internal/strconv.uint64pow10" .u64 Lib.pow10Tab)(G:WG w)(h1:d.size<=4611686018427387904)(h2:g.size<=4611686018427387904):Calls prog 41 #[.agg #[.int .i64 b,.string d],.string g,.string y] w fun r D=>r=.returned (.tuple #[.string (sgR b d g (cB y.data.toList)).1,.int .i64 (sgR b d g (cB y.data.toList)).2.1,.int .i64 (sgR b d g (cB y.data.toList)).2.2])/\Below w.heap.size w D:=by
 have am:=fun c (p:Below w.heap.size w c)=>nx b d g c (G.below p) h1 h2
 have aj:=fun c (p:Below w.heap.size w c)=>uc y c (by have:=p.size;omega) (hG.kept fun k hk=>p.block k (by omega)) (fun I l=>ak I (p.trans (l.mono p.size)))
 have o:=ci am;have i:=ci aj;clear am aj hG ak;by_cases z:keyErr b d g=0
 ·obtain⟨ha,aq,ac,au⟩:=td z
  have ah:=fun c (p:Below w.heap.size w c)=>vg b d c (G.below p) ac
  have L:=ci ah;rw[z]at o;unfold sgR;rw[if_pos z];clear ah G z h1 h2;cases B:cB y.data.toList with
  | error q=>
    obtain⟨e,a⟩:=q;have he:=y9 B;rw[B]at i;have k2:((e:Int) != 0)=true:=by simp;omega
    have k3:¬((e:Int)=0):=by omega
    unfold prF at i;dsimp only at i ⊢;clear B L;go_enter func41,ntmps41;go_wp2_with fail
    refine(o.out _ (d6 (JI _ _) _)).mono ?_;rintro r c ⟨rfl,h⟩;have f:=ci ((d6 (JI w.heap.size w) _).trans (h.mono (by simp)));clear h o;go_wp2_with fail
    refine(i.out _ f.out).mono ?_;rintro r I ⟨rfl,l⟩;have s:=ci (f.out.trans (l.mono f.out.size));clear l i f;go_wp2;go_ret3
    exact⟨rfl,s.out⟩
  | ok t=>
    have ao:(⟨(cQ t).toArray⟩:bZP).size<=1000000000:=by
     have h3:=(ey B).2.one (flat 0 [] t).length 0;have V:=kG t;unfold prF at V;dsimp only at V;have h5:formN (flat 0 [] t) (flat 0 [] t).length 0=cQ t:=by injection V
     rw[h5]at h3;show(cQ t).toArray.size<=_
     simpa using h3
    rw[B,kG]at i;have O:=fun c=>I1 ⟨(cQ t).toArray⟩ c
    have el:(⟨(cQ t).toArray⟩:bZP).data.toList=cQ t:=by simp
    rw[el,Ca]at O;dsimp only at i ⊢;clear B el;generalize (⟨(cQ t).toArray⟩:bZP)=j at *;have A:=ci O;clear O;cases ho:yO t with
    | false=>
      rw[ho]at A;rw[if_neg (by simp)];clear L;go_enter func41,ntmps41;go_wp2_with fail
      refine(o.out _ (d6 (JI _ _) _)).mono ?_;rintro r c ⟨rfl,h⟩;have f:=ci ((d6 (JI w.heap.size w) _).trans (h.mono (by simp)));clear h o;go_wp2_with fail
      refine(i.out _ f.out).mono ?_;rintro r I ⟨rfl,l⟩;have s:=ci (f.out.trans (l.mono f.out.size));clear l i f;go_wp2_with fail
      refine(A.out _).mono ?_;rintro r H ⟨rfl,C⟩;rw[C];clear C H A;go_wp2;go_ret3
      exact⟨rfl,s.out⟩
    | true=>
      rw[ho]at A;rw[if_pos rfl];obtain⟨z1,z2,z3,z4,z5⟩:=CO b d g j ac ao;have ar:=j0 b d;have ap:=ox b g (signedB b d j);have W:=fun c=>j1 (headB b d) c (by omega)
      have R:=fun c=>j1 j c (by omega)
      have U:=fun c=>j1 (macB b g (signedB b d j)) c (by omega)
      have aa:=fun c=>Ek b g (signedB b d j) c (by omega) (by omega)
      have e0:encB (headB b d)++(⟨#[46]⟩:bZP)++encB j=signedB b d j:=rfl;change ∀c,Calls _ _ _ _ fun e D=>e=.returned (.string (encB (headB b d)))/\_ at W
      change ∀c,Calls _ _ _ _ fun e D=>e=.returned (.string (encB j))/\_ at R
      change ∀c,Calls _ _ _ _ fun e D=>e=.returned (.string (encB (macB b g (signedB b d j))))/\_ at U
      change ∀c,Calls _ _ _ _ fun e D=>e=.returned (.string (macB b g (signedB b d j)))/\_ at aa
      unfold qq;generalize signedB b d j=m at *;generalize macB b g m=MB at *;generalize headB b d=HD at *;generalize encB HD=E1 at *;generalize encB j=E2 at *;generalize encB MB=u at *;have ae:=ci W;have af:=ci R;have ad:=ci U;have ai:=ci aa;have E0:=ci e0;obtain⟨X,n⟩:∃X:bZP×Int×Int,X=(if(m++(⟨#[46]⟩:bZP)++u).size<=65536 then(m++(⟨#[46]⟩:bZP)++u,0,0)else(⟨#[]⟩,1,0)):=⟨_,rfl⟩;rw[<-n];have J:=ci n;clear W R U aa e0 n;go_enter func41,ntmps41;go_wp2_with fail
      refine(o.out _ (d6 (JI _ _) _)).mono ?_;rintro r c ⟨rfl,h⟩;have x:c.cell? ⟨w.heap.size,0,none⟩=some (.int .i64 b):=cl h (by simp);have v:c.cell? ⟨w.heap.size,1,none⟩=some (.string d):=cl h (by simp);have Q:=ci (And.intro x v);have f:=ci ((d6 (JI w.heap.size w) _).trans (h.mono (by simp)));clear h o x v;go_wp2_with fail
      refine(i.out _ f.out).mono ?_;rintro r I ⟨rfl,l⟩;have x:=cl l Q.out.1;have v:=cl l Q.out.2;have s:=ci (f.out.trans (l.mono f.out.size));clear l i f Q;go_wp2_with fail
      refine(A.out _).mono ?_;rintro r H ⟨rfl,C⟩;rw[C];clear C H A;go_wp2_with fail
      refine(L.out _ s.out).mono ?_;rintro r H ⟨rfl,M⟩;have Y:=ci (And.intro (cl M x) (cl M v));have T:=ci (s.out.trans (M.mono s.out.size));clear M L s x v;go_wp2_with fail
      refine(ae.out _).mono ?_;rintro r w4 ⟨rfl,K⟩;have S:=ci (And.intro (cl K Y.out.1) (cl K Y.out.2));have ab:=ci (T.out.trans (K.mono T.out.size));clear K ae T Y;go_wp2_with fail
      refine(af.out _).mono ?_;rintro r w5 ⟨rfl,F⟩;have x:=cl F S.out.1;have v:=cl F S.out.2;have Z:=ci (ab.out.trans (F.mono ab.out.size));clear F af ab S;have q1:¬9223372036854775807<E1.size+1:=by omega
      have q2:¬9223372036854775807<E1.size+1+E2.size:=by omega
      go_wp2_with fail
      rw[E0.out];refine(ai.out _).mono ?_;rintro r w6 ⟨rfl,al⟩;have P:=ci (Z.out.trans (al.mono Z.out.size));clear al ai Z x v;go_wp2_with fail
      refine(ad.out _).mono ?_;rintro r w7 ⟨rfl,ag⟩;have an:=ci (P.out.trans (ag.mono P.out.size));clear ag ad P;have q3:¬9223372036854775807<m.size+1:=by omega
      have q4:¬9223372036854775807<m.size+1+u.size:=by omega
      have q5:(m++(⟨#[46]⟩:bZP)++u).size=m.size+1+u.size:=by simp only[K4];rfl
      by_cases N:(m++(⟨#[46]⟩:bZP)++u).size<=65536
      ·have n:=J.out
       rw[if_pos N]at n;subst n;clear J;rw[q5]at N;have q6:¬(65536:Int)<((m.size+1+u.size:Nat):Int):=by omega
       go_wp2;go_ret3
       exact⟨rfl,an.out⟩
      ·have n:=J.out
       rw[if_neg N]at n;subst n;clear J;rw[q5]at N;have q6:(65536:Int)<((m.size+1+u.size:Nat):Int):=by omega
       go_wp2;go_ret3
       exact⟨rfl,an.out⟩
 ·unfold sgR
  rw[if_neg z];have k1:((keyErr b d g) != 0)=true:=by simp[z]
  generalize keyErr b d g=E at *;clear i G;dsimp only;go_enter func41,ntmps41;go_wp2_with fail
  refine(o.out _ (d6 (JI _ _) _)).mono ?_;rintro r c ⟨rfl,h⟩;have f:=ci ((d6 (JI w.heap.size w) _).trans (h.mono (by simp)));clear h o;go_wp2;go_ret3
  exact⟨rfl,f.out⟩
theorem Hm(t:JT):∃n,(flat 0 [] t)[0]?=some n/\(n.kind=5↔yO t=true):=by
 cases t<;>rw[flat]<;>exact⟨_,rfl,by simp[yO]⟩
theorem Bl(a:Int)(b d c:bZP)(f:b.size<=40)(i:c.size<=1000000000):(encB (headB a b)).size<=1000/\(encB c).size<=3000000000/\(signedB a b c).size<=4000000000/\(encB (macB a d (signedB a b c))).size<=1000:=by
 have j:=iT (headB a b);have g:=j0 a b;have e:=iT c;have h:=iT (macB a d (signedB a b c));have l:=ox a d (signedB a b c);have k:(signedB a b c).size=(encB (headB a b)).size+1+(encB c).size:=by simp only[signedB,K4];rfl
 omega
theorem s6{B:Nat}{d:TypeId}{v:Value}{L:oa}{w w':Wd}(h:cr B d v L w)(e:Below w.heap.size w w'):cr B d v L w':=by
 obtain⟨l,f,m,j,o⟩:=h;exact⟨l,f,ez m (fun g _ c=>e.block g c),fun k n i a b=>ez (j k n i a b) (fun g _ c=>e.block g c),o⟩
theorem yC(c:Int)(d f x:bZP)(w:Wd)(h1:d.size<=4611686018427387904)(h2:f.size<=4611686018427387904)(hs:x.size<=140737488351232):Calls prog 18 #[.agg #[.int .i64 c,.string d],.string f,.string x] w fun r u=>r=.returned (.tuple #[.string (sgR c d f (cB x.data.toList)).1,.int .i64 (sgR c d f (cB x.data.toList)).2.1,.int .i64 (sgR c d f (cB x.data.toList)).2.2])/\Below w.heap.size w u:=by
 have aI:=fun b=>zw c d f b h1 h2
 have aH:=fun b=>CF x b hs
 have o:=ci aI;have s:=ci aH;clear aI aH;by_cases F:keyErr c d f=0
 ·obtain⟨ha,aO,ar,aQ⟩:=td F
  have az:=fun b=>Id c d b ha ar
  have V:=ci az;rw[F]at o;unfold sgR;rw[if_pos F];clear az F h1 h2 ha;cases N:cB x.data.toList with
  | error q=>
    obtain⟨e,a⟩:=q;rw[N]at s;dsimp only at s ⊢;clear N V;go_enter func18,ntmps18;go_wp2_with fail
    refine(o.out _).mono ?_;rintro r b ⟨rfl,j⟩;rw[j];clear j b o;go_wp2_with fail
    refine(s.out _).mono ?_;rintro r D ⟨⟨rfl,he⟩,l⟩;have B:=ci ((d6 (JI w.heap.size w) _).trans (l.mono (by simp)));have k2:((e:Int) != 0)=true:=by simp;omega
    have k3:¬((e:Int)=0):=by omega
    clear l s he;go_wp2;go_ret3
    exact⟨rfl,B.out⟩
  | ok t=>
    have J:=ey N;have h5:formN (flat 0 [] t) (flat 0 [] t).length 0=cQ t:=by have h4:=kG t;unfold prF at h4;dsimp only at h4;injection h4
    have aJ:(⟨(cQ t).toArray⟩:bZP).size<=1000000000:=by
     have h3:=J.2.one (flat 0 [] t).length 0;rw[h5]at h3;show(cQ t).toArray.size<=_
     simpa using h3
    have aq:0<(flat 0 [] t).length:=by rw[cJ];have:=eM t;omega
    have ae:=fun g G b z=>E7 (w.heap.size+2) g G (flat 0 [] t) J.1 J.2 (flat 0 [] t).length 0 aq (by omega) b z
    rw[h5]at ae;obtain⟨I,aC,U⟩:=Hm t;have hW:=J.1;have aM:=hW.len;rw[N]at s;have aa:=ci ae;have HW:=ci hW;have ay:=ci aC;have aK:(0:Int)<((flat 0 [] t).length:Int):=by omega
    have aG:∀b,Calls prog 31 #[.string x] b fun r u=>(∃v,r=.returned (.tuple #[v,.int .i64 0,.int .i64 0])/\cr (b.heap.size+1) 83 v (flat 0 [] t) u)/\Below b.heap.size b u:=s.out
    have P:=ci aG;dsimp only;clear N s aG ae J h5 hW aC aq;generalize (⟨(cQ t).toArray⟩:bZP)=i at *;generalize flat 0 [] t=L at *;cases ho:yO t with
    | false=>
      have ah:((I.kind:Int) != 5)=true:=by
       have:I.kind≠5:=fun h=>by rw[U.1 h]at ho;cases ho
       simp;omega
      have aL:¬((I.kind:Int)=5):=by simpa using ah
      rw[if_neg (by simp)];clear V aa U;go_enter func18,ntmps18;go_wp2_with fail
      refine(o.out _).mono ?_;rintro r b ⟨rfl,j⟩;rw[j];clear j b o;go_wp2_with fail
      refine(P.out _).mono ?_;rintro r D ⟨⟨v,rfl,kvs,z⟩,l⟩;have A:=RR.of (kvs:=kvs) z (fun n hn=>by obtain⟨k,hk⟩:=LT hn;have:=HW.out.few k n hk;omega);obtain⟨ad,G,rfl⟩:=A.shape;obtain⟨g,kv,C,_,_,S,_⟩:=A.at' 0 I ay.out;injection C with C _ _;subst C;rw[Lk]at S;have B:=ci ((d6 (JI w.heap.size w) _).trans (l.mono (by simp)));clear l P z A;go_wp2;go_ret3
      exact⟨rfl,B.out⟩
    | true=>
      have ah:=U.2 ho;rw[if_pos rfl];obtain⟨z1,z2,z3,z4⟩:=Bl c d f i ar aJ;have aP:=j0 c d;have aN:=ox c f (signedB c d i);have ai:=fun b=>jw (headB c d) b (by omega)
      have ac:=fun b=>jw i b (by omega)
      have ag:=fun b=>jw (macB c f (signedB c d i)) b (by omega)
      have ak:=fun b=>An c f (signedB c d i) b (by omega) (by omega)
      have e0:encB (headB c d)++(⟨#[46]⟩:bZP)++encB i=signedB c d i:=rfl;change ∀b,Calls _ _ _ _ fun e u=>e=.returned (.string (encB (headB c d)))/\_ at ai
      change ∀b,Calls _ _ _ _ fun e u=>e=.returned (.string (encB i))/\_ at ac
      change ∀b,Calls _ _ _ _ fun e u=>e=.returned (.string (encB (macB c f (signedB c d i))))/\_ at ag
      change ∀b,Calls _ _ _ _ fun e u=>e=.returned (.string (macB c f (signedB c d i)))/\_ at ak
      unfold qq;generalize signedB c d i=p at *;generalize macB c f p=MB at *;generalize headB c d=HD at *;generalize encB HD=H at *;generalize encB i=Y at *;generalize encB MB=y at *;have av:=ci ai;have aw:=ci ac;have au:=ci ag;have aB:=ci ak;have E0:=ci e0;obtain⟨X,m⟩:∃X:bZP×Int×Int,X=(if(p++(⟨#[46]⟩:bZP)++y).size<=65536 then(p++(⟨#[46]⟩:bZP)++y,0,0)else(⟨#[]⟩,1,0)):=⟨_,rfl⟩;rw[<-m];have Q:=ci m;clear ai ac ag ak e0 U m;go_enter func18,ntmps18;go_wp2_with fail
      refine(o.out _).mono ?_;rintro r b ⟨rfl,j⟩;rw[j];clear j b o;go_wp2_with fail
      refine(P.out _).mono ?_;rintro r D ⟨⟨v,rfl,kvs,z⟩,l⟩;have A:RR 83 v L D:=RR.of (kvs:=kvs) z (fun n hn=>by obtain⟨k,hk⟩:=LT hn;have:=HW.out.few k n hk;omega);obtain⟨ad,G,rfl⟩:=A.shape;obtain⟨g,kv,C,_,_,S,_⟩:=A.at' 0 I ay.out;injection C with C _ _;subst C;rw[Lk,ah]at S;have R:D.cell? ⟨w.heap.size,0,none⟩=some (.int .i64 c):=cl l (by simp);have T:D.cell? ⟨w.heap.size,1,none⟩=some (.string d):=cl l (by simp);have B:=ci ((d6 (JI w.heap.size w) _).trans (l.mono (by simp)));have aF:cr (w.heap.size+2) 83 (.slice (some ⟨g,0,none⟩) L.length G) L D:=⟨kvs,by simpa using z⟩;have aD:=ci aF;clear l P z A aF;go_wp2_with fail
      refine(V.out _).mono ?_;rintro r w3 ⟨rfl,M⟩;have af:=ci (B.out.trans (M.mono B.out.size));have C3:=ci (And.intro (cl M R) (cl M T));have aE:cr (w.heap.size+2) 83 (.slice (some ⟨g,0,none⟩) L.length G) L w3:=s6 aD.out M;have ao:=ci aE;clear M B aD aE R T S V;go_wp2_with fail
      refine(av.out _).mono ?_;rintro r w4 ⟨rfl,K⟩;have al:=ci (af.out.trans (K.mono af.out.size));have C4:=ci (And.intro (cl K C3.out.1) (cl K C3.out.2));have aA:=aa.out g G w4 (s6 ao.out K);clear K af ao C3 av;go_wp2_with fail
      refine aA.mono ?_;rintro r w5 ⟨rfl,O⟩;have aj:=ci (al.out.trans (O.mono al.out.size));have C5:=ci (And.intro (cl O C4.out.1) (cl O C4.out.2));clear O al C4 aA aa;go_wp2_with fail
      refine(aw.out _).mono ?_;rintro r w6 ⟨rfl,W⟩;have ab:=ci (aj.out.trans (W.mono aj.out.size));have R:w6.cell? ⟨w.heap.size,0,none⟩=some (.int .i64 c):=cl W C5.out.1;have T:w6.cell? ⟨w.heap.size,1,none⟩=some (.string d):=cl W C5.out.2;clear W aj C5 aw;have q1:¬9223372036854775807<H.size+1:=by omega
      have q2:¬9223372036854775807<H.size+1+Y.size:=by omega
      go_wp2_with fail
      rw[E0.out];refine(aB.out _).mono ?_;rintro r w7 ⟨rfl,ax⟩;have am:=ci (ab.out.trans (ax.mono ab.out.size));clear ax aB ab R T;go_wp2_with fail
      refine(au.out _).mono ?_;rintro r w8 ⟨rfl,ap⟩;have an:=ci (am.out.trans (ap.mono am.out.size));clear ap au am;have q3:¬9223372036854775807<p.size+1:=by omega
      have q4:¬9223372036854775807<p.size+1+y.size:=by omega
      have q5:(p++(⟨#[46]⟩:bZP)++y).size=p.size+1+y.size:=by simp only[K4];rfl
      have q7:p.size=H.size+1+Y.size:=by rw[<-E0.out];simp only[K4];rfl
      by_cases Z:(p++(⟨#[46]⟩:bZP)++y).size<=65536
      ·have m:=Q.out
       rw[if_pos Z]at m;subst m;clear Q;rw[q5]at Z;have q6:¬(65536:Int)<(H.size:Int)+1+(Y.size:Int)+1+(y.size:Int):=by omega
       go_wp2;go_ret3
       exact⟨by rw[E0.out];rfl,an.out⟩
      ·have m:=Q.out
       rw[if_neg Z]at m;subst m;clear Q;rw[q5]at Z;have q6:(65536:Int)<(H.size:Int)+1+(Y.size:Int)+1+(y.size:Int):=by omega
       go_wp2;go_ret3
       exact⟨rfl,an.out⟩
 ·unfold sgR
  rw[if_neg F];have k1:((keyErr c d f) != 0)=true:=by simp[F]
  generalize keyErr c d f=E at *;clear s;dsimp only;go_enter func18,ntmps18;go_wp2_with fail
  refine(o.out _).mono ?_;rintro r b ⟨rfl,j⟩;rw[j];clear j b o;go_wp2;go_ret3
  exact⟨rfl,d6 (JI w.heap.size w) _⟩
end Go.Proofs.YtihboehpeehlmaaGreatDoor.Dg
