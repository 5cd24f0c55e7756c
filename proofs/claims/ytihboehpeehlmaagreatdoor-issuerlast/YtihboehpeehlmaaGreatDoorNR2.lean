import Derived.Test.YtihboehpeehlmaaGreatDoorNR1
set_option maxHeartbeats 1000000
set_option maxRecDepth 4000
namespace Go.Proofs.YtihboehpeehlmaaGreatDoor
open Tryz
open Go.RowKit
set_option linter.unusedVariables false
section
variable (Z:Nat) (s:dv) (i:Nat) (Y:Va) (W X:Nat) (w:Wd)
def QP(R:Except Nat (dj×Nat))(r:Ending)(w':Wd):Prop:=
 match R with
 | .ok (t,n)=>r=.returned (.string ⟨t.toArray⟩)/\RD Z s (i+n) Y 0 W X w'
 | .error o=>(∃t,r=.returned (.string t))/\∃j,RD Z s j Y 2 (i+o) X w'
def QI(v:Va)(wr:Wd):Prop:=
 ca Z w wr/\((∃k f acc,(b9 s (i+1+k)).length<f/\i+1+k<=s.size+12/\acc.length<=k/\jC (b9 s (i+1))=cL acc k (strF f (b9 s (i+1+k)))/\OwnB w.heap.size 5 v acc wr/\RD Z s (i+1+k) Y 0 W X wr)\/(∃o j acc,jC (b9 s (i+1))=.error o/\OwnB w.heap.size 5 v acc wr/\RD Z s j Y 2 (i+1+o) X wr))
theorem Hl{j b a d:Nat}{w':Wd}(h:RD Z s j Y b a d w')(c:0<b):QM Z s w'=0:=by
 unfold QM;rw[h.cell.2.2.2.1,if_neg (by simp[dU];omega)]
theorem Dq{j a d:Nat}{w':Wd}(h:RD Z s j Y 0 a d w'):QM Z s w'=s.size+13-j+1:=by
 unfold QM;rw[h.cell.2.2.2.1,lc h];simp[dU]
theorem RD.belowB{j b a d:Nat}{w' wr:Wd}(h:RD Z s j Y b a d wr)(c:Z<w.heap.size)(e:Below w.heap.size wr w'):RD Z s j Y b a d w':=by
 unfold RD;rw[e.block _ c];exact h
theorem vF(hs:s.size<=140737488340000)(h:RD Z s i Y 0 W X w):Calls prog 94 #[.pointer (some ⟨Z,0,none⟩)] w fun r O=>QP Z s i Y W X (da (b9 s i)) r O/\ca Z w O:=by
 have S:=h.lt;obtain⟨i0,aN,aG,aF,aE⟩:=Kf eb;have HI:Hid _:=aN;clear aN;by_cases hq:(b9 s i).head?=some 34
 ·have hi:=dr hq
  have aK:s[i]=34:=by rw[cg s i hi]at hq;simpa using hq
  have hR:da (b9 s i)=(match jC (b9 s (i+1))with| .ok (t,n)=>.ok (t,n+1)| .error o=>.error (o+1)):=by
   rw[cg s i hi,da,if_pos aK];rfl
  have HR:Hid _:=hR;clear hR;have hm:=iQ Z s i Y W X 34 w (by omega) h hq
  clear hq aK;go_enter func94,ntmps94;go_wp2_with fail
  refine hm.mono ?_;rintro e w1 ⟨rfl,h1,o1⟩;have H1:Hid _:=h1;have O1:Hid _:=o1;clear h1 o1 hm;go_wp2_with fail
  go_loopw [3] (fun v wr=>QI Z s i Y W X w v wr) (fun _ wr=>QM Z s wr)
  case atStart=>
   refine⟨O1.out,.inl ⟨0,(b9 s (i+1)).length+1,[],by simp,by omega,by simp,?_,.inl ⟨rfl,rfl⟩,H1.out⟩⟩;show jC (b9 s (i+1))=cL [] 0 (strF ((b9 s (i+1)).length+1) (b9 s (i+1)))
   unfold jC;cases strF ((b9 s (i+1)).length+1) (b9 s (i+1))with
   | ok p=>obtain⟨a,b⟩:=p;simp[cL]
   | error o=>simp[cL]
  case round=>
   clear H1 O1;obtain⟨ho,aQ⟩:=hrel;have V:Hid _:=ho;clear ho;rcases aQ with⟨k,f,E,hf,hk,aP,he,az,R⟩|⟨o,j,E,he,az,R⟩
   ·generalize hp:i+1+k=p at hf hk he R
    have HP:Hid _:=hp;have HE:Hid _:=he;have HW:Hid _:=az;have HM:Hid (QM Z s wr=s.size+13-p+1):=by
     show QM Z s wr=_
     unfold QM;rw[R.cell.2.2.2.1,lc R];simp[dU]
    obtain⟨f,rfl⟩:∃g,f=g+1:=⟨f-1,by omega⟩
    have hr:∀b,ft 0 (b9 s p) 34=b->Calls prog 93 #[.pointer (some ⟨Z,0,none⟩),.int .u8 34] wr fun r ak=>r=.returned (.bool b)/\RD Z s p Y 0 W X ak/\ca Z wr ak:=
     fun b hb=>hb▸(lW Z s p Y 0 W X 34 wr R).mono fun e ak ⟨he,n,hw⟩=>⟨he,hw▸R.drewN n,hw▸(ce Z wr).drewN n⟩
    obtain⟨y,x,D,z,A,C,m⟩:=R.cell;have aJ:E.length<=140737488340020:=by omega
    have HA:Hid _:=aJ;clear hp he az aJ;by_cases ab:(b9 s p).head?=some 34
    ·have aa:=hr true (gy ab)
     have U:strF (f+1) (b9 s p)=.ok ([],1):=by
      have an:=dr ab;rw[cg s p an]at ab ⊢;have ab:s[p]=34:=by simpa using ab
      rw[strF];simp[ab]
     have HF:Hid _:=U;have am:=fun O h'=>iQ Z s p Y W X 34 O (by omega) h' ab
     clear ab U hr hf hk;go_wp2_with fail
     refine aa.mono ?_;rintro e u ⟨rfl,I,H⟩;have H2:Hid (RD Z s p Y 0 W X u):=I;have K:Hid (ca Z w u):=ca.trans V.out H;have L:Hid (OwnB w.heap.size 5 u3 E u):=OwnB.onl Z HW.out H S;clear I H aa y x D z A C m R V HW;go_wp2_with fail
     refine(am _ H2.out).mono ?_;rintro e G ⟨rfl,F,o3⟩;have H3:Hid (RD Z s (p+1) Y 0 W X G):=F;have J:Hid (ca Z w G):=ca.trans K.out o3;have aI:=(OwnB.onl Z L.out o3 S).str (P:=prog) (t:=115) (d:=9) JU KY Kl;clear F o3 am H2 K L;go_wp2;go_ret;refine⟨?_,J.out⟩;have e1:=HE.out;rw[HF.out]at e1;have e2:cL E k (.ok ([],1))=.ok (E,k+1):=by simp[cL]
     rw[HR.out,e1,e2];refine⟨rfl,?_⟩;have:i+(k+1+1)=p+1:=by have:=HP.out;omega
     rw[this];exact H3.out
    ·have aa:=hr false (fa ab)
     clear hr;by_cases an:p<s.size
     ·have ad:=cg s p an
      have ah:s[p]≠34:=by rw[ad]at ab;simpa using ab
      have aW:(p:Int)<(s.size:Int):=by omega
      have aC:decide ((s.size:Int)<=(p:Int))=false:=by simp;omega
      clear ab;by_cases af:s[p].toNat<32
      ·have U:strF (f+1) (b9 s p)=.error 0:=by rw[ad,strF];simp[ah,af]
       have HF:Hid _:=U;have aU:(s[p].toNat:Int)<32:=by omega
       clear U ad ah af hf hk;go_wp2_with fail
       refine aa.mono ?_;rintro e u ⟨rfl,I,H⟩;have K:Hid (ca Z w u):=ca.trans V.out H;have L:Hid (OwnB w.heap.size 5 u3 E u):=OwnB.onl Z HW.out H S;clear H aa y x D z A C m R V HW;obtain⟨y,x,D,z,A,C,m⟩:=I.cell;go_wp2_with fail
       go_quiet (fail);have F:=I.drewN nq;have J:Hid (ca Z w (u.drewN nq)):=ca.drewN K.out nq;have M:Hid (OwnB w.heap.size 5 u3 E (u.drewN nq)):=L.out;generalize u.drewN nq=G at F J M;clear y x D z A C m I K L nq u;obtain⟨y,x,D,z,A,C,m⟩:=F.cell;have ai:=dh Z s p Y W X 2 p _ F;go_wp2_with fail
       refine ai.mono ?_;rintro e w7 ⟨rfl,Q,o7⟩;have H7:Hid (RD Z s p Y 2 p X w7):=Q;have O7:Hid (ca Z w w7):=ca.trans J.out o7;clear Q o7 ai;go_wp2;go_ret;refine⟨?_,O7.out⟩;have e1:=HE.out;rw[HF.out]at e1;rw[HR.out,e1];refine⟨⟨_,rfl⟩,p,?_⟩;have:i+(k+0+1)=p:=by have:=HP.out;omega
       rw[this];exact H7.out
      ·have aD:decide ((s[p].toNat:Int)<32)=false:=by simp;omega
       by_cases ae:s[p]=92
       ·have aw:((s[p].toNat:Int)==92)=true:=by rw[ae];rfl
        have ax:=fun O (h':RD Z s p Y 0 W X O)=>CL Z s p Y W X O (by omega) h' an
        have ap:strF (f+1) (b9 s p)=(match eQ (b9 s p)with| .error o=>.error o| .ok (t,n)=>cL t n (strF f ((b9 s p).drop n))):=by
         rw[ad,strF];simp[ae];rfl
        cases aj:eQ (b9 s p)with
        | error o=>
          rw[aj]at ap;have HF:Hid (strF (f+1) (b9 s p)=.error o):=ap;have au:=fun O h'=>(ax O h').2 o aj
          clear ap ax aj ad ah af ae hf hk;go_wp2_with fail
          refine aa.mono ?_;rintro e u ⟨rfl,I,H⟩;have K:Hid (ca Z w u):=ca.trans V.out H;have L:Hid (OwnB w.heap.size 5 u3 E u):=OwnB.onl Z HW.out H S;clear H aa y x D z A C m R V HW;obtain⟨y,x,D,z,A,C,m⟩:=I.cell;go_wp2_with fail
          go_quiet (fail);have F:=I.drewN nq;have J:Hid (ca Z w (u.drewN nq)):=ca.drewN K.out nq;have M:Hid (OwnB w.heap.size 5 u3 E (u.drewN nq)):=L.out;generalize u.drewN nq=G at F J M;clear y x D z A C m I K L nq u;obtain⟨y,x,D,z,A,C,m⟩:=F.cell;go_wp2_with fail
          go_quiet (fail);have N:=F.drewN nq;have O4:Hid (ca Z w (G.drewN nq)):=ca.drewN J.out nq;have T:Hid (OwnB w.heap.size 5 u3 E (G.drewN nq)):=M.out;generalize G.drewN nq=w4 at N O4 T;clear y x D z A C m F J M nq G;obtain⟨y,x,D,z,A,C,m⟩:=N.cell;go_wp2_with fail
          refine(au _ N).mono ?_;rintro e w5 ⟨rfl,⟨j,h5⟩,o5⟩;have H5:Hid (RD Z s j Y 2 (p+o) X w5):=h5;have O5:Hid (ca Z w w5):=ca.trans O4.out o5;have W5:Hid (OwnB w.heap.size 5 u3 E w5):=OwnB.onl Z T.out o5 S;have al:=O5.out.size;clear h5 o5 au y x D z A C m N O4 T aD aw aC aP;go_wp2_with (refine qJ rfl (.tmp 58) (.tmp 59) 115 9 rfl 5 i0 JU Kl HI.out aG aF aE w.heap.size _ E ⟨#[]⟩ rfl rfl (by show E.length+0<=140737488355328;have:=HA.out;omega) W5.out al ?_;intro v6 w6 ag ac;have W6:Hid _:=ag;clear ag)
          have Q:=RD.belowB Z s Y w H5.out S ac;refine⟨⟨je Z w O5.out ac,.inr ⟨k+o,j,_,?_,W6.out,?_⟩⟩,?_⟩
          ·rw[HE.out,HF.out];rfl
          ·rw[show i+1+(k+o)=p+o by have:=HP.out;omega];exact Q
          ·rw[Hl Z s Y Q (by omega),HM.out];omega
        | ok q=>
          obtain⟨tt,n⟩:=q;obtain⟨aB,aA,ay⟩:=oy aj;rw[aj]at ap;have HF:Hid (strF (f+1) (b9 s p)=cL tt n (strF f ((b9 s p).drop n))):=ap;have au:=fun O h'=>(ax O h').1 tt n aj
          have HL:Hid ((b9 s p).length<f+1):=hf;have HB:Hid (tt.length<=n/\2<=n/\n<=12):=⟨aB,aA,ay⟩;clear ap ax aj ad ah af ae hf hk aB aA ay;go_wp2_with fail
          refine aa.mono ?_;rintro e u ⟨rfl,I,H⟩;have K:Hid (ca Z w u):=ca.trans V.out H;have L:Hid (OwnB w.heap.size 5 u3 E u):=OwnB.onl Z HW.out H S;clear H aa y x D z A C m R V HW;obtain⟨y,x,D,z,A,C,m⟩:=I.cell;go_wp2_with fail
          go_quiet (fail);have F:=I.drewN nq;have J:Hid (ca Z w (u.drewN nq)):=ca.drewN K.out nq;have M:Hid (OwnB w.heap.size 5 u3 E (u.drewN nq)):=L.out;generalize u.drewN nq=G at F J M;clear y x D z A C m I K L nq u;obtain⟨y,x,D,z,A,C,m⟩:=F.cell;go_wp2_with fail
          go_quiet (fail);have N:=F.drewN nq;have O4:Hid (ca Z w (G.drewN nq)):=ca.drewN J.out nq;have T:Hid (OwnB w.heap.size 5 u3 E (G.drewN nq)):=M.out;generalize G.drewN nq=w4 at N O4 T;clear y x D z A C m F J M nq G;obtain⟨y,x,D,z,A,C,m⟩:=N.cell;go_wp2_with fail
          refine(au _ N).mono ?_;rintro e w5 ⟨rfl,h5,o5⟩;have H5:Hid (RD Z s (p+n) Y 0 W X w5):=h5;have O5:Hid (ca Z w w5):=ca.trans O4.out o5;have W5:Hid (OwnB w.heap.size 5 u3 E w5):=OwnB.onl Z T.out o5 S;have al:=O5.out.size;clear h5 o5 au y x D z A C m N O4 T aD aw aC;go_wp2_with (refine qJ rfl (.tmp 58) (.tmp 59) 115 9 rfl 5 i0 JU Kl HI.out aG aF aE w.heap.size _ E ⟨tt.toArray⟩ rfl rfl (by show E.length+tt.length<=140737488355328;have:=HA.out;have:=HB.out;omega) W5.out al ?_;intro v6 w6 ag ac;have W6:Hid (OwnB w.heap.size 5 v6 (E++tt) w6):=ag;clear ag)
          have Q:=RD.belowB Z s Y w H5.out S ac;obtain⟨aB,aA,ay⟩:=HB.out;refine⟨⟨je Z w O5.out ac,.inl ⟨k+n,f,E++tt,?_,?_,?_,?_,W6.out,?_⟩⟩,?_⟩
          ·rw[show i+1+(k+n)=p+n by have:=HP.out;omega];have:=HL.out;rw[cx]at this ⊢;omega
          ·have:=HP.out;omega
          ·rw[JH];omega
          ·rw[HE.out,HF.out,iE,cw,show i+1+(k+n)=p+n by have:=HP.out;omega]
          ·rw[show i+1+(k+n)=p+n by have:=HP.out;omega];exact Q
          ·rw[Dq Z s Y Q,HM.out];omega
       ·have aw:((s[p].toNat:Int)==92)=false:=eB (k:=92) (by omega) ae
        have ao:=fun O=>gZ s p O an (by omega)
        by_cases hz:seqLen (b9 s p)=0
        ·have U:strF (f+1) (b9 s p)=.error 0:=by
          have aq:=hz;rw[ad]at aq ⊢;rw[strF];simp[ah,af,ae,aq]
         have HF:Hid _:=U;rw[hz]at ao;clear U ad ah af ae hf hk hz;go_wp2_with fail
         refine aa.mono ?_;rintro e u ⟨rfl,I,H⟩;have K:Hid (ca Z w u):=ca.trans V.out H;have L:Hid (OwnB w.heap.size 5 u3 E u):=OwnB.onl Z HW.out H S;clear H aa y x D z A C m R V HW;obtain⟨y,x,D,z,A,C,m⟩:=I.cell;go_wp2_with fail
         go_quiet (fail);have F:=I.drewN nq;have J:Hid (ca Z w (u.drewN nq)):=ca.drewN K.out nq;have M:Hid (OwnB w.heap.size 5 u3 E (u.drewN nq)):=L.out;generalize u.drewN nq=G at F J M;clear y x D z A C m I K L nq u;obtain⟨y,x,D,z,A,C,m⟩:=F.cell;go_wp2_with fail
         go_quiet (fail);have N:=F.drewN nq;have O4:Hid (ca Z w (G.drewN nq)):=ca.drewN J.out nq;have T:Hid (OwnB w.heap.size 5 u3 E (G.drewN nq)):=M.out;generalize G.drewN nq=w4 at N O4 T;clear y x D z A C m F J M nq G;obtain⟨y,x,D,z,A,C,m⟩:=N.cell;go_wp2_with fail
         go_quiet ((go_at_call 80;exact J2 (ao _)));have h5:=N.drewN nq;have O5:Hid (ca Z w (w4.drewN nq)):=ca.drewN O4.out nq;have W5:Hid (OwnB w.heap.size 5 u3 E (w4.drewN nq)):=T.out;generalize w4.drewN nq=w5 at h5 O5 W5;clear y x D z A C m N O4 T nq w4 ao;obtain⟨y,x,D,z,A,C,m⟩:=h5.cell;have ai:=dh Z s p Y W X 2 p _ h5;go_wp2_with fail
         refine ai.mono ?_;rintro e w7 ⟨rfl,Q,o7⟩;have H7:Hid (RD Z s p Y 2 p X w7):=Q;have O7:Hid (ca Z w w7):=ca.trans O5.out o7;clear Q o7 ai;go_wp2;go_ret;refine⟨?_,O7.out⟩;have e1:=HE.out;rw[HF.out]at e1;rw[HR.out,e1];refine⟨⟨_,rfl⟩,p,?_⟩;have:i+(k+0+1)=p:=by have:=HP.out;omega
         rw[this];exact H7.out
        ·have U:strF (f+1) (b9 s p)=cL ((b9 s p).take (seqLen (b9 s p))) (seqLen (b9 s p)) (strF f ((b9 s p).drop (seqLen (b9 s p)))):=by
          have aq:=hz;rw[ad]at aq ⊢;rw[strF];simp[ah,af,ae,aq]
         have aH:=lK (b9 s p);have av:=lQ (b9 s p);rw[cx]at av;generalize seqLen (b9 s p)=n at hz U aH av ao;have HF:Hid _:=U;have HL:Hid ((b9 s p).length<f+1):=hf;have HB:Hid (n≠0/\n<=4/\n<=s.size-p):=⟨hz,aH,av⟩;have aX:((n:Int)==0)=false:=by simp;omega
         have aS:(p:Int)+(n:Int)<=(s.size:Int):=by omega
         have aT:p+n<=s.size:=by omega
         clear U ad ah af ae hf hk hz aH av;go_wp2_with fail
         refine aa.mono ?_;rintro e u ⟨rfl,I,H⟩;have K:Hid (ca Z w u):=ca.trans V.out H;have L:Hid (OwnB w.heap.size 5 u3 E u):=OwnB.onl Z HW.out H S;clear H aa y x D z A C m R V HW;obtain⟨y,x,D,z,A,C,m⟩:=I.cell;go_wp2_with fail
         go_quiet (fail);have F:=I.drewN nq;have J:Hid (ca Z w (u.drewN nq)):=ca.drewN K.out nq;have M:Hid (OwnB w.heap.size 5 u3 E (u.drewN nq)):=L.out;generalize u.drewN nq=G at F J M;clear y x D z A C m I K L nq u;obtain⟨y,x,D,z,A,C,m⟩:=F.cell;go_wp2_with fail
         go_quiet (fail);have N:=F.drewN nq;have O4:Hid (ca Z w (G.drewN nq)):=ca.drewN J.out nq;have T:Hid (OwnB w.heap.size 5 u3 E (G.drewN nq)):=M.out;generalize G.drewN nq=w4 at N O4 T;clear y x D z A C m F J M nq G;obtain⟨y,x,D,z,A,C,m⟩:=N.cell;go_wp2_with fail
         go_quiet ((go_at_call 80;exact J2 (ao _)));have h5:=N.drewN nq;have O5:Hid (ca Z w (w4.drewN nq)):=ca.drewN O4.out nq;have W5:Hid (OwnB w.heap.size 5 u3 E (w4.drewN nq)):=T.out;generalize w4.drewN nq=w5 at h5 O5 W5;clear y x D z A C m N O4 T nq w4 ao;obtain⟨y,x,D,z,A,C,m⟩:=h5.cell;have f1:=m 1;have al:=O5.out.size;clear aD aw aC;go_wp2_with fail
         have HC:Hid (w5.cell? ⟨Z,0,none⟩=some (.string s)/\w5.cell? ⟨Z,1,none⟩=some (.int .i64 (p:Int))):=⟨y,x⟩;have H5:Hid (RD Z s p Y 0 W X w5):=h5;have aM:Hid (w.heap.size<=w5.heap.size):=al;clear h5 al;obtain⟨q,hq⟩:∃q:Nat,p+n=q:=⟨_,rfl⟩;have aR:IntKind.i64.wrap ((p:Int)+(n:Int))=(q:Int):=by rw[fi _ (by omega)];omega
         have aY:(p:Int)<=(q:Int):=by omega
         have a1:(q:Int)<=(s.size:Int):=by omega
         have HQ:Hid (p+n=q):=hq;clear hq aS aT;go_region_held3 (fun O=>O.cell? ⟨Z,0,none⟩=some (.string s)/\O.cell? ⟨Z,1,none⟩=some (.int .i64 (p:Int))) (go_keep) (first|(refine Hs rfl (.tmp 78) (.tmp 93) 115 9 rfl 5 i0 JU Kl HI.out aG aF aE w.heap.size _ E (s.extract p q) rfl rfl (by have:=HA.out;have:=HB.out;have:=HQ.out;simp;omega) W5.out aM.out ?_;intro v6 w6 ag ac;have s0:=(ac.cell (p:=⟨Z,0,none⟩) S).trans HC.out.1;have s1:=(ac.cell (p:=⟨Z,1,none⟩) S).trans HC.out.2;have W6:Hid _:=ag;have aL:Hid _:=ac;clear ag ac))
         have Q:=RD.belowB Z s Y w (wr:=w5.drew) H5.out S aL.out;have O6:Hid (ca Z w w6):=je Z w (wr:=w5.drew) (ca.drewN O5.out 1) aL.out;clear s0 s1 y x D z A C m f1 HC O5 W5 aM;obtain⟨y,x,D,z,A,C,m⟩:=Q.cell;have f1:=m 1;have aV:(p:Int)+(n:Int)=(q:Int):=by have:=HQ.out;omega
         clear aR;go_wp2_with fail
         have h8:=Q.setI q;have o8:ca Z w6 (w6.setCell ⟨Z,1,none⟩ (.int .i64 (q:Int))):=ca.setCell (ce Z w6) _ Q;have aZ:=HQ.out;obtain⟨aB,aA,ay⟩:=HB.out;refine⟨⟨ca.trans O6.out o8,.inl ⟨k+n,f,E++(b9 s p).take n,?_,?_,?_,?_,?_,?_⟩⟩,?_⟩
         ·rw[show i+1+(k+n)=p+n by have:=HP.out;omega];have:=HL.out;rw[cx]at this ⊢;omega
         ·have:=HP.out;omega
         ·rw[JH,J6];omega
         ·rw[HE.out,HF.out,iE,cw,show i+1+(k+n)=p+n by have:=HP.out;omega]
         ·have hx:=OwnB.onl Z W6.out o8 S
          rw[dd,show q-p=n by omega]at hx;exact hx
         ·rw[show i+1+(k+n)=q by have:=HP.out;omega];exact h8
         ·rw[Dq Z s Y h8,HM.out];omega
     ·have U:strF (f+1) (b9 s p)=.error 0:=by rw[cU s p (by omega)];rfl
      have HF:Hid _:=U;have aC:(s.size:Int)<=(p:Int):=by omega
      have a0:s.size<=p:=by omega
      clear U hf hk an ab;go_wp2_with fail
      refine aa.mono ?_;rintro e u ⟨rfl,I,H⟩;have K:Hid (ca Z w u):=ca.trans V.out H;have L:Hid (OwnB w.heap.size 5 u3 E u):=OwnB.onl Z HW.out H S;clear H aa y x D z A C m R V HW;obtain⟨y,x,D,z,A,C,m⟩:=I.cell;go_wp2_with fail
      go_quiet (fail);have F:=I.drewN nq;have J:Hid (ca Z w (u.drewN nq)):=ca.drewN K.out nq;have M:Hid (OwnB w.heap.size 5 u3 E (u.drewN nq)):=L.out;generalize u.drewN nq=G at F J M;clear y x D z A C m I K L nq u;obtain⟨y,x,D,z,A,C,m⟩:=F.cell;have ai:=dh Z s p Y W X 2 p _ F;go_wp2_with fail
      refine ai.mono ?_;rintro e w7 ⟨rfl,Q,o7⟩;have H7:Hid (RD Z s p Y 2 p X w7):=Q;have O7:Hid (ca Z w w7):=ca.trans J.out o7;clear Q o7 ai;go_wp2;go_ret;refine⟨?_,O7.out⟩;have e1:=HE.out;rw[HF.out]at e1;rw[HR.out,e1];refine⟨⟨_,rfl⟩,p,?_⟩;have:i+(k+0+1)=p:=by have:=HP.out;omega
      rw[this];exact H7.out
   ·have HE:Hid (jC (b9 s (i+1))=.error o):=he
    obtain⟨y,x,D,z,A,C,m⟩:=R.cell;have am:Calls prog 127 #[.pointer (some ⟨Z,0,none⟩),.int .u8 34] wr fun r ak=>r=.returned (.tuple #[])/\∃n,ak=wr.drewN n:=jy Z s j Y 2 (i+1+o) X 34 wr R (by omega)
    clear he;go_wp2_with fail
    refine am.mono ?_;rintro e G ⟨rfl,n,ar⟩;rw[ar];clear ar G;have aI:=OwnB.str (P:=prog) (t:=115) (d:=9) (w:=wr.drewN n) JU KY Kl (show OwnB w.heap.size 5 u3 E (wr.drewN n)from az);go_wp2;go_ret;refine⟨?_,ca.drewN V.out n⟩;rw[HR.out,HE.out];refine⟨⟨_,rfl⟩,j,?_⟩;rw[show i+(o+1)=i+1+o by omega];exact R
 ·have hR:da (b9 s i)=.error 0:=by
   match aO:b9 s i with
   | []=>rfl
   | c::r=>rw[aO]at hq;rw[da,if_neg (by simpa using hq)]
  rw[hR];have hm:Calls prog 127 #[.pointer (some ⟨Z,0,none⟩),.int .u8 34] w fun r O=>r=.returned (.tuple #[])/\RD Z s i Y 2 i X O/\ca Z w O:=mr Z s i Y W X 34 w h hq
  clear hq hR;go_enter func94,ntmps94;go_wp2_with fail
  refine hm.mono ?_;rintro e w1 ⟨rfl,h1,o1⟩;have O1:Hid (ca Z w w1):=o1;clear o1 hm;obtain⟨y,x,D,z,A,C,m⟩:=h1.cell;have am:Calls prog 127 #[.pointer (some ⟨Z,0,none⟩),.int .u8 34] w1 fun r ak=>r=.returned (.tuple #[])/\∃n,ak=w1.drewN n:=jy Z s i Y 2 i X 34 w1 h1 (by omega)
  go_wp2_with fail
  refine wp_loop_once ?_;go_wp2_with fail
  refine am.mono ?_;rintro e G ⟨rfl,n,ar⟩;rw[ar];clear ar G;have aI:=OwnB.str (P:=prog) (B:=0) (t:=115) (d:=9) (w:=w1.drewN n) JU KY Kl (v:=.slice none 0 0) (l:=[]) (.inl ⟨rfl,rfl⟩);go_wp2;go_ret;exact⟨⟨⟨_,rfl⟩,i,h1⟩,ca.drewN O1.out n⟩
end
section
variable (Z:Nat) (s:dv) (i:Nat) (Y:Va) (V W:Nat) (w:Wd)
def IP(R:Except (Nat×Nat) (Int×Nat))(r:Ending)(w':Wd):Prop:=
 match R with
 | .ok (n,k)=>r=.returned (.int .i64 n)/\RD Z s (i+k) Y 0 V W w'
 | .error (e,o)=>(∃n,r=.returned (.int .i64 n))/\∃j,RD Z s j Y e (i+o) W w'
def II(fr E T:Nat)(v:Va)(wr:Wd):Prop:=
 ∃p X:Nat,fr<=p/\p<=s.size/\p+nd (b9 s p)=E/\accN X ((b9 s p).take (nd (b9 s p)))=T/\X<=90071992547409919/\v=.int .i64 (X:Int)/\RD Z s p Y 0 V W wr/\ca Z w wr
theorem It(hs:s.size<=140737488340000)(h:RD Z s i Y 0 V W w)(hi:i<s.size)(hm:s[i]≠45)(a E T:Nat)(ai:i=a)(Q:a+nd (b9 s a)=E)(L:accN 0 ((b9 s a).take (nd (b9 s a)))=T):Calls prog 96 #[.pointer (some ⟨Z,0,none⟩)] w fun r G=>IP Z s i Y V W (di (b9 s i)) r G/\ca Z w G:=by
 have hr:Calls prog 93 #[.pointer (some ⟨Z,0,none⟩),.int .u8 45] w fun r ak=>r=.returned (.bool false)/\RD Z s a Y 0 V W ak/\ca Z w ak:=by
  have hb:ft 0 (b9 s i) 45=false:=fa (by rw[cg s i hi];simpa using hm);rw[<-ai];exact hb▸(lW Z s i Y 0 V W 45 w h).mono fun e ak ⟨he,n,hw⟩=>⟨he,hw▸h.drewN n,hw▸(ce Z w).drewN n⟩
 have I:Hid ((a+nd (b9 s a)=E/\accN 0 ((b9 s a).take (nd (b9 s a)))=T)/\a<=s.size):=⟨⟨Q,L⟩,by omega⟩;obtain⟨j,f,m,g,l,o,d⟩:=h.cell;have R:Hid _:=ai;have H:Hid (di (b9 s i)=if E-a=0\/(1<E-a/\(b9 s a).head?=some 48)then .error (2,0)else if cH<T then .error (3,0)else .ok ((T:Int),0+(E-a))):=by
  have hk:E-a=nd (b9 s a):=by omega
  rw[hk,<-L,<-ai];exact lX (by rw[cg s i hi];simpa using hm)
 clear Q L ai;go_enter func96,ntmps96;go_wp2_with fail
 refine hr.mono ?_;rintro e w2 ⟨rfl,h2,o2⟩;have H2:Hid (RD Z s a Y 0 V W w2):=h2;have O2:Hid (ca Z w w2):=o2;clear j f m g l o d h hr o2;obtain⟨j,f,m,g,l,o,d⟩:=h2.cell;go_wp2_with fail
 clear j f m g l o d h2;go_loopw [6] (fun v wr=>II Z s Y V W w a E T v wr) (fun _ wr=>s.size-dU (wr.cell? ⟨Z,1,none⟩))
 case atStart=>exact⟨a,0,JQ _,I.out.2,I.out.1.1,I.out.1.2,by omega,rfl,H2.out,O2.out⟩
 case round=>
  clear H2 O2;obtain⟨p,X,K,O,Q,L,M,rfl,t,ho⟩:=hrel;have u:Hid (ca Z w wr):=ho;have HM:Hid (dU (wr.cell? ⟨Z,1,none⟩)=p):=lc t;obtain⟨j,f,m,g,l,o,d⟩:=t.cell;clear ho;by_cases aj:p<s.size
  ·have ar:(p:Int)<(s.size:Int):=by omega
   have N:=gY s[p];cases hd:d8 s[p]with
   | true=>
     rw[hd]at N;obtain⟨an,ap⟩:=(kF _).1 hd;have HE:Hid (p+1+nd (b9 s (p+1))=E):=by rw[rL s p aj hd]at Q;show p+1+nd (b9 s (p+1))=E;omega
     have HT:Hid (accN (if X<=cH then 10*X+(s[p].toNat-48)else X) ((b9 s (p+1)).take (nd (b9 s (p+1))))=T):=by rw[t8 s p X aj hd]at L;exact L
     clear Q L hd;have HB:Hid (a<=p/\p<s.size/\48<=s[p].toNat/\s[p].toNat<=57):=⟨K,aj,an,ap⟩;have ay:(48:Int)<=(s[p].toNat:Int):=by omega
     have az:(s[p].toNat:Int)<=57:=by omega
     have aq:(p:Int)<=140737488340000:=by omega
     have ax:(X:Int)<=90071992547409919:=by omega
     by_cases A:X<=cH
     ·have HX:Hid (X<=cH):=A
      have aa:(X:Int)<=9007199254740991:=by unfold cH at A;omega
      clear A M K O an ap;go_wp2_with fail
      go_quiet ((go_at_call 95;exact J2 (N _)));have b:=t.drewN nq;have c:Hid (ca Z w (wr.drewN nq)):=ca.drewN u.out nq;generalize wr.drewN nq=z at b c;clear j f m g l o d t u nq N;obtain⟨j,f,m,g,l,o,d⟩:=b.cell;go_wp2_with fail
      go_quiet (fail);have h4:=b.drewN nq;have O4:Hid (ca Z w (z.drewN nq)):=ca.drewN c.out nq;generalize z.drewN nq=w4 at h4 O4;clear j f m g l o d b c nq z;obtain⟨j,f,m,g,l,o,d⟩:=h4.cell;have f1:=d 1;go_wp2_with fail
      have h5:=h4.setI (p+1);obtain⟨b1,b2,b3,b4⟩:=HB.out;refine⟨⟨p+1,10*X+(s[p].toNat-48),by omega,by omega,HE.out,?_,by omega,KV (Value.int .i64) (by omega),h5,ca.setCell O4.out _ h4⟩,?_⟩
      ·have:=HT.out;rw[if_pos HX.out]at this;exact this
      ·rw[HM.out,iq h4 p];omega
     ·have HX:Hid (¬X<=cH):=A
      have aa:(9007199254740991:Int)<(X:Int):=by unfold cH at A;omega
      have au:Hid (X<=90071992547409919):=M;clear A M K O an ap;go_wp2_with fail
      go_quiet ((go_at_call 95;exact J2 (N _)));have b:=t.drewN nq;have c:Hid (ca Z w (wr.drewN nq)):=ca.drewN u.out nq;generalize wr.drewN nq=z at b c;clear j f m g l o d t u nq N;obtain⟨j,f,m,g,l,o,d⟩:=b.cell;have f1:=d 1;go_wp2_with fail
      have h5:=b.setI (p+1);obtain⟨b1,b2,b3,b4⟩:=HB.out;refine⟨⟨p+1,X,by omega,by omega,HE.out,?_,au.out,rfl,h5,ca.setCell c.out _ b⟩,?_⟩
      ·have:=HT.out;rw[if_neg HX.out]at this;exact this
      ·rw[HM.out,iq b p];omega
   | false=>
     rw[hd]at N;have S:=wF s p aj hd;rw[S]at Q L;have Q:p=E:=by omega
     have L:X=T:=L;subst Q;subst L;clear hd S;have av:(a:Int)<=140737488340000:=by have:=I.out.2;omega
     have aq:(p:Int)<=140737488340000:=by omega
     have am:(X:Int)<=90071992547409919:=by omega
     by_cases P:p=a
     ·have ao:X=0:=by
       obtain⟨⟨e1,e2⟩,e3⟩:=I.out;have S:nd (b9 s a)=0:=by omega
       rw[S]at e2;exact e2.symm
      have C:Hid (di (b9 s i)=.error (2,0)):=by
       have:=H.out;rw[if_pos (by left;omega)]at this;exact this
      have al:((p:Int)==(a:Int))=true:=by simp;omega
      subst ao;clear K O M H I P am;go_wp2_with fail
      go_quiet ((go_at_call 95;exact J2 (N _)));have b:=t.drewN nq;have c:Hid (ca Z w (wr.drewN nq)):=ca.drewN u.out nq;generalize wr.drewN nq=z at b c;clear j f m g l o d t u nq;obtain⟨j,f,m,g,l,o,d⟩:=b.cell;have y:=dh Z s p Y V W 2 a _ b;go_wp2_with fail
      refine y.mono ?_;rintro e q ⟨rfl,B,x⟩;have D:Hid (RD Z s p Y 2 a W q):=B;have F:Hid (ca Z w q):=ca.trans c.out x;clear x y;go_wp2;go_ret;refine⟨?_,F.out⟩;rw[C.out];exact⟨⟨_,rfl⟩,p,by rw[R.out];exact D.out⟩
     ·have al:((p:Int)==(a:Int))=false:=by simp;omega
      have af:a<s.size:=by omega
      have aw:(a:Int)<(s.size:Int):=by omega
      by_cases J:a+1<p/\s[a]=48
      ·have C:Hid (di (b9 s i)=.error (2,0)):=by
        have:=H.out;rw[if_pos (by right;exact⟨by omega,by rw[cg s a af,J.2];rfl⟩)]at this;exact this
       have U:(1:Int)<(p:Int)-(a:Int):=by omega
       have ag:((s[a].toNat:Int)==48)=true:=by rw[J.2];rfl
       by_cases A:X<=cH
       ·have aa:decide ((9007199254740991:Int)<(X:Int))=false:=by unfold cH at A;simp;omega
        clear K O M H I P A J;go_wp2_with fail
        go_quiet ((go_at_call 95;exact J2 (N _)));have b:=t.drewN nq;have c:Hid (ca Z w (wr.drewN nq)):=ca.drewN u.out nq;generalize wr.drewN nq=z at b c;clear j f m g l o d t u nq;obtain⟨j,f,m,g,l,o,d⟩:=b.cell;have y:=dh Z s p Y V W 2 a _ b;go_wp2_with fail
        refine y.mono ?_;rintro e q ⟨rfl,B,x⟩;have D:Hid (RD Z s p Y 2 a W q):=B;have F:Hid (ca Z w q):=ca.trans c.out x;clear x y;go_wp2;go_ret;refine⟨?_,F.out⟩;rw[C.out];exact⟨⟨_,rfl⟩,p,by rw[R.out];exact D.out⟩
       ·have aa:(9007199254740991:Int)<(X:Int):=by unfold cH at A;omega
        clear K O M H I P A J;go_wp2_with fail
        go_quiet ((go_at_call 95;exact J2 (N _)));have b:=t.drewN nq;have c:Hid (ca Z w (wr.drewN nq)):=ca.drewN u.out nq;generalize wr.drewN nq=z at b c;clear j f m g l o d t u nq;obtain⟨j,f,m,g,l,o,d⟩:=b.cell;have y:=dh Z s p Y V W 2 a _ b;go_wp2_with fail
        refine y.mono ?_;rintro e q ⟨rfl,B,x⟩;have D:Hid (RD Z s p Y 2 a W q):=B;have F:Hid (ca Z w q):=ca.trans c.out x;clear x y;have ae:Calls prog 66 #[.pointer (some ⟨Z,0,none⟩),.int .i64 3,.int .i64 (i:Int)] q fun r G=>r=.returned (.tuple #[])/\G=q:=lj Z s p Y 2 a W 3 i q B (by omega)
        go_wp2_with fail
        refine ae.mono ?_;rintro e w8 ⟨rfl,ad⟩;rw[ad];clear ad w8 ae;go_wp2;go_ret;refine⟨?_,F.out⟩;rw[C.out];exact⟨⟨_,rfl⟩,p,by rw[R.out];exact D.out⟩
      ·have ab:Hid (¬(p-a=0\/(1<p-a/\(b9 s a).head?=some 48))):=by
        show ¬(p-a=0\/(1<p-a/\(b9 s a).head?=some 48))
        rintro(h|⟨h,h'⟩)
        ·omega
        ·rw[cg s a af]at h'
         exact J ⟨by omega,by simpa using h'⟩
       have ac:(decide ((1:Int)<(p:Int)-(a:Int))=false)\/((1:Int)<(p:Int)-(a:Int)/\((s[a].toNat:Int)==48)=false):=by
        by_cases h1:a+1<p
        ·right;exact⟨by omega,eB (k:=48) (by omega) (fun e=>J ⟨h1,e⟩)⟩
        ·left;simp;omega
       by_cases A:X<=cH
       ·have C:Hid (di (b9 s i)=.ok ((X:Int),0+(p-a))):=by
         have:=H.out;rw[if_neg ab.out,if_neg (by omega)]at this;exact this
        have aa:decide ((9007199254740991:Int)<(X:Int))=false:=by unfold cH at A;simp;omega
        have ah:Hid (a<=p):=K;clear K O M H I P A J ab;rcases ac with U|⟨U,ag⟩
        ·go_wp2_with fail
         go_quiet ((go_at_call 95;exact J2 (N _)));have b:=t.drewN nq;have c:Hid (ca Z w (wr.drewN nq)):=ca.drewN u.out nq;generalize wr.drewN nq=z at b c;clear j f m g l o d t u nq;obtain⟨j,f,m,g,l,o,d⟩:=b.cell;go_wp2;go_ret;refine⟨?_,c.out⟩;rw[C.out];refine⟨rfl,?_⟩;rw[show i+(0+(p-a))=p by have:=R.out;have:=ah.out;omega];exact b
        ·go_wp2_with fail
         go_quiet ((go_at_call 95;exact J2 (N _)));have b:=t.drewN nq;have c:Hid (ca Z w (wr.drewN nq)):=ca.drewN u.out nq;generalize wr.drewN nq=z at b c;clear j f m g l o d t u nq;obtain⟨j,f,m,g,l,o,d⟩:=b.cell;go_wp2;go_ret;refine⟨?_,c.out⟩;rw[C.out];refine⟨rfl,?_⟩;rw[show i+(0+(p-a))=p by have:=R.out;have:=ah.out;omega];exact b
       ·have C:Hid (di (b9 s i)=.error (3,0)):=by
         have:=H.out;rw[if_neg ab.out,if_pos (by omega)]at this;exact this
        have aa:(9007199254740991:Int)<(X:Int):=by unfold cH at A;omega
        clear K O M H I P A J ab;rcases ac with U|⟨U,ag⟩
        ·go_wp2_with fail
         go_quiet ((go_at_call 95;exact J2 (N _)));have b:=t.drewN nq;have c:Hid (ca Z w (wr.drewN nq)):=ca.drewN u.out nq;generalize wr.drewN nq=z at b c;clear j f m g l o d t u nq;obtain⟨j,f,m,g,l,o,d⟩:=b.cell;have y:Calls prog 66 #[.pointer (some ⟨Z,0,none⟩),.int .i64 3,.int .i64 (i:Int)] z fun r G=>r=.returned (.tuple #[])/\RD Z s p Y 3 i W G/\ca Z z G:=dh Z s p Y V W 3 i _ b
         go_wp2_with fail
         refine y.mono ?_;rintro e q ⟨rfl,B,x⟩;have D:Hid (RD Z s p Y 3 i W q):=B;have F:Hid (ca Z w q):=ca.trans c.out x;clear B x y;go_wp2;go_ret;refine⟨?_,F.out⟩;rw[C.out];exact⟨⟨_,rfl⟩,p,D.out⟩
        ·go_wp2_with fail
         go_quiet ((go_at_call 95;exact J2 (N _)));have b:=t.drewN nq;have c:Hid (ca Z w (wr.drewN nq)):=ca.drewN u.out nq;generalize wr.drewN nq=z at b c;clear j f m g l o d t u nq;obtain⟨j,f,m,g,l,o,d⟩:=b.cell;have y:Calls prog 66 #[.pointer (some ⟨Z,0,none⟩),.int .i64 3,.int .i64 (i:Int)] z fun r G=>r=.returned (.tuple #[])/\RD Z s p Y 3 i W G/\ca Z z G:=dh Z s p Y V W 3 i _ b
         go_wp2_with fail
         refine y.mono ?_;rintro e q ⟨rfl,B,x⟩;have D:Hid (RD Z s p Y 3 i W q):=B;have F:Hid (ca Z w q):=ca.trans c.out x;clear B x y;go_wp2;go_ret;refine⟨?_,F.out⟩;rw[C.out];exact⟨⟨_,rfl⟩,p,D.out⟩
  ·have S:=zr s p (by omega)
   rw[S]at Q L;have Q:p=E:=by omega
   have L:X=T:=L;subst Q;subst L;have ar:(s.size:Int)<=(p:Int):=by omega
   have aA:s.size<=p:=by omega
   clear S;have av:(a:Int)<=140737488340000:=by have:=I.out.2;omega
   have aq:(p:Int)<=140737488340000:=by omega
   have am:(X:Int)<=90071992547409919:=by omega
   by_cases P:p=a
   ·have ao:X=0:=by
     obtain⟨⟨e1,e2⟩,e3⟩:=I.out;have S:nd (b9 s a)=0:=by omega
     rw[S]at e2;exact e2.symm
    have C:Hid (di (b9 s i)=.error (2,0)):=by
     have:=H.out;rw[if_pos (by left;omega)]at this;exact this
    have al:((p:Int)==(a:Int))=true:=by simp;omega
    subst ao;clear K O M H I P am;go_wp2_with fail
    go_quiet (fail);have b:=t.drewN nq;have c:Hid (ca Z w (wr.drewN nq)):=ca.drewN u.out nq;generalize wr.drewN nq=z at b c;clear j f m g l o d t u nq;obtain⟨j,f,m,g,l,o,d⟩:=b.cell;have y:=dh Z s p Y V W 2 a _ b;go_wp2_with fail
    refine y.mono ?_;rintro e q ⟨rfl,B,x⟩;have D:Hid (RD Z s p Y 2 a W q):=B;have F:Hid (ca Z w q):=ca.trans c.out x;clear x y;go_wp2;go_ret;refine⟨?_,F.out⟩;rw[C.out];exact⟨⟨_,rfl⟩,p,by rw[R.out];exact D.out⟩
   ·have al:((p:Int)==(a:Int))=false:=by simp;omega
    have af:a<s.size:=by omega
    have aw:(a:Int)<(s.size:Int):=by omega
    by_cases J:a+1<p/\s[a]=48
    ·have C:Hid (di (b9 s i)=.error (2,0)):=by
      have:=H.out;rw[if_pos (by right;exact⟨by omega,by rw[cg s a af,J.2];rfl⟩)]at this;exact this
     have U:(1:Int)<(p:Int)-(a:Int):=by omega
     have ag:((s[a].toNat:Int)==48)=true:=by rw[J.2];rfl
     by_cases A:X<=cH
     ·have aa:decide ((9007199254740991:Int)<(X:Int))=false:=by unfold cH at A;simp;omega
      clear K O M H I P A J;go_wp2_with fail
      go_quiet (fail);have b:=t.drewN nq;have c:Hid (ca Z w (wr.drewN nq)):=ca.drewN u.out nq;generalize wr.drewN nq=z at b c;clear j f m g l o d t u nq;obtain⟨j,f,m,g,l,o,d⟩:=b.cell;have y:=dh Z s p Y V W 2 a _ b;go_wp2_with fail
      refine y.mono ?_;rintro e q ⟨rfl,B,x⟩;have D:Hid (RD Z s p Y 2 a W q):=B;have F:Hid (ca Z w q):=ca.trans c.out x;clear x y;go_wp2;go_ret;refine⟨?_,F.out⟩;rw[C.out];exact⟨⟨_,rfl⟩,p,by rw[R.out];exact D.out⟩
     ·have aa:(9007199254740991:Int)<(X:Int):=by unfold cH at A;omega
      clear K O M H I P A J;go_wp2_with fail
      go_quiet (fail);have b:=t.drewN nq;have c:Hid (ca Z w (wr.drewN nq)):=ca.drewN u.out nq;generalize wr.drewN nq=z at b c;clear j f m g l o d t u nq;obtain⟨j,f,m,g,l,o,d⟩:=b.cell;have y:=dh Z s p Y V W 2 a _ b;go_wp2_with fail
      refine y.mono ?_;rintro e q ⟨rfl,B,x⟩;have D:Hid (RD Z s p Y 2 a W q):=B;have F:Hid (ca Z w q):=ca.trans c.out x;clear x y;have ae:Calls prog 66 #[.pointer (some ⟨Z,0,none⟩),.int .i64 3,.int .i64 (i:Int)] q fun r G=>r=.returned (.tuple #[])/\G=q:=lj Z s p Y 2 a W 3 i q B (by omega)
      go_wp2_with fail
      refine ae.mono ?_;rintro e w8 ⟨rfl,ad⟩;rw[ad];clear ad w8 ae;go_wp2;go_ret;refine⟨?_,F.out⟩;rw[C.out];exact⟨⟨_,rfl⟩,p,by rw[R.out];exact D.out⟩
    ·have ab:Hid (¬(p-a=0\/(1<p-a/\(b9 s a).head?=some 48))):=by
      show ¬(p-a=0\/(1<p-a/\(b9 s a).head?=some 48))
      rintro(h|⟨h,h'⟩)
      ·omega
      ·rw[cg s a af]at h'
       exact J ⟨by omega,by simpa using h'⟩
     have ac:(decide ((1:Int)<(p:Int)-(a:Int))=false)\/((1:Int)<(p:Int)-(a:Int)/\((s[a].toNat:Int)==48)=false):=by
      by_cases h1:a+1<p
      ·right;exact⟨by omega,eB (k:=48) (by omega) (fun e=>J ⟨h1,e⟩)⟩
      ·left;simp;omega
     by_cases A:X<=cH
     ·have C:Hid (di (b9 s i)=.ok ((X:Int),0+(p-a))):=by
       have:=H.out;rw[if_neg ab.out,if_neg (by omega)]at this;exact this
      have aa:decide ((9007199254740991:Int)<(X:Int))=false:=by unfold cH at A;simp;omega
      have ah:Hid (a<=p):=K;clear K O M H I P A J ab;rcases ac with U|⟨U,ag⟩
      ·go_wp2_with fail
       go_quiet (fail);have b:=t.drewN nq;have c:Hid (ca Z w (wr.drewN nq)):=ca.drewN u.out nq;generalize wr.drewN nq=z at b c;clear j f m g l o d t u nq;obtain⟨j,f,m,g,l,o,d⟩:=b.cell;go_wp2;go_ret;refine⟨?_,c.out⟩;rw[C.out];refine⟨rfl,?_⟩;rw[show i+(0+(p-a))=p by have:=R.out;have:=ah.out;omega];exact b
      ·go_wp2_with fail
       go_quiet (fail);have b:=t.drewN nq;have c:Hid (ca Z w (wr.drewN nq)):=ca.drewN u.out nq;generalize wr.drewN nq=z at b c;clear j f m g l o d t u nq;obtain⟨j,f,m,g,l,o,d⟩:=b.cell;go_wp2;go_ret;refine⟨?_,c.out⟩;rw[C.out];refine⟨rfl,?_⟩;rw[show i+(0+(p-a))=p by have:=R.out;have:=ah.out;omega];exact b
     ·have C:Hid (di (b9 s i)=.error (3,0)):=by
       have:=H.out;rw[if_neg ab.out,if_pos (by omega)]at this;exact this
      have aa:(9007199254740991:Int)<(X:Int):=by unfold cH at A;omega
      clear K O M H I P A J ab;rcases ac with U|⟨U,ag⟩
      ·go_wp2_with fail
       go_quiet (fail);have b:=t.drewN nq;have c:Hid (ca Z w (wr.drewN nq)):=ca.drewN u.out nq;generalize wr.drewN nq=z at b c;clear j f m g l o d t u nq;obtain⟨j,f,m,g,l,o,d⟩:=b.cell;have y:Calls prog 66 #[.pointer (some ⟨Z,0,none⟩),.int .i64 3,.int .i64 (i:Int)] z fun r G=>r=.returned (.tuple #[])/\RD Z s p Y 3 i W G/\ca Z z G:=dh Z s p Y V W 3 i _ b
       go_wp2_with fail
       refine y.mono ?_;rintro e q ⟨rfl,B,x⟩;have D:Hid (RD Z s p Y 3 i W q):=B;have F:Hid (ca Z w q):=ca.trans c.out x;clear B x y;go_wp2;go_ret;refine⟨?_,F.out⟩;rw[C.out];exact⟨⟨_,rfl⟩,p,D.out⟩
      ·go_wp2_with fail
       go_quiet (fail);have b:=t.drewN nq;have c:Hid (ca Z w (wr.drewN nq)):=ca.drewN u.out nq;generalize wr.drewN nq=z at b c;clear j f m g l o d t u nq;obtain⟨j,f,m,g,l,o,d⟩:=b.cell;have y:Calls prog 66 #[.pointer (some ⟨Z,0,none⟩),.int .i64 3,.int .i64 (i:Int)] z fun r G=>r=.returned (.tuple #[])/\RD Z s p Y 3 i W G/\ca Z z G:=dh Z s p Y V W 3 i _ b
       go_wp2_with fail
       refine y.mono ?_;rintro e q ⟨rfl,B,x⟩;have D:Hid (RD Z s p Y 3 i W q):=B;have F:Hid (ca Z w q):=ca.trans c.out x;clear B x y;go_wp2;go_ret;refine⟨?_,F.out⟩;rw[C.out];exact⟨⟨_,rfl⟩,p,D.out⟩
end
section
variable (Z:Nat) (s:dv) (i:Nat) (Y:Va) (V W:Nat) (w:Wd)
theorem Ip(hs:s.size<=140737488340000)(h:RD Z s i Y 0 V W w)(hi:i<s.size)(hm:s[i]=45)(a E T:Nat)(al:i+1=a)(Q:a+nd (b9 s a)=E)(L:accN 0 ((b9 s a).take (nd (b9 s a)))=T):Calls prog 96 #[.pointer (some ⟨Z,0,none⟩)] w fun r G=>IP Z s i Y V W (di (b9 s i)) r G/\ca Z w G:=by
 have hr:Calls prog 93 #[.pointer (some ⟨Z,0,none⟩),.int .u8 45] w fun r ak=>r=.returned (.bool true)/\RD Z s i Y 0 V W ak/\ca Z w ak:=by
  have hb:ft 0 (b9 s i) 45=true:=gy (by rw[cg s i hi,hm];rfl);exact hb▸(lW Z s i Y 0 V W 45 w h).mono fun e ak ⟨he,n,hw⟩=>⟨he,hw▸h.drewN n,hw▸(ce Z w).drewN n⟩
 have I:Hid ((a+nd (b9 s a)=E/\accN 0 ((b9 s a).take (nd (b9 s a)))=T)/\a<=s.size):=⟨⟨Q,L⟩,by omega⟩;obtain⟨j,f,m,g,l,o,d⟩:=h.cell;have R:Hid (i+1=a):=al;have H:Hid (di (b9 s i)=if E-a=0\/(1<E-a/\(b9 s a).head?=some 48)then .error (2,1)else if cH<T then .error (3,0)else .ok (-(T:Int),1+(E-a))):=by
  have hk:E-a=nd (b9 s a):=by omega
  rw[hk,<-L,<-al];exact l0 (by rw[cg s i hi,hm])
 have aA:(i:Int)+1=(a:Int):=by omega
 have aC:(i:Int)<=140737488340000:=by omega
 clear Q L al;go_enter func96,ntmps96;go_wp2_with fail
 refine hr.mono ?_;rintro e w2 ⟨rfl,h2,o2⟩;have O1:Hid (ca Z w w2):=o2;clear j f m g l o d h hr o2;obtain⟨j,f,m,g,l,o,d⟩:=h2.cell;have f1:=d 1;have aj:=h2.setI a;have ap:ca Z w (w2.setCell ⟨Z,1,none⟩ (.int .i64 (a:Int))):=ca.setCell O1.out _ h2;have av:=aj.cell.2.1;go_wp2_with fail
 generalize w2.setCell ⟨Z,1,none⟩ (.int .i64 (a:Int))=aw at aj ap av;have H2:Hid (RD Z s a Y 0 V W aw):=aj;have O2:Hid (ca Z w aw):=ap;clear j f m g l o d h2 aj ap av O1 f1 aA;go_loopw [6] (fun v wr=>II Z s Y V W w a E T v wr) (fun _ wr=>s.size-dU (wr.cell? ⟨Z,1,none⟩))
 case atStart=>exact⟨a,0,JQ _,I.out.2,I.out.1.1,I.out.1.2,by omega,rfl,H2.out,O2.out⟩
 case round=>
  clear H2 O2;obtain⟨p,X,K,O,Q,L,M,rfl,t,ho⟩:=hrel;have u:Hid (ca Z w wr):=ho;have HM:Hid (dU (wr.cell? ⟨Z,1,none⟩)=p):=lc t;obtain⟨j,f,m,g,l,o,d⟩:=t.cell;clear ho;by_cases ai:p<s.size
  ·have ax:(p:Int)<(s.size:Int):=by omega
   have N:=gY s[p];cases hd:d8 s[p]with
   | true=>
     rw[hd]at N;obtain⟨ao,ar⟩:=(kF _).1 hd;have HE:Hid (p+1+nd (b9 s (p+1))=E):=by rw[rL s p ai hd]at Q;show p+1+nd (b9 s (p+1))=E;omega
     have HT:Hid (accN (if X<=cH then 10*X+(s[p].toNat-48)else X) ((b9 s (p+1)).take (nd (b9 s (p+1))))=T):=by rw[t8 s p X ai hd]at L;exact L
     clear Q L hd;have HB:Hid (a<=p/\p<s.size/\48<=s[p].toNat/\s[p].toNat<=57):=⟨K,ai,ao,ar⟩;have aE:(48:Int)<=(s[p].toNat:Int):=by omega
     have aF:(s[p].toNat:Int)<=57:=by omega
     have au:(p:Int)<=140737488340000:=by omega
     have aD:(X:Int)<=90071992547409919:=by omega
     by_cases A:X<=cH
     ·have HX:Hid (X<=cH):=A
      have aa:(X:Int)<=9007199254740991:=by unfold cH at A;omega
      clear A M K O ao ar;go_wp2_with fail
      go_quiet ((go_at_call 95;exact J2 (N _)));have b:=t.drewN nq;have c:Hid (ca Z w (wr.drewN nq)):=ca.drewN u.out nq;generalize wr.drewN nq=z at b c;clear j f m g l o d t u nq N;obtain⟨j,f,m,g,l,o,d⟩:=b.cell;go_wp2_with fail
      go_quiet (fail);have h4:=b.drewN nq;have O4:Hid (ca Z w (z.drewN nq)):=ca.drewN c.out nq;generalize z.drewN nq=w4 at h4 O4;clear j f m g l o d b c nq z;obtain⟨j,f,m,g,l,o,d⟩:=h4.cell;have f1:=d 1;go_wp2_with fail
      have h5:=h4.setI (p+1);obtain⟨b1,b2,b3,b4⟩:=HB.out;refine⟨⟨p+1,10*X+(s[p].toNat-48),by omega,by omega,HE.out,?_,by omega,KV (Value.int .i64) (by omega),h5,ca.setCell O4.out _ h4⟩,?_⟩
      ·have:=HT.out;rw[if_pos HX.out]at this;exact this
      ·rw[HM.out,iq h4 p];omega
     ·have HX:Hid (¬X<=cH):=A
      have aa:(9007199254740991:Int)<(X:Int):=by unfold cH at A;omega
      have ay:Hid (X<=90071992547409919):=M;clear A M K O ao ar;go_wp2_with fail
      go_quiet ((go_at_call 95;exact J2 (N _)));have b:=t.drewN nq;have c:Hid (ca Z w (wr.drewN nq)):=ca.drewN u.out nq;generalize wr.drewN nq=z at b c;clear j f m g l o d t u nq N;obtain⟨j,f,m,g,l,o,d⟩:=b.cell;have f1:=d 1;go_wp2_with fail
      have h5:=b.setI (p+1);obtain⟨b1,b2,b3,b4⟩:=HB.out;refine⟨⟨p+1,X,by omega,by omega,HE.out,?_,ay.out,rfl,h5,ca.setCell c.out _ b⟩,?_⟩
      ·have:=HT.out;rw[if_neg HX.out]at this;exact this
      ·rw[HM.out,iq b p];omega
   | false=>
     rw[hd]at N;have S:=wF s p ai hd;rw[S]at Q L;have Q:p=E:=by omega
     have L:X=T:=L;subst Q;subst L;clear hd S;have az:(a:Int)<=140737488340000:=by have:=I.out.2;omega
     have au:(p:Int)<=140737488340000:=by omega
     have an:(X:Int)<=90071992547409919:=by omega
     by_cases P:p=a
     ·have aq:X=0:=by
       obtain⟨⟨e1,e2⟩,e3⟩:=I.out;have S:nd (b9 s a)=0:=by omega
       rw[S]at e2;exact e2.symm
      have C:Hid (di (b9 s i)=.error (2,1)):=by
       have:=H.out;rw[if_pos (by left;omega)]at this;exact this
      have am:((p:Int)==(a:Int))=true:=by simp;omega
      subst aq;clear K O M H I P an;go_wp2_with fail
      go_quiet ((go_at_call 95;exact J2 (N _)));have b:=t.drewN nq;have c:Hid (ca Z w (wr.drewN nq)):=ca.drewN u.out nq;generalize wr.drewN nq=z at b c;clear j f m g l o d t u nq;obtain⟨j,f,m,g,l,o,d⟩:=b.cell;have y:=dh Z s p Y V W 2 a _ b;go_wp2_with fail
      refine y.mono ?_;rintro e q ⟨rfl,B,x⟩;have D:Hid (RD Z s p Y 2 a W q):=B;have F:Hid (ca Z w q):=ca.trans c.out x;clear x y;go_wp2;go_ret;refine⟨?_,F.out⟩;rw[C.out];exact⟨⟨_,rfl⟩,p,by rw[R.out];exact D.out⟩
     ·have am:((p:Int)==(a:Int))=false:=by simp;omega
      have af:a<s.size:=by omega
      have aB:(a:Int)<(s.size:Int):=by omega
      by_cases J:a+1<p/\s[a]=48
      ·have C:Hid (di (b9 s i)=.error (2,1)):=by
        have:=H.out;rw[if_pos (by right;exact⟨by omega,by rw[cg s a af,J.2];rfl⟩)]at this;exact this
       have U:(1:Int)<(p:Int)-(a:Int):=by omega
       have ag:((s[a].toNat:Int)==48)=true:=by rw[J.2];rfl
       by_cases A:X<=cH
       ·have aa:decide ((9007199254740991:Int)<(X:Int))=false:=by unfold cH at A;simp;omega
        clear K O M H I P A J;go_wp2_with fail
        go_quiet ((go_at_call 95;exact J2 (N _)));have b:=t.drewN nq;have c:Hid (ca Z w (wr.drewN nq)):=ca.drewN u.out nq;generalize wr.drewN nq=z at b c;clear j f m g l o d t u nq;obtain⟨j,f,m,g,l,o,d⟩:=b.cell;have y:=dh Z s p Y V W 2 a _ b;go_wp2_with fail
        refine y.mono ?_;rintro e q ⟨rfl,B,x⟩;have D:Hid (RD Z s p Y 2 a W q):=B;have F:Hid (ca Z w q):=ca.trans c.out x;clear x y;go_wp2;go_ret;refine⟨?_,F.out⟩;rw[C.out];exact⟨⟨_,rfl⟩,p,by rw[R.out];exact D.out⟩
       ·have aa:(9007199254740991:Int)<(X:Int):=by unfold cH at A;omega
        clear K O M H I P A J;go_wp2_with fail
        go_quiet ((go_at_call 95;exact J2 (N _)));have b:=t.drewN nq;have c:Hid (ca Z w (wr.drewN nq)):=ca.drewN u.out nq;generalize wr.drewN nq=z at b c;clear j f m g l o d t u nq;obtain⟨j,f,m,g,l,o,d⟩:=b.cell;have y:=dh Z s p Y V W 2 a _ b;go_wp2_with fail
        refine y.mono ?_;rintro e q ⟨rfl,B,x⟩;have D:Hid (RD Z s p Y 2 a W q):=B;have F:Hid (ca Z w q):=ca.trans c.out x;clear x y;have ae:Calls prog 66 #[.pointer (some ⟨Z,0,none⟩),.int .i64 3,.int .i64 (i:Int)] q fun r G=>r=.returned (.tuple #[])/\G=q:=lj Z s p Y 2 a W 3 i q B (by omega)
        go_wp2_with fail
        refine ae.mono ?_;rintro e w8 ⟨rfl,ad⟩;rw[ad];clear ad w8 ae;go_wp2;go_ret;refine⟨?_,F.out⟩;rw[C.out];exact⟨⟨_,rfl⟩,p,by rw[R.out];exact D.out⟩
      ·have ab:Hid (¬(p-a=0\/(1<p-a/\(b9 s a).head?=some 48))):=by
        show ¬(p-a=0\/(1<p-a/\(b9 s a).head?=some 48))
        rintro(h|⟨h,h'⟩)
        ·omega
        ·rw[cg s a af]at h'
         exact J ⟨by omega,by simpa using h'⟩
       have ac:(decide ((1:Int)<(p:Int)-(a:Int))=false)\/((1:Int)<(p:Int)-(a:Int)/\((s[a].toNat:Int)==48)=false):=by
        by_cases h1:a+1<p
        ·right;exact⟨by omega,eB (k:=48) (by omega) (fun e=>J ⟨h1,e⟩)⟩
        ·left;simp;omega
       by_cases A:X<=cH
       ·have C:Hid (di (b9 s i)=.ok (-(X:Int),1+(p-a))):=by
         have:=H.out;rw[if_neg ab.out,if_neg (by omega)]at this;exact this
        have aa:decide ((9007199254740991:Int)<(X:Int))=false:=by unfold cH at A;simp;omega
        have ah:Hid (a<=p):=K;clear K O M H I P A J ab;rcases ac with U|⟨U,ag⟩
        ·go_wp2_with fail
         go_quiet ((go_at_call 95;exact J2 (N _)));have b:=t.drewN nq;have c:Hid (ca Z w (wr.drewN nq)):=ca.drewN u.out nq;generalize wr.drewN nq=z at b c;clear j f m g l o d t u nq;obtain⟨j,f,m,g,l,o,d⟩:=b.cell;go_wp2;go_ret;refine⟨?_,c.out⟩;rw[C.out];refine⟨rfl,?_⟩;rw[show i+(1+(p-a))=p by have:=R.out;have:=ah.out;omega];exact b
        ·go_wp2_with fail
         go_quiet ((go_at_call 95;exact J2 (N _)));have b:=t.drewN nq;have c:Hid (ca Z w (wr.drewN nq)):=ca.drewN u.out nq;generalize wr.drewN nq=z at b c;clear j f m g l o d t u nq;obtain⟨j,f,m,g,l,o,d⟩:=b.cell;go_wp2;go_ret;refine⟨?_,c.out⟩;rw[C.out];refine⟨rfl,?_⟩;rw[show i+(1+(p-a))=p by have:=R.out;have:=ah.out;omega];exact b
       ·have C:Hid (di (b9 s i)=.error (3,0)):=by
         have:=H.out;rw[if_neg ab.out,if_pos (by omega)]at this;exact this
        have aa:(9007199254740991:Int)<(X:Int):=by unfold cH at A;omega
        clear K O M H I P A J ab;rcases ac with U|⟨U,ag⟩
        ·go_wp2_with fail
         go_quiet ((go_at_call 95;exact J2 (N _)));have b:=t.drewN nq;have c:Hid (ca Z w (wr.drewN nq)):=ca.drewN u.out nq;generalize wr.drewN nq=z at b c;clear j f m g l o d t u nq;obtain⟨j,f,m,g,l,o,d⟩:=b.cell;have y:Calls prog 66 #[.pointer (some ⟨Z,0,none⟩),.int .i64 3,.int .i64 (i:Int)] z fun r G=>r=.returned (.tuple #[])/\RD Z s p Y 3 i W G/\ca Z z G:=dh Z s p Y V W 3 i _ b
         go_wp2_with fail
         refine y.mono ?_;rintro e q ⟨rfl,B,x⟩;have D:Hid (RD Z s p Y 3 i W q):=B;have F:Hid (ca Z w q):=ca.trans c.out x;clear B x y;go_wp2;go_ret;refine⟨?_,F.out⟩;rw[C.out];exact⟨⟨_,rfl⟩,p,D.out⟩
        ·go_wp2_with fail
         go_quiet ((go_at_call 95;exact J2 (N _)));have b:=t.drewN nq;have c:Hid (ca Z w (wr.drewN nq)):=ca.drewN u.out nq;generalize wr.drewN nq=z at b c;clear j f m g l o d t u nq;obtain⟨j,f,m,g,l,o,d⟩:=b.cell;have y:Calls prog 66 #[.pointer (some ⟨Z,0,none⟩),.int .i64 3,.int .i64 (i:Int)] z fun r G=>r=.returned (.tuple #[])/\RD Z s p Y 3 i W G/\ca Z z G:=dh Z s p Y V W 3 i _ b
         go_wp2_with fail
         refine y.mono ?_;rintro e q ⟨rfl,B,x⟩;have D:Hid (RD Z s p Y 3 i W q):=B;have F:Hid (ca Z w q):=ca.trans c.out x;clear B x y;go_wp2;go_ret;refine⟨?_,F.out⟩;rw[C.out];exact⟨⟨_,rfl⟩,p,D.out⟩
  ·have S:=zr s p (by omega)
   rw[S]at Q L;have Q:p=E:=by omega
   have L:X=T:=L;subst Q;subst L;have ax:(s.size:Int)<=(p:Int):=by omega
   have aG:s.size<=p:=by omega
   clear S;have az:(a:Int)<=140737488340000:=by have:=I.out.2;omega
   have au:(p:Int)<=140737488340000:=by omega
   have an:(X:Int)<=90071992547409919:=by omega
   by_cases P:p=a
   ·have aq:X=0:=by
     obtain⟨⟨e1,e2⟩,e3⟩:=I.out;have S:nd (b9 s a)=0:=by omega
     rw[S]at e2;exact e2.symm
    have C:Hid (di (b9 s i)=.error (2,1)):=by
     have:=H.out;rw[if_pos (by left;omega)]at this;exact this
    have am:((p:Int)==(a:Int))=true:=by simp;omega
    subst aq;clear K O M H I P an;go_wp2_with fail
    go_quiet (fail);have b:=t.drewN nq;have c:Hid (ca Z w (wr.drewN nq)):=ca.drewN u.out nq;generalize wr.drewN nq=z at b c;clear j f m g l o d t u nq;obtain⟨j,f,m,g,l,o,d⟩:=b.cell;have y:=dh Z s p Y V W 2 a _ b;go_wp2_with fail
    refine y.mono ?_;rintro e q ⟨rfl,B,x⟩;have D:Hid (RD Z s p Y 2 a W q):=B;have F:Hid (ca Z w q):=ca.trans c.out x;clear x y;go_wp2;go_ret;refine⟨?_,F.out⟩;rw[C.out];exact⟨⟨_,rfl⟩,p,by rw[R.out];exact D.out⟩
   ·have am:((p:Int)==(a:Int))=false:=by simp;omega
    have af:a<s.size:=by omega
    have aB:(a:Int)<(s.size:Int):=by omega
    by_cases J:a+1<p/\s[a]=48
    ·have C:Hid (di (b9 s i)=.error (2,1)):=by
      have:=H.out;rw[if_pos (by right;exact⟨by omega,by rw[cg s a af,J.2];rfl⟩)]at this;exact this
     have U:(1:Int)<(p:Int)-(a:Int):=by omega
     have ag:((s[a].toNat:Int)==48)=true:=by rw[J.2];rfl
     by_cases A:X<=cH
     ·have aa:decide ((9007199254740991:Int)<(X:Int))=false:=by unfold cH at A;simp;omega
      clear K O M H I P A J;go_wp2_with fail
      go_quiet (fail);have b:=t.drewN nq;have c:Hid (ca Z w (wr.drewN nq)):=ca.drewN u.out nq;generalize wr.drewN nq=z at b c;clear j f m g l o d t u nq;obtain⟨j,f,m,g,l,o,d⟩:=b.cell;have y:=dh Z s p Y V W 2 a _ b;go_wp2_with fail
      refine y.mono ?_;rintro e q ⟨rfl,B,x⟩;have D:Hid (RD Z s p Y 2 a W q):=B;have F:Hid (ca Z w q):=ca.trans c.out x;clear x y;go_wp2;go_ret;refine⟨?_,F.out⟩;rw[C.out];exact⟨⟨_,rfl⟩,p,by rw[R.out];exact D.out⟩
     ·have aa:(9007199254740991:Int)<(X:Int):=by unfold cH at A;omega
      clear K O M H I P A J;go_wp2_with fail
      go_quiet (fail);have b:=t.drewN nq;have c:Hid (ca Z w (wr.drewN nq)):=ca.drewN u.out nq;generalize wr.drewN nq=z at b c;clear j f m g l o d t u nq;obtain⟨j,f,m,g,l,o,d⟩:=b.cell;have y:=dh Z s p Y V W 2 a _ b;go_wp2_with fail
      refine y.mono ?_;rintro e q ⟨rfl,B,x⟩;have D:Hid (RD Z s p Y 2 a W q):=B;have F:Hid (ca Z w q):=ca.trans c.out x;clear x y;have ae:Calls prog 66 #[.pointer (some ⟨Z,0,none⟩),.int .i64 3,.int .i64 (i:Int)] q fun r G=>r=.returned (.tuple #[])/\G=q:=lj Z s p Y 2 a W 3 i q B (by omega)
      go_wp2_with fail
      refine ae.mono ?_;rintro e w8 ⟨rfl,ad⟩;rw[ad];clear ad w8 ae;go_wp2;go_ret;refine⟨?_,F.out⟩;rw[C.out];exact⟨⟨_,rfl⟩,p,by rw[R.out];exact D.out⟩
    ·have ab:Hid (¬(p-a=0\/(1<p-a/\(b9 s a).head?=some 48))):=by
      show ¬(p-a=0\/(1<p-a/\(b9 s a).head?=some 48))
      rintro(h|⟨h,h'⟩)
      ·omega
      ·rw[cg s a af]at h'
       exact J ⟨by omega,by simpa using h'⟩
     have ac:(decide ((1:Int)<(p:Int)-(a:Int))=false)\/((1:Int)<(p:Int)-(a:Int)/\((s[a].toNat:Int)==48)=false):=by
      by_cases h1:a+1<p
      ·right;exact⟨by omega,eB (k:=48) (by omega) (fun e=>J ⟨h1,e⟩)⟩
      ·left;simp;omega
     by_cases A:X<=cH
     ·have C:Hid (di (b9 s i)=.ok (-(X:Int),1+(p-a))):=by
       have:=H.out;rw[if_neg ab.out,if_neg (by omega)]at this;exact this
      have aa:decide ((9007199254740991:Int)<(X:Int))=false:=by unfold cH at A;simp;omega
      have ah:Hid (a<=p):=K;clear K O M H I P A J ab;rcases ac with U|⟨U,ag⟩
      ·go_wp2_with fail
       go_quiet (fail);have b:=t.drewN nq;have c:Hid (ca Z w (wr.drewN nq)):=ca.drewN u.out nq;generalize wr.drewN nq=z at b c;clear j f m g l o d t u nq;obtain⟨j,f,m,g,l,o,d⟩:=b.cell;go_wp2;go_ret;refine⟨?_,c.out⟩;rw[C.out];refine⟨rfl,?_⟩;rw[show i+(1+(p-a))=p by have:=R.out;have:=ah.out;omega];exact b
      ·go_wp2_with fail
       go_quiet (fail);have b:=t.drewN nq;have c:Hid (ca Z w (wr.drewN nq)):=ca.drewN u.out nq;generalize wr.drewN nq=z at b c;clear j f m g l o d t u nq;obtain⟨j,f,m,g,l,o,d⟩:=b.cell;go_wp2;go_ret;refine⟨?_,c.out⟩;rw[C.out];refine⟨rfl,?_⟩;rw[show i+(1+(p-a))=p by have:=R.out;have:=ah.out;omega];exact b
     ·have C:Hid (di (b9 s i)=.error (3,0)):=by
       have:=H.out;rw[if_neg ab.out,if_pos (by omega)]at this;exact this
      have aa:(9007199254740991:Int)<(X:Int):=by unfold cH at A;omega
      clear K O M H I P A J ab;rcases ac with U|⟨U,ag⟩
      ·go_wp2_with fail
       go_quiet (fail);have b:=t.drewN nq;have c:Hid (ca Z w (wr.drewN nq)):=ca.drewN u.out nq;generalize wr.drewN nq=z at b c;clear j f m g l o d t u nq;obtain⟨j,f,m,g,l,o,d⟩:=b.cell;have y:Calls prog 66 #[.pointer (some ⟨Z,0,none⟩),.int .i64 3,.int .i64 (i:Int)] z fun r G=>r=.returned (.tuple #[])/\RD Z s p Y 3 i W G/\ca Z z G:=dh Z s p Y V W 3 i _ b
       go_wp2_with fail
       refine y.mono ?_;rintro e q ⟨rfl,B,x⟩;have D:Hid (RD Z s p Y 3 i W q):=B;have F:Hid (ca Z w q):=ca.trans c.out x;clear B x y;go_wp2;go_ret;refine⟨?_,F.out⟩;rw[C.out];exact⟨⟨_,rfl⟩,p,D.out⟩
      ·go_wp2_with fail
       go_quiet (fail);have b:=t.drewN nq;have c:Hid (ca Z w (wr.drewN nq)):=ca.drewN u.out nq;generalize wr.drewN nq=z at b c;clear j f m g l o d t u nq;obtain⟨j,f,m,g,l,o,d⟩:=b.cell;have y:Calls prog 66 #[.pointer (some ⟨Z,0,none⟩),.int .i64 3,.int .i64 (i:Int)] z fun r G=>r=.returned (.tuple #[])/\RD Z s p Y 3 i W G/\ca Z z G:=dh Z s p Y V W 3 i _ b
       go_wp2_with fail
       refine y.mono ?_;rintro e q ⟨rfl,B,x⟩;have D:Hid (RD Z s p Y 3 i W q):=B;have F:Hid (ca Z w q):=ca.trans c.out x;clear B x y;go_wp2;go_ret;refine⟨?_,F.out⟩;rw[C.out];exact⟨⟨_,rfl⟩,p,D.out⟩
theorem sR(c:s.size<=140737488340000)(h:RD Z s i Y 0 V W w)(b:i<s.size):Calls prog 96 #[.pointer (some ⟨Z,0,none⟩)] w fun r d=>IP Z s i Y V W (di (b9 s i)) r d/\ca Z w d:=by
 by_cases a:s[i]=45
 ·exact Ip Z s i Y V W w c h b a (i+1) _ _ rfl rfl rfl
 ·exact It Z s i Y V W w c h b a i _ _ rfl rfl rfl
end
theorem ui:(prog.info? 83).map (fun i=>(i.zero,i.size,i.bytes))=some (some (.agg #[.int .i64 0,.string ⟨#[]⟩,.string ⟨#[]⟩,.int .i64 0,.slice none 0 0,.int .i64 0]),6,80):=by kernel_rfl
theorem G8(a:Nat)(s:dv)(i:Nat)(f:sd)(cap:Nat)(B D A:Nat)(b:oa)(nd:Nd)(w:Wd)(h:RD a s i (.slice f b.length cap) B D A w)(hN:cr (a+1) 83 (.slice f b.length cap) b w)(hk:nd.kids=[])(hl:b.length<=900000000):Calls prog 44 #[.pointer (some ⟨a,0,none⟩),.int .i64 (-1),iF nd] w fun r N=>r=.returned (.int .i64 (b.length:Int))/\(∃Y,RD a s i Y B D A N/\cr (a+1) 83 Y (b++[nd]) N)/\Below a w N:=by
 obtain⟨i0,V,ai,ar,ak⟩:=Kf ui;have HI:Hid _:=V;obtain⟨I,k1,k2,k3,k4⟩:=hN;have aw:=h.lt;have M:RD a s i (.slice f b.length cap) B D A (w.alloc (.cells #[.int .i64 (nd.kind:Int),.string ⟨nd.key.toArray⟩,.string ⟨nd.text.toArray⟩,.int .i64 nd.num,.slice none 0 0,.int .i64 (nd.at':Int)] 83)):=h.alloc _;obtain⟨c0,c1,c2,c3,c4,c5,cf⟩:=M.cell;have f2:=cf 2;have ah:Hid _:=k1;have T:Hid _:=k2;have aj:Hid (∀(k:Nat) (n:Nd) (kv:Va),b[k]?=some n->I[k]?=some kv->w.ownsRow (a+1) 3 1 kv n.kids.length (n.kids.map iV)):=k3;have ag:Hid _:=k4;clear V k1 k2 k3 k4;unfold iF;go_enter func44,ntmps44;go_wp2_with fail
 have t:∀k u,[Value.int .i64 (nd.kind:Int),.string ⟨nd.key.toArray⟩,.string ⟨nd.text.toArray⟩,.int .i64 nd.num,.slice none 0 0,.int .i64 (nd.at':Int)][k]?=some u->(w.alloc (.cells #[.int .i64 (nd.kind:Int),.string ⟨nd.key.toArray⟩,.string ⟨nd.text.toArray⟩,.int .i64 nd.num,.slice none 0 0,.int .i64 (nd.at':Int)] 83)).cell? ⟨w.heap.size,k,none⟩=some u:=by
  intro k u z;rw[JE _ _ k _ _ _ (JK w _)];simpa using z
 have b0:=t 0 _ rfl;have b1:=t 1 _ rfl;have b2:=t 2 _ rfl;have b3:=t 3 _ rfl;have b4:=t 4 _ rfl;have b5:=t 5 _ rfl;have Q:Below w.heap.size w (w.alloc (.cells #[.int .i64 (nd.kind:Int),.string ⟨nd.key.toArray⟩,.string ⟨nd.text.toArray⟩,.int .i64 nd.num,.slice none 0 0,.int .i64 (nd.at':Int)] 83)):=cK (cF w) _;have aa:(w.alloc (.cells #[.int .i64 (nd.kind:Int),.string ⟨nd.key.toArray⟩,.string ⟨nd.text.toArray⟩,.int .i64 nd.num,.slice none 0 0,.int .i64 (nd.at':Int)] 83)).heap.size=w.heap.size+1:=by simp
 clear t;generalize w.alloc (.cells #[.int .i64 (nd.kind:Int),.string ⟨nd.key.toArray⟩,.string ⟨nd.text.toArray⟩,.int .i64 nd.num,.slice none 0 0,.int .i64 (nd.at':Int)] 83)=d at *;have C:Hid (Below w.heap.size w d):=Q;have E:Hid (d.heap.size=w.heap.size+1):=aa;have K:Hid (RD a s i (.slice f b.length cap) B D A d):=M;have af:Hid (d.ownsRow (a+1) 83 6 (.slice f b.length cap) b.length (dl b I)):=ez T.out (fun g _ m=>Q.block g m);clear Q aa M c0 c1 c3 c4 c5 cf;have S:a<d.heap.size:=K.out.lt;have am:∀o:Obj,(d.alloc o).frozen? ⟨a,2,none⟩=false:=fun o=>(K.out.alloc o).cell.2.2.2.2.2.2 2
 have aq:∀o:Obj,(d.alloc o).drew.frozen? ⟨a,2,none⟩=false:=fun o=>(K.out.alloc o).cell.2.2.2.2.2.2 2
 have ae:Hid (∀o,((d.alloc o).drew).ownsRow (a+1) 83 6 (.slice f b.length cap) b.length (dl b I)):=fun o=>af.out.alloc o
 have W:Hid (∀o,a+1<=((d.alloc o).drew).heap.size):=fun o=>by show _<=(d.alloc o).heap.size;simp;omega
 have ab:Hid (∀j u,(cz nd (.slice none 0 0))[j]?=some u->((d.alloc (.cells #[.int .i64 (nd.kind:Int),.string ⟨nd.key.toArray⟩,.string ⟨nd.text.toArray⟩,.int .i64 nd.num,.slice none 0 0,.int .i64 (nd.at':Int)] 83)).drew).cell? ((⟨d.heap.size,0,none⟩:Addr).add j)=some u):=by
  intro j u z;have ao:(⟨d.heap.size,0,none⟩:Addr).add j=⟨d.heap.size,j,none⟩:=by unfold Addr.add;split<;>simp_all
  rw[ao];show(d.alloc _).cell? _=_
  rw[JE _ _ j _ _ _ (JK d _)];simpa [cz]using z
 have X:Hid (b.length+1<=1000000000):=by show b.length+1<=1000000000;omega
 have G:Hid (∀g c,(Value.slice f b.length cap).ownBlock=some g->g=c->a+1<=c/\c<w.heap.size):=by
  intro g c m hc;subst hc;rcases T.out.2 with⟨e,_⟩|⟨g',au,ax,e,hb,hh,_⟩
  ·rw[e]at m;simp[Value.ownBlock]at m
  ·rw[e]at m;simp[Value.ownBlock]at m;subst m;exact⟨hb,(go.1 hh).1⟩
 have J:Hid (some a≠(Value.slice f b.length cap).ownBlock/\some w.heap.size≠(Value.slice f b.length cap).ownBlock/\w.heap.size<d.heap.size):=by
  refine⟨fun e=>?_,fun e=>?_,by have:=E.out;omega⟩
  ·have:=G.out a a e.symm rfl;omega
  ·have:=G.out w.heap.size _ e.symm rfl;omega
 have HS:Hid (∀o k,((d.alloc o).drew).cell? ⟨a,k,none⟩=d.cell? ⟨a,k,none⟩):=fun o k=>JN _ _ _ S
 have ap:∀o:Obj,(d.alloc o).cell? ⟨a,2,none⟩=some (.slice f b.length cap):=fun o=>(JN _ _ _ S).trans c2
 go_region_law ((refine xx rfl (.tmp 17) (.tmp 19) 77 rfl 83 i0 _ 6 80 underlying77 HI.out ai ar ak rfl (by decide) (a+1) _ b.length (dl b I) (cz nd (.slice none 0 0)) ⟨d.heap.size,0,none⟩ rfl rfl rfl (by intro u z;simp[cz]at z;rcases z with rfl|rfl|rfl|rfl|rfl|rfl<;>rfl) X.out (by omega) (by exact ae.out _) (by exact W.out _) (by exact ab.out) ?_;intro v6 l O H;obtain⟨x,y,rfl⟩:=jL O;have F:=c6 H S J.out.1;have v:=c6 H J.out.2.2 J.out.2.1;have s2:=(F.2.1 2).trans c2;have al:=(F.2.2 2).trans f2;have t0:=(v.2.1 0).trans b0;have t1:=(v.2.1 1).trans b1;have t2:=(v.2.1 2).trans b2;have t3:=(v.2.1 3).trans b3;have t4:=(v.2.1 4).trans b4;have t5:=(v.2.1 5).trans b5;have P:Hid (RD a s i (.slice f b.length cap) B D A l):=F.1.trans K.out;clear F v;have W6:Hid _:=O;have p:Hid _:=H;clear O H))
 all_goals
  have h7:=P.out.setL (.slice (some ⟨x,0,none⟩) (b.length+1) y);have q:ca a l (l.setCell ⟨a,2,none⟩ (.slice (some ⟨x,0,none⟩) (b.length+1) y)):=ca.setCell (ce a l) _ P.out;have L:∀g,g<w.heap.size->some g≠(Value.slice f b.length cap).ownBlock->l.heap[g]?=w.heap[g]?:=fun g m an=>(c6 p.out (by have:=E.out;omega) an).1.trans (C.out.block g m)
  have ac:cr (a+1) 83 (.slice (some ⟨x,0,none⟩) (b.length+1) y) (b++[nd]) (l.setCell ⟨a,2,none⟩ (.slice (some ⟨x,0,none⟩) (b.length+1) y)):=(cr.push ah.out T.out aj.out ag.out W6.out L (by decide) hk).onl q (by omega);have Z:Below a w (l.setCell ⟨a,2,none⟩ (.slice (some ⟨x,0,none⟩) (b.length+1) y)):=by
   refine⟨q.os.trans (p.out.os.trans C.out.os),q.tape.trans (p.out.tape.trans C.out.tape),q.output.trans (p.out.output.trans C.out.output),?_,?_⟩
   ·have a1:=q.size
    have R:(d.alloc _).heap.size<=l.heap.size:=p.out.size;have a3:=E.out;simp at R;omega
   ·intro k av
    have R:(d.alloc _).heap.size<=l.heap.size:=p.out.size;have a3:=E.out;refine(q.block k (by simp at R;omega) (fun e=>by injection e with e;omega)).trans (L k (by omega) ?_);intro e;have:=G.out k k e.symm rfl;omega
  have H7:Hid _:=h7;have U:Hid _:=ac;have B7:Hid _:=Z;clear h7 q L ac Z ae W ab X G J HS ap am aq s2 al t0 t1 t2 t3 t4 t5 b0 b1 b2 b3 b4 b5 P W6 p af C;generalize l.setCell ⟨a,2,none⟩ (.slice (some ⟨x,0,none⟩) (b.length+1) y)=w7 at H7 U B7;go_wp2;go_ret;exact⟨rfl,⟨_,H7.out,U.out⟩,B7.out⟩
theorem IOa(f:Nat)(s:dv)(i:Nat)(q:sd)(cap:Nat)(B F C:Nat)(d:oa)(nd:Nd)(w:Wd)(h:RD f s i (.slice q d.length cap) B F C w)(hN:cr (f+1) 83 (.slice q d.length cap) d w)(hk:nd.kids=[])(hl:d.length<=900000000)(u:Nat)(E:u<d.length)(a0:∀n∈d,n.kids.length<=900000000):Calls prog 44 #[.pointer (some ⟨f,0,none⟩),.int .i64 (u:Int),iF nd] w fun r w'=>r=.returned (.int .i64 (d.length:Int))/\(∃v',RD f s i v' B F C w'/\cr (f+1) 83 v' (cR d (some u) d.length++[nd]) w')/\Below f w w':=by
 obtain⟨i0,aM,bd,a9,aZ⟩:=Kf ui;have HI:Hid _:=aM;obtain⟨aj,k1,k2,k3,k4⟩:=hN;have bf:=h.lt;have hW:RD f s i (.slice q d.length cap) B F C (w.alloc (.cells #[.int .i64 (nd.kind:Int),.string ⟨nd.key.toArray⟩,.string ⟨nd.text.toArray⟩,.int .i64 nd.num,.slice none 0 0,.int .i64 (nd.at':Int)] 83)):=h.alloc _;obtain⟨c0,c1,Q,c3,c4,c5,Y⟩:=hW.cell;have f2:=Y 2;have aJ:Hid _:=k1;have ab:Hid _:=k2;have az:Hid (∀(k:Nat) (n:Nd) (M:Va),d[k]?=some n->aj[k]?=some M->w.ownsRow (f+1) 3 1 M n.kids.length (n.kids.map iV)):=k3;have ay:Hid _:=k4;clear aM k1 k2 k3 k4;unfold iF;go_enter func44,ntmps44;go_upto_region 2 with fail
 go_cut [] (fun wx=>∃l p,RD f s i (.slice (some ⟨l,0,none⟩) (d.length+1) p) B F C wx/\cr (f+1) 83 (.slice (some ⟨l,0,none⟩) (d.length+1) p) (d++[nd]) wx/\Below f w wx)
 case first=>
  have K:∀k u,[Value.int .i64 (nd.kind:Int),.string ⟨nd.key.toArray⟩,.string ⟨nd.text.toArray⟩,.int .i64 nd.num,.slice none 0 0,.int .i64 (nd.at':Int)][k]?=some u->(w.alloc (.cells #[.int .i64 (nd.kind:Int),.string ⟨nd.key.toArray⟩,.string ⟨nd.text.toArray⟩,.int .i64 nd.num,.slice none 0 0,.int .i64 (nd.at':Int)] 83)).cell? ⟨w.heap.size,k,none⟩=some u:=by
   intro k u E;rw[JE _ _ k _ _ _ (JK w _)];simpa using E
  have b0:=K 0 _ rfl;have b1:=K 1 _ rfl;have b2:=K 2 _ rfl;have b3:=K 3 _ rfl;have b4:=K 4 _ rfl;have b5:=K 5 _ rfl;have ap:Below w.heap.size w (w.alloc (.cells #[.int .i64 (nd.kind:Int),.string ⟨nd.key.toArray⟩,.string ⟨nd.text.toArray⟩,.int .i64 nd.num,.slice none 0 0,.int .i64 (nd.at':Int)] 83)):=cK (cF w) _;have aR:(w.alloc (.cells #[.int .i64 (nd.kind:Int),.string ⟨nd.key.toArray⟩,.string ⟨nd.text.toArray⟩,.int .i64 nd.num,.slice none 0 0,.int .i64 (nd.at':Int)] 83)).heap.size=w.heap.size+1:=by simp
  clear K;generalize w.alloc (.cells #[.int .i64 (nd.kind:Int),.string ⟨nd.key.toArray⟩,.string ⟨nd.text.toArray⟩,.int .i64 nd.num,.slice none 0 0,.int .i64 (nd.at':Int)] 83)=m at *;have X:Hid (Below w.heap.size w m):=ap;have U:Hid (m.heap.size=w.heap.size+1):=aR;have HW:Hid (RD f s i (.slice q d.length cap) B F C m):=hW;have bi:Hid (m.ownsRow (f+1) 83 6 (.slice q d.length cap) d.length (dl d aj)):=ez ab.out (fun g _ z=>ap.block g z);clear ap aR hW c0 c1 c3 c4 c5 Y;have P:f<m.heap.size:=HW.out.lt;have bm:∀o:Obj,(m.alloc o).frozen? ⟨f,2,none⟩=false:=fun o=>(HW.out.alloc o).cell.2.2.2.2.2.2 2
  have bq:∀o:Obj,(m.alloc o).drew.frozen? ⟨f,2,none⟩=false:=fun o=>(HW.out.alloc o).cell.2.2.2.2.2.2 2
  have ac:Hid (∀o,((m.alloc o).drew).ownsRow (f+1) 83 6 (.slice q d.length cap) d.length (dl d aj)):=fun o=>bi.out.alloc o
  have V:Hid (∀o,f+1<=((m.alloc o).drew).heap.size):=fun o=>by show _<=(m.alloc o).heap.size;simp;omega
  have ah:Hid (∀j u,(cz nd (.slice none 0 0))[j]?=some u->((m.alloc (.cells #[.int .i64 (nd.kind:Int),.string ⟨nd.key.toArray⟩,.string ⟨nd.text.toArray⟩,.int .i64 nd.num,.slice none 0 0,.int .i64 (nd.at':Int)] 83)).drew).cell? ((⟨m.heap.size,0,none⟩:Addr).add j)=some u):=by
   intro j u E;have aw:(⟨m.heap.size,0,none⟩:Addr).add j=⟨m.heap.size,j,none⟩:=by unfold Addr.add;split<;>simp_all
   rw[aw];show(m.alloc _).cell? _=_
   rw[JE _ _ j _ _ _ (JK m _)];simpa [cz]using E
  have W:Hid (d.length+1<=1000000000):=by show d.length+1<=1000000000;omega
  have ao:Hid (∀g c,(Value.slice q d.length cap).ownBlock=some g->g=c->f+1<=c/\c<w.heap.size):=by
   intro g c z hc;subst hc;rcases ab.out.2 with⟨e,_⟩|⟨g',bj,ax,e,hb,hh,_⟩
   ·rw[e]at z;simp[Value.ownBlock]at z
   ·rw[e]at z;simp[Value.ownBlock]at z;subst z;exact⟨hb,(go.1 hh).1⟩
  have J:Hid (some f≠(Value.slice q d.length cap).ownBlock/\some w.heap.size≠(Value.slice q d.length cap).ownBlock/\w.heap.size<m.heap.size):=by
   refine⟨fun e=>?_,fun e=>?_,by have:=U.out;omega⟩
   ·have:=ao.out f f e.symm rfl;omega
   ·have:=ao.out w.heap.size _ e.symm rfl;omega
  have HS:Hid (∀o k,((m.alloc o).drew).cell? ⟨f,k,none⟩=m.cell? ⟨f,k,none⟩):=fun o k=>JN _ _ _ P
  have aV:∀o:Obj,(m.alloc o).cell? ⟨f,2,none⟩=some (.slice q d.length cap):=fun o=>(JN _ _ _ P).trans Q
  go_region_law ((refine xx rfl (.tmp 17) (.tmp 19) 77 rfl 83 i0 _ 6 80 underlying77 HI.out bd a9 aZ rfl (by decide) (f+1) _ d.length (dl d aj) (cz nd (.slice none 0 0)) ⟨m.heap.size,0,none⟩ rfl rfl rfl (by intro u E;simp[cz]at E;rcases E with rfl|rfl|rfl|rfl|rfl|rfl<;>rfl) W.out (by omega) (by exact ac.out _) (by exact V.out _) (by exact ah.out) ?_;intro v6 A al Z;obtain⟨l,p,rfl⟩:=jL al;have H:=c6 Z P J.out.1;have t:=c6 Z J.out.2.2 J.out.2.1;have s2:=(H.2.1 2).trans Q;have bl:=(H.2.2 2).trans f2;have t0:=(t.2.1 0).trans b0;have t1:=(t.2.1 1).trans b1;have t2:=(t.2.1 2).trans b2;have t3:=(t.2.1 3).trans b3;have t4:=(t.2.1 4).trans b4;have t5:=(t.2.1 5).trans b5;have aE:Hid (RD f s i (.slice q d.length cap) B F C A):=H.1.trans HW.out;clear H t;have W6:Hid _:=al;have N:Hid _:=Z;clear al Z))
  all_goals
   have R:=aE.out.setL (.slice (some ⟨l,0,none⟩) (d.length+1) p);have L:ca f A (A.setCell ⟨f,2,none⟩ (.slice (some ⟨l,0,none⟩) (d.length+1) p)):=ca.setCell (ce f A) _ aE.out;have au:∀g,g<w.heap.size->some g≠(Value.slice q d.length cap).ownBlock->A.heap[g]?=w.heap[g]?:=fun g z aq=>(c6 N.out (by have:=U.out;omega) aq).1.trans (X.out.block g z)
   have ai:cr (f+1) 83 (.slice (some ⟨l,0,none⟩) (d.length+1) p) (d++[nd]) (A.setCell ⟨f,2,none⟩ (.slice (some ⟨l,0,none⟩) (d.length+1) p)):=(cr.push aJ.out ab.out az.out ay.out W6.out au (by decide) hk).onl L (by omega);have aO:Below f w (A.setCell ⟨f,2,none⟩ (.slice (some ⟨l,0,none⟩) (d.length+1) p)):=by
    refine⟨L.os.trans (N.out.os.trans X.out.os),L.tape.trans (N.out.tape.trans X.out.tape),L.output.trans (N.out.output.trans X.out.output),?_,?_⟩
    ·have a1:=L.size
     have S:(m.alloc _).heap.size<=A.heap.size:=N.out.size;have a3:=U.out;simp at S;omega
    ·intro k bo
     have S:(m.alloc _).heap.size<=A.heap.size:=N.out.size;have a3:=U.out;refine(L.block k (by simp at S;omega) (fun e=>by injection e with e;omega)).trans (au k (by omega) ?_);intro e;have:=ao.out k k e.symm rfl;omega
   have HF:Hid _:=And.intro R (And.intro ai aO);clear R L au ai aO;go_wp2_with fail
   go_meet
   case rel=>exact⟨l,p,HF.out⟩
 case rest=>
  obtain⟨l,p,R,ai,aA⟩:=hcut;obtain⟨c0,c1,Q,c3,c4,c5,Y⟩:=R.cell;obtain⟨aN,q1,T,q3,q4⟩:=ai;have aQ:u<(d++[nd]).length:=by simp;omega
  obtain⟨n,hn⟩:∃n,(d++[nd])[u]?=some n:=⟨_,JF aQ⟩;obtain⟨M,ag⟩:∃M,aN[u]?=some M:=⟨_,JF (by omega)⟩;have ak:=q3 u n M hn ag;obtain⟨y,x,a5⟩:∃y x,M=.slice y n.kids.length x:=by
   rcases ak.2 with⟨a,b⟩|⟨g,c,cu,a,_⟩
   ·exact⟨none,0,by rw[a,b]⟩
   ·exact⟨_,_,a⟩
  subst a5;have an:wc.cell? ⟨l,u*6+4,none⟩=some (.slice y n.kids.length x):=by
   have:=T.cells (g:=l) rfl (u*6+4) _ (md _ _ u _ q1 ag);have aw:(⟨l,0,none⟩:Addr).add (u*6+4)=⟨l,u*6+4,none⟩:=by unfold Addr.add;split<;>simp_all
   rwa [aw]at this
  have av:l<wc.heap.size/\f+1<=l:=by have:=cc T (g:=l) rfl;exact⟨this.2.1,this.1⟩
  have aG:wc.frozen? ⟨l,u*6+4,none⟩=false:=by
   obtain⟨_,_,ax,hc⟩:=cc T (g:=l) rfl;simp[World.frozen?,hc]
  have bg:Hid _:=q1;have af:Hid (wc.ownsRow (f+1) 83 6 (.slice (some ⟨l,0,none⟩) (d.length+1) p) (d++[nd]).length (dl (d++[nd]) aN)):=T;have bc:Hid _:=q3;have a8:Hid _:=q4;have HN:Hid _:=hn;have aW:Hid _:=ag;have aa:Hid (wc.ownsRow (f+1) 3 1 (.slice y n.kids.length x) n.kids.length (n.kids.map iV)):=ak;have aI:Hid (RD f s i (.slice (some ⟨l,0,none⟩) (d.length+1) p) B F C wc):=R;have ba:Hid (Below f w wc):=aA;have aB:Hid (l<wc.heap.size):=av.1;have bn:(u:Int)<(d.length:Int)+1:=by omega
  have bk:decide ((0:Int)<=(u:Int))=true:=by simp
  clear q1 T q3 q4 hn ag ak aA aQ aJ ab az ay h hk bf HI;obtain⟨i1,aC,bb,aX,a7⟩:=Kf lv;have a4:Hid _:=aC;have P:f<wc.heap.size:=aI.out.lt;have aV:∀o:Obj,(wc.alloc o).cell? ⟨f,2,none⟩=some (.slice (some ⟨l,0,none⟩) (d.length+1) p):=fun o=>(JN _ _ _ P).trans Q
  have bh:∀o:Obj,(wc.alloc o).cell? ⟨l,u*6+4,none⟩=some (.slice y n.kids.length x):=fun o=>(JN _ _ _ av.1).trans an
  have ac:Hid (∀o,((wc.alloc o).drew).ownsRow (f+1) 3 1 (.slice y n.kids.length x) n.kids.length (n.kids.map iV)):=fun o=>aa.out.alloc o
  have V:Hid (∀o,f+1<=((wc.alloc o).drew).heap.size):=fun o=>by show _<=(wc.alloc o).heap.size;simp;omega
  have aK:Hid (∀o,((wc.alloc o).drew).heap.size=wc.heap.size+1):=fun o=>by show(wc.alloc o).heap.size=_;simp
  have ah:Hid (∀j v,[iV d.length][j]?=some v->((wc.alloc (.cells #[.int .i64 (d.length:Int)] 3)).drew).cell? ((⟨wc.heap.size,0,none⟩:Addr).add j)=some v):=fH wc (iV d.length) 3;have W:Hid (n.kids.length+1<=1000000000):=by
   show n.kids.length+1<=1000000000
   have aY:n∈d:=by
    have aT:=HN.out;rw[J4 E]at aT;exact JZ aT
   have:=a0 n aY;omega
  have J:Hid (some f≠(Value.slice y n.kids.length x).ownBlock/\some l≠(Value.slice y n.kids.length x).ownBlock):=by
   refine⟨fun e=>?_,fun e=>?_⟩
   ·have:=(cc aa.out e.symm).1;omega
   ·exact jN (by decide) af.out aa.out (g:=l) rfl e.symm
  clear aC av;go_wp2_with fail
  go_region_law ((refine yb rfl (.tmp 37) (.tmp 39) 32 rfl 3 i1 KT a4.out bb aX a7 (f+1) _ n.kids.length (n.kids.map iV) d.length ⟨wc.heap.size,0,none⟩ (wc.heap.size+1) rfl rfl W.out (by exact ac.out _) (by exact V.out _) (by exact aK.out _) (by exact ah.out) ?_;intro G O D aU ae aF;have H:=c6 ae P J.out.1;have t:=c6 ae aB.out J.out.2;have s2:=(H.2.1 2).trans Q;have t0:=(t.2.1 (u*6+4)).trans an;have t1:=(t.2.2 (u*6+4)).trans aG;have aD:Hid (RD f s i (.slice (some ⟨l,0,none⟩) (d.length+1) p) B F C D):=H.1.trans aI.out;clear H t;have W8:Hid (D.ownsRow (f+1) 3 1 (.slice (some ⟨G,0,none⟩) (n.kids.length+1) O) (n.kids.length+1) (n.kids.map iV++[iV d.length])):=aU;have I:Hid (((wc.alloc (.cells #[.int .i64 (d.length:Int)] 3)).drew).grownBy D (Value.slice y n.kids.length x).ownBlock):=ae;have aS:Hid ((Value.slice y n.kids.length x).ownBlock=some G\/G=wc.heap.size+1):=aF;clear aU ae aF))
  all_goals
   have am:=cr.kid bg.out af.out bc.out a8.out u d.length G O l n _ HN.out aW.out W8.out (fun g' a6 aq=>(c6 I.out a6 aq).1) (aS.out.elim .inl fun e=>.inr (by omega)) rfl (by decide);rw[pO d nd u _ E]at am;have aH:=(c6 I.out aB.out J.out.2).1;obtain⟨_,_,ax,aL⟩:=cc af.out (g:=l) rfl;have ar:=JV D l (u*6+4) ax _ _ (.slice (some ⟨G,0,none⟩) (n.kids.length+1) O) (aH.trans aL);have be:f+1<=l:=(cc af.out (g:=l) rfl).1;have h9:RD f s i (.slice (some ⟨l,0,none⟩) (d.length+1) p) B F C (D.setCell ⟨l,u*6+4,none⟩ (.slice (some ⟨G,0,none⟩) (n.kids.length+1) O)):=by
    rw[ar];exact(Kg D l f _ (by omega)).trans aD.out
   have aP:Below f w (D.setCell ⟨l,u*6+4,none⟩ (.slice (some ⟨G,0,none⟩) (n.kids.length+1) O)):=by
    rw[ar];refine KU (ba.out.trans ?_) (by omega) _;have S:(wc.alloc (.cells #[.int .i64 (d.length:Int)] 3)).heap.size<=D.heap.size:=I.out.size;refine⟨I.out.os,I.out.tape,I.out.output,by simp at S;omega,fun k hk=>(c6 I.out (by omega) (fun e=>?_)).1⟩;have:=(cc aa.out e.symm).1;omega
   have H9:Hid _:=And.intro h9 (And.intro am aP);clear am aH aL ar be h9 aP s2 t0 t1 W8 I aS aD ac V aK ah W J aV bh an aG c0 c1 Q c3 c4 c5 Y;generalize D.setCell ⟨l,u*6+4,none⟩ (.slice (some ⟨G,0,none⟩) (n.kids.length+1) O)=w9 at H9;go_wp2;go_ret;exact⟨rfl,⟨_,H9.out.1,H9.out.2.1⟩,H9.out.2.2⟩
def RN(bp:Nat)(s:dv)(i:Nat)(ns:oa)(er at' dp:Nat)(w:Wd):Prop:=∃vL,RD bp s i vL er at' dp w/\cr (bp+1) 83 vL ns w
section
variable {Z:Nat} {s:dv} {i:Nat} {V:oa} {Y W X:Nat} {w w':Wd}
end
theorem ip(b:Nat)(s:dv)(i:Nat)(d e c:Nat)(a:oa)(up:Option Nat)(nd:Nd)(w:Wd)(h:RN b s i a d e c w)(g:nd.kids=[])(t:a.length<=1000000)(hw:iz a)(o:∀u,up=some u->u<a.length):Calls prog 44 #[.pointer (some ⟨b,0,none⟩),.int .i64 (om up),iF nd] w fun r m=>r=.returned (.int .i64 (a.length:Int))/\RN b s i (cR a up a.length++[nd]) d e c m/\Below b w m:=by
 obtain⟨q,k,f⟩:=h;obtain⟨j,l,rfl⟩:=f.shape;cases up with
 | none=>exact G8 b s i j l d e c a nd w k f g (by omega)
 | some u=>exact IOa b s i j l d e c a nd w k f g (by omega) u (o u rfl) (fun n p=>by have:=hw n p;omega)
def VP(bp:Nat)(s:dv)(i:Nat)(ns:oa)(up:Option Nat)(key:dj)(at0 dp:Nat)(R:JR JT)(w':Wd):Prop:=
 match R with
 | .ok (t,n)=>RN bp s (i+n) (cR ns up ns.length++flat ns.length key t) 0 at0 dp w'
 | .error (e,a)=>0<e/\∃j vL,RD bp s j vL e a dp w'
section
variable (Z:Nat) (s:dv) (i:Nat) (Y:oa) (up:Option Nat) (V:dj) (W X:Nat) (w:Wd)
theorem tc(hs:s.size<=65536)(h:RN Z s i Y 0 W X w)(hi:i<s.size)(hc:s[i]=34)(G:Y.length<=1000000)(hw:iz Y)(F:∀u,up=some u->u<Y.length)(d:Nat):Calls prog 65 #[.pointer (some ⟨Z,0,none⟩),.int .i64 (om up),.string ⟨V.toArray⟩] w fun r m=>r=.returned (.tuple #[])/\VP Z s i Y up V W X (valL d (b9 s i) i) m/\Below Z w m:=by
 obtain⟨b,C,h2⟩:=h;have hR:valL d (b9 s i) i=(match da (b9 s i)with| .error o=>.error (2,i+o)| .ok (t,n)=>.ok (.str t i,n)):=by
  rw[cg s i hi,cG,if_pos hc];all_goals rfl
 have D:Hid _:=hR;have g:=fun m (h':RD Z s i b 0 W X m)=>vF Z s i b W X m (by omega) h'
 have ad:(i:Int)<(s.size:Int):=by omega
 have ac:decide ((s.size:Int)<=(i:Int))=false:=by simp;omega
 have ab:((s[i].toNat:Int)==34)=true:=by rw[hc];rfl
 have aa:=C.lt;have U:Hid (cr (Z+1) 83 b Y w):=h2;clear hR h2;obtain⟨S,M,N,P,K,T,J⟩:=C.cell;go_enter func65,ntmps65;go_wp2_with fail
 go_quiet (fail);have E:=C.drewN nq;have L:Hid _:=ca.drewN (ce Z w) nq;generalize w.drewN nq=O at E L;clear S M N P K T J nq C;obtain⟨S,M,N,P,K,T,J⟩:=E.cell;go_wp2_with fail
 go_quiet (fail);have k:=E.drewN nq;have x:Hid (ca Z w (O.drewN nq)):=ca.drewN L.out nq;generalize O.drewN nq=w4 at k x;clear S M N P K T J nq E L O;cases f:da (b9 s i)with
 | ok q=>
   obtain⟨B,n⟩:=q;rw[f]at g;have H:Hid (valL d (b9 s i) i=.ok (.str B i,n)):=by have:=D.out;rw[f]at this;exact this
   clear f D;go_wp2_with fail
   refine(g _ k).mono ?_;rintro e c ⟨⟨rfl,A⟩,z⟩;have y:Hid (ca Z w c):=ca.trans x.out z;have v:cr (Z+1) 83 b Y c:=U.out.onl y.out (by omega);have a:=ip Z s (i+n) 0 W X Y up ⟨3,V,B,0,[],i⟩ c ⟨b,A,v⟩ rfl G hw F;unfold iF at a;clear z g k x A v G F;go_wp2_with fail
   refine a.mono ?_;rintro e Q ⟨rfl,l,p⟩;have I:Hid _:=l;have R:Hid (Below Z w Q):=(cn y.out aa).trans p;clear l p a;go_wp2;go_end0
   refine⟨rfl,?_,R.out⟩;rw[H.out];exact I.out
 | error o=>
   rw[f]at g;have H:Hid (valL d (b9 s i) i=.error (2,i+o)):=by have:=D.out;rw[f]at this;exact this
   clear f D;go_wp2_with fail
   refine(g _ k).mono ?_;rintro e c ⟨⟨⟨B,rfl⟩,j,A⟩,z⟩;have y:Hid (ca Z w c):=ca.trans x.out z;have v:cr (Z+1) 83 b Y c:=U.out.onl y.out (by omega);have a:=ip Z s j 2 (i+o) X Y up ⟨3,V,B.data.toList,0,[],i⟩ c ⟨b,A,v⟩ rfl G hw F;unfold iF at a;dsimp only at a;rw[Ae]at a;clear z g k x A v G F;go_wp2_with fail
   refine a.mono ?_;rintro e Q ⟨rfl,⟨v6,l,_⟩,p⟩;have I:Hid _:=l;have R:Hid (Below Z w Q):=(cn y.out aa).trans p;clear l p a;go_wp2;go_end0
   refine⟨rfl,?_,R.out⟩;rw[H.out];exact⟨by omega,_,_,I.out⟩
end
end Go.Proofs.YtihboehpeehlmaaGreatDoor
