import Derived.Test.YtihboehpeehlmaaGreatDoorH1
import Derived.Deep.WholeRow
set_option maxRecDepth 4000
set_option linter.unusedVariables false
set_option maxHeartbeats 400000
namespace Go.Proofs.YtihboehpeehlmaaGreatDoor.Dg
open Tryz Go.RowKit
section
attribute [local go_sem] re yD q8 tV tH oN qE nK qB mn mh mz oS tG
def kl(x:BitVec 32):Va:=.int .i64 (eS (ex (x)))
theorem yk:(prog.info? 3).map (fun i=>(i.zero,i.size,i.bytes))=some (some (.int .i64 0),1,8):=by kernel_rfl
theorem DI(l:dj)(h:l.length<=4):Value.int .i64 (eS (rd 64 l))=kl (rd 32 l):=by
 unfold kl
 first
  | rw[DS l h]
  | rfl
theorem zg{P:Program}{j:Array Oper}{l:List Oper}{o:Oper}{a:Act}{Q:Exit->Act->Wd->Prop}(C:o.guard=none)(s x:Operand)(t:TypeId)(F:o.op=.call {callee:=.builtin .append,args:= #[s,x],argTypes:= #[t,t]})
 (e:TypeId) (i:TypeInfo) (H:P.underlying t=some (.slice e)) (r:P.info? e=some i) (I:i.zero=some (.int .i64 0)) (z:i.size=1) (A:i.bytes=8)
 (B:Nat) (v:Va) (n:Nat) (xs:rt) (y:Va) (G:y.oneCell'=true) (b:Wd) (p:a.eval s=v) (f:b.ownsRow B e 1 v n xs) (q:B<=b.heap.size) (J:n<=1000)
 (m:a.eval x=.slice (some ⟨b.heap.size,0,none⟩) 1 1)
 (h:∀d c,c.ownsRow B e 1 d (n+1) (xs++[y])->Below B b c->wpList P j Q l (a.put o.dst d) c):wpList P j Q (o::l) a (b.alloc (.cells #[y] e)):=by
 refine M2 _ C s x t F B e i (.int .i64 0) 1 8 H r I z A rfl (by decide) v n xs p (f.alloc _) ⟨b.heap.size,0,none⟩ 1 1 [y] m rfl (fH b y e) (by intro u g;simp at g;subst g;exact G) (by unfold maxLen;omega) (by omega) (by simp;omega) ?_;intro d c w E _;refine h d c w (((JI B b).alloc q _).grown E (by simp;omega) ?_);intro k D;exact(f.lt k D).1
set_option maxRecDepth 100000 in
set_option maxHeartbeats 1000000 in
theorem Ad(b:Nat)(s:dv)(w:Wd)(p:dN 32)(hs:s.size=64)(d:i6 w p b)(v3 v4:Va):Calls prog 148 #[.agg #[.int .i64 32,.int .i64 64,.slice (some ⟨b,0,none⟩) 12 12,v3,v4],.string s] w fun e D=>∃g l,e=.returned (.slice (some ⟨g,0,none⟩) 64 l)/\D.ownsRow w.heap.size 3 1 (.slice (some ⟨g,0,none⟩) 64 l) 64 ((iN p 4 s.data.toList).map kl)/\Below w.heap.size w D:=by
 have aT:=JL w _ d.f1;obtain⟨i0,T,aB,aq,ai⟩:=Kf yk;have HI:Hid _:=T;clear T;have a2:64<=s.size:=by omega
 have a7:s.size<=64:=by omega
 clear hs;go_enter func148,ntmps148;go_wp2_with fail
 go_loopw [5,7] (fun v i wr=>∃k:Nat,k<=16/\i=.int .i64 k/\wr.ownsRow (w.heap.size+1) 3 1 v k ((cP 32 4 s.data.toList k).map kl)/\Below (w.heap.size+1) (w.alloc (.cells #[.int .i64 32,.int .i64 64,.slice (some ⟨b,0,none⟩) 12 12,v3,v4] 166)) wr) (fun _ i _=>16-(intOf i).toNat)
 case atStart=>exact⟨0,by omega,rfl,Le _ _ _ _,JI _ _⟩
 case round=>
  obtain⟨k,R,rfl,f,a⟩:=hrel;by_cases aD:k<16
  ·have hd:decide ((k:Int)<16)=true:=by simp;omega
   have z:=f;clear f;have aw:=a.size;go_wp2_with fail
   go_loop [8,9] (fun x i=>∃m:Nat,m<=4/\i=.int .i64 m/\x=.int .i64 (eS (rd 64 (((s.data.toList.drop (k*4)).take 4).take m)))) (fun _ i=>4-(intOf i).toNat)
   case atStart=>exact⟨0,by omega,rfl,rfl⟩
   case round=>
    obtain⟨m,hm,rfl,rfl⟩:=hrel;by_cases aR:m<4
    ·have a4:(0:Int)<=4*(k:Int)+m:=by omega
     have bl:4*(k:Int)+m<(s.size:Int):=by omega
     have ht:(4*(k:Int)+(m:Int)).toNat=4*k+m:=by omega
     have hx:4*k+m<s.size:=by omega
     go_wp2_with fail
     go_round
     case rel=>exact⟨m+1,by omega,by go_num,by rw[tQ,<-lC,<-pz s k m 4 aR (by omega) hx]⟩
     case measure=>simp[intOf];omega
    ·obtain rfl:m=4:=by omega
     have aO:(List.take 4 (List.take 4 (List.drop (k*4) s.data.toList)))=List.take 4 (List.drop (k*4) s.data.toList):=by rw[MX,Nat.min_self]
     rw[aO];have aK:w.heap.size+1<=wr.heap.size:=by simpa using aw
     generalize hX:eS (rd 64 (List.take 4 (List.drop (k*4) s.data.toList)))=X;have E:Hid _:=hX;clear hX;go_wp2_with (refine zg rfl (.tmp 38) (.tmp 40) 32 rfl 3 i0 KT HI.out aB aq ai (w.heap.size+1) _ k ((cP 32 4 s.data.toList k).map kl) (.int .i64 X) rfl wr rfl z aK (by omega) rfl ?_;intro v5 Q I av;have H:=I;clear I)
     have K:=a.trans av;have G:Q.ownsRow (w.heap.size+1) 3 1 v5 (k+1) ((cP 32 4 s.data.toList (k+1)).map kl):=by
      rw[cP,Kj,MV,<-DI _ (List.length_take_le _ _),E.out];exact H
     clear H av;go_wp2_with fail
     go_roundw
     case rel=>first|exact⟨k+1,by omega,by go_num,G,K⟩|((repeat apply Exists.intro);exact⟨⟨k+1,by omega,by go_num,G,K⟩,rfl⟩)
     case measure=>simp[intOf];omega
  ·obtain rfl:k=16:=by omega
   have M:wr.cell? ⟨w.heap.size,0,none⟩=some (.int .i64 32):=cm a (by omega) (by simp);have ac:wr.cell? ⟨w.heap.size,1,none⟩=some (.int .i64 64):=cm a (by omega) (by simp);have P:wr.cell? ⟨w.heap.size,2,none⟩=some (.slice (some ⟨b,0,none⟩) 12 12):=cm a (by omega) (by simp);go_wp2_with fail
   go_loopw [5,10] (fun v i wx=>∃j:Nat,16<=j/\j<=64/\i=.int .i64 j/\wx.ownsRow (w.heap.size+1) 3 1 v j ((c8 p (cP 32 4 s.data.toList 16) (j-16)).map kl)/\Below (w.heap.size+1) (w.alloc (.cells #[.int .i64 32,.int .i64 64,.slice (some ⟨b,0,none⟩) 12 12,v3,v4] 166)) wx) (fun _ i _=>64-(intOf i).toNat)
   case atStart=>exact⟨16,by omega,by omega,rfl,f,a⟩
   case round=>
    clear f a M ac P aD R;obtain⟨j,bf,a1,rfl,f,a⟩:=hrel;have M:wr.cell? ⟨w.heap.size,0,none⟩=some (.int .i64 32):=cm a (by omega) (by simp);have ac:wr.cell? ⟨w.heap.size,1,none⟩=some (.int .i64 64):=cm a (by omega) (by simp);have P:wr.cell? ⟨w.heap.size,2,none⟩=some (.slice (some ⟨b,0,none⟩) 12 12):=cm a (by omega) (by simp);obtain⟨g,l,rfl,bn⟩:∃g l,u5=.slice (some ⟨g,0,none⟩) j l/\w.heap.size+1<=g:=by
     rcases f.2 with⟨_,h0⟩|⟨g,l,aI,Y,hB,_⟩
     ·omega
     ·exact⟨g,l,Y,hB⟩
    by_cases aD:j<64
    ·generalize W:c8 p (cP 32 4 s.data.toList 16) (j-16)=L at f
     have HL:Hid (c8 p (cP 32 4 s.data.toList 16) (j-16)=L):=W;have ax:L.length=j:=by rw[<-W,gs,es];omega
     have aX:Hid (L.length=j):=ax;clear W;have J:∀i,i<j->wr.cell? ⟨g,i,none⟩=some (.int .i64 (eS (ex (L.getD i 0)))):=fun i T=>by
      rw[f.cellAt i (by omega)];rw[KM,JF (by omega)];simp[kl,List.getD,List.getElem?_eq_getElem (show i<L.length by omega)]
     have ay:=J (j-15) (by omega);have d2:=J (j-2) (by omega);have aa:=J (j-16) (by omega);have S:=J (j-7) (by omega);clear J ax;generalize ar:L.getD (j-15) 0=t at ay;generalize aj:L.getD (j-2) 0=q at d2;generalize an:L.getD (j-16) 0=A at aa;generalize ao:L.getD (j-7) 0=C at S;have E:Hid (L.getD (j-15) 0=t/\L.getD (j-2) 0=q/\L.getD (j-16) 0=A/\L.getD (j-7) 0=C):=⟨ar,aj,an,ao⟩;clear ar aj an ao;have B:∀i v,w.cell? ⟨b,i,none⟩=some v->wr.cell? ⟨b,i,none⟩=some v:=fun i v h=>cm a (by omega) ((JN _ _ _ aT).trans h)
     have g1:=B _ _ d.f1;have g2:=B _ _ d.f2;have g3:=B _ _ d.f3;have g4:=B _ _ d.n1;have g5:=B _ _ d.n2;have g6:=B _ _ d.n3;clear B;have aw:w.heap.size+1<=wr.heap.size:=by have:=a.size;simpa using this
     have z:=f;have N:Hid _:=a;clear f a;have bm:=fi ((j:Int)-15) (by omega);have aZ:=fi ((j:Int)-2) (by omega);have bb:=fi ((j:Int)-16) (by omega);have ba:=fi ((j:Int)-7) (by omega);have bh:(0:Int)<=(j:Int)-15:=by omega
     have a3:(j:Int)-15<(j:Int):=by omega
     have bd:(0:Int)<=(j:Int)-2:=by omega
     have a5:(j:Int)-2<(j:Int):=by omega
     have bo:(0:Int)<=(j:Int)-16:=by omega
     have bi:(j:Int)-16<(j:Int):=by omega
     have be:(0:Int)<=(j:Int)-7:=by omega
     have bj:(j:Int)-7<(j:Int):=by omega
     have a6:(15:Int)<=(j:Int):=by omega
     have k2:(2:Int)<=(j:Int):=by omega
     have bg:(16:Int)<=(j:Int):=by omega
     have k7:(7:Int)<=(j:Int):=by omega
     have a0:((j:Int)-15).toNat=j-15:=by omega
     have bk:((j:Int)-2).toNat=j-2:=by omega
     have a9:((j:Int)-16).toNat=j-16:=by omega
     have a8:((j:Int)-7).toNat=j-7:=by omega
     go_wp2_with fail
     go_quiet (first|(go_at_call_of 179 (Value.int IntKind.i64 7);exact Kb (gJ t 7 _ (by omega) (by omega)))|(go_at_call_of 179 (Value.int IntKind.i64 18);exact Kb (gJ t 18 _ (by omega) (by omega)))|(go_at_call 180;exact Kb (uh t 3 _ (by omega) (by omega))));go_wp2_with fail
     generalize n:wr.drewN nq=r;have ah:r.cell? ⟨w.heap.size,0,none⟩=some (.int .i64 32):=by rw[<-n];exact M
     have aP:r.cell? ⟨w.heap.size,2,none⟩=some (.slice (some ⟨b,0,none⟩) 12 12):=by rw[<-n];exact P
     have aJ:r.cell? ⟨b,3,none⟩=some (.int .i64 17):=by rw[<-n];exact g4
     have aS:r.cell? ⟨b,4,none⟩=some (.int .i64 19):=by rw[<-n];exact g5
     have aQ:r.cell? ⟨b,5,none⟩=some (.int .i64 10):=by rw[<-n];exact g6
     have az:r.cell? ⟨g,j-16,none⟩=some (.int .i64 (eS (ex (A)))):=by rw[<-n];exact aa
     have aE:r.cell? ⟨g,j-7,none⟩=some (.int .i64 (eS (ex (C)))):=by rw[<-n];exact S
     have al:r.ownsRow (w.heap.size+1) 3 1 (.slice (some ⟨g,0,none⟩) j l) j (L.map kl):=by rw[<-n];exact z
     have V:=em N.out nq;rw[n]at V;have ab:Hid _:=V;clear n V z N M ac P g1 g2 g3 g4 g5 g6 ay d2 aa S;have aM:w.heap.size+1<=r.heap.size:=by have:=ab.out.size;simpa using this
     go_quiet (first|(go_at_call_of 179 (Value.int IntKind.i64 17);exact Kb (gJ q 17 _ (by omega) (by omega)))|(go_at_call_of 179 (Value.int IntKind.i64 19);exact Kb (gJ q 19 _ (by omega) (by omega)))|(go_at_call 180;exact Kb (uh q 10 _ (by omega) (by omega))));go_wp2_with fail
     generalize F:r.drewN nq=c;have aN:c.cell? ⟨w.heap.size,0,none⟩=some (.int .i64 32):=by rw[<-F];exact ah
     have aU:c.cell? ⟨g,j-16,none⟩=some (.int .i64 (eS (ex (A)))):=by rw[<-F];exact az
     have aW:c.cell? ⟨g,j-7,none⟩=some (.int .i64 (eS (ex (C)))):=by rw[<-F];exact aE
     have ad:c.ownsRow (w.heap.size+1) 3 1 (.slice (some ⟨g,0,none⟩) j l) j (L.map kl):=by rw[<-F];exact al
     have ag:=em ab.out nq;rw[F]at ag;have ae:Hid _:=ag;clear F ag al ab ah aP aJ aS aQ az aE aM;have aY:w.heap.size+1<=c.heap.size:=by have:=ae.out.size;simpa using this
     have ap:Hid (∀o,((c.alloc o).drew).ownsRow (w.heap.size+1) 3 1 (.slice (some ⟨g,0,none⟩) j l) j (L.map kl)):=fun o=>ad.alloc o
     have aG:Hid (∀y j u,[y][j]?=some u->((c.alloc (.cells #[y] 3)).drew).cell? ((⟨c.heap.size,0,none⟩:Addr).add j)=some u):=fun y=>fH c y 3
     have U:Hid (∀o,w.heap.size+1<=((c.alloc o).drew).heap.size):=fun o=>by show _<=(c.alloc o).heap.size;simp;omega
     have aC:g<c.heap.size:=(ad.lt g rfl).2;have am:Hid (∀o,((c.alloc o).drew).cell? ⟨w.heap.size,0,none⟩=some (.int .i64 32)):=fun o=>(JN _ _ _ (by show w.heap.size<c.heap.size;omega)).trans aN
     have ak:Hid (∀o,((c.alloc o).drew).cell? ⟨g,j-16,none⟩=some (.int .i64 (eS (ex (A))))):=fun o=>(JN _ _ _ aC).trans aU
     have au:Hid (∀o,((c.alloc o).drew).cell? ⟨g,j-7,none⟩=some (.int .i64 (eS (ex (C))))):=fun o=>(JN _ _ _ aC).trans aW
     have O:Hid (j<=1000/\j-16<j/\j-7<j/\w.heap.size≠g):=⟨by omega,by omega,by omega,by omega⟩;go_region_held3 (fun D=>D.cell? ⟨w.heap.size,0,none⟩=some (.int .i64 32)/\D.cell? ⟨g,j-16,none⟩=some (.int .i64 (eS (ex (A))))/\D.cell? ⟨g,j-7,none⟩=some (.int .i64 (eS (ex (C))))) (go_keep) (first|(refine Dx rfl (.tmp 110) (.tmp 129) 32 rfl 3 i0 KT HI.out aB aq ai (w.heap.size+1) g j l (L.map kl) ⟨c.heap.size,0,none⟩ _ rfl O.out.1 rfl rfl (ap.out _) (U.out _) (aG.out _) ?_;intro v5 Q I Z af;have s1:=Z.cell (am.out _) (by simpa using O.out.2.2.2);have s2:=(af _ O.out.2.1).trans (ak.out _);have s3:=(af _ O.out.2.2.1).trans (au.out _);have H:=I;have aH:Hid _:=Z;clear I Z af)|(go_at_call 150;refine(lz _ _).mono ?_;rintro e6 w6 ⟨rfl,aF⟩;rw[aF];clear aF w6;try rw[show(ex (BitVec.setWidth 32 ((ex (A))+(ex (dG t 7^^^dG t 18^^^t>>>3))+(ex (C))+(ex (dG q 17^^^dG q 19^^^q>>>10)))))=(ex (A+(dG t 7^^^dG t 18^^^t>>>3)+C+(dG q 17^^^dG q 19^^^q>>>10)))from by first|rfl|simp only[nY,qk]]))
     have K:Below (w.heap.size+1) (w.alloc (.cells #[.int .i64 32,.int .i64 64,.slice (some ⟨b,0,none⟩) 12 12,v3,v4] 166)) Q:=by
      refine Below.grown ((ae.out.alloc aY _).drew) aH.out (U.out _) ?_;intro k R;injection R with R;omega
     have G:Q.ownsRow (w.heap.size+1) 3 1 v5 (j+1) ((c8 p (cP 32 4 s.data.toList 16) (j+1-16)).map kl):=by
      have e:j+1-16=(j-16)+1:=by omega
      rw[e,c8,HL.out,Kj,MV,mX,mM,mM,aX.out,E.out.1,E.out.2.1,E.out.2.2.1,E.out.2.2.2,d.hf.1,d.hf.2.1,d.hf.2.2,d.hn.1,d.hn.2.1,d.hn.2.2];exact H
     have aA:Hid _:=K;clear H aH K ae ad ap aG U am ak au s1 s2 s3;go_wp2_with fail
     go_roundw
     case rel=>first|exact⟨j+1,by omega,by omega,by go_num,G,aA.out⟩|((repeat apply Exists.intro);exact⟨⟨j+1,by omega,by omega,by go_num,G,aA.out⟩,rfl⟩)
     case measure=>simp[intOf];omega
    ·obtain rfl:j=64:=by omega
     have z:=f;have N:Hid _:=a;clear f a;go_wp2_with fail
     go_ret;refine⟨g,l,rfl,?_,(cK (cF w) _).trans (N.out.mono (KG _))⟩;rw[iN,d.len];refine⟨z.1,?_⟩;rcases z.2 with⟨h0,_⟩|⟨g',aL,aI,Y,hB,aV⟩
     ·cases h0
     ·exact .inr ⟨g',aL,aI,Y,by omega,aV⟩
end
section
attribute [local go_sem] fD kU ra rs oU o0 qK
theorem n5(a:Nat)(x:BitVec 32)(n:Int)(w:Wd)(d:0<n)(c:n<32)(f:w.cell? ⟨a,0,none⟩=some (.int .i64 4)):Calls prog 255 #[.pointer (some ⟨a,0,none⟩),.int .u32 (eW x),.int .i64 n] w fun e b=>e=.returned (.int .u32 (eW (dG x n.toNat)))/\∃k,b=w.drewN k:=by
 go_enter func255,ntmps255;go_wp2
 go_quiet (fail);go_wp2;go_ret;refine⟨dX ?_,nq,rfl⟩;unfold dG;rw[show(32-n).toNat=32-n.toNat from by omega]
theorem sS(d:Nat)(x:BitVec 32)(a b c:Int)(w:Wd)(j:0<a/\a<32)(i:0<b/\b<32)(h:0<c/\c<32)(g:w.cell? ⟨d,0,none⟩=some (.int .i64 4)):Calls prog 241 #[.pointer (some ⟨d,0,none⟩),.int .u32 (eW x),.agg #[.int .i64 a,.int .i64 b,.int .i64 c]] w fun e m=>e=.returned (.int .u32 (eW (dG x a.toNat^^^dG x b.toNat^^^dG x c.toNat)))/\∃k,m=(w.alloc (.cells #[.int .i64 a,.int .i64 b,.int .i64 c] 195)).drewN k:=by
 have l:=JL w _ g;have f:∀o n,((w.alloc o).drewN n).cell? ⟨d,0,none⟩=some (.int .i64 4):=fun o n=>(JN _ _ _ l).trans g
 go_enter func241,ntmps241;go_wp2
 go_quiet (first|(go_at_call_of 255 (Value.int IntKind.i64 a);exact Kb (n5 _ _ _ _ j.1 j.2 (f _ _)))|(go_at_call_of 255 (Value.int IntKind.i64 b);exact Kb (n5 _ _ _ _ i.1 i.2 (f _ _)))|(go_at_call_of 255 (Value.int IntKind.i64 c);exact Kb (n5 _ _ _ _ h.1 h.2 (f _ _))));go_wp2;go_ret;exact⟨rfl,nq,rfl⟩
theorem p5(d:Nat)(x:BitVec 32)(a b c:Int)(w:Wd)(j:0<a/\a<32)(i:0<b/\b<32)(h:0<c/\c<32)(g:w.cell? ⟨d,0,none⟩=some (.int .i64 4)):Calls prog 240 #[.pointer (some ⟨d,0,none⟩),.int .u32 (eW x),.agg #[.int .i64 a,.int .i64 b,.int .i64 c]] w fun e m=>e=.returned (.int .u32 (eW (dG x a.toNat^^^dG x b.toNat^^^x>>>c.toNat)))/\∃k,m=(w.alloc (.cells #[.int .i64 a,.int .i64 b,.int .i64 c] 195)).drewN k:=by
 have l:=JL w _ g;have f:∀o n,((w.alloc o).drewN n).cell? ⟨d,0,none⟩=some (.int .i64 4):=fun o n=>(JN _ _ _ l).trans g
 have p:=h.2;go_enter func240,ntmps240;go_wp2
 go_quiet (first|(go_at_call_of 255 (Value.int IntKind.i64 a);exact Kb (n5 _ _ _ _ j.1 j.2 (f _ _)))|(go_at_call_of 255 (Value.int IntKind.i64 b);exact Kb (n5 _ _ _ _ i.1 i.2 (f _ _))));go_wp2;go_ret;exact⟨rfl,nq,rfl⟩
end
section
attribute [local go_sem] fD oT s8 sr sw oW qR
theorem od(a:Nat)(x:BitVec 64)(n:Int)(w:Wd)(d:0<n)(c:n<64)(f:w.cell? ⟨a,0,none⟩=some (.int .i64 8)):Calls prog 256 #[.pointer (some ⟨a,0,none⟩),.int .u64 (eW x),.int .i64 n] w fun e b=>e=.returned (.int .u64 (eW (dG x n.toNat)))/\∃k,b=w.drewN k:=by
 go_enter func256,ntmps256;go_wp2
 go_quiet (fail);go_wp2;go_ret;refine⟨dX ?_,nq,rfl⟩;unfold dG;rw[show(64-n).toNat=64-n.toNat from by omega]
theorem sZ(d:Nat)(x:BitVec 64)(a b c:Int)(w:Wd)(j:0<a/\a<64)(i:0<b/\b<64)(h:0<c/\c<64)(g:w.cell? ⟨d,0,none⟩=some (.int .i64 8)):Calls prog 244 #[.pointer (some ⟨d,0,none⟩),.int .u64 (eW x),.agg #[.int .i64 a,.int .i64 b,.int .i64 c]] w fun e m=>e=.returned (.int .u64 (eW (dG x a.toNat^^^dG x b.toNat^^^dG x c.toNat)))/\∃k,m=(w.alloc (.cells #[.int .i64 a,.int .i64 b,.int .i64 c] 195)).drewN k:=by
 have l:=JL w _ g;have f:∀o n,((w.alloc o).drewN n).cell? ⟨d,0,none⟩=some (.int .i64 8):=fun o n=>(JN _ _ _ l).trans g
 go_enter func244,ntmps244;go_wp2
 go_quiet (first|(go_at_call_of 256 (Value.int IntKind.i64 a);exact Kb (od _ _ _ _ j.1 j.2 (f _ _)))|(go_at_call_of 256 (Value.int IntKind.i64 b);exact Kb (od _ _ _ _ i.1 i.2 (f _ _)))|(go_at_call_of 256 (Value.int IntKind.i64 c);exact Kb (od _ _ _ _ h.1 h.2 (f _ _))));go_wp2;go_ret;exact⟨rfl,nq,rfl⟩
theorem pM(d:Nat)(x:BitVec 64)(a b c:Int)(w:Wd)(j:0<a/\a<64)(i:0<b/\b<64)(h:0<c/\c<64)(g:w.cell? ⟨d,0,none⟩=some (.int .i64 8)):Calls prog 243 #[.pointer (some ⟨d,0,none⟩),.int .u64 (eW x),.agg #[.int .i64 a,.int .i64 b,.int .i64 c]] w fun e m=>e=.returned (.int .u64 (eW (dG x a.toNat^^^dG x b.toNat^^^x>>>c.toNat)))/\∃k,m=(w.alloc (.cells #[.int .i64 a,.int .i64 b,.int .i64 c] 195)).drewN k:=by
 have l:=JL w _ g;have f:∀o n,((w.alloc o).drewN n).cell? ⟨d,0,none⟩=some (.int .i64 8):=fun o n=>(JN _ _ _ l).trans g
 have p:=h.2;go_enter func243,ntmps243;go_wp2
 go_quiet (first|(go_at_call_of 256 (Value.int IntKind.i64 a);exact Kb (od _ _ _ _ j.1 j.2 (f _ _)))|(go_at_call_of 256 (Value.int IntKind.i64 b);exact Kb (od _ _ _ _ i.1 i.2 (f _ _))));go_wp2;go_ret;exact⟨rfl,nq,rfl⟩
end
section
attribute [local go_sem] fD kU ra rs oU o0 qK dq
theorem qw(x:BitVec 32)(c:UInt8):bits .or .u32 (eW x*(256:Int)%(4294967296:Int)) ((c.toNat:Int)%(4294967296:Int))=eW (x<<<8|||BitVec.ofNat 32 c.toNat):=by
 have a:eW x*(256:Int)%(4294967296:Int)=eW (x<<<8):=by
  have:=kU x 8;rw[<-this,IntKind.wrap_u32];rfl
 have b:(c.toNat:Int)%(4294967296:Int)=eW (BitVec.ofNat 32 c.toNat):=by
  unfold eW;rw[Kw];omega
 rw[a,b,ra]
theorem FB(v:Va)(s:dv)(w:Wd)(b:s.size<=maxLen):Calls prog 239 #[v,.string s] w fun e c=>e=.returned (.int .u32 (eW (rd 32 s.data.toList)))/\c=w:=by
 unfold maxLen at b;go_enter func239,ntmps239;go_wp2;go_loop [5,9] (fun x i=>∃k:Nat,k<=s.size/\i=.int .i64 k/\x=.int .u32 (eW (rd 32 (s.data.toList.take k)))) (fun _ i=>s.size-(intOf i).toNat)
 case atStart=>exact⟨0,KI _,rfl,rfl⟩
 case round=>
  obtain⟨k,d,rfl,rfl⟩:=hrel;by_cases a:k<s.size
  ·go_wp2
   go_round
   case rel=>exact⟨k+1,by omega,by go_num,by(first|rw[qw]|rw[uU]);rw[<-lC,<-rq s k a]⟩
   case measure=>simp[intOf];omega
  ·go_wp2
   go_ret;exact⟨dX (by rw[Kd (by simp;omega)]),rfl⟩
theorem CZ(i:Nat)(s:St 32)(x:BitVec 32)(w:Wd)(p:dN 32)(k:p.e1=6/\p.e2=11/\p.e3=25)(l:p.a1=2/\p.a2=13/\p.a3=22)(j:w.cell? ⟨i,0,none⟩=some (.int .i64 4))(F:w.cell? ⟨i,16,none⟩=some (.int .i64 6))(K:w.cell? ⟨i,17,none⟩=some (.int .i64 11))(J:w.cell? ⟨i,18,none⟩=some (.int .i64 25))(r:w.cell? ⟨i,19,none⟩=some (.int .i64 2))(c20:w.cell? ⟨i,20,none⟩=some (.int .i64 13))(c21:w.cell? ⟨i,21,none⟩=some (.int .i64 22)):Calls prog 218 #[.pointer (some ⟨i,0,none⟩),.agg #[.int .u32 (eW s.a),.int .u32 (eW s.b),.int .u32 (eW s.c),.int .u32 (eW s.d),.int .u32 (eW s.e),.int .u32 (eW s.f),.int .u32 (eW s.g),.int .u32 (eW s.h)],.int .u32 (eW x)] w fun e B=>e=.returned (.agg #[.int .u32 (eW (round p s x).a),.int .u32 (eW (round p s x).b),.int .u32 (eW (round p s x).c),.int .u32 (eW (round p s x).d),.int .u32 (eW (round p s x).e),.int .u32 (eW (round p s x).f),.int .u32 (eW (round p s x).g),.int .u32 (eW (round p s x).h)])/\Below w.heap.size w B:=by
 have m:=JL w _ j;have A:Hid _:=k;have t:Hid _:=l;clear k l;obtain⟨a,b,c,d,e,f,g,h⟩:=s;have N:IntKind.u32.signed=false:=rfl;go_enter func218,ntmps218;go_wp2
 go_quiet (fail);go_wp2
 go_quiet (fail);go_wp2_with fail
 refine(sS i e 6 11 25 _ (by omega) (by omega) (by omega) ?_).mono ?_
 ·exact cm (em (cK (cK (cF _) _) _) _) m j
 rintro H M ⟨rfl,L,rfl⟩;have C:=oL r;have O:=oL c20;have D:=oL c21;go_wp2_with fail
 refine(sS i a 2 13 22 _ (by omega) (by omega) (by omega) ?_).mono ?_
 ·exact cm (em (cK (cK (cK (cF _) _) _) _) _) m j
 rintro I E ⟨rfl,G,rfl⟩;go_wp2_with fail
 obtain⟨n,o,y⟩:=A.out;obtain⟨u,z,q⟩:=t.out;refine Ka (v:=.agg #[.int .u32 (eW (round p ⟨a,b,c,d,e,f,g,h⟩ x).a),.int .u32 (eW a),.int .u32 (eW b),.int .u32 (eW c),.int .u32 (eW (round p ⟨a,b,c,d,e,f,g,h⟩ x).e),.int .u32 (eW e),.int .u32 (eW f),.int .u32 (eW g)]) (by simp[results,results218,go_sem,round,Ax,you,lu,n,o,y,u,z,q]) rfl ⟨rfl,?_⟩;refine K5 ?_ (KG _) _;refine K5 ?_ (KG _) _;refine K5 ?_ (KG _) _;refine K5 ?_ (KG _) _;refine K5 ?_ (KG _) _;refine K5 ?_ (KG _) _;refine K5 ?_ (KG _) _;refine K5 ?_ (KG _) _;exact em (cK (cK (cK (cK (cF _) _) _) _) _) _
end
section
attribute [local go_sem] fD oT s8 sr sw oW qR dq
theorem rb(x:BitVec 64)(c:UInt8):bits .or .u64 (eW x*(256:Int)%(18446744073709551616:Int)) ((c.toNat:Int)%(18446744073709551616:Int))=eW (x<<<8|||BitVec.ofNat 64 c.toNat):=by
 have a:eW x*(256:Int)%(18446744073709551616:Int)=eW (x<<<8):=by
  have:=oT x 8;rw[<-this,L4];rfl
 have b:(c.toNat:Int)%(18446744073709551616:Int)=eW (BitVec.ofNat 64 c.toNat):=by
  unfold eW;rw[Kw];omega
 rw[a,b,s8]
theorem vD(x:BitVec 64)(c:UInt8):bits .or .u64 (IntKind.u64.wrap (eW x*256)) (IntKind.u64.wrap (c.toNat:Int))=eW (x<<<8|||BitVec.ofNat 64 c.toNat):=by
 rw[<-rb,L4,L4]
theorem F4(v:Va)(s:dv)(w:Wd)(b:s.size<=maxLen):Calls prog 242 #[v,.string s] w fun e c=>e=.returned (.int .u64 (eW (rd 64 s.data.toList)))/\c=w:=by
 unfold maxLen at b;go_enter func242,ntmps242;go_wp2;go_loop [5,9] (fun x i=>∃k:Nat,k<=s.size/\i=.int .i64 k/\x=.int .u64 (eW (rd 64 (s.data.toList.take k)))) (fun _ i=>s.size-(intOf i).toNat)
 case atStart=>exact⟨0,KI _,rfl,rfl⟩
 case round=>
  obtain⟨k,d,rfl,rfl⟩:=hrel;by_cases a:k<s.size
  ·go_wp2
   go_round
   case rel=>exact⟨k+1,by omega,by go_num,by(first|rw[rb]|rw[vD]);rw[<-lC,<-rq s k a]⟩
   case measure=>simp[intOf];omega
  ·go_wp2
   go_ret;exact⟨dX (by rw[Kd (by simp;omega)]),rfl⟩
theorem D7(i:Nat)(s:St 64)(x:BitVec 64)(w:Wd)(p:dN 64)(k:p.e1=14/\p.e2=18/\p.e3=41)(l:p.a1=28/\p.a2=34/\p.a3=39)(j:w.cell? ⟨i,0,none⟩=some (.int .i64 8))(F:w.cell? ⟨i,16,none⟩=some (.int .i64 14))(K:w.cell? ⟨i,17,none⟩=some (.int .i64 18))(J:w.cell? ⟨i,18,none⟩=some (.int .i64 41))(r:w.cell? ⟨i,19,none⟩=some (.int .i64 28))(c20:w.cell? ⟨i,20,none⟩=some (.int .i64 34))(c21:w.cell? ⟨i,21,none⟩=some (.int .i64 39)):Calls prog 220 #[.pointer (some ⟨i,0,none⟩),.agg #[.int .u64 (eW s.a),.int .u64 (eW s.b),.int .u64 (eW s.c),.int .u64 (eW s.d),.int .u64 (eW s.e),.int .u64 (eW s.f),.int .u64 (eW s.g),.int .u64 (eW s.h)],.int .u64 (eW x)] w fun e B=>e=.returned (.agg #[.int .u64 (eW (round p s x).a),.int .u64 (eW (round p s x).b),.int .u64 (eW (round p s x).c),.int .u64 (eW (round p s x).d),.int .u64 (eW (round p s x).e),.int .u64 (eW (round p s x).f),.int .u64 (eW (round p s x).g),.int .u64 (eW (round p s x).h)])/\Below w.heap.size w B:=by
 have m:=JL w _ j;have A:Hid _:=k;have t:Hid _:=l;clear k l;obtain⟨a,b,c,d,e,f,g,h⟩:=s;have N:IntKind.u64.signed=false:=rfl;go_enter func220,ntmps220;go_wp2
 go_quiet (fail);go_wp2
 go_quiet (fail);go_wp2_with fail
 refine(sZ i e 14 18 41 _ (by omega) (by omega) (by omega) ?_).mono ?_
 ·exact cm (em (cK (cK (cF _) _) _) _) m j
 rintro H M ⟨rfl,L,rfl⟩;have C:=oL r;have O:=oL c20;have D:=oL c21;go_wp2_with fail
 refine(sZ i a 28 34 39 _ (by omega) (by omega) (by omega) ?_).mono ?_
 ·exact cm (em (cK (cK (cK (cF _) _) _) _) _) m j
 rintro I E ⟨rfl,G,rfl⟩;go_wp2_with fail
 obtain⟨n,o,y⟩:=A.out;obtain⟨u,z,q⟩:=t.out;refine Ka (v:=.agg #[.int .u64 (eW (round p ⟨a,b,c,d,e,f,g,h⟩ x).a),.int .u64 (eW a),.int .u64 (eW b),.int .u64 (eW c),.int .u64 (eW (round p ⟨a,b,c,d,e,f,g,h⟩ x).e),.int .u64 (eW e),.int .u64 (eW f),.int .u64 (eW g)]) (by simp[results,results220,go_sem,round,Ax,you,lu,n,o,y,u,z,q]) rfl ⟨rfl,?_⟩;refine K5 ?_ (KG _) _;refine K5 ?_ (KG _) _;refine K5 ?_ (KG _) _;refine K5 ?_ (KG _) _;refine K5 ?_ (KG _) _;refine K5 ?_ (KG _) _;refine K5 ?_ (KG _) _;refine K5 ?_ (KG _) _;exact em (cK (cK (cK (cK (cF _) _) _) _) _) _
end
section
attribute [local go_sem] fD kU ra rs oU o0 qK dq
def eG(L:List (BitVec 32)):Array Value:=((List.range 80).map fun j=>Value.int .u32 (eW (L.getD j 0))).toArray
theorem iJ(L:List (BitVec 32))(j:Nat)(h:j<80):(eG L)[j]?=some (.int .u32 (eW (L.getD j 0))):=by
 simp[eG,h]
theorem sm(L:List (BitVec 32))(x:BitVec 32)(h:L.length<80):(eG L).setIfInBounds L.length (.int .u32 (eW x))=eG (L++[x]):=by
 apply L7;intro i;by_cases a:i<80
 ·rw[Lq]
  by_cases b:L.length=i
  ·subst b;rw[if_pos rfl,if_pos (by simp[eG,h]),iJ _ _ a];simp
  ·rw[if_neg b,iJ _ _ a,iJ _ _ a]
   congr 3
   by_cases c:i<L.length
   ·simp[List.getElem?_append_left c]
   ·simp only[KJ];rw[Mf (by omega),Mf (by simp;omega)]
 ·rw[Km (by simp[eG];omega),Km (by simp[eG];omega)]
theorem EZ{w wr:Wd}{t:TypeId}{s:dv}{k:Nat}(a:k<16)(h:wr.heap[w.heap.size+1]?=some (.cells (eG (cP 32 4 s.data.toList k)) t (0,0))):(wr.setCell ⟨w.heap.size+1,k,none⟩ (.int .u32 (eW (rd 32 (List.take ((k+1)*4-k*4) (List.drop (k*4) s.data.toList)))))).drew.heap[w.heap.size+1]?=some (.cells (eG (cP 32 4 s.data.toList (k+1))) t (0,0)):=by
 rw[Lz,J5 _ _ _ _ _ _ h,show(k+1)*4-k*4=4 from by omega];have:=sm (cP 32 4 s.data.toList k) (rd 32 (List.take 4 (List.drop (k*4) s.data.toList))) (by rw[es];omega);rw[es]at this;rw[this];rfl
theorem DK{w wr:Wd}{t:TypeId}{p:dN 32}{i L:List (BitVec 32)}{j:Nat}{b a k f:BitVec 32}(A B:Obj)(n:Nat)(r:16<=j)(s:j<80)(h:wr.heap[w.heap.size+1]?=some (.cells (eG L) t (0,0)))(q:c8 p i (j-16)=L)(g:L.length=j)(m:L.getD (j-15) 0=b/\L.getD (j-2) 0=a/\L.getD (j-16) 0=k/\L.getD (j-7) 0=f)(c:p.f1=7/\p.f2=18/\p.f3=3)(d:p.n1=17/\p.n2=19/\p.n3=10):((((wr.alloc A).alloc B).drewN n).setCell ⟨w.heap.size+1,j,none⟩ (.int .u32 (eW (k+(dG b 7^^^dG b 18^^^b>>>3)+f+(dG a 17^^^dG a 19^^^a>>>10))))).heap[w.heap.size+1]?=some (.cells (eG (c8 p i (j+1-16))) t (0,0)):=by
 have o:(((wr.alloc A).alloc B).drewN n).heap[w.heap.size+1]?=some (.cells (eG L) t (0,0)):=lU h A B;rw[J5 _ _ _ _ _ _ o];obtain⟨rfl,rfl,rfl,rfl⟩:=m;have e:j+1-16=(j-16)+1:=by omega
 rw[e,c8,q];have l:=sm L (mX p L) (by omega);rw[g]at l;rw[<-l,mX,mM,mM,g,c.1,c.2.1,c.2.2,d.1,d.2.1,d.2.2]
theorem ki(L:List (BitVec 32)):(eG L).size=80:=by simp[eG]
theorem rp(L:List (BitVec 32)):(eG L).all (·.oneCell')=true:=by
 rw[Array.all_eq_true_iff_forall_mem];intro v a;simp[eG]at a;obtain⟨j,_,rfl⟩:=a;rfl
theorem j7(L:List (BitVec 32)):(prog.info? 254).map (·.size)=some (eG L).size:=by
 rw[ki];kernel_rfl
theorem zW(w:Wd):Sem.run prog (zeroValue 254) w=.ok (.agg (eG [])) w:=by kernel_rfl
theorem BK(a:Nat)(s:dv)(w:Wd)(p:dN 32)(Q:s.size=64)(E:p.K.length=64)(T:p.f1=7/\p.f2=18/\p.f3=3)(F:p.n1=17/\p.n2=19/\p.n3=10)(m:w.cell? ⟨a,0,none⟩=some (.int .i64 4))(kb:Nat)(c9:w.cell? ⟨a,9,none⟩=some (.slice (some ⟨kb,0,none⟩) 64 64))(C:w.cell? ⟨a,10,none⟩=some (.int .i64 7))(z:w.cell? ⟨a,11,none⟩=some (.int .i64 18))(V:w.cell? ⟨a,12,none⟩=some (.int .i64 3))(J:w.cell? ⟨a,13,none⟩=some (.int .i64 17))(M:w.cell? ⟨a,14,none⟩=some (.int .i64 19))(K:w.cell? ⟨a,15,none⟩=some (.int .i64 10)):Calls prog 217 #[.pointer (some ⟨a,0,none⟩),.string s] w fun e b=>e=.returned (.agg (eG (iN p 4 s.data.toList)))/\Below w.heap.size w b:=by
 have f:=JL w _ m;have HF:Hid _:=T;have HN:Hid _:=F;have HK:Hid _:=E;have Y:Hid _:=Q;clear T F E Q;have az:64<=s.size:=by have:=Y.out;omega
 have aH:s.size<=64:=by have:=Y.out;omega
 have hz:=zW;go_enter func217,ntmps217;go_wp2
 go_loopw [10] (fun i wr=>∃k:Nat,k<=16/\i=.int .i64 k/\wr.heap[w.heap.size+1]?=some (.cells (eG (cP 32 4 s.data.toList k)) 254 (0,0))/\
  wr.heap[w.heap.size]?=some (.cells (eG []) 254 (0,0))/\Below w.heap.size w wr) (fun i _=>16-(intOf i).toNat)
 case atStart=>
  refine⟨0,by omega,rfl,?_,?_,cK (cK (cF _) _) _⟩
  ·rw[K1];rfl
  ·rw[K2]
 case round=>
  obtain⟨k,hk,rfl,d,g,c⟩:=hrel;by_cases q:k<16
  ·have S:=cm c f m
   have aO:wr.cell? ⟨w.heap.size+1,k,none⟩=some (.int .u32 (eW ((cP 32 4 s.data.toList k).getD k 0))):=by rw[JE _ _ _ _ _ _ d,iJ _ _ (by omega)]
   have aM:wr.frozen? ⟨w.heap.size+1,k,none⟩=false:=KO _ _ _ _ _ d;have aq:=fi ((k:Int)*4) (by omega);have ab:=fi ((k:Int)+1) (by omega);have aa:=fi (((k:Int)+1)*4) (by omega);have Z:(0:Int)<=(k:Int)+1:=by omega
   have au:(k:Int)<=(k:Int)+1:=by omega
   have ai:(k:Int)<80:=by omega
   have al:(0:Int)<=(k:Int):=by omega
   have ao:w.heap.size+1≠a:=by omega
   have ax:(0:Int)<=(k:Int)*4:=by omega
   have am:(k:Int)*4<=((k:Int)+1)*4:=by omega
   have an:((k:Int)+1)*4<=(s.size:Int):=by omega
   have ah:(0:Int)<=((k:Int)+1)*4:=by omega
   have x:Hid _:=d;have y:Hid _:=g;clear d g;go_wp2_with fail
   go_region_held3 (fun b=>b.cell? ⟨a,0,none⟩=some (.int .i64 4)) (go_keep) (first|(go_at_call 239;refine(FB _ _ _ (by simp[maxLen];omega)).mono ?_;rintro e I ⟨rfl,rfl⟩))
   go_wp2_with fail
   go_roundw
   case rel=>
    refine⟨k+1,by omega,by go_num,EZ q x.out,?_,(c.setCell (KG _) _).drew⟩;rw[Lz,JX _ _ _ _ (by simp)];exact y.out
   case measure=>simp[intOf];omega
  ·obtain rfl:k=16:=by omega
   clear q hk;go_wp2_with fail
   go_loopw [7] (fun i u=>∃j:Nat,16<=j/\j<=64/\i=.int .i64 j/\u.heap[w.heap.size+1]?=some (.cells (eG (c8 p (cP 32 4 s.data.toList 16) (j-16))) 254 (0,0))/\
    u.heap[w.heap.size]?=some (.cells (eG []) 254 (0,0))/\Below w.heap.size w u) (fun i _=>64-(intOf i).toNat)
   case atStart=>exact⟨16,by omega,by omega,rfl,d,g,c⟩
   case round=>
    clear d g c;obtain⟨j,aA,ad,rfl,d,g,c⟩:=hrel;have S:wr.cell? ⟨a,0,none⟩=some (.int .i64 4):=cm c f m;have g9:=cm c f c9;by_cases q:j<64
    ·generalize r:c8 p (cP 32 4 s.data.toList 16) (j-16)=L at d
     have HL:Hid (c8 p (cP 32 4 s.data.toList 16) (j-16)=L):=r;have ap:Hid (L.length=j):=by
      show L.length=j
      rw[<-r,gs,es];omega
     clear r;have ac:=cm c f C;have ae:=cm c f z;have aj:=cm c f V;have ak:=cm c f J;have ag:=cm c f M;have af:=cm c f K;have l:∀i,i<80->wr.cell? ⟨w.heap.size+1,i,none⟩=some (.int .u32 (eW (L.getD i 0))):=fun i hi=>by rw[JE _ _ _ _ _ _ d,iJ _ _ hi]
     have ar:w.heap.size+1<wr.heap.size:=(go.1 d).1;have B:=l (j-15) (by omega);have D:=l (j-2) (by omega);have n:=l (j-16) (by omega);have o:=l (j-7) (by omega);have t:=l j (by omega);generalize X:L.getD (j-15) 0=P at B;generalize H:L.getD (j-2) 0=U at D;generalize N:L.getD (j-16) 0=A at n;generalize O:L.getD (j-7) 0=G at o;generalize L.getD j 0=x0 at t;have HX:Hid (L.getD (j-15) 0=P/\L.getD (j-2) 0=U/\L.getD (j-16) 0=A/\L.getD (j-7) 0=G):=⟨X,H,N,O⟩;clear X H N O;have R:wr.frozen? ⟨w.heap.size+1,j,none⟩=false:=KO _ _ _ _ _ d;clear l;have x:Hid _:=d;have y:Hid _:=g;have HB:Hid _:=c;clear d g c C z V J M K c9 m;have aq:=fi ((j:Int)-15) (by omega);have ab:=fi ((j:Int)-2) (by omega);have aa:=fi ((j:Int)-16) (by omega);have aN:=fi ((j:Int)-7) (by omega);have am:(15:Int)<=(j:Int):=by omega
     have an:(j:Int)<80:=by omega
     have ah:(2:Int)<=(j:Int):=by omega
     have Z:(16:Int)<=(j:Int):=by omega
     have au:(7:Int)<=(j:Int):=by omega
     have ai:(0:Int)<=(j:Int)-15:=by omega
     have al:(j:Int)-15<80:=by omega
     have aw:(0:Int)<=(j:Int)-2:=by omega
     have aG:(j:Int)-2<80:=by omega
     have ad:(0:Int)<=(j:Int)-16:=by omega
     have aB:(j:Int)-16<80:=by omega
     have ay:(0:Int)<=(j:Int)-7:=by omega
     have aD:(j:Int)-7<80:=by omega
     have aF:(0:Int)<=(j:Int):=by omega
     have av:((j:Int)-15).toNat=j-15:=by omega
     have aE:((j:Int)-2).toNat=j-2:=by omega
     have aL:((j:Int)-16).toNat=j-16:=by omega
     have aK:((j:Int)-7).toNat=j-7:=by omega
     have ao:w.heap.size+1≠a:=by omega
     go_wp2_with fail
     go_region_held3 (fun b=>b.cell? ⟨a,0,none⟩=some (.int .i64 4)/\b.cell? ⟨a,10,none⟩=some (.int .i64 7)/\b.cell? ⟨a,11,none⟩=some (.int .i64 18)/\b.cell? ⟨a,12,none⟩=some (.int .i64 3)/\b.cell? ⟨w.heap.size+1,j-15,none⟩=some (.int .u32 (eW P))) (go_keep) (first|(go_at_call 240;refine(p5 _ _ _ _ _ _ (by omega) (by omega) (by omega) (by simp[*])).mono ?_;rintro e1 I ⟨rfl,k1,rfl⟩))
     go_wp2_with fail
     go_region_held3 (fun b=>b.cell? ⟨a,0,none⟩=some (.int .i64 4)/\b.cell? ⟨a,13,none⟩=some (.int .i64 17)/\b.cell? ⟨a,14,none⟩=some (.int .i64 19)/\b.cell? ⟨a,15,none⟩=some (.int .i64 10)/\b.cell? ⟨w.heap.size+1,j-2,none⟩=some (.int .u32 (eW U))) (go_keep) (first|(go_at_call 240;refine(p5 _ _ _ _ _ _ (by omega) (by omega) (by omega) (by simp[*,World.cell?_alloc_some])).mono ?_;rintro e1 I ⟨rfl,k2,rfl⟩))
     have aJ:=lT n;have m7:=lT o;have m0:=lT t;have mf:=vT ar R;clear n o t R B D ac ae aj ak ag af g9 S;have aC:∀(W:Wd) (v:Va),(W.setCell ⟨w.heap.size+1,j,none⟩ v).cell? ⟨w.heap.size+1,j-16,none⟩=W.cell? ⟨w.heap.size+1,j-16,none⟩:=fun W v=>K0 _ _ _ _ (by intro h;injection h;omega)
     have aI:∀(W:Wd) (v:Va),(W.setCell ⟨w.heap.size+1,j,none⟩ v).cell? ⟨w.heap.size+1,j-7,none⟩=W.cell? ⟨w.heap.size+1,j-7,none⟩:=fun W v=>K0 _ _ _ _ (by intro h;injection h;omega)
     go_wp2_with fail
     go_region_held3 (fun b=>b.cell? ⟨w.heap.size+1,j-16,none⟩=some (.int .u32 (eW A))/\b.cell? ⟨w.heap.size+1,j-7,none⟩=some (.int .u32 (eW G))) (simp[*]) (fail)
     go_wp2_with fail
     go_roundw
     case rel=>
      (repeat apply Exists.intro)
      refine⟨?_,rfl⟩;refine⟨j+1,by omega,by omega,by go_num,DK _ _ _ (by omega) (by omega) x.out HL.out ap.out HX.out HF.out HN.out,?_,((em (cK (cK HB.out _) _) _).setCell (KG _) _)⟩;rw[JX _ _ _ _ (by simp)];exact lU y.out _ _
     case measure=>simp[intOf];omega
    ·obtain rfl:j=64:=by omega
     go_wp2_with (first|(refine Ls rfl 254 _ rfl (w.heap.size+1) rfl _ _ _ _ d underlying254 rfl (j7 _) ?_)|(refine Kn rfl 254 _ _ rfl w.heap.size _ rfl rfl _ _ g (j7 _) (by rw[ki,ki]) (rp _) ?_))
     refine Ka (v:=.agg (eG (c8 p (cP 32 4 s.data.toList 16) (64-16)))) (Lb rfl _ _ w.heap.size _ _ _ _ rfl (J7 _ _ _ _ _ _ g) underlying254 rfl (j7 _)) rfl ⟨?_,KU c (JQ _) _⟩;rw[iN,HK.out]
end
section
attribute [local go_sem] fD kU ra rs oU o0 qK dq
structure ff (p:dN 32) (w:Wd) (bp kb:Nat):Prop where
 c0:w.cell? ⟨bp,0,none⟩=some (.int .i64 4)
 c9:w.cell? ⟨bp,9,none⟩=some (.slice (some ⟨kb,0,none⟩) 64 64)
 c10:w.cell? ⟨bp,10,none⟩=some (.int .i64 7)
 c11:w.cell? ⟨bp,11,none⟩=some (.int .i64 18)
 c12:w.cell? ⟨bp,12,none⟩=some (.int .i64 3)
 c13:w.cell? ⟨bp,13,none⟩=some (.int .i64 17)
 c14:w.cell? ⟨bp,14,none⟩=some (.int .i64 19)
 c15:w.cell? ⟨bp,15,none⟩=some (.int .i64 10)
 c16:w.cell? ⟨bp,16,none⟩=some (.int .i64 6)
 c17:w.cell? ⟨bp,17,none⟩=some (.int .i64 11)
 c18:w.cell? ⟨bp,18,none⟩=some (.int .i64 25)
 c19:w.cell? ⟨bp,19,none⟩=some (.int .i64 2)
 c20:w.cell? ⟨bp,20,none⟩=some (.int .i64 13)
 c21:w.cell? ⟨bp,21,none⟩=some (.int .i64 22)
 ks:∀i,i<64->w.cell? ⟨kb,i,none⟩=some (.int .u32 (eW (p.K.getD i 0)))
 hK:p.K.length=64
 hf:p.f1=7/\p.f2=18/\p.f3=3
 hn:p.n1=17/\p.n2=19/\p.n3=10
 he:p.e1=6/\p.e2=11/\p.e3=25
 ha:p.a1=2/\p.a2=13/\p.a3=22
theorem ff.lt{p:dN 32}{w:Wd}{a kb:Nat}(h:ff p w a kb):a<w.heap.size:=JL w _ h.c0
theorem ff.ltk{p:dN 32}{w:Wd}{a kb:Nat}(h:ff p w a kb):kb<w.heap.size:=JL w _ (h.ks 0 (by omega))
theorem ff.up{p:dN 32}{w w':Wd}{c kb B:Nat}(h:ff p w c kb)(a:Below B w w')(b:c<B)(d:kb<B):ff p w' c kb:=
 ⟨cm a b h.c0,cm a b h.c9,cm a b h.c10,cm a b h.c11,cm a b h.c12,cm a b h.c13,cm a b h.c14,cm a b h.c15,cm a b h.c16,cm a b h.c17,cm a b h.c18,cm a b h.c19,cm a b h.c20,cm a b h.c21,fun i e=>cm a d (h.ks i e),h.hK,h.hf,h.hn,h.he,h.ha⟩
def et(s:St 32):Array Value:= #[.int .u32 (eW s.a),.int .u32 (eW s.b),.int .u32 (eW s.c),.int .u32 (eW s.d),.int .u32 (eW s.e),.int .u32 (eW s.f),.int .u32 (eW s.g),.int .u32 (eW s.h)]
theorem gf(s:St 32):(prog.info? 193).map (·.size)=some (et s).size:=by
 rw[show(et s).size=8 from rfl];kernel_rfl
theorem ph(s:St 32):(et s).all (·.oneCell')=true:=by simp[et,Value.oneCell']
def fB(s:St 32)(j:Nat):BitVec 32:=[s.a,s.b,s.c,s.d,s.e,s.f,s.g,s.h].getD j 0
def ic(s v:St 32)(i:Nat):Array Value:=((List.range 8).map fun j=>Value.int .u32 (eW (if j<i then fB s j+fB v j else fB s j))).toArray
theorem wm(s v:St 32):ic s v 0=et s:=by simp[ic,et,fB,List.range,List.range.loop]
theorem C7(s v:St 32):ic s v 8=et (jB s v):=by simp[ic,et,fB,jB,List.range,List.range.loop]
theorem yX(s v:St 32)(i:Nat)(h:i<8):(ic s v i)[i]?=some (.int .u32 (eW (fB s i))):=by
 simp[ic,h]
theorem yn(s v:St 32)(i:Nat)(h:i<8):(ic s v i).setIfInBounds i (.int .u32 (eW (fB s i+fB v i)))=ic s v (i+1):=by
 apply L7;intro j;by_cases c:j<8
 ·rw[Lq]
  by_cases a:i=j
  ·subst a;rw[if_pos rfl,if_pos (by simp[ic,h])];simp[ic,h]
  ·rw[if_neg a]
   simp only[ic,Kr,KM,Mw c,ME];by_cases b:j<i
   ·rw[if_pos b,if_pos (by omega)]
   ·rw[if_neg b,if_neg (by omega)]
 ·rw[Km (by simp[ic];omega),Km (by simp[ic];omega)]
theorem Cu(s:St 32)(i:Nat)(h:i<8):(et s)[i]?=some (.int .u32 (eW (fB s i))):=by
 rw[<-wm s s];simp[ic,h]
structure jk (p:dN 32) (w:Wd) (bp kb B2:Nat) (s v:St 32) (ws:List (BitVec 32)) (wr:Wd):Prop where
 plan0:ff p w bp kb
 h0:wr.heap[w.heap.size]?=some (.cells (et s) 193 (0,0))
 h1:wr.heap[w.heap.size+1]?=some (.cells (et ⟨0,0,0,0,0,0,0,0⟩) 193 (0,0))
 h2:wr.heap[B2]?=some (.cells (eG ws) 254 (0,0))
 h3:wr.heap[B2+1]?=some (.cells (et v) 193 (0,0))
 below:Below w.heap.size w wr
 b2:w.heap.size+1<B2
theorem jk.plan{p:dN 32}{w wr:Wd}{a kb b:Nat}{s v:St 32}{c:List (BitVec 32)}(h:jk p w a kb b s v c wr):ff p wr a kb:=h.plan0.up h.below h.plan0.lt h.plan0.ltk
theorem jk.start{p:dN 32}{w a c:Wd}{d kb:Nat}{s:St 32}{e:List (BitVec 32)}{Z:Array Value}(h:ff p w d kb)(g:Below w.heap.size w a)(j:a.heap[w.heap.size]?=some (.cells (et s) 193 (0,0)))(f:a.heap[w.heap.size+1]?=some (.cells (et ⟨0,0,0,0,0,0,0,0⟩) 193 (0,0)))(b:((a.alloc (.cells (eG e) 254)).alloc (.cells Z 193)).setRow (a.heap.size+1) (et s)=c):jk p w d kb a.heap.size s s e c:=by
 have i:=(go.1 f).1;have k:Below w.heap.size w c:=by rw[<-b];exact KU (cK (cK g _) _) (by omega) _
 refine⟨h,?_,?_,?_,?_,k,i⟩
 ·rw[<-b,Kg _ _ _ _ (by omega)];exact lU j _ _
 ·rw[<-b,Kg _ _ _ _ (by omega)];exact lU f _ _
 ·rw[<-b,Kg _ _ _ _ (by omega),K2]
 ·rw[<-b];exact J7 _ _ _ _ _ _ (K1 _ _ _)
theorem fp{w:Wd}{g:Nat}{v:St 32}{t:TypeId}{a:Nat×Nat}(h:w.heap[g]?=some (.cells (et v) t a)):w.cell? ⟨g,0,none⟩=some (.int .u32 (eW v.a))/\w.cell? ⟨g,1,none⟩=some (.int .u32 (eW v.b))/\w.cell? ⟨g,2,none⟩=some (.int .u32 (eW v.c))/\w.cell? ⟨g,3,none⟩=some (.int .u32 (eW v.d))/\w.cell? ⟨g,4,none⟩=some (.int .u32 (eW v.e))/\w.cell? ⟨g,5,none⟩=some (.int .u32 (eW v.f))/\w.cell? ⟨g,6,none⟩=some (.int .u32 (eW v.g))/\w.cell? ⟨g,7,none⟩=some (.int .u32 (eW v.h)):=by
 refine⟨?_,?_,?_,?_,?_,?_,?_,?_⟩<;>(rw[JE _ _ _ _ _ _ h];rfl)
def kp(w:Wd)(g:Nat)(v:St 32):Wd:=
 (((((((w.setCell ⟨g,0,none⟩ (.int .u32 (eW v.a))).setCell ⟨g,1,none⟩ (.int .u32 (eW v.b))).setCell ⟨g,2,none⟩ (.int .u32 (eW v.c))).setCell ⟨g,3,none⟩ (.int .u32 (eW v.d))).setCell ⟨g,4,none⟩ (.int .u32 (eW v.e))).setCell ⟨g,5,none⟩ (.int .u32 (eW v.f))).setCell ⟨g,6,none⟩ (.int .u32 (eW v.g))).setCell ⟨g,7,none⟩ (.int .u32 (eW v.h))
theorem kf{w:Wd}{g:Nat}{u:St 32}{t:TypeId}(v:St 32)(h:w.heap[g]?=some (.cells (et u) t (0,0))):(kp w g v).heap[g]?=some (.cells (et v) t (0,0)):=by
 unfold kp;have e:=J5 _ _ 0 _ _ (.int .u32 (eW v.a)) h;have c:=J5 _ _ 1 _ _ (.int .u32 (eW v.b)) e;have j:=J5 _ _ 2 _ _ (.int .u32 (eW v.c)) c;have a:=J5 _ _ 3 _ _ (.int .u32 (eW v.d)) j;have d:=J5 _ _ 4 _ _ (.int .u32 (eW v.e)) a;have b:=J5 _ _ 5 _ _ (.int .u32 (eW v.f)) d;have f:=J5 _ _ 6 _ _ (.int .u32 (eW v.g)) b;have i:=J5 _ _ 7 _ _ (.int .u32 (eW v.h)) f;rw[i];simp[et]
theorem js{w:Wd}{g k:Nat}(v:St 32)(h:k≠g):(kp w g v).heap[k]?=w.heap[k]?:=by
 unfold kp;rw[JX _ _ _ _ h,JX _ _ _ _ h,JX _ _ _ _ h,JX _ _ _ _ h,JX _ _ _ _ h,JX _ _ _ _ h,JX _ _ _ _ h,JX _ _ _ _ h]
theorem jv{B:Nat}{a w:Wd}{g:Nat}(v:St 32)(h:Below B a w)(b:B<=g):Below B a (kp w g v):=
 (((((((h.setCell b _).setCell b _).setCell b _).setCell b _).setCell b _).setCell b _).setCell b _).setCell b _
theorem jk.step{p:dN 32}{w wr w2:Wd}{d kb b:Nat}{s v:St 32}{e:List (BitVec 32)}(h:jk p w d kb b s v e wr)(c:Below wr.heap.size wr w2)(a:St 32):jk p w d kb b s a e (kp w2 (b+1) a):=by
 have f:=(go.1 h.h0).1;have l:=(go.1 h.h1).1;have k:=(go.1 h.h2).1;have m:=(go.1 h.h3).1;have j:=h.b2;have i:Below (b+1) wr (kp w2 (b+1) a):=jv a (c.mono (by omega)) (JQ _);have g:=h.below.trans (i.mono (by omega));refine⟨h.plan0,?_,?_,?_,kf a (by rw[c.block _ m];exact h.h3),g,j⟩
 ·rw[js _ (by omega),c.block _ f,h.h0]
 ·rw[js _ (by omega),c.block _ l,h.h1]
 ·rw[js _ (by omega),c.block _ k,h.h2]
theorem CM(g kb:Nat)(s:St 32)(t:dv)(w:Wd)(p:dN 32)(I:t.size=64)(q:ff p w g kb):Calls prog 200 #[.pointer (some ⟨g,0,none⟩),.agg #[.int .u32 (eW s.a),.int .u32 (eW s.b),.int .u32 (eW s.c),.int .u32 (eW s.d),.int .u32 (eW s.e),.int .u32 (eW s.f),.int .u32 (eW s.g),.int .u32 (eW s.h)],.string t] w fun e w'=>e=.returned (.agg (et (gv p 4 s t.data.toList)))/\Below w.heap.size w w':=by
 have ad:=q.lt;have Y:=q.ltk;have HT:Hid _:=I;clear I;go_enter func200,ntmps200;go_wp2_with fail
 have f:=q.up (cK (cK (cF w) (.cells #[.int .u32 (eW s.a),.int .u32 (eW s.b),.int .u32 (eW s.c),.int .u32 (eW s.d),.int .u32 (eW s.e),.int .u32 (eW s.f),.int .u32 (eW s.g),.int .u32 (eW s.h)] 193)) (.cells #[.int .u32 0,.int .u32 0,.int .u32 0,.int .u32 0,.int .u32 0,.int .u32 0,.int .u32 0,.int .u32 0] 193)) ad Y;refine(BK g t _ p HT.out f.hK f.hf f.hn f.c0 kb f.c9 f.c10 f.c11 f.c12 f.c13 f.c14 f.c15).mono ?_;rintro e1 b ⟨rfl,z⟩;have U:=(cK (cK (cF w) _) _).trans (z.mono (by simp;omega));have E:b.heap[w.heap.size]?=some (.cells (et s) 193 (0,0)):=by
  rw[z.block _ (by simp;omega),K2];rfl
 have F:b.heap[w.heap.size+1]?=some (.cells (et ⟨0,0,0,0,0,0,0,0⟩) 193 (0,0)):=by
  rw[z.block _ (by simp),K1];rfl
 clear z f;have ae:=(go.1 F).1;have hz:=zW;have O:∀o,(b.alloc o).heap[w.heap.size]?=some (.cells (et s) 193 (0,0)):=fun o=>by rw[JO _ _ (by omega),E]
 have S:Hid _:=E;have Q:Hid _:=F;have M:Hid _:=U;clear E F U;generalize W:iN p 4 t.data.toList=d;have aa:Hid _:=W;clear W;have K:∀A:Obj,((b.alloc A).alloc (.cells #[.int .u32 0,.int .u32 0,.int .u32 0,.int .u32 0,.int .u32 0,.int .u32 0,.int .u32 0,.int .u32 0] 193)).heap[b.heap.size+1]?=some (.cells #[.int .u32 0,.int .u32 0,.int .u32 0,.int .u32 0,.int .u32 0,.int .u32 0,.int .u32 0,.int .u32 0] 193 (0,0)):=fun A=>K1 _ _ _
 have R:Hid _:=K;clear K;go_wp2_with (first|(refine Kn rfl 254 (.tmp 7) (.tmp 14) rfl b.heap.size _ rfl rfl _ _ (JK _ _) (j7 _) (by simp only[ki]) (rp _) ?_;rw[World.setRow_alloc_new])|(refine Ls rfl 193 (.tmp 4) rfl w.heap.size rfl _ _ _ _ (O _) M6 rfl (gf _) ?_)|(refine Kn rfl 193 (.tmp 8) (.tmp 15) rfl (b.heap.size+1) (et s) rfl rfl _ _ (R.out _) (gf _) rfl (ph _) ?_;generalize P:World.setRow _ _ _=W4;have c:=jk.start (p:=p) (kb:=kb) q M.out S.out Q.out P;have k9:=c.plan.c9;have H:Hid _:=c;clear c P O))
 go_loopw [21] (fun i wr=>∃k:Nat,k<=64/\i=.int .i64 k/\jk p w g kb b.heap.size s (cT p s d k) d wr) (fun i _=>64-(intOf i).toNat)
 case atStart=>exact⟨0,by omega,rfl,H.out⟩
 case round=>
  obtain⟨k,L,rfl,c⟩:=hrel;have a:Hid _:=c;clear H S Q M R;by_cases l:k<64
  ·generalize n:cT p s d k=v at c
   have D:Hid (cT p s d k=v):=n;clear n a;have a:Hid (jk p w g kb b.heap.size s v d wr):=c;obtain⟨m0,m1,m2,m3,m4,m5,m6,m7⟩:=fp c.h3;have mw:wr.cell? ⟨b.heap.size,k,none⟩=some (.int .u32 (eW (d.getD k 0))):=by rw[JE _ _ _ _ _ _ c.h2,iJ _ _ (by omega)]
   have mk:=c.plan.ks k l;have af:b.heap.size+1<wr.heap.size:=(go.1 c.h3).1;clear c;generalize T:d.getD k 0=x at mw;generalize X:p.K.getD k 0=y at mk;have J:Hid (d.getD k 0=x/\p.K.getD k 0=y):=⟨T,X⟩;clear T X;have ag:(k:Int)<80:=by omega
   have ah:(0:Int)<=(k:Int):=by omega
   go_wp2_with fail
   go_region_with (go_at_call 218;refine(CZ g v (y+x) wr.drew p a.out.plan.he a.out.plan.ha a.out.plan.c0 a.out.plan.c16 a.out.plan.c17 a.out.plan.c18 a.out.plan.c19 a.out.plan.c20 a.out.plan.c21).mono ?_;rintro e w2 ⟨rfl,h⟩;have B:w2.heap[b.heap.size+1]?=some (.cells (et v) 193 (0,0)):=(h.block _ af).trans a.out.h3;obtain⟨q0,q1,q2,q3,q4,q5,q6,q7⟩:=fp B;have qf:∀j,w2.frozen? ⟨b.heap.size+1,j,none⟩=false:=fun j=>KO _ _ j _ _ B;clear B)
   all_goals
    have N:jk p w g kb b.heap.size s (cT p s d (k+1)) d (kp w2 (b.heap.size+1) (round p v (y+x))):=by
     have:=a.out.step (w2:=w2) ⟨h.os,h.tape,h.output,h.size,h.block⟩ (round p v (y+x));rw[cT,D.out,J.out.1,J.out.2];exact this
    have G:Hid _:=N;clear N h;go_wp2_with fail
    go_roundw
    case rel=>first|exact⟨k+1,by omega,by go_num,G.out⟩|((repeat apply Exists.intro);exact⟨⟨k+1,by omega,by go_num,G.out⟩,rfl⟩)
    case measure=>simp[intOf];omega
  ·obtain rfl:k=64:=by omega
   clear l L;generalize n:cT p s d 64=v at c;have D:Hid (cT p s d 64=v):=n;clear n a;have a:Hid (jk p w g kb b.heap.size s v d wr):=c;clear c;go_wp2_with fail
   go_loopw [35] (fun i r=>∃k:Nat,k<=8/\i=.int .i64 k/\r.heap[w.heap.size]?=some (.cells (ic s v k) 193 (0,0))/\
    r.heap[w.heap.size+1]?=some (.cells (et ⟨0,0,0,0,0,0,0,0⟩) 193 (0,0))/\r.heap[b.heap.size+1]?=some (.cells (et v) 193 (0,0))/\Below w.heap.size w r) (fun i _=>8-(intOf i).toNat)
   case atStart=>exact⟨0,by omega,rfl,by rw[wm];exact a.out.h0,a.out.h1,a.out.h3,a.out.below⟩
   case round=>
    clear a;obtain⟨k,L,rfl,m,u,C,V⟩:=hrel;by_cases l:k<8
    ·have ai:wr.cell? ⟨w.heap.size,k,none⟩=some (.int .u32 (eW (fB s k))):=by rw[JE _ _ _ _ _ _ m,yX _ _ _ l]
     have al:wr.cell? ⟨b.heap.size+1,k,none⟩=some (.int .u32 (eW (fB v k))):=by rw[JE _ _ _ _ _ _ C,Cu _ _ l]
     have ak:wr.frozen? ⟨w.heap.size,k,none⟩=false:=KO _ _ _ _ _ m;have ab:Hid _:=m;have ac:Hid _:=u;have Z:Hid _:=C;clear m u C;have ag:(k:Int)<8:=by omega
     have ah:(0:Int)<=(k:Int):=by omega
     go_wp2_with fail
     go_region
     all_goals
      go_wp2_with fail
      go_roundw
      case rel=>
       refine⟨k+1,by omega,by go_num,?_,?_,?_,(V.setCell (JQ _) _).drew⟩
       ·rw[Lz,J5 _ _ _ _ _ _ ab.out,yn _ _ _ l]
       ·rw[Lz,JX _ _ _ _ (by show w.heap.size+1≠w.heap.size;omega)];exact ac.out
       ·rw[Lz,JX _ _ _ _ (by show b.heap.size+1≠w.heap.size;omega)];exact Z.out
      case measure=>simp[intOf];omega
    ·obtain rfl:k=8:=by omega
     rw[C7]at m;go_wp2_with (first|(refine Ls rfl 193 (.tmp 4) rfl w.heap.size rfl _ _ _ _ m M6 rfl (gf _) ?_)|(refine Kn rfl 193 (.tmp 6) (.tmp 47) rfl (w.heap.size+1) _ rfl rfl _ _ u (gf _) rfl (ph _) ?_))
     refine Ka (v:=.agg (et (jB s v))) (Lb rfl _ _ (w.heap.size+1) _ _ _ _ rfl (J7 _ _ _ _ _ _ u) M6 rfl (gf _)) rfl ⟨?_,KU V (KG _) _⟩;rw[gv,aa.out,q.hK,D.out]
end
end Go.Proofs.YtihboehpeehlmaaGreatDoor.Dg
