import Derived.Test.YtihboehpeehlmaaGreatDoorH6
set_option maxRecDepth 4000
set_option linter.unusedVariables false
set_option maxHeartbeats 1000000
namespace Go.Proofs.YtihboehpeehlmaaGreatDoor.Dg
open Tryz Go.RowKit
section
attribute [local go_sem] re yD q8 tV tH oN qE nK qB mn mh mz oS tG qk nY dq
def dK(s:St 64):Array Value:= #[.int .i64 (eS (s.a)),.int .i64 (eS (s.b)),.int .i64 (eS (s.c)),.int .i64 (eS (s.d)),.int .i64 (eS (s.e)),.int .i64 (eS (s.f)),.int .i64 (eS (s.g)),.int .i64 (eS (s.h))]
theorem ug{w:Wd}{g:Nat}{v:St 64}{t:TypeId}{a:Nat×Nat}(h:w.heap[g]?=some (.cells (dK v) t a)):w.cell? ⟨g,0,none⟩=some (.int .i64 (eS (v.a)))/\w.cell? ⟨g,1,none⟩=some (.int .i64 (eS (v.b)))/\w.cell? ⟨g,2,none⟩=some (.int .i64 (eS (v.c)))/\w.cell? ⟨g,3,none⟩=some (.int .i64 (eS (v.d)))/\w.cell? ⟨g,4,none⟩=some (.int .i64 (eS (v.e)))/\w.cell? ⟨g,5,none⟩=some (.int .i64 (eS (v.f)))/\w.cell? ⟨g,6,none⟩=some (.int .i64 (eS (v.g)))/\w.cell? ⟨g,7,none⟩=some (.int .i64 (eS (v.h))):=by
 refine⟨?_,?_,?_,?_,?_,?_,?_,?_⟩<;>(rw[JE _ _ _ _ _ _ h];rfl)
theorem iY.up{w w':Wd}{p:dN 64}{b B:Nat}(h:iY w p b)(c:Below B w w')(a:b<B):iY w' p b:=
 ⟨h.len,cm c a h.f1,cm c a h.f2,cm c a h.f3,cm c a h.n1,cm c a h.n2,cm c a h.n3,cm c a h.e1,cm c a h.e2,cm c a h.e3,cm c a h.a1,cm c a h.a2,cm c a h.a3,h.hf,h.hn,h.he,h.ha⟩
structure zJ (wx:Wd) (p:dN 64) (B0 b kb g g1 k:Nat) (v3:Va) (v:St 64) (y x:BitVec 64):Prop where
 c0:wx.cell? ⟨B0,0,none⟩=some (.int .i64 64)
 c1:wx.cell? ⟨B0,1,none⟩=some (.int .i64 80)
 c2:wx.cell? ⟨B0,2,none⟩=some (.slice (some ⟨b,0,none⟩) 12 12)
 c3:wx.cell? ⟨B0,3,none⟩=some v3
 c4:wx.cell? ⟨B0,4,none⟩=some (.slice (some ⟨kb,0,none⟩) 80 80)
 way:iY wx p b
 m0:wx.cell? ⟨g,0,none⟩=some (.int .i64 (eS (v.a)))
 m1:wx.cell? ⟨g,1,none⟩=some (.int .i64 (eS (v.b)))
 m2:wx.cell? ⟨g,2,none⟩=some (.int .i64 (eS (v.c)))
 m3:wx.cell? ⟨g,3,none⟩=some (.int .i64 (eS (v.d)))
 m4:wx.cell? ⟨g,4,none⟩=some (.int .i64 (eS (v.e)))
 m5:wx.cell? ⟨g,5,none⟩=some (.int .i64 (eS (v.f)))
 m6:wx.cell? ⟨g,6,none⟩=some (.int .i64 (eS (v.g)))
 m7:wx.cell? ⟨g,7,none⟩=some (.int .i64 (eS (v.h)))
 ky:wx.cell? ⟨kb,k,none⟩=some (.int .i64 (eS (y)))
 lx:wx.cell? ⟨g1,k,none⟩=some (.int .i64 (eS (x)))
theorem zJ.up{c d:Wd}{p:dN 64}{f b kb g e k:Nat}{v3:Va}{v:St 64}{y x:BitVec 64}(h:zJ c p f b kb g e k v3 v y x)(a:Below c.heap.size c d):zJ d p f b kb g e k v3 v y x:=
 ⟨cI a h.c0,cI a h.c1,cI a h.c2,cI a h.c3,cI a h.c4,h.way.up a (JL _ _ h.way.f1),cI a h.m0,cI a h.m1,cI a h.m2,cI a h.m3,cI a h.m4,cI a h.m5,cI a h.m6,cI a h.m7,cI a h.ky,cI a h.lx⟩
theorem wO{P:Program}{r:Array Oper}{x:List Oper}{o:Oper}{a:Act}{Q:Exit->Act->Wd->Prop}{w:Wd}(H:o.guard=none)(d s:Operand)(l n:TypeId)(M:o.op=.call {callee:=.builtin .copy,args:= #[d,s],argTypes:= #[l,n]})(e:TypeId)(E:P.underlying l=some (.slice e))(y:(P.info? e).map (·.size)=some 1)
 (g f:Nat) (t:TypeId) (c:Array Value) (b:St 64) (A:a.eval d=.slice (some ⟨g,0,none⟩) 8 8) (z:a.eval s=.slice (some ⟨f,0,none⟩) 8 8) (q:c.size=8)
 (C:w.heap[g]?=some (.cells c t (0,0))) (J:w.heap[f]?=some (.cells (dK b) t (0,0)))
 (h:∀v,wpList P r Q x (a.put o.dst v) (w.setRow g (dK b))):wpList P r Q (o::x) a w:=by
 refine LC H fun K N=>?_
 have B:=LK (P:=P) w 1 8 ⟨f,0,none⟩ 8 8 (dK b).toList rfl (fun j u G=>by
  have I:(⟨f,0,none⟩:Addr).add j=⟨f,j,none⟩:=by unfold Addr.add;split<;>simp_all
  rw[I,JE w f j _ _ _ J];simpa using G)
 have m:=run_storeCells_at P g 0 t (dK b).toList 0 c w C (by rw[q];simp[dK]) (by intro v p;simp[dK]at p;rcases p with rfl|rfl|rfl|rfl|rfl|rfl|rfl|rfl<;>rfl);have F:(List.take (0+0) c.toList++(dK b).toList++List.drop (0+0+(dK b).toList.length) c.toList).toArray=dK b:=by
  rw[J8 (by simp[dK,q])];simp
 rw[F]at m;have D:(Builtin.copy_ #[l,n] o.type #[.slice (some ⟨g,0,none⟩) 8 8,.slice (some ⟨f,0,none⟩) 8 8]).run P w=.ok (goInt 8) (w.setRow g (dK b)):=by
  cases k:P.info? e with
  | none=>simp[k]at y
  | some i=>
    have L:i.size=1:=by simpa [k]using y
    have O:Nat.min 8 8=8:=rfl;simp[Builtin.copy_,run_underlying E,Builtin.lenOf,sizeOf,typeInfo,k,L,O,B,m]
 unfold Oper.wp execOp;simp only[M,resolve,invoke,builtin,K6,Li,KP,Ln,JW,Ko,A,z,D];exact N _ _ (h _)
def gb(s v:St 64)(i:Nat):Array Value:=((List.range 8).map fun j=>if j<i then Value.int .i64 (eS (fy s j+fy v j))else Value.int .i64 0).toArray
theorem Cj(s v:St 64):gb s v 0= #[.int .i64 0,.int .i64 0,.int .i64 0,.int .i64 0,.int .i64 0,.int .i64 0,.int .i64 0,.int .i64 0]:=by simp[gb,List.range,List.range.loop]
theorem BH(s v:St 64):gb s v 8=dK (jB s v):=by simp[gb,dK,fy,jB,List.range,List.range.loop]
theorem vX(s v:St 64)(i:Nat)(h:i<8):(gb s v i)[i]?=some (.int .i64 0):=by simp[gb,h]
theorem wW(s v:St 64)(i:Nat)(h:i<8):(gb s v i).setIfInBounds i (.int .i64 (eS (fy s i+fy v i)))=gb s v (i+1):=by
 apply L7;intro j;by_cases c:j<8
 ·rw[Lq]
  by_cases a:i=j
  ·subst a;rw[if_pos rfl,if_pos (by simp[gb,h])];simp[gb,h]
  ·rw[if_neg a]
   simp only[gb,Kr,KM,Mw c,ME];by_cases b:j<i
   ·rw[if_pos b,if_pos (by omega)]
   ·rw[if_neg b,if_neg (by omega)]
 ·rw[Km (by simp[gb];omega),Km (by simp[gb];omega)]
theorem np(s:St 64)(i:Nat)(h:i<8):(dK s)[i]?=some (.int .i64 (eS (fy s i))):=by
 match i,h with
 | 0,_=>rfl
 | 1,_=>rfl
 | 2,_=>rfl
 | 3,_=>rfl
 | 4,_=>rfl
 | 5,_=>rfl
 | 6,_=>rfl
 | 7,_=>rfl
theorem AU(W:Wd):Sem.run prog (Instr.makeSlice 32 (.int .i64 8) (.int .i64 8)) W=.ok (.slice (some ⟨W.heap.size,0,none⟩) 8 8) (W.alloc (.cells #[.int .i64 0,.int .i64 0,.int .i64 0,.int .i64 0,.int .i64 0,.int .i64 0,.int .i64 0,.int .i64 0] 3)):=by kernel_rfl
set_option maxRecDepth 100000 in
set_option maxHeartbeats 1000000 in
theorem xk(b kb n:Nat)(c:St 64)(s:dv)(w:Wd)(p:dN 64)(hs:s.size=128)(U:iY w p b)(hK:∀i,i<80->w.cell? ⟨kb,i,none⟩=some (.int .i64 (eS (p.K.getD i 0))))(hh:w.heap[n]?=some (.cells (dK c) 3 (0,0)))(v3:Va):Calls prog 119 #[.agg #[.int .i64 64,.int .i64 80,.slice (some ⟨b,0,none⟩) 12 12,v3,.slice (some ⟨kb,0,none⟩) 80 80],.slice (some ⟨n,0,none⟩) 8 8,.string s] w fun e d=>∃g,e=.returned (.slice (some ⟨g,0,none⟩) 8 8)/\d.heap[g]?=some (.cells (dK (gv p 8 c s.data.toList)) 3 (0,0))/\w.heap.size<=g/\Below w.heap.size w d:=by
 have av:=JL w _ U.f1;have aB:=JL w _ (hK 0 (by omega));have ay:=(go.1 hh).1;have aO:Hid ((prog.info? 3).map (·.size)=some 1):=by show(prog.info? 3).map (·.size)=some 1;kernel_rfl
 have aY:=AU;go_enter func119,ntmps119;go_wp2_with fail
 refine(AJ b s _ p hs (U.up (cK (cF w) _) av) v3 _).mono ?_;rintro e1 a ⟨I,aQ,rfl,E,aa⟩;have aW:=(E.lt I rfl).2;have aX:w.heap.size+1<=I:=by have:=(E.lt I rfl).1;simpa using this
 have N:=(cK (cF w) _).trans (aa.mono (by simp));have aT:=aa.size;generalize az:iN p 8 s.data.toList=l at E;have aC:Hid _:=az;have aH:l.length=80:=by have:=E.1;simpa using this
 have sc:∀i,i<80->a.cell? ⟨I,i,none⟩=some (.int .i64 (eS (l.getD i 0))):=fun i hi=>by
  rw[E.cellAt i (by omega),KM,JF (by omega)];simp[j9,List.getD,List.getElem?_eq_getElem (show i<l.length by omega)]
 have G:∀o v,(w.alloc (.cells #[.int .i64 64,.int .i64 80,.slice (some ⟨b,0,none⟩) 12 12,v3,.slice (some ⟨kb,0,none⟩) 80 80] 166)).cell? ⟨w.heap.size,o,none⟩=some v->a.cell? ⟨w.heap.size,o,none⟩=some v:=fun o v h=>cm aa (by simp) h
 have a0:=G 0 _ (by simp;rfl);have a1:=G 1 _ (by simp;rfl);have a2:=G 2 _ (by simp;rfl);have a3:=G 3 _ (by simp;rfl);have a4:=G 4 _ (by simp;rfl);have H:Hid (a.cell? ⟨w.heap.size,0,none⟩=some (.int .i64 64)/\a.cell? ⟨w.heap.size,1,none⟩=some (.int .i64 80)/\a.cell? ⟨w.heap.size,2,none⟩=some (.slice (some ⟨b,0,none⟩) 12 12)/\a.cell? ⟨w.heap.size,3,none⟩=some v3/\a.cell? ⟨w.heap.size,4,none⟩=some (.slice (some ⟨kb,0,none⟩) 80 80)):=⟨a0,a1,a2,a3,a4⟩;have ah:a.heap[n]?=some (.cells (dK c) 3 (0,0)):=by rw[N.block _ ay];exact hh
 have aJ:Hid (∀o,(a.alloc o).heap[n]?=some (.cells (dK c) 3 (0,0))):=fun o=>by rw[JO _ _ (go.1 ah).1];exact ah
 have SC:Hid _:=sc;have Y:Hid _:=N;have aF:Hid (∀i,i<80->a.cell? ⟨kb,i,none⟩=some (.int .i64 (eS (p.K.getD i 0)))):=fun i hi=>cm N aB (hK i hi)
 have an:Hid (iY a p b):=U.up N av;clear az E aa G a0 a1 a2 a3 a4 sc N hK aH ah;go_wp2_with (refine wO rfl _ _ 32 32 rfl 3 KT aO.out a.heap.size n 3 _ c rfl rfl rfl (JK _ _) (aJ.out _) ?_;intro vc;rw[World.setRow_alloc_new])
 go_loopw [8,9] (fun v i wr=>∃(k g:Nat),k<=80/\i=.int .i64 k/\v=.slice (some ⟨g,0,none⟩) 8 8/\wr.heap[g]?=some (.cells (dK (cT p c l k)) 3 (0,0))/\a.heap.size<=g/\Below a.heap.size a wr) (fun _ i _=>80-(intOf i).toNat)
 case atStart=>exact⟨0,a.heap.size,by omega,rfl,rfl,JK _ _,JQ _,cK (cF _) _⟩
 case round=>
  obtain⟨k,g,hk,rfl,rfl,F,aV,f⟩:=hrel;have aw:wr.cell? ⟨w.heap.size,1,none⟩=some (.int .i64 80):=cI f H.out.2.1;by_cases ae:k<80
  ·generalize J:cT p c l k=v at F
   have HV:Hid (cT p c l k=v):=J;clear J;generalize hy:p.K.getD k 0=y;generalize hx:l.getD k 0=x;have ao:Hid (p.K.getD k 0=y/\l.getD k 0=x):=⟨hy,hx⟩;obtain⟨m0,Q,M,m3,m4,L,O,Z⟩:=ug F;have B:zJ wr p w.heap.size b kb g I k v3 v y x:=⟨cI f H.out.1,aw,cI f H.out.2.2.1,cI f H.out.2.2.2.1,cI f H.out.2.2.2.2,an.out.up f (JL _ _ an.out.f1),m0,Q,M,m3,m4,L,O,Z,by have:=cI f (aF.out k ae);rw[hy]at this;exact this,by have:=cI f (SC.out k ae);rw[hx]at this;exact this⟩;have u:Hid _:=f;have C:=B.c0;have c2:=B.c2;have c3:=B.c3;have K:=B.c4;clear hy hx F f Q M m3 L O Z;have aD:(k:Int)<80:=by omega
   have aM:(0:Int)<=(k:Int):=by omega
   have hd:decide ((k:Int)<80)=true:=by simp;omega
   go_wp2_with fail
   refine(DL v.e b wr p B.way v3 _).mono ?_;rintro e2 X ⟨rfl,k2,ai⟩;have ag:Below wr.heap.size wr X:=by rw[ai];exact em (cK (cF _) _) _
   have t:=B.up ag;have aK:Hid _:=ag;clear ai ag C aw c2 c3 K m0 m4 B;have C:=t.c0;have c1:=t.c1;have c2:=t.c2;have c3:=t.c3;have K:=t.c4;go_wp2_with fail
   refine(DM v.a b X p t.way v3 _).mono ?_;rintro e3 T ⟨rfl,k3,aq⟩;have ab:Below X.heap.size X T:=by rw[aq];exact em (cK (cF _) _) _
   have r:=t.up ab;have aN:Hid _:=ab;clear aq ab C c1 c2 c3 K t;have C:=r.c0;have K:=r.c4;have L:=r.m5;have O:=r.m6;have Z:=r.m7;have ky:=r.ky;have lx:=r.lx;have aR:IntKind.i64.signed=true:=rfl;go_wp2_with fail
   go_quiet ((go_at_call 150;exact J2 (lM (~~~(v.e)) _)));go_wp2_with fail
   generalize ap:T.drewN nq=R;have af:Below T.heap.size T R:=by rw[<-ap];exact em (cF _) _
   have W:=r.up af;have aP:Hid _:=af;clear ap af C K L O Z ky lx r;have Q:=W.m1;have M:=W.m2;go_quiet (fail);go_wp2_with fail
   generalize am:R.drewN nq=w5;have ac:Below R.heap.size R w5:=by rw[<-am];exact em (cF _) _
   have D:=W.up ac;have aE:Hid _:=ac;clear am ac Q M W;have C:=D.c0;have Q:=D.m1;have M:=D.m2;have m3:=D.m3;have L:=D.m5;have O:=D.m6;clear D;go_region_held3 (fun d=>d.cell? ⟨w.heap.size,0,none⟩=some (.int .i64 64)/\d.cell? ⟨g,1,none⟩=some (.int .i64 (eS (v.b)))/\d.cell? ⟨g,2,none⟩=some (.int .i64 (eS (v.c)))/\d.cell? ⟨g,3,none⟩=some (.int .i64 (eS (v.d)))/\d.cell? ⟨g,5,none⟩=some (.int .i64 (eS (v.f)))/\d.cell? ⟨g,6,none⟩=some (.int .i64 (eS (v.g)))) (go_keep) (first|(go_at_call 150;refine(lM _ _).mono ?_;rintro e6 w6 ⟨rfl,P⟩;rw[P];clear P w6))
   all_goals
    have ak:Below a.heap.size a w5:=by
     have m:=u.out.trans (aK.out.mono u.out.size);have S:=m.trans (aN.out.mono m.size);have t3:=S.trans (aP.out.mono S.size);exact t3.trans (aE.out.mono t3.size)
    have aA:dK (cT p c l (k+1))= #[.int .i64 (eS (v.h+lu v.e p.e1 p.e2 p.e3+(v.e&&&v.f^^^ ~~~v.e&&&v.g)+y+x+(lu v.a p.a1 p.a2 p.a3+(v.a&&&v.b^^^v.a&&&v.c^^^v.b&&&v.c)))),.int .i64 (eS (v.a)),.int .i64 (eS (v.b)),.int .i64 (eS (v.c)),.int .i64 (eS (v.d+(v.h+lu v.e p.e1 p.e2 p.e3+(v.e&&&v.f^^^ ~~~v.e&&&v.g)+y+x))),.int .i64 (eS (v.e)),.int .i64 (eS (v.f)),.int .i64 (eS (v.g))]:=by
     rw[cT,HV.out,ao.out.1,ao.out.2];unfold dK round Ax you;rw[BitVec.add_assoc _ y x]
    have au:Hid _:=ak;have aL:Hid _:=aA;clear ak aA;go_wp2_with fail
    refine⟨⟨k+1,w5.heap.size,by omega,by go_num,rfl,?_,au.out.size,(cK au.out _).drew⟩,?_⟩
    ·rw[Lz,JK,aL.out]
    ·simp[intOf];omega
  ·obtain rfl:k=80:=by omega
   clear ae hk;generalize J:cT p c l 80=v at F;have HV:Hid (cT p c l 80=v):=J;have HG:Hid _:=F;have u:Hid _:=f;clear J F f;have aG:g<wr.heap.size:=(go.1 HG.out).1;have aS:=u.out.size;obtain⟨q,aI⟩:∃x,x=wr:=⟨wr,rfl⟩;subst aI;go_wp2_with fail
   go_loopw [17] (fun i wx=>∃j:Nat,j<=8/\i=.int .i64 j/\wx.heap[q.heap.size]?=some (.cells (gb c v j) 3 (0,0))/\Below q.heap.size q wx) (fun i _=>8-(intOf i).toNat)
   case atStart=>exact⟨0,by omega,rfl,by rw[Cj,JK],cK (cF _) _⟩
   case round=>
    obtain⟨j,hj,rfl,z,A⟩:=hrel;by_cases V:j<8
    ·have aU:w.heap.size<a.heap.size:=by omega
     have m:Below w.heap.size w q:=Y.out.trans (u.out.mono Y.out.size);have ar:wr.heap[n]?=some (.cells (dK c) 3 (0,0)):=by rw[A.block _ (by have:=m.size;omega),m.block _ ay];exact hh
     have aj:wr.heap[g]?=some (.cells (dK v) 3 (0,0)):=by rw[A.block _ aG];exact HG.out
     have C:wr.cell? ⟨w.heap.size,0,none⟩=some (.int .i64 64):=cI A (cI u.out H.out.1);have ch:wr.cell? ⟨n,j,none⟩=some (.int .i64 (eS (fy c j))):=by rw[JE _ _ _ _ _ _ ar,np _ _ V]
     have cv:wr.cell? ⟨g,j,none⟩=some (.int .i64 (eS (fy v j))):=by rw[JE _ _ _ _ _ _ aj,np _ _ V]
     have co:wr.cell? ⟨q.heap.size,j,none⟩=some (.int .i64 0):=by rw[JE _ _ _ _ _ _ z,vX _ _ _ V]
     have cf:wr.frozen? ⟨q.heap.size,j,none⟩=false:=KO _ _ _ _ _ z;have n1:q.heap.size≠n:=by have:=m.size;omega
     have n2:q.heap.size≠g:=by omega
     have n3:q.heap.size≠w.heap.size:=by omega
     have HO:Hid _:=z;have ad:Hid _:=A;clear z A ar aj m;generalize al:fy c j=q1 at ch;generalize ax:fy v j=q2 at cv;have HQ:Hid (fy c j=q1/\fy v j=q2):=⟨al,ax⟩;clear al ax;have aD:(j:Int)<8:=by omega
     have aM:(0:Int)<=(j:Int):=by omega
     go_wp2_with fail
     go_region_held3 (fun d=>d.cell? ⟨w.heap.size,0,none⟩=some (.int .i64 64)/\d.cell? ⟨n,j,none⟩=some (.int .i64 (eS (q1)))/\d.cell? ⟨g,j,none⟩=some (.int .i64 (eS (q2)))) (go_keep) (first|(go_at_call 150;refine(lM _ _).mono ?_;rintro e6 w6 ⟨rfl,P⟩;rw[P];clear P w6))
     all_goals
      go_wp2_with fail
      refine⟨?_,by simp[intOf];omega⟩;repeat apply Exists.intro
      refine⟨?_,rfl⟩;refine⟨j+1,by omega,by go_num,?_,(ad.out.setCell (JQ _) _).drew⟩;rw[Lz,J5 _ _ _ _ _ _ HO.out,<-wW _ _ _ V,HQ.out.1,HQ.out.2]
    ·obtain rfl:j=8:=by omega
     rw[BH]at z;have HO:Hid _:=z;have ad:Hid _:=A;clear z A;go_wp2_with fail
     go_ret;have m:=Y.out.trans (u.out.mono Y.out.size);have S:=m.trans (ad.out.mono m.size);refine⟨_,rfl,?_,m.size,S⟩;rw[gv,aC.out,U.len,HV.out];exact HO.out
end
section
attribute [local go_sem] fD kU ra rs oU o0 qK dq
theorem oz(a:Nat)(w:Wd)(c:w.cell? ⟨a,0,none⟩=some (.int .i64 4)):Calls prog 171 #[.pointer (some ⟨a,0,none⟩)] w fun e b=>e=.returned (.int .i64 64)/\b=w:=by
 go_enter func171,ntmps171;go_wp2;go_ret;exact⟨rfl,rfl⟩
theorem Ce(a kb:Nat)(s:St 32)(t:dv)(w:Wd)(p:dN 32)(g:t.size=64)(f:ff p w a kb):Calls prog 200 #[.pointer (some ⟨a,0,none⟩),.agg #[.int .u32 (eW s.a),.int .u32 (eW s.b),.int .u32 (eW s.c),.int .u32 (eW s.d),.int .u32 (eW s.e),.int .u32 (eW s.f),.int .u32 (eW s.g),.int .u32 (eW s.h)],.string t] w fun e b=>(∃u:St 32,u=gv p 4 s t.data.toList/\e=.returned (.agg #[.int .u32 (eW u.a),.int .u32 (eW u.b),.int .u32 (eW u.c),.int .u32 (eW u.d),.int .u32 (eW u.e),.int .u32 (eW u.f),.int .u32 (eW u.g),.int .u32 (eW u.h)]))/\Below w.heap.size w b:=
 (CM a kb s t w p g f).mono fun e b ⟨d,c⟩=>⟨⟨_,rfl,d⟩,c⟩
structure kM (p:dN 32) (w:Wd) (bp kb:Nat) (v:St 32) (wr:Wd):Prop where
 plan0:ff p w bp kb
 h0:wr.heap[w.heap.size]?=some (.cells (et v) 193 (0,0))
 h1:wr.heap[w.heap.size+1]?=some (.cells (et ⟨0,0,0,0,0,0,0,0⟩) 193 (0,0))
 below:Below w.heap.size w wr
theorem kM.plan{p:dN 32}{w wr:Wd}{a kb:Nat}{v:St 32}(h:kM p w a kb v wr):ff p wr a kb:=h.plan0.up h.below h.plan0.lt h.plan0.ltk
theorem kM.step{p:dN 32}{w wr w2:Wd}{c kb:Nat}{v:St 32}(h:kM p w c kb v wr)(b:Below wr.heap.size wr w2)(a:St 32):kM p w c kb a (kp w2 w.heap.size a):=by
 have d:=(go.1 h.h0).1;have e:=(go.1 h.h1).1;refine⟨h.plan0,kf a (by rw[b.block _ d];exact h.h0),?_,h.below.trans (jv a (b.mono (by omega)) (JQ _))⟩;rw[js _ (by omega),b.block _ e,h.h1]
theorem Ct(c kb:Nat)(s:St 32)(t:dv)(m:Nat)(w:Wd)(p:dN 32)(D:t.size=m*64)(hm:t.size<=4611686018427387904)(f:ff p w c kb):Calls prog 172 #[.pointer (some ⟨c,0,none⟩),.agg #[.int .u32 (eW s.a),.int .u32 (eW s.b),.int .u32 (eW s.c),.int .u32 (eW s.d),.int .u32 (eW s.e),.int .u32 (eW s.f),.int .u32 (eW s.g),.int .u32 (eW s.h)],.string t] w fun e E=>e=.returned (.agg (et (cA p 4 64 s t.data.toList m)))/\Below w.heap.size w E:=by
 have L:=f.ltk;have q:Hid _:=D;have J:=f.c0;go_enter func172,ntmps172;go_wp2_with (go_at_call 171;refine(oz c _ (lT J _ _)).mono ?_;rintro P w1 ⟨rfl,rfl⟩)
 go_loopw [8] (fun i wr=>∃k:Nat,k<=m/\i=.int .i64 ((k*64:Nat):Int)/\kM p w c kb (cA p 4 64 s t.data.toList k) wr) (fun i _=>t.size-(intOf i).toNat)
 case atStart=>
  refine⟨0,by omega,rfl,f,?_,?_,cK (cK (cF _) _) _⟩
  ·rw[K2];rfl
  ·rw[K1];rfl
 case round=>
  obtain⟨k,hk,rfl,d⟩:=hrel;generalize x:cA p 4 64 s t.data.toList k=v at d;have r:Hid _:=x;have b:Hid _:=d;by_cases G:k<m
  ·have F:k*64+64<=t.size:=by have:=q.out;have:(k+1)*64<=m*64:=Ll _ G;omega
   obtain⟨m0,V,m2,m3,X,W,R,Y⟩:=fp d.h0;have B:=(go.1 d.h0).1;generalize H:k*64=n at F;have h:Hid _:=H;have aa:=fi ((n:Int)+64) (by omega)
   go_wp2
   go_region_with (go_at_call 200;refine(Ce c kb v (t.extract n (n+64)) wr.drew p (by simp;omega) (b.out.plan.up (JI wr.heap.size wr).drew b.out.plan.lt b.out.plan.ltk)).mono ?_;rintro e w2 ⟨⟨u,l,rfl⟩,a⟩;have A:Hid _:=l;clear l;have g:=(a.block _ B).trans b.out.h0;obtain⟨T,M,q2,Z,q4,q5,O,q7⟩:=fp g;have qf:=fun j=>KO _ _ j _ _ g;clear g)
   all_goals
    have I:kM p w c kb (cA p 4 64 s t.data.toList (k+1)) (kp w2 w.heap.size u):=by
     have:=b.out.step (w2:=w2) ⟨a.os,a.tape,a.output,a.size,a.block⟩ u;rw[cA,r.out,h.out];rw[A.out,dd,show n+64-n=64 from by omega]at this ⊢;exact this
    have C:Hid _:=I;go_wp2
    have z:(n:Int)+64=(((k+1)*64:Nat):Int):=by have:=h.out;omega
    have K:Hid _:=z;refine⟨⟨k+1,by omega,by rw[K.out],C.out⟩,?_⟩;simp[intOf];omega
  ·obtain rfl:k=m:=by omega
   have y:=d.h0;have o:=d.h1;go_wp2_with (first|(refine Ls rfl 193 (.tmp 4) rfl w.heap.size rfl _ _ _ _ y M6 rfl (gf _) ?_)|(refine Kn rfl 193 (.tmp 6) (.tmp 27) rfl (w.heap.size+1) _ rfl rfl _ _ o (gf _) rfl (ph _) ?_))
   refine Ka (v:=.agg (et v)) (Lb rfl _ _ (w.heap.size+1) _ _ _ _ rfl (J7 _ _ _ _ _ _ o) M6 rfl (gf _)) rfl ⟨?_,KU b.out.below (KG _) _⟩;rw[r.out]
end
section
attribute [local go_sem] fD jX dq lE mo
theorem mt:(prog.info? 5).map (fun i=>(i.zero,i.size,i.bytes))=some (some (.int .u8 0),1,1):=by kernel_rfl
theorem BA(m:Nat)(r:dv)(c:Nat)(w:Wd)(hr:r.size<64)(ac:c<=140737488355328)(c0:w.cell? ⟨m,0,none⟩=some (.int .i64 4)):Calls prog 173 #[.pointer (some ⟨m,0,none⟩),.string r,.int .i64 (c:Int)] w fun e T=>e=.returned (.string ⟨(dw 64 8 r.data.toList c).toArray⟩)/\Below w.heap.size w T:=by
 have aa:=JL w _ c0;obtain⟨o,O,q,A,x⟩:=Kf mt;have u:Hid _:=O;obtain⟨X,hX,S⟩:∃X:BitVec 64,(c:Int)*8=eW X/\BitVec.ofNat 64 (c*8)=X:=⟨_,ww c ac,rfl⟩;have W:Hid _:=S;go_enter func173,ntmps173;go_wp2_with (first|(refine tW rfl _ 9 115 rfl 5 Kl JU KY w.heap.size r rfl (JQ _) (by unfold maxLen;omega) ?_;intro v1 w1 C J;have M:=C;clear C)|(refine gV rfl (.tmp 17) (.tmp 18) 115 rfl 5 o JU u.out q A x w.heap.size _ r.data.toList 128 w1 rfl M J.size (by simp;omega) rfl ?_;intro v2 w2 F Q;have ae:=F;clear F M))
 have ad:=J.trans Q;have ab:Hid _:=ad;go_loopw [8] (fun v wr=>∃k:Nat,k<=dz 64 8 r.size/\OwnB w.heap.size 5 v (r.data.toList++[128]++List.replicate k 0) wr/\Below w.heap.size w wr) (fun v _=>r.size+1+dz 64 8 r.size-slen v)
 case atStart=>exact⟨0,by omega,by simpa using ae,ab.out⟩
 case round=>
  obtain⟨k,hk,b,a⟩:=hrel;have j:(r.data.toList++[128]++List.replicate k 0).length=r.size+1+k:=by simp;omega
  obtain⟨g,al,D⟩:=b.shape (by simp);rw[j]at D;subst D;have l:=b;have ak:dz 64 8 r.size<64:=LB _ (by omega);have I:=cm a aa c0;generalize y:r.size+1+k=n at b l;have Y:Hid _:=y
  by_cases U:k<dz 64 8 r.size
  ·have B:=kO 64 8 r.size k (by omega) (by omega) (by omega) U
   rw[y]at B;have hq:((n:Int)%64 != 56)=true:=by rw[bne_iff_ne];omega
   go_wp2
   go_quiet ((go_at_call 171;exact J2 (oz m _ I)));have p:=a.size;go_wp2_with (refine gV rfl (.tmp 30) (.tmp 31) 115 rfl 5 o JU u.out q A x w.heap.size _ (r.data.toList++[128]++List.replicate k 0) 0 (wr.drewN nq) rfl l p (by simp;omega) rfl ?_;intro G H h s;have f:=h;clear h)
   have z:=(em a nq).trans s;have N:r.data.toList++[128]++List.replicate k 0++[0]=r.data.toList++[128]++List.replicate (k+1) 0:=by simp[List.replicate_succ']
   have K:=f.slen;rw[N]at f K;go_roundw
   case rel=>exact⟨k+1,by omega,f,z⟩
   case measure=>
    rw[K];simp[slen];have:=Y.out;omega
  ·obtain rfl:k=dz 64 8 r.size:=by omega
   have B:=iP 64 8 r.size (by omega) (by omega) (by omega);rw[y]at B;have hq:((n:Int)%64 != 56)=false:=by rw[bne_eq_false_iff_eq];omega
   go_wp2
   go_quiet ((go_at_call 171;exact J2 (oz m _ I)));go_wp2
   go_loopw [8,10] (fun v i E=>∃k:Nat,k<=8/\i=.int .i64 ((7:Int)-k)/\OwnB w.heap.size 5 v (r.data.toList++[128]++List.replicate (dz 64 8 r.size) 0++dA 8 X k) E/\Below w.heap.size w E) (fun _ i _=>(intOf i+1).toNat)
   case atStart=>exact⟨0,by omega,rfl,by rw[dA,KB];exact l,em a nq⟩
   case round=>
    obtain⟨k,hk,rfl,b,a⟩:=hrel;by_cases ah:k<8
    ·have l:=b
     have p:=a.size;have j:(r.data.toList++[128]++List.replicate (dz 64 8 r.size) 0++dA 8 X k).length+1<=140737488355328:=by simp[dm];omega
     go_wp2_with (refine gV rfl (.tmp 42) (.tmp 48) 115 rfl 5 o JU u.out q A x w.heap.size _ (r.data.toList++[128]++List.replicate (dz 64 8 r.size) 0++dA 8 X k) (fE (X>>>(8*(7-k)))) wr rfl l p j rfl ?_;intro G H h s;have f:=h;clear h)
     have z:=a.trans s;have Z:OwnB w.heap.size 5 G (r.data.toList++[128]++List.replicate (dz 64 8 r.size) 0++dA 8 X (k+1)) H:=by rw[dA,<-J1];exact f
     go_wp2
     go_roundw
     case rel=>exact⟨k+1,by omega,by go_num,Z,z⟩
     case measure=>simp[intOf];omega
    ·obtain rfl:k=8:=by omega
     have V:=b.str (P:=prog) (t:=115) (d:=9) JU KY Kl;generalize j:r.data.toList++[128]++List.replicate (dz 64 8 r.size) 0++dA 8 X 8=L at b V;have R:Hid _:=j;go_wp2;go_ret;refine⟨?_,a⟩;rw[<-R.out,dw,W.out];simp
end
section
attribute [local go_sem] fD jX dq lE mo
theorem Dt(s:St 32)(w:Wd):∀k:Nat,k<8->Sem.run prog (Instr.index 193 (.agg #[.int .u32 (eW s.a),.int .u32 (eW s.b),.int .u32 (eW s.c),.int .u32 (eW s.d),.int .u32 (eW s.e),.int .u32 (eW s.f),.int .u32 (eW s.g),.int .u32 (eW s.h)]) (.int .i64 (k:Int))) w=.ok (.int .u32 (eW (fB s k))) w
 | 0,_=>by kernel_rfl
 | 1,_=>by kernel_rfl
 | 2,_=>by kernel_rfl
 | 3,_=>by kernel_rfl
 | 4,_=>by kernel_rfl
 | 5,_=>by kernel_rfl
 | 6,_=>by kernel_rfl
 | 7,_=>by kernel_rfl
 | (k+8),h=>by omega
def dg(s:St 32):Nat->dj
 | 0=>[]
 | k+1=>dg s k++dA 4 (fB s k) 4
theorem fs(s:St 32)(k:Nat):(dg s k).length=k*4:=by
 induction k with
 | zero=>rfl
 | succ k ih=>simp[dg,ih,dm];omega
theorem Dz(j:Nat)(s:St 32)(w:Wd)(c0:w.cell? ⟨j,0,none⟩=some (.int .i64 4)):Calls prog 174 #[.pointer (some ⟨j,0,none⟩),.agg #[.int .u32 (eW s.a),.int .u32 (eW s.b),.int .u32 (eW s.c),.int .u32 (eW s.d),.int .u32 (eW s.e),.int .u32 (eW s.f),.int .u32 (eW s.g),.int .u32 (eW s.h)]] w fun e C=>e=.returned (.string ⟨(dg s 8).toArray⟩)/\Below w.heap.size w C:=by
 have K:=JL w _ c0;obtain⟨o,p,z,M,J⟩:=Kf mt;have B:Hid _:=p;go_enter func174,ntmps174;go_wp2
 go_loopw [5,10] (fun v i wr=>∃k:Nat,k<=8/\i=.int .i64 k/\OwnB w.heap.size 5 v (dg s k) wr/\Below w.heap.size w wr) (fun _ i _=>8-(intOf i).toNat)
 case atStart=>exact⟨0,by omega,rfl,.inl ⟨rfl,rfl⟩,cK (cF _) _⟩
 case round=>
  obtain⟨k,V,rfl,b,a⟩:=hrel;by_cases E:k<8
  ·have H:=fun w=>Dt s w k E
   have T:=cm a K c0;have g:=b;have U:decide ((k:Int)<8)=true:=by simp;omega
   generalize F:fB s k=x at H;have I:Hid _:=F;go_wp2
   go_loopw [5,8] (fun v i h=>∃m:Nat,m<=4/\i=.int .i64 ((3:Int)-m)/\OwnB w.heap.size 5 v (dg s k++dA 4 x m) h/\Below w.heap.size w h) (fun _ i _=>(intOf i+1).toNat)
   case atStart=>exact⟨0,by omega,rfl,by rw[dA,KB];exact g,a⟩
   case round=>
    obtain⟨m,W,rfl,b,a⟩:=hrel;by_cases O:m<4
    ·have g:=b
     have f:(dg s k++dA 4 x m).length+1<=140737488355328:=by simp[dm,fs];omega
     have q:=a.size;go_wp2_with (refine gV rfl (.tmp 22) (.tmp 28) 115 rfl 5 o JU B.out z M J w.heap.size _ (dg s k++dA 4 x m) (fE (x>>>(8*(3-m)))) wr rfl g q f rfl ?_;intro u D n A;have r:=n;clear n)
     have l:=a.trans A;have c:OwnB w.heap.size 5 u (dg s k++dA 4 x (m+1)) D:=by rw[dA,<-J1];exact r
     go_wp2
     go_roundw
     case rel=>first|exact⟨m+1,by omega,by go_num,c,l⟩|((repeat apply Exists.intro);exact⟨⟨m+1,by omega,by go_num,c,l⟩,rfl⟩)
     case measure=>simp[intOf];omega
    ·obtain rfl:m=4:=by omega
     rw[show dg s k++dA 4 x 4=dg s (k+1)from by rw[dg,I.out]]at b;have c:=b;go_wp2
     go_roundw
     case rel=>first|exact⟨k+1,by omega,by go_num,c,a⟩|((repeat apply Exists.intro);exact⟨⟨k+1,by omega,by go_num,c,a⟩,rfl⟩)
     case measure=>simp[intOf];omega
  ·obtain rfl:k=8:=by omega
   have G:=b.str (P:=prog) (t:=115) (d:=9) JU KY Kl;generalize f:dg s 8=L at b G;have y:Hid _:=f;go_wp2;go_ret;refine⟨?_,a⟩;rw[y.out];rfl
end
section
attribute [local go_sem] dq
def lg(p:dN 32)(s0:St 32)(l:dj):St 32:=
 let m:=l.length/64
 let t:=dw 64 8 (l.drop (m*64)) l.length
 cA p 4 64 (cA p 4 64 s0 (l.take (m*64)) m) t (t.length/64)
theorem l6(r:dj)(a:Nat):(dw 64 8 r a).length=(dw 64 8 r a).length/64*64:=by
 have h:=iP 64 8 r.length (by omega) (by omega) (by omega);have e:(dw 64 8 r a).length=r.length+1+dz 64 8 r.length+8:=by simp[dw,dm];omega
 rw[e];omega
theorem yI(r:dj)(a:Nat)(b:r.length<64):(dw 64 8 r a).length<=4611686018427387904:=by
 have e:(dw 64 8 r a).length=r.length+1+dz 64 8 r.length+8:=by simp[dw,dm];omega
 have c:dz 64 8 r.length<64:=LB _ (by omega);omega
theorem qC(a kb:Nat)(s:St 32)(t:dv)(m:Nat)(w:Wd)(p:dN 32)(h:t.size=m*64)(d:t.size<=4611686018427387904)(g:ff p w a kb):Calls prog 172 #[.pointer (some ⟨a,0,none⟩),.agg #[.int .u32 (eW s.a),.int .u32 (eW s.b),.int .u32 (eW s.c),.int .u32 (eW s.d),.int .u32 (eW s.e),.int .u32 (eW s.f),.int .u32 (eW s.g),.int .u32 (eW s.h)],.string t] w fun e b=>(∃u:St 32,u=cA p 4 64 s t.data.toList m/\e=.returned (.agg #[.int .u32 (eW u.a),.int .u32 (eW u.b),.int .u32 (eW u.c),.int .u32 (eW u.d),.int .u32 (eW u.e),.int .u32 (eW u.f),.int .u32 (eW u.g),.int .u32 (eW u.h)]))/\Below w.heap.size w b:=
 (Ct a kb s t m w p h d g).mono fun e b ⟨f,c⟩=>⟨⟨_,rfl,f⟩,c⟩
theorem yS(b:Nat)(r:dv)(a:Nat)(w:Wd)(c:r.size<64)(h:a<=140737488355328)(c0:w.cell? ⟨b,0,none⟩=some (.int .i64 4)):Calls prog 173 #[.pointer (some ⟨b,0,none⟩),.string r,.int .i64 (a:Int)] w fun e d=>(∃T:dv,T.data.toList=dw 64 8 r.data.toList a/\T.size=T.size/64*64/\T.size<=4611686018427387904/\e=.returned (.string T))/\Below w.heap.size w d:=
 (BA b r a w c h c0).mono fun e d ⟨g,f⟩=>⟨⟨⟨(dw 64 8 r.data.toList a).toArray⟩,rfl,l6 r.data.toList a,yI r.data.toList a (by simpa using c),g⟩,f⟩
theorem Is(a kb:Nat)(b:St 32)(d:dv)(w:Wd)(p:dN 32)(hd:d.size<=140737488355328)(r:ff p w a kb)(b1:w.cell? ⟨a,1,none⟩=some (.int .u32 (eW b.a)))(b2:w.cell? ⟨a,2,none⟩=some (.int .u32 (eW b.b)))(b3:w.cell? ⟨a,3,none⟩=some (.int .u32 (eW b.c)))(b4:w.cell? ⟨a,4,none⟩=some (.int .u32 (eW b.d)))(b5:w.cell? ⟨a,5,none⟩=some (.int .u32 (eW b.e)))(b6:w.cell? ⟨a,6,none⟩=some (.int .u32 (eW b.f)))(b7:w.cell? ⟨a,7,none⟩=some (.int .u32 (eW b.g)))(b8:w.cell? ⟨a,8,none⟩=some (.int .u32 (eW b.h))):Calls prog 138 #[.pointer (some ⟨a,0,none⟩),.string d] w fun e w'=>e=.returned (.string ⟨(dg (lg p b d.data.toList) 8).toArray⟩)/\Below w.heap.size w w':=by
 have K:=r.lt;have M:=r.ltk;have W:=r.c0;obtain⟨m,hm⟩:∃m,d.size/64=m:=⟨_,rfl⟩;obtain⟨q,V⟩:∃q,m*64=q:=⟨_,rfl⟩;have al:(d.size:Int)-(d.size:Int)%64=(q:Int):=by omega
 have X:Hid (d.size/64=m/\m*64=q):=⟨hm,V⟩;clear hm V;go_enter func138,ntmps138;go_wp2_with (go_at_call 171;refine(oz a _ W).mono ?_;rintro C w1 ⟨rfl,aa⟩;rw[aa];clear aa w1)
 go_cut [7]from 17 (fun v o=>∃(g:Nat) (u:St 32),v=.pointer (some ⟨g,0,none⟩)/\o.heap[g]?=some (.cells (et u) 193 (0,0))/\w.heap.size<=g/\Below w.heap.size w o/\u=cA p 4 64 b (d.data.toList.take q) m)
 case first=>
  go_region_with (go_at_call 172;refine(qC a kb b (d.extract 0 q) m _ p (by simp;have:=X.out;omega) (by simp;omega) (by exact r.up (by first|exact(cF _).drew|exact(cK (cF _) _).drew) K M)).mono ?_;rintro U G ⟨⟨u,i,rfl⟩,k⟩;have l:Hid _:=i;clear i;try (have A:G.heap[w.heap.size]?=some (.cells (et ⟨0,0,0,0,0,0,0,0⟩) 193 (0,0)):=(k.block _ (by simp)).trans (JK _ _);obtain⟨q0,q1,q2,q3,q4,q5,q6,q7⟩:=fp A;have qf:=fun j=>KO _ _ j _ _ A;have HH:Hid _:=A;clear A))
  all_goals go_wp2_with fail
  all_goals
   have hB:Below w.heap.size w G:=by first|exact((cF w).drew).trans (k.mono (by simp))|exact((cK (cF w) _).drew).trans (k.mono (by simp))
   have i:u=cA p 4 64 b (d.data.toList.take q) m:=by rw[l.out,dd];simp
   have f:Hid _:=hB;have t:Hid _:=i;clear hB i k;go_meet
   case rel=>
    first
     | (refine⟨G.heap.size,u,rfl,?_,?_,?_,t.out⟩
        ·exact JK _ _
        ·exact f.out.size
        ·exact cK f.out _)
     | (refine⟨w.heap.size,u,rfl,?_,?_,?_,t.out⟩
        ·exact kf u HH.out
        ·exact JQ _
        ·exact jv u f.out (JQ _))
 case rest=>
  obtain⟨g,u,rfl,x,ag,E,i⟩:=hcut;have l:Hid _:=i;clear i;obtain⟨m0,Y,m2,m3,m4,Z,O,m7⟩:=fp x;have af:g<wc.heap.size:=(go.1 x).1;have HG:Hid _:=x;have f:Hid (Below w.heap.size w wc):=E;have s:=r.up E K M;clear x E b1 b2 b3 b4 b5 b6 b7 b8;go_wp2_with fail
  go_cut [7]from 17 (fun v o=>∃(h:St 32),v=.pointer (some ⟨g,0,none⟩)/\o.heap[g]?=some (.cells (et h) 193 (0,0))/\Below w.heap.size w o/\h=lg p b d.data.toList)
  case first=>
   go_region_with (first|(go_at_call 173;refine(yS a (d.extract q d.size) d.size wc.drew (by simp;omega) hd s.c0).mono ?_;rintro e3 y ⟨⟨T,R,ab,S,rfl⟩,c⟩;have I:Hid (T.data.toList=dw 64 8 (d.extract q d.size).data.toList d.size/\T.size=T.size/64*64/\T.size<=4611686018427387904):=⟨R,ab,S⟩;clear R ab S;have L:y.heap[g]?=some (.cells (et u) 193 (0,0)):=(c.block _ af).trans HG.out;obtain⟨q0,q1,q2,q3,q4,q5,q6,q7⟩:=fp L;have Q:Hid _:=L;clear L)|(go_at_call 172;refine(qC a kb u T (T.size/64) y p I.out.2.1 I.out.2.2 (s.up (B:=wc.heap.size) ⟨c.os,c.tape,c.output,c.size,c.block⟩ s.lt s.ltk)).mono ?_;rintro F D ⟨⟨h,n,rfl⟩,J⟩;have t:Hid (h=cA p 4 64 u T.data.toList (T.size/64)):=n;clear n;have ad:g<y.heap.size:=(go.1 Q.out).1;have z:D.heap[g]?=some (.cells (et u) 193 (0,0)):=(J.block _ ad).trans Q.out;obtain⟨r0,r1,r2,r3,r4,r5,r6,r7⟩:=fp z;have rf:∀j,D.frozen? ⟨g,j,none⟩=false:=fun j=>KO _ _ j _ _ z;have ah:Hid _:=z;clear z))
   all_goals go_wp2_with fail
   all_goals
    have H:Below w.heap.size w y:=f.out.trans (Nl (B:=wc.heap.size) ⟨c.os,c.tape,c.output,c.size,c.block⟩ f.out.size);have P:Below w.heap.size w D:=H.trans (J.mono H.size);have aj:Hid _:=P;have hs:h=lg p b d.data.toList:=by
     have C:=X.out;rw[t.out,lg,l.out];have U:d.data.toList.length=d.size:=by simp
     rw[U,C.1,C.2];have e3:(d.extract q d.size).data.toList=d.data.toList.drop q:=by rw[dd];rw[Kd (by simp)]
     have F:=I.out.1;rw[e3]at F;rw[<-F,show T.data.toList.length=T.size from by simp]
    have HS:Hid _:=hs;clear H P hs c J;go_meet
    case rel=>
     refine⟨h,rfl,?_,?_,HS.out⟩
     ·exact kf h ah.out
     ·exact jv h aj.out ag
  case rest=>
   clear m0 Y m2 m3 m4 Z O m7 s l HG f;obtain⟨h,rfl,N,k,n⟩:=hcut;obtain⟨m0,Y,m2,m3,m4,Z,O,m7⟩:=fp N;have l:Hid _:=n;have f:Hid (Below w.heap.size w wc):=k;have ai:=cm k K W;clear N k n;go_wp2_with (go_at_call 174;refine(Dz a h _ ai).mono ?_;rintro e5 w5 ⟨rfl,ac⟩)
   have ae:Below w.heap.size w w5:=f.out.trans (ac.mono f.out.size);go_ret;refine⟨?_,ae⟩;rw[l.out];rfl
end
end Go.Proofs.YtihboehpeehlmaaGreatDoor.Dg
