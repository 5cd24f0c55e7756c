import Derived.Test.YtihboehpeehlmaaGreatDoorH5
set_option maxRecDepth 4000
set_option linter.unusedVariables false
set_option maxHeartbeats 400000
namespace Go.Proofs.YtihboehpeehlmaaGreatDoor.Dg
open Tryz Go.RowKit
section
attribute [local go_sem] re yD q8 tV tH oN qE nK qB mn mh mz oS tG qk nY dq
def d7(s:St 32):Array Value:= #[.int .i64 (eS (ex (s.a))),.int .i64 (eS (ex (s.b))),.int .i64 (eS (ex (s.c))),.int .i64 (eS (ex (s.d))),.int .i64 (eS (ex (s.e))),.int .i64 (eS (ex (s.f))),.int .i64 (eS (ex (s.g))),.int .i64 (eS (ex (s.h)))]
theorem uw{w:Wd}{g:Nat}{v:St 32}{t:TypeId}{a:Nat×Nat}(h:w.heap[g]?=some (.cells (d7 v) t a)):w.cell? ⟨g,0,none⟩=some (.int .i64 (eS (ex (v.a))))/\w.cell? ⟨g,1,none⟩=some (.int .i64 (eS (ex (v.b))))/\w.cell? ⟨g,2,none⟩=some (.int .i64 (eS (ex (v.c))))/\w.cell? ⟨g,3,none⟩=some (.int .i64 (eS (ex (v.d))))/\w.cell? ⟨g,4,none⟩=some (.int .i64 (eS (ex (v.e))))/\w.cell? ⟨g,5,none⟩=some (.int .i64 (eS (ex (v.f))))/\w.cell? ⟨g,6,none⟩=some (.int .i64 (eS (ex (v.g))))/\w.cell? ⟨g,7,none⟩=some (.int .i64 (eS (ex (v.h)))):=by
 refine⟨?_,?_,?_,?_,?_,?_,?_,?_⟩<;>(rw[JE _ _ _ _ _ _ h];rfl)
theorem i6.up{w w':Wd}{p:dN 32}{b B:Nat}(h:i6 w p b)(c:Below B w w')(a:b<B):i6 w' p b:=
 ⟨h.len,cm c a h.f1,cm c a h.f2,cm c a h.f3,cm c a h.n1,cm c a h.n2,cm c a h.n3,cm c a h.e1,cm c a h.e2,cm c a h.e3,cm c a h.a1,cm c a h.a2,cm c a h.a3,h.hf,h.hn,h.he,h.ha⟩
structure zP (wx:Wd) (p:dN 32) (B0 b kb g g1 k:Nat) (v3:Va) (v:St 32) (y x:BitVec 32):Prop where
 c0:wx.cell? ⟨B0,0,none⟩=some (.int .i64 32)
 c1:wx.cell? ⟨B0,1,none⟩=some (.int .i64 64)
 c2:wx.cell? ⟨B0,2,none⟩=some (.slice (some ⟨b,0,none⟩) 12 12)
 c3:wx.cell? ⟨B0,3,none⟩=some v3
 c4:wx.cell? ⟨B0,4,none⟩=some (.slice (some ⟨kb,0,none⟩) 64 64)
 way:i6 wx p b
 m0:wx.cell? ⟨g,0,none⟩=some (.int .i64 (eS (ex (v.a))))
 m1:wx.cell? ⟨g,1,none⟩=some (.int .i64 (eS (ex (v.b))))
 m2:wx.cell? ⟨g,2,none⟩=some (.int .i64 (eS (ex (v.c))))
 m3:wx.cell? ⟨g,3,none⟩=some (.int .i64 (eS (ex (v.d))))
 m4:wx.cell? ⟨g,4,none⟩=some (.int .i64 (eS (ex (v.e))))
 m5:wx.cell? ⟨g,5,none⟩=some (.int .i64 (eS (ex (v.f))))
 m6:wx.cell? ⟨g,6,none⟩=some (.int .i64 (eS (ex (v.g))))
 m7:wx.cell? ⟨g,7,none⟩=some (.int .i64 (eS (ex (v.h))))
 ky:wx.cell? ⟨kb,k,none⟩=some (.int .i64 (eS (ex (y))))
 lx:wx.cell? ⟨g1,k,none⟩=some (.int .i64 (eS (ex (x))))
theorem zP.up{c d:Wd}{p:dN 32}{f b kb g e k:Nat}{v3:Va}{v:St 32}{y x:BitVec 32}(h:zP c p f b kb g e k v3 v y x)(a:Below c.heap.size c d):zP d p f b kb g e k v3 v y x:=
 ⟨cI a h.c0,cI a h.c1,cI a h.c2,cI a h.c3,cI a h.c4,h.way.up a (JL _ _ h.way.f1),cI a h.m0,cI a h.m1,cI a h.m2,cI a h.m3,cI a h.m4,cI a h.m5,cI a h.m6,cI a h.m7,cI a h.ky,cI a h.lx⟩
theorem vU{P:Program}{r:Array Oper}{x:List Oper}{o:Oper}{a:Act}{Q:Exit->Act->Wd->Prop}{w:Wd}(H:o.guard=none)(d s:Operand)(l n:TypeId)(M:o.op=.call {callee:=.builtin .copy,args:= #[d,s],argTypes:= #[l,n]})(e:TypeId)(E:P.underlying l=some (.slice e))(y:(P.info? e).map (·.size)=some 1)
 (g f:Nat) (t:TypeId) (c:Array Value) (b:St 32) (A:a.eval d=.slice (some ⟨g,0,none⟩) 8 8) (z:a.eval s=.slice (some ⟨f,0,none⟩) 8 8) (q:c.size=8)
 (C:w.heap[g]?=some (.cells c t (0,0))) (J:w.heap[f]?=some (.cells (d7 b) t (0,0)))
 (h:∀v,wpList P r Q x (a.put o.dst v) (w.setRow g (d7 b))):wpList P r Q (o::x) a w:=by
 refine LC H fun K N=>?_
 have B:=LK (P:=P) w 1 8 ⟨f,0,none⟩ 8 8 (d7 b).toList rfl (fun j u G=>by
  have I:(⟨f,0,none⟩:Addr).add j=⟨f,j,none⟩:=by unfold Addr.add;split<;>simp_all
  rw[I,JE w f j _ _ _ J];simpa using G)
 have m:=run_storeCells_at P g 0 t (d7 b).toList 0 c w C (by rw[q];simp[d7]) (by intro v p;simp[d7]at p;rcases p with rfl|rfl|rfl|rfl|rfl|rfl|rfl|rfl<;>rfl);have F:(List.take (0+0) c.toList++(d7 b).toList++List.drop (0+0+(d7 b).toList.length) c.toList).toArray=d7 b:=by
  rw[J8 (by simp[d7,q])];simp
 rw[F]at m;have D:(Builtin.copy_ #[l,n] o.type #[.slice (some ⟨g,0,none⟩) 8 8,.slice (some ⟨f,0,none⟩) 8 8]).run P w=.ok (goInt 8) (w.setRow g (d7 b)):=by
  cases k:P.info? e with
  | none=>simp[k]at y
  | some i=>
    have L:i.size=1:=by simpa [k]using y
    have O:Nat.min 8 8=8:=rfl;simp[Builtin.copy_,run_underlying E,Builtin.lenOf,sizeOf,typeInfo,k,L,O,B,m]
 unfold Oper.wp execOp;simp only[M,resolve,invoke,builtin,K6,Li,KP,Ln,JW,Ko,A,z,D];exact N _ _ (h _)
def ga(s v:St 32)(i:Nat):Array Value:=((List.range 8).map fun j=>if j<i then Value.int .i64 (eS (ex (fB s j+fB v j)))else Value.int .i64 0).toArray
theorem A9(s v:St 32):ga s v 0= #[.int .i64 0,.int .i64 0,.int .i64 0,.int .i64 0,.int .i64 0,.int .i64 0,.int .i64 0,.int .i64 0]:=by simp[ga,List.range,List.range.loop]
theorem BL(s v:St 32):ga s v 8=d7 (jB s v):=by simp[ga,d7,fB,jB,List.range,List.range.loop]
theorem uW(s v:St 32)(i:Nat)(h:i<8):(ga s v i)[i]?=some (.int .i64 0):=by simp[ga,h]
theorem u4(s v:St 32)(i:Nat)(h:i<8):(ga s v i).setIfInBounds i (.int .i64 (eS (ex (fB s i+fB v i))))=ga s v (i+1):=by
 apply L7;intro j;by_cases c:j<8
 ·rw[Lq]
  by_cases a:i=j
  ·subst a;rw[if_pos rfl,if_pos (by simp[ga,h])];simp[ga,h]
  ·rw[if_neg a]
   simp only[ga,Kr,KM,Mw c,ME];by_cases b:j<i
   ·rw[if_pos b,if_pos (by omega)]
   ·rw[if_neg b,if_neg (by omega)]
 ·rw[Km (by simp[ga];omega),Km (by simp[ga];omega)]
theorem nh(s:St 32)(i:Nat)(h:i<8):(d7 s)[i]?=some (.int .i64 (eS (ex (fB s i)))):=by
 match i,h with
 | 0,_=>rfl
 | 1,_=>rfl
 | 2,_=>rfl
 | 3,_=>rfl
 | 4,_=>rfl
 | 5,_=>rfl
 | 6,_=>rfl
 | 7,_=>rfl
theorem Cl(W:Wd):Sem.run prog (Instr.makeSlice 32 (.int .i64 8) (.int .i64 8)) W=.ok (.slice (some ⟨W.heap.size,0,none⟩) 8 8) (W.alloc (.cells #[.int .i64 0,.int .i64 0,.int .i64 0,.int .i64 0,.int .i64 0,.int .i64 0,.int .i64 0,.int .i64 0] 3)):=by kernel_rfl
set_option maxRecDepth 100000 in
set_option maxHeartbeats 1000000 in
theorem xo(b kb n:Nat)(c:St 32)(s:dv)(w:Wd)(p:dN 32)(hs:s.size=64)(U:i6 w p b)(hK:∀i,i<64->w.cell? ⟨kb,i,none⟩=some (.int .i64 (eS (ex (p.K.getD i 0)))))(hh:w.heap[n]?=some (.cells (d7 c) 3 (0,0)))(v3:Va):Calls prog 119 #[.agg #[.int .i64 32,.int .i64 64,.slice (some ⟨b,0,none⟩) 12 12,v3,.slice (some ⟨kb,0,none⟩) 64 64],.slice (some ⟨n,0,none⟩) 8 8,.string s] w fun e d=>∃g,e=.returned (.slice (some ⟨g,0,none⟩) 8 8)/\d.heap[g]?=some (.cells (d7 (gv p 4 c s.data.toList)) 3 (0,0))/\w.heap.size<=g/\Below w.heap.size w d:=by
 have av:=JL w _ U.f1;have aB:=JL w _ (hK 0 (by omega));have ay:=(go.1 hh).1;have aO:Hid ((prog.info? 3).map (·.size)=some 1):=by show(prog.info? 3).map (·.size)=some 1;kernel_rfl
 have aY:=Cl;go_enter func119,ntmps119;go_wp2_with fail
 refine(Ad b s _ p hs (U.up (cK (cF w) _) av) v3 _).mono ?_;rintro e1 a ⟨I,aQ,rfl,E,aa⟩;have aW:=(E.lt I rfl).2;have aX:w.heap.size+1<=I:=by have:=(E.lt I rfl).1;simpa using this
 have N:=(cK (cF w) _).trans (aa.mono (by simp));have aT:=aa.size;generalize az:iN p 4 s.data.toList=l at E;have aC:Hid _:=az;have aH:l.length=64:=by have:=E.1;simpa using this
 have sc:∀i,i<64->a.cell? ⟨I,i,none⟩=some (.int .i64 (eS (ex (l.getD i 0)))):=fun i hi=>by
  rw[E.cellAt i (by omega),KM,JF (by omega)];simp[kl,List.getD,List.getElem?_eq_getElem (show i<l.length by omega)]
 have G:∀o v,(w.alloc (.cells #[.int .i64 32,.int .i64 64,.slice (some ⟨b,0,none⟩) 12 12,v3,.slice (some ⟨kb,0,none⟩) 64 64] 166)).cell? ⟨w.heap.size,o,none⟩=some v->a.cell? ⟨w.heap.size,o,none⟩=some v:=fun o v h=>cm aa (by simp) h
 have a0:=G 0 _ (by simp;rfl);have a1:=G 1 _ (by simp;rfl);have a2:=G 2 _ (by simp;rfl);have a3:=G 3 _ (by simp;rfl);have a4:=G 4 _ (by simp;rfl);have H:Hid (a.cell? ⟨w.heap.size,0,none⟩=some (.int .i64 32)/\a.cell? ⟨w.heap.size,1,none⟩=some (.int .i64 64)/\a.cell? ⟨w.heap.size,2,none⟩=some (.slice (some ⟨b,0,none⟩) 12 12)/\a.cell? ⟨w.heap.size,3,none⟩=some v3/\a.cell? ⟨w.heap.size,4,none⟩=some (.slice (some ⟨kb,0,none⟩) 64 64)):=⟨a0,a1,a2,a3,a4⟩;have ah:a.heap[n]?=some (.cells (d7 c) 3 (0,0)):=by rw[N.block _ ay];exact hh
 have aJ:Hid (∀o,(a.alloc o).heap[n]?=some (.cells (d7 c) 3 (0,0))):=fun o=>by rw[JO _ _ (go.1 ah).1];exact ah
 have SC:Hid _:=sc;have Y:Hid _:=N;have aF:Hid (∀i,i<64->a.cell? ⟨kb,i,none⟩=some (.int .i64 (eS (ex (p.K.getD i 0))))):=fun i hi=>cm N aB (hK i hi)
 have an:Hid (i6 a p b):=U.up N av;clear az E aa G a0 a1 a2 a3 a4 sc N hK aH ah;go_wp2_with (refine vU rfl _ _ 32 32 rfl 3 KT aO.out a.heap.size n 3 _ c rfl rfl rfl (JK _ _) (aJ.out _) ?_;intro vc;rw[World.setRow_alloc_new])
 go_loopw [8,9] (fun v i wr=>∃(k g:Nat),k<=64/\i=.int .i64 k/\v=.slice (some ⟨g,0,none⟩) 8 8/\wr.heap[g]?=some (.cells (d7 (cT p c l k)) 3 (0,0))/\a.heap.size<=g/\Below a.heap.size a wr) (fun _ i _=>64-(intOf i).toNat)
 case atStart=>exact⟨0,a.heap.size,by omega,rfl,rfl,JK _ _,JQ _,cK (cF _) _⟩
 case round=>
  obtain⟨k,g,hk,rfl,rfl,F,aV,f⟩:=hrel;have aw:wr.cell? ⟨w.heap.size,1,none⟩=some (.int .i64 64):=cI f H.out.2.1;by_cases ae:k<64
  ·generalize J:cT p c l k=v at F
   have HV:Hid (cT p c l k=v):=J;clear J;generalize hy:p.K.getD k 0=y;generalize hx:l.getD k 0=x;have ao:Hid (p.K.getD k 0=y/\l.getD k 0=x):=⟨hy,hx⟩;obtain⟨m0,Q,M,m3,m4,L,O,Z⟩:=uw F;have B:zP wr p w.heap.size b kb g I k v3 v y x:=⟨cI f H.out.1,aw,cI f H.out.2.2.1,cI f H.out.2.2.2.1,cI f H.out.2.2.2.2,an.out.up f (JL _ _ an.out.f1),m0,Q,M,m3,m4,L,O,Z,by have:=cI f (aF.out k ae);rw[hy]at this;exact this,by have:=cI f (SC.out k ae);rw[hx]at this;exact this⟩;have u:Hid _:=f;have C:=B.c0;have c2:=B.c2;have c3:=B.c3;have K:=B.c4;clear hy hx F f Q M m3 L O Z;have aD:(k:Int)<64:=by omega
   have aM:(0:Int)<=(k:Int):=by omega
   have hd:decide ((k:Int)<64)=true:=by simp;omega
   go_wp2_with fail
   refine(Df v.e b wr p B.way v3 _).mono ?_;rintro e2 X ⟨rfl,k2,ai⟩;have ag:Below wr.heap.size wr X:=by rw[ai];exact em (cK (cF _) _) _
   have t:=B.up ag;have aK:Hid _:=ag;clear ai ag C aw c2 c3 K m0 m4 B;have C:=t.c0;have c1:=t.c1;have c2:=t.c2;have c3:=t.c3;have K:=t.c4;go_wp2_with fail
   refine(Dh v.a b X p t.way v3 _).mono ?_;rintro e3 T ⟨rfl,k3,aq⟩;have ab:Below X.heap.size X T:=by rw[aq];exact em (cK (cF _) _) _
   have r:=t.up ab;have aN:Hid _:=ab;clear aq ab C c1 c2 c3 K t;have C:=r.c0;have K:=r.c4;have L:=r.m5;have O:=r.m6;have Z:=r.m7;have ky:=r.ky;have lx:=r.lx;have aR:IntKind.i64.signed=true:=rfl;go_wp2_with fail
   go_quiet ((go_at_call 150;exact J2 (lz (~~~(ex (v.e))) _)));go_wp2_with fail
   generalize ap:T.drewN nq=R;have af:Below T.heap.size T R:=by rw[<-ap];exact em (cF _) _
   have W:=r.up af;have aP:Hid _:=af;clear ap af C K L O Z ky lx r;have Q:=W.m1;have M:=W.m2;go_quiet (fail);go_wp2_with fail
   generalize am:R.drewN nq=w5;have ac:Below R.heap.size R w5:=by rw[<-am];exact em (cF _) _
   have D:=W.up ac;have aE:Hid _:=ac;clear am ac Q M W;have C:=D.c0;have Q:=D.m1;have M:=D.m2;have m3:=D.m3;have L:=D.m5;have O:=D.m6;clear D;go_region_held3 (fun d=>d.cell? ⟨w.heap.size,0,none⟩=some (.int .i64 32)/\d.cell? ⟨g,1,none⟩=some (.int .i64 (eS (ex (v.b))))/\d.cell? ⟨g,2,none⟩=some (.int .i64 (eS (ex (v.c))))/\d.cell? ⟨g,3,none⟩=some (.int .i64 (eS (ex (v.d))))/\d.cell? ⟨g,5,none⟩=some (.int .i64 (eS (ex (v.f))))/\d.cell? ⟨g,6,none⟩=some (.int .i64 (eS (ex (v.g))))) (go_keep) (first|(go_at_call 150;refine(lz _ _).mono ?_;rintro e6 w6 ⟨rfl,P⟩;rw[P];clear P w6))
   all_goals
    have ak:Below a.heap.size a w5:=by
     have m:=u.out.trans (aK.out.mono u.out.size);have S:=m.trans (aN.out.mono m.size);have t3:=S.trans (aP.out.mono S.size);exact t3.trans (aE.out.mono t3.size)
    have aA:d7 (cT p c l (k+1))= #[.int .i64 (eS (ex (v.h+lu v.e p.e1 p.e2 p.e3+(v.e&&&v.f^^^ ~~~v.e&&&v.g)+y+x+(lu v.a p.a1 p.a2 p.a3+(v.a&&&v.b^^^v.a&&&v.c^^^v.b&&&v.c))))),.int .i64 (eS (ex (v.a))),.int .i64 (eS (ex (v.b))),.int .i64 (eS (ex (v.c))),.int .i64 (eS (ex (v.d+(v.h+lu v.e p.e1 p.e2 p.e3+(v.e&&&v.f^^^ ~~~v.e&&&v.g)+y+x)))),.int .i64 (eS (ex (v.e))),.int .i64 (eS (ex (v.f))),.int .i64 (eS (ex (v.g)))]:=by
     rw[cT,HV.out,ao.out.1,ao.out.2];unfold d7 round Ax you;rw[BitVec.add_assoc _ y x]
    have au:Hid _:=ak;have aL:Hid _:=aA;clear ak aA;go_wp2_with fail
    refine⟨⟨k+1,w5.heap.size,by omega,by go_num,rfl,?_,au.out.size,(cK au.out _).drew⟩,?_⟩
    ·rw[Lz,JK,aL.out]
    ·simp[intOf];omega
  ·obtain rfl:k=64:=by omega
   clear ae hk;generalize J:cT p c l 64=v at F;have HV:Hid (cT p c l 64=v):=J;have HG:Hid _:=F;have u:Hid _:=f;clear J F f;have aG:g<wr.heap.size:=(go.1 HG.out).1;have aS:=u.out.size;obtain⟨q,aI⟩:∃x,x=wr:=⟨wr,rfl⟩;subst aI;go_wp2_with fail
   go_loopw [17] (fun i wx=>∃j:Nat,j<=8/\i=.int .i64 j/\wx.heap[q.heap.size]?=some (.cells (ga c v j) 3 (0,0))/\Below q.heap.size q wx) (fun i _=>8-(intOf i).toNat)
   case atStart=>exact⟨0,by omega,rfl,by rw[A9,JK],cK (cF _) _⟩
   case round=>
    obtain⟨j,hj,rfl,z,A⟩:=hrel;by_cases V:j<8
    ·have aU:w.heap.size<a.heap.size:=by omega
     have m:Below w.heap.size w q:=Y.out.trans (u.out.mono Y.out.size);have ar:wr.heap[n]?=some (.cells (d7 c) 3 (0,0)):=by rw[A.block _ (by have:=m.size;omega),m.block _ ay];exact hh
     have aj:wr.heap[g]?=some (.cells (d7 v) 3 (0,0)):=by rw[A.block _ aG];exact HG.out
     have C:wr.cell? ⟨w.heap.size,0,none⟩=some (.int .i64 32):=cI A (cI u.out H.out.1);have ch:wr.cell? ⟨n,j,none⟩=some (.int .i64 (eS (ex (fB c j)))):=by rw[JE _ _ _ _ _ _ ar,nh _ _ V]
     have cv:wr.cell? ⟨g,j,none⟩=some (.int .i64 (eS (ex (fB v j)))):=by rw[JE _ _ _ _ _ _ aj,nh _ _ V]
     have co:wr.cell? ⟨q.heap.size,j,none⟩=some (.int .i64 0):=by rw[JE _ _ _ _ _ _ z,uW _ _ _ V]
     have cf:wr.frozen? ⟨q.heap.size,j,none⟩=false:=KO _ _ _ _ _ z;have n1:q.heap.size≠n:=by have:=m.size;omega
     have n2:q.heap.size≠g:=by omega
     have n3:q.heap.size≠w.heap.size:=by omega
     have HO:Hid _:=z;have ad:Hid _:=A;clear z A ar aj m;generalize al:fB c j=q1 at ch;generalize ax:fB v j=q2 at cv;have HQ:Hid (fB c j=q1/\fB v j=q2):=⟨al,ax⟩;clear al ax;have aD:(j:Int)<8:=by omega
     have aM:(0:Int)<=(j:Int):=by omega
     go_wp2_with fail
     go_region_held3 (fun d=>d.cell? ⟨w.heap.size,0,none⟩=some (.int .i64 32)/\d.cell? ⟨n,j,none⟩=some (.int .i64 (eS (ex (q1))))/\d.cell? ⟨g,j,none⟩=some (.int .i64 (eS (ex (q2))))) (go_keep) (first|(go_at_call 150;refine(lz _ _).mono ?_;rintro e6 w6 ⟨rfl,P⟩;rw[P];clear P w6))
     all_goals
      go_wp2_with fail
      refine⟨?_,by simp[intOf];omega⟩;repeat apply Exists.intro
      refine⟨?_,rfl⟩;refine⟨j+1,by omega,by go_num,?_,(ad.out.setCell (JQ _) _).drew⟩;rw[Lz,J5 _ _ _ _ _ _ HO.out,<-u4 _ _ _ V,HQ.out.1,HQ.out.2]
    ·obtain rfl:j=8:=by omega
     rw[BL]at z;have HO:Hid _:=z;have ad:Hid _:=A;clear z A;go_wp2_with fail
     go_ret;have m:=Y.out.trans (u.out.mono Y.out.size);have S:=m.trans (ad.out.mono m.size);refine⟨_,rfl,?_,m.size,S⟩;rw[gv,aC.out,U.len,HV.out];exact HO.out
end
section
attribute [local go_sem] re yD q8 tV tH oN qE nK qB mn mh mz oS tG
def j9(x:BitVec 64):Va:=.int .i64 (eS (x))
theorem xv:(prog.info? 3).map (fun i=>(i.zero,i.size,i.bytes))=some (some (.int .i64 0),1,8):=by kernel_rfl
theorem EE(l:dj)(h:l.length<=8):Value.int .i64 (eS (rd 64 l))=j9 (rd 64 l):=by
 unfold j9
 first
  | rw[DS l h]
  | rfl
theorem xl{P:Program}{j:Array Oper}{l:List Oper}{o:Oper}{a:Act}{Q:Exit->Act->Wd->Prop}(C:o.guard=none)(s x:Operand)(t:TypeId)(F:o.op=.call {callee:=.builtin .append,args:= #[s,x],argTypes:= #[t,t]})
 (e:TypeId) (i:TypeInfo) (H:P.underlying t=some (.slice e)) (r:P.info? e=some i) (I:i.zero=some (.int .i64 0)) (z:i.size=1) (A:i.bytes=8)
 (B:Nat) (v:Va) (n:Nat) (xs:rt) (y:Va) (G:y.oneCell'=true) (b:Wd) (p:a.eval s=v) (f:b.ownsRow B e 1 v n xs) (q:B<=b.heap.size) (J:n<=1000)
 (m:a.eval x=.slice (some ⟨b.heap.size,0,none⟩) 1 1)
 (h:∀d c,c.ownsRow B e 1 d (n+1) (xs++[y])->Below B b c->wpList P j Q l (a.put o.dst d) c):wpList P j Q (o::l) a (b.alloc (.cells #[y] e)):=by
 refine M2 _ C s x t F B e i (.int .i64 0) 1 8 H r I z A rfl (by decide) v n xs p (f.alloc _) ⟨b.heap.size,0,none⟩ 1 1 [y] m rfl (fH b y e) (by intro u g;simp at g;subst g;exact G) (by unfold maxLen;omega) (by omega) (by simp;omega) ?_;intro d c w E _;refine h d c w (((JI B b).alloc q _).grown E (by simp;omega) ?_);intro k D;exact(f.lt k D).1
set_option maxRecDepth 100000 in
set_option maxHeartbeats 1000000 in
theorem AJ(b:Nat)(s:dv)(w:Wd)(p:dN 64)(hs:s.size=128)(d:iY w p b)(v3 v4:Va):Calls prog 148 #[.agg #[.int .i64 64,.int .i64 80,.slice (some ⟨b,0,none⟩) 12 12,v3,v4],.string s] w fun e D=>∃g l,e=.returned (.slice (some ⟨g,0,none⟩) 80 l)/\D.ownsRow w.heap.size 3 1 (.slice (some ⟨g,0,none⟩) 80 l) 80 ((iN p 8 s.data.toList).map j9)/\Below w.heap.size w D:=by
 have aT:=JL w _ d.f1;obtain⟨i0,T,aB,aq,ai⟩:=Kf xv;have HI:Hid _:=T;clear T;have a2:128<=s.size:=by omega
 have a7:s.size<=128:=by omega
 clear hs;go_enter func148,ntmps148;go_wp2_with fail
 go_loopw [5,7] (fun v i wr=>∃k:Nat,k<=16/\i=.int .i64 k/\wr.ownsRow (w.heap.size+1) 3 1 v k ((cP 64 8 s.data.toList k).map j9)/\Below (w.heap.size+1) (w.alloc (.cells #[.int .i64 64,.int .i64 80,.slice (some ⟨b,0,none⟩) 12 12,v3,v4] 166)) wr) (fun _ i _=>16-(intOf i).toNat)
 case atStart=>exact⟨0,by omega,rfl,Le _ _ _ _,JI _ _⟩
 case round=>
  obtain⟨k,R,rfl,f,a⟩:=hrel;by_cases aD:k<16
  ·have hd:decide ((k:Int)<16)=true:=by simp;omega
   have z:=f;clear f;have aw:=a.size;go_wp2_with fail
   go_loop [8,9] (fun x i=>∃m:Nat,m<=8/\i=.int .i64 m/\x=.int .i64 (eS (rd 64 (((s.data.toList.drop (k*8)).take 8).take m)))) (fun _ i=>8-(intOf i).toNat)
   case atStart=>exact⟨0,by omega,rfl,rfl⟩
   case round=>
    obtain⟨m,hm,rfl,rfl⟩:=hrel;by_cases aR:m<8
    ·have a4:(0:Int)<=8*(k:Int)+m:=by omega
     have bl:8*(k:Int)+m<(s.size:Int):=by omega
     have ht:(8*(k:Int)+(m:Int)).toNat=8*k+m:=by omega
     have hx:8*k+m<s.size:=by omega
     go_wp2_with fail
     go_round
     case rel=>exact⟨m+1,by omega,by go_num,by rw[tQ,<-lC,<-pz s k m 8 aR (by omega) hx]⟩
     case measure=>simp[intOf];omega
    ·obtain rfl:m=8:=by omega
     have aO:(List.take 8 (List.take 8 (List.drop (k*8) s.data.toList)))=List.take 8 (List.drop (k*8) s.data.toList):=by rw[MX,Nat.min_self]
     rw[aO];have aK:w.heap.size+1<=wr.heap.size:=by simpa using aw
     generalize hX:eS (rd 64 (List.take 8 (List.drop (k*8) s.data.toList)))=X;have E:Hid _:=hX;clear hX;go_wp2_with (refine xl rfl (.tmp 38) (.tmp 40) 32 rfl 3 i0 KT HI.out aB aq ai (w.heap.size+1) _ k ((cP 64 8 s.data.toList k).map j9) (.int .i64 X) rfl wr rfl z aK (by omega) rfl ?_;intro v5 Q I av;have H:=I;clear I)
     have K:=a.trans av;have G:Q.ownsRow (w.heap.size+1) 3 1 v5 (k+1) ((cP 64 8 s.data.toList (k+1)).map j9):=by
      rw[cP,Kj,MV,<-EE _ (List.length_take_le _ _),E.out];exact H
     clear H av;go_wp2_with fail
     go_roundw
     case rel=>first|exact⟨k+1,by omega,by go_num,G,K⟩|((repeat apply Exists.intro);exact⟨⟨k+1,by omega,by go_num,G,K⟩,rfl⟩)
     case measure=>simp[intOf];omega
  ·obtain rfl:k=16:=by omega
   have M:wr.cell? ⟨w.heap.size,0,none⟩=some (.int .i64 64):=cm a (by omega) (by simp);have ac:wr.cell? ⟨w.heap.size,1,none⟩=some (.int .i64 80):=cm a (by omega) (by simp);have P:wr.cell? ⟨w.heap.size,2,none⟩=some (.slice (some ⟨b,0,none⟩) 12 12):=cm a (by omega) (by simp);go_wp2_with fail
   go_loopw [5,10] (fun v i wx=>∃j:Nat,16<=j/\j<=80/\i=.int .i64 j/\wx.ownsRow (w.heap.size+1) 3 1 v j ((c8 p (cP 64 8 s.data.toList 16) (j-16)).map j9)/\Below (w.heap.size+1) (w.alloc (.cells #[.int .i64 64,.int .i64 80,.slice (some ⟨b,0,none⟩) 12 12,v3,v4] 166)) wx) (fun _ i _=>80-(intOf i).toNat)
   case atStart=>exact⟨16,by omega,by omega,rfl,f,a⟩
   case round=>
    clear f a M ac P aD R;obtain⟨j,bf,a1,rfl,f,a⟩:=hrel;have M:wr.cell? ⟨w.heap.size,0,none⟩=some (.int .i64 64):=cm a (by omega) (by simp);have ac:wr.cell? ⟨w.heap.size,1,none⟩=some (.int .i64 80):=cm a (by omega) (by simp);have P:wr.cell? ⟨w.heap.size,2,none⟩=some (.slice (some ⟨b,0,none⟩) 12 12):=cm a (by omega) (by simp);obtain⟨g,l,rfl,bn⟩:∃g l,u5=.slice (some ⟨g,0,none⟩) j l/\w.heap.size+1<=g:=by
     rcases f.2 with⟨_,h0⟩|⟨g,l,aI,Y,hB,_⟩
     ·omega
     ·exact⟨g,l,Y,hB⟩
    by_cases aD:j<80
    ·generalize W:c8 p (cP 64 8 s.data.toList 16) (j-16)=L at f
     have HL:Hid (c8 p (cP 64 8 s.data.toList 16) (j-16)=L):=W;have ax:L.length=j:=by rw[<-W,gs,es];omega
     have aX:Hid (L.length=j):=ax;clear W;have J:∀i,i<j->wr.cell? ⟨g,i,none⟩=some (.int .i64 (eS (L.getD i 0))):=fun i T=>by
      rw[f.cellAt i (by omega)];rw[KM,JF (by omega)];simp[j9,List.getD,List.getElem?_eq_getElem (show i<L.length by omega)]
     have ay:=J (j-15) (by omega);have d2:=J (j-2) (by omega);have aa:=J (j-16) (by omega);have S:=J (j-7) (by omega);clear J ax;generalize ar:L.getD (j-15) 0=t at ay;generalize aj:L.getD (j-2) 0=q at d2;generalize an:L.getD (j-16) 0=A at aa;generalize ao:L.getD (j-7) 0=C at S;have E:Hid (L.getD (j-15) 0=t/\L.getD (j-2) 0=q/\L.getD (j-16) 0=A/\L.getD (j-7) 0=C):=⟨ar,aj,an,ao⟩;clear ar aj an ao;have B:∀i v,w.cell? ⟨b,i,none⟩=some v->wr.cell? ⟨b,i,none⟩=some v:=fun i v h=>cm a (by omega) ((JN _ _ _ aT).trans h)
     have g1:=B _ _ d.f1;have g2:=B _ _ d.f2;have g3:=B _ _ d.f3;have g4:=B _ _ d.n1;have g5:=B _ _ d.n2;have g6:=B _ _ d.n3;clear B;have aw:w.heap.size+1<=wr.heap.size:=by have:=a.size;simpa using this
     have z:=f;have N:Hid _:=a;clear f a;have bm:=fi ((j:Int)-15) (by omega);have aZ:=fi ((j:Int)-2) (by omega);have bb:=fi ((j:Int)-16) (by omega);have ba:=fi ((j:Int)-7) (by omega);have bh:(0:Int)<=(j:Int)-15:=by omega
     have a3:(j:Int)-15<(j:Int):=by omega
     have bd:(0:Int)<=(j:Int)-2:=by omega
     have a5:(j:Int)-2<(j:Int):=by omega
     have bo:(0:Int)<=(j:Int)-16:=by omega
     have bi:(j:Int)-16<(j:Int):=by omega
     have be:(0:Int)<=(j:Int)-7:=by omega
     have bj:(j:Int)-7<(j:Int):=by omega
     have a6:(15:Int)<=(j:Int):=by omega
     have k2:(2:Int)<=(j:Int):=by omega
     have bg:(16:Int)<=(j:Int):=by omega
     have k7:(7:Int)<=(j:Int):=by omega
     have a0:((j:Int)-15).toNat=j-15:=by omega
     have bk:((j:Int)-2).toNat=j-2:=by omega
     have a9:((j:Int)-16).toNat=j-16:=by omega
     have a8:((j:Int)-7).toNat=j-7:=by omega
     go_wp2_with fail
     go_quiet (first|(go_at_call_of 179 (Value.int IntKind.i64 1);exact Kb (gK t 1 _ (by omega) (by omega)))|(go_at_call_of 179 (Value.int IntKind.i64 8);exact Kb (gK t 8 _ (by omega) (by omega)))|(go_at_call 180;exact Kb (ux t 7 _ (by omega) (by omega))));go_wp2_with fail
     generalize n:wr.drewN nq=r;have ah:r.cell? ⟨w.heap.size,0,none⟩=some (.int .i64 64):=by rw[<-n];exact M
     have aP:r.cell? ⟨w.heap.size,2,none⟩=some (.slice (some ⟨b,0,none⟩) 12 12):=by rw[<-n];exact P
     have aJ:r.cell? ⟨b,3,none⟩=some (.int .i64 19):=by rw[<-n];exact g4
     have aS:r.cell? ⟨b,4,none⟩=some (.int .i64 61):=by rw[<-n];exact g5
     have aQ:r.cell? ⟨b,5,none⟩=some (.int .i64 6):=by rw[<-n];exact g6
     have az:r.cell? ⟨g,j-16,none⟩=some (.int .i64 (eS (A))):=by rw[<-n];exact aa
     have aE:r.cell? ⟨g,j-7,none⟩=some (.int .i64 (eS (C))):=by rw[<-n];exact S
     have al:r.ownsRow (w.heap.size+1) 3 1 (.slice (some ⟨g,0,none⟩) j l) j (L.map j9):=by rw[<-n];exact z
     have V:=em N.out nq;rw[n]at V;have ab:Hid _:=V;clear n V z N M ac P g1 g2 g3 g4 g5 g6 ay d2 aa S;have aM:w.heap.size+1<=r.heap.size:=by have:=ab.out.size;simpa using this
     go_quiet (first|(go_at_call_of 179 (Value.int IntKind.i64 19);exact Kb (gK q 19 _ (by omega) (by omega)))|(go_at_call_of 179 (Value.int IntKind.i64 61);exact Kb (gK q 61 _ (by omega) (by omega)))|(go_at_call 180;exact Kb (ux q 6 _ (by omega) (by omega))));go_wp2_with fail
     generalize F:r.drewN nq=c;have aN:c.cell? ⟨w.heap.size,0,none⟩=some (.int .i64 64):=by rw[<-F];exact ah
     have aU:c.cell? ⟨g,j-16,none⟩=some (.int .i64 (eS (A))):=by rw[<-F];exact az
     have aW:c.cell? ⟨g,j-7,none⟩=some (.int .i64 (eS (C))):=by rw[<-F];exact aE
     have ad:c.ownsRow (w.heap.size+1) 3 1 (.slice (some ⟨g,0,none⟩) j l) j (L.map j9):=by rw[<-F];exact al
     have ag:=em ab.out nq;rw[F]at ag;have ae:Hid _:=ag;clear F ag al ab ah aP aJ aS aQ az aE aM;have aY:w.heap.size+1<=c.heap.size:=by have:=ae.out.size;simpa using this
     have ap:Hid (∀o,((c.alloc o).drew).ownsRow (w.heap.size+1) 3 1 (.slice (some ⟨g,0,none⟩) j l) j (L.map j9)):=fun o=>ad.alloc o
     have aG:Hid (∀y j u,[y][j]?=some u->((c.alloc (.cells #[y] 3)).drew).cell? ((⟨c.heap.size,0,none⟩:Addr).add j)=some u):=fun y=>fH c y 3
     have U:Hid (∀o,w.heap.size+1<=((c.alloc o).drew).heap.size):=fun o=>by show _<=(c.alloc o).heap.size;simp;omega
     have aC:g<c.heap.size:=(ad.lt g rfl).2;have am:Hid (∀o,((c.alloc o).drew).cell? ⟨w.heap.size,0,none⟩=some (.int .i64 64)):=fun o=>(JN _ _ _ (by show w.heap.size<c.heap.size;omega)).trans aN
     have ak:Hid (∀o,((c.alloc o).drew).cell? ⟨g,j-16,none⟩=some (.int .i64 (eS (A)))):=fun o=>(JN _ _ _ aC).trans aU
     have au:Hid (∀o,((c.alloc o).drew).cell? ⟨g,j-7,none⟩=some (.int .i64 (eS (C)))):=fun o=>(JN _ _ _ aC).trans aW
     have O:Hid (j<=1000/\j-16<j/\j-7<j/\w.heap.size≠g):=⟨by omega,by omega,by omega,by omega⟩;go_region_held3 (fun D=>D.cell? ⟨w.heap.size,0,none⟩=some (.int .i64 64)/\D.cell? ⟨g,j-16,none⟩=some (.int .i64 (eS (A)))/\D.cell? ⟨g,j-7,none⟩=some (.int .i64 (eS (C)))) (go_keep) (first|(refine Dx rfl (.tmp 110) (.tmp 129) 32 rfl 3 i0 KT HI.out aB aq ai (w.heap.size+1) g j l (L.map j9) ⟨c.heap.size,0,none⟩ _ rfl O.out.1 rfl rfl (ap.out _) (U.out _) (aG.out _) ?_;intro v5 Q I Z af;have s1:=Z.cell (am.out _) (by simpa using O.out.2.2.2);have s2:=(af _ O.out.2.1).trans (ak.out _);have s3:=(af _ O.out.2.2.1).trans (au.out _);have H:=I;have aH:Hid _:=Z;clear I Z af)|(go_at_call 150;refine(lM _ _).mono ?_;rintro e6 w6 ⟨rfl,aF⟩;rw[aF];clear aF w6;try rw[show((A)+(dG t 1^^^dG t 8^^^t>>>7)+(C)+(dG q 19^^^dG q 61^^^q>>>6))=(A+(dG t 1^^^dG t 8^^^t>>>7)+C+(dG q 19^^^dG q 61^^^q>>>6))from by first|rfl|simp only[nY,qk]]))
     have K:Below (w.heap.size+1) (w.alloc (.cells #[.int .i64 64,.int .i64 80,.slice (some ⟨b,0,none⟩) 12 12,v3,v4] 166)) Q:=by
      refine Below.grown ((ae.out.alloc aY _).drew) aH.out (U.out _) ?_;intro k R;injection R with R;omega
     have G:Q.ownsRow (w.heap.size+1) 3 1 v5 (j+1) ((c8 p (cP 64 8 s.data.toList 16) (j+1-16)).map j9):=by
      have e:j+1-16=(j-16)+1:=by omega
      rw[e,c8,HL.out,Kj,MV,mX,mM,mM,aX.out,E.out.1,E.out.2.1,E.out.2.2.1,E.out.2.2.2,d.hf.1,d.hf.2.1,d.hf.2.2,d.hn.1,d.hn.2.1,d.hn.2.2];exact H
     have aA:Hid _:=K;clear H aH K ae ad ap aG U am ak au s1 s2 s3;go_wp2_with fail
     go_roundw
     case rel=>first|exact⟨j+1,by omega,by omega,by go_num,G,aA.out⟩|((repeat apply Exists.intro);exact⟨⟨j+1,by omega,by omega,by go_num,G,aA.out⟩,rfl⟩)
     case measure=>simp[intOf];omega
    ·obtain rfl:j=80:=by omega
     have z:=f;have N:Hid _:=a;clear f a;go_wp2_with fail
     go_ret;refine⟨g,l,rfl,?_,(cK (cF w) _).trans (N.out.mono (KG _))⟩;rw[iN,d.len];refine⟨z.1,?_⟩;rcases z.2 with⟨h0,_⟩|⟨g',aL,aI,Y,hB,aV⟩
     ·cases h0
     ·exact .inr ⟨g',aL,aI,Y,by omega,aV⟩
end
section
attribute [local go_sem] fD oT s8 sr sw oW qR dq
def eJ(L:List (BitVec 64)):Array Value:=((List.range 80).map fun j=>Value.int .u64 (eW (L.getD j 0))).toArray
theorem iO(L:List (BitVec 64))(j:Nat)(h:j<80):(eJ L)[j]?=some (.int .u64 (eW (L.getD j 0))):=by
 simp[eJ,h]
theorem rH(L:List (BitVec 64))(x:BitVec 64)(h:L.length<80):(eJ L).setIfInBounds L.length (.int .u64 (eW x))=eJ (L++[x]):=by
 apply L7;intro i;by_cases a:i<80
 ·rw[Lq]
  by_cases b:L.length=i
  ·subst b;rw[if_pos rfl,if_pos (by simp[eJ,h]),iO _ _ a];simp
  ·rw[if_neg b,iO _ _ a,iO _ _ a]
   congr 3
   by_cases c:i<L.length
   ·simp[List.getElem?_append_left c]
   ·simp only[KJ];rw[Mf (by omega),Mf (by simp;omega)]
 ·rw[Km (by simp[eJ];omega),Km (by simp[eJ];omega)]
theorem ET{w wr:Wd}{t:TypeId}{s:dv}{k:Nat}(a:k<16)(h:wr.heap[w.heap.size+1]?=some (.cells (eJ (cP 64 8 s.data.toList k)) t (0,0))):(wr.setCell ⟨w.heap.size+1,k,none⟩ (.int .u64 (eW (rd 64 (List.take ((k+1)*8-k*8) (List.drop (k*8) s.data.toList)))))).drew.heap[w.heap.size+1]?=some (.cells (eJ (cP 64 8 s.data.toList (k+1))) t (0,0)):=by
 rw[Lz,J5 _ _ _ _ _ _ h,show(k+1)*8-k*8=8 from by omega];have:=rH (cP 64 8 s.data.toList k) (rd 64 (List.take 8 (List.drop (k*8) s.data.toList))) (by rw[es];omega);rw[es]at this;rw[this];rfl
theorem Ec{w wr:Wd}{t:TypeId}{p:dN 64}{i L:List (BitVec 64)}{j:Nat}{b a k f:BitVec 64}(A B:Obj)(n:Nat)(r:16<=j)(s:j<80)(h:wr.heap[w.heap.size+1]?=some (.cells (eJ L) t (0,0)))(q:c8 p i (j-16)=L)(g:L.length=j)(m:L.getD (j-15) 0=b/\L.getD (j-2) 0=a/\L.getD (j-16) 0=k/\L.getD (j-7) 0=f)(c:p.f1=1/\p.f2=8/\p.f3=7)(d:p.n1=19/\p.n2=61/\p.n3=6):((((wr.alloc A).alloc B).drewN n).setCell ⟨w.heap.size+1,j,none⟩ (.int .u64 (eW (k+(dG b 1^^^dG b 8^^^b>>>7)+f+(dG a 19^^^dG a 61^^^a>>>6))))).heap[w.heap.size+1]?=some (.cells (eJ (c8 p i (j+1-16))) t (0,0)):=by
 have o:(((wr.alloc A).alloc B).drewN n).heap[w.heap.size+1]?=some (.cells (eJ L) t (0,0)):=lU h A B;rw[J5 _ _ _ _ _ _ o];obtain⟨rfl,rfl,rfl,rfl⟩:=m;have e:j+1-16=(j-16)+1:=by omega
 rw[e,c8,q];have l:=rH L (mX p L) (by omega);rw[g]at l;rw[<-l,mX,mM,mM,g,c.1,c.2.1,c.2.2,d.1,d.2.1,d.2.2]
theorem jT(L:List (BitVec 64)):(eJ L).size=80:=by simp[eJ]
theorem sf(L:List (BitVec 64)):(eJ L).all (·.oneCell')=true:=by
 rw[Array.all_eq_true_iff_forall_mem];intro v a;simp[eJ]at a;obtain⟨j,_,rfl⟩:=a;rfl
theorem kj(L:List (BitVec 64)):(prog.info? 257).map (·.size)=some (eJ L).size:=by
 rw[jT];kernel_rfl
theorem zC(w:Wd):Sem.run prog (zeroValue 257) w=.ok (.agg (eJ [])) w:=by kernel_rfl
theorem Cr(a:Nat)(s:dv)(w:Wd)(p:dN 64)(Q:s.size=128)(E:p.K.length=80)(T:p.f1=1/\p.f2=8/\p.f3=7)(F:p.n1=19/\p.n2=61/\p.n3=6)(m:w.cell? ⟨a,0,none⟩=some (.int .i64 8))(kb:Nat)(c9:w.cell? ⟨a,9,none⟩=some (.slice (some ⟨kb,0,none⟩) 80 80))(C:w.cell? ⟨a,10,none⟩=some (.int .i64 1))(z:w.cell? ⟨a,11,none⟩=some (.int .i64 8))(V:w.cell? ⟨a,12,none⟩=some (.int .i64 7))(J:w.cell? ⟨a,13,none⟩=some (.int .i64 19))(M:w.cell? ⟨a,14,none⟩=some (.int .i64 61))(K:w.cell? ⟨a,15,none⟩=some (.int .i64 6)):Calls prog 219 #[.pointer (some ⟨a,0,none⟩),.string s] w fun e b=>e=.returned (.agg (eJ (iN p 8 s.data.toList)))/\Below w.heap.size w b:=by
 have f:=JL w _ m;have HF:Hid _:=T;have HN:Hid _:=F;have HK:Hid _:=E;have Y:Hid _:=Q;clear T F E Q;have az:128<=s.size:=by have:=Y.out;omega
 have aH:s.size<=128:=by have:=Y.out;omega
 have hz:=zC;go_enter func219,ntmps219;go_wp2
 go_loopw [10] (fun i wr=>∃k:Nat,k<=16/\i=.int .i64 k/\wr.heap[w.heap.size+1]?=some (.cells (eJ (cP 64 8 s.data.toList k)) 257 (0,0))/\
  wr.heap[w.heap.size]?=some (.cells (eJ []) 257 (0,0))/\Below w.heap.size w wr) (fun i _=>16-(intOf i).toNat)
 case atStart=>
  refine⟨0,by omega,rfl,?_,?_,cK (cK (cF _) _) _⟩
  ·rw[K1];rfl
  ·rw[K2]
 case round=>
  obtain⟨k,hk,rfl,d,g,c⟩:=hrel;by_cases q:k<16
  ·have S:=cm c f m
   have aO:wr.cell? ⟨w.heap.size+1,k,none⟩=some (.int .u64 (eW ((cP 64 8 s.data.toList k).getD k 0))):=by rw[JE _ _ _ _ _ _ d,iO _ _ (by omega)]
   have aM:wr.frozen? ⟨w.heap.size+1,k,none⟩=false:=KO _ _ _ _ _ d;have aq:=fi ((k:Int)*8) (by omega);have ab:=fi ((k:Int)+1) (by omega);have aa:=fi (((k:Int)+1)*8) (by omega);have Z:(0:Int)<=(k:Int)+1:=by omega
   have au:(k:Int)<=(k:Int)+1:=by omega
   have ai:(k:Int)<80:=by omega
   have al:(0:Int)<=(k:Int):=by omega
   have ao:w.heap.size+1≠a:=by omega
   have ax:(0:Int)<=(k:Int)*8:=by omega
   have am:(k:Int)*8<=((k:Int)+1)*8:=by omega
   have an:((k:Int)+1)*8<=(s.size:Int):=by omega
   have ah:(0:Int)<=((k:Int)+1)*8:=by omega
   have x:Hid _:=d;have y:Hid _:=g;clear d g;go_wp2_with fail
   go_region_held3 (fun b=>b.cell? ⟨a,0,none⟩=some (.int .i64 8)) (go_keep) (first|(go_at_call 242;refine(F4 _ _ _ (by simp[maxLen];omega)).mono ?_;rintro e I ⟨rfl,rfl⟩))
   go_wp2_with fail
   go_roundw
   case rel=>
    refine⟨k+1,by omega,by go_num,ET q x.out,?_,(c.setCell (KG _) _).drew⟩;rw[Lz,JX _ _ _ _ (by simp)];exact y.out
   case measure=>simp[intOf];omega
  ·obtain rfl:k=16:=by omega
   clear q hk;go_wp2_with fail
   go_loopw [7] (fun i u=>∃j:Nat,16<=j/\j<=80/\i=.int .i64 j/\u.heap[w.heap.size+1]?=some (.cells (eJ (c8 p (cP 64 8 s.data.toList 16) (j-16))) 257 (0,0))/\
    u.heap[w.heap.size]?=some (.cells (eJ []) 257 (0,0))/\Below w.heap.size w u) (fun i _=>80-(intOf i).toNat)
   case atStart=>exact⟨16,by omega,by omega,rfl,d,g,c⟩
   case round=>
    clear d g c;obtain⟨j,aA,ad,rfl,d,g,c⟩:=hrel;have S:wr.cell? ⟨a,0,none⟩=some (.int .i64 8):=cm c f m;have g9:=cm c f c9;by_cases q:j<80
    ·generalize r:c8 p (cP 64 8 s.data.toList 16) (j-16)=L at d
     have HL:Hid (c8 p (cP 64 8 s.data.toList 16) (j-16)=L):=r;have ap:Hid (L.length=j):=by
      show L.length=j
      rw[<-r,gs,es];omega
     clear r;have ac:=cm c f C;have ae:=cm c f z;have aj:=cm c f V;have ak:=cm c f J;have ag:=cm c f M;have af:=cm c f K;have l:∀i,i<80->wr.cell? ⟨w.heap.size+1,i,none⟩=some (.int .u64 (eW (L.getD i 0))):=fun i hi=>by rw[JE _ _ _ _ _ _ d,iO _ _ hi]
     have ar:w.heap.size+1<wr.heap.size:=(go.1 d).1;have B:=l (j-15) (by omega);have D:=l (j-2) (by omega);have n:=l (j-16) (by omega);have o:=l (j-7) (by omega);have t:=l j (by omega);generalize X:L.getD (j-15) 0=P at B;generalize H:L.getD (j-2) 0=U at D;generalize N:L.getD (j-16) 0=A at n;generalize O:L.getD (j-7) 0=G at o;generalize L.getD j 0=x0 at t;have HX:Hid (L.getD (j-15) 0=P/\L.getD (j-2) 0=U/\L.getD (j-16) 0=A/\L.getD (j-7) 0=G):=⟨X,H,N,O⟩;clear X H N O;have R:wr.frozen? ⟨w.heap.size+1,j,none⟩=false:=KO _ _ _ _ _ d;clear l;have x:Hid _:=d;have y:Hid _:=g;have HB:Hid _:=c;clear d g c C z V J M K c9 m;have aq:=fi ((j:Int)-15) (by omega);have ab:=fi ((j:Int)-2) (by omega);have aa:=fi ((j:Int)-16) (by omega);have aN:=fi ((j:Int)-7) (by omega);have am:(15:Int)<=(j:Int):=by omega
     have an:(j:Int)<80:=by omega
     have ah:(2:Int)<=(j:Int):=by omega
     have Z:(16:Int)<=(j:Int):=by omega
     have au:(7:Int)<=(j:Int):=by omega
     have ai:(0:Int)<=(j:Int)-15:=by omega
     have al:(j:Int)-15<80:=by omega
     have aw:(0:Int)<=(j:Int)-2:=by omega
     have aG:(j:Int)-2<80:=by omega
     have ad:(0:Int)<=(j:Int)-16:=by omega
     have aB:(j:Int)-16<80:=by omega
     have ay:(0:Int)<=(j:Int)-7:=by omega
     have aD:(j:Int)-7<80:=by omega
     have aF:(0:Int)<=(j:Int):=by omega
     have av:((j:Int)-15).toNat=j-15:=by omega
     have aE:((j:Int)-2).toNat=j-2:=by omega
     have aL:((j:Int)-16).toNat=j-16:=by omega
     have aK:((j:Int)-7).toNat=j-7:=by omega
     have ao:w.heap.size+1≠a:=by omega
     go_wp2_with fail
     go_region_held3 (fun b=>b.cell? ⟨a,0,none⟩=some (.int .i64 8)/\b.cell? ⟨a,10,none⟩=some (.int .i64 1)/\b.cell? ⟨a,11,none⟩=some (.int .i64 8)/\b.cell? ⟨a,12,none⟩=some (.int .i64 7)/\b.cell? ⟨w.heap.size+1,j-15,none⟩=some (.int .u64 (eW P))) (go_keep) (first|(go_at_call 243;refine(pM _ _ _ _ _ _ (by omega) (by omega) (by omega) (by simp[*])).mono ?_;rintro e1 I ⟨rfl,k1,rfl⟩))
     go_wp2_with fail
     go_region_held3 (fun b=>b.cell? ⟨a,0,none⟩=some (.int .i64 8)/\b.cell? ⟨a,13,none⟩=some (.int .i64 19)/\b.cell? ⟨a,14,none⟩=some (.int .i64 61)/\b.cell? ⟨a,15,none⟩=some (.int .i64 6)/\b.cell? ⟨w.heap.size+1,j-2,none⟩=some (.int .u64 (eW U))) (go_keep) (first|(go_at_call 243;refine(pM _ _ _ _ _ _ (by omega) (by omega) (by omega) (by simp[*,World.cell?_alloc_some])).mono ?_;rintro e1 I ⟨rfl,k2,rfl⟩))
     have aJ:=lT n;have m7:=lT o;have m0:=lT t;have mf:=vT ar R;clear n o t R B D ac ae aj ak ag af g9 S;have aC:∀(W:Wd) (v:Va),(W.setCell ⟨w.heap.size+1,j,none⟩ v).cell? ⟨w.heap.size+1,j-16,none⟩=W.cell? ⟨w.heap.size+1,j-16,none⟩:=fun W v=>K0 _ _ _ _ (by intro h;injection h;omega)
     have aI:∀(W:Wd) (v:Va),(W.setCell ⟨w.heap.size+1,j,none⟩ v).cell? ⟨w.heap.size+1,j-7,none⟩=W.cell? ⟨w.heap.size+1,j-7,none⟩:=fun W v=>K0 _ _ _ _ (by intro h;injection h;omega)
     go_wp2_with fail
     go_region_held3 (fun b=>b.cell? ⟨w.heap.size+1,j-16,none⟩=some (.int .u64 (eW A))/\b.cell? ⟨w.heap.size+1,j-7,none⟩=some (.int .u64 (eW G))) (simp[*]) (fail)
     go_wp2_with fail
     go_roundw
     case rel=>
      (repeat apply Exists.intro)
      refine⟨?_,rfl⟩;refine⟨j+1,by omega,by omega,by go_num,Ec _ _ _ (by omega) (by omega) x.out HL.out ap.out HX.out HF.out HN.out,?_,((em (cK (cK HB.out _) _) _).setCell (KG _) _)⟩;rw[JX _ _ _ _ (by simp)];exact lU y.out _ _
     case measure=>simp[intOf];omega
    ·obtain rfl:j=80:=by omega
     go_wp2_with (first|(refine Ls rfl 257 _ rfl (w.heap.size+1) rfl _ _ _ _ d underlying257 rfl (kj _) ?_)|(refine Kn rfl 257 _ _ rfl w.heap.size _ rfl rfl _ _ g (kj _) (by rw[jT,jT]) (sf _) ?_))
     refine Ka (v:=.agg (eJ (c8 p (cP 64 8 s.data.toList 16) (80-16)))) (Lb rfl _ _ w.heap.size _ _ _ _ rfl (J7 _ _ _ _ _ _ g) underlying257 rfl (kj _)) rfl ⟨?_,KU c (JQ _) _⟩;rw[iN,HK.out]
end
section
attribute [local go_sem] fD oT s8 sr sw oW qR dq
structure fe (p:dN 64) (w:Wd) (bp kb:Nat):Prop where
 c0:w.cell? ⟨bp,0,none⟩=some (.int .i64 8)
 c9:w.cell? ⟨bp,9,none⟩=some (.slice (some ⟨kb,0,none⟩) 80 80)
 c10:w.cell? ⟨bp,10,none⟩=some (.int .i64 1)
 c11:w.cell? ⟨bp,11,none⟩=some (.int .i64 8)
 c12:w.cell? ⟨bp,12,none⟩=some (.int .i64 7)
 c13:w.cell? ⟨bp,13,none⟩=some (.int .i64 19)
 c14:w.cell? ⟨bp,14,none⟩=some (.int .i64 61)
 c15:w.cell? ⟨bp,15,none⟩=some (.int .i64 6)
 c16:w.cell? ⟨bp,16,none⟩=some (.int .i64 14)
 c17:w.cell? ⟨bp,17,none⟩=some (.int .i64 18)
 c18:w.cell? ⟨bp,18,none⟩=some (.int .i64 41)
 c19:w.cell? ⟨bp,19,none⟩=some (.int .i64 28)
 c20:w.cell? ⟨bp,20,none⟩=some (.int .i64 34)
 c21:w.cell? ⟨bp,21,none⟩=some (.int .i64 39)
 ks:∀i,i<80->w.cell? ⟨kb,i,none⟩=some (.int .u64 (eW (p.K.getD i 0)))
 hK:p.K.length=80
 hf:p.f1=1/\p.f2=8/\p.f3=7
 hn:p.n1=19/\p.n2=61/\p.n3=6
 he:p.e1=14/\p.e2=18/\p.e3=41
 ha:p.a1=28/\p.a2=34/\p.a3=39
theorem fe.lt{p:dN 64}{w:Wd}{a kb:Nat}(h:fe p w a kb):a<w.heap.size:=JL w _ h.c0
theorem fe.ltk{p:dN 64}{w:Wd}{a kb:Nat}(h:fe p w a kb):kb<w.heap.size:=JL w _ (h.ks 0 (by omega))
theorem fe.up{p:dN 64}{w w':Wd}{c kb B:Nat}(h:fe p w c kb)(a:Below B w w')(b:c<B)(d:kb<B):fe p w' c kb:=
 ⟨cm a b h.c0,cm a b h.c9,cm a b h.c10,cm a b h.c11,cm a b h.c12,cm a b h.c13,cm a b h.c14,cm a b h.c15,cm a b h.c16,cm a b h.c17,cm a b h.c18,cm a b h.c19,cm a b h.c20,cm a b h.c21,fun i e=>cm a d (h.ks i e),h.hK,h.hf,h.hn,h.he,h.ha⟩
def en(s:St 64):Array Value:= #[.int .u64 (eW s.a),.int .u64 (eW s.b),.int .u64 (eW s.c),.int .u64 (eW s.d),.int .u64 (eW s.e),.int .u64 (eW s.f),.int .u64 (eW s.g),.int .u64 (eW s.h)]
theorem ge(s:St 64):(prog.info? 200).map (·.size)=some (en s).size:=by
 rw[show(en s).size=8 from rfl];kernel_rfl
theorem pi(s:St 64):(en s).all (·.oneCell')=true:=by simp[en,Value.oneCell']
def fy(s:St 64)(j:Nat):BitVec 64:=[s.a,s.b,s.c,s.d,s.e,s.f,s.g,s.h].getD j 0
def ia(s v:St 64)(i:Nat):Array Value:=((List.range 8).map fun j=>Value.int .u64 (eW (if j<i then fy s j+fy v j else fy s j))).toArray
theorem wR(s v:St 64):ia s v 0=en s:=by simp[ia,en,fy,List.range,List.range.loop]
theorem D5(s v:St 64):ia s v 8=en (jB s v):=by simp[ia,en,fy,jB,List.range,List.range.loop]
theorem yG(s v:St 64)(i:Nat)(h:i<8):(ia s v i)[i]?=some (.int .u64 (eW (fy s i))):=by
 simp[ia,h]
theorem yg(s v:St 64)(i:Nat)(h:i<8):(ia s v i).setIfInBounds i (.int .u64 (eW (fy s i+fy v i)))=ia s v (i+1):=by
 apply L7;intro j;by_cases c:j<8
 ·rw[Lq]
  by_cases a:i=j
  ·subst a;rw[if_pos rfl,if_pos (by simp[ia,h])];simp[ia,h]
  ·rw[if_neg a]
   simp only[ia,Kr,KM,Mw c,ME];by_cases b:j<i
   ·rw[if_pos b,if_pos (by omega)]
   ·rw[if_neg b,if_neg (by omega)]
 ·rw[Km (by simp[ia];omega),Km (by simp[ia];omega)]
theorem z7(s:St 64)(i:Nat)(h:i<8):(en s)[i]?=some (.int .u64 (eW (fy s i))):=by
 rw[<-wR s s];simp[ia,h]
structure jl (p:dN 64) (w:Wd) (bp kb B2:Nat) (s v:St 64) (ws:List (BitVec 64)) (wr:Wd):Prop where
 plan0:fe p w bp kb
 h0:wr.heap[w.heap.size]?=some (.cells (en s) 200 (0,0))
 h1:wr.heap[w.heap.size+1]?=some (.cells (en ⟨0,0,0,0,0,0,0,0⟩) 200 (0,0))
 h2:wr.heap[B2]?=some (.cells (eJ ws) 257 (0,0))
 h3:wr.heap[B2+1]?=some (.cells (en v) 200 (0,0))
 below:Below w.heap.size w wr
 b2:w.heap.size+1<B2
theorem jl.plan{p:dN 64}{w wr:Wd}{a kb b:Nat}{s v:St 64}{c:List (BitVec 64)}(h:jl p w a kb b s v c wr):fe p wr a kb:=h.plan0.up h.below h.plan0.lt h.plan0.ltk
theorem jl.start{p:dN 64}{w a c:Wd}{d kb:Nat}{s:St 64}{e:List (BitVec 64)}{Z:Array Value}(h:fe p w d kb)(g:Below w.heap.size w a)(j:a.heap[w.heap.size]?=some (.cells (en s) 200 (0,0)))(f:a.heap[w.heap.size+1]?=some (.cells (en ⟨0,0,0,0,0,0,0,0⟩) 200 (0,0)))(b:((a.alloc (.cells (eJ e) 257)).alloc (.cells Z 200)).setRow (a.heap.size+1) (en s)=c):jl p w d kb a.heap.size s s e c:=by
 have i:=(go.1 f).1;have k:Below w.heap.size w c:=by rw[<-b];exact KU (cK (cK g _) _) (by omega) _
 refine⟨h,?_,?_,?_,?_,k,i⟩
 ·rw[<-b,Kg _ _ _ _ (by omega)];exact lU j _ _
 ·rw[<-b,Kg _ _ _ _ (by omega)];exact lU f _ _
 ·rw[<-b,Kg _ _ _ _ (by omega),K2]
 ·rw[<-b];exact J7 _ _ _ _ _ _ (K1 _ _ _)
theorem fm{w:Wd}{g:Nat}{v:St 64}{t:TypeId}{a:Nat×Nat}(h:w.heap[g]?=some (.cells (en v) t a)):w.cell? ⟨g,0,none⟩=some (.int .u64 (eW v.a))/\w.cell? ⟨g,1,none⟩=some (.int .u64 (eW v.b))/\w.cell? ⟨g,2,none⟩=some (.int .u64 (eW v.c))/\w.cell? ⟨g,3,none⟩=some (.int .u64 (eW v.d))/\w.cell? ⟨g,4,none⟩=some (.int .u64 (eW v.e))/\w.cell? ⟨g,5,none⟩=some (.int .u64 (eW v.f))/\w.cell? ⟨g,6,none⟩=some (.int .u64 (eW v.g))/\w.cell? ⟨g,7,none⟩=some (.int .u64 (eW v.h)):=by
 refine⟨?_,?_,?_,?_,?_,?_,?_,?_⟩<;>(rw[JE _ _ _ _ _ _ h];rfl)
def kz(w:Wd)(g:Nat)(v:St 64):Wd:=
 (((((((w.setCell ⟨g,0,none⟩ (.int .u64 (eW v.a))).setCell ⟨g,1,none⟩ (.int .u64 (eW v.b))).setCell ⟨g,2,none⟩ (.int .u64 (eW v.c))).setCell ⟨g,3,none⟩ (.int .u64 (eW v.d))).setCell ⟨g,4,none⟩ (.int .u64 (eW v.e))).setCell ⟨g,5,none⟩ (.int .u64 (eW v.f))).setCell ⟨g,6,none⟩ (.int .u64 (eW v.g))).setCell ⟨g,7,none⟩ (.int .u64 (eW v.h))
theorem j6{w:Wd}{g:Nat}{u:St 64}{t:TypeId}(v:St 64)(h:w.heap[g]?=some (.cells (en u) t (0,0))):(kz w g v).heap[g]?=some (.cells (en v) t (0,0)):=by
 unfold kz;have e:=J5 _ _ 0 _ _ (.int .u64 (eW v.a)) h;have c:=J5 _ _ 1 _ _ (.int .u64 (eW v.b)) e;have j:=J5 _ _ 2 _ _ (.int .u64 (eW v.c)) c;have a:=J5 _ _ 3 _ _ (.int .u64 (eW v.d)) j;have d:=J5 _ _ 4 _ _ (.int .u64 (eW v.e)) a;have b:=J5 _ _ 5 _ _ (.int .u64 (eW v.f)) d;have f:=J5 _ _ 6 _ _ (.int .u64 (eW v.g)) b;have i:=J5 _ _ 7 _ _ (.int .u64 (eW v.h)) f;rw[i];simp[en]
theorem jp{w:Wd}{g k:Nat}(v:St 64)(h:k≠g):(kz w g v).heap[k]?=w.heap[k]?:=by
 unfold kz;rw[JX _ _ _ _ h,JX _ _ _ _ h,JX _ _ _ _ h,JX _ _ _ _ h,JX _ _ _ _ h,JX _ _ _ _ h,JX _ _ _ _ h,JX _ _ _ _ h]
theorem jo{B:Nat}{a w:Wd}{g:Nat}(v:St 64)(h:Below B a w)(b:B<=g):Below B a (kz w g v):=
 (((((((h.setCell b _).setCell b _).setCell b _).setCell b _).setCell b _).setCell b _).setCell b _).setCell b _
theorem jl.step{p:dN 64}{w wr w2:Wd}{d kb b:Nat}{s v:St 64}{e:List (BitVec 64)}(h:jl p w d kb b s v e wr)(c:Below wr.heap.size wr w2)(a:St 64):jl p w d kb b s a e (kz w2 (b+1) a):=by
 have f:=(go.1 h.h0).1;have l:=(go.1 h.h1).1;have k:=(go.1 h.h2).1;have m:=(go.1 h.h3).1;have j:=h.b2;have i:Below (b+1) wr (kz w2 (b+1) a):=jo a (c.mono (by omega)) (JQ _);have g:=h.below.trans (i.mono (by omega));refine⟨h.plan0,?_,?_,?_,j6 a (by rw[c.block _ m];exact h.h3),g,j⟩
 ·rw[jp _ (by omega),c.block _ f,h.h0]
 ·rw[jp _ (by omega),c.block _ l,h.h1]
 ·rw[jp _ (by omega),c.block _ k,h.h2]
theorem DT(g kb:Nat)(s:St 64)(t:dv)(w:Wd)(p:dN 64)(I:t.size=128)(q:fe p w g kb):Calls prog 201 #[.pointer (some ⟨g,0,none⟩),.agg #[.int .u64 (eW s.a),.int .u64 (eW s.b),.int .u64 (eW s.c),.int .u64 (eW s.d),.int .u64 (eW s.e),.int .u64 (eW s.f),.int .u64 (eW s.g),.int .u64 (eW s.h)],.string t] w fun e w'=>e=.returned (.agg (en (gv p 8 s t.data.toList)))/\Below w.heap.size w w':=by
 have ad:=q.lt;have Y:=q.ltk;have HT:Hid _:=I;clear I;go_enter func201,ntmps201;go_wp2_with fail
 have f:=q.up (cK (cK (cF w) (.cells #[.int .u64 (eW s.a),.int .u64 (eW s.b),.int .u64 (eW s.c),.int .u64 (eW s.d),.int .u64 (eW s.e),.int .u64 (eW s.f),.int .u64 (eW s.g),.int .u64 (eW s.h)] 200)) (.cells #[.int .u64 0,.int .u64 0,.int .u64 0,.int .u64 0,.int .u64 0,.int .u64 0,.int .u64 0,.int .u64 0] 200)) ad Y;refine(Cr g t _ p HT.out f.hK f.hf f.hn f.c0 kb f.c9 f.c10 f.c11 f.c12 f.c13 f.c14 f.c15).mono ?_;rintro e1 b ⟨rfl,z⟩;have U:=(cK (cK (cF w) _) _).trans (z.mono (by simp;omega));have E:b.heap[w.heap.size]?=some (.cells (en s) 200 (0,0)):=by
  rw[z.block _ (by simp;omega),K2];rfl
 have F:b.heap[w.heap.size+1]?=some (.cells (en ⟨0,0,0,0,0,0,0,0⟩) 200 (0,0)):=by
  rw[z.block _ (by simp),K1];rfl
 clear z f;have ae:=(go.1 F).1;have hz:=zC;have O:∀o,(b.alloc o).heap[w.heap.size]?=some (.cells (en s) 200 (0,0)):=fun o=>by rw[JO _ _ (by omega),E]
 have S:Hid _:=E;have Q:Hid _:=F;have M:Hid _:=U;clear E F U;generalize W:iN p 8 t.data.toList=d;have aa:Hid _:=W;clear W;have K:∀A:Obj,((b.alloc A).alloc (.cells #[.int .u64 0,.int .u64 0,.int .u64 0,.int .u64 0,.int .u64 0,.int .u64 0,.int .u64 0,.int .u64 0] 200)).heap[b.heap.size+1]?=some (.cells #[.int .u64 0,.int .u64 0,.int .u64 0,.int .u64 0,.int .u64 0,.int .u64 0,.int .u64 0,.int .u64 0] 200 (0,0)):=fun A=>K1 _ _ _
 have R:Hid _:=K;clear K;go_wp2_with (first|(refine Kn rfl 257 (.tmp 7) (.tmp 14) rfl b.heap.size _ rfl rfl _ _ (JK _ _) (kj _) (by simp only[jT]) (sf _) ?_;rw[World.setRow_alloc_new])|(refine Ls rfl 200 (.tmp 4) rfl w.heap.size rfl _ _ _ _ (O _) M7 rfl (ge _) ?_)|(refine Kn rfl 200 (.tmp 8) (.tmp 15) rfl (b.heap.size+1) (en s) rfl rfl _ _ (R.out _) (ge _) rfl (pi _) ?_;generalize P:World.setRow _ _ _=W4;have c:=jl.start (p:=p) (kb:=kb) q M.out S.out Q.out P;have k9:=c.plan.c9;have H:Hid _:=c;clear c P O))
 go_loopw [21] (fun i wr=>∃k:Nat,k<=80/\i=.int .i64 k/\jl p w g kb b.heap.size s (cT p s d k) d wr) (fun i _=>80-(intOf i).toNat)
 case atStart=>exact⟨0,by omega,rfl,H.out⟩
 case round=>
  obtain⟨k,L,rfl,c⟩:=hrel;have a:Hid _:=c;clear H S Q M R;by_cases l:k<80
  ·generalize n:cT p s d k=v at c
   have D:Hid (cT p s d k=v):=n;clear n a;have a:Hid (jl p w g kb b.heap.size s v d wr):=c;obtain⟨m0,m1,m2,m3,m4,m5,m6,m7⟩:=fm c.h3;have mw:wr.cell? ⟨b.heap.size,k,none⟩=some (.int .u64 (eW (d.getD k 0))):=by rw[JE _ _ _ _ _ _ c.h2,iO _ _ (by omega)]
   have mk:=c.plan.ks k l;have af:b.heap.size+1<wr.heap.size:=(go.1 c.h3).1;clear c;generalize T:d.getD k 0=x at mw;generalize X:p.K.getD k 0=y at mk;have J:Hid (d.getD k 0=x/\p.K.getD k 0=y):=⟨T,X⟩;clear T X;have ag:(k:Int)<80:=by omega
   have ah:(0:Int)<=(k:Int):=by omega
   go_wp2_with fail
   go_region_with (go_at_call 220;refine(D7 g v (y+x) wr.drew p a.out.plan.he a.out.plan.ha a.out.plan.c0 a.out.plan.c16 a.out.plan.c17 a.out.plan.c18 a.out.plan.c19 a.out.plan.c20 a.out.plan.c21).mono ?_;rintro e w2 ⟨rfl,h⟩;have B:w2.heap[b.heap.size+1]?=some (.cells (en v) 200 (0,0)):=(h.block _ af).trans a.out.h3;obtain⟨q0,q1,q2,q3,q4,q5,q6,q7⟩:=fm B;have qf:∀j,w2.frozen? ⟨b.heap.size+1,j,none⟩=false:=fun j=>KO _ _ j _ _ B;clear B)
   all_goals
    have N:jl p w g kb b.heap.size s (cT p s d (k+1)) d (kz w2 (b.heap.size+1) (round p v (y+x))):=by
     have:=a.out.step (w2:=w2) ⟨h.os,h.tape,h.output,h.size,h.block⟩ (round p v (y+x));rw[cT,D.out,J.out.1,J.out.2];exact this
    have G:Hid _:=N;clear N h;go_wp2_with fail
    go_roundw
    case rel=>first|exact⟨k+1,by omega,by go_num,G.out⟩|((repeat apply Exists.intro);exact⟨⟨k+1,by omega,by go_num,G.out⟩,rfl⟩)
    case measure=>simp[intOf];omega
  ·obtain rfl:k=80:=by omega
   clear l L;generalize n:cT p s d 80=v at c;have D:Hid (cT p s d 80=v):=n;clear n a;have a:Hid (jl p w g kb b.heap.size s v d wr):=c;clear c;go_wp2_with fail
   go_loopw [35] (fun i r=>∃k:Nat,k<=8/\i=.int .i64 k/\r.heap[w.heap.size]?=some (.cells (ia s v k) 200 (0,0))/\
    r.heap[w.heap.size+1]?=some (.cells (en ⟨0,0,0,0,0,0,0,0⟩) 200 (0,0))/\r.heap[b.heap.size+1]?=some (.cells (en v) 200 (0,0))/\Below w.heap.size w r) (fun i _=>8-(intOf i).toNat)
   case atStart=>exact⟨0,by omega,rfl,by rw[wR];exact a.out.h0,a.out.h1,a.out.h3,a.out.below⟩
   case round=>
    clear a;obtain⟨k,L,rfl,m,u,C,V⟩:=hrel;by_cases l:k<8
    ·have ai:wr.cell? ⟨w.heap.size,k,none⟩=some (.int .u64 (eW (fy s k))):=by rw[JE _ _ _ _ _ _ m,yG _ _ _ l]
     have al:wr.cell? ⟨b.heap.size+1,k,none⟩=some (.int .u64 (eW (fy v k))):=by rw[JE _ _ _ _ _ _ C,z7 _ _ l]
     have ak:wr.frozen? ⟨w.heap.size,k,none⟩=false:=KO _ _ _ _ _ m;have ab:Hid _:=m;have ac:Hid _:=u;have Z:Hid _:=C;clear m u C;have ag:(k:Int)<8:=by omega
     have ah:(0:Int)<=(k:Int):=by omega
     go_wp2_with fail
     go_region
     all_goals
      go_wp2_with fail
      go_roundw
      case rel=>
       refine⟨k+1,by omega,by go_num,?_,?_,?_,(V.setCell (JQ _) _).drew⟩
       ·rw[Lz,J5 _ _ _ _ _ _ ab.out,yg _ _ _ l]
       ·rw[Lz,JX _ _ _ _ (by show w.heap.size+1≠w.heap.size;omega)];exact ac.out
       ·rw[Lz,JX _ _ _ _ (by show b.heap.size+1≠w.heap.size;omega)];exact Z.out
      case measure=>simp[intOf];omega
    ·obtain rfl:k=8:=by omega
     rw[D5]at m;go_wp2_with (first|(refine Ls rfl 200 (.tmp 4) rfl w.heap.size rfl _ _ _ _ m M7 rfl (ge _) ?_)|(refine Kn rfl 200 (.tmp 6) (.tmp 47) rfl (w.heap.size+1) _ rfl rfl _ _ u (ge _) rfl (pi _) ?_))
     refine Ka (v:=.agg (en (jB s v))) (Lb rfl _ _ (w.heap.size+1) _ _ _ _ rfl (J7 _ _ _ _ _ _ u) M7 rfl (ge _)) rfl ⟨?_,KU V (KG _) _⟩;rw[gv,aa.out,q.hK,D.out]
end
end Go.Proofs.YtihboehpeehlmaaGreatDoor.Dg
