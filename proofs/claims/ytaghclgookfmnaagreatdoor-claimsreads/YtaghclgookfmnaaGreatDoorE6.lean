import Derived.Test.YtaghclgookfmnaaGreatDoorE2
import Derived.Test.YtaghclgookfmnaaGreatDoorQName
import Derived.Test.YtaghclgookfmnaaGreatDoorE4
import Derived.Test.YtaghclgookfmnaaGreatDoorE5
import Derived.Test.YtaghclgookfmnaaGreatDoorE1
import Derived.Test.YtaghclgookfmnaaGreatDoorDCd
import Derived.Test.YtaghclgookfmnaaGreatDoorE7
namespace Go.Proofs.YtaghclgookfmnaaGreatDoor
open Go.RowKit
set_option linter.unusedVariables false
mutual
theorem flat_str(b:Nat)(key:List UInt8)(t:JT):∀n∈flat b key t,n.kind=3→n.kids=[]:=by
 cases t with
 | null i=>intro n hn;simp[flat]at hn;subst hn;simp
 | truth x i=>intro n hn;simp[flat]at hn;subst hn;simp
 | int m i=>intro n hn;simp[flat]at hn;subst hn;simp
 | str t i=>intro n hn;simp[flat]at hn;subst hn;simp
 | arr ts i=>
   intro n hn;rw[flat,List.mem_cons]at hn;rcases hn with rfl|hn
   ·simp
   ·exact flatL_str (b+1) ts n hn
 | obj ms i=>
   intro n hn;rw[flat,List.mem_cons]at hn;rcases hn with rfl|hn
   ·simp
   ·exact flatM_str (b+1) ms n hn
theorem flatL_str(b:Nat)(ts:List JT):∀n∈flatL b ts,n.kind=3→n.kids=[]:=by
 cases ts with
 | nil=>intro n hn;simp[flatL]at hn
 | cons t r=>
   intro n hn;rw[flatL,List.mem_append]at hn;rcases hn with hn|hn
   ·exact flat_str b [] t n hn
   ·exact flatL_str (b+t.size) r n hn
theorem flatM_str(b:Nat)(ms:List (List UInt8×JT)):∀n∈flatM b ms,n.kind=3→n.kids=[]:=by
 cases ms with
 | nil=>intro n hn;simp[flatM]at hn
 | cons p r=>
   obtain⟨k,t⟩:=p;intro n hn;rw[flatM,List.mem_append]at hn;rcases hn with hn|hn
   ·exact flat_str b k t n hn
   ·exact flatM_str (b+t.size) r n hn
end
theorem memK_neg(L:List Nd)(S:List UInt8):∀ks:List Nat,(∀c∈ks,(ndA L c).key≠S)→memK L S ks<0
 | [],_=>by simp[memK]
 | c::ks,h=>by
   rw[memK,if_neg (h c (by simp))];exact memK_neg L S ks fun c' hc=>h c' (by simp[hc])
theorem allC_field{α:Type}(L:List Nd)(f:Cl→α)(g:Nd→α)(S:List UInt8)(hf:∀n x,f (setC L n x)=if n.key=S then g n else f x):∀(ks:List Nat) (x:Cl),ks.Pairwise (fun a b=>(ndA L a).key≠(ndA L b).key)→f (allC L ks x)=if memK L S ks<0 then f x else g (ndA L (memK L S ks).toNat)
 | [],x,_=>by simp[allC,memK]
 | c::ks,x,h=>by
   rw[List.pairwise_cons]at h;rw[allC,allC_field L f g S hf ks _ h.2,hf,memK];by_cases hk:(ndA L c).key=S
   ·have hn:memK L S ks<0:=memK_neg L S ks fun c' hc he=>h.1 c' hc (hk.trans he.symm)
    rw[if_pos hk,if_pos hk,if_pos hn,if_neg (by omega)];rfl
   ·rw[if_neg hk,if_neg hk]
theorem set_iss(L:List Nd)(n:Nd)(x:Cl):(setC L n x).iss=if n.key=issS then⟨n.text.toArray⟩else x.iss:=by
 unfold setC;split
 ·rfl
 ·repeat' (first|rfl|split)
theorem set_aud(L:List Nd)(n:Nd)(x:Cl):(setC L n x).aud=if n.key=audS then auds L n else x.aud:=by
 unfold setC;by_cases h1:n.key=audS
 ·rw[if_neg (by rw[h1];decide),if_pos h1,if_pos h1]
 ·rw[if_neg h1,if_neg h1];repeat' (first|rfl|split)
theorem set_iat(L:List Nd)(n:Nd)(x:Cl):(setC L n x).iat=if n.key=iatS then n.num else x.iat:=by
 unfold setC;by_cases h1:n.key=iatS
 ·rw[if_neg (by rw[h1];decide),if_neg (by rw[h1];decide),if_pos h1,if_pos h1]
 ·rw[if_neg h1,if_neg h1];repeat' (first|rfl|split)
theorem set_nbf(L:List Nd)(n:Nd)(x:Cl):(setC L n x).nbf=if n.key=nbfS then n.num else x.nbf:=by
 unfold setC;by_cases h1:n.key=nbfS
 ·rw[if_neg (by rw[h1];decide),if_neg (by rw[h1];decide),if_neg (by rw[h1];decide),if_pos h1,if_pos h1]
 ·rw[if_neg h1,if_neg h1];repeat' (first|rfl|split)
theorem set_exp(L:List Nd)(n:Nd)(x:Cl):(setC L n x).exp=if n.key=expS then n.num else x.exp:=by
 unfold setC;by_cases h1:n.key=expS
 ·rw[if_neg (by rw[h1];decide),if_neg (by rw[h1];decide),if_neg (by rw[h1];decide),if_neg (by rw[h1];decide),if_pos h1,if_pos h1]
 ·rw[if_neg h1,if_neg h1];repeat' (first|rfl|split)
theorem memK_in(L:List Nd)(S:List UInt8):∀ks:List Nat,¬memK L S ks<0→(memK L S ks).toNat∈ks
 | [],h=>by simp[memK]at h
 | c::ks,h=>by
   rw[memK]at h ⊢;by_cases hk:(ndA L c).key=S
   ·rw[if_pos hk];simp
   ·rw[if_neg hk]at h ⊢;exact List.mem_cons_of_mem _ (memK_in L S ks h)
theorem keyL_nd(L:List Nd)(c:Nat):keyL L c=(ndA L c).key:=by unfold keyL ndA;cases L[c]?<;>rfl
theorem rd_same{l:List UInt8}{t:JT}(h:readL l=.ok t):rdD (flat 0 [] t)=rdC (flat 0 [] t):=by
 have hN:=names_flat (readL_okn h);have hS:=flat_str 0 [] t;obtain⟨n0,r0,hf,_⟩:=flat_head 0 [] t;have hn0:(flat 0 [] t)[0]?=some n0:=by rw[hf];rfl
 have hW:=(read_fit h).1;generalize flat 0 [] t=L at *;unfold rdD rdC;rw[ndA_of hn0];by_cases h5:n0.kind=5
 ·rw[if_pos h5,if_pos h5]
  by_cases he:(allE L n0.kids).1=0
  ·rw[if_pos he,if_pos he]
   by_cases hl:lackB L n0.kids=true
   ·rw[if_pos hl,if_pos hl]
   ·rw[if_neg hl,if_neg hl]
    have hp:n0.kids.Pairwise (fun a b=>(ndA L a).key≠(ndA L b).key):=by
     have:=(hN 0 n0 hn0 h5).2;simpa only[keyL_nd]using this
    have hl2:¬(memK L issS n0.kids<0∨memK L audS n0.kids<0∨memK L iatS n0.kids<0∨memK L nbfS n0.kids<0∨memK L expS n0.kids<0):=by
     intro hh;exact hl (by unfold lackB;exact decide_eq_true hh)
    simp only[not_or]at hl2;obtain⟨p1,p2,p3,p4,p5⟩:=hl2;have e1:=allC_field L Cl.iss (fun n=>⟨n.text.toArray⟩) issS (set_iss L) n0.kids cl0 hp;have e2:=allC_field L Cl.aud (fun n=>auds L n) audS (set_aud L) n0.kids cl0 hp;have e3:=allC_field L Cl.iat (fun n=>n.num) iatS (set_iat L) n0.kids cl0 hp;have e4:=allC_field L Cl.nbf (fun n=>n.num) nbfS (set_nbf L) n0.kids cl0 hp;have e5:=allC_field L Cl.exp (fun n=>n.num) expS (set_exp L) n0.kids cl0 hp;rw[if_neg p1]at e1;rw[if_neg p2]at e2;rw[if_neg p3]at e3;rw[if_neg p4]at e4;rw[if_neg p5]at e5;have hq:clD L n0.kids=allC L n0.kids cl0:=by
     generalize allC L n0.kids cl0=X at *;obtain⟨x1,x2,x3,x4,x5⟩:=X;simp only at e1 e2 e3 e4 e5;unfold clD;rw[e1,e2,e3,e4,e5];congr 1
     have hin:=memK_in L audS n0.kids p2;have hlt:=(hW.kids 0 n0 hn0 _ hin).2;obtain⟨m,hm⟩:∃m,L[(memK L audS n0.kids).toNat]?=some m:=⟨_,List.getElem?_eq_getElem hlt⟩;rw[ndA_of hm];unfold auds;by_cases h3:m.kind=3
     ·rw[if_pos h3,if_pos h3,hS m (List.mem_of_getElem? hm) h3];rfl
     ·rw[if_neg h3,if_neg h3];rfl
    rw[hq]
  ·rw[if_neg he,if_neg he]
 ·rw[if_neg h5,if_neg h5]
set_option linter.unusedSimpArgs false
theorem setC_few(L:List Nd)(n:Nd)(x:Cl)(hn:n.kids.length≤1000000)(hx:x.aud.length≤1000000):(setC L n x).aud.length≤1000000:=by
 rw[set_aud];split
 ·unfold auds;split
  ·simp
  ·rw[List.length_map];exact hn
 ·exact hx
theorem allC_few(L:List Nd)(hW:WFN L):∀(ks:List Nat) (x:Cl),(∀c∈ks,c<L.length)→x.aud.length≤1000000→(allC L ks x).aud.length≤1000000
 | [],x,_,hx=>hx
 | c::ks,x,hk,hx=>by
   rw[allC];obtain⟨m,hm⟩:∃m,L[c]?=some m:=⟨_,List.getElem?_eq_getElem (hk c (by simp))⟩;exact allC_few L hW ks _ (fun d hd=>hk d (by simp[hd])) (setC_few L _ x (by rw[ndA_of hm];exact hW.few c m hm) hx)
theorem rd_few(l:List UInt8):(rdCR (readL l)).1.aud.length≤1000000:=by
 cases hR:readL l with
 | error q=>obtain⟨e,a⟩:=q;simp[rdCR,cl0]
 | ok t=>
   have hW:=(read_fit hR).1;obtain⟨n0,r0,hf,_⟩:=flat_head 0 [] t;have hn0:(flat 0 [] t)[0]?=some n0:=by rw[hf];rfl
   show(rdC (flat 0 [] t)).1.aud.length≤1000000
   generalize flat 0 [] t=L at *;unfold rdC;rw[ndA_of hn0];split
   ·split
    ·split
     ·simp[cl0]
     ·exact allC_few L hW _ _ (fun c hc=>(hW.kids 0 n0 hn0 c hc).2) (by simp[cl0])
    ·simp[cl0]
   ·simp[cl0]
structure Sp (ay:Option Addr) (w w':World):Prop where
 os:w'.os=w.os
 tape:w'.tape=w.tape
 output:w'.output=w.output
 size:w.heap.size≤w'.heap.size
 block:∀k,k<w.heap.size→(∀o sp,ay≠some ⟨k,o,sp⟩)→w'.heap[k]?=w.heap[k]?
theorem Sp.refl(ay:Option Addr)(w:World):Sp ay w w:=⟨rfl,rfl,rfl,Nat.le_refl _,fun _ _ _=>rfl⟩
theorem Sp.set{ay:Option Addr}{w w':World}(h:Sp ay w w'){g off:Nat}(ha:ay=some ⟨g,off,none⟩)(k:Nat)(u:Value):Sp ay w (w'.setCell ⟨g,k,none⟩ u):=by
 have hf:=Fr.set g k w' u;exact⟨hf.os.trans h.os,hf.tape.trans h.tape,hf.output.trans h.output,Nat.le_trans h.size hf.size,fun j hj hn=>(hf.block j (Nat.lt_of_lt_of_le hj h.size) (fun e=>hn off none (by rw[ha,e]))).trans (h.block j hj hn)⟩
theorem Sp.low{ay:Option Addr}{B:Nat}{w0 w w':World}(h:Sp ay w w')(hb:Below B w0 w)(hB:∀g o sp,ay=some ⟨g,o,sp⟩→B≤g)(hs:B≤w.heap.size):Below B w0 w':=
 ⟨h.os.trans hb.os,h.tape.trans hb.tape,h.output.trans hb.output,Nat.le_trans hb.size h.size,fun k hk=>(h.block k (by omega) (fun o sp e=>by have:=hB k o sp e;omega)).trans (hb.block k hk)⟩
theorem Sp.cell{ay:Option Addr}{w w':World}(h:Sp ay w w'){g k:Nat}{v:Value}(hg:∀o sp,ay≠some ⟨g,o,sp⟩)(hc:w.cell? ⟨g,k,none⟩=some v):w'.cell? ⟨g,k,none⟩=some v:=by
 have:=h.block g (World.block_lt_of_cell? w _ hc) hg;simp only[World.cell?]at hc ⊢;rw[this];exact hc
theorem SR.sp{ay:Option Addr}{w w':World}{v:Value}{zs:List ByteArray}{B:Nat}(h:SR w v zs)(hs:Sp ay w w')(hv:∀g o sp l c,v=.slice (some ⟨g,o,sp⟩) l c→B≤g)(ha:∀g o sp,ay=some ⟨g,o,sp⟩→g<B):SR w' v zs:=by
 obtain⟨ad,cap,h1,h0,h2⟩:=h;refine⟨ad,cap,h1,h0,fun j z hj=>?_⟩;obtain⟨g,off,a,b⟩:=h2 j z hj;have hg:=hv g off none zs.length cap (by rw[h1,a]);exact⟨g,off,a,hs.cell (fun o sp e=>by have:=ha g o sp e;omega) b⟩
theorem C5.sp{ay:Option Addr}{w w':World}{b:Nat}{iss:ByteArray}{x:Value}{iat nbf exp:Int}(h:C5 w b iss x iat nbf exp)(hs:Sp ay w w')(hb:∀o sp,ay≠some ⟨b,o,sp⟩):C5 w' b iss x iat nbf exp:=
 ⟨hs.cell hb h.c0,hs.cell hb h.c1,hs.cell hb h.c2,hs.cell hb h.c3,hs.cell hb h.c4⟩
theorem cread_any(s:ByteArray)(w:World)(hg:8≤w.heap.size)(hG:GV w):Calls Tryz.prog 4 #[.string s] w fun r w'=>(∃x1 x2 x3,r=.returned (.tuple #[x1,x2,x3]))∧Below w.heap.size w w':=
 (cread s w hg hG).mono fun r w' ⟨⟨ay,ly,cy,e,_⟩,hb⟩=>⟨⟨_,_,_,e⟩,hb⟩
def Lies(ay:Option Addr)(n:Nat)(w:World):Prop:=∀g off,ay=some ⟨g,off,none⟩→(∀k,w.frozen? ⟨g,k,none⟩=false)∧∀j,j<n→∃z,w.cell? ⟨g,off+j,none⟩=some z
theorem Lies.set{ay:Option Addr}{n:Nat}{w:World}(h:Lies ay n w){g off:Nat}(ha:ay=some ⟨g,off,none⟩)(k:Nat)(u:Value):Lies ay n (w.setCell ⟨g,off+k,none⟩ u):=by
 intro g' off' e;rw[ha]at e;injection e with e;injection e with e1 e2;subst e1 e2;obtain⟨h1,h2⟩:=h g off ha;refine⟨fset h1,fun j hj=>?_⟩;obtain⟨z,hz⟩:=h2 j hj;by_cases hjk:j=k
 ·subst hjk
  exact⟨u,World.cell?_setCell_same _ _ _ hz⟩
 ·exact⟨z,cset hz (by omega)⟩
set_option maxRecDepth 4000 in
set_option maxHeartbeats 4000000 in
theorem lreads(s:ByteArray)(w:World)(hg:8≤w.heap.size)(hG:GV w)(hd:∀w1,Calls Tryz.prog 5 #[.string s] w1 fun r w'=>DQ w1.heap.size (rdCR (readL s.data.toList)) r w'∧Below w1.heap.size w1 w'):Calls Tryz.prog 3 #[.string s] w fun r w'=>r=.returned (.bool true)∧Below w.heap.size w w':=by
 have hl:=rd_few s.data.toList;have hc0:=fun w1 h1 h2=>cread s w1 h1 h2
 generalize rdCR (readL s.data.toList)=q at hl hc0 hd;obtain⟨⟨iss,aud,iat,nbf,exp⟩,e,a⟩:=q;have hl:aud.length≤1000000:=hl;have HC:Hid (∀w1:World,8≤w1.heap.size→GV w1→Calls Tryz.prog 4 #[.string s] w1 fun r w'=>(∃ay ly cy,r=.returned (.tuple #[.agg #[.string iss,.slice ay ly cy,.int .i64 iat,.int .i64 nbf,.int .i64 exp],.int .i64 e,.int .i64 a])∧SR w' (.slice ay ly cy) aud∧∀g o sp,ay=some ⟨g,o,sp⟩→w1.heap.size≤g∧UFb w' g)∧Below w1.heap.size w1 w'):=hc0;have HD:Hid (∀w1:World,Calls Tryz.prog 5 #[.string s] w1 fun r w'=>(∃y,r=.returned (.tuple #[.agg #[.string iss,y,.int .i64 iat,.int .i64 nbf,.int .i64 exp],.int .i64 e,.int .i64 a])∧SR w' y aud∧∀g o sp l c,y=.slice (some ⟨g,o,sp⟩) l c→w1.heap.size≤g)∧Below w1.heap.size w1 w'):=hd;clear hc0 hd;have HG:=dhid hG;have HA:=dhid cread_any;clear hG;go_enter Tryz.func3,Tryz.ntmps3;go_wp2_with fail
 refine(HC.out w hg HG.out).mono ?_;rintro r w1 ⟨⟨ay,ly,cy,rfl,hsr,hnew⟩,hb⟩;obtain rfl:ly=aud.length:=by obtain⟨ad,cap,e⟩:=hsr.shape;injection e
 have hz1:=hb.size;have HSR:=dhid hsr;have HY:Hid (∀g o sp,ay=some ⟨g,o,sp⟩→w.heap.size≤g∧g<w1.heap.size∧UFb w1 g):=fun g o sp h=>by
  obtain⟨h1,h2⟩:=hnew g o sp h;obtain⟨cur,ee,h3⟩:=id h2;exact⟨h1,(Array.getElem?_eq_some_iff.1 h3).1,h2⟩
 have HB1:=dhid hb;clear hsr hnew hb;go_wp2_with fail
 have HC1:=dhid (C5.new w1 iss (.slice ay aud.length cy) iat nbf exp 24);have HW1:=dhid (dbal (Below.refl w1.heap.size w1) (.cells #[.string iss,.slice ay aud.length cy,.int .i64 iat,.int .i64 nbf,.int .i64 exp] 24));have hzz:(w1.alloc (.cells #[.string iss,.slice ay aud.length cy,.int .i64 iat,.int .i64 nbf,.int .i64 exp] 24)).heap.size=w1.heap.size+1:=by simp
 generalize w1.alloc (.cells #[.string iss,.slice ay aud.length cy,.int .i64 iat,.int .i64 nbf,.int .i64 exp] 24)=W1 at *;have HG1:Hid (GV W1):=HG.out.kept fun k hk=>(HW1.out.block k (by omega)).trans (HB1.out.block k (by omega))
 refine(HA.out _ W1 (by omega) HG1.out).mono ?_;rintro r w2 ⟨⟨x1,x2,x3,rfl⟩,b2⟩;have hz2:=b2.size;have HW2:Hid (Below w1.heap.size w1 w2):=HW1.out.trans (b2.mono (by omega));have HC2:=dhid (HC1.out.low b2 (by omega));clear b2 HA HC1 HG1;go_wp2_with fail
 refine(HD.out w2).mono ?_;rintro r w3 ⟨⟨y,rfl,hsy,hny⟩,b3⟩;obtain⟨ad3,cap3,rfl⟩:=hsy.shape;have hz3:=b3.size;have HSY:=dhid hsy;have HNY:=dhid hny;have hC3:=HC2.out.low b3 (by omega);have HC3:=dhid hC3;have HW3:Hid (Below w1.heap.size w1 w3):=HW2.out.trans (b3.mono (by omega));have c0:=hC3.c0;have c1:=hC3.c1;have c2:=hC3.c2;have c3:=hC3.c3;have c4:=hC3.c4;have hbc:w1.heap.size<w3.heap.size:=by omega
 have c0a:∀o,(w3.alloc o).cell? ⟨w1.heap.size,0,none⟩=some (.string iss):=fun o=>(World.cell?_alloc_lt _ _ _ hbc).trans c0
 have c1a:∀o,(w3.alloc o).cell? ⟨w1.heap.size,1,none⟩=some (.slice ay aud.length cy):=fun o=>(World.cell?_alloc_lt _ _ _ hbc).trans c1
 have c2a:∀o,(w3.alloc o).cell? ⟨w1.heap.size,2,none⟩=some (.int .i64 iat):=fun o=>(World.cell?_alloc_lt _ _ _ hbc).trans c2
 have c3a:∀o,(w3.alloc o).cell? ⟨w1.heap.size,3,none⟩=some (.int .i64 nbf):=fun o=>(World.cell?_alloc_lt _ _ _ hbc).trans c3
 have c4a:∀o,(w3.alloc o).cell? ⟨w1.heap.size,4,none⟩=some (.int .i64 exp):=fun o=>(World.cell?_alloc_lt _ _ _ hbc).trans c4
 clear b3 hsy hny HD HC2 HW2 hC3;go_wp2_with fail
 have HC4:=dhid (HC3.out.low (dbal (Below.refl w3.heap.size w3) (.cells #[.string iss,.slice ad3 aud.length cap3,.int .i64 iat,.int .i64 nbf,.int .i64 exp] 28)) hbc);have HD4:=dhid (C5.new w3 iss (.slice ad3 aud.length cap3) iat nbf exp 28);have HB4:=dhid (dbal (Below.refl w3.heap.size w3) (.cells #[.string iss,.slice ad3 aud.length cap3,.int .i64 iat,.int .i64 nbf,.int .i64 exp] 28));have hz4:(w3.alloc (.cells #[.string iss,.slice ad3 aud.length cap3,.int .i64 iat,.int .i64 nbf,.int .i64 exp] 28)).heap.size=w3.heap.size+1:=by simp
 clear c0 c1 c2 c3 c4 c0a c1a c2a c3a c4a HC3;generalize w3.alloc (.cells #[.string iss,.slice ad3 aud.length cap3,.int .i64 iat,.int .i64 nbf,.int .i64 exp] 28)=W3 at *;have HW4:Hid (Below w1.heap.size w1 W3):=HW3.out.trans (HB4.out.mono (by omega));have HSY4:=dhid (HSY.out.below HB4.out);refine(lsameC iss _ _ aud iat nbf exp W3 (HSR.out.below HW4.out) HSY4.out (by omega)).mono ?_;rintro r W4 ⟨rfl,b4⟩;have hz5:=b4.size;have HC5:=dhid (HC4.out.low b4 (by omega));have HD5:=dhid (HD4.out.low b4 (by omega));have HSY5:=dhid (HSY4.out.below b4);have HW5:Hid (Below w1.heap.size w1 W4):=HW4.out.trans (b4.mono (by omega));have HB5:Hid (Below w.heap.size w W4):=HB1.out.trans (HW5.out.mono (by omega));have HS5:=dhid (HSR.out.below HW5.out);have HLi:Hid (Lies ay aud.length W4):=fun g off ha=>⟨fun k=>((HY.out g off none ha).2.2.below HW5.out).free k,fun j hj=>by
  obtain⟨ad,cap,h1,h0,h2⟩:=HS5.out;obtain⟨g',off',a1,b1⟩:=h2 j _ (List.getElem?_eq_getElem hj);injection h1 with h1;rw[←h1,ha]at a1;injection a1 with a1;injection a1 with e1 e2;subst e1 e2;exact⟨_,b1⟩⟩
 have HNE:Hid (∀b,w1.heap.size≤b→∀o sp,ay≠some ⟨b,o,sp⟩):=fun b hb o sp h=>by have:=(HY.out b o sp h).2.1;omega
 clear b4 HC4 HD4 HSY4 HW4 HW3 HW1 HB4 HSY;go_wp2_with fail
 go_loopw [10] (fun iv wr=>∃i:Nat,i≤aud.length∧iv=.int .i64 (i:Int)∧Sp ay W4 wr∧Lies ay aud.length wr) (fun iv _=>aud.length-(intOf iv).toNat)
 case atStart=>exact⟨0,by omega,rfl,Sp.refl _ _,HLi.out⟩
 case round=>
  obtain⟨i,hi,rfl,hS,hL⟩:=hrel;have c1:=(HC5.out.sp hS (HNE.out _ (Nat.le_refl _))).c1;by_cases hin:i<aud.length
  ·have k1:(i:Int)<(aud.length:Int):=by omega
   obtain⟨g,off,rfl⟩:∃g off,ay=some ⟨g,off,none⟩:=by
    obtain⟨ad,cap,h1,h0,h2⟩:=HS5.out;obtain⟨g',off',a1,b1⟩:=h2 i _ (List.getElem?_eq_getElem hin);injection h1 with h1;exact⟨g',off',by rw[h1,a1]⟩
   obtain⟨fz,hcs⟩:=hL g off rfl;obtain⟨z,d0⟩:=hcs i hin;have df:=fz (off+i);have HS:=dhid (hS.set rfl (off+i) (.string ⟨#[63]⟩));have HL2:=dhid (hL.set rfl i (.string ⟨#[63]⟩));clear hcs fz hS hL;go_wp2_with fail
   go_roundw
   case rel=>exact⟨i+1,by omega,by go_num,HS.out,HL2.out⟩
   case measure=>simp[intOf];omega
  ·have k1:¬(i:Int)<(aud.length:Int):=by omega
   have hlow:=hS.low HB5.out (fun g o sp h=>(HY.out g o sp h).1) (by omega);have hz6:=hS.size;have hG6:GV wr:=HG.out.kept fun k hk=>hlow.block k (by omega)
   have hCall:=HC.out wr (by omega) hG6;have HD6:=dhid (HD5.out.sp hS (HNE.out _ (by omega)));have HSY6:=dhid (HSY5.out.sp (B:=w2.heap.size) hS HNY.out (fun g o sp h=>by have:=(HY.out g o sp h).2.1;omega));have HLW:=dhid hlow;have HCL:=dhid hCall;clear hS hL hlow hG6 hCall;go_wp2_with fail
   refine HCL.out.mono ?_;rintro r w6 ⟨⟨ay6,ly6,cy6,rfl,hs6,hn6⟩,b6⟩;obtain rfl:ly6=aud.length:=by obtain⟨ad,cap,e⟩:=hs6.shape;injection e
   have hz7:=b6.size;have hd6:=HD6.out.low b6 (by omega);have HSY7:=dhid (HSY6.out.below b6);have HS6:=dhid hs6;have HB7:Hid (Below w.heap.size w w6):=HLW.out.trans (b6.mono (by omega));have hbd:w3.heap.size<w6.heap.size:=by omega
   have d0:=hd6.c0;have d1:=hd6.c1;have d2:=hd6.c2;have d3:=hd6.c3;have d4:=hd6.c4;have d0a:∀o,(w6.alloc o).cell? ⟨w3.heap.size,0,none⟩=some (.string iss):=fun o=>(World.cell?_alloc_lt _ _ _ hbd).trans d0
   have d1a:∀o,(w6.alloc o).cell? ⟨w3.heap.size,1,none⟩=some (.slice ad3 aud.length cap3):=fun o=>(World.cell?_alloc_lt _ _ _ hbd).trans d1
   have d2a:∀o,(w6.alloc o).cell? ⟨w3.heap.size,2,none⟩=some (.int .i64 iat):=fun o=>(World.cell?_alloc_lt _ _ _ hbd).trans d2
   have d3a:∀o,(w6.alloc o).cell? ⟨w3.heap.size,3,none⟩=some (.int .i64 nbf):=fun o=>(World.cell?_alloc_lt _ _ _ hbd).trans d3
   have d4a:∀o,(w6.alloc o).cell? ⟨w3.heap.size,4,none⟩=some (.int .i64 exp):=fun o=>(World.cell?_alloc_lt _ _ _ hbd).trans d4
   clear hs6 hn6 b6 hd6 HCL HSY6 HD6 HLW c1;go_wp2_with fail
   have HBA:=dhid (dbal (Below.refl w6.heap.size w6) (.cells #[.string iss,.slice ay6 aud.length cy6,.int .i64 iat,.int .i64 nbf,.int .i64 exp] 24));generalize w6.alloc (.cells #[.string iss,.slice ay6 aud.length cy6,.int .i64 iat,.int .i64 nbf,.int .i64 exp] 24)=W6 at *;refine(lsameC iss _ _ aud iat nbf exp W6 (HS6.out.below HBA.out) (HSY7.out.below HBA.out) (by omega)).mono ?_;rintro r W7 ⟨rfl,b7⟩;have HBZ:Hid (Below w.heap.size w W7):=HB7.out.trans ((HBA.out.trans (b7.mono HBA.out.size)).mono (by omega));clear b7 d0 d1 d2 d3 d4 d0a d1a d2a d3a d4a;go_wp2_with fail
   refine(lnumC e W7).mono ?_;rintro r w9 ⟨rfl,hw9⟩;rw[hw9];clear hw9 w9;go_wp2_with fail
   go_ret;exact⟨rfl,HBZ.out⟩
theorem rdD_same(l:List UInt8):rdDR (readL l)=rdCR (readL l):=by
 cases hR:readL l with
 | error q=>obtain⟨e,a⟩:=q;rfl
 | ok t=>exact rd_same hR
theorem rreadClaims_ok(s:ByteArray)(w:World)(hs:s.size≤140737488351232)(t:JT)(hR:readL s.data.toList=.ok t)(n0:Nd)(hn0:(flat 0 [] t)[0]?=some n0)(hStr:∀n∈flat 0 [] t,n.kind=3→n.kids=[]):Calls Tryz.prog 5 #[.string s] w fun r w'=>DQ w.heap.size (rdD (flat 0 [] t)) r w'∧Below w.heap.size w w':=by
 by_cases hk:n0.kind=5
 ·by_cases hE:(allE (flat 0 [] t) n0.kids).1=0
  ·by_cases hlk:lackB (flat 0 [] t) n0.kids=true
   ·exact rreadClaims_c s w hs t hR n0 hn0 hStr hk hE hlk
   ·by_cases hk3:(ndA (flat 0 [] t) (memK (flat 0 [] t) audS n0.kids).toNat).kind=3
    ·exact rreadClaims_d s w hs t hR n0 hn0 hStr hk hE hlk hk3
    ·exact rreadClaims_e s w hs t hR n0 hn0 hStr hk hE hlk hk3
  ·exact rreadClaims_b s w hs t hR n0 hn0 hStr hk hE
 ·exact rreadClaims_a s w hs t hR n0 hn0 hStr hk
theorem rreadClaims(s:ByteArray)(w:World)(hs:s.size≤140737488351232):Calls Tryz.prog 5 #[.string s] w fun r w'=>DQ w.heap.size (rdCR (readL s.data.toList)) r w'∧Below w.heap.size w w':=by
 rw[←rdD_same];cases hR:readL s.data.toList with
 | error q=>
   obtain⟨e,a⟩:=q;exact(rreadClaims_err s w hs e a hR).mono fun r w' h=>⟨by rw[h.1];exact DQ.nil _ _ _ _,h.2⟩
 | ok t=>
   obtain⟨n0,r0,hf,_⟩:=flat_head 0 [] t;exact rreadClaims_ok s w hs t hR n0 (by rw[hf];rfl) (flat_str 0 [] t)
theorem lreadsW(s:ByteArray)(w:World)(hg:8≤w.heap.size)(hG:GV w)(hs:s.size≤140737488351232):Calls Tryz.prog 3 #[.string s] w fun r w'=>r=.returned (.bool true)∧Below w.heap.size w w':=lreads s w hg hG fun w1=>rreadClaims s w1 hs
end Go.Proofs.YtaghclgookfmnaaGreatDoor
