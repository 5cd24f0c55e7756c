import Derived.Test.YtbbopknnoamkbaaGreatDoorDPar
import Derived.Test.YtbbopknnoamkbaaGreatDoorR1
import Derived.Test.YtbbopknnoamkbaaGreatDoorD1
set_option maxHeartbeats 4000000
set_option maxRecDepth 4000
namespace Go.Proofs.YtbbopknnoamkbaaGreatDoor
open Go.RowKit
set_option linter.unusedVariables false
set_option linter.unusedSimpArgs false
def RdQ(B:Nat)(q:Cl×Int×Int)(r:Ending)(w':World):Prop:=
 ∃ay ly cy,r=.returned (.tuple #[.agg #[.string q.1.iss,.slice ay ly cy,.int .i64 q.1.iat,.int .i64 q.1.nbf,.int .i64 q.1.exp],.int .i64 q.2.1,.int .i64 q.2.2])∧SR w' (.slice ay ly cy) q.1.aud∧∀g o sp,ay=some ⟨g,o,sp⟩→B≤g∧UFb w' g
theorem RdQ.nil(B:Nat)(e a:Int)(w':World):RdQ B (cl0,e,a) (.returned (.tuple #[.agg #[.string ⟨#[]⟩,.slice none 0 0,.int .i64 0,.int .i64 0,.int .i64 0],.int .i64 e,.int .i64 a])) w':=
 ⟨none,0,0,rfl,⟨none,0,rfl,fun _=>rfl,fun j z hj=>by simp[cl0]at hj⟩,fun g o sp h=>by cases h⟩
theorem below5{B b:Nat}{w w1:World}(h:Below B w w1)(hb:B≤b)(u0 u1 u2 u3 u4:Value):Below B w (((((w1.setCell ⟨b,0,none⟩ u0).setCell ⟨b,1,none⟩ u1).setCell ⟨b,2,none⟩ u2).setCell ⟨b,3,none⟩ u3).setCell ⟨b,4,none⟩ u4):=
 ((((h.setCell (p:=⟨b,0,none⟩) hb _).setCell (p:=⟨b,1,none⟩) hb _).setCell (p:=⟨b,2,none⟩) hb _).setCell (p:=⟨b,3,none⟩) hb _).setCell (p:=⟨b,4,none⟩) hb _
theorem fr5(b:Nat)(w1:World)(u0 u1 u2 u3 u4:Value):Fr b w1 (((((w1.setCell ⟨b,0,none⟩ u0).setCell ⟨b,1,none⟩ u1).setCell ⟨b,2,none⟩ u2).setCell ⟨b,3,none⟩ u3).setCell ⟨b,4,none⟩ u4):=
 ((((Fr.set b 0 _ _).trans (Fr.set b 1 _ _)).trans (Fr.set b 2 _ _)).trans (Fr.set b 3 _ _)).trans (Fr.set b 4 _ _)
theorem sr5(w:World):SR (w.alloc (.cells #[.string ⟨#[105,115,115]⟩,.string ⟨#[97,117,100]⟩,.string ⟨#[105,97,116]⟩,.string ⟨#[110,98,102]⟩,.string ⟨#[101,120,112]⟩] 9)) (.slice (some ⟨w.heap.size,0,none⟩) 5 5) ([issS,audS,iatS,nbfS,expS].map strV):=by
 refine⟨some ⟨w.heap.size,0,none⟩,5,rfl,(fun h=>by cases h),fun j z hj=>⟨_,_,rfl,?_⟩⟩;match j with
 | 0=>simp at hj;subst hj;simp;rfl
 | 1=>simp at hj;subst hj;simp;rfl
 | 2=>simp at hj;subst hj;simp;rfl
 | 3=>simp at hj;subst hj;simp;rfl
 | 4=>simp at hj;subst hj;simp;rfl
 | j+5=>simp at hj
theorem Fr.frozen{b g k:Nat}{w w':World}(h:Fr b w w')(hg:g<w.heap.size)(hb:g≠b):w'.frozen? ⟨g,k,none⟩=w.frozen? ⟨g,k,none⟩:=by
 simp only[World.frozen?];rw[h.block g hg hb]
def rdQ(L:List Nd)(kids:List Nat):Cl×Int×Int:=if(allE L kids).1=0 then if lckL L kids [issS,audS,iatS,nbfS,expS]=true then(cl0,7,0)else(allC L kids cl0,0,0)else(cl0,allE L kids)
theorem cread_err(s:ByteArray)(w:World)(hg:9≤w.heap.size)(hG:GV w)(e a:Int)(hP:∀w1:World,9≤w1.heap.size→GV w1→Calls Tryz.prog 59 #[.string s] w1 fun r w'=>r=.returned (.tuple #[.agg #[.slice none 0 0],.int .i64 e,.int .i64 a])∧Below w1.heap.size w1 w'∧e≠0):Calls Tryz.prog 35 #[.string s] w fun r w'=>RdQ w.heap.size (cl0,e,a) r w'∧Below w.heap.size w w':=by
 have HP:=dhid (hP (w.alloc (.cells #[.string ⟨#[]⟩,.slice none 0 0,.int .i64 0,.int .i64 0,.int .i64 0] 57)) (by simp;omega) (hG.kept fun k hk=>(dbal (Below.refl w.heap.size w) _).block k (by omega)));clear hP;go_enter Tryz.func35,Tryz.ntmps35;go_wp2_with fail
 refine HP.out.mono ?_;rintro r w1 ⟨rfl,hb,he⟩;have z0:w1.cell? ⟨w.heap.size,0,none⟩=some (.string ⟨#[]⟩):=cell_kp hb (by simp);have z1:w1.cell? ⟨w.heap.size,1,none⟩=some (.slice none 0 0):=cell_kp hb (by simp);have z2:w1.cell? ⟨w.heap.size,2,none⟩=some (.int .i64 0):=cell_kp hb (by simp);have z3:w1.cell? ⟨w.heap.size,3,none⟩=some (.int .i64 0):=cell_kp hb (by simp);have z4:w1.cell? ⟨w.heap.size,4,none⟩=some (.int .i64 0):=cell_kp hb (by simp);have f0:∀k,w1.frozen? ⟨w.heap.size,k,none⟩=false:=fun k=>(hb.frozen (p:=⟨w.heap.size,k,none⟩) (by simp)).trans (by simp)
 have hlt:w.heap.size<w1.heap.size:=by have:=hb.size;simp at this;omega
 have hne:(e != 0)=true:=by simp[he]
 have HB:=dhid ((dbal (Below.refl w.heap.size w) _).trans (hb.mono (by simp)));clear hb HP;have y0:∀o,(w1.alloc o).cell? ⟨w.heap.size,0,none⟩=some (.string ⟨#[]⟩):=fun o=>(World.cell?_alloc_lt _ _ _ hlt).trans z0
 have y1:∀o,(w1.alloc o).cell? ⟨w.heap.size,1,none⟩=some (.slice none 0 0):=fun o=>(World.cell?_alloc_lt _ _ _ hlt).trans z1
 have y2:∀o,(w1.alloc o).cell? ⟨w.heap.size,2,none⟩=some (.int .i64 0):=fun o=>(World.cell?_alloc_lt _ _ _ hlt).trans z2
 have y3:∀o,(w1.alloc o).cell? ⟨w.heap.size,3,none⟩=some (.int .i64 0):=fun o=>(World.cell?_alloc_lt _ _ _ hlt).trans z3
 have y4:∀o,(w1.alloc o).cell? ⟨w.heap.size,4,none⟩=some (.int .i64 0):=fun o=>(World.cell?_alloc_lt _ _ _ hlt).trans z4
 have yf:∀o k,(w1.alloc o).frozen? ⟨w.heap.size,k,none⟩=false:=fun o k=>((dbal (Below.refl w1.heap.size w1) o).frozen (p:=⟨w.heap.size,k,none⟩) hlt).trans (f0 k)
 go_wp2_with fail
 refine bodyPost_ret (v:=.tuple #[.agg #[.string ⟨#[]⟩,.slice none 0 0,.int .i64 0,.int .i64 0,.int .i64 0],.int .i64 e,.int .i64 a]) (by simp[results,Tryz.results35,go_sem,World.cell?_alloc_lt,hlt,z0,z1,z2,z3,z4]) rfl ⟨RdQ.nil _ _ _ _,?_⟩;exact dbal (below5 HB.out (Nat.le_refl _) _ _ _ _ _) _
theorem cread_ok(s:ByteArray)(w:World)(hg:9≤w.heap.size)(hG:GV w)(t:JT)(hR:readL s.data.toList=.ok t)(n0:Nd)(hn0:(flat 0 [] t)[0]?=some n0)(hk:n0.kind=5):Calls Tryz.prog 35 #[.string s] w fun r w'=>RdQ w.heap.size (rdC (flat 0 [] t)) r w'∧Below w.heap.size w w':=by
 have HP:=dhid (cpar_ok s (w.alloc (.cells #[.string ⟨#[]⟩,.slice none 0 0,.int .i64 0,.int .i64 0,.int .i64 0] 57)) (by simp;omega) (hG.kept fun k hk=>(dbal (Below.refl w.heap.size w) _).block k (by omega)) t hR n0 hn0 hk);have HW:=dhid (read_fit hR).1;have HN0:=dhid hn0;have hrd:rdC (flat 0 [] t)=rdQ (flat 0 [] t) n0.kids:=by
  unfold rdC rdQ;rw[ndA_of hn0,if_pos hk,lackB_eq]
 rw[hrd];clear hrd hR hn0 hk;generalize flat 0 [] t=L at *;go_enter Tryz.func35,Tryz.ntmps35;go_wp2_with fail
 refine HP.out.mono ?_;rintro r w1 ⟨⟨v,rfl,hx⟩,hb⟩;obtain⟨ad,cap,rfl⟩:=hx.shape;have z0:w1.cell? ⟨w.heap.size,0,none⟩=some (.string ⟨#[]⟩):=cell_kp hb (by simp);have z1:w1.cell? ⟨w.heap.size,1,none⟩=some (.slice none 0 0):=cell_kp hb (by simp);have z2:w1.cell? ⟨w.heap.size,2,none⟩=some (.int .i64 0):=cell_kp hb (by simp);have z3:w1.cell? ⟨w.heap.size,3,none⟩=some (.int .i64 0):=cell_kp hb (by simp);have z4:w1.cell? ⟨w.heap.size,4,none⟩=some (.int .i64 0):=cell_kp hb (by simp);have f0:∀k,w1.frozen? ⟨w.heap.size,k,none⟩=false:=fun k=>(hb.frozen (p:=⟨w.heap.size,k,none⟩) (by simp)).trans (by simp)
 have hlt:w.heap.size<w1.heap.size:=by have:=hb.size;simp at this;omega
 have HB:=dhid ((dbal (Below.refl w.heap.size w) _).trans (hb.mono (by simp)));have HX:=dhid hx;have HZ:=dhid (And.intro z0 (And.intro z1 (And.intro z2 (And.intro z3 z4))));have HF0:=dhid f0;clear hb HP hx z0 z1 z2 z3 z4 f0;go_wp2_with fail
 have HX2:=dhid (HX.out.below (dbal (Below.refl w1.heap.size w1) (.cells #[.slice ad L.length cap] 92)));have HS2:Hid ((w1.alloc (.cells #[.slice ad L.length cap] 92)).heap.size=w1.heap.size+1):=dhid (by simp);have HO2:Hid ((w1.alloc (.cells #[.slice ad L.length cap] 92)).cell? ⟨w1.heap.size,0,none⟩=some (.slice ad L.length cap)):=dhid (by simp);have HB2:=dhid (dbal (Below.refl w1.heap.size w1) (.cells #[.slice ad L.length cap] 92));generalize w1.alloc (.cells #[.slice ad L.length cap] 92)=W2 at *;have HB3:=dhid (dbal (Below.refl W2.heap.size W2) (.cells #[.string ⟨#[]⟩,.slice none 0 0,.int .i64 0,.int .i64 0,.int .i64 0] 57));have HS3:Hid ((W2.alloc (.cells #[.string ⟨#[]⟩,.slice none 0 0,.int .i64 0,.int .i64 0,.int .i64 0] 57)).heap.size=w1.heap.size+2):=dhid (by have:=HS2.out;simp;omega);have HC3:Hid (CS (w1.heap.size+1) cl0 (W2.alloc (.cells #[.string ⟨#[]⟩,.slice none 0 0,.int .i64 0,.int .i64 0,.int .i64 0] 57))):=dhid (by
  rw[←HS2.out];exact⟨⟨none,0,0,⟨by simp[cl0],by simp,by simp[cl0],by simp[cl0],by simp[cl0]⟩,⟨none,0,rfl,fun _=>rfl,fun j z hj=>by simp[cl0]at hj⟩,fun g o sp h=>by cases h⟩,fun k=>by simp⟩)
 generalize W2.alloc (.cells #[.string ⟨#[]⟩,.slice none 0 0,.int .i64 0,.int .i64 0,.int .i64 0] 57)=W at *;have o5:W.cell? ⟨w1.heap.size,0,none⟩=some (.slice ad L.length cap):=cell_kp HB3.out HO2.out
 go_region_with (first
  | (go_at_call 68;refine(ctellTo ad L.length cap (w1.heap.size+1) _ (by have:=HS3.out;simp;omega)).mono ?_;rintro r w2 ⟨⟨b1,b2,b5,bm,rfl,hT⟩,hb2⟩;have HT:=dhid hT;have HB4:=dhid hb2;have o6:w2.cell? ⟨w1.heap.size,0,none⟩=some (.slice ad L.length cap):=cell_kp hb2 (by simpa using o5);clear hT hb2)
  | (go_at_call 60;refine(ceach ad cap L HW.out (w1.heap.size+1) b1 b2 b5 bm cl0 W2 w2 n0 HN0.out HX2.out (by have:=HS2.out;omega) ((HB3.out.drew.trans (HB4.out.mono HB3.out.size)).mono (by have:=HS2.out;omega)) HT.out (HC3.out.below ((Below.refl W.heap.size W).drew.trans HB4.out))).mono ?_;rintro r w3 ⟨rfl,hC4,hF4⟩;have HC4:=dhid hC4;have HF4:=dhid hF4;clear hC4 hF4))
 all_goals have HBw2:Hid (Below W2.heap.size W2 w2):=dhid (HB3.out.drew.trans (HB4.out.mono HB3.out.size))
 all_goals have HX3:=dhid (HX2.out.below (HF4.out.low HBw2.out (by have:=HS2.out;omega) HBw2.out.size))
 all_goals have HBw1:Hid (Below w1.heap.size w1 w2):=dhid (HB2.out.trans (HBw2.out.mono HB2.out.size))
 all_goals have HBa:Hid (Below w.heap.size w w3):=dhid (HF4.out.low (HB.out.trans (HBw1.out.mono (by omega))) (by omega) (by have:=HBw1.out.size;omega))
 all_goals have hlt3:w.heap.size<w3.heap.size:=by have:=HBw1.out.size;have:=HF4.out.size;omega
 all_goals have z0:w3.cell? ⟨w.heap.size,0,none⟩=some (.string ⟨#[]⟩):=HF4.out.cell (by omega) (cell_kp HBw1.out HZ.out.1)
 all_goals have z1:w3.cell? ⟨w.heap.size,1,none⟩=some (.slice none 0 0):=HF4.out.cell (by omega) (cell_kp HBw1.out HZ.out.2.1)
 all_goals have z2:w3.cell? ⟨w.heap.size,2,none⟩=some (.int .i64 0):=HF4.out.cell (by omega) (cell_kp HBw1.out HZ.out.2.2.1)
 all_goals have z3:w3.cell? ⟨w.heap.size,3,none⟩=some (.int .i64 0):=HF4.out.cell (by omega) (cell_kp HBw1.out HZ.out.2.2.2.1)
 all_goals have z4:w3.cell? ⟨w.heap.size,4,none⟩=some (.int .i64 0):=HF4.out.cell (by omega) (cell_kp HBw1.out HZ.out.2.2.2.2)
 all_goals have f0:∀k,w3.frozen? ⟨w.heap.size,k,none⟩=false:=fun k=>(HF4.out.frozen (by have:=HBw1.out.size;omega) (by omega)).trans ((HBw1.out.frozen (p:=⟨w.heap.size,k,none⟩) hlt).trans (HF0.out k))
 all_goals have o7:w3.cell? ⟨w1.heap.size,0,none⟩=some (.slice ad L.length cap):=HF4.out.cell (by omega) o6
 all_goals clear HB4 HT HB3 HC3 HS3 HX2 HX HB2 HO2 HZ HF0 o5 o6 HBw2 HB
 all_goals (
  by_cases he:(allE L n0.kids).1=0
  ·have HC5:=dhid (HC4.out he)
   have HE:=dhid he;clear HC4;go_wp2_with fail
   refine(clacks ad cap L HW.out n0 HN0.out _ (HX3.out.below (dbal (Below.refl _ _) _)) [issS,audS,iatS,nbfS,expS] (some ⟨w3.heap.size,0,none⟩) 5 (sr5 w3) (by simp)).mono ?_;rintro r w4 ⟨rfl,hb4⟩;have HB5:Hid (Below w3.heap.size w3 w4):=dhid ((dbal (Below.refl w3.heap.size w3) _).trans (hb4.mono (by simp)));clear hb4;have y0:=cell_kp HB5.out z0;have y1:=cell_kp HB5.out z1;have y2:=cell_kp HB5.out z2;have y3:=cell_kp HB5.out z3;have y4:=cell_kp HB5.out z4;have g0:∀k,w4.frozen? ⟨w.heap.size,k,none⟩=false:=fun k=>(HB5.out.frozen (p:=⟨w.heap.size,k,none⟩) hlt3).trans (f0 k)
   have HBb:Hid (Below w.heap.size w w4):=dhid (HBa.out.trans (HB5.out.mono (by omega)));clear z0 z1 z2 z3 z4 f0 HBa;cases hlk:lckL L n0.kids [issS,audS,iatS,nbfS,expS]with
   | true=>
     have hq:Hid (rdQ L n0.kids=(cl0,7,0)):=dhid (by unfold rdQ;rw[if_pos HE.out,if_pos hlk]);clear hlk;go_wp2_with fail
     refine bodyPost_ret (v:=.tuple #[.agg #[.string ⟨#[]⟩,.slice none 0 0,.int .i64 0,.int .i64 0,.int .i64 0],.int .i64 7,.int .i64 0]) (by simp[results,Tryz.results35,go_sem,y0,y1,y2,y3,y4]) rfl ⟨by rw[hq.out];exact RdQ.nil _ _ _ _,?_⟩;exact below5 HBb.out (Nat.le_refl _) _ _ _ _ _
   | false=>
     have hq:Hid (rdQ L n0.kids=(allC L n0.kids cl0,0,0)):=dhid (by unfold rdQ;rw[if_pos HE.out,if_neg (by rw[hlk];simp)]);clear hlk;obtain⟨ay,ly,cy,q5,hsr,hnew⟩:=(HC5.out.below HB5.out).cs;have c0:=q5.c0;have c1:=q5.c1;have c2:=q5.c2;have c3:=q5.c3;have c4:=q5.c4;have HSR:=dhid hsr;have HNW:=dhid hnew;clear q5 hsr hnew HC5;generalize allC L n0.kids cl0=X at *;go_wp2_with fail
     refine bodyPost_ret (v:=.tuple #[.agg #[.string X.iss,.slice ay ly cy,.int .i64 X.iat,.int .i64 X.nbf,.int .i64 X.exp],.int .i64 0,.int .i64 0]) (by simp[results,Tryz.results35,go_sem,y0,y1,y2,y3,y4]) rfl ⟨?_,below5 HBb.out (Nat.le_refl _) _ _ _ _ _⟩;rw[hq.out];exact⟨ay,ly,cy,rfl,HSR.out.fr (fr5 _ _ _ _ _ _ _) (fun g o sp hg=>by have:=(HNW.out g o sp hg).1;omega),fun g o sp hg=>⟨by have:=(HNW.out g o sp hg).1;omega,(HNW.out g o sp hg).2.fr (fr5 _ _ _ _ _ _ _) (by have:=(HNW.out g o sp hg).1;omega)⟩⟩
  ·have hq:Hid (rdQ L n0.kids=(cl0,allE L n0.kids)):=dhid (by unfold rdQ;rw[if_neg he])
   have he2:((allE L n0.kids).1 != 0)=true:=by simp[he]
   clear HC4;go_wp2_with fail
   refine bodyPost_ret (v:=.tuple #[.agg #[.string ⟨#[]⟩,.slice none 0 0,.int .i64 0,.int .i64 0,.int .i64 0],.int .i64 (allE L n0.kids).1,.int .i64 (allE L n0.kids).2]) (by simp[results,Tryz.results35,go_sem,z0,z1,z2,z3,z4]) rfl ⟨by rw[hq.out];exact RdQ.nil _ _ _ _,?_⟩;exact below5 HBa.out (Nat.le_refl _) _ _ _ _ _)
def rdCR(R:Except (Nat×Nat) JT):Cl×Int×Int:=match R with| .ok t=>rdC (flat 0 [] t)| .error (e,a)=>(cl0,(e:Int),(a:Int))
theorem cread(s:ByteArray)(w:World)(hg:9≤w.heap.size)(hG:GV w):Calls Tryz.prog 35 #[.string s] w fun r w'=>RdQ w.heap.size (rdCR (readL s.data.toList)) r w'∧Below w.heap.size w w':=by
 cases hR:readL s.data.toList with
 | error q=>
   obtain⟨e,a⟩:=q;exact cread_err s w hg hG e a fun w1 h1 h2=>(cpar_err s w1 h1 h2 e a hR).mono fun r w' h=>⟨h.1,h.2.1,by have:=h.2.2;omega⟩
 | ok t=>
   obtain⟨n0,r0,hf,_⟩:=flat_head 0 [] t;have hn0:(flat 0 [] t)[0]?=some n0:=by rw[hf];rfl
   by_cases hk:n0.kind=5
   ·exact cread_ok s w hg hG t hR n0 hn0 hk
   ·have e:rdCR (.ok t)=(cl0,6,(n0.at':Int)):=by
     show rdC (flat 0 [] t)=_
     unfold rdC;rw[ndA_of hn0,if_neg hk]
    rw[e];exact cread_err s w hg hG 6 n0.at' fun w1 h1 h2=>(cpar_kind s w1 h1 h2 t hR n0 hn0 hk).mono fun r w' h=>⟨h.1,h.2,by decide⟩
theorem sne{a b:ByteArray}(h:a≠b):(a.toList==b.toList)=false:=by
 rw[beq_eq_false_iff_ne,ByteArray.toList_eq,ByteArray.toList_eq];intro h2;exact h (by cases a;cases b;simp at h2;simp[h2])
theorem none_so{zs:List ByteArray}{s:ByteArray}{i:Nat}(h:∀j,j<i→zs[j]?≠some s)(hi:zs.length≤i):s∉zs:=fun hm=>by
 obtain⟨j,hj⟩:=List.getElem?_of_mem hm;exact h j (by have:=(List.getElem?_eq_some_iff.1 hj).1;omega) hj
theorem cindex(x:Value)(zs:List ByteArray)(s:ByteArray)(w:World)(hx:SR w x zs)(hl:zs.length≤140737488355328):Calls Tryz.prog 108 #[x,.string s] w fun r w'=>(∃k:Int,r=.returned (.int .i64 k)∧(0≤k↔s∈zs))∧Below w.heap.size w w':=by
 obtain⟨ad,cap,rfl,_,hx⟩:=hx;have HX:=hidd hx;clear hx;go_enter Tryz.func108,Tryz.ntmps108;go_wp2_with fail
 go_loopw [8] (fun iv wr=>∃i:Nat,i≤zs.length∧iv=.int .i64 (i:Int)∧wr=w∧Hid (∀j,j<i→zs[j]?≠some s)) (fun iv _=>zs.length-(intOf iv).toNat)
 case atStart=>exact⟨0,by omega,rfl,rfl,fun j hj=>by omega⟩
 case round=>
  obtain⟨i,hi,rfl,rfl,hno⟩:=hrel;by_cases hlt:i<zs.length
  ·have k1:(i:Int)<(zs.length:Int):=by omega
   obtain⟨z,hz⟩:∃z,zs[i]?=some z:=⟨_,List.getElem?_eq_getElem hlt⟩;obtain⟨g,off,rfl,c1⟩:=HX.out i z hz;have HZ:=hidd hz;clear hz;by_cases he:s=z
   ·subst he
    go_wp2;go_ret;exact⟨⟨_,rfl,by simp[List.mem_of_getElem? HZ.out]⟩,Below.refl _ _⟩
   ·have he':=sne he
    have HE:=hidd he;clear he;go_wp2_with fail
    go_roundw
    case rel=>
     refine⟨i+1,by omega,by go_num,trivial,fun j hj=>?_⟩;by_cases hji:j=i
     ·subst hji;rw[HZ.out];intro h;injection h with h;exact HE.out h.symm
     ·exact hno.out j (by omega)
    case measure=>simp[intOf];omega
  ·have k1:¬(i:Int)<(zs.length:Int):=by omega
   go_wp2;go_ret;exact⟨⟨_,rfl,by simp[none_so hno.out (by omega)]⟩,Below.refl _ _⟩
theorem ccontains(x:Value)(zs:List ByteArray)(s:ByteArray)(w:World)(hx:SR w x zs)(hl:zs.length≤140737488355328)(b:Bool)(hb:b=true↔s∈zs):Calls Tryz.prog 69 #[x,.string s] w fun r w'=>r=.returned (.bool b)∧Below w.heap.size w w':=by
 have h:=hidd (cindex x zs s w hx hl);have HB0:=hidd hb;clear hx hb;go_enter Tryz.func69,Tryz.ntmps69;go_wp2_with fail
 refine h.out.mono ?_;rintro r w1 ⟨⟨k,rfl,hk⟩,hb⟩;have HK:=hidd hk;have HB:=hidd hb;clear hk hb;go_wp2;go_ret;refine⟨?_,HB.out⟩;have e:b=decide (0≤k):=by rw[Bool.eq_iff_iff,HB0.out,decide_eq_true_iff];exact HK.out.symm
 rw[e];rfl
def chkN(i a:Bool)(nbf exp now lee:Int):Int:=
 if now<0∨9007199254740991<now∨lee<0∨1000000<lee then 3 else if i=false then 15 else if a=false then 16 else if now+lee<nbf then 17 else if exp≤now-lee then 18 else 0
def claimsV(iss:ByteArray)(x:Value)(iat nbf exp:Int):Value:=.agg #[.string iss,x,.int .i64 iat,.int .i64 nbf,.int .i64 exp]
theorem ccheck(iss0:ByteArray)(x:Value)(zs:List ByteArray)(iat nbf exp now lee:Int)(iss aud:ByteArray)(w:World)(hx:SR w x zs)(hl:zs.length≤140737488355328)(a:Bool)(ha:a=true↔aud∈zs)(i:Bool)(hi:i=true↔iss0=iss):Calls Tryz.prog 36 #[.agg #[.string iss0,x,.int .i64 iat,.int .i64 nbf,.int .i64 exp],.int .i64 now,.int .i64 lee,.string iss,.string aud] w fun r w'=>r=.returned (.int .i64 (chkN i a nbf exp now lee))∧Below w.heap.size w w':=by
 by_cases hr:now<0∨9007199254740991<now∨lee<0∨1000000<lee
 ·have e:chkN i a nbf exp now lee=3:=by unfold chkN;rw[if_pos hr]
  rw[e];clear hx ha hi e;by_cases h1:now<0
  ·clear hr
   go_enter Tryz.func36,Tryz.ntmps36;go_wp2;go_ret;exact⟨rfl,sbal (Below.refl _ _) _⟩
  ·by_cases h2:9007199254740991<now
   ·clear hr
    go_enter Tryz.func36,Tryz.ntmps36;go_wp2;go_ret;exact⟨rfl,sbal (Below.refl _ _) _⟩
   ·by_cases h3:lee<0
    ·clear hr
     go_enter Tryz.func36,Tryz.ntmps36;go_wp2;go_ret;exact⟨rfl,sbal (Below.refl _ _) _⟩
    ·have h4:1000000<lee:=by omega
     clear hr;go_enter Tryz.func36,Tryz.ntmps36;go_wp2;go_ret;exact⟨rfl,sbal (Below.refl _ _) _⟩
 ·have h1:¬now<0:=by omega
  have h2:¬9007199254740991<now:=by omega
  have h3:¬lee<0:=by omega
  have h4:¬1000000<lee:=by omega
  by_cases hi':iss0=iss
  ·obtain rfl:=hi'
   obtain rfl:i=true:=hi.2 rfl;have hcont:=fun w1 (b1:Below w.heap.size w w1)=>ccontains x zs aud w1 (hx.below b1) hl a ha
   have HC:=hidd hcont;have E:Hid (chkN true a nbf exp now lee=if a=false then 16 else if now+lee<nbf then 17 else if exp≤now-lee then 18 else 0):=by unfold chkN;rw[if_neg hr,if_neg (by simp)];exact rfl
   clear hx ha hi hcont hr;go_enter Tryz.func36,Tryz.ntmps36;go_wp2_with fail
   refine(HC.out _ (sbal (Below.refl _ _) _)).mono ?_;rintro r w1 ⟨rfl,hb⟩;have c3:w1.cell? ⟨w.heap.size,3,none⟩=some (.int .i64 nbf):=scell_kp hb (by simp);have c4:w1.cell? ⟨w.heap.size,4,none⟩=some (.int .i64 exp):=scell_kp hb (by simp);have HB:=hidd ((sbal (Below.refl w.heap.size w) _).trans (hb.mono (by simp)));clear hb;cases a with
   | false=>
     go_wp2;go_ret;exact⟨by rw[E.out];rfl,HB.out⟩
   | true=>
     by_cases h5:now+lee<nbf
     ·go_wp2
      go_ret;exact⟨by rw[E.out,if_neg (by simp),if_pos (by omega)];rfl,HB.out⟩
     ·by_cases h6:exp≤now-lee
      ·go_wp2
       go_ret;exact⟨by rw[E.out,if_neg (by simp),if_neg (by omega),if_pos (by omega)];rfl,HB.out⟩
      ·go_wp2
       go_ret;exact⟨by rw[E.out,if_neg (by simp),if_neg (by omega),if_neg (by omega)];rfl,HB.out⟩
  ·have hne:=sne hi'
   have e:chkN i a nbf exp now lee=15:=by
    unfold chkN;rw[if_neg hr,if_pos];cases i with
    | true=>exact absurd (hi.1 rfl) hi'
    | false=>rfl
   rw[e];clear hx ha hi e hr hi';go_enter Tryz.func36,Tryz.ntmps36;go_wp2;go_ret;exact⟨rfl,sbal (Below.refl _ _) _⟩
end Go.Proofs.YtbbopknnoamkbaaGreatDoor
