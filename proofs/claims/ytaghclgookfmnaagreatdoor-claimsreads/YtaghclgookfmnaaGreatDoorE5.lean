import Derived.Test.YtaghclgookfmnaaGreatDoorE2
import Derived.Test.YtaghclgookfmnaaGreatDoorE1
import Derived.Test.YtaghclgookfmnaaGreatDoorNRow
import Derived.Test.YtaghclgookfmnaaGreatDoorNR3
import Derived.BigRegion
import Derived.Deep.RegionHeld3
set_option maxHeartbeats 8000000
set_option maxRecDepth 10000
namespace Go.Proofs.YtaghclgookfmnaaGreatDoor
open Go.RowKit
set_option linter.unusedVariables false
def audTD(L:List Nd)(kids:List Nat):List ByteArray:=kids.map fun c=>⟨(ndA L c).text.toArray⟩
def clD(L:List Nd)(kids:List Nat):Cl:=
 ⟨⟨(ndA L (memK L issS kids).toNat).text.toArray⟩,(if(ndA L (memK L audS kids).toNat).kind=3 then [⟨(ndA L (memK L audS kids).toNat).text.toArray⟩]else [])++(ndA L (memK L audS kids).toNat).kids.map (fun c=>⟨(ndA L c).text.toArray⟩),(ndA L (memK L iatS kids).toNat).num,(ndA L (memK L nbfS kids).toNat).num,(ndA L (memK L expS kids).toNat).num⟩
def rdD(L:List Nd):Cl×Int×Int:=
 if(ndA L 0).kind=5 then
  if(allE L (ndA L 0).kids).1=0 then
   if lackB L (ndA L 0).kids=true then(cl0,7,0)else(clD L (ndA L 0).kids,0,0)
  else(cl0,allE L (ndA L 0).kids)
 else(cl0,6,((ndA L 0).at':Int))
def rdDR(R:Except (Nat×Nat) JT):Cl×Int×Int:=match R with| .ok t=>rdD (flat 0 [] t)| .error (e,a)=>(cl0,(e:Int),(a:Int))
theorem rread_nd(s:ByteArray)(w:World)(hs:s.size≤140737488351232):Calls Tryz.prog 12 #[.string s] w fun r w'=>(match readL s.data.toList with
 | .ok t=>∃v,r=.returned (.tuple #[v,.int .i64 0,.int .i64 0])∧RR 51 v (flat 0 [] t) w'
 | .error (e,a)=>r=.returned (.tuple #[.slice none 0 0,.int .i64 (e:Int),.int .i64 (a:Int)])∧0<e)∧Below w.heap.size w w':=by
 refine(rread s w hs).mono ?_;rintro r w' ⟨h,hb⟩;refine⟨?_,hb⟩;cases hR:readL s.data.toList with
 | error q=>obtain⟨e,a⟩:=q;rw[hR]at h;exact h
 | ok t=>
   rw[hR]at h;obtain⟨v,e,kvs,hN⟩:=h;obtain⟨hW,_⟩:=read_fit hR;exact⟨v,e,RR.of (kvs:=kvs) hN (fun n hn=>by obtain⟨k,hk⟩:=List.getElem?_of_mem hn;have:=hW.few k n hk;omega)⟩
theorem rreadClaims_err(s:ByteArray)(w:World)(hs:s.size≤140737488351232)(e a:Nat)(hR:readL s.data.toList=.error (e,a)):Calls Tryz.prog 5 #[.string s] w fun r w'=>r=.returned (.tuple #[.agg #[.string ⟨#[]⟩,.slice none 0 0,.int .i64 0,.int .i64 0,.int .i64 0],.int .i64 (e:Int),.int .i64 (a:Int)])∧Below w.heap.size w w':=by
 have hrd:=fun w1=>rread_nd s w1 hs
 rw[hR]at hrd;have HR:=dhid hrd;clear hrd hR;go_enter Tryz.func5,Tryz.ntmps5;go_wp2_with fail
 refine(HR.out _).mono ?_;rintro r w1 ⟨⟨rfl,he⟩,hb⟩;have z0:w1.cell? ⟨w.heap.size,0,none⟩=some (.string ⟨#[]⟩):=cell_kp hb (by simp);have z1:w1.cell? ⟨w.heap.size,1,none⟩=some (.slice none 0 0):=cell_kp hb (by simp);have z2:w1.cell? ⟨w.heap.size,2,none⟩=some (.int .i64 0):=cell_kp hb (by simp);have z3:w1.cell? ⟨w.heap.size,3,none⟩=some (.int .i64 0):=cell_kp hb (by simp);have z4:w1.cell? ⟨w.heap.size,4,none⟩=some (.int .i64 0):=cell_kp hb (by simp);have f0:∀k,w1.frozen? ⟨w.heap.size,k,none⟩=false:=fun k=>(hb.frozen (p:=⟨w.heap.size,k,none⟩) (by simp)).trans (by simp)
 have hne:((e:Int) != 0)=true:=by simp;omega
 have HB:=dhid ((dbal (Below.refl w.heap.size w) _).trans (hb.mono (by simp)));clear hb HR;go_wp2_with fail
 refine bodyPost_ret (v:=.tuple #[.agg #[.string ⟨#[]⟩,.slice none 0 0,.int .i64 0,.int .i64 0,.int .i64 0],.int .i64 (e:Int),.int .i64 (a:Int)]) (by simp[results,Tryz.results5,go_sem,z0,z1,z2,z3,z4]) rfl ⟨rfl,?_⟩;have:=HB.out;exact((((this.setCell (Nat.le_refl _) _).setCell (Nat.le_refl _) _).setCell (Nat.le_refl _) _).setCell (Nat.le_refl _) _).setCell (Nat.le_refl _) _
theorem Below5{B b:Nat}{w w1:World}(h:Below B w w1)(hb:B≤b)(u0 u1 u2 u3 u4:Value):Below B w (((((w1.setCell ⟨b,0,none⟩ u0).setCell ⟨b,1,none⟩ u1).setCell ⟨b,2,none⟩ u2).setCell ⟨b,3,none⟩ u3).setCell ⟨b,4,none⟩ u4):=
 ((((h.setCell (p:=⟨b,0,none⟩) hb _).setCell (p:=⟨b,1,none⟩) hb _).setCell (p:=⟨b,2,none⟩) hb _).setCell (p:=⟨b,3,none⟩) hb _).setCell (p:=⟨b,4,none⟩) hb _
theorem ndK{L:List Nd}{kids:List Nat}{S:List UInt8}(hk:∀c∈kids,c<L.length)(h:¬memK L S kids<0):∃k n,memK L S kids=((k:Nat):Int)∧k<L.length∧L[k]?=some n:=by
 have hin:∀ks:List Nat,¬memK L S ks<0→∃c∈ks,memK L S ks=(c:Int):=by
  intro ks;induction ks with
  | nil=>intro h;simp[memK]at h
  | cons c ks ih=>
    intro h;rw[memK]at h ⊢;by_cases hc:(ndA L c).key=S
    ·rw[if_pos hc];exact⟨c,by simp,rfl⟩
    ·rw[if_neg hc]at h ⊢
     obtain⟨d,hd,e⟩:=ih h;exact⟨d,by simp[hd],e⟩
 obtain⟨c,hc,e⟩:=hin kids h;exact⟨c,_,e,hk c hc,List.getElem?_eq_getElem (hk c hc)⟩
theorem SR.keep5{w:World}{v:Value}{zs:List ByteArray}(h:SR w v zs){b B:Nat}(hb:b<B)(hz:∀g o sp,(∃l c,v=.slice (some ⟨g,o,sp⟩) l c)→B≤g)(u0 u1 u2 u3 u4:Value):SR (((((w.setCell ⟨b,0,none⟩ u0).setCell ⟨b,1,none⟩ u1).setCell ⟨b,2,none⟩ u2).setCell ⟨b,3,none⟩ u3).setCell ⟨b,4,none⟩ u4) v zs:=by
 obtain⟨ad,cap,h1,h0,h2⟩:=h;refine⟨ad,cap,h1,h0,fun j z hj=>?_⟩;obtain⟨g,off,a,b'⟩:=h2 j z hj;have hg:=hz g off none ⟨_,_,by rw[h1,a]⟩;refine⟨g,off,a,?_⟩;have e:∀(X:World) (k:Nat) (u:Value),X.cell? ⟨g,off+j,none⟩=some (.string z)→(X.setCell ⟨b,k,none⟩ u).cell? ⟨g,off+j,none⟩=some (.string z):=fun X k u hX=>(World.cell?_setCell_other _ _ _ _ (by intro h2;injection h2;omega)).trans hX
 exact e _ _ _ (e _ _ _ (e _ _ _ (e _ _ _ (e _ _ _ b'))))
theorem stepStr{P:Program}{ops:Array Oper}{o:Oper}{a:Act}{w:World}{K:Act→World→Prop}{Q:Exit→Act→World→Prop}{E:Prop}(hgd:o.guard=none)(s x:Operand)(t:TypeId)(ho:o.op=.call {callee:=.builtin .append,args:= #[s,x],argTypes:= #[t,t]})
 (e:TypeId) (i:TypeInfo) (ht:P.underlying t=some (.slice e)) (hi:P.info? e=some i) (hz:i.zero=some (.string ByteArray.empty)) (hsize:i.size=1) (hby:i.bytes=16)
 (B:Nat) (v:Value) (xs:List ByteArray) (ad:Addr) (y:ByteArray) (hn:xs.length≤1000000)
 (hs:a.eval s=v) (hx:a.eval x=.slice (some ad) 1 1)
 (hown:w.ownsRow B e 1 v xs.length (xs.map Value.string)) (hB:B≤w.heap.size) (hc:∀j u,[Value.string y][j]?=some u→w.cell? (ad.add j)=some u)
 (h:∀v' w',w'.ownsRow B e 1 v' (xs++[y]).length ((xs++[y]).map Value.string)→Below B w w'→K (a.put o.dst v') w'):
 if Region.wanted o (yielded ops a.tmps)=true then Oper.wp P o a w K Q else E:=by
 have hw:Region.wanted o (yielded ops a.tmps)=true:=by simp[Region.wanted,hgd]
 rw[if_pos hw];have h1:∀u∈[Value.string y],u.oneCell'=true:=by intro u hu;simp at hu;subst hu;rfl
 obtain⟨v',w',r1,r2,r3,_⟩:=run_append_own (P:=P) w B t o.type e i (.string ByteArray.empty) 1 16 ht hi hz hsize hby rfl (by decide) v xs.length (xs.map Value.string) hown ad 1 1 [.string y] rfl hc h1 (by unfold maxLen;omega) (by omega) hB;unfold Oper.wp execOp;simp only[ho,resolve,invoke,builtin,Sem.run_bind,Sem.run_pure,Result.andThen_ok,List.map_toArray,List.map_cons,List.map_nil,hs,hx,r1];exact h v' w' (by simpa using r2) ((Below.refl B w).grown r3 hB fun k hk=>(hown.lt k hk).1)
theorem lack_no{L:List Nd}{kids:List Nat}(h:¬lackB L kids=true):¬memK L issS kids<0∧¬memK L audS kids<0∧¬memK L iatS kids<0∧¬memK L nbfS kids<0∧¬memK L expS kids<0:=by
 unfold lackB at h;simpa using h
theorem rreadClaims_a(s:ByteArray)(w:World)(hs:s.size≤140737488351232)(t:JT)(hR:readL s.data.toList=.ok t)(n0:Nd)(hn0:(flat 0 [] t)[0]?=some n0)(hStr:∀n∈flat 0 [] t,n.kind=3→n.kids=[])(hk:¬n0.kind=5):Calls Tryz.prog 5 #[.string s] w fun r w'=>DQ w.heap.size (rdD (flat 0 [] t)) r w'∧Below w.heap.size w w':=by
 have hrd:=rread_nd s (w.alloc (.cells #[.string ⟨#[]⟩,.slice none 0 0,.int .i64 0,.int .i64 0,.int .i64 0] 28)) hs;simp only[hR]at hrd;have HR:=dhid hrd;have hl0:0<(flat 0 [] t).length:=(List.getElem?_eq_some_iff.1 hn0).1;have hW:=(read_fit hR).1;have hlen:=hW.len;have hki0:=hW.kids 0 n0 hn0;have hfew:=hW.few 0 n0 hn0;clear hrd hR;generalize flat 0 [] t=L at *;have kl0:(0:Int)<(L.length:Int):=by omega
 go_enter Tryz.func5,Tryz.ntmps5;go_wp2_with fail
 refine HR.out.mono ?_;rintro r w1 ⟨⟨v,rfl,hx⟩,hb⟩;have z0:w1.cell? ⟨w.heap.size,0,none⟩=some (.string ⟨#[]⟩):=cell_kp hb (by simp);have z1:w1.cell? ⟨w.heap.size,1,none⟩=some (.slice none 0 0):=cell_kp hb (by simp);have z2:w1.cell? ⟨w.heap.size,2,none⟩=some (.int .i64 0):=cell_kp hb (by simp);have z3:w1.cell? ⟨w.heap.size,3,none⟩=some (.int .i64 0):=cell_kp hb (by simp);have z4:w1.cell? ⟨w.heap.size,4,none⟩=some (.int .i64 0):=cell_kp hb (by simp);have f0:∀k,w1.frozen? ⟨w.heap.size,k,none⟩=false:=fun k=>(hb.frozen (p:=⟨w.heap.size,k,none⟩) (by simp)).trans (by simp)
 have hlt:w.heap.size<w1.heap.size:=by have:=hb.size;simp at this;omega
 have HB:=dhid ((dbal (Below.refl w.heap.size w) _).trans (hb.mono (by simp)));clear hb HR;obtain⟨ad,cap,rfl⟩:=hx.shape;obtain⟨g,adk,capk,rfl,_,hkb,hkc,d0,d1,d2,d3,d4,d5⟩:=hx.node hn0;rw[Nat.zero_mul]at d0 d4 d5;rw[Nat.zero_add]at d4 d5;have HX:=dhid hx;have HW:=dhid hW;have HN0:=dhid hn0;have HKC:=dhid hkc;have HKI:=dhid hki0;clear hx hW hn0 hkc hki0 d1 d2 d3;have hne:((n0.kind:Int) != 5)=true:=by simp;omega
 have hq:Hid (rdD L=(cl0,6,(n0.at':Int))):=dhid (by unfold rdD;rw[ndA_of HN0.out,if_neg hk]);clear d4 hk;go_wp2_with fail
 go_region
 all_goals go_wp2_with fail
 all_goals refine bodyPost_ret (v:=.tuple #[.agg #[.string ⟨#[]⟩,.slice none 0 0,.int .i64 0,.int .i64 0,.int .i64 0],.int .i64 6,.int .i64 (n0.at':Int)]) (by simp[results,Tryz.results5,go_sem,z0,z1,z2,z3,z4]) rfl ⟨by rw[hq.out];exact DQ.nil _ _ _ _,?_⟩
 all_goals exact(Below5 HB.out (Nat.le_refl _) _ _ _ _ _).drew
theorem rreadClaims_b(s:ByteArray)(w:World)(hs:s.size≤140737488351232)(t:JT)(hR:readL s.data.toList=.ok t)(n0:Nd)(hn0:(flat 0 [] t)[0]?=some n0)(hStr:∀n∈flat 0 [] t,n.kind=3→n.kids=[])(hk:n0.kind=5)(hE:(allE (flat 0 [] t) n0.kids).1≠0):Calls Tryz.prog 5 #[.string s] w fun r w'=>DQ w.heap.size (rdD (flat 0 [] t)) r w'∧Below w.heap.size w w':=by
 have hrd:=rread_nd s (w.alloc (.cells #[.string ⟨#[]⟩,.slice none 0 0,.int .i64 0,.int .i64 0,.int .i64 0] 28)) hs;simp only[hR]at hrd;have HR:=dhid hrd;have hl0:0<(flat 0 [] t).length:=(List.getElem?_eq_some_iff.1 hn0).1;have hW:=(read_fit hR).1;have hlen:=hW.len;have hki0:=hW.kids 0 n0 hn0;have hfew:=hW.few 0 n0 hn0;clear hrd hR;generalize flat 0 [] t=L at *;have HE0:=dhid hE;clear hE;have kl0:(0:Int)<(L.length:Int):=by omega
 go_enter Tryz.func5,Tryz.ntmps5;go_wp2_with fail
 refine HR.out.mono ?_;rintro r w1 ⟨⟨v,rfl,hx⟩,hb⟩;have z0:w1.cell? ⟨w.heap.size,0,none⟩=some (.string ⟨#[]⟩):=cell_kp hb (by simp);have z1:w1.cell? ⟨w.heap.size,1,none⟩=some (.slice none 0 0):=cell_kp hb (by simp);have z2:w1.cell? ⟨w.heap.size,2,none⟩=some (.int .i64 0):=cell_kp hb (by simp);have z3:w1.cell? ⟨w.heap.size,3,none⟩=some (.int .i64 0):=cell_kp hb (by simp);have z4:w1.cell? ⟨w.heap.size,4,none⟩=some (.int .i64 0):=cell_kp hb (by simp);have f0:∀k,w1.frozen? ⟨w.heap.size,k,none⟩=false:=fun k=>(hb.frozen (p:=⟨w.heap.size,k,none⟩) (by simp)).trans (by simp)
 have hlt:w.heap.size<w1.heap.size:=by have:=hb.size;simp at this;omega
 have HB:=dhid ((dbal (Below.refl w.heap.size w) _).trans (hb.mono (by simp)));clear hb HR;obtain⟨ad,cap,rfl⟩:=hx.shape;obtain⟨g,adk,capk,rfl,_,hkb,hkc,d0,d1,d2,d3,d4,d5⟩:=hx.node hn0;rw[Nat.zero_mul]at d0 d4 d5;rw[Nat.zero_add]at d4 d5;have HX:=dhid hx;have HW:=dhid hW;have HN0:=dhid hn0;have HKC:=dhid hkc;have HKI:=dhid hki0;clear hx hW hn0 hkc hki0 d1 d2 d3;rw[show((n0.kind:Nat):Int)=5 by omega]at d0;have hq:rdD L=if(allE L n0.kids).1=0 then if lackB L n0.kids=true then(cl0,7,0)else(clD L n0.kids,0,0)else(cl0,allE L n0.kids):=by
  unfold rdD;rw[ndA_of HN0.out,if_pos hk]
 have HQ:=dhid hq;clear hq d5 hk;go_wp2_with fail
 have HZ:=dhid (And.intro z0 (And.intro z1 (And.intro z2 (And.intro z3 z4))));have HF0:=dhid f0;have HD4:=dhid d4;clear d0 d4 z0 z1 z2 z3 z4 f0;go_loopw [8] (fun iv wr=>∃i:Nat,i≤n0.kids.length∧iv=.int .i64 (i:Int)∧Below w1.heap.size w1 wr∧Hid (allE L n0.kids=allE L (n0.kids.drop i))) (fun iv _=>n0.kids.length-(intOf iv).toNat)
 case atStart=>exact⟨0,by omega,rfl,Below.refl _ _,rfl⟩
 case round=>
  obtain⟨i,hi,rfl,hb,hno⟩:=hrel;have HBr:=dhid hb;have d4:=cell_kp hb HD4.out;by_cases hlt2:i<n0.kids.length
  ·have k1:(i:Int)<(n0.kids.length:Int):=by omega
   obtain⟨c,hc⟩:∃c,n0.kids[i]?=some c:=⟨_,List.getElem?_eq_getElem hlt2⟩;obtain⟨gk,rfl,ck0⟩:=HKC.out i c hc;have ck:=cell_kp hb ck0;have hcl:=HKI.out c (List.mem_of_getElem? hc);obtain⟨m,hm⟩:∃m,L[c]?=some m:=⟨_,List.getElem?_eq_getElem hcl.2⟩;have hst:=allE_step L n0.kids i c hc;rw[ndA_of hm]at hst;have HSt:=dhid hst;have HCL:=dhid (rwrongClaim (.slice (some ⟨g,0,none⟩) L.length cap) L wr (HX.out.below hb) HW.out c m hm);clear hb hc ck0 hm hst;go_wp2_with fail
   refine HCL.out.mono ?_;rintro r w2 ⟨rfl,hb2⟩;have HBs:=dhid (HBr.out.trans (hb2.mono HBr.out.size));clear hb2 HCL;by_cases he:(clmE L m).1=0
   ·have HSt2:Hid (allE L (n0.kids.drop i)=allE L (n0.kids.drop (i+1))):=dhid (by rw[HSt.out,if_pos he])
    clear HSt;go_wp2_with fail
    go_roundw
    case rel=>exact⟨i+1,by omega,by go_num,HBs.out,by rw[hno.out,HSt2.out];exact rfl⟩
    case measure=>simp[intOf];omega
   ·have ha:allE L n0.kids=clmE L m:=by rw[hno.out,HSt.out,if_neg he]
    have hq2:Hid (rdD L=(cl0,clmE L m)):=dhid (by rw[HQ.out,ha,if_neg he]);have he2:((clmE L m).1 != 0)=true:=by simp[he]
    have z0:=cell_kp HBs.out HZ.out.1;have z1:=cell_kp HBs.out HZ.out.2.1;have z2:=cell_kp HBs.out HZ.out.2.2.1;have z3:=cell_kp HBs.out HZ.out.2.2.2.1;have z4:=cell_kp HBs.out HZ.out.2.2.2.2;have f0:∀k,w2.frozen? ⟨w.heap.size,k,none⟩=false:=fun k=>(HBs.out.frozen (p:=⟨w.heap.size,k,none⟩) hlt).trans (HF0.out k)
    clear HSt ha d4;go_wp2_with fail
    refine bodyPost_ret (v:=.tuple #[.agg #[.string ⟨#[]⟩,.slice none 0 0,.int .i64 0,.int .i64 0,.int .i64 0],.int .i64 (clmE L m).1,.int .i64 (clmE L m).2]) (by simp[results,Tryz.results5,go_sem,z0,z1,z2,z3,z4]) rfl ⟨by rw[hq2.out];exact DQ.nil _ _ _ _,?_⟩;exact Below5 (HB.out.trans (HBs.out.mono (by omega))) (Nat.le_refl _) _ _ _ _ _
  ·have ha:(allE L n0.kids).1=0:=by rw[hno.out,List.drop_eq_nil_of_le (by omega)];rfl
   exact absurd ha HE0.out
theorem rreadClaims_c(s:ByteArray)(w:World)(hs:s.size≤140737488351232)(t:JT)(hR:readL s.data.toList=.ok t)(n0:Nd)(hn0:(flat 0 [] t)[0]?=some n0)(hStr:∀n∈flat 0 [] t,n.kind=3→n.kids=[])(hk:n0.kind=5)(hE:(allE (flat 0 [] t) n0.kids).1=0)(hlk:lackB (flat 0 [] t) n0.kids=true):Calls Tryz.prog 5 #[.string s] w fun r w'=>DQ w.heap.size (rdD (flat 0 [] t)) r w'∧Below w.heap.size w w':=by
 have hrd:=rread_nd s (w.alloc (.cells #[.string ⟨#[]⟩,.slice none 0 0,.int .i64 0,.int .i64 0,.int .i64 0] 28)) hs;simp only[hR]at hrd;have HR:=dhid hrd;have hl0:0<(flat 0 [] t).length:=(List.getElem?_eq_some_iff.1 hn0).1;have hW:=(read_fit hR).1;have hlen:=hW.len;have hki0:=hW.kids 0 n0 hn0;have hfew:=hW.few 0 n0 hn0;clear hrd hR;generalize flat 0 [] t=L at *;have HE0:=dhid hE;have HLK:=dhid hlk;clear hE hlk;have kl0:(0:Int)<(L.length:Int):=by omega
 go_enter Tryz.func5,Tryz.ntmps5;go_wp2_with fail
 refine HR.out.mono ?_;rintro r w1 ⟨⟨v,rfl,hx⟩,hb⟩;have z0:w1.cell? ⟨w.heap.size,0,none⟩=some (.string ⟨#[]⟩):=cell_kp hb (by simp);have z1:w1.cell? ⟨w.heap.size,1,none⟩=some (.slice none 0 0):=cell_kp hb (by simp);have z2:w1.cell? ⟨w.heap.size,2,none⟩=some (.int .i64 0):=cell_kp hb (by simp);have z3:w1.cell? ⟨w.heap.size,3,none⟩=some (.int .i64 0):=cell_kp hb (by simp);have z4:w1.cell? ⟨w.heap.size,4,none⟩=some (.int .i64 0):=cell_kp hb (by simp);have f0:∀k,w1.frozen? ⟨w.heap.size,k,none⟩=false:=fun k=>(hb.frozen (p:=⟨w.heap.size,k,none⟩) (by simp)).trans (by simp)
 have hlt:w.heap.size<w1.heap.size:=by have:=hb.size;simp at this;omega
 have HB:=dhid ((dbal (Below.refl w.heap.size w) _).trans (hb.mono (by simp)));clear hb HR;obtain⟨ad,cap,rfl⟩:=hx.shape;obtain⟨g,adk,capk,rfl,_,hkb,hkc,d0,d1,d2,d3,d4,d5⟩:=hx.node hn0;rw[Nat.zero_mul]at d0 d4 d5;rw[Nat.zero_add]at d4 d5;have HX:=dhid hx;have HW:=dhid hW;have HN0:=dhid hn0;have HKC:=dhid hkc;have HKI:=dhid hki0;clear hx hW hn0 hkc hki0 d1 d2 d3;rw[show((n0.kind:Nat):Int)=5 by omega]at d0;have hq:rdD L=if(allE L n0.kids).1=0 then if lackB L n0.kids=true then(cl0,7,0)else(clD L n0.kids,0,0)else(cl0,allE L n0.kids):=by
  unfold rdD;rw[ndA_of HN0.out,if_pos hk]
 have HQ:=dhid hq;clear hq d5 hk;go_wp2_with fail
 have HZ:=dhid (And.intro z0 (And.intro z1 (And.intro z2 (And.intro z3 z4))));have HF0:=dhid f0;have HD4:=dhid d4;clear d0 d4 z0 z1 z2 z3 z4 f0;go_loopw [8] (fun iv wr=>∃i:Nat,i≤n0.kids.length∧iv=.int .i64 (i:Int)∧Below w1.heap.size w1 wr∧Hid (allE L n0.kids=allE L (n0.kids.drop i))) (fun iv _=>n0.kids.length-(intOf iv).toNat)
 case atStart=>exact⟨0,by omega,rfl,Below.refl _ _,rfl⟩
 case round=>
  obtain⟨i,hi,rfl,hb,hno⟩:=hrel;have HBr:=dhid hb;have d4:=cell_kp hb HD4.out;by_cases hlt2:i<n0.kids.length
  ·have k1:(i:Int)<(n0.kids.length:Int):=by omega
   obtain⟨c,hc⟩:∃c,n0.kids[i]?=some c:=⟨_,List.getElem?_eq_getElem hlt2⟩;obtain⟨gk,rfl,ck0⟩:=HKC.out i c hc;have ck:=cell_kp hb ck0;have hcl:=HKI.out c (List.mem_of_getElem? hc);obtain⟨m,hm⟩:∃m,L[c]?=some m:=⟨_,List.getElem?_eq_getElem hcl.2⟩;have hst:=allE_step L n0.kids i c hc;rw[ndA_of hm]at hst;have HSt:=dhid hst;have HCL:=dhid (rwrongClaim (.slice (some ⟨g,0,none⟩) L.length cap) L wr (HX.out.below hb) HW.out c m hm);clear hb hc ck0 hm hst;go_wp2_with fail
   refine HCL.out.mono ?_;rintro r w2 ⟨rfl,hb2⟩;have HBs:=dhid (HBr.out.trans (hb2.mono HBr.out.size));clear hb2 HCL;by_cases he:(clmE L m).1=0
   ·have HSt2:Hid (allE L (n0.kids.drop i)=allE L (n0.kids.drop (i+1))):=dhid (by rw[HSt.out,if_pos he])
    clear HSt;go_wp2_with fail
    go_roundw
    case rel=>exact⟨i+1,by omega,by go_num,HBs.out,by rw[hno.out,HSt2.out];exact rfl⟩
    case measure=>simp[intOf];omega
   ·have ha:allE L n0.kids=clmE L m:=by rw[hno.out,HSt.out,if_neg he]
    exact absurd (by rw[←ha];exact HE0.out) he
  ·have k1:¬(i:Int)<(n0.kids.length:Int):=by omega
   have ha:(allE L n0.kids).1=0:=by rw[hno.out,List.drop_eq_nil_of_le (by omega)];rfl
   have HQ2:Hid (rdD L=if lackB L n0.kids=true then(cl0,7,0)else(clD L n0.kids,0,0)):=dhid (by rw[HQ.out,if_pos ha]);have HXr:=dhid (HX.out.below hb);have z0:=cell_kp hb HZ.out.1;have z1:=cell_kp hb HZ.out.2.1;have z2:=cell_kp hb HZ.out.2.2.1;have z3:=cell_kp hb HZ.out.2.2.2.1;have z4:=cell_kp hb HZ.out.2.2.2.2;have f0:∀k,wr.frozen? ⟨w.heap.size,k,none⟩=false:=fun k=>(hb.frozen (p:=⟨w.heap.size,k,none⟩) hlt).trans (HF0.out k)
   have hltr:w.heap.size<wr.heap.size:=by have:=hb.size;omega
   have HBw:Hid (Below w.heap.size w wr):=dhid (HB.out.trans (hb.mono (by omega)));have HM:=dhid (fun nm=>rmemK (.slice (some ⟨g,0,none⟩) L.length cap) L wr HXr.out HW.out 0 n0 HN0.out nm);have HZr:=dhid (And.intro z0 (And.intro z1 (And.intro z2 (And.intro z3 z4))));have HFr:=dhid f0;clear ha hno hb HBr HQ HX HB HZ HF0 HKC z0 z1 z2 z3 z4 f0 HD4;go_wp2_with fail
   refine(HM.out issS).mono ?_;rintro r w9 ⟨rfl,hw9⟩;rw[hw9];clear hw9 w9;go_wp2_with fail
   refine(HM.out audS).mono ?_;rintro r w9 ⟨rfl,hw9⟩;rw[hw9];clear hw9 w9;go_wp2_with fail
   refine(HM.out iatS).mono ?_;rintro r w9 ⟨rfl,hw9⟩;rw[hw9];clear hw9 w9;go_wp2_with fail
   refine(HM.out nbfS).mono ?_;rintro r w9 ⟨rfl,hw9⟩;rw[hw9];clear hw9 w9;go_wp2_with fail
   refine(HM.out expS).mono ?_;rintro r w9 ⟨rfl,hw9⟩;rw[hw9];clear hw9 w9;clear HM;by_cases p1:memK L issS n0.kids<0
   ·have hq2:Hid (rdD L=(cl0,7,0)):=dhid (by rw[HQ2.out,if_pos (by unfold lackB;exact decide_eq_true (by simp[p1]))])
    obtain⟨z0,z1,z2,z3,z4⟩:=HZr.out;have f0:=HFr.out;clear HQ2;go_wp2_with fail
    refine bodyPost_ret (v:=.tuple #[.agg #[.string ⟨#[]⟩,.slice none 0 0,.int .i64 0,.int .i64 0,.int .i64 0],.int .i64 7,.int .i64 0]) (by simp[results,Tryz.results5,go_sem,z0,z1,z2,z3,z4]) rfl ⟨by rw[hq2.out];exact DQ.nil _ _ _ _,?_⟩;exact Below5 HBw.out (Nat.le_refl _) _ _ _ _ _
   by_cases p2:memK L audS n0.kids<0
   ·have hq2:Hid (rdD L=(cl0,7,0)):=dhid (by rw[HQ2.out,if_pos (by unfold lackB;exact decide_eq_true (by simp[p2]))])
    obtain⟨z0,z1,z2,z3,z4⟩:=HZr.out;have f0:=HFr.out;clear HQ2;go_wp2_with fail
    refine bodyPost_ret (v:=.tuple #[.agg #[.string ⟨#[]⟩,.slice none 0 0,.int .i64 0,.int .i64 0,.int .i64 0],.int .i64 7,.int .i64 0]) (by simp[results,Tryz.results5,go_sem,z0,z1,z2,z3,z4]) rfl ⟨by rw[hq2.out];exact DQ.nil _ _ _ _,?_⟩;exact Below5 HBw.out (Nat.le_refl _) _ _ _ _ _
   by_cases p3:memK L iatS n0.kids<0
   ·have hq2:Hid (rdD L=(cl0,7,0)):=dhid (by rw[HQ2.out,if_pos (by unfold lackB;exact decide_eq_true (by simp[p3]))])
    obtain⟨z0,z1,z2,z3,z4⟩:=HZr.out;have f0:=HFr.out;clear HQ2;go_wp2_with fail
    refine bodyPost_ret (v:=.tuple #[.agg #[.string ⟨#[]⟩,.slice none 0 0,.int .i64 0,.int .i64 0,.int .i64 0],.int .i64 7,.int .i64 0]) (by simp[results,Tryz.results5,go_sem,z0,z1,z2,z3,z4]) rfl ⟨by rw[hq2.out];exact DQ.nil _ _ _ _,?_⟩;exact Below5 HBw.out (Nat.le_refl _) _ _ _ _ _
   by_cases p4:memK L nbfS n0.kids<0
   ·have hq2:Hid (rdD L=(cl0,7,0)):=dhid (by rw[HQ2.out,if_pos (by unfold lackB;exact decide_eq_true (by simp[p4]))])
    obtain⟨z0,z1,z2,z3,z4⟩:=HZr.out;have f0:=HFr.out;clear HQ2;go_wp2_with fail
    refine bodyPost_ret (v:=.tuple #[.agg #[.string ⟨#[]⟩,.slice none 0 0,.int .i64 0,.int .i64 0,.int .i64 0],.int .i64 7,.int .i64 0]) (by simp[results,Tryz.results5,go_sem,z0,z1,z2,z3,z4]) rfl ⟨by rw[hq2.out];exact DQ.nil _ _ _ _,?_⟩;exact Below5 HBw.out (Nat.le_refl _) _ _ _ _ _
   by_cases p5:memK L expS n0.kids<0
   ·have hq2:Hid (rdD L=(cl0,7,0)):=dhid (by rw[HQ2.out,if_pos (by unfold lackB;exact decide_eq_true (by simp[p5]))])
    obtain⟨z0,z1,z2,z3,z4⟩:=HZr.out;have f0:=HFr.out;clear HQ2;go_wp2_with fail
    refine bodyPost_ret (v:=.tuple #[.agg #[.string ⟨#[]⟩,.slice none 0 0,.int .i64 0,.int .i64 0,.int .i64 0],.int .i64 7,.int .i64 0]) (by simp[results,Tryz.results5,go_sem,z0,z1,z2,z3,z4]) rfl ⟨by rw[hq2.out];exact DQ.nil _ _ _ _,?_⟩;exact Below5 HBw.out (Nat.le_refl _) _ _ _ _ _
   exact absurd HLK.out (by unfold lackB;simp[p1,p2,p3,p4,p5])
end Go.Proofs.YtaghclgookfmnaaGreatDoor
