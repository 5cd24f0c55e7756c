import Derived.Test.YtaghclgookfmnaaGreatDoorE3
import Derived.Test.YtaghclgookfmnaaGreatDoorE1
import Derived.Test.YtaghclgookfmnaaGreatDoorCText
import Derived.Test.YtaghclgookfmnaaGreatDoorNRow
import Derived.Test.YtaghclgookfmnaaGreatDoorQShort
import Derived.BigRegion
set_option maxHeartbeats 4000000
set_option maxRecDepth 4000
namespace Go.Proofs.YtaghclgookfmnaaGreatDoor
open Go.RowKit
set_option linter.unusedVariables false
set_option linter.unusedSimpArgs false
def hasK(L:List Nd)(name:List UInt8)(ks:List Nat):Bool:=ks.any fun c=>(ndA L c).key==name
theorem hasK_step(L:List Nd)(name:List UInt8)(ks:List Nat)(i:Nat)(c:Nat)(h:ks[i]?=some c):hasK L name (ks.drop i)=((ndA L c).key==name||hasK L name (ks.drop (i+1))):=by
 obtain⟨hi,rfl⟩:=List.getElem?_eq_some_iff.1 h;rw[List.drop_eq_getElem_cons hi];rfl
def lckL(L:List Nd)(ks:List Nat)(names:List (List UInt8)):Bool:=names.any fun z=>!hasK L z ks
theorem lckL_step(L:List Nd)(ks:List Nat)(names:List (List UInt8))(i:Nat)(z:List UInt8)(h:names[i]?=some z):lckL L ks (names.drop i)=(!hasK L z ks||lckL L ks (names.drop (i+1))):=by
 obtain⟨hi,rfl⟩:=List.getElem?_eq_some_iff.1 h;rw[List.drop_eq_getElem_cons hi];rfl
theorem memK_has(L:List Nd)(name:List UInt8)(ks:List Nat):(memK L name ks<0)↔hasK L name ks=false:=by
 induction ks with
 | nil=>simp[memK,hasK]
 | cons c ks ih=>
   by_cases h:(ndA L c).key=name
   ·simp[memK,hasK,h]
   ·have hb:((ndA L c).key==name)=false:=by simp[h]
    have e:hasK L name (c::ks)=hasK L name ks:=by simp[hasK,hb]
    rw[e,←ih];simp[memK,h]
theorem lackB_eq(L:List Nd)(ks:List Nat):lackB L ks=lckL L ks [issS,audS,iatS,nbfS,expS]:=by
 unfold lackB lckL;simp only[memK_has,List.any_cons,List.any_nil];cases hasK L issS ks<;>cases hasK L audS ks<;>cases hasK L iatS ks<;>cases hasK L nbfS ks<;>cases hasK L expS ks<;>rfl
def QIx(b:Bool)(r:Ending):Prop:=∃q:Int,r=.returned (.int .i64 q)∧decide (0≤q)=b
theorem clck11(ad:Option Addr)(cap:Nat)(L:List Nd)(hlen:L.length≤1000000)(w:World)(hx:RR 58 (.slice ad L.length cap) L w)(c:Nat)(hc:c<L.length)(name:List UInt8)(bo bn:Nat)(ho:w.cell? ⟨bo,0,none⟩=some (.slice ad L.length cap))(hn:w.cell? ⟨bn,0,none⟩=some (.string ⟨name.toArray⟩)):Calls Tryz.prog 24 #[.int .i64 (c:Int),.pointer (some ⟨bo,0,none⟩),.pointer (some ⟨bn,0,none⟩)] w fun r w'=>
 r=.returned (.bool ((ndA L c).key==name))∧Below w.heap.size w w':=by
 obtain⟨m,hm⟩:∃m,L[c]?=some m:=⟨_,List.getElem?_eq_getElem hc⟩;rw[ndA_of hm];obtain⟨g,adk,capk,rfl,_,hkb,hkc,d0,d1,d2,d3,d4,d5⟩:=hx.node hm;have k2:(c:Int)<(L.length:Int):=by omega
 clear hx hm hkc d0 d2 d3 d4 d5;go_enter Tryz.func24,Tryz.ntmps24;go_wp2_with fail
 go_quiet (fail);go_wp2_with fail
 go_ret;exact⟨rfl,dbN (Below.refl _ _) _⟩
theorem cidxI(ad:Option Addr)(cap:Nat)(L:List Nd)(hlen:L.length≤1000000)(w:World)(hx:RR 58 (.slice ad L.length cap) L w)(ks:List Nat)(adk:Option Addr)(capk:Nat)(hkc:KC w adk ks)(hki:∀c∈ks,c<L.length)(hkl:ks.length≤1000000)(name:List UInt8)(bo bn:Nat)(ho:w.cell? ⟨bo,0,none⟩=some (.slice ad L.length cap))(hn:w.cell? ⟨bn,0,none⟩=some (.string ⟨name.toArray⟩)):Calls Tryz.prog 32 #[.slice adk ks.length capk,.func (.func 24) #[] #[.pointer (some ⟨bo,0,none⟩),.pointer (some ⟨bn,0,none⟩)]] w fun r w'=>
 QIx (hasK L name ks) r∧Below w.heap.size w w':=by
 have hca:=fun w1 (hb:Below w.heap.size w w1) c hc=>clck11 ad cap L hlen w1 (hx.below hb) c hc name bo bn (cell_kp hb ho) (cell_kp hb hn)
 have HCA:=dhid hca;have HKC:=dhid hkc;have HKI:=dhid hki;clear hca hx hkc hki ho hn;go_enter Tryz.func32,Tryz.ntmps32;go_wp2_with fail
 go_loopw [8] (fun iv wr=>∃i:Nat,i≤ks.length∧iv=.int .i64 (i:Int)∧Below w.heap.size w wr∧Hid (hasK L name ks=hasK L name (ks.drop i))) (fun iv _=>ks.length-(intOf iv).toNat)
 case atStart=>exact⟨0,by omega,rfl,Below.refl _ _,rfl⟩
 case round=>
  obtain⟨i,hi,rfl,hb,hno⟩:=hrel;have HB:=dhid hb;by_cases hlt:i<ks.length
  ·have k1:(i:Int)<(ks.length:Int):=by omega
   obtain⟨c,hc⟩:∃c,ks[i]?=some c:=⟨_,List.getElem?_eq_getElem hlt⟩;obtain⟨gk,rfl,ck0⟩:=HKC.out i c hc;have ck:=cell_kp hb ck0;have hcl:=HKI.out c (List.mem_of_getElem? hc);have hst:=hasK_step L name ks i c hc;have HCL:=dhid (HCA.out wr hb c hcl);have HSt:=dhid hst;clear hc ck0 hst hb HCA;go_wp2_with fail
   refine HCL.out.mono ?_;rintro r w1 ⟨rfl,hb1⟩;have HB1:=dhid (HB.out.trans (hb1.mono HB.out.size));clear hb1 HCL;by_cases he:((ndA L c).key==name)=true
   ·have ht:hasK L name ks=true:=by rw[hno.out,HSt.out,he];rfl
    have HTt:=dhid ht;clear ht HSt;go_wp2_with fail
    go_ret;exact⟨⟨i,rfl,by rw[HTt.out];simp⟩,HB1.out⟩
   ·have he':((ndA L c).key==name)=false:=by simpa using he
    have hst2:hasK L name (ks.drop i)=hasK L name (ks.drop (i+1)):=by rw[HSt.out,he'];rfl
    have HSt2:=dhid hst2;clear hst2 HSt he;go_wp2_with fail
    go_roundw
    case rel=>exact⟨i+1,by omega,by go_num,HB1.out,by rw[hno.out,HSt2.out];exact rfl⟩
    case measure=>simp[intOf];omega
  ·have k1:¬(i:Int)<(ks.length:Int):=by omega
   have ht:hasK L name ks=false:=by rw[hno.out,List.drop_eq_nil_of_le (by omega)];rfl
   have HTt:=dhid ht;clear ht;go_wp2_with fail
   go_ret;exact⟨⟨-1,rfl,by rw[HTt.out];rfl⟩,HB.out⟩
theorem chasI(ad:Option Addr)(cap:Nat)(L:List Nd)(hlen:L.length≤1000000)(w:World)(hx:RR 58 (.slice ad L.length cap) L w)(ks:List Nat)(adk:Option Addr)(capk:Nat)(hkc:KC w adk ks)(hki:∀c∈ks,c<L.length)(hkl:ks.length≤1000000)(name:List UInt8)(bo bn:Nat)(ho:w.cell? ⟨bo,0,none⟩=some (.slice ad L.length cap))(hn:w.cell? ⟨bn,0,none⟩=some (.string ⟨name.toArray⟩)):Calls Tryz.prog 23 #[.slice adk ks.length capk,.func (.func 24) #[] #[.pointer (some ⟨bo,0,none⟩),.pointer (some ⟨bn,0,none⟩)]] w fun r w'=>
 r=.returned (.bool (hasK L name ks))∧Below w.heap.size w w':=by
 have HCL:=dhid (cidxI ad cap L hlen w hx ks adk capk hkc hki hkl name bo bn ho hn);clear hx hkc hki ho hn;go_enter Tryz.func23,Tryz.ntmps23;go_wp2_with fail
 refine HCL.out.mono ?_;rintro r w1 ⟨⟨q,rfl,hq⟩,hb1⟩;have HB1:=dhid hb1;have HQ:=dhid hq;clear hb1 HCL hq;go_wp2_with fail
 go_ret;exact⟨by rw[←HQ.out];rfl,HB1.out⟩
theorem clck1(ad:Option Addr)(cap:Nat)(L:List Nd)(hW:WFN L)(n0:Nd)(hn0:L[0]?=some n0)(w:World)(hx:RR 58 (.slice ad L.length cap) L w)(name:List UInt8)(bo:Nat)(ho:w.cell? ⟨bo,0,none⟩=some (.slice ad L.length cap)):Calls Tryz.prog 22 #[.string ⟨name.toArray⟩,.pointer (some ⟨bo,0,none⟩)] w fun r w'=>
 r=.returned (.bool (!hasK L name n0.kids))∧Below w.heap.size w w':=by
 have hlen:=hW.len;obtain⟨g,adk,capk,rfl,_,hkb,hkc,d0,d1,d2,d3,d4,d5⟩:=hx.node hn0;have hca:=chasI (some ⟨g,0,none⟩) cap L hlen (w.alloc (.cells #[.string ⟨name.toArray⟩] 9)) (hx.below (dbal (Below.refl _ _) _)) n0.kids adk capk (KC.below hkc (dbal (Below.refl _ _) _)) (fun c hc=>(hW.kids 0 n0 hn0 c hc).2) (hW.few 0 n0 hn0) name bo w.heap.size (cell_kp (dbal (Below.refl _ _) _) ho) (by simp);have HCA:=dhid hca;have hl0:0<L.length:=(List.getElem?_eq_some_iff.1 hn0).1;have kl0:(0:Int)<(L.length:Int):=by omega
 have hob:bo<w.heap.size:=World.block_lt_of_cell? w _ ho;have hgb:g<w.heap.size:=World.block_lt_of_cell? w _ d0;have a1:∀o,(w.alloc o).cell? ⟨bo,0,none⟩=some (.slice (some ⟨g,0,none⟩) L.length cap):=fun o=>(World.cell?_alloc_lt _ _ _ hob).trans ho
 have a4:∀o,(w.alloc o).cell? ⟨g,4,none⟩=some (.slice adk n0.kids.length capk):=fun o=>by
  have:=d4;rw[Nat.zero_mul,Nat.zero_add]at this;exact(World.cell?_alloc_lt _ _ _ hgb).trans this
 clear hx hkc hn0 d0 d1 d2 d3 d4 d5 hca hW ho;go_enter Tryz.func22,Tryz.ntmps22;go_wp2_with fail
 refine HCA.out.mono ?_;rintro r w1 ⟨rfl,hb1⟩;have HB1:=dhid ((dbal (Below.refl w.heap.size w) _).trans (hb1.mono (by simp)));clear hb1 HCA;go_wp2_with fail
 go_ret;exact⟨rfl,HB1.out⟩
def strV(l:List UInt8):ByteArray:=⟨l.toArray⟩
theorem cidxS(ad:Option Addr)(cap:Nat)(L:List Nd)(hW:WFN L)(n0:Nd)(hn0:L[0]?=some n0)(w:World)(hx:RR 58 (.slice ad L.length cap) L w)(names:List (List UInt8))(av:Option Addr)(cv:Nat)(hs:SR w (.slice av names.length cv) (names.map strV))(hnl:names.length≤1000000)(bo:Nat)(ho:w.cell? ⟨bo,0,none⟩=some (.slice ad L.length cap)):Calls Tryz.prog 31 #[.slice av names.length cv,.func (.func 22) #[] #[.pointer (some ⟨bo,0,none⟩)]] w fun r w'=>
 QIx (lckL L n0.kids names) r∧Below w.heap.size w w':=by
 have hca:=fun w1 (hb:Below w.heap.size w w1) name=>clck1 ad cap L hW n0 hn0 w1 (hx.below hb) name bo (cell_kp hb ho)
 have HCA:=dhid hca;have hat:∀(i:Nat) z,names[i]?=some z→∃g off,av=some ⟨g,off,none⟩∧w.cell? ⟨g,off+i,none⟩=some (.string ⟨z.toArray⟩):=by
  intro i z hz;obtain⟨ad',cap',h1,h0,h2⟩:=hs;injection h1 with e1 e2 e3;subst e1;exact h2 i (strV z) (by rw[List.getElem?_map,hz];rfl)
 have HAT:=dhid hat;clear hca hx hs ho hat hn0 hW;go_enter Tryz.func31,Tryz.ntmps31;go_wp2_with fail
 go_loopw [8] (fun iv wr=>∃i:Nat,i≤names.length∧iv=.int .i64 (i:Int)∧Below w.heap.size w wr∧Hid (lckL L n0.kids names=lckL L n0.kids (names.drop i))) (fun iv _=>names.length-(intOf iv).toNat)
 case atStart=>exact⟨0,by omega,rfl,Below.refl _ _,rfl⟩
 case round=>
  obtain⟨i,hi,rfl,hb,hno⟩:=hrel;have HB:=dhid hb;by_cases hlt:i<names.length
  ·have k1:(i:Int)<(names.length:Int):=by omega
   obtain⟨z,hz⟩:∃z,names[i]?=some z:=⟨_,List.getElem?_eq_getElem hlt⟩;obtain⟨gk,off,rfl,ck0⟩:=HAT.out i z hz;have ck:=cell_kp hb ck0;have hst:=lckL_step L n0.kids names i z hz;have HCL:=dhid (HCA.out wr hb z);have HSt:=dhid hst;clear hz ck0 hst hb HCA;go_wp2_with fail
   refine HCL.out.mono ?_;rintro r w1 ⟨rfl,hb1⟩;have HB1:=dhid (HB.out.trans (hb1.mono HB.out.size));clear hb1 HCL;by_cases he:hasK L z n0.kids=false
   ·have ht:lckL L n0.kids names=true:=by rw[hno.out,HSt.out,he];rfl
    have HTt:=dhid ht;clear ht HSt;go_wp2_with fail
    go_ret;exact⟨⟨i,rfl,by rw[HTt.out];simp⟩,HB1.out⟩
   ·have he':hasK L z n0.kids=true:=by simpa using he
    have hst2:lckL L n0.kids (names.drop i)=lckL L n0.kids (names.drop (i+1)):=by rw[HSt.out,he'];rfl
    have HSt2:=dhid hst2;clear hst2 HSt he;go_wp2_with fail
    go_roundw
    case rel=>exact⟨i+1,by omega,by go_num,HB1.out,by rw[hno.out,HSt2.out];exact rfl⟩
    case measure=>simp[intOf];omega
  ·have k1:¬(i:Int)<(names.length:Int):=by omega
   have ht:lckL L n0.kids names=false:=by rw[hno.out,List.drop_eq_nil_of_le (by omega)];rfl
   have HTt:=dhid ht;clear ht;go_wp2_with fail
   go_ret;exact⟨⟨-1,rfl,by rw[HTt.out];rfl⟩,HB.out⟩
theorem chasS(ad:Option Addr)(cap:Nat)(L:List Nd)(hW:WFN L)(n0:Nd)(hn0:L[0]?=some n0)(w:World)(hx:RR 58 (.slice ad L.length cap) L w)(names:List (List UInt8))(av:Option Addr)(cv:Nat)(hs:SR w (.slice av names.length cv) (names.map strV))(hnl:names.length≤1000000)(bo:Nat)(ho:w.cell? ⟨bo,0,none⟩=some (.slice ad L.length cap)):Calls Tryz.prog 21 #[.slice av names.length cv,.func (.func 22) #[] #[.pointer (some ⟨bo,0,none⟩)]] w fun r w'=>
 r=.returned (.bool (lckL L n0.kids names))∧Below w.heap.size w w':=by
 have HCL:=dhid (cidxS ad cap L hW n0 hn0 w hx names av cv hs hnl bo ho);clear hx hs hn0 ho hW;go_enter Tryz.func21,Tryz.ntmps21;go_wp2_with fail
 refine HCL.out.mono ?_;rintro r w1 ⟨⟨q,rfl,hq⟩,hb1⟩;have HB1:=dhid hb1;have HQ:=dhid hq;clear hb1 HCL hq;go_wp2_with fail
 go_ret;exact⟨by rw[←HQ.out];rfl,HB1.out⟩
theorem clacks(ad:Option Addr)(cap:Nat)(L:List Nd)(hW:WFN L)(n0:Nd)(hn0:L[0]?=some n0)(w:World)(hx:RR 58 (.slice ad L.length cap) L w)(names:List (List UInt8))(av:Option Addr)(cv:Nat)(hs:SR w (.slice av names.length cv) (names.map strV))(hnl:names.length≤1000000):Calls Tryz.prog 11 #[.agg #[.slice ad L.length cap],.slice av names.length cv] w fun r w'=>
 r=.returned (.bool (lckL L n0.kids names))∧Below w.heap.size w w':=by
 have HCL:=dhid (chasS ad cap L hW n0 hn0 (w.alloc (.cells #[.slice ad L.length cap] 36)) (hx.below (dbal (Below.refl _ _) _)) names av cv (hs.below (dbal (Below.refl _ _) _)) hnl w.heap.size (by simp));clear hx hs hn0 hW;go_enter Tryz.func11,Tryz.ntmps11;go_wp2_with fail
 refine HCL.out.mono ?_;rintro r w1 ⟨rfl,hb1⟩;have HB1:=dhid ((dbal (Below.refl w.heap.size w) _).trans (hb1.mono (by simp)));clear hb1 HCL;go_wp2_with fail
 go_ret;exact⟨rfl,HB1.out⟩
theorem cset2{w:World}{b g j:Nat}{u v:Value}(h:w.cell? ⟨g,j,none⟩=some v)(hb:g≠b):(w.setCell ⟨b,0,none⟩ u).cell? ⟨g,j,none⟩=some v:=(World.cell?_setCell_other _ _ _ _ (by intro h2;injection h2;omega)).trans h
theorem RR.setO{tN:TypeId}{v:Value}{L:List Nd}{w:World}{b:Nat}(h:RR tN v L w)(hl:0<L.length)(hz:w.cell? ⟨b,0,none⟩=some (.slice none 0 0))(u:Value):RR tN v L (w.setCell ⟨b,0,none⟩ u):=by
 refine⟨h.shape,fun k n hn=>?_⟩;obtain⟨g,kv,e,⟨adk,capk,hk,hc⟩,hkl,c0,c1,c2,c3,c4,c5⟩:=h.at' k n hn;have hgb:g≠b:=by
  obtain⟨n0,hn0⟩:∃n0,L[0]?=some n0:=⟨_,List.getElem?_eq_getElem hl⟩;obtain⟨g',kv',e',_,_,d0,_⟩:=h.at' 0 n0 hn0;rw[e]at e';injection e' with e' _ _;injection e' with e';injection e' with e';intro hh;rw[Nat.zero_mul,←e',hh,hz]at d0;cases d0
 refine⟨g,kv,e,⟨adk,capk,hk,fun j c hj=>?_⟩,hkl,cset2 c0 hgb,cset2 c1 hgb,cset2 c2 hgb,cset2 c3 hgb,cset2 c4 hgb,cset2 c5 hgb⟩;obtain⟨gk,ea,hcell⟩:=hc j c hj;refine⟨gk,ea,cset2 hcell ?_⟩;obtain⟨cz,hcz⟩:∃cz,n.kids[0]?=some cz:=⟨_,List.getElem?_eq_getElem (by have:=(List.getElem?_eq_some_iff.1 hj).1;omega)⟩;obtain⟨gz,ez,hz2⟩:=hc 0 cz hcz;rw[ea]at ez;injection ez with ez;injection ez with ez;intro hh;rw[←ez,hh,hz]at hz2;cases hz2
theorem cparse_nd(s:ByteArray)(w:World)(hg:8≤w.heap.size)(hG:GV w):Calls Tryz.prog 16 #[.string s] w fun r w'=>(match readL s.data.toList with
 | .ok t=>∃v,r=.returned (.tuple #[v,.int .i64 0,.int .i64 0])∧RR 58 v (flat 0 [] t) w'
 | .error (e,a)=>r=.returned (.tuple #[.slice none 0 0,.int .i64 (e:Int),.int .i64 (a:Int)])∧0<e)∧Below w.heap.size w w':=by
 refine(cparse s w hg hG).mono ?_;rintro r w' ⟨h,hb⟩;refine⟨?_,hb⟩;cases hR:readL s.data.toList with
 | error q=>obtain⟨e,a⟩:=q;rw[hR]at h;exact h
 | ok t=>
   rw[hR]at h;obtain⟨v,kvs,e,hN⟩:=h;obtain⟨hW,_⟩:=read_fit hR;exact⟨v,e,RR.of (kvs:=kvs) hN (fun n hn=>by obtain⟨k,hk⟩:=List.getElem?_of_mem hn;have:=hW.few k n hk;omega)⟩
theorem cpar_err(s:ByteArray)(w:World)(hg:8≤w.heap.size)(hG:GV w)(e a:Nat)(hR:readL s.data.toList=.error (e,a)):Calls Tryz.prog 8 #[.string s] w fun r w'=>r=.returned (.tuple #[.agg #[.slice none 0 0],.int .i64 (e:Int),.int .i64 (a:Int)])∧Below w.heap.size w w'∧0<e:=by
 have hrd:=cparse_nd s (w.alloc (.cells #[.slice none 0 0] 36)) (by simp;omega) (hG.kept fun k hk=>(dbal (Below.refl w.heap.size w) _).block k (by omega));simp only[hR]at hrd;have HR:=dhid hrd;clear hrd hR;go_enter Tryz.func8,Tryz.ntmps8;go_wp2_with fail
 refine HR.out.mono ?_;rintro r w1 ⟨⟨rfl,he⟩,hb⟩;have z0:w1.cell? ⟨w.heap.size,0,none⟩=some (.slice none 0 0):=cell_kp hb (by simp);have f0:∀k,w1.frozen? ⟨w.heap.size,k,none⟩=false:=fun k=>(hb.frozen (p:=⟨w.heap.size,k,none⟩) (by simp)).trans (by simp)
 have hne:((e:Int) != 0)=true:=by simp;omega
 have HB:=dhid ((dbal (Below.refl w.heap.size w) _).trans (hb.mono (by simp)));clear hb HR;go_wp2_with fail
 refine bodyPost_ret (v:=.tuple #[.agg #[.slice none 0 0],.int .i64 (e:Int),.int .i64 (a:Int)]) (by simp[results,Tryz.results8,go_sem,z0]) rfl ⟨rfl,?_,he⟩;exact HB.out.setCell (Nat.le_refl _) _
theorem cpar_kind(s:ByteArray)(w:World)(hg:8≤w.heap.size)(hG:GV w)(t:JT)(hR:readL s.data.toList=.ok t)(n0:Nd)(hn0:(flat 0 [] t)[0]?=some n0)(hk:n0.kind≠5):Calls Tryz.prog 8 #[.string s] w fun r w'=>r=.returned (.tuple #[.agg #[.slice none 0 0],.int .i64 6,.int .i64 (n0.at':Int)])∧Below w.heap.size w w':=by
 have hrd:=cparse_nd s (w.alloc (.cells #[.slice none 0 0] 36)) (by simp;omega) (hG.kept fun k hk=>(dbal (Below.refl w.heap.size w) _).block k (by omega));simp only[hR]at hrd;have HR:=dhid hrd;have hl0:0<(flat 0 [] t).length:=(List.getElem?_eq_some_iff.1 hn0).1;have hlen:=(read_fit hR).1.len;clear hrd hR;generalize flat 0 [] t=L at *;have kl0:(0:Int)<(L.length:Int):=by omega
 have hne:((n0.kind:Int) != 5)=true:=by simp;omega
 go_enter Tryz.func8,Tryz.ntmps8;go_wp2_with fail
 refine HR.out.mono ?_;rintro r w1 ⟨⟨v,rfl,hx⟩,hb⟩;have z0:w1.cell? ⟨w.heap.size,0,none⟩=some (.slice none 0 0):=cell_kp hb (by simp);have f0:∀k,w1.frozen? ⟨w.heap.size,k,none⟩=false:=fun k=>(hb.frozen (p:=⟨w.heap.size,k,none⟩) (by simp)).trans (by simp)
 have HB:=dhid ((dbal (Below.refl w.heap.size w) _).trans (hb.mono (by simp)));obtain⟨ad,cap,rfl⟩:=hx.shape;obtain⟨g,adk,capk,rfl,_,hkb,hkc,d0,d1,d2,d3,d4,d5⟩:=hx.node hn0;rw[Nat.zero_mul]at d0 d5;rw[Nat.zero_add]at d5;clear hb HR hx hkc d1 d2 d3 d4 hn0;go_wp2_with fail
 go_region
 all_goals go_wp2_with fail
 all_goals refine bodyPost_ret (v:=.tuple #[.agg #[.slice none 0 0],.int .i64 6,.int .i64 (n0.at':Int)]) (by simp[results,Tryz.results8,go_sem,z0]) rfl ⟨rfl,?_⟩
 all_goals exact(HB.out.setCell (Nat.le_refl _) _).drew
theorem cpar_ok(s:ByteArray)(w:World)(hg:8≤w.heap.size)(hG:GV w)(t:JT)(hR:readL s.data.toList=.ok t)(n0:Nd)(hn0:(flat 0 [] t)[0]?=some n0)(hk:n0.kind=5):Calls Tryz.prog 8 #[.string s] w fun r w'=>(∃v,r=.returned (.tuple #[.agg #[v],.int .i64 0,.int .i64 0])∧RR 58 v (flat 0 [] t) w')∧Below w.heap.size w w':=by
 have hrd:=cparse_nd s (w.alloc (.cells #[.slice none 0 0] 36)) (by simp;omega) (hG.kept fun k hk=>(dbal (Below.refl w.heap.size w) _).block k (by omega));simp only[hR]at hrd;have HR:=dhid hrd;have hl0:0<(flat 0 [] t).length:=(List.getElem?_eq_some_iff.1 hn0).1;have hlen:=(read_fit hR).1.len;clear hrd hR;generalize flat 0 [] t=L at *;have kl0:(0:Int)<(L.length:Int):=by omega
 go_enter Tryz.func8,Tryz.ntmps8;go_wp2_with fail
 refine HR.out.mono ?_;rintro r w1 ⟨⟨v,rfl,hx⟩,hb⟩;have z0:w1.cell? ⟨w.heap.size,0,none⟩=some (.slice none 0 0):=cell_kp hb (by simp);have f0:∀k,w1.frozen? ⟨w.heap.size,k,none⟩=false:=fun k=>(hb.frozen (p:=⟨w.heap.size,k,none⟩) (by simp)).trans (by simp)
 have HB:=dhid ((dbal (Below.refl w.heap.size w) _).trans (hb.mono (by simp)));obtain⟨ad,cap,rfl⟩:=hx.shape;obtain⟨g,adk,capk,rfl,_,hkb,hkc,d0,d1,d2,d3,d4,d5⟩:=hx.node hn0;rw[Nat.zero_mul,hk]at d0;have HX:=dhid hx;clear hb HR hx hkc d1 d2 d3 d4 d5 hn0;have HS:=dhid (HX.out.setO hl0 z0 (.slice (some ⟨g,0,none⟩) L.length cap));go_wp2_with fail
 refine bodyPost_ret (v:=.tuple #[.agg #[.slice (some ⟨g,0,none⟩) L.length cap],.int .i64 0,.int .i64 0]) (by simp[results,Tryz.results8,go_sem,z0]) rfl ⟨⟨_,rfl,HS.out⟩,?_⟩;exact HB.out.setCell (Nat.le_refl _) _
def RdQ(B:Nat)(q:Cl×Int×Int)(r:Ending)(w':World):Prop:=
 ∃ay ly cy,r=.returned (.tuple #[.agg #[.string q.1.iss,.slice ay ly cy,.int .i64 q.1.iat,.int .i64 q.1.nbf,.int .i64 q.1.exp],.int .i64 q.2.1,.int .i64 q.2.2])∧SR w' (.slice ay ly cy) q.1.aud∧∀g o sp,ay=some ⟨g,o,sp⟩→B≤g∧UFb w' g
theorem RdQ.nil(B:Nat)(e a:Int)(w':World):RdQ B (cl0,e,a) (.returned (.tuple #[.agg #[.string ⟨#[]⟩,.slice none 0 0,.int .i64 0,.int .i64 0,.int .i64 0],.int .i64 e,.int .i64 a])) w':=
 ⟨none,0,0,rfl,⟨none,0,rfl,fun _=>rfl,fun j z hj=>by simp[cl0]at hj⟩,fun g o sp h=>by cases h⟩
theorem below5{B b:Nat}{w w1:World}(h:Below B w w1)(hb:B≤b)(u0 u1 u2 u3 u4:Value):Below B w (((((w1.setCell ⟨b,0,none⟩ u0).setCell ⟨b,1,none⟩ u1).setCell ⟨b,2,none⟩ u2).setCell ⟨b,3,none⟩ u3).setCell ⟨b,4,none⟩ u4):=
 ((((h.setCell (p:=⟨b,0,none⟩) hb _).setCell (p:=⟨b,1,none⟩) hb _).setCell (p:=⟨b,2,none⟩) hb _).setCell (p:=⟨b,3,none⟩) hb _).setCell (p:=⟨b,4,none⟩) hb _
theorem fr5(b:Nat)(w1:World)(u0 u1 u2 u3 u4:Value):Fr b w1 (((((w1.setCell ⟨b,0,none⟩ u0).setCell ⟨b,1,none⟩ u1).setCell ⟨b,2,none⟩ u2).setCell ⟨b,3,none⟩ u3).setCell ⟨b,4,none⟩ u4):=
 ((((Fr.set b 0 _ _).trans (Fr.set b 1 _ _)).trans (Fr.set b 2 _ _)).trans (Fr.set b 3 _ _)).trans (Fr.set b 4 _ _)
theorem sr5(w:World):SR (w.alloc (.cells #[.string ⟨#[105,115,115]⟩,.string ⟨#[97,117,100]⟩,.string ⟨#[105,97,116]⟩,.string ⟨#[110,98,102]⟩,.string ⟨#[101,120,112]⟩] 9)) (.slice (some ⟨w.heap.size,0,none⟩) 5 5) ([issS,audS,iatS,nbfS,expS].map strV):=by
 refine⟨some ⟨w.heap.size,0,none⟩,5,rfl,(fun h=>by cases h),fun j z hj=>⟨_,_,rfl,?_⟩⟩;match j with
 | 0=>simp at hj;subst hj;simp;rfl
 | 1=>simp at hj;subst hj;simp;rfl
 | 2=>simp at hj;subst hj;simp;rfl
 | 3=>simp at hj;subst hj;simp;rfl
 | 4=>simp at hj;subst hj;simp;rfl
 | j+5=>simp at hj
theorem Fr.frozen{b g k:Nat}{w w':World}(h:Fr b w w')(hg:g<w.heap.size)(hb:g≠b):w'.frozen? ⟨g,k,none⟩=w.frozen? ⟨g,k,none⟩:=by
 simp only[World.frozen?];rw[h.block g hg hb]
def rdQ(L:List Nd)(kids:List Nat):Cl×Int×Int:=if(allE L kids).1=0 then if lckL L kids [issS,audS,iatS,nbfS,expS]=true then(cl0,7,0)else(allC L kids cl0,0,0)else(cl0,allE L kids)
theorem cread_err(s:ByteArray)(w:World)(hg:8≤w.heap.size)(hG:GV w)(e a:Int)(hP:∀w1:World,8≤w1.heap.size→GV w1→Calls Tryz.prog 8 #[.string s] w1 fun r w'=>r=.returned (.tuple #[.agg #[.slice none 0 0],.int .i64 e,.int .i64 a])∧Below w1.heap.size w1 w'∧e≠0):Calls Tryz.prog 4 #[.string s] w fun r w'=>RdQ w.heap.size (cl0,e,a) r w'∧Below w.heap.size w w':=by
 have HP:=dhid (hP (w.alloc (.cells #[.string ⟨#[]⟩,.slice none 0 0,.int .i64 0,.int .i64 0,.int .i64 0] 24)) (by simp;omega) (hG.kept fun k hk=>(dbal (Below.refl w.heap.size w) _).block k (by omega)));clear hP;go_enter Tryz.func4,Tryz.ntmps4;go_wp2_with fail
 refine HP.out.mono ?_;rintro r w1 ⟨rfl,hb,he⟩;have z0:w1.cell? ⟨w.heap.size,0,none⟩=some (.string ⟨#[]⟩):=cell_kp hb (by simp);have z1:w1.cell? ⟨w.heap.size,1,none⟩=some (.slice none 0 0):=cell_kp hb (by simp);have z2:w1.cell? ⟨w.heap.size,2,none⟩=some (.int .i64 0):=cell_kp hb (by simp);have z3:w1.cell? ⟨w.heap.size,3,none⟩=some (.int .i64 0):=cell_kp hb (by simp);have z4:w1.cell? ⟨w.heap.size,4,none⟩=some (.int .i64 0):=cell_kp hb (by simp);have f0:∀k,w1.frozen? ⟨w.heap.size,k,none⟩=false:=fun k=>(hb.frozen (p:=⟨w.heap.size,k,none⟩) (by simp)).trans (by simp)
 have hlt:w.heap.size<w1.heap.size:=by have:=hb.size;simp at this;omega
 have hne:(e != 0)=true:=by simp[he]
 have HB:=dhid ((dbal (Below.refl w.heap.size w) _).trans (hb.mono (by simp)));clear hb HP;have y0:∀o,(w1.alloc o).cell? ⟨w.heap.size,0,none⟩=some (.string ⟨#[]⟩):=fun o=>(World.cell?_alloc_lt _ _ _ hlt).trans z0
 have y1:∀o,(w1.alloc o).cell? ⟨w.heap.size,1,none⟩=some (.slice none 0 0):=fun o=>(World.cell?_alloc_lt _ _ _ hlt).trans z1
 have y2:∀o,(w1.alloc o).cell? ⟨w.heap.size,2,none⟩=some (.int .i64 0):=fun o=>(World.cell?_alloc_lt _ _ _ hlt).trans z2
 have y3:∀o,(w1.alloc o).cell? ⟨w.heap.size,3,none⟩=some (.int .i64 0):=fun o=>(World.cell?_alloc_lt _ _ _ hlt).trans z3
 have y4:∀o,(w1.alloc o).cell? ⟨w.heap.size,4,none⟩=some (.int .i64 0):=fun o=>(World.cell?_alloc_lt _ _ _ hlt).trans z4
 have yf:∀o k,(w1.alloc o).frozen? ⟨w.heap.size,k,none⟩=false:=fun o k=>((dbal (Below.refl w1.heap.size w1) o).frozen (p:=⟨w.heap.size,k,none⟩) hlt).trans (f0 k)
 go_wp2_with fail
 refine bodyPost_ret (v:=.tuple #[.agg #[.string ⟨#[]⟩,.slice none 0 0,.int .i64 0,.int .i64 0,.int .i64 0],.int .i64 e,.int .i64 a]) (by simp[results,Tryz.results4,go_sem,World.cell?_alloc_lt,hlt,z0,z1,z2,z3,z4]) rfl ⟨RdQ.nil _ _ _ _,?_⟩;exact dbal (below5 HB.out (Nat.le_refl _) _ _ _ _ _) _
theorem cread_ok(s:ByteArray)(w:World)(hg:8≤w.heap.size)(hG:GV w)(t:JT)(hR:readL s.data.toList=.ok t)(n0:Nd)(hn0:(flat 0 [] t)[0]?=some n0)(hk:n0.kind=5):Calls Tryz.prog 4 #[.string s] w fun r w'=>RdQ w.heap.size (rdC (flat 0 [] t)) r w'∧Below w.heap.size w w':=by
 have HP:=dhid (cpar_ok s (w.alloc (.cells #[.string ⟨#[]⟩,.slice none 0 0,.int .i64 0,.int .i64 0,.int .i64 0] 24)) (by simp;omega) (hG.kept fun k hk=>(dbal (Below.refl w.heap.size w) _).block k (by omega)) t hR n0 hn0 hk);have HW:=dhid (read_fit hR).1;have HN0:=dhid hn0;have hrd:rdC (flat 0 [] t)=rdQ (flat 0 [] t) n0.kids:=by
  unfold rdC rdQ;rw[ndA_of hn0,if_pos hk,lackB_eq]
 rw[hrd];clear hrd hR hn0 hk;generalize flat 0 [] t=L at *;go_enter Tryz.func4,Tryz.ntmps4;go_wp2_with fail
 refine HP.out.mono ?_;rintro r w1 ⟨⟨v,rfl,hx⟩,hb⟩;obtain⟨ad,cap,rfl⟩:=hx.shape;have z0:w1.cell? ⟨w.heap.size,0,none⟩=some (.string ⟨#[]⟩):=cell_kp hb (by simp);have z1:w1.cell? ⟨w.heap.size,1,none⟩=some (.slice none 0 0):=cell_kp hb (by simp);have z2:w1.cell? ⟨w.heap.size,2,none⟩=some (.int .i64 0):=cell_kp hb (by simp);have z3:w1.cell? ⟨w.heap.size,3,none⟩=some (.int .i64 0):=cell_kp hb (by simp);have z4:w1.cell? ⟨w.heap.size,4,none⟩=some (.int .i64 0):=cell_kp hb (by simp);have f0:∀k,w1.frozen? ⟨w.heap.size,k,none⟩=false:=fun k=>(hb.frozen (p:=⟨w.heap.size,k,none⟩) (by simp)).trans (by simp)
 have hlt:w.heap.size<w1.heap.size:=by have:=hb.size;simp at this;omega
 have HB:=dhid ((dbal (Below.refl w.heap.size w) _).trans (hb.mono (by simp)));have HX:=dhid hx;have HZ:=dhid (And.intro z0 (And.intro z1 (And.intro z2 (And.intro z3 z4))));have HF0:=dhid f0;clear hb HP hx z0 z1 z2 z3 z4 f0;go_wp2_with fail
 have HX2:=dhid (HX.out.below (dbal (Below.refl w1.heap.size w1) (.cells #[.slice ad L.length cap] 36)));have HS2:Hid ((w1.alloc (.cells #[.slice ad L.length cap] 36)).heap.size=w1.heap.size+1):=dhid (by simp);have HO2:Hid ((w1.alloc (.cells #[.slice ad L.length cap] 36)).cell? ⟨w1.heap.size,0,none⟩=some (.slice ad L.length cap)):=dhid (by simp);have HB2:=dhid (dbal (Below.refl w1.heap.size w1) (.cells #[.slice ad L.length cap] 36));generalize w1.alloc (.cells #[.slice ad L.length cap] 36)=W2 at *;have HB3:=dhid (dbal (Below.refl W2.heap.size W2) (.cells #[.string ⟨#[]⟩,.slice none 0 0,.int .i64 0,.int .i64 0,.int .i64 0] 24));have HS3:Hid ((W2.alloc (.cells #[.string ⟨#[]⟩,.slice none 0 0,.int .i64 0,.int .i64 0,.int .i64 0] 24)).heap.size=w1.heap.size+2):=dhid (by have:=HS2.out;simp;omega);have HC3:Hid (CS (w1.heap.size+1) cl0 (W2.alloc (.cells #[.string ⟨#[]⟩,.slice none 0 0,.int .i64 0,.int .i64 0,.int .i64 0] 24))):=dhid (by
  rw[←HS2.out];exact⟨⟨none,0,0,⟨by simp[cl0],by simp,by simp[cl0],by simp[cl0],by simp[cl0]⟩,⟨none,0,rfl,fun _=>rfl,fun j z hj=>by simp[cl0]at hj⟩,fun g o sp h=>by cases h⟩,fun k=>by simp⟩)
 generalize W2.alloc (.cells #[.string ⟨#[]⟩,.slice none 0 0,.int .i64 0,.int .i64 0,.int .i64 0] 24)=W at *;have o5:W.cell? ⟨w1.heap.size,0,none⟩=some (.slice ad L.length cap):=cell_kp HB3.out HO2.out
 go_region_with (first
  | (go_at_call 10;refine(ctellTo ad L.length cap (w1.heap.size+1) _ (by have:=HS3.out;simp;omega)).mono ?_;rintro r w2 ⟨⟨b1,b2,b5,bm,rfl,hT⟩,hb2⟩;have HT:=dhid hT;have HB4:=dhid hb2;have o6:w2.cell? ⟨w1.heap.size,0,none⟩=some (.slice ad L.length cap):=cell_kp hb2 (by simpa using o5);clear hT hb2)
  | (go_at_call 9;refine(ceach ad cap L HW.out (w1.heap.size+1) b1 b2 b5 bm cl0 W2 w2 n0 HN0.out HX2.out (by have:=HS2.out;omega) ((HB3.out.drew.trans (HB4.out.mono HB3.out.size)).mono (by have:=HS2.out;omega)) HT.out (HC3.out.below ((Below.refl W.heap.size W).drew.trans HB4.out))).mono ?_;rintro r w3 ⟨rfl,hC4,hF4⟩;have HC4:=dhid hC4;have HF4:=dhid hF4;clear hC4 hF4))
 all_goals have HBw2:Hid (Below W2.heap.size W2 w2):=dhid (HB3.out.drew.trans (HB4.out.mono HB3.out.size))
 all_goals have HX3:=dhid (HX2.out.below (HF4.out.low HBw2.out (by have:=HS2.out;omega) HBw2.out.size))
 all_goals have HBw1:Hid (Below w1.heap.size w1 w2):=dhid (HB2.out.trans (HBw2.out.mono HB2.out.size))
 all_goals have HBa:Hid (Below w.heap.size w w3):=dhid (HF4.out.low (HB.out.trans (HBw1.out.mono (by omega))) (by omega) (by have:=HBw1.out.size;omega))
 all_goals have hlt3:w.heap.size<w3.heap.size:=by have:=HBw1.out.size;have:=HF4.out.size;omega
 all_goals have z0:w3.cell? ⟨w.heap.size,0,none⟩=some (.string ⟨#[]⟩):=HF4.out.cell (by omega) (cell_kp HBw1.out HZ.out.1)
 all_goals have z1:w3.cell? ⟨w.heap.size,1,none⟩=some (.slice none 0 0):=HF4.out.cell (by omega) (cell_kp HBw1.out HZ.out.2.1)
 all_goals have z2:w3.cell? ⟨w.heap.size,2,none⟩=some (.int .i64 0):=HF4.out.cell (by omega) (cell_kp HBw1.out HZ.out.2.2.1)
 all_goals have z3:w3.cell? ⟨w.heap.size,3,none⟩=some (.int .i64 0):=HF4.out.cell (by omega) (cell_kp HBw1.out HZ.out.2.2.2.1)
 all_goals have z4:w3.cell? ⟨w.heap.size,4,none⟩=some (.int .i64 0):=HF4.out.cell (by omega) (cell_kp HBw1.out HZ.out.2.2.2.2)
 all_goals have f0:∀k,w3.frozen? ⟨w.heap.size,k,none⟩=false:=fun k=>(HF4.out.frozen (by have:=HBw1.out.size;omega) (by omega)).trans ((HBw1.out.frozen (p:=⟨w.heap.size,k,none⟩) hlt).trans (HF0.out k))
 all_goals have o7:w3.cell? ⟨w1.heap.size,0,none⟩=some (.slice ad L.length cap):=HF4.out.cell (by omega) o6
 all_goals clear HB4 HT HB3 HC3 HS3 HX2 HX HB2 HO2 HZ HF0 o5 o6 HBw2 HB
 all_goals (
  by_cases he:(allE L n0.kids).1=0
  ·have HC5:=dhid (HC4.out he)
   have HE:=dhid he;clear HC4;go_wp2_with fail
   refine(clacks ad cap L HW.out n0 HN0.out _ (HX3.out.below (dbal (Below.refl _ _) _)) [issS,audS,iatS,nbfS,expS] (some ⟨w3.heap.size,0,none⟩) 5 (sr5 w3) (by simp)).mono ?_;rintro r w4 ⟨rfl,hb4⟩;have HB5:Hid (Below w3.heap.size w3 w4):=dhid ((dbal (Below.refl w3.heap.size w3) _).trans (hb4.mono (by simp)));clear hb4;have y0:=cell_kp HB5.out z0;have y1:=cell_kp HB5.out z1;have y2:=cell_kp HB5.out z2;have y3:=cell_kp HB5.out z3;have y4:=cell_kp HB5.out z4;have g0:∀k,w4.frozen? ⟨w.heap.size,k,none⟩=false:=fun k=>(HB5.out.frozen (p:=⟨w.heap.size,k,none⟩) hlt3).trans (f0 k)
   have HBb:Hid (Below w.heap.size w w4):=dhid (HBa.out.trans (HB5.out.mono (by omega)));clear z0 z1 z2 z3 z4 f0 HBa;cases hlk:lckL L n0.kids [issS,audS,iatS,nbfS,expS]with
   | true=>
     have hq:Hid (rdQ L n0.kids=(cl0,7,0)):=dhid (by unfold rdQ;rw[if_pos HE.out,if_pos hlk]);clear hlk;go_wp2_with fail
     refine bodyPost_ret (v:=.tuple #[.agg #[.string ⟨#[]⟩,.slice none 0 0,.int .i64 0,.int .i64 0,.int .i64 0],.int .i64 7,.int .i64 0]) (by simp[results,Tryz.results4,go_sem,y0,y1,y2,y3,y4]) rfl ⟨by rw[hq.out];exact RdQ.nil _ _ _ _,?_⟩;exact below5 HBb.out (Nat.le_refl _) _ _ _ _ _
   | false=>
     have hq:Hid (rdQ L n0.kids=(allC L n0.kids cl0,0,0)):=dhid (by unfold rdQ;rw[if_pos HE.out,if_neg (by rw[hlk];simp)]);clear hlk;obtain⟨ay,ly,cy,q5,hsr,hnew⟩:=(HC5.out.below HB5.out).cs;have c0:=q5.c0;have c1:=q5.c1;have c2:=q5.c2;have c3:=q5.c3;have c4:=q5.c4;have HSR:=dhid hsr;have HNW:=dhid hnew;clear q5 hsr hnew HC5;generalize allC L n0.kids cl0=X at *;go_wp2_with fail
     refine bodyPost_ret (v:=.tuple #[.agg #[.string X.iss,.slice ay ly cy,.int .i64 X.iat,.int .i64 X.nbf,.int .i64 X.exp],.int .i64 0,.int .i64 0]) (by simp[results,Tryz.results4,go_sem,y0,y1,y2,y3,y4]) rfl ⟨?_,below5 HBb.out (Nat.le_refl _) _ _ _ _ _⟩;rw[hq.out];exact⟨ay,ly,cy,rfl,HSR.out.fr (fr5 _ _ _ _ _ _ _) (fun g o sp hg=>by have:=(HNW.out g o sp hg).1;omega),fun g o sp hg=>⟨by have:=(HNW.out g o sp hg).1;omega,(HNW.out g o sp hg).2.fr (fr5 _ _ _ _ _ _ _) (by have:=(HNW.out g o sp hg).1;omega)⟩⟩
  ·have hq:Hid (rdQ L n0.kids=(cl0,allE L n0.kids)):=dhid (by unfold rdQ;rw[if_neg he])
   have he2:((allE L n0.kids).1 != 0)=true:=by simp[he]
   clear HC4;go_wp2_with fail
   refine bodyPost_ret (v:=.tuple #[.agg #[.string ⟨#[]⟩,.slice none 0 0,.int .i64 0,.int .i64 0,.int .i64 0],.int .i64 (allE L n0.kids).1,.int .i64 (allE L n0.kids).2]) (by simp[results,Tryz.results4,go_sem,z0,z1,z2,z3,z4]) rfl ⟨by rw[hq.out];exact RdQ.nil _ _ _ _,?_⟩;exact below5 HBa.out (Nat.le_refl _) _ _ _ _ _)
def rdCR(R:Except (Nat×Nat) JT):Cl×Int×Int:=match R with| .ok t=>rdC (flat 0 [] t)| .error (e,a)=>(cl0,(e:Int),(a:Int))
theorem cread(s:ByteArray)(w:World)(hg:8≤w.heap.size)(hG:GV w):Calls Tryz.prog 4 #[.string s] w fun r w'=>RdQ w.heap.size (rdCR (readL s.data.toList)) r w'∧Below w.heap.size w w':=by
 cases hR:readL s.data.toList with
 | error q=>
   obtain⟨e,a⟩:=q;exact cread_err s w hg hG e a fun w1 h1 h2=>(cpar_err s w1 h1 h2 e a hR).mono fun r w' h=>⟨h.1,h.2.1,by have:=h.2.2;omega⟩
 | ok t=>
   obtain⟨n0,r0,hf,_⟩:=flat_head 0 [] t;have hn0:(flat 0 [] t)[0]?=some n0:=by rw[hf];rfl
   by_cases hk:n0.kind=5
   ·exact cread_ok s w hg hG t hR n0 hn0 hk
   ·have e:rdCR (.ok t)=(cl0,6,(n0.at':Int)):=by
     show rdC (flat 0 [] t)=_
     unfold rdC;rw[ndA_of hn0,if_neg hk]
    rw[e];exact cread_err s w hg hG 6 n0.at' fun w1 h1 h2=>(cpar_kind s w1 h1 h2 t hR n0 hn0 hk).mono fun r w' h=>⟨h.1,h.2,by decide⟩
end Go.Proofs.YtaghclgookfmnaaGreatDoor
