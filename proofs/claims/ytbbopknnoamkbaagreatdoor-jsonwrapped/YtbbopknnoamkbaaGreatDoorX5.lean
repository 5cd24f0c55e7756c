import Derived.Test.YtbbopknnoamkbaaGreatDoorX4
import Derived.Test.YtbbopknnoamkbaaGreatDoorX3
import Derived.Test.YtbbopknnoamkbaaGreatDoorK7
set_option maxHeartbeats 6400000
set_option maxRecDepth 4000
namespace Go.Proofs.YtbbopknnoamkbaaGreatDoor
open Go.RowKit
set_option linter.unusedVariables false
theorem minfo:(Tryz.prog.info? 176).map (fun i=>(i.zero,i.size,i.bytes))=some (some (.agg #[.slice none 0 0,.int .i64 0]),2,32):=by kernel_rfl
theorem i64info:(Tryz.prog.info? 3).map (fun i=>(i.zero,i.size,i.bytes))=some (some (.int .i64 0),1,8):=by kernel_rfl
structure MI (L:List Nd) (w:World) (ks:List Nat) (j:Nat) (v:Value) (us:List Value) (wr:World):Prop where
 le:j≤ks.length
 len:us.length=j
 row:wr.ownsRow w.heap.size 176 2 v j (memC (ks.take j) us)
 un:∀(i k:Nat) (u:Value),(ks.take j)[i]?=some k→us[i]?=some u→wr.ownsRow w.heap.size 179 1 u (unitsL (keyL L k)).length ((unitsL (keyL L k)).map uV)
 bel:Below w.heap.size w wr
theorem MI.shape{L:List Nd}{w:World}{ks:List Nat}{j:Nat}{v:Value}{us:List Value}{wr:World}(h:MI L w ks j v us wr):∃ad cap,v=.slice ad j cap:=by
 rcases h.row.2 with⟨a,b⟩|⟨g,c,cu,a,_⟩
 ·exact⟨none,0,by rw[a,b]⟩
 ·exact⟨_,_,a⟩
theorem ownsRow_le{w:World}{B B' sz n:Nat}{e:TypeId}{v:Value}{xs:List Value}(h:w.ownsRow B e sz v n xs)(hB:B'≤B):w.ownsRow B' e sz v n xs:=by
 refine⟨h.1,?_⟩;rcases h.2 with h|⟨g,cap,cur,a,b,c⟩
 ·exact .inl h
 ·exact .inr ⟨g,cap,cur,a,by omega,c⟩
theorem MI.push{L:List Nd}{w:World}{ks:List Nat}{j:Nat}{v u:Value}{us:List Value}{wr w1 w3:World}{k:Nat}(h:MI L w ks j v us wr)(hk:ks[j]?=some k)(b1:Below wr.heap.size wr w1)(hu:w1.ownsRow (wr.heap.size+1) 179 1 u (unitsL (keyL L k)).length ((unitsL (keyL L k)).map uV))(o:Obj){g cap:Nat}(ho:w3.ownsRow w.heap.size 176 2 (.slice (some ⟨g,0,none⟩) (j+1) cap) (j+1) (memC (ks.take j) us++[u,iV k]))(hg:(w1.alloc o).grownBy w3 v.ownBlock):MI L w ks (j+1) (.slice (some ⟨g,0,none⟩) (j+1) cap) (us++[u]) w3:=by
 have hjl:j<ks.length:=(List.getElem?_eq_some_iff.1 hk).1;have htk:ks.take (j+1)=ks.take j++[k]:=by rw[List.take_add_one,hk];rfl
 have hwr:=h.bel.size;have hw1:=b1.size;have hlt:∀{x:Nat},v.ownBlock=some x→x<wr.heap.size:=fun hx=>(ownBlock_lt h.row hx).2.1
 have hkeep:∀x,x<w1.heap.size→some x≠v.ownBlock→w3.heap[x]?=w1.heap[x]?:=fun x hx hn=>by
  rw[hg.block x (by simp;omega) hn,heap_alloc_old _ _ hx]
 have row1:w1.ownsRow w.heap.size 176 2 v j (memC (ks.take j) us):=ownsRow_k h.row (fun x hx=>b1.block x (hlt hx));refine⟨hjl,by simp[h.len],?_,?_,?_⟩
 ·rw[htk,memC_snoc _ _ k u (by rw[h.len,List.length_take];omega)];exact ho
 ·intro i k' u' hi hu'
  rw[htk]at hi;have hlen:(ks.take j).length=j:=by rw[List.length_take];omega
  by_cases hij:i<j
  ·rw[List.getElem?_append_left (by omega)]at hi
   rw[List.getElem?_append_left (by rw[h.len];omega)]at hu';have r0:=h.un i k' u' hi hu';have r1:w1.ownsRow w.heap.size 179 1 u' (unitsL (keyL L k')).length ((unitsL (keyL L k')).map uV):=ownsRow_k r0 (fun x hx=>b1.block x (ownBlock_lt r0 hx).2.1);exact ownsRow_other (by decide) row1 r1 hkeep
  ·have hij':i=j:=by
    have:=(List.getElem?_eq_some_iff.1 hi).1;rw[List.length_append,hlen]at this;simp at this;omega
   subst hij';rw[List.getElem?_append_right (by omega),hlen,Nat.sub_self]at hi;rw[List.getElem?_append_right (by rw[h.len];exact Nat.le_refl _),h.len,Nat.sub_self]at hu';simp at hi hu';subst hi;subst hu';exact ownsRow_other (by decide) row1 (ownsRow_le hu (by omega)) hkeep
 ·have b2:Below w.heap.size w w1:=h.bel.trans (b1.mono hwr)
  exact(b2.alloc (by omega) o).grown hg (by simp;omega) (fun x hx=>(ownBlock_lt h.row hx).1)
structure OIw (w2:World) (xs:List Nat) (j:Nat) (v:Value) (wr:World):Prop where
 le:j≤xs.length
 row:wr.ownsRow w2.heap.size 3 1 v j ((xs.take j).map iV)
 bel:Below w2.heap.size w2 wr
theorem OIw.shape{w2:World}{xs:List Nat}{j:Nat}{v:Value}{wr:World}(h:OIw w2 xs j v wr):∃ad cap,v=.slice ad j cap:=by
 rcases h.row.2 with⟨a,b⟩|⟨g,c,cu,a,_⟩
 ·exact⟨none,0,by rw[a,b]⟩
 ·exact⟨_,_,a⟩
theorem OIw.push{w2:World}{xs:List Nat}{j k:Nat}{v:Value}{wr w9:World}(h:OIw w2 xs j v wr)(hk:xs[j]?=some k)(o1 o2:Obj){g cap:Nat}(ho:w9.ownsRow w2.heap.size 3 1 (.slice (some ⟨g,0,none⟩) (j+1) cap) (j+1) ((xs.take j).map iV++[iV k]))(hg:((wr.alloc o1).alloc o2).grownBy w9 v.ownBlock):OIw w2 xs (j+1) (.slice (some ⟨g,0,none⟩) (j+1) cap) w9:=by
 have hsz:=h.bel.size;refine⟨(List.getElem?_eq_some_iff.1 hk).1,?_,?_⟩
 ·rw[List.take_add_one,hk]
  simpa using ho
 ·exact((h.bel.alloc (by omega) o1).alloc (by simp;omega) o2).grown hg (by simp;omega) (fun x hx=>(ownBlock_lt h.row hx).1)
section
variable (bp:Nat) (vN vO:Value) (w:World)
theorem cbyName(L:List Nd)(ks:List Nat)(kv:Value)(hd:WD bp vN vO w)(hN:NR bp (own vO []) vN L w)(hK:KR bp (own vO []) kv ks w)(hn:ks.length≤1000000)(hL:L.length≤1000000)(hks:∀c∈ks,c<L.length)(hu:∀c∈ks,U8 (keyL L c))(hdk:ks.Pairwise (fun a b=>keyL L a≠keyL L b))(hkey:∀c∈ks,(keyL L c).length≤65536):Calls Tryz.prog 113 #[.pointer (some ⟨bp,0,none⟩),kv] w fun e w'=>∃v,e=.returned v∧w'.ownsRow w.heap.size 3 1 v ks.length ((srt (ltK L) ks).map iV)∧Below w.heap.size w w':=by
 obtain⟨i0,hi0,hz0,hz1,hz2⟩:=info_parts minfo;obtain⟨i1,hi1,hy0,hy1,hy2⟩:=info_parts i64info;have HI:Hid _:=hi0;have HI1:Hid _:=hi1;obtain⟨adk,capk,rfl⟩:=hK.shape;obtain⟨c0,c1,cf⟩:=hd.cell;have hlt:=hd.lt;have HK:Hid (KR bp (own vO []) (.slice adk ks.length capk) ks w):=hK;have HN:Hid (NR bp (own vO []) vN L w):=hN;have HKS:Hid _:=hks;have HU:Hid _:=hu;have HD:Hid _:=hdk;have HKY:Hid _:=hkey;have C0:Hid _:=c0;clear hi0 hi1 hK hN hks hu hdk hkey hd cf c1 c0;go_enter Tryz.func113,Tryz.ntmps113;go_wp2;go_loopw [5,13] (fun mv iv wr=>∃(j:Nat) (us:List Value),iv=.int .i64 (j:Int)∧MI L w ks j mv us wr) (fun _ iv _=>ks.length-(intOf iv).toNat)
 case atStart=>exact⟨0,[],rfl,Nat.zero_le _,rfl,⟨rfl,.inl ⟨rfl,rfl⟩⟩,fun i k u h=>by simp at h,Below.refl _ _⟩
 case round=>
  obtain⟨j,us,rfl,hM⟩:=hrel;obtain⟨ad,cap,rfl⟩:=hM.shape;have HM:Hid (MI L w ks j (.slice ad j cap) us wr):=hM;have hwr:=hM.bel.size;have hold:∀g o,g<w.heap.size→wr.cell? ⟨g,o,none⟩=w.cell? ⟨g,o,none⟩:=fun g o hg=>World.cell?_of_block (a:=⟨g,o,none⟩) (hM.bel.block g hg)
  by_cases hj:j<ks.length
  ·have k1:(j:Int)<(ks.length:Int):=by omega
   obtain⟨k,hk⟩:∃k,ks[j]?=some k:=⟨_,List.getElem?_eq_getElem hj⟩;have hkm:k∈ks:=List.mem_of_getElem? hk;obtain⟨g,capg,e,g1,g2,g3,g4⟩:=HK.out.at' j k hk;obtain rfl:adk=some ⟨g,0,none⟩:=by injection e
   have r4:=(hold g j g1).trans g4;have hkL:=HKS.out k hkm;have k2:(k:Int)<(L.length:Int):=by omega
   obtain⟨nd,hnd⟩:∃nd,L[k]?=some nd:=⟨_,List.getElem?_eq_getElem hkL⟩;obtain⟨gN,capN,kvN,rfl,n1,n2,n3,hKn,b0,b1,b2,b3,b4,b5⟩:=HN.out.at' k nd hnd;have q0:=(hold bp 0 hlt).trans C0.out;have q1:=(hold gN (k*6+1) n1).trans b1;have hke:=keyL_of hnd;have hun:=cunits ⟨nd.key.toArray⟩ wr (by have:=HU.out k hkm;rw[hke]at this;simpa using this) (by have:=HKY.out k hkm;rw[hke]at this;show nd.key.toArray.size≤_;simpa using this);have hdl:(⟨nd.key.toArray⟩:ByteArray).data.toList=nd.key:=by simp
   rw[hdl,←hke]at hun;rw[←hke]at q1;have HP:Hid (∀{u:Value} {w1 w3:World},Below wr.heap.size wr w1→w1.ownsRow (wr.heap.size+1) 179 1 u (unitsL (keyL L k)).length ((unitsL (keyL L k)).map uV)→∀(o:Obj) {g9 cap9:Nat},w3.ownsRow w.heap.size 176 2 (.slice (some ⟨g9,0,none⟩) (j+1) cap9) (j+1) (memC (ks.take j) us++[u,iV k])→(w1.alloc o).grownBy w3 (Value.slice ad j cap).ownBlock→MI L w ks (j+1) (.slice (some ⟨g9,0,none⟩) (j+1) cap9) (us++[u]) w3):=fun hb hu o _ _ ho hg=>hM.push hk hb hu o ho hg
   have HROW:Hid (∀w1,Below wr.heap.size wr w1→∀o,(w1.alloc o).ownsRow w.heap.size 176 2 (.slice ad j cap) j (memC (ks.take j) us)):=fun w1 hb o=>(ownsRow_k hM.row (fun x hx=>hb.block x (ownBlock_lt hM.row hx).2.1)).alloc o
   generalize keyL L k=key at *;clear hM hold g4 e b0 b1 b2 b3 b4 b5 hKn hk hkm hnd hke hdl g1 g2 g3 n1 n2 n3 hkL;go_wp2_with fail
   refine hun.mono ?_;rintro r w1 ⟨u,rfl,hu1,hb1⟩;obtain⟨adu,capu,rfl⟩:=(UR.of hu1).shape;have HU1:Hid (w1.ownsRow (wr.heap.size+1) 179 1 (.slice adu (unitsL key).length capu) (unitsL key).length ((unitsL key).map uV)):=hu1;have HB1:Hid (Below wr.heap.size wr w1):=hb1;have hw1:=hb1.size;clear hun hu1 hb1 r4 q0 q1;go_wp2_with (refine wpList_append_lies _ rfl (.tmp 17) (.tmp 29) 172 rfl w.heap.size 176 i0 _ 2 32 Tryz.underlying172 HI.out hz0 hz1 hz2 rfl (by decide) _ j (memC (ks.take j) us) rfl (HROW.out w1 HB1.out _) ⟨w1.heap.size,0,none⟩ 1 1 [.slice adu (unitsL key).length capu,.int .i64 (k:Int)] rfl rfl (built_any w1 _ 176) (by intro u hu;rcases List.mem_cons.1 hu with rfl|hu;exact rfl;rw[List.mem_singleton.1 hu];rfl) (by decide) (by unfold maxLen;omega) (by omega) (by simp;omega) (w1.heap.size+1) (by simp) ?_;intro g9 cap9 w9 ho hg hgg _;have Z:Hid _:=And.intro ho hg;clear ho hg hgg)
   go_wp2_with fail
   go_roundw
   case rel=>exact⟨j+1,_,by go_num,HP.out HB1.out HU1.out _ Z.out.1 Z.out.2⟩
   case measure=>simp[intOf];omega
  ·obtain rfl:j=ks.length:=by have:=hM.le;omega
   have k1:¬(ks.length:Int)<(ks.length:Int):=by omega
   have hll:=hM.len;have hrow:=hM.row;have hun2:=hM.un;rw[List.take_length]at hrow hun2;have hsort:Calls Tryz.prog 142 #[.slice ad ks.length cap,.func (.func 143) #[] #[]] wr fun e w'=>e=.returned (.tuple #[])∧Below w.heap.size wr w'∧∀(i k:Nat),(srt (ltK L) ks)[i]?=some k→∃g a m c,ad=some ⟨g,0,none⟩∧g<w'.heap.size∧w'.cell? ⟨g,i*2,none⟩=some (.slice a m c)∧w'.cell? ⟨g,i*2+1,none⟩=some (.int .i64 (k:Int)):=by
    rcases Nat.eq_zero_or_pos ks.length with h0|h0
    ·rw[h0]
     refine Calls.mono (AnyF.slices_SortFunc_none Tryz.sortM ad cap _ wr) ?_;rintro e w' ⟨rfl,rfl⟩;refine⟨rfl,Below.refl _ _,fun i k hk=>?_⟩;have h1:=(List.getElem?_eq_some_iff.1 hk).1;rw[srt_len,h0]at h1;omega
    ·rcases hrow.2 with⟨_,b⟩|⟨g,c,cur,a,b,c1,_⟩
     ·omega
     ·injection a with a1 a2 a3
      subst a1;subst a3;refine(csort L ks us w.heap.size g cap wr hll h0 hn hrow hun2 HU.out HD.out HKY.out).mono ?_;rintro e w' ⟨rfl,hb,hc⟩;refine⟨rfl,hb,fun i k hk=>?_⟩;obtain⟨a',m',c',d1,d2⟩:=hc i k hk;have hg:g<wr.heap.size:=(Array.getElem?_eq_some_iff.1 c1).1;exact⟨g,a',m',c',rfl,Nat.lt_of_lt_of_le hg hb.size,d1,d2⟩
   have hxl:=srt_len (ltK L) ks;obtain⟨xs,hxs⟩:∃xs,xs=srt (ltK L) ks:=⟨_,rfl⟩;rw[←hxs]at hsort hxl;have HX:=Lib.hid hxs;have HBW:=Lib.hid hM.bel;clear hold hM hrow hun2 hxs hll;rw[←hxl]at k1;go_wp2_with (go_at_call 142;refine hsort.mono ?_;rintro e w2 ⟨rfl,hb2,hc2⟩;have HB2:=Lib.hid hb2;have HC2:=Lib.hid hc2;clear hb2 hc2 hsort)
   have hw2:=HB2.out.size;go_loopw [8,36] (fun ov iv wr2=>∃(j:Nat),iv=.int .i64 (j:Int)∧OIw w2 xs j ov wr2) (fun _ iv _=>xs.length-(intOf iv).toNat)
   case atStart=>exact⟨0,rfl,Nat.zero_le _,⟨rfl,.inl ⟨rfl,rfl⟩⟩,Below.refl _ _⟩
   case round=>
    obtain⟨j,rfl,hO⟩:=hrel;obtain⟨ad8,cap8,rfl⟩:=hO.shape;have HO:=Lib.hid hO;by_cases hj:j<xs.length
    ·have k2:(j:Int)<(ks.length:Int):=by omega
     obtain⟨k,hk⟩:∃k,xs[j]?=some k:=⟨_,List.getElem?_eq_getElem hj⟩;obtain⟨g,a,m,c,rfl,g1,d1,d2⟩:=HC2.out j k hk;have e1:=(World.cell?_of_block (a:=⟨g,j*2,none⟩) (hO.bel.block g g1)).trans d1;have e2:=(World.cell?_of_block (a:=⟨g,j*2+1,none⟩) (hO.bel.block g g1)).trans d2;have HROW:Hid (∀o,(wr.alloc o).ownsRow w2.heap.size 3 1 (.slice ad8 j cap8) j ((xs.take j).map iV)):=fun o=>hO.row.alloc o
     have HP:Hid (∀(o1 o2:Obj) {g9 cap9:Nat} {w9:World},w9.ownsRow w2.heap.size 3 1 (.slice (some ⟨g9,0,none⟩) (j+1) cap9) (j+1) ((xs.take j).map iV++[iV k])→((wr.alloc o1).alloc o2).grownBy w9 (Value.slice ad8 j cap8).ownBlock→OIw w2 xs (j+1) (.slice (some ⟨g9,0,none⟩) (j+1) cap9) w9):=fun o1 o2 _ _ _ ho hg=>hO.push hk o1 o2 ho hg
     have hwr2:=hO.bel.size;clear hO d1 d2 hk g1;go_wp2_with (refine wp_appV rfl (.tmp 40) (.tmp 43) 40 rfl 3 i1 _ 8 Tryz.underlying40 HI1.out hy0 hy1 hy2 rfl (by decide) w2.heap.size _ j ((xs.take j).map iV) [.int .i64 (k:Int)] _ rfl (HROW.out _) (by simp;omega) (by omega) (Nat.zero_lt_succ _) (by simp) (by simp[Value.oneCell']) (by show Value.slice (some ⟨wr.heap.size+1,0,none⟩) 1 1=_;simp) ?_;intro g9 cap9 w9 ho hg hgg;have Z:=Lib.hid (And.intro ho hg);clear ho hg hgg)
     go_wp2_with fail
     go_roundw
     case rel=>exact⟨j+1,by go_num,HP.out _ _ Z.out.1 Z.out.2⟩
     case measure=>simp[intOf];omega
    ·obtain rfl:j=xs.length:=by have:=hO.le;omega
     have k2:¬(xs.length:Int)<(ks.length:Int):=by omega
     clear hO;go_wp2;go_ret;refine⟨_,rfl,?_,?_⟩
     ·have h8:=HO.out.row
      rw[List.take_length]at h8;rw[←HX.out,←hxl];exact ownsRow_le h8 (by have:=HBW.out.size;omega)
     ·have hs1:=HBW.out.size
      exact HBW.out.trans (HB2.out.trans (HO.out.bel.mono (by omega)))
end
theorem WZ.below{bp B:Nat}{vN vO:Value}{l:List UInt8}{w w':World}(h:WZ bp vN vO l w)(hb:Below B w w')(hB:w.heap.size≤B):WZ bp vN vO l w':=
 ⟨(hb.block bp (Nat.lt_of_lt_of_le h.wd.lt hB)).trans h.wd,ownsRow_k h.row (fun g hg=>hb.block g (Nat.lt_of_lt_of_le (ownBlock_lt h.row hg).2.1 hB))⟩
theorem chg_below{bp B:Nat}{O:Nat→Prop}{w w':World}(hb:Below B w w')(hB:w.heap.size≤B):Chg bp O w O w':=
 ⟨hb.os,hb.tape,hb.output,hb.size,fun k hk _ _=>hb.block k (Nat.lt_of_lt_of_le hk hB),fun _ h=>.inl h⟩
theorem KR.of{bp B:Nat}{O:Nat→Prop}{v:Value}{ks:List Nat}{w:World}(h:w.ownsRow B 3 1 v ks.length (ks.map iV))(hbp:bp<B)(hO:∀g,O g→g<B):KR bp O v ks w:=by
 refine⟨?_,fun j x hx=>?_⟩
 ·rcases h.2 with⟨a,b⟩|⟨g,c,cu,a,_⟩
  ·exact⟨none,0,by rw[a,b]⟩
  ·exact⟨_,_,a⟩
 ·rcases h.2 with⟨a,b⟩|⟨g,c,cu,a,b,c1,_⟩
  ·have:=(List.getElem?_eq_some_iff.1 hx).1;omega
  ·refine⟨g,c,a,(Array.getElem?_eq_some_iff.1 c1).1,by omega,fun ho=>by have:=hO g ho;omega,?_⟩
   have:=h.cells (g:=g) (by rw[a];rfl) j (iV x) (by rw[List.getElem?_map,hx];rfl);have hadd:(⟨g,0,none⟩:Addr).add j=⟨g,j,none⟩:=by unfold Addr.add;split<;>simp_all
   rwa [hadd]at this
section
variable (bp:Nat) (vN vO:Value) (l:List UInt8) (w:World)
theorem wnode_obj(L:List Nd)(k:Nat)(n:Nd)(hn:L[k]?=some n)(hL:L.length≤1000000)(hN:NR bp (own vO []) vN L w)(h:WZ bp vN vO l w)(G:Nat→List UInt8)(hl:l.length+(bodyTo (memF L G) (srt (ltK L) n.kids) n.kids.length).length+2≤4000000000)(hkd:n.kind=5)(hks:n.kids.length≤1000000)(hkids:∀c∈n.kids,c<L.length)(hu:∀c∈n.kids,U8 (keyL L c))(hdk:n.kids.Pairwise (fun a b=>keyL L a≠keyL L b))(hkey:∀c∈n.kids,(keyL L c).length≤65536)(hf:∀c∈n.kids,∀(v':Value) (l':List UInt8) (w':World),WZ bp vN v' l' w'→Chg bp (own vO []) w (own v' []) w'→l'.length+(G c).length≤4000000000→Calls Tryz.prog 70 #[.pointer (some ⟨bp,0,none⟩),.int .i64 (c:Int)] w' fun r w''=>WQ bp vN (own v' []) w' (l'++G c) r w''):Calls Tryz.prog 70 #[.pointer (some ⟨bp,0,none⟩),.int .i64 (k:Int)] w fun r w'=>WQ bp vN (own vO []) w (l++(123::bodyTo (memF L G) (srt (ltK L) n.kids) n.kids.length++[125])) r w':=by
 have hkL:k<L.length:=(List.getElem?_eq_some_iff.1 hn).1;obtain⟨g,cap,kv,rfl,g1,g2,g3,hK,b0,b1,b2,b3,b4,b5⟩:=hN.at' k n hn;obtain⟨adk,capk,rfl⟩:=hK.shape;rw[hkd]at b0;obtain⟨ad,capo,rfl⟩:=h.shape;obtain⟨c0,c1,cf⟩:=h.wd.cell;have hlt:=h.wd.lt;have hk1:(k:Int)<(L.length:Int):=by omega
 have hxl:=srt_len (ltK L) n.kids;have hOlt:∀x,own (.slice ad l.length capo) [] x→x<w.heap.size:=fun x hx=>by
  rcases hx with hx|⟨_,hm,_⟩
  ·exact(ownBlock_lt h.row hx).2.1
  ·simp at hm
 have HS:Hid (∀o,Calls Tryz.prog 113 #[.pointer (some ⟨bp,0,none⟩),.slice adk n.kids.length capk] (w.alloc o) fun e w1=>∃ad1 cap1,e=.returned (.slice ad1 n.kids.length cap1)∧
  Calls Tryz.prog 112 #[.pointer (some ⟨bp,0,none⟩),.int .u8 123,.slice ad1 n.kids.length cap1,.func (.func 114) #[.pointer (some ⟨bp,0,none⟩)] #[],.int .u8 125] w1 fun r w'=>WQ bp (.slice (some ⟨g,0,none⟩) L.length cap) (own (.slice ad l.length capo) []) w (l++(123::bodyTo (memF L G) (srt (ltK L) n.kids) n.kids.length++[125])) r w'):=fun o=>by
  refine(cbyName bp (.slice (some ⟨g,0,none⟩) L.length cap) (.slice ad l.length capo) (w.alloc o) L n.kids (.slice adk n.kids.length capk) (h.alloc o).wd (hN.chg (chgW_alloc _ _ _ o)) (hK.chg (chgW_alloc _ _ _ o)) hks hL hkids hu hdk hkey).mono ?_;rintro e w1 ⟨v,rfl,hrow,hb⟩;rw[←hxl]at hrow;have hR:KR bp (own (.slice ad l.length capo) []) v (srt (ltK L) n.kids) w1:=KR.of hrow (by simp;omega) (fun x hx=>by have:=hOlt x hx;simp;omega);have hZ1:WZ bp (.slice (some ⟨g,0,none⟩) L.length cap) (.slice ad l.length capo) l w1:=(h.alloc o).below hb (Nat.le_refl _);have hC1:Chg bp (own (.slice ad l.length capo) []) w (own (.slice ad l.length capo) []) w1:=(chgW_alloc _ _ _ o).trans (chg_below hb (Nat.le_refl _));obtain⟨ad1,cap1,rfl⟩:=hR.shape;rw[hxl]at hR ⊢;refine⟨ad1,cap1,rfl,?_⟩;have hw:=wlistM bp (.slice (some ⟨g,0,none⟩) L.length cap) (.slice ad l.length capo) l w1 123 125 (memF L G) (srt (ltK L) n.kids) (.slice ad1 n.kids.length cap1) (by omega) hR hZ1 (by rw[hxl];exact hl) ?_
  ·rw[hxl]at hw
   refine hw.mono ?_;rintro r w2 ⟨e,v2,z2,ch2⟩;exact⟨e,v2,z2,hC1.trans ch2⟩
  ·intro c hc v' l' w' hz hch hlen
   have hcm:=srt_mem (ltK L) n.kids c hc;have hcL:=hkids c hcm;obtain⟨nc,hnc⟩:∃nc,L[c]?=some nc:=⟨_,List.getElem?_eq_getElem hcL⟩;have hke:=keyL_of hnc;have e1:memF L G c=strT nc.key++58::G c:=by unfold memF;rw[hke]
   rw[e1]at hlen ⊢;refine wmember bp (.slice (some ⟨g,0,none⟩) L.length cap) v' l' w' L c nc hnc (by omega) (G c) ((hN.chg hC1).chg hch) hz (by simp only[List.length_append,List.length_cons]at hlen;omega) (by have:=hkey c hcm;rwa [hke]at this) ?_;intro v'' l'' w'' hz2 hc2 hl2;exact hf c hcm v'' l'' w'' hz2 (hC1.trans (hch.trans hc2)) hl2
 clear h cf hN hn hkd hK hf hOlt hkids hu hdk hkey hxl;generalize l++(123::bodyTo (memF L G) (srt (ltK L) n.kids) n.kids.length++[125])=T at *;go_enter Tryz.func70,Tryz.ntmps70;go_wp2_with fail
 refine(HS.out _).mono ?_;rintro r w1 ⟨ad1,cap1,rfl,hq⟩;have HQ:=Lib.hid hq;clear hq HS;go_wp2_with fail
 refine HQ.out.mono ?_;rintro r w2 ⟨rfl,hz⟩;have HZ:=Lib.hid hz;clear hz;go_wp2;go_end0
 exact⟨rfl,HZ.out⟩
end
theorem below_of_chg{bp:Nat}{vO:Value}{O':Nat→Prop}{l:List UInt8}{vN:Value}{w w':World}(h:WZ bp vN vO l w)(hc:Chg bp (own vO []) w O' w'):Below bp w w':=
 ⟨hc.os,hc.tape,hc.output,hc.size,fun k hk=>hc.block k (Nat.lt_trans hk h.wd.lt) (by omega) (fun ho=>by
   rcases ho with ho|⟨_,hm,_⟩
   ·have:=(ownBlock_lt h.row ho).1;omega
   ·simp at hm)⟩
structure TK (L:List Nd):Prop where
 text:∀(k:Nat) (n:Nd),L[k]?=some n→n.text.length≤65536
 key:∀(k:Nat) (n:Nd),L[k]?=some n→n.key.length≤65536
 names:NamesOk L
theorem TK.keyL{L:List Nd}(h:TK L)(k:Nat):(keyL L k).length≤65536:=by
 unfold Go.Proofs.YtbbopknnoamkbaaGreatDoor.keyL;split
 ·rename_i n hn;exact h.key k n hn
 ·simp
theorem wform(L:List Nd)(hW:WFN L)(hT:TK L)(bp:Nat)(vN:Value):∀(f k:Nat),k<L.length→L.length-k≤f→∀(vO:Value) (l:List UInt8) (w:World),NR bp (own vO []) vN L w→WZ bp vN vO l w→l.length+(formN L f k).length≤4000000000→Lib.TabBelow Tryz.prog bp w "internal/strconv.uint64pow10" .u64 Lib.pow10Tab→Calls Tryz.prog 70 #[.pointer (some ⟨bp,0,none⟩),.int .i64 (k:Int)] w fun r w'=>WQ bp vN (own vO []) w (l++formN L f k) r w':=by
 intro f;induction f with
 | zero=>intro k hk hf;omega
 | succ f ih=>
   intro k hk hf vO l w hN h hl htab;obtain⟨n,hn⟩:∃n,L[k]?=some n:=⟨_,List.getElem?_eq_getElem hk⟩;have hkind:=hW.kind k n hn;have hkids:=hW.kids k n hn;have hfew:=hW.few k n hn;have hlen:=hW.len;have hrec:∀c∈n.kids,∀(v':Value) (l':List UInt8) (w':World),WZ bp vN v' l' w'→Chg bp (own vO []) w (own v' []) w'→l'.length+(formN L f c).length≤4000000000→Calls Tryz.prog 70 #[.pointer (some ⟨bp,0,none⟩),.int .i64 (c:Int)] w' fun r w''=>WQ bp vN (own v' []) w' (l'++formN L f c) r w'':=by
    intro c hc v' l' w' hz hch hb;obtain⟨h1,h2⟩:=hkids c hc;exact ih c h2 (by omega) v' l' w' (hN.chg hch) hz hb (htab.on (below_of_chg h hch))
   unfold formN at hl ⊢;rw[hn]at hl ⊢;simp only at hl ⊢;by_cases h0:n.kind=0
   ·rw[if_pos h0]at hl ⊢;exact wnode_null bp vN vO l w L k n hn (by omega) hN h (by omega) h0
   rw[if_neg h0]at hl ⊢;by_cases h1:n.kind=1
   ·rw[if_pos h1]at hl ⊢;exact wnode_truth bp vN vO l w L k n hn (by omega) hN h (by omega) h1
   rw[if_neg h1]at hl ⊢;by_cases h2:n.kind=2
   ·rw[if_pos h2]at hl ⊢;exact wnode_int bp vN vO l w L k n hn (by omega) hN h (by omega) h2 (hW.lo k n hn) (hW.hi k n hn) htab
   rw[if_neg h2]at hl ⊢;by_cases h3:n.kind=3
   ·rw[if_pos h3]at hl ⊢;exact wnode_str bp vN vO l w L k n hn (by omega) hN h (by omega) h3 (hT.text k n hn)
   rw[if_neg h3]at hl ⊢;by_cases h4:n.kind=4
   ·rw[if_pos h4]at hl ⊢
    exact wnode_arr bp vN vO l w L k n hn (by omega) hN h (formN L f) (by simp only[List.length_append,List.length_cons,List.length_nil]at hl;omega) h4 hfew hrec
   rw[if_neg h4]at hl ⊢;have h5:n.kind=5:=by omega
   obtain⟨nm1,nm2⟩:=hT.names k n hn h5;exact wnode_obj bp vN vO l w L k n hn hlen hN h (formN L f) (by simp only[List.length_append,List.length_cons,List.length_nil]at hl;omega) h5 hfew (fun c hc=>(hkids c hc).2) nm1 nm2 (fun c _=>hT.keyL c) hrec
theorem tk_read{l:List UInt8}{t:JT}(h:readL l=.ok t):TK (flat 0 [] t):=by
 have ho:=(readL_rok h).2.1;have hok:=flat_ok 65536 0 [] t ho (by simp);exact⟨fun k n hn=>(hok n (List.mem_of_getElem? hn)).2.2.2.2.1,fun k n hn=>(hok n (List.mem_of_getElem? hn)).2.2.2.2.2,names_flat (readL_okn h)⟩
theorem NR.of_nk{B bp:Nat}{v:Value}{kvs:List Value}{L:List Nd}{w w2:World}(h:NK B 42 v kvs L w)(hbp:w.heap.size≤bp)(hk:∀g,g<w.heap.size→w2.heap[g]?=w.heap[g]?)(hsz:w.heap.size≤w2.heap.size):NR bp (own (.slice none 0 0) []) v L w2:=by
 have hno:∀x,¬own (.slice none 0 0) [] x:=fun x hx=>by
  rcases hx with hx|⟨_,hm,_⟩
  ·simp[Value.ownBlock]at hx
  ·simp at hm
 have hadd:∀(g j:Nat),(⟨g,0,none⟩:Addr).add j=⟨g,j,none⟩:=fun g j=>by unfold Addr.add;split<;>simp_all
 refine⟨fun k n hn=>?_⟩;have hkL:k<L.length:=(List.getElem?_eq_some_iff.1 hn).1;obtain⟨kv,hkv⟩:∃kv,kvs[k]?=some kv:=⟨_,List.getElem?_eq_getElem (by have:=h.1;omega)⟩;have hrow:=h.2.2.1 k n kv hn hkv;rcases h.2.1.2 with⟨_,b⟩|⟨g,cap,cur,a,b,c,_⟩
 ·omega
 ·have hglt:g<w.heap.size:=(Array.getElem?_eq_some_iff.1 c).1
  have hg:v.ownBlock=some g:=by rw[a];rfl
  have hcell:∀j x,j<6→(ndCells n kv)[j]?=some x→w2.cell? ⟨g,k*6+j,none⟩=some x:=fun j x hj hx=>by
   rw[World.cell?_of_block (a:=⟨g,k*6+j,none⟩) (hk g hglt)];exact(h.at hg hn hkv hj hx).1
  refine⟨g,cap,kv,a,by omega,by omega,hno g,?_,hcell 0 _ (by omega) rfl,hcell 1 _ (by omega) rfl,hcell 2 _ (by omega) rfl,hcell 3 _ (by omega) rfl,hcell 4 _ (by omega) rfl,hcell 5 _ (by omega) rfl⟩;refine⟨?_,fun j x hx=>?_⟩
  ·rcases hrow.2 with⟨e,h0⟩|⟨g',c',cu,e,_⟩
   ·exact⟨none,0,by rw[e,h0]⟩
   ·exact⟨_,_,e⟩
  ·rcases hrow.2 with⟨e,h0⟩|⟨g',c',cu,e,b',c1,_⟩
   ·have:=(List.getElem?_eq_some_iff.1 hx).1;omega
   ·have hlt':g'<w.heap.size:=(Array.getElem?_eq_some_iff.1 c1).1
    refine⟨g',c',e,by omega,by omega,hno g',?_⟩;rw[World.cell?_of_block (a:=⟨g',j,none⟩) (hk g' hlt')];have:=hrow.cells (g:=g') (by rw[e];rfl) j (iV x) (by rw[List.getElem?_map,hx];rfl);rwa [hadd]at this
theorem cform(L:List Nd)(hW:WFN L)(hT:TK L)(hpos:0<L.length)(hlen1:(formN L L.length 0).length≤1000000000)(B:Nat)(ad:Option Addr)(cap:Nat)(kvs:List Value)(w:World)(hK:NK B 42 (.slice ad L.length cap) kvs L w)(htab:Lib.TabBelow Tryz.prog w.heap.size w "internal/strconv.uint64pow10" .u64 Lib.pow10Tab):Calls Tryz.prog 37 #[.slice ad L.length cap,.int .i64 0] w fun r w'=>r=.returned (.string ⟨(formN L L.length 0).toArray⟩)∧Below w.heap.size w w':=by
 obtain⟨F,hF⟩:∃F,F=formN L L.length 0:=⟨_,rfl⟩;have HN:Hid (∀o,NR w.heap.size (own (.slice none 0 0) []) (.slice ad L.length cap) L (w.alloc o)):=fun o=>NR.of_nk hK (Nat.le_refl _) (fun g hg=>heap_alloc_old _ _ hg) (by simp)
 have hZ:WZ w.heap.size (.slice ad L.length cap) (.slice none 0 0) [] (w.alloc (.cells #[.slice ad L.length cap,.slice none 0 0] 109)):=⟨heap_alloc_new w _,⟨rfl,.inl ⟨rfl,rfl⟩⟩⟩;have hwf:=wform L hW hT w.heap.size (.slice ad L.length cap) L.length 0 hpos (by omega) (.slice none 0 0) [] (w.alloc (.cells #[.slice ad L.length cap,.slice none 0 0] 109)) (HN.out _) hZ (by simp only[List.length_nil];omega) (fun w' hb'=>by
  refine htab w' ⟨hb'.os,hb'.tape,hb'.output,by have:=hb'.size;simp at this;omega,fun k hk=>?_⟩;rw[hb'.block k (by omega),heap_alloc_old _ _ (by omega)])
 rw[List.nil_append,←hF]at hwf;rw[←hF];clear hZ HN hF htab hK hW hT;go_enter Tryz.func37,Tryz.ntmps37;go_wp2_with fail
 refine hwf.mono ?_;rintro r w3 ⟨rfl,v3,z3,ch3⟩;have q1:=z3.wd.cell.2.1;have hs3:=(OwnZ.of rfl z3.row).b.str (P:=Tryz.prog) (t:=78) (d:=9) Tryz.underlying78 Tryz.underlying5 Tryz.underlying9;have HB3:Hid (Below w.heap.size w w3):=by
  have hs4:=ch3.size;simp at hs4;refine⟨ch3.os,ch3.tape,ch3.output,by omega,fun k hk=>?_⟩;rw[ch3.block k (by simp;omega) (by omega) (fun hx=>by
   rcases hx with hx|⟨_,hm,_⟩
   ·simp[Value.ownBlock]at hx
   ·simp at hm),heap_alloc_old _ _ (by omega)]
 obtain⟨ad3,cap3,rfl⟩:=z3.shape;clear z3 ch3 hwf;go_wp2;go_ret;exact⟨rfl,HB3.out⟩
theorem cprint(s:ByteArray)(w:World)(hg:9≤w.heap.size)(hG:GV w)(htab:Lib.TabBelow Tryz.prog w.heap.size w "internal/strconv.uint64pow10" .u64 Lib.pow10Tab):Calls Tryz.prog 16 #[.string s] w fun r w'=>r=.returned (.tuple #[.string ⟨(prF (readL s.data.toList)).1.toArray⟩,.int .i64 ((prF (readL s.data.toList)).2.1:Int),.int .i64 ((prF (readL s.data.toList)).2.2:Int)])∧Below w.heap.size w w':=by
 have hp:=cparse s w hg hG;have hfit:∀t,readL s.data.toList=.ok t→(WFN (flat 0 [] t)∧Short (flat 0 [] t))∧TK (flat 0 [] t):=fun t h=>⟨read_fit h,tk_read h⟩
 generalize hR:readL s.data.toList=R at hp hfit ⊢;clear hR;match R,hp,hfit with
 | .error (e,a),hp,hfit=>
   clear hfit;go_enter Tryz.func16,Tryz.ntmps16;go_wp2_with fail
   refine hp.mono ?_;rintro r w1 ⟨⟨rfl,he⟩,hb⟩;have HB:=Lib.hid hb;have k1:¬((e:Int)=0):=by omega
   have k2:((e:Int) != 0)=true:=by simp;omega
   clear hb hp;go_wp2;go_ret3
   exact⟨rfl,HB.out⟩
 | .ok t,hp,hfit=>
   obtain⟨⟨hW,hS⟩,hT⟩:=hfit t rfl;have hpos:0<(flat 0 [] t).length:=by rw[flat_length];have:=size_pos t;omega
   have hlen1:=hS.one (flat 0 [] t).length 0;have HF:=Lib.hid (fun(ad:Option Addr) (cap:Nat) (kvs:List Value) (w1:World) (hb:Below w.heap.size w w1) hK=>cform (flat 0 [] t) hW hT hpos hlen1 (w.heap.size+1) ad cap kvs w1 hK (fun w2 hb2=>htab w2 (hb.trans (hb2.mono hb.size))));show Calls _ _ _ _ fun r w'=>r=.returned (.tuple #[.string ⟨(formN (flat 0 [] t) (flat 0 [] t).length 0).toArray⟩,.int .i64 ((0:Nat):Int),.int .i64 ((0:Nat):Int)])∧Below w.heap.size w w'
   have hp2:Calls Tryz.prog 19 #[.string s] w fun r w'=>(∃v kvs,r=.returned (.tuple #[v,.int .i64 0,.int .i64 0])∧NK (w.heap.size+1) 42 v kvs (flat 0 [] t) w')∧Below w.heap.size w w':=hp
   clear hfit hW hS hT htab hp hpos hlen1;generalize flat 0 [] t=L at *;generalize formN L L.length 0=F at *;go_enter Tryz.func16,Tryz.ntmps16;go_wp2_with fail
   refine hp2.mono ?_;rintro r w1 ⟨⟨v,kvs,rfl,hK⟩,hb⟩;obtain⟨ad,cap,rfl⟩:=hK.shape;have hf:=HF.out ad cap kvs w1 hb hK;have HB:=Lib.hid hb;clear hb hK hp2 HF;go_wp2_with fail
   refine hf.mono ?_;rintro r w3 ⟨rfl,hb3⟩;have HB3:=Lib.hid (HB.out.trans (hb3.mono HB.out.size));clear hb3 hf HB;go_wp2;go_ret3
   exact⟨rfl,HB3.out⟩
theorem lnumN(e:Int)(w:World):Calls Tryz.prog 18 #[.int .i64 e] w fun r w'=>r=.returned (.int .i64 e)∧w'=w:=by
 go_enter Tryz.func18,Tryz.ntmps18;go_wp2;go_ret;exact⟨rfl,rfl⟩
end Go.Proofs.YtbbopknnoamkbaaGreatDoor
