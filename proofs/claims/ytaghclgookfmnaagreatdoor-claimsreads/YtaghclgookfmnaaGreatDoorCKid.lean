import Derived.Test.YtaghclgookfmnaaGreatDoorCPut
namespace Go.Proofs.YtaghclgookfmnaaGreatDoor
open Go.RowKit
set_option linter.unusedVariables false
def CVal(d dp:Nat):Prop:=∀(bp:Nat) (s:ByteArray) (i:Nat) (ns:List Nd) (key:List UInt8) (vL:Value) (kvs:List Value) (w:World),s.size≤65536→8≤bp→CN bp s i ns dp vL kvs w→GV w→i≤s.size→ns.length≤i→WFk ns→
 Calls Tryz.prog 43 #[.pointer (some ⟨bp,0,none⟩),.string ⟨key.toArray⟩] w fun r w'=>VQ bp s i ns key dp (own vL kvs) w (.int .i64 (ns.length:Int)) r w' (valL d (sfx s i) i)
def KQ(bp:Nat)(s:ByteArray)(i:Nat)(ns:List Nd)(u:Nat)(key:List UInt8)(dp:Nat)(O:Nat→Prop)(w:World)(r:Ending)(w':World):JR JT→Prop
 | .ok (t,n)=>r=.returned (.tuple #[])∧∃vL' kvs',CN bp s (i+n) (addKid ns (some u) ns.length++flat ns.length key t) dp vL' kvs' w'∧Chg bp O w (own vL' kvs') w'
 | .error (e,a)=>0<e∧r=.panicked (flt e a)∧Chg bp O w (fun _=>False) w'
theorem modify_appL{α:Type}(ns ms:List α)(u:Nat)(f:α→α)(h:u<ns.length):(ns++ms).modify u f=ns.modify u f++ms:=by
 induction ns generalizing u with
 | nil=>simp at h
 | cons a r ih=>
   match u with
   | 0=>simp
   | u+1=>simp only[List.cons_append,List.modify_succ_cons];rw[ih u (by simpa using h)]
section
variable (bp:Nat) (s:ByteArray) (i:Nat) (ns:List Nd) (u:Nat) (key:List UInt8) (dp:Nat) (vL:Value) (kvs:List Value) (w:World)
set_option maxRecDepth 4000 in
set_option maxHeartbeats 1000000 in
theorem ckid(d:Nat)(hv:CVal d dp)(hs:s.size≤65536)(hbp:8≤bp)(h:CN bp s i ns dp vL kvs w)(hG:GV w)(hi:i≤s.size)(hl:ns.length≤i)(hw:WFk ns)(hu:u<ns.length):Calls Tryz.prog 62 #[.pointer (some ⟨bp,0,none⟩),.int .i64 (u:Int),.string ⟨key.toArray⟩] w fun r w'=>KQ bp s i ns u key dp (own vL kvs) w r w' (valL d (sfx s i) i):=by
 have hc:=hv bp s i ns key vL kvs w hs hbp h hG hi hl hw;cases hR:valL d (sfx s i) i with
 | error q=>
   obtain⟨e,a⟩:=q;rw[hR]at hc;clear hR hv;go_enter Tryz.func62,Tryz.ntmps62;go_wp2_with fail
   refine hc.mono ?_;rintro r w1 ⟨h0,rfl,h1⟩;have H1:Hid _:=And.intro h0 h1;clear hc h0 h1;go_wp2;exact⟨rfl,H1.out.1,rfl,H1.out.2⟩
 | ok q=>
   obtain⟨t,n⟩:=q;rw[hR]at hc;clear hR hv;go_enter Tryz.func62,Tryz.ntmps62;go_wp2_with fail
   refine hc.mono ?_;rintro r wc ⟨rfl,v6,kv7,hN,hC⟩;have HC:Hid (Chg bp (own vL kvs) w (own v6 kv7) wc):=hC;clear hc hC;generalize hL:ns++flat ns.length key t=L at hN;have hLl:L.length=ns.length+t.size:=by rw[←hL,List.length_append,flat_length]
   have hsz:=size_pos t;have HL':Hid (ns++flat ns.length key t=L):=hL;have hu2:u<L.length:=by omega
   obtain⟨ad6,cap6,rfl⟩:=hN.nk.shape;obtain⟨g6,rfl⟩:∃g6,ad6=some ⟨g6,0,none⟩:=by
    rcases hN.nk.2.1.2 with⟨e,h0⟩|⟨g,c,cu,e,_⟩
    ·omega
    ·injection e with e _ _;exact⟨g,e⟩
   obtain⟨c0,c1,c2,c3,cf⟩:=hN.cd.cell;obtain⟨q1,q2,q3,q4⟩:=hN.nk;obtain⟨m,hn⟩:∃m,L[u]?=some m:=⟨_,List.getElem?_eq_getElem hu2⟩;obtain⟨kv,hkv⟩:∃kv,kv7[u]?=some kv:=⟨_,List.getElem?_eq_getElem (by omega)⟩;have hrow:=q3 u m kv hn hkv;obtain⟨adk,capk,hkf⟩:∃adk capk,kv=.slice adk m.kids.length capk:=by
    rcases hrow.2 with⟨a,b⟩|⟨g,c,cu,a,_⟩
    ·exact⟨none,0,by rw[a,b]⟩
    ·exact⟨_,_,a⟩
   subst hkf;have hcu:wc.cell? ⟨g6,u*6+4,none⟩=some (.slice adk m.kids.length capk):=(hN.nk.at (g:=g6) rfl hn hkv (by omega) rfl).1;have hfu:wc.frozen? ⟨g6,u*6+4,none⟩=false:=(hN.nk.at (g:=g6) rfl hn hkv (j:=4) (by omega) rfl).2;have hgl:g6<wc.heap.size∧bp+1≤g6:=by have:=ownBlock_lt q2 (g:=g6) rfl;exact⟨this.2.1,this.1⟩
   have HQ1:Hid _:=q1;have HQ2:Hid (wc.ownsRow (bp+1) 58 6 (.slice (some ⟨g6,0,none⟩) L.length cap6) L.length (rowN L kv7)):=q2;have HQ3:Hid _:=q3;have HQ4:Hid _:=q4;have HN:Hid _:=hn;have HKV:Hid (kv7[u]?=some (.slice adk m.kids.length capk)):=hkv;have HRO:Hid (wc.ownsRow (bp+1) 3 1 (.slice adk m.kids.length capk) m.kids.length (m.kids.map iV)):=hrow;have HRD:Hid (CD bp s (i+n) (.slice (some ⟨g6,0,none⟩) L.length cap6) dp wc):=hN.cd;have HGL:Hid (g6<wc.heap.size∧bp+1≤g6):=hgl;have hu1:(u:Int)<(L.length:Int):=by omega
   have hu0:decide ((0:Int)≤(u:Int))=true:=by simp
   have HL:Hid (m.kids.length+1≤1000000000):=by
    show m.kids.length+1≤1000000000
    have hmem:m∈ns:=by
     have hn2:=hn;rw[←hL,List.getElem?_append_left hu]at hn2;exact List.mem_of_getElem? hn2
    have:=hw m hmem;omega
   clear q1 q2 q3 q4 hn hkv hrow hu2 hw h hL hLl hsz;obtain⟨i1,hi1,hy0,hy1,hy2⟩:=info_parts intinfo;have HI1:Hid _:=hi1;have hltb:bp<wc.heap.size:=HRD.out.lt;have hal2:∀o:Obj,(wc.alloc o).cell? ⟨bp,2,none⟩=some (.slice (some ⟨g6,0,none⟩) L.length cap6):=fun o=>(World.cell?_alloc_lt _ _ _ hltb).trans c2
   have hal3:∀o:Obj,(wc.alloc o).cell? ⟨g6,u*6+4,none⟩=some (.slice adk m.kids.length capk):=fun o=>(World.cell?_alloc_lt _ _ _ hgl.1).trans hcu
   have HOw:Hid (∀o,((wc.alloc o).drew).ownsRow (bp+1) 3 1 (.slice adk m.kids.length capk) m.kids.length (m.kids.map iV)):=fun o=>HRO.out.alloc o
   have HBs:Hid (∀o,bp+1≤((wc.alloc o).drew).heap.size):=fun o=>by show _≤(wc.alloc o).heap.size;simp;omega
   have HSs:Hid (∀o,((wc.alloc o).drew).heap.size=wc.heap.size+1):=fun o=>by show(wc.alloc o).heap.size=_;simp
   have HOne:Hid (∀j v,[iV ns.length][j]?=some v→((wc.alloc (.cells #[.int .i64 (ns.length:Int)] 3)).drew).cell? ((⟨wc.heap.size,0,none⟩:Addr).add j)=some v):=one_cell wc (iV ns.length) 3;have HNE:Hid (some bp≠(Value.slice adk m.kids.length capk).ownBlock∧some g6≠(Value.slice adk m.kids.length capk).ownBlock):=by
    refine⟨fun e=>?_,fun e=>?_⟩
    ·have:=(ownBlock_lt HRO.out e.symm).1;omega
    ·exact blocks_ne (by decide) HQ2.out HRO.out (g:=g6) rfl e.symm
   clear hi1 hgl hN;go_wp2_with fail
   go_region_law ((refine stepK rfl (.tmp 22) (.tmp 24) 49 rfl 3 i1 Tryz.underlying49 HI1.out hy0 hy1 hy2 (bp+1) _ m.kids.length (m.kids.map iV) ns.length ⟨wc.heap.size,0,none⟩ (wc.heap.size+1) rfl rfl HL.out (by exact HOw.out _) (by exact HBs.out _) (by exact HSs.out _) (by exact HOne.out) ?_;intro g8 cap8 w8 ho8 hg8 hgg8;have kA:=keepers hg8 hltb HNE.out.1;have kB:=keepers hg8 HGL.out.1 HNE.out.2;have s2:=(kA.2.1 2).trans c2;have t0:=(kB.2.1 (u*6+4)).trans hcu;have t1:=(kB.2.2 (u*6+4)).trans hfu;have HR8:Hid (CD bp s (i+n) (.slice (some ⟨g6,0,none⟩) L.length cap6) dp w8):=kA.1.trans HRD.out;clear kA kB;have W8:Hid (w8.ownsRow (bp+1) 3 1 (.slice (some ⟨g8,0,none⟩) (m.kids.length+1) cap8) (m.kids.length+1) (m.kids.map iV++[iV ns.length])):=ho8;have G8:Hid (((wc.alloc (.cells #[.int .i64 (ns.length:Int)] 3)).drew).grownBy w8 (Value.slice adk m.kids.length capk).ownBlock):=hg8;have GG8:Hid ((Value.slice adk m.kids.length capk).ownBlock=some g8∨g8=wc.heap.size+1):=hgg8;clear ho8 hg8 hgg8))
   all_goals
    have hk9:=NK.kid HQ1.out HQ2.out HQ3.out HQ4.out u ns.length g8 cap8 g6 m _ HN.out HKV.out W8.out (fun g' hg' hne=>(keepers G8.out hg' hne).1) (GG8.out.elim .inl fun e=>.inr (by omega)) rfl (by decide);have eL:L.modify u (fun n=>{n with kids:=n.kids++[ns.length]})=addKid ns (some u) ns.length++flat ns.length key t:=by rw[←HL'.out];exact modify_appL ns _ u _ hu
    rw[eL]at hk9;have hcL:=(keepers G8.out HGL.out.1 HNE.out.2).1;obtain⟨_,_,cur,hcc⟩:=ownBlock_lt HQ2.out (g:=g6) rfl;have hw9:=setCell_eq_setRow w8 g6 (u*6+4) cur _ _ (.slice (some ⟨g8,0,none⟩) (m.kids.length+1) cap8) (hcL.trans hcc);have h9:CD bp s (i+n) (.slice (some ⟨g6,0,none⟩) L.length cap6) dp (w8.setCell ⟨g6,u*6+4,none⟩ (.slice (some ⟨g8,0,none⟩) (m.kids.length+1) cap8)):=by
     unfold CD;rw[hw9];exact(setRow_other w8 g6 bp _ (by have:=HGL.out;omega)).trans HR8.out
    have hb9:Chg bp (own (.slice (some ⟨g6,0,none⟩) L.length cap6) kv7) wc (own (.slice (some ⟨g6,0,none⟩) L.length cap6) (kv7.set u (.slice (some ⟨g8,0,none⟩) (m.kids.length+1) cap8))) (w8.setCell ⟨g6,u*6+4,none⟩ (.slice (some ⟨g8,0,none⟩) (m.kids.length+1) cap8)):=by
     have hmk:(Value.slice adk m.kids.length capk)∈kv7:=List.mem_of_getElem? HKV.out;have a2:(wc.alloc (.cells #[.int .i64 (ns.length:Int)] 3)).heap.size≤w8.heap.size:=G8.out.size;rw[hw9];refine⟨G8.out.os,G8.out.tape,G8.out.output,by simp[World.setRow]at a2 ⊢;omega,fun k hk hb hO=>?_,fun k hk=>?_⟩
     ·rw[setRow_other w8 g6 k _ (fun e=>hO (.inl (by rw[e];rfl)))]
      exact(keepers G8.out hk (fun e=>hO (.inr ⟨_,hmk,e.symm⟩))).1
     ·rcases hk with hk|⟨kv,hm,hk⟩
      ·exact .inl (.inl hk)
      ·rcases List.mem_or_eq_of_mem_set hm with hm|rfl
       ·exact .inl (.inr ⟨kv,hm,hk⟩)
       ·simp[Value.ownBlock]at hk
        subst hk;rcases GG8.out with e|e
        ·exact .inl (.inr ⟨_,hmk,e⟩)
        ·exact .inr (by omega)
    have H9:Hid _:=And.intro h9 (And.intro hk9 (HC.out.trans hb9));clear eL hk9 hcL hcc hw9 h9 hb9 s2 t0 t1 W8 G8 GG8 HR8 HOw HBs HSs HOne HL HNE hal2 hal3 hcu hfu c0 c1 c2 c3 cf;generalize w8.setCell ⟨g6,u*6+4,none⟩ (.slice (some ⟨g8,0,none⟩) (m.kids.length+1) cap8)=w9 at H9;go_wp2;go_end0
    exact⟨rfl,_,_,⟨H9.out.1,H9.out.2.1⟩,H9.out.2.2⟩
end
end Go.Proofs.YtaghclgookfmnaaGreatDoor
