import Derived.Test.YtaghclgookfmnaaGreatDoorCNum
namespace Go.Proofs.YtaghclgookfmnaaGreatDoor
open Go.RowKit
set_option linter.unusedVariables false
def NK(B:Nat)(tN:TypeId)(v:Value)(kvs:List Value)(ns:List Nd)(w:World):Prop:=
 kvs.length=ns.length∧w.ownsRow B tN 6 v ns.length (rowN ns kvs)∧(∀(k:Nat) (n:Nd) (kv:Value),ns[k]?=some n→kvs[k]?=some kv→w.ownsRow B 3 1 kv n.kids.length (n.kids.map iV))∧(∀(j k:Nat) (a b:Value),j≠k→kvs[j]?=some a→kvs[k]?=some b→a.ownBlock≠none→a.ownBlock≠b.ownBlock)
theorem NK.nodes{B:Nat}{tN:TypeId}{v:Value}{kvs:List Value}{ns:List Nd}{w:World}(h:NK B tN v kvs ns w):Nodes B tN v ns w:=⟨kvs,h⟩
def own(v:Value)(kvs:List Value)(k:Nat):Prop:=v.ownBlock=some k∨∃kv∈kvs,kv.ownBlock=some k
theorem NK.own_lt{B:Nat}{tN:TypeId}{v:Value}{kvs:List Value}{ns:List Nd}{w:World}(h:NK B tN v kvs ns w){k:Nat}(hk:own v kvs k):B≤k∧k<w.heap.size:=by
 obtain⟨k1,k2,k3,k4⟩:=h;rcases hk with hk|⟨kv,hm,hk⟩
 ·have:=ownBlock_lt k2 hk;exact⟨this.1,this.2.1⟩
 ·obtain⟨j,hj,rfl⟩:=List.getElem_of_mem hm
  have hjn:j<ns.length:=by omega
  have:=ownBlock_lt (k3 j ns[j] kvs[j] (List.getElem?_eq_getElem hjn) (List.getElem?_eq_getElem hj)) hk;exact⟨this.1,this.2.1⟩
theorem ownsRow_k{w w':World}{B sz n:Nat}{e:TypeId}{v:Value}{xs:List Value}(h:w.ownsRow B e sz v n xs)(hk:∀g,v.ownBlock=some g→w'.heap[g]?=w.heap[g]?):w'.ownsRow B e sz v n xs:=by
 refine⟨h.1,?_⟩;rcases h.2 with h|⟨g,cap,cur,a,b,c,d⟩
 ·exact .inl h
 ·exact .inr ⟨g,cap,cur,a,b,(hk g (by rw[a];rfl)).trans c,d⟩
theorem NK.kept{B:Nat}{tN:TypeId}{v:Value}{kvs:List Value}{ns:List Nd}{w w':World}(h:NK B tN v kvs ns w)(hk:∀g,own v kvs g→w'.heap[g]?=w.heap[g]?):NK B tN v kvs ns w':=by
 obtain⟨k1,k2,k3,k4⟩:=h;exact⟨k1,ownsRow_k k2 (fun g hg=>hk g (.inl hg)),fun k n kv a b=>ownsRow_k (k3 k n kv a b) (fun g hg=>hk g (.inr ⟨kv,List.mem_of_getElem? b,hg⟩)),k4⟩
theorem NK.onl{B bp:Nat}{tN:TypeId}{v:Value}{kvs:List Value}{ns:List Nd}{w w':World}(h:NK B tN v kvs ns w)(ho:Onl bp w w')(hb:bp<B):NK B tN v kvs ns w':=
 h.kept fun g hg=>by
  have:=h.own_lt hg;exact ho.block g this.2 (fun e=>by injection e with e;omega)
theorem NK.alloc{B:Nat}{tN:TypeId}{v:Value}{kvs:List Value}{ns:List Nd}{w:World}(h:NK B tN v kvs ns w)(o:Obj):NK B tN v kvs ns (w.alloc o):=
 h.kept fun g hg=>heap_alloc_old _ _ (h.own_lt hg).2
theorem NK.nil(B:Nat)(tN:TypeId)(w:World):NK B tN (.slice none 0 0) [] [] w:=
 ⟨rfl,⟨rfl,.inl ⟨rfl,rfl⟩⟩,fun k n kv a b=>(by simp at a),fun j k a b _ h _ _=>(by simp at h)⟩
theorem NK.shape{B:Nat}{tN:TypeId}{v:Value}{kvs:List Value}{ns:List Nd}{w:World}(h:NK B tN v kvs ns w):∃ad cap,v=.slice ad ns.length cap:=h.nodes.shape
theorem NK.push{B:Nat}{tN:TypeId}{v v6:Value}{ns:List Nd}{nd:Nd}{kvs:List Value}{w w6:World}(k1:kvs.length=ns.length)(k2:w.ownsRow B tN 6 v ns.length (rowN ns kvs))(k3:∀(k:Nat) (n:Nd) (kv:Value),ns[k]?=some n→kvs[k]?=some kv→w.ownsRow B 3 1 kv n.kids.length (n.kids.map iV))(k4:∀(j k:Nat) (a b:Value),j≠k→kvs[j]?=some a→kvs[k]?=some b→a.ownBlock≠none→a.ownBlock≠b.ownBlock)(hrow:w6.ownsRow B tN 6 v6 (ns.length+1) (rowN ns kvs++ndCells nd (.slice none 0 0)))(hkeep:∀g,g<w.heap.size→some g≠v.ownBlock→w6.heap[g]?=w.heap[g]?)(ht:tN≠3)(hk:nd.kids=[]):NK B tN v6 (kvs++[.slice none 0 0]) (ns++[nd]) w6:=by
 refine⟨by simp[k1],?_,?_,?_⟩
 ·rw[rowN_append ns kvs [nd] [.slice none 0 0] k1,List.length_append]
  have e:rowN [nd] [.slice none 0 0]=ndCells nd (.slice none 0 0):=by simp[rowN]
  rw[e];exact hrow
 ·intro k n kv hn hkv
  by_cases hlt:k<ns.length
  ·rw[List.getElem?_append_left hlt]at hn
   rw[List.getElem?_append_left (by omega)]at hkv;exact ownsRow_other ht k2 (k3 k n kv hn hkv) hkeep
  ·have hke:k=ns.length:=by
    have:=(List.getElem?_eq_some_iff.1 hn).1;simp at this;omega
   subst hke;rw[List.getElem?_append_right (Nat.le_refl _)]at hn;rw[←k1,List.getElem?_append_right (Nat.le_refl _)]at hkv;simp at hn hkv;subst hn;subst hkv;rw[hk];exact⟨rfl,.inl ⟨rfl,rfl⟩⟩
 ·intro j k a b hjk ha hb hne
  have hbd:∀{m:Nat} {x:Value},(kvs++[Value.slice none 0 0])[m]?=some x→(m<kvs.length∧kvs[m]?=some x)∨x=.slice none 0 0:=by
   intro m x hx;by_cases hm:m<kvs.length
   ·left;rw[List.getElem?_append_left hm]at hx;exact⟨hm,hx⟩
   ·right
    rw[List.getElem?_append_right (by omega)]at hx;have:=(List.getElem?_eq_some_iff.1 hx).1;have h0:m-kvs.length=0:=by simp at this;omega
    rw[h0]at hx;simpa using hx.symm
  rcases hbd ha with⟨_,ha⟩|rfl
  ·rcases hbd hb with⟨_,hb⟩|rfl
   ·exact k4 j k a b hjk ha hb hne
   ·simpa [Value.ownBlock]using hne
  ·exact absurd rfl hne
theorem NK.kid{B:Nat}{tN:TypeId}{v:Value}{ns:List Nd}{kvs:List Value}{w w8:World}(k1:kvs.length=ns.length)(k2:w.ownsRow B tN 6 v ns.length (rowN ns kvs))(k3:∀(k:Nat) (n:Nd) (kv:Value),ns[k]?=some n→kvs[k]?=some kv→w.ownsRow B 3 1 kv n.kids.length (n.kids.map iV))(k4:∀(j k:Nat) (a b:Value),j≠k→kvs[j]?=some a→kvs[k]?=some b→a.ownBlock≠none→a.ownBlock≠b.ownBlock)(u k g capk gL:Nat)(n:Nd)(kv:Value)(hn:ns[u]?=some n)(hkv:kvs[u]?=some kv)(hrow8:w8.ownsRow B 3 1 (.slice (some ⟨g,0,none⟩) (n.kids.length+1) capk) (n.kids.length+1) (n.kids.map iV++[iV k]))(hkeep:∀g',g'<w.heap.size→some g'≠kv.ownBlock→w8.heap[g']?=w.heap[g']?)(hg:kv.ownBlock=some g∨w.heap.size≤g)(hgL:v.ownBlock=some gL)(ht:tN≠3):NK B tN v (kvs.set u (.slice (some ⟨g,0,none⟩) (n.kids.length+1) capk)) (ns.modify u (fun n=>{n with kids:=n.kids++[k]})) (w8.setCell ⟨gL,u*6+4,none⟩ (.slice (some ⟨g,0,none⟩) (n.kids.length+1) capk)):=by
 have hun:u<ns.length:=(List.getElem?_eq_some_iff.1 hn).1;have hku:=k3 u n kv hn hkv;have hLk:kv.ownBlock≠some gL:=blocks_ne ht k2 hku hgL;have k2':w8.ownsRow B tN 6 v ns.length (rowN ns kvs):=by
  refine⟨k2.1,?_⟩;rcases k2.2 with h|⟨g',cap,cur,a,b,c,d⟩
  ·exact .inl h
  ·refine .inr ⟨g',cap,cur,a,b,(hkeep g' (Array.getElem?_eq_some_iff.1 c).1 (fun e=>?_)).trans c,d⟩
   rw[a]at hgL;simp[Value.ownBlock]at hgL;exact hLk (by rw[←hgL];exact e.symm)
 obtain⟨cap,cur,hv,hB,hcell,hnc,hcm,hcs,htk⟩:∃cap cur,v=.slice (some ⟨gL,0,none⟩) ns.length cap∧B≤gL∧w8.heap[gL]?=some (.cells cur tN (0,0))∧ns.length≤cap∧cap≤maxLen∧cur.size=cap*6∧cur.toList.take (ns.length*6)=rowN ns kvs:=by
  rcases k2'.2 with⟨h,_⟩|⟨g',cap,cur,a,b,c,d⟩
  ·rw[h]at hgL;simp[Value.ownBlock]at hgL
  ·rw[a]at hgL
   simp[Value.ownBlock]at hgL;subst hgL;exact⟨cap,cur,a,b,c,d⟩
 have hset:=setCell_eq_setRow w8 gL (u*6+4) cur tN (0,0) (.slice (some ⟨g,0,none⟩) (n.kids.length+1) capk) hcell;rw[hset];have hoth:∀g',g'≠gL→(w8.setRow gL (cur.setIfInBounds (u*6+4) (.slice (some ⟨g,0,none⟩) (n.kids.length+1) capk))).heap[g']?=w8.heap[g']?:=fun g' h=>setRow_other w8 gL g' _ h
 have hkid9:∀{kv2:Value} {m:Nat} {ys:List Value},w8.ownsRow B 3 1 kv2 m ys→(w8.setRow gL (cur.setIfInBounds (u*6+4) (.slice (some ⟨g,0,none⟩) (n.kids.length+1) capk))).ownsRow B 3 1 kv2 m ys:=by
  intro kv2 m ys h;refine⟨h.1,?_⟩;rcases h.2 with h'|⟨g',c1,c2,a,b,c,d⟩
  ·exact .inl h'
  ·refine .inr ⟨g',c1,c2,a,b,(hoth g' ?_).trans c,d⟩
   intro e;subst e;rw[c]at hcell;injection hcell with hcell;injection hcell with _ e2 _;exact ht e2.symm
 refine⟨by simp[k1],?_,?_,?_⟩
 ·rw[rowN_set ns kvs u k n _ k1 hn,List.length_modify]
  refine⟨by rw[List.length_set,rowN_length ns kvs k1],.inr ⟨gL,cap,_,hv,hB,setRow_heap w8 gL _ _ _ _ hcell,hnc,hcm,by simpa using hcs,?_⟩⟩;rw[Array.toList_setIfInBounds,←htk,List.take_set]
 ·intro j m kv2 hj hkv2
  by_cases hju:j=u
  ·subst hju
   rw[List.getElem?_modify_eq,hn]at hj;simp at hj;subst hj;rw[List.getElem?_set_self (by omega)]at hkv2;injection hkv2 with hkv2;subst hkv2;simp only[List.length_append,List.length_singleton,List.map_append,List.map_cons,List.map_nil];exact hkid9 hrow8
  ·rw[List.getElem?_modify_ne _ _ (Ne.symm hju)]at hj
   rw[List.getElem?_set_ne (Ne.symm hju)]at hkv2;have h0:=k3 j m kv2 hj hkv2;refine hkid9 ⟨h0.1,?_⟩;rcases h0.2 with h'|⟨g',c1,c2,a,b,c,d⟩
   ·exact .inl h'
   ·refine .inr ⟨g',c1,c2,a,b,(hkeep g' (Array.getElem?_eq_some_iff.1 c).1 ?_).trans c,d⟩
    intro e;refine k4 j u kv2 kv hju hkv2 hkv (by rw[a];simp[Value.ownBlock]) ?_;rw[a,←e];rfl
 ·intro j m a b hjm ha hb hne
  have hlt:∀{q:Nat} {x:Value} {gg:Nat},kvs[q]?=some x→x.ownBlock=some gg→gg<w.heap.size:=by
   intro q x gg hq hx;have hql:q<ns.length:=by have:=(List.getElem?_eq_some_iff.1 hq).1;omega
   exact(ownBlock_lt (k3 q ns[q] x (List.getElem?_eq_getElem hql) hq) hx).2.1
  by_cases hju:j=u
  ·subst hju
   rw[List.getElem?_set_self (by omega)]at ha;rw[List.getElem?_set_ne hjm]at hb;injection ha with ha;subst ha;intro e;have hbg:b.ownBlock=some g:=by rw[←e];rfl
   rcases hg with hg|hg
   ·exact k4 m j b kv (Ne.symm hjm) hb hkv (by rw[hbg];simp) (by rw[hbg,hg])
   ·have:=hlt hb hbg;omega
  ·rw[List.getElem?_set_ne (Ne.symm hju)]at ha
   by_cases hmu:m=u
   ·subst hmu
    rw[List.getElem?_set_self (by omega)]at hb;injection hb with hb;subst hb;intro e;have hag:a.ownBlock=some g:=by rw[e];rfl
    rcases hg with hg|hg
    ·exact k4 j m a kv hjm ha hkv hne (by rw[hag,hg])
    ·have:=hlt ha hag;omega
   ·rw[List.getElem?_set_ne (Ne.symm hmu)]at hb
    exact k4 j m a b hjm ha hb hne
structure Chg (bp:Nat) (O:Nat→Prop) (w:World) (O':Nat→Prop) (w':World):Prop where
 os:w'.os=w.os
 tape:w'.tape=w.tape
 output:w'.output=w.output
 size:w.heap.size≤w'.heap.size
 block:∀k,k<w.heap.size→k≠bp→¬O k→w'.heap[k]?=w.heap[k]?
 own:∀k,O' k→O k∨w.heap.size≤k
theorem Chg.refl(bp:Nat)(O:Nat→Prop)(w:World):Chg bp O w O w:=⟨rfl,rfl,rfl,Nat.le_refl _,fun _ _ _ _=>rfl,fun _ h=>.inl h⟩
theorem Chg.trans{bp:Nat}{O O1 O2:Nat→Prop}{a b c:World}(h:Chg bp O a O1 b)(g:Chg bp O1 b O2 c):Chg bp O a O2 c:=by
 refine⟨g.os.trans h.os,g.tape.trans h.tape,g.output.trans h.output,Nat.le_trans h.size g.size,fun k hk hb hO=>?_,fun k hk=>?_⟩
 ·refine(g.block k (Nat.lt_of_lt_of_le hk h.size) hb (fun h1=>?_)).trans (h.block k hk hb hO)
  rcases h.own k h1 with h2|h2
  ·exact hO h2
  ·omega
 ·rcases g.own k hk with h1|h1
  ·exact h.own k h1
  ·exact .inr (Nat.le_trans h.size h1)
theorem Onl.chg{bp:Nat}{w w':World}(h:Onl bp w w')(O:Nat→Prop):Chg bp O w O w':=
 ⟨h.os,h.tape,h.output,h.size,fun k hk hb _=>h.block k hk (fun e=>by injection e with e;exact hb e),fun _ h=>.inl h⟩
theorem chg_alloc(bp:Nat)(O:Nat→Prop)(w:World)(o:Obj):Chg bp O w O (w.alloc o):=
 ⟨rfl,rfl,rfl,by simp,fun k hk _ _=>heap_alloc_old _ _ hk,fun _ h=>.inl h⟩
theorem GV.chg{bp:Nat}{w w':World}{O O':Nat→Prop}(h:GV w)(hc:Chg bp O w O' w')(hb:8≤bp)(hl:bp<w.heap.size)(hO:∀k,O k→bp<k):GV w':=
 h.kept fun k hk=>hc.block k (by omega) (by omega) (fun h=>by have:=hO k h;omega)
structure CN (bp:Nat) (s:ByteArray) (i:Nat) (ns:List Nd) (dp:Nat) (vL:Value) (kvs:List Value) (w:World):Prop where
 cd:CD bp s i vL dp w
 nk:NK (bp+1) 58 vL kvs ns w
section
variable {bp:Nat} {s:ByteArray} {i:Nat} {ns:List Nd} {dp:Nat} {vL:Value} {kvs:List Value} {w w':World}
theorem CN.onl(h:CN bp s i ns dp vL kvs w){j:Nat}(hr:CD bp s j vL dp w')(ho:Onl bp w w'):CN bp s j ns dp vL kvs w':=⟨hr,h.nk.onl ho (by omega)⟩
theorem CN.alloc(h:CN bp s i ns dp vL kvs w)(o:Obj):CN bp s i ns dp vL kvs (w.alloc o):=⟨h.cd.alloc o,h.nk.alloc o⟩
theorem CN.above(h:CN bp s i ns dp vL kvs w)(k:Nat)(hk:own vL kvs k):bp<k:=(h.nk.own_lt hk).1
end
end Go.Proofs.YtaghclgookfmnaaGreatDoor
