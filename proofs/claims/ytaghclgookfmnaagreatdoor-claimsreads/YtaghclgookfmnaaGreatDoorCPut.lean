import Derived.Test.YtaghclgookfmnaaGreatDoorCNode
namespace Go.Proofs.YtaghclgookfmnaaGreatDoor
open Go.RowKit
set_option linter.unusedVariables false
theorem rowC_at:∀(ns:List Nd) (vs:List Value) (u j:Nat) (n:Nd) (kv:Value),vs.length=ns.length→ns[u]?=some n→vs[u]?=some kv→j<6→(rowN ns vs)[u*6+j]?=(ndCells n kv)[j]?:=by
 intro ns;induction ns with
 | nil=>intro vs u j n kv h hn;simp at hn
 | cons m ns ih=>
   intro vs u j n kv h hn hv hj;match vs,h with
   | v::vs,h=>
     match u with
     | 0=>
       simp at hn hv;subst hn;subst hv;rw[rowN,Nat.zero_mul,Nat.zero_add,List.getElem?_append_left (by simpa [ndCells]using hj)]
     | u+1=>
       have e:(u+1)*6+j=(ndCells m v).length+(u*6+j):=by simp[ndCells];omega
       rw[rowN,e,List.getElem?_append_right (Nat.le_add_right _ _),Nat.add_sub_cancel_left];exact ih vs u j n kv (by simpa using h) (by simpa using hn) (by simpa using hv) hj
theorem rowN_put(f:Nd→Nd)(j:Nat)(val:Value)(hf:∀n kv,ndCells (f n) kv=(ndCells n kv).set j val)(hj:j<6):∀(ns:List Nd) (vs:List Value) (u:Nat),vs.length=ns.length→u<ns.length→rowN (ns.modify u f) vs=(rowN ns vs).set (u*6+j) val:=by
 intro ns;induction ns with
 | nil=>intro vs u h hu;simp at hu
 | cons m ns ih=>
   intro vs u h hu;match vs,h with
   | v::vs,h=>
     match u with
     | 0=>
       simp only[List.modify_zero_cons,rowN,hf,Nat.zero_mul,Nat.zero_add];rw[List.set_append_left _ _ (by simpa [ndCells]using hj)]
     | u+1=>
       have h':vs.length=ns.length:=by simpa using h
       have:=ih vs u h' (by simpa using hu);simp only[List.modify_succ_cons,rowN];rw[this];have e:(u+1)*6+j=(ndCells m v).length+(u*6+j):=by simp[ndCells];omega
       rw[e,List.set_append_right _ _ (Nat.le_add_right _ _),Nat.add_sub_cancel_left]
section
variable {B:Nat} {tN:TypeId} {v:Value} {kvs:List Value} {ns:List Nd} {w:World}
theorem NK.at(h:NK B tN v kvs ns w){g:Nat}(hg:v.ownBlock=some g){u j:Nat}{n:Nd}{kv:Value}(hn:ns[u]?=some n)(hkv:kvs[u]?=some kv)(hj:j<6){x:Value}(hx:(ndCells n kv)[j]?=some x):w.cell? ⟨g,u*6+j,none⟩=some x∧w.frozen? ⟨g,u*6+j,none⟩=false:=by
 obtain⟨k1,k2,k3,k4⟩:=h;obtain⟨_,_,cur,hc⟩:=ownBlock_lt k2 hg;refine⟨?_,by simp[World.frozen?,hc]⟩;have:=k2.cells (g:=g) hg (u*6+j) _ ((rowC_at ns kvs u j n kv k1 hn hkv hj).trans hx);have hadd:(⟨g,0,none⟩:Addr).add (u*6+j)=⟨g,u*6+j,none⟩:=by unfold Addr.add;split<;>simp_all
 rwa [hadd]at this
theorem NK.put(h:NK B tN v kvs ns w){gL:Nat}(hgL:v.ownBlock=some gL)(f:Nd→Nd)(j:Nat)(val:Value)(hf:∀n kv,ndCells (f n) kv=(ndCells n kv).set j val)(hfk:∀n,(f n).kids=n.kids)(hj:j<6)(u:Nat)(hu:u<ns.length)(ht:tN≠3):NK B tN v kvs (ns.modify u f) (w.setCell ⟨gL,u*6+j,none⟩ val):=by
 obtain⟨k1,k2,k3,k4⟩:=h;obtain⟨cap,cur,hv,hB,hcell,hnc,hcm,hcs,htk⟩:∃cap cur,v=.slice (some ⟨gL,0,none⟩) ns.length cap∧B≤gL∧w.heap[gL]?=some (.cells cur tN (0,0))∧ns.length≤cap∧cap≤maxLen∧cur.size=cap*6∧cur.toList.take (ns.length*6)=rowN ns kvs:=by
  rcases k2.2 with⟨h,_⟩|⟨g',cap,cur,a,b,c,d⟩
  ·rw[h]at hgL;simp[Value.ownBlock]at hgL
  ·rw[a]at hgL
   simp[Value.ownBlock]at hgL;subst hgL;exact⟨cap,cur,a,b,c,d⟩
 have hset:=setCell_eq_setRow w gL (u*6+j) cur tN (0,0) val hcell;rw[hset];refine⟨by simpa using k1,?_,?_,k4⟩
 ·rw[rowN_put f j val hf hj ns kvs u k1 hu,List.length_modify]
  refine⟨by rw[List.length_set,rowN_length ns kvs k1],.inr ⟨gL,cap,_,hv,hB,setRow_heap w gL _ _ _ _ hcell,hnc,hcm,by simpa using hcs,?_⟩⟩;rw[Array.toList_setIfInBounds,←htk,List.take_set]
 ·intro k m kv hk hkv
  have hm:∃n,ns[k]?=some n∧m.kids=n.kids:=by
   by_cases hku:k=u
   ·subst hku
    rw[List.getElem?_modify_eq]at hk;cases hx:ns[k]? with
    | none=>rw[hx]at hk;cases hk
    | some n=>rw[hx]at hk;simp at hk;exact⟨n,rfl,by rw[←hk];exact hfk n⟩
   ·rw[List.getElem?_modify_ne _ _ (Ne.symm hku)]at hk;exact⟨m,hk,rfl⟩
  obtain⟨n,hn,hmk⟩:=hm;rw[hmk];refine ownsRow_k (k3 k n kv hn hkv) (fun g hg=>setRow_other w gL g _ ?_);intro e;subst e;obtain⟨_,_,cur',c'⟩:=ownBlock_lt (k3 k n kv hn hkv) hg;rw[hcell]at c';injection c' with c';injection c' with _ c' _;exact ht c'
theorem setCell_other{gL k:Nat}{o:Nat}{val:Value}{cur:Array Value}{t:TypeId}{fz:Nat×Nat}(hc:w.heap[gL]?=some (.cells cur t fz))(hk:k≠gL):(w.setCell ⟨gL,o,none⟩ val).heap[k]?=w.heap[k]?:=by
 rw[setCell_eq_setRow w gL o _ _ _ _ hc];exact setRow_other w gL k _ hk
end
section
variable {bp:Nat} {s:ByteArray} {i:Nat} {ns:List Nd} {dp:Nat} {vL:Value} {kvs:List Value} {w:World}
theorem CN.put(h:CN bp s i ns dp vL kvs w){gL:Nat}(hgL:vL.ownBlock=some gL)(f:Nd→Nd)(j:Nat)(val:Value)(hf:∀n kv,ndCells (f n) kv=(ndCells n kv).set j val)(hfk:∀n,(f n).kids=n.kids)(hj:j<6)(u:Nat)(hu:u<ns.length):CN bp s i (ns.modify u f) dp vL kvs (w.setCell ⟨gL,u*6+j,none⟩ val)∧Chg bp (own vL kvs) w (own vL kvs) (w.setCell ⟨gL,u*6+j,none⟩ val):=by
 obtain⟨b1,b2,cur,hc⟩:=ownBlock_lt h.nk.2.1 hgL;refine⟨⟨?_,h.nk.put hgL f j val hf hfk hj u hu (by decide)⟩,?_⟩
 ·unfold CD;rw[setCell_other hc (by omega)];exact h.cd
 ·have e:=setCell_eq_setRow w gL (u*6+j) _ _ _ val hc
  refine⟨by rw[e];rfl,by rw[e];rfl,by rw[e];rfl,by rw[e];simp[World.setRow],fun k hk hb hO=>?_,fun k h=>.inl h⟩;exact setCell_other hc (fun e=>hO (.inl (by rw[e];exact hgL)))
end
def VQ(bp:Nat)(s:ByteArray)(i:Nat)(ns:List Nd)(key:List UInt8)(dp:Nat)(O:Nat→Prop)(w:World)(ret:Value)(r:Ending)(w':World):JR JT→Prop
 | .ok (t,n)=>r=.returned ret∧∃vL' kvs',CN bp s (i+n) (ns++flat ns.length key t) dp vL' kvs' w'∧Chg bp O w (own vL' kvs') w'
 | .error (e,a)=>0<e∧r=.panicked (flt e a)∧Chg bp O w (fun _=>False) w'
theorem Chg.drop{bp:Nat}{O O':Nat→Prop}{w w':World}(h:Chg bp O w O' w'):Chg bp O w (fun _=>False) w':=⟨h.os,h.tape,h.output,h.size,h.block,fun _ h=>h.elim⟩
def plainL(l:List UInt8)(i:Nat):JR JT:=
 match l with
 | []=>.error (2,i)
 | c::_=>
   if c=34 then(match quotL l with| .error o=>.error (2,i+o)| .ok (t,n)=>.ok (.str t i,n))
   else if c=45∨isD c=true then(match intL l with| .error (e,o)=>.error (e,i+o)| .ok (n,k)=>.ok (.int n i,k))
   else if c=116∨c=102∨c=110 then wordL l i
   else .error (2,i)
theorem valL_plain(d:Nat)(l:List UInt8)(i:Nat)(h:l.head?≠some 91)(h':l.head?≠some 123):valL d l i=plainL l i:=by
 match l with
 | []=>rw[valL_nil];rfl
 | c::r=>
   have n1:c≠91:=by simpa using h
   have n2:c≠123:=by simpa using h'
   rw[valL_cons,plainL];simp only[n1,n2,or_self,if_false];rfl
end Go.Proofs.YtaghclgookfmnaaGreatDoor
