import Derived.Test.YtaghclgookfmnaaGreatDoorQCost
namespace Go.Proofs.YtaghclgookfmnaaGreatDoor
set_option linter.unusedVariables false
theorem insR_sum(lt:Nat→Nat→Bool)(g:Nat→Nat)(x:Nat)(l:List Nat):((insR lt x l).map g).sum=g x+(l.map g).sum:=by
 induction l with
 | nil=>simp[insR]
 | cons y r ih=>
   rw[insR];split
   ·simp only[List.map_cons,List.sum_cons,ih];omega
   ·simp
theorem sum_reverse(g:Nat→Nat)(l:List Nat):(l.reverse.map g).sum=(l.map g).sum:=by
 induction l with
 | nil=>rfl
 | cons x r ih=>simp only[List.reverse_cons,List.map_append,List.sum_append,ih,List.map_cons,List.map_nil,List.sum_cons,List.sum_nil];omega
theorem insL_sum(lt:Nat→Nat→Bool)(g:Nat→Nat)(l:List Nat)(x:Nat):((insL lt l x).map g).sum=g x+(l.map g).sum:=by
 unfold insL;rw[sum_reverse,insR_sum,sum_reverse]
theorem fold_sum(lt:Nat→Nat→Bool)(g:Nat→Nat)(l:List Nat):∀acc:List Nat,((l.foldl (insL lt) acc).map g).sum=(acc.map g).sum+(l.map g).sum:=by
 induction l with
 | nil=>intro acc;simp
 | cons x r ih=>intro acc;rw[List.foldl_cons,ih,insL_sum];simp only[List.map_cons,List.sum_cons];omega
theorem srt_sum(lt:Nat→Nat→Bool)(g:Nat→Nat)(l:List Nat):((srt lt l).map g).sum=(l.map g).sum:=by
 unfold srt;rw[fold_sum];simp
theorem bodyTo_len(f:Nat→List UInt8)(ks:List Nat):∀j,j≤ks.length→(bodyTo f ks j).length≤((ks.take j).map fun k=>(f k).length+1).sum:=by
 intro j;induction j with
 | zero=>intro _;simp[bodyTo]
 | succ j ih=>
   intro hj;have h1:=ih (by omega);have hk:ks[j]?=some ks[j]:=List.getElem?_eq_getElem (by omega);rw[bodyTo,List.take_add_one,hk,List.getD_eq_getElem?_getD,hk];simp only[List.length_append,List.map_append,List.sum_append,Option.toList_some,List.map_cons,List.map_nil,List.sum_cons,List.sum_nil,Option.getD_some];split
   ·simp only[List.length_nil];omega
   ·simp only[List.length_cons,List.length_nil];omega
theorem take_sum(g:Nat→Nat)(l:List Nat)(j:Nat):((l.take j).map g).sum≤(l.map g).sum:=by
 have h:(l.map g).sum=((l.take j).map g).sum+((l.drop j).map g).sum:=by
  rw[←List.sum_append,←List.map_append,List.take_append_drop]
 omega
theorem bodyTo_sum(f:Nat→List UInt8)(ks:List Nat)(j:Nat)(hj:j≤ks.length):(bodyTo f ks j).length≤(ks.map fun k=>(f k).length+1).sum:=
 Nat.le_trans (bodyTo_len f ks j hj) (take_sum _ _ _)
def Sub(L:List Nd)(b:Nat)(key:List UInt8)(t:JT):Prop:=∀j,j<t.size→L[b+j]?=(flat b key t)[j]?
def SubL(L:List Nd)(b:Nat)(ts:List JT):Prop:=∀j,j<sizeL ts→L[b+j]?=(flatL b ts)[j]?
def SubM(L:List Nd)(b:Nat)(ms:List (List UInt8×JT)):Prop:=∀j,j<sizeM ms→L[b+j]?=(flatM b ms)[j]?
theorem Sub.arr{L:List Nd}{b:Nat}{key:List UInt8}{ts:List JT}{i:Nat}(h:Sub L b key (.arr ts i)):SubL L (b+1) ts:=fun j hj=>by
 have:=h (j+1) (by rw[JT.size];omega);rw[flat,List.getElem?_cons_succ]at this;rw[show b+1+j=b+(j+1)by omega];exact this
theorem Sub.obj{L:List Nd}{b:Nat}{key:List UInt8}{ms:List (List UInt8×JT)}{i:Nat}(h:Sub L b key (.obj ms i)):SubM L (b+1) ms:=fun j hj=>by
 have:=h (j+1) (by rw[JT.size];omega);rw[flat,List.getElem?_cons_succ]at this;rw[show b+1+j=b+(j+1)by omega];exact this
theorem SubL.head{L:List Nd}{b:Nat}{t:JT}{r:List JT}(h:SubL L b (t::r)):Sub L b [] t:=fun j hj=>by
 have:=h j (by rw[sizeL];omega);rw[flatL,List.getElem?_append_left (by rw[flat_length];exact hj)]at this;exact this
theorem SubL.tail{L:List Nd}{b:Nat}{t:JT}{r:List JT}(h:SubL L b (t::r)):SubL L (b+t.size) r:=fun j hj=>by
 have:=h (t.size+j) (by rw[sizeL];omega);rw[flatL,List.getElem?_append_right (by rw[flat_length];omega),flat_length,Nat.add_sub_cancel_left]at this;rw[show b+t.size+j=b+(t.size+j)by omega];exact this
theorem SubM.head{L:List Nd}{b:Nat}{k:List UInt8}{t:JT}{r:List (List UInt8×JT)}(h:SubM L b ((k,t)::r)):Sub L b k t:=fun j hj=>by
 have:=h j (by rw[sizeM];omega);rw[flatM,List.getElem?_append_left (by rw[flat_length];exact hj)]at this;exact this
theorem SubM.tail{L:List Nd}{b:Nat}{k:List UInt8}{t:JT}{r:List (List UInt8×JT)}(h:SubM L b ((k,t)::r)):SubM L (b+t.size) r:=fun j hj=>by
 have:=h (t.size+j) (by rw[sizeM];omega);rw[flatM,List.getElem?_append_right (by rw[flat_length];omega),flat_length,Nat.add_sub_cancel_left]at this;rw[show b+t.size+j=b+(t.size+j)by omega];exact this
theorem Sub.first{L:List Nd}{b:Nat}{key:List UInt8}{t:JT}(h:Sub L b key t):L[b]?=(flat b key t)[0]?:=h 0 (by have:=size_pos t;omega)
theorem Sub.key{L:List Nd}{b:Nat}{key:List UInt8}{t:JT}(h:Sub L b key t):keyL L b=key:=by
 have h1:=h.first;cases t<;>(rw[flat]at h1;exact keyL_of h1)
theorem strT_len(t:List UInt8):(strT t).length≤6*t.length+2:=by
 have:=sgnsL_len t;unfold strT;simp only[List.length_append,List.length_cons,List.length_nil];omega
theorem decI_len(n:Int)(h0: -9223372036854775808≤n)(h1:n≤9223372036854775807):(decI n).length≤21:=by
 unfold decI;split
 ·have:=decN_le (n:=(-n).toNat) (by omega);simp only[List.length_cons];omega
 ·have:=decN_le (n:=n.toNat) (by omega);omega
theorem sumL(L:List Nd)(F:Nat→List UInt8)(hF:∀b key t,Sub L b key t→okT 65536 t→(F b).length≤cost t):∀(ts:List JT) (b:Nat),SubL L b ts→okL 65536 ts→((startsL b ts).map fun k=>(F k).length+1).sum≤costL ts:=by
 intro ts;induction ts with
 | nil=>intro b _ _;simp[startsL,costL]
 | cons t r ih=>
   intro b h ho;rw[okL]at ho;have h1:=hF b [] t h.head ho.1;have h2:=ih _ h.tail ho.2;rw[startsL,costL,List.map_cons,List.sum_cons];omega
theorem sumM(L:List Nd)(F:Nat→List UInt8)(hF:∀b key t,Sub L b key t→okT 65536 t→(F b).length≤cost t):∀(ms:List (List UInt8×JT)) (b:Nat),SubM L b ms→okM 65536 ms→((startsM b ms).map fun k=>(memF L F k).length+1).sum≤costM ms:=by
 intro ms;induction ms with
 | nil=>intro b _ _;simp[startsM,costM]
 | cons m r ih=>
   obtain⟨k,t⟩:=m;intro b h ho;rw[okM]at ho;have h1:=hF b k t h.head ho.2.1;have h2:=ih _ h.tail ho.2.2;have h3:=strT_len k;have h4:(memF L F b).length=(strT k).length+1+(F b).length:=by
    unfold memF;rw[h.head.key,List.length_append,List.length_cons];omega
   rw[startsM,costM,List.map_cons,List.sum_cons,h4];omega
theorem form_cost(L:List Nd):∀(f b:Nat) (key:List UInt8) (t:JT),Sub L b key t→okT 65536 t→(formN L f b).length≤cost t:=by
 intro f;induction f with
 | zero=>intro b key t _ _;simp[formN]
 | succ f ih=>
   intro b key t h ho;have h1:=h.first;cases t with
   | null i=>rw[flat]at h1;rw[formN,h1];simp[cost]
   | truth x i=>rw[flat]at h1;rw[formN,h1];cases x<;>simp[cost]
   | int n i=>rw[flat]at h1;rw[formN,h1];rw[okT]at ho;have:=decI_len n ho.1 ho.2;simp only[List.getElem?_cons_zero,cost];simpa using this
   | str s i=>rw[flat]at h1;rw[formN,h1];have:=strT_len s;simp only[List.getElem?_cons_zero,cost];simpa using this
   | arr ts i=>
     have h2:=sumL L (formN L f) (ih · · ·) ts (b+1) h.arr (by rw[okT]at ho;exact ho);rw[flat]at h1;have h3:=bodyTo_sum (formN L f) (startsL (b+1) ts) _ (Nat.le_refl _);rw[formN,h1];simp[cost];omega
   | obj ms i=>
     have h2:=sumM L (formN L f) (ih · · ·) ms (b+1) h.obj (by rw[okT]at ho;exact ho);rw[flat]at h1;have h3:=bodyTo_sum (memF L (formN L f)) (srt (ltK L) (startsM (b+1) ms)) (startsM (b+1) ms).length (Nat.le_of_eq (srt_len _ _).symm);rw[srt_sum]at h3;rw[formN,h1];simp[cost];omega
mutual
theorem sub_at(L:List Nd)(b:Nat)(key:List UInt8)(t:JT)(h:Sub L b key t)(ho:okT 65536 t):∀k,k<t.size→∃key' t',Sub L (b+k) key' t'∧okT 65536 t'∧cost t'≤cost t:=by
 intro k hk;cases k with
 | zero=>exact⟨key,t,h,ho,Nat.le_refl _⟩
 | succ k=>
   cases t with
   | null i=>rw[JT.size]at hk;omega
   | truth x i=>rw[JT.size]at hk;omega
   | int n i=>rw[JT.size]at hk;omega
   | str s i=>rw[JT.size]at hk;omega
   | arr ts i=>
     obtain⟨key',t',g1,g2,g3⟩:=subL_at L (b+1) ts h.arr (by rw[okT]at ho;exact ho) k (by rw[JT.size]at hk;omega);rw[show b+1+k=b+(k+1)by omega]at g1;exact⟨key',t',g1,g2,by rw[cost];omega⟩
   | obj ms i=>
     obtain⟨key',t',g1,g2,g3⟩:=subM_at L (b+1) ms h.obj (by rw[okT]at ho;exact ho) k (by rw[JT.size]at hk;omega);rw[show b+1+k=b+(k+1)by omega]at g1;exact⟨key',t',g1,g2,by rw[cost];omega⟩
theorem subL_at(L:List Nd)(b:Nat)(ts:List JT)(h:SubL L b ts)(ho:okL 65536 ts):∀k,k<sizeL ts→∃key' t',Sub L (b+k) key' t'∧okT 65536 t'∧cost t'≤costL ts:=by
 intro k hk;cases ts with
 | nil=>rw[sizeL]at hk;omega
 | cons t r=>
   rw[okL]at ho;by_cases hl:k<t.size
   ·obtain⟨key',t',g1,g2,g3⟩:=sub_at L b [] t h.head ho.1 k hl
    exact⟨key',t',g1,g2,by rw[costL];omega⟩
   ·obtain⟨key',t',g1,g2,g3⟩:=subL_at L (b+t.size) r h.tail ho.2 (k-t.size) (by rw[sizeL]at hk;omega)
    rw[show b+t.size+(k-t.size)=b+k by omega]at g1;exact⟨key',t',g1,g2,by rw[costL];omega⟩
theorem subM_at(L:List Nd)(b:Nat)(ms:List (List UInt8×JT))(h:SubM L b ms)(ho:okM 65536 ms):∀k,k<sizeM ms→∃key' t',Sub L (b+k) key' t'∧okT 65536 t'∧cost t'≤costM ms:=by
 intro k hk;cases ms with
 | nil=>rw[sizeM]at hk;omega
 | cons m r=>
   obtain⟨n,t⟩:=m;rw[okM]at ho;by_cases hl:k<t.size
   ·obtain⟨key',t',g1,g2,g3⟩:=sub_at L b n t h.head ho.2.1 k hl
    exact⟨key',t',g1,g2,by rw[costM];omega⟩
   ·obtain⟨key',t',g1,g2,g3⟩:=subM_at L (b+t.size) r h.tail ho.2.2 (k-t.size) (by rw[sizeM]at hk;omega)
    rw[show b+t.size+(k-t.size)=b+k by omega]at g1;exact⟨key',t',g1,g2,by rw[costM];omega⟩
end
theorem sub_self(t:JT):Sub (flat 0 [] t) 0 [] t:=fun j hj=>by rw[Nat.zero_add]
theorem short_flat(t:JT)(ho:okT 65536 t)(hc:cost t≤1966080):Short (flat 0 [] t):=by
 have hat:=sub_at (flat 0 [] t) 0 [] t (sub_self t) ho;have hlt:∀(k:Nat) (n:Nd),(flat 0 [] t)[k]?=some n→k<t.size:=fun k n hn=>by
  have:=(List.getElem?_eq_some_iff.1 hn).1;rw[flat_length]at this;exact this
 generalize hL:flat 0 [] t=L at *;refine⟨fun f k=>?_,fun f k n hn h4 j hj=>?_,fun f k n hn h5 j hj=>?_⟩
 ·cases f with
  | zero=>simp[formN]
  | succ f=>
    cases hk:L[k]? with
    | none=>rw[formN,hk];simp
    | some n=>
      obtain⟨key,t',g1,g2,g3⟩:=hat k (hlt k n hk);rw[Nat.zero_add]at g1;have:=form_cost L (f+1) k key t' g1 g2;omega
 ·obtain⟨key,t',g1,g2,g3⟩:=hat k (hlt k n hn)
  rw[Nat.zero_add]at g1;have h1:=g1.first;rw[hn]at h1;cases t' with
  | null i=>rw[flat]at h1;injection h1 with h1;subst h1;simp at h4
  | truth x i=>rw[flat]at h1;injection h1 with h1;subst h1;simp at h4
  | int n i=>rw[flat]at h1;injection h1 with h1;subst h1;simp at h4
  | str s i=>rw[flat]at h1;injection h1 with h1;subst h1;simp at h4
  | arr ts i=>
    have h2:=sumL L (formN L f) (form_cost L f) ts (k+1) g1.arr (by rw[okT]at g2;exact g2);rw[flat]at h1;injection h1 with h1;subst h1;have h3:=bodyTo_sum (formN L f) (startsL (k+1) ts) j hj;rw[cost]at g3;dsimp only;omega
  | obj ms i=>rw[flat]at h1;injection h1 with h1;subst h1;simp at h4
 ·obtain⟨key,t',g1,g2,g3⟩:=hat k (hlt k n hn)
  rw[Nat.zero_add]at g1;have h1:=g1.first;rw[hn]at h1;cases t' with
  | null i=>rw[flat]at h1;injection h1 with h1;subst h1;simp at h5
  | truth x i=>rw[flat]at h1;injection h1 with h1;subst h1;simp at h5
  | int n i=>rw[flat]at h1;injection h1 with h1;subst h1;simp at h5
  | str s i=>rw[flat]at h1;injection h1 with h1;subst h1;simp at h5
  | arr ts i=>rw[flat]at h1;injection h1 with h1;subst h1;simp at h5
  | obj ms i=>
    have h2:=sumM L (formN L f) (form_cost L f) ms (k+1) g1.obj (by rw[okT]at g2;exact g2);rw[flat]at h1;injection h1 with h1;subst h1;have h3:=bodyTo_sum (memF L (formN L f)) (srt (ltK L) (startsM (k+1) ms)) j (by rw[srt_len];exact hj);rw[srt_sum]at h3;rw[cost]at g3;dsimp only;omega
theorem read_fit{l:List UInt8}{t:JT}(h:readL l=.ok t):WFN (flat 0 [] t)∧Short (flat 0 [] t):=by
 obtain⟨h1,h2,h3⟩:=readL_rok h;exact⟨wfn_flat 65536 t h2 (by omega) (by omega),short_flat t h2 h1⟩
end Go.Proofs.YtaghclgookfmnaaGreatDoor
