import Derived.Test.YtbllepoagnfjnaaDoorJPureP
namespace Go.Proofs.YtbllepoagnfjnaaDoor
set_option linter.unusedVariables false
theorem fourG_lenQ:∀(k n:Nat) (l:List UInt8) (o m o':Nat),fourG k n l o=(some m,o')→k≤l.length
 | 0,n,l,o,m,o',h=>Nat.zero_le _
 | k+1,n,[],o,m,o',h=>by simp[fourG]at h
 | k+1,n,c::r,o,m,o',h=>by
   rw[fourG]at h;split at h
   ·simp at h
   ·have:=fourG_lenQ k _ _ _ _ _ h
    simp;omega
theorem lowL_lenQ{l:List UInt8}{m:Nat}(h:lowL l=some m):6≤l.length:=by
 unfold lowL at h;split at h
 ·rename_i a b r
  split at h
  ·split at h
   ·rename_i n hn
    have:4≤r.length:=by
     have h4:four4 r=(some n,(four4 r).2):=Prod.ext hn rfl;exact fourG_lenQ 4 0 r 0 _ _ h4
    simp;omega
   ·cases h
  ·cases h
 ·cases h
theorem escL_lenQ{l t:List UInt8}{n:Nat}(h:escL l=.ok (t,n)):n≤l.length:=by
 unfold escL at h;split at h
 ·rename_i a c r
  split at h
  ·injection h with h;injection h with h1 h2;subst h2;simp
  ·split at h
   ·split at h
    ·cases h
    ·rename_i m o h4
     have h4':4≤r.length:=fourG_lenQ 4 0 r 0 _ _ h4;unfold pairL at h;split at h
     ·injection h with h;injection h with h1 h2;subst h2;simp;omega
     ·split at h
      ·cases h
      ·rename_i m' hl
       have:=lowL_lenQ hl;rw[List.length_drop]at this;split at h
       ·cases h
       ·injection h with h;injection h with h1 h2;subst h2;simp;omega
   ·cases h
 ·cases h
theorem strF_lenQ:∀(f:Nat) (l t:List UInt8) (n:Nat),strF f l=.ok (t,n)→t.length+1≤n∧n≤l.length:=by
 intro f;induction f with
 | zero=>intro l t n h;simp[strF]at h
 | succ f ih=>
   intro l t n h;match l with
   | []=>simp[strF]at h
   | c::r=>
     rw[strF]at h;have key:∀(acc:List UInt8) (k:Nat),acc.length≤k→k≤(c::r).length→shiftS acc k (strF f ((c::r).drop k))=.ok (t,n)→t.length+1≤n∧n≤(c::r).length:=by
      intro acc k ha hk hh;generalize (c::r)=L at *;cases hs:strF f (L.drop k)with
      | error o=>rw[hs]at hh;simp[shiftS]at hh
      | ok q=>
        obtain⟨t',n'⟩:=q;have:=ih _ _ _ hs;rw[List.length_drop]at this;rw[hs,shiftS]at hh;injection hh with hh;injection hh with h1 h2;subst h1;subst h2;rw[List.length_append];omega
     split at h
     ·injection h with h;injection h with h1 h2;subst h1;subst h2;simp
     ·split at h
      ·cases h
      ·split at h
       ·split at h
        ·cases h
        ·rename_i t' n' he
         exact key t' n' (escL_ok he).1 (escL_lenQ he) h
       ·split at h
        ·cases h
        ·have:=seqLen_len (c::r)
         exact key _ _ (by rw[List.length_take];omega) this h
theorem quotL_lenQ{l t:List UInt8}{n:Nat}(h:quotL l=.ok (t,n)):t.length+2≤n∧n≤l.length:=by
 unfold quotL at h;split at h
 ·rename_i c r
  split at h
  ·split at h
   ·rename_i t' n' hs
    have:=strF_lenQ _ _ _ _ hs;injection h with h;injection h with h1 h2;subst h1;subst h2;simp;omega
   ·cases h
  ·cases h
 ·cases h
theorem accN_len:∀(l:List UInt8) (n:Nat),n≤10*maxI+300→accN n l≤10*maxI+300
 | [],n,h=>h
 | c::r,n,h=>by
   rw[accN];apply accN_len r;split
   ·have:=c.toNat_lt;omega
   ·exact h
theorem intL_lenQ{l:List UInt8}{m:Int}{n:Nat}(h:intL l=.ok (m,n)):1≤n∧n≤l.length∧ -9223372036854775808≤m∧m≤9223372036854775807:=by
 have h1:=intL_pos h;unfold intL at h;dsimp only at h;have hd:=nd_le (l.drop (if l.head?=some 45 then 1 else 0));rw[List.length_drop]at hd;generalize (if l.head?=some 45 then 1 else 0)=a at h hd;split at h
 ·cases h
 ·rename_i hk
  split at h
  ·cases h
  ·rename_i hm
   injection h with h;injection h with e1 e2;have hm':accN 0 ((l.drop a).take (nd (l.drop a)))≤9007199254740991:=by unfold maxI at hm;omega
   refine⟨h1,by omega,?_⟩;split at e1<;>omega
theorem wordL_lenQ{l:List UInt8}{i n:Nat}{t:JT}(h:wordL l i=.ok (t,n)):n≤l.length∧4≤n∧((∃b,t=.truth b i)∨t=.null i):=by
 have hl:∀k,(l.take (nl l)).length=k→k≤l.length:=fun k hk=>by rw[List.length_take]at hk;omega
 unfold wordL at h;dsimp only at h;split at h
 ·rename_i e;injection h with h;injection h with h1 h2;subst h1;subst h2;exact⟨hl 4 (by rw[e];rfl),by omega,.inl ⟨_,rfl⟩⟩
 ·split at h
  ·rename_i e;injection h with h;injection h with h1 h2;subst h1;subst h2;exact⟨hl 5 (by rw[e];rfl),by omega,.inl ⟨_,rfl⟩⟩
  ·split at h
   ·rename_i e;injection h with h;injection h with h1 h2;subst h1;subst h2;exact⟨hl 4 (by rw[e];rfl),by omega,.inr rfl⟩
   ·cases h
mutual
def cost:JT→Nat
 | .null _=>4
 | .truth _ _=>5
 | .int _ _=>21
 | .str t _=>6*t.length+2
 | .arr ts _=>2+costL ts
 | .obj ms _=>2+costM ms
def costL:List JT→Nat
 | []=>0
 | t::r=>cost t+1+costL r
def costM:List (List UInt8×JT)→Nat
 | []=>0
 | (k,t)::r=>6*k.length+4+cost t+costM r
end
def Rok(l:List UInt8)(t:JT)(n:Nat):Prop:=n≤l.length∧cost t≤30*n∧∀M,l.length≤M→okT M t
theorem drop_ltQ{l:List UInt8}{b:Nat}{c:UInt8}{r:List UInt8}(h:l.drop b=c::r):b<l.length:=by
 by_cases hb:b<l.length
 ·exact hb
 ·rw[List.drop_of_length_le (by omega)]at h;cases h
theorem arrF_rok(v:List UInt8→Nat→JR JT)(hv:∀l i t n,v l i=.ok (t,n)→Rok l t n):∀(f:Nat) (l:List UInt8) (i:Nat) (ts:List JT) (k:Nat),arrF v f l i=.ok (ts,k)→(1≤k∧k≤l.length)∧costL ts≤30*k∧∀M,l.length≤M→okL M ts:=by
 intro f;induction f with
 | zero=>intro l i ts k h;simp[arrF]at h
 | succ f ih=>
   intro l i ts k h;rw[arrF]at h;dsimp only at h;split at h
   ·cases h
   ·rename_i t n hvt
    obtain⟨h0,h00,h01⟩:=hv _ _ _ _ hvt;rw[List.length_drop]at h0 h01;split at h
    ·rename_i c r hd
     have hb:=drop_ltQ hd;split at h
     ·split at h
      ·cases h
      ·rename_i ts' k' hr
       obtain⟨g0,g1,g2⟩:=ih _ _ _ _ hr;rw[List.length_drop]at g0 g2;injection h with h;injection h with h1 h2;subst h1;subst h2;refine⟨by omega,by simp only[costL];omega,fun M hM=>?_⟩;rw[okL];exact⟨h01 M (by omega),g2 M (by omega)⟩
     ·split at h
      ·injection h with h;injection h with h1 h2;subst h1;subst h2
       refine⟨by omega,by simp only[costL];omega,fun M hM=>?_⟩;rw[okL,okL];exact⟨h01 M (by omega),trivial⟩
      ·cases h
    ·cases h
theorem objF_rok(v:List UInt8→Nat→JR JT)(hv:∀l i t n,v l i=.ok (t,n)→Rok l t n):∀(f:Nat) (ks:List (List UInt8)) (l:List UInt8) (i:Nat) (ms:List (List UInt8×JT)) (k:Nat),objF v f ks l i=.ok (ms,k)→(1≤k∧k≤l.length)∧costM ms≤30*k∧∀M,l.length≤M→okM M ms:=by
 intro f;induction f with
 | zero=>intro ks l i ts k h;simp[objF]at h
 | succ f ih=>
   intro ks l i ms k h;rw[objF]at h;dsimp only at h;split at h
   ·cases h
   ·rename_i name m hq
    obtain⟨q0,q1⟩:=quotL_lenQ hq;rw[List.length_drop]at q1;split at h
    ·cases h
    ·split at h
     ·rename_i c0 r0 hd0
      have hb0:=drop_ltQ hd0;split at h
      ·split at h
       ·cases h
       ·rename_i t n hvt
        obtain⟨h0,h00,h01⟩:=hv _ _ _ _ hvt;rw[List.length_drop]at h0 h01;split at h
        ·rename_i c r hd
         have hb:=drop_ltQ hd;split at h
         ·split at h
          ·cases h
          ·rename_i ms' k' hr
           obtain⟨g0,g1,g2⟩:=ih _ _ _ _ _ hr;rw[List.length_drop]at g0 g2;injection h with h;injection h with h1 h2;subst h1;subst h2;refine⟨by omega,by simp only[costM];omega,fun M hM=>?_⟩;rw[okM];exact⟨by omega,h01 M (by omega),g2 M (by omega)⟩
         ·split at h
          ·injection h with h;injection h with h1 h2;subst h1;subst h2
           refine⟨by omega,by simp only[costM];omega,fun M hM=>?_⟩;rw[okM,okM];exact⟨by omega,h01 M (by omega),trivial⟩
          ·cases h
        ·cases h
      ·cases h
     ·cases h
theorem arrL_rok(v:List UInt8→Nat→JR JT)(hv:∀l i t n,v l i=.ok (t,n)→Rok l t n)(l:List UInt8)(i:Nat)(t:JT)(n:Nat)(h:arrL v l i=.ok (t,n)):Rok l t n:=by
 unfold arrL at h;dsimp only at h;split at h
 ·rename_i hh
  injection h with h;injection h with h1 h2;subst h1;subst h2;have hb:1+nb (l.drop 1)<l.length:=by
   by_cases hb:1+nb (l.drop 1)<l.length
   ·exact hb
   ·rw[List.drop_of_length_le (by omega)]at hh;simp at hh
  exact⟨by omega,by simp only[cost,costL];omega,fun M _=>by simp[okT,okL]⟩
 ·split at h
  ·cases h
  ·rename_i ts k hr
   obtain⟨g0,g1,g2⟩:=arrF_rok v hv _ _ _ _ _ hr;rw[List.length_drop]at g0 g2;injection h with h;injection h with h1 h2;subst h1;subst h2;exact⟨by omega,by simp only[cost];omega,fun M hM=>by rw[okT];exact g2 M (by omega)⟩
theorem objL_rok(v:List UInt8→Nat→JR JT)(hv:∀l i t n,v l i=.ok (t,n)→Rok l t n)(l:List UInt8)(i:Nat)(t:JT)(n:Nat)(h:objL v l i=.ok (t,n)):Rok l t n:=by
 unfold objL at h;dsimp only at h;split at h
 ·rename_i hh
  injection h with h;injection h with h1 h2;subst h1;subst h2;have hb:1+nb (l.drop 1)<l.length:=by
   by_cases hb:1+nb (l.drop 1)<l.length
   ·exact hb
   ·rw[List.drop_of_length_le (by omega)]at hh;simp at hh
  exact⟨by omega,by simp only[cost,costM];omega,fun M _=>by simp[okT,okM]⟩
 ·split at h
  ·cases h
  ·rename_i ms k hr
   obtain⟨g0,g1,g2⟩:=objF_rok v hv _ _ _ _ _ _ hr;rw[List.length_drop]at g0 g2;injection h with h;injection h with h1 h2;subst h1;subst h2;exact⟨by omega,by simp only[cost];omega,fun M hM=>by rw[okT];exact g2 M (by omega)⟩
theorem valL_rok:∀(d:Nat) (l:List UInt8) (i:Nat) (t:JT) (n:Nat),valL d l i=.ok (t,n)→Rok l t n:=by
 intro d;induction d with
 | zero=>
   intro l i t n h;match l with
   | []=>rw[valL_nil]at h;cases h
   | c::r=>
     rw[valL_cons]at h;generalize (c::r)=L at *;split at h
     ·split at h
      ·cases h
      ·rename_i hq;have:=quotL_lenQ hq;injection h with h;injection h with h1 h2;subst h1;subst h2;exact⟨by omega,by simp only[cost];omega,fun M hM=>by rw[okT];omega⟩
     ·split at h
      ·split at h
       ·cases h
       ·rename_i hq;have:=intL_lenQ hq;injection h with h;injection h with h1 h2;subst h1;subst h2;exact⟨by omega,by simp only[cost];omega,fun M hM=>by rw[okT];omega⟩
      ·split at h
       ·obtain⟨h1,h2,⟨b,rfl⟩|rfl⟩:=wordL_lenQ h
        ·exact⟨h1,by simp only[cost];omega,fun M hM=>by simp[okT]⟩
        ·exact⟨h1,by simp only[cost];omega,fun M hM=>by simp[okT]⟩
       ·split at h<;>cases h
 | succ d ih=>
   intro l i t n h;match l with
   | []=>rw[valL_nil]at h;cases h
   | c::r=>
     rw[valL_cons]at h;generalize (c::r)=L at *;split at h
     ·split at h
      ·cases h
      ·rename_i hq;have:=quotL_lenQ hq;injection h with h;injection h with h1 h2;subst h1;subst h2;exact⟨by omega,by simp only[cost];omega,fun M hM=>by rw[okT];omega⟩
     ·split at h
      ·split at h
       ·cases h
       ·rename_i hq;have:=intL_lenQ hq;injection h with h;injection h with h1 h2;subst h1;subst h2;exact⟨by omega,by simp only[cost];omega,fun M hM=>by rw[okT];omega⟩
      ·split at h
       ·obtain⟨h1,h2,⟨b,rfl⟩|rfl⟩:=wordL_lenQ h
        ·exact⟨h1,by simp only[cost];omega,fun M hM=>by simp[okT]⟩
        ·exact⟨h1,by simp only[cost];omega,fun M hM=>by simp[okT]⟩
       ·split at h
        ·dsimp only at h
         split at h
         ·exact arrL_rok _ ih _ _ _ _ h
         ·exact objL_rok _ ih _ _ _ _ h
        ·cases h
theorem readL_rok{l:List UInt8}{t:JT}(h:readL l=.ok t):cost t≤1966080∧okT 65536 t∧t.size≤65536:=by
 unfold readL at h;split at h
 ·cases h
 ·rename_i hl
  dsimp only at h;split at h
  ·cases h
  ·rename_i t' n hv
   obtain⟨h0,h1,h2⟩:=valL_rok _ _ _ _ _ hv;have h3:=valL_size _ _ _ _ _ hv;rw[List.length_drop]at h0 h2;split at h
   ·cases h
   ·injection h with h;subst h
    exact⟨by omega,h2 65536 (by omega),by omega⟩
theorem insR_sum(lt:Nat→Nat→Bool)(g:Nat→Nat)(x:Nat)(l:List Nat):((insR lt x l).map g).sum=g x+(l.map g).sum:=by
 induction l with
 | nil=>simp[insR]
 | cons y r ih=>
   rw[insR];split
   ·simp only[List.map_cons,List.sum_cons,ih];omega
   ·simp
theorem sum_reverse(g:Nat→Nat)(l:List Nat):(l.reverse.map g).sum=(l.map g).sum:=by
 induction l with
 | nil=>rfl
 | cons x r ih=>simp only[List.reverse_cons,List.map_append,List.sum_append,ih,List.map_cons,List.map_nil,List.sum_cons,List.sum_nil];omega
theorem insL_sum(lt:Nat→Nat→Bool)(g:Nat→Nat)(l:List Nat)(x:Nat):((insL lt l x).map g).sum=g x+(l.map g).sum:=by
 unfold insL;rw[sum_reverse,insR_sum,sum_reverse]
theorem fold_sum(lt:Nat→Nat→Bool)(g:Nat→Nat)(l:List Nat):∀acc:List Nat,((l.foldl (insL lt) acc).map g).sum=(acc.map g).sum+(l.map g).sum:=by
 induction l with
 | nil=>intro acc;simp
 | cons x r ih=>intro acc;rw[List.foldl_cons,ih,insL_sum];simp only[List.map_cons,List.sum_cons];omega
theorem srt_sum(lt:Nat→Nat→Bool)(g:Nat→Nat)(l:List Nat):((srt lt l).map g).sum=(l.map g).sum:=by
 unfold srt;rw[fold_sum];simp
theorem bodyTo_len(f:Nat→List UInt8)(ks:List Nat):∀j,j≤ks.length→(bodyTo f ks j).length≤((ks.take j).map fun k=>(f k).length+1).sum:=by
 intro j;induction j with
 | zero=>intro _;simp[bodyTo]
 | succ j ih=>
   intro hj;have h1:=ih (by omega);have hk:ks[j]?=some ks[j]:=List.getElem?_eq_getElem (by omega);rw[bodyTo,List.take_add_one,hk,List.getD_eq_getElem?_getD,hk];simp only[List.length_append,List.map_append,List.sum_append,Option.toList_some,List.map_cons,List.map_nil,List.sum_cons,List.sum_nil,Option.getD_some];split
   ·simp only[List.length_nil];omega
   ·simp only[List.length_cons,List.length_nil];omega
theorem take_sum(g:Nat→Nat)(l:List Nat)(j:Nat):((l.take j).map g).sum≤(l.map g).sum:=by
 have h:(l.map g).sum=((l.take j).map g).sum+((l.drop j).map g).sum:=by
  rw[←List.sum_append,←List.map_append,List.take_append_drop]
 omega
theorem bodyTo_sum(f:Nat→List UInt8)(ks:List Nat)(j:Nat)(hj:j≤ks.length):(bodyTo f ks j).length≤(ks.map fun k=>(f k).length+1).sum:=
 Nat.le_trans (bodyTo_len f ks j hj) (take_sum _ _ _)
def Sub(L:List Nd)(b:Nat)(key:List UInt8)(t:JT):Prop:=∀j,j<t.size→L[b+j]?=(flat b key t)[j]?
def SubL(L:List Nd)(b:Nat)(ts:List JT):Prop:=∀j,j<sizeL ts→L[b+j]?=(flatL b ts)[j]?
def SubM(L:List Nd)(b:Nat)(ms:List (List UInt8×JT)):Prop:=∀j,j<sizeM ms→L[b+j]?=(flatM b ms)[j]?
theorem Sub.arr{L:List Nd}{b:Nat}{key:List UInt8}{ts:List JT}{i:Nat}(h:Sub L b key (.arr ts i)):SubL L (b+1) ts:=fun j hj=>by
 have:=h (j+1) (by rw[JT.size];omega);rw[flat,List.getElem?_cons_succ]at this;rw[show b+1+j=b+(j+1)by omega];exact this
theorem Sub.obj{L:List Nd}{b:Nat}{key:List UInt8}{ms:List (List UInt8×JT)}{i:Nat}(h:Sub L b key (.obj ms i)):SubM L (b+1) ms:=fun j hj=>by
 have:=h (j+1) (by rw[JT.size];omega);rw[flat,List.getElem?_cons_succ]at this;rw[show b+1+j=b+(j+1)by omega];exact this
theorem SubL.head{L:List Nd}{b:Nat}{t:JT}{r:List JT}(h:SubL L b (t::r)):Sub L b [] t:=fun j hj=>by
 have:=h j (by rw[sizeL];omega);rw[flatL,List.getElem?_append_left (by rw[flat_length];exact hj)]at this;exact this
theorem SubL.tail{L:List Nd}{b:Nat}{t:JT}{r:List JT}(h:SubL L b (t::r)):SubL L (b+t.size) r:=fun j hj=>by
 have:=h (t.size+j) (by rw[sizeL];omega);rw[flatL,List.getElem?_append_right (by rw[flat_length];omega),flat_length,Nat.add_sub_cancel_left]at this;rw[show b+t.size+j=b+(t.size+j)by omega];exact this
theorem SubM.head{L:List Nd}{b:Nat}{k:List UInt8}{t:JT}{r:List (List UInt8×JT)}(h:SubM L b ((k,t)::r)):Sub L b k t:=fun j hj=>by
 have:=h j (by rw[sizeM];omega);rw[flatM,List.getElem?_append_left (by rw[flat_length];exact hj)]at this;exact this
theorem SubM.tail{L:List Nd}{b:Nat}{k:List UInt8}{t:JT}{r:List (List UInt8×JT)}(h:SubM L b ((k,t)::r)):SubM L (b+t.size) r:=fun j hj=>by
 have:=h (t.size+j) (by rw[sizeM];omega);rw[flatM,List.getElem?_append_right (by rw[flat_length];omega),flat_length,Nat.add_sub_cancel_left]at this;rw[show b+t.size+j=b+(t.size+j)by omega];exact this
theorem Sub.first{L:List Nd}{b:Nat}{key:List UInt8}{t:JT}(h:Sub L b key t):L[b]?=(flat b key t)[0]?:=h 0 (by have:=size_pos t;omega)
theorem Sub.key{L:List Nd}{b:Nat}{key:List UInt8}{t:JT}(h:Sub L b key t):keyL L b=key:=by
 have h1:=h.first;cases t<;>(rw[flat]at h1;exact keyL_of h1)
theorem strT_len(t:List UInt8):(strT t).length≤6*t.length+2:=by
 have:=sgnsL_len t;unfold strT;simp only[List.length_append,List.length_cons,List.length_nil];omega
theorem decI_len(n:Int)(h0: -9223372036854775808≤n)(h1:n≤9223372036854775807):(decI n).length≤21:=by
 unfold decI;split
 ·have:=decN_le (n:=(-n).toNat) (by omega);simp only[List.length_cons];omega
 ·have:=decN_le (n:=n.toNat) (by omega);omega
theorem sumL(L:List Nd)(F:Nat→List UInt8)(hF:∀b key t,Sub L b key t→okT 65536 t→(F b).length≤cost t):∀(ts:List JT) (b:Nat),SubL L b ts→okL 65536 ts→((startsL b ts).map fun k=>(F k).length+1).sum≤costL ts:=by
 intro ts;induction ts with
 | nil=>intro b _ _;simp[startsL,costL]
 | cons t r ih=>
   intro b h ho;rw[okL]at ho;have h1:=hF b [] t h.head ho.1;have h2:=ih _ h.tail ho.2;rw[startsL,costL,List.map_cons,List.sum_cons];omega
theorem sumM(L:List Nd)(F:Nat→List UInt8)(hF:∀b key t,Sub L b key t→okT 65536 t→(F b).length≤cost t):∀(ms:List (List UInt8×JT)) (b:Nat),SubM L b ms→okM 65536 ms→((startsM b ms).map fun k=>(memF L F k).length+1).sum≤costM ms:=by
 intro ms;induction ms with
 | nil=>intro b _ _;simp[startsM,costM]
 | cons m r ih=>
   obtain⟨k,t⟩:=m;intro b h ho;rw[okM]at ho;have h1:=hF b k t h.head ho.2.1;have h2:=ih _ h.tail ho.2.2;have h3:=strT_len k;have h4:(memF L F b).length=(strT k).length+1+(F b).length:=by
    unfold memF;rw[h.head.key,List.length_append,List.length_cons];omega
   rw[startsM,costM,List.map_cons,List.sum_cons,h4];omega
theorem form_cost(L:List Nd):∀(f b:Nat) (key:List UInt8) (t:JT),Sub L b key t→okT 65536 t→(formN L f b).length≤cost t:=by
 intro f;induction f with
 | zero=>intro b key t _ _;simp[formN]
 | succ f ih=>
   intro b key t h ho;have h1:=h.first;cases t with
   | null i=>rw[flat]at h1;rw[formN,h1];simp[cost]
   | truth x i=>rw[flat]at h1;rw[formN,h1];cases x<;>simp[cost]
   | int n i=>rw[flat]at h1;rw[formN,h1];rw[okT]at ho;have:=decI_len n ho.1 ho.2;simp only[List.getElem?_cons_zero,cost];simpa using this
   | str s i=>rw[flat]at h1;rw[formN,h1];have:=strT_len s;simp only[List.getElem?_cons_zero,cost];simpa using this
   | arr ts i=>
     have h2:=sumL L (formN L f) (ih · · ·) ts (b+1) h.arr (by rw[okT]at ho;exact ho);rw[flat]at h1;have h3:=bodyTo_sum (formN L f) (startsL (b+1) ts) _ (Nat.le_refl _);rw[formN,h1];simp[cost];omega
   | obj ms i=>
     have h2:=sumM L (formN L f) (ih · · ·) ms (b+1) h.obj (by rw[okT]at ho;exact ho);rw[flat]at h1;have h3:=bodyTo_sum (memF L (formN L f)) (srt (ltK L) (startsM (b+1) ms)) (startsM (b+1) ms).length (Nat.le_of_eq (srt_len _ _).symm);rw[srt_sum]at h3;rw[formN,h1];simp[cost];omega
mutual
theorem sub_at(L:List Nd)(b:Nat)(key:List UInt8)(t:JT)(h:Sub L b key t)(ho:okT 65536 t):∀k,k<t.size→∃key' t',Sub L (b+k) key' t'∧okT 65536 t'∧cost t'≤cost t:=by
 intro k hk;cases k with
 | zero=>exact⟨key,t,h,ho,Nat.le_refl _⟩
 | succ k=>
   cases t with
   | null i=>rw[JT.size]at hk;omega
   | truth x i=>rw[JT.size]at hk;omega
   | int n i=>rw[JT.size]at hk;omega
   | str s i=>rw[JT.size]at hk;omega
   | arr ts i=>
     obtain⟨key',t',g1,g2,g3⟩:=subL_at L (b+1) ts h.arr (by rw[okT]at ho;exact ho) k (by rw[JT.size]at hk;omega);rw[show b+1+k=b+(k+1)by omega]at g1;exact⟨key',t',g1,g2,by rw[cost];omega⟩
   | obj ms i=>
     obtain⟨key',t',g1,g2,g3⟩:=subM_at L (b+1) ms h.obj (by rw[okT]at ho;exact ho) k (by rw[JT.size]at hk;omega);rw[show b+1+k=b+(k+1)by omega]at g1;exact⟨key',t',g1,g2,by rw[cost];omega⟩
theorem subL_at(L:List Nd)(b:Nat)(ts:List JT)(h:SubL L b ts)(ho:okL 65536 ts):∀k,k<sizeL ts→∃key' t',Sub L (b+k) key' t'∧okT 65536 t'∧cost t'≤costL ts:=by
 intro k hk;cases ts with
 | nil=>rw[sizeL]at hk;omega
 | cons t r=>
   rw[okL]at ho;by_cases hl:k<t.size
   ·obtain⟨key',t',g1,g2,g3⟩:=sub_at L b [] t h.head ho.1 k hl
    exact⟨key',t',g1,g2,by rw[costL];omega⟩
   ·obtain⟨key',t',g1,g2,g3⟩:=subL_at L (b+t.size) r h.tail ho.2 (k-t.size) (by rw[sizeL]at hk;omega)
    rw[show b+t.size+(k-t.size)=b+k by omega]at g1;exact⟨key',t',g1,g2,by rw[costL];omega⟩
theorem subM_at(L:List Nd)(b:Nat)(ms:List (List UInt8×JT))(h:SubM L b ms)(ho:okM 65536 ms):∀k,k<sizeM ms→∃key' t',Sub L (b+k) key' t'∧okT 65536 t'∧cost t'≤costM ms:=by
 intro k hk;cases ms with
 | nil=>rw[sizeM]at hk;omega
 | cons m r=>
   obtain⟨n,t⟩:=m;rw[okM]at ho;by_cases hl:k<t.size
   ·obtain⟨key',t',g1,g2,g3⟩:=sub_at L b n t h.head ho.2.1 k hl
    exact⟨key',t',g1,g2,by rw[costM];omega⟩
   ·obtain⟨key',t',g1,g2,g3⟩:=subM_at L (b+t.size) r h.tail ho.2.2 (k-t.size) (by rw[sizeM]at hk;omega)
    rw[show b+t.size+(k-t.size)=b+k by omega]at g1;exact⟨key',t',g1,g2,by rw[costM];omega⟩
end
theorem sub_self(t:JT):Sub (flat 0 [] t) 0 [] t:=fun j hj=>by rw[Nat.zero_add]
theorem short_flat(t:JT)(ho:okT 65536 t)(hc:cost t≤1966080):Short (flat 0 [] t):=by
 have hat:=sub_at (flat 0 [] t) 0 [] t (sub_self t) ho;have hlt:∀(k:Nat) (n:Nd),(flat 0 [] t)[k]?=some n→k<t.size:=fun k n hn=>by
  have:=(List.getElem?_eq_some_iff.1 hn).1;rw[flat_length]at this;exact this
 generalize hL:flat 0 [] t=L at *;refine⟨fun f k=>?_,fun f k n hn h4 j hj=>?_,fun f k n hn h5 j hj=>?_⟩
 ·cases f with
  | zero=>simp[formN]
  | succ f=>
    cases hk:L[k]? with
    | none=>rw[formN,hk];simp
    | some n=>
      obtain⟨key,t',g1,g2,g3⟩:=hat k (hlt k n hk);rw[Nat.zero_add]at g1;have:=form_cost L (f+1) k key t' g1 g2;omega
 ·obtain⟨key,t',g1,g2,g3⟩:=hat k (hlt k n hn)
  rw[Nat.zero_add]at g1;have h1:=g1.first;rw[hn]at h1;cases t' with
  | null i=>rw[flat]at h1;injection h1 with h1;subst h1;simp at h4
  | truth x i=>rw[flat]at h1;injection h1 with h1;subst h1;simp at h4
  | int n i=>rw[flat]at h1;injection h1 with h1;subst h1;simp at h4
  | str s i=>rw[flat]at h1;injection h1 with h1;subst h1;simp at h4
  | arr ts i=>
    have h2:=sumL L (formN L f) (form_cost L f) ts (k+1) g1.arr (by rw[okT]at g2;exact g2);rw[flat]at h1;injection h1 with h1;subst h1;have h3:=bodyTo_sum (formN L f) (startsL (k+1) ts) j hj;rw[cost]at g3;dsimp only;omega
  | obj ms i=>rw[flat]at h1;injection h1 with h1;subst h1;simp at h4
 ·obtain⟨key,t',g1,g2,g3⟩:=hat k (hlt k n hn)
  rw[Nat.zero_add]at g1;have h1:=g1.first;rw[hn]at h1;cases t' with
  | null i=>rw[flat]at h1;injection h1 with h1;subst h1;simp at h5
  | truth x i=>rw[flat]at h1;injection h1 with h1;subst h1;simp at h5
  | int n i=>rw[flat]at h1;injection h1 with h1;subst h1;simp at h5
  | str s i=>rw[flat]at h1;injection h1 with h1;subst h1;simp at h5
  | arr ts i=>rw[flat]at h1;injection h1 with h1;subst h1;simp at h5
  | obj ms i=>
    have h2:=sumM L (formN L f) (form_cost L f) ms (k+1) g1.obj (by rw[okT]at g2;exact g2);rw[flat]at h1;injection h1 with h1;subst h1;have h3:=bodyTo_sum (memF L (formN L f)) (srt (ltK L) (startsM (k+1) ms)) j (by rw[srt_len];exact hj);rw[srt_sum]at h3;rw[cost]at g3;dsimp only;omega
theorem read_fit{l:List UInt8}{t:JT}(h:readL l=.ok t):WFN (flat 0 [] t)∧Short (flat 0 [] t):=by
 obtain⟨h1,h2,h3⟩:=readL_rok h;exact⟨wfn_flat 65536 t h2 (by omega) (by omega),short_flat t h2 h1⟩
inductive U8:List UInt8→Prop
 | nil:U8 []
 | cons (a r:List UInt8) (h0:a≠[]) (h:seqLen a=a.length):U8 r→U8 (a++r)
theorem U8.append{a b:List UInt8}(ha:U8 a)(hb:U8 b):U8 (a++b):=by
 induction ha with
 | nil=>exact hb
 | cons x r h0 h _ ih=>rw[List.append_assoc];exact .cons x _ h0 h ih
theorem U8.one{a:List UInt8}(h0:a≠[])(h:seqLen a=a.length):U8 a:=by
 have:=U8.cons a [] h0 h .nil;rwa [List.append_nil]at this
theorem goesL_app{a r:List UInt8}{k lo hi:Nat}(h:goesL a k lo hi=true):goesL (a++r) k lo hi=true:=by
 unfold goesL at h ⊢;cases hk:a[k]? with
 | none=>rw[hk]at h;cases h
 | some c=>
   have hlt:=(List.getElem?_eq_some_iff.1 hk).1;rw[hk]at h;rw[List.getElem?_append_left hlt,hk];exact h
theorem goesL_take{l:List UInt8}{n k lo hi:Nat}(hk:k<n):goesL (l.take n) k lo hi=goesL l k lo hi:=by
 unfold goesL;rw[List.getElem?_take_of_lt hk]
theorem seqN_pos(c:Nat):2≤seqN c∧seqN c≤4:=by unfold seqN;split<;>(try split)<;>omega
theorem seqLen_app(a r:List UInt8)(h0:a≠[])(h:seqLen a=a.length):seqLen (a++r)=a.length:=by
 match a,h0 with
 | c::a',_=>
   rw[List.cons_append];unfold seqLen at h ⊢;simp only at h ⊢;by_cases h1:c.toNat<128
   ·rw[if_pos h1]at h ⊢;exact h
   ·rw[if_neg h1]at h ⊢
    by_cases h2:c.toNat<194∨244<c.toNat
    ·rw[if_pos h2]at h;simp at h
    ·rw[if_neg h2]at h ⊢
     split at h
     ·rename_i hc
      rw[if_pos,h];simp only[Bool.and_eq_true,Bool.or_eq_true]at hc ⊢;rw[←List.cons_append];exact⟨⟨goesL_app hc.1.1,hc.1.2.imp id goesL_app⟩,hc.2.imp id goesL_app⟩
     ·simp at h
theorem seqLen_take(l:List UInt8)(h:seqLen l≠0):seqLen (l.take (seqLen l))=seqLen l∧seqLen l≤l.length:=by
 match l with
 | []=>exact absurd rfl h
 | c::r=>
   generalize hq:seqLen (c::r)=q at h ⊢;have hq':=hq;unfold seqLen at hq;simp only at hq;by_cases h1:c.toNat<128
   ·rw[if_pos h1]at hq
    subst hq;refine⟨?_,by simp⟩;simp[seqLen,h1]
   ·rw[if_neg h1]at hq
    by_cases h2:c.toNat<194∨244<c.toNat
    ·rw[if_pos h2]at hq;omega
    ·rw[if_neg h2]at hq
     split at hq
     ·rename_i hc
      have hc0:=hc;simp only[Bool.and_eq_true,Bool.or_eq_true,decide_eq_true_eq]at hc;have hp:=seqN_pos c.toNat;have hg:∀{k lo hi:Nat},goesL (c::r) k lo hi=true→k<(c::r).length:=by
       intro k lo hi hh;unfold goesL at hh;split at hh
       ·rename_i x hx;exact(List.getElem?_eq_some_iff.1 hx).1
       ·cases hh
      have hlen:q≤(c::r).length:=by
       have a1:=hg hc.1.1;rcases hc.1.2 with a2|a2
       ·omega
       ·have a2:=hg a2
        rcases hc.2 with a3|a3
        ·omega
        ·have a3:=hg a3;omega
      refine⟨?_,hlen⟩;have ht:(c::r).take q=c::r.take (q-1):=by
       obtain⟨q',rfl⟩:∃q',q=q'+1:=⟨q-1,by omega⟩;simp
      rw[ht];unfold seqLen;simp only;rw[if_neg h1,if_neg h2,←ht,if_pos,hq];simp only[Bool.and_eq_true,Bool.or_eq_true,decide_eq_true_eq];refine⟨⟨?_,?_⟩,?_⟩
      ·rw[goesL_take (by omega)];exact hc.1.1
      ·by_cases h3:seqN c.toNat≤2
       ·exact .inl h3
       ·rw[goesL_take (by omega)];exact hc.1.2
      ·by_cases h3:seqN c.toNat≤3
       ·exact .inl h3
       ·rw[goesL_take (by omega)];exact hc.2
     ·omega
theorem ofNat_toNat(n:Nat)(h:n<256):(UInt8.ofNat n).toNat=n:=by simp;omega
theorem goesL0{l:List UInt8}{k lo hi:Nat}(c:UInt8)(h:l[k]?=some c):goesL l k lo hi=(decide (lo≤c.toNat)&&decide (c.toNat≤hi)):=by unfold goesL;rw[h]
theorem wr8_u8(n:Nat)(h:n<55296∨57343<n)(h1:n<1114112):U8 (wr8 n):=by
 have hne:wr8 n≠[]:=by unfold wr8;repeat' split
                       all_goals simp
 refine .one hne ?_;unfold wr8;split
 ·unfold seqLen;simp only;rw[ofNat_toNat _ (by omega),if_pos (by omega)];rfl
 ·split
  ·unfold seqLen;simp only
   rw[goesL0 (k:=1) (UInt8.ofNat (128+n%64)) rfl];rw[ofNat_toNat _ (by omega),ofNat_toNat _ (by omega)];rw[if_neg (by omega),if_neg (by omega)];have e1:seqN (192+n/64)=2:=by unfold seqN;rw[if_pos (by omega)]
   have e2:seqLo (192+n/64)=128:=by unfold seqLo;rw[if_neg (by omega),if_neg (by omega)]
   have e3:seqHi (192+n/64)=191:=by unfold seqHi;rw[if_neg (by omega),if_neg (by omega)]
   rw[e1,e2,e3];rw[if_pos (by simp;omega)];rfl
  ·split
   ·unfold seqLen;simp only
    rw[goesL0 (k:=1) (UInt8.ofNat (128+n/64%64)) rfl,goesL0 (k:=2) (UInt8.ofNat (128+n%64)) rfl];rw[ofNat_toNat _ (by omega),ofNat_toNat _ (by omega),ofNat_toNat _ (by omega)];rw[if_neg (by omega),if_neg (by omega)];have e1:seqN (224+n/4096)=3:=by unfold seqN;rw[if_neg (by omega),if_pos (by omega)]
    have e2:seqLo (224+n/4096)≤128+n/64%64:=by unfold seqLo;repeat' split
                                               all_goals omega
    have e3:128+n/64%64≤seqHi (224+n/4096):=by unfold seqHi;repeat' split
                                               all_goals omega
    rw[e1,if_pos (by simp[e2,e3];omega)];rfl
   ·unfold seqLen;simp only
    rw[goesL0 (k:=1) (UInt8.ofNat (128+n/4096%64)) rfl,goesL0 (k:=2) (UInt8.ofNat (128+n/64%64)) rfl,goesL0 (k:=3) (UInt8.ofNat (128+n%64)) rfl];rw[ofNat_toNat _ (by omega),ofNat_toNat _ (by omega),ofNat_toNat _ (by omega),ofNat_toNat _ (by omega)];rw[if_neg (by omega),if_neg (by omega)];have e1:seqN (240+n/262144)=4:=by unfold seqN;rw[if_neg (by omega),if_neg (by omega)]
    have e2:seqLo (240+n/262144)≤128+n/4096%64:=by unfold seqLo;repeat' split
                                                   all_goals omega
    have e3:128+n/4096%64≤seqHi (240+n/262144):=by unfold seqHi;repeat' split
                                                   all_goals omega
    rw[e1,if_pos (by simp[e2,e3];omega)];rfl
theorem escL_u8{l t:List UInt8}{n:Nat}(h:escL l=.ok (t,n)):U8 t:=by
 unfold escL at h;split at h
 ·rename_i a c r
  split at h
  ·rename_i b hb
   injection h with h;injection h with h1 h2;subst h1;refine .one (by simp) ?_;have:b.toNat<128:=by
    unfold esc1 at hb;repeat' split at hb
    ·rename_i hc;injection hb with hb;subst hb;rcases hc with rfl|rfl|rfl<;>decide
    all_goals first|(injection hb with hb;subst hb;decide)|cases hb
   unfold seqLen;simp only;rw[if_pos this];rfl
  ·split at h
   ·split at h
    ·cases h
    ·rename_i m o h4
     have hm:=(four4_some h4).2;unfold pairL at h;split at h
     ·rename_i hs
      injection h with h;injection h with h1 h2;subst h1;exact wr8_u8 m hs (by omega)
     ·rename_i hs
      split at h
      ·cases h
      ·rename_i m' hl
       have hlow:56320≤m'∧m'≤57343:=by
        unfold lowL at hl;repeat' split at hl
        all_goals first|(cases hl;assumption)|cases hl
       split at h
       ·cases h
       ·injection h with h;injection h with h1 h2;subst h1
        exact wr8_u8 _ (.inr (by omega)) (by omega)
   ·cases h
 ·cases h
theorem strF_u8:∀(f:Nat) (l t:List UInt8) (n:Nat),strF f l=.ok (t,n)→U8 t:=by
 intro f;induction f with
 | zero=>intro l t n h;simp[strF]at h
 | succ f ih=>
   intro l t n h;match l with
   | []=>simp[strF]at h
   | c::r=>
     rw[strF]at h;have key:∀(acc:List UInt8) (k:Nat),U8 acc→shiftS acc k (strF f ((c::r).drop k))=.ok (t,n)→U8 t:=by
      intro acc k ha hh;generalize (c::r)=L at *;cases hs:strF f (L.drop k)with
      | error o=>rw[hs]at hh;simp[shiftS]at hh
      | ok q=>
        obtain⟨t',n'⟩:=q;have:=ih _ _ _ hs;rw[hs,shiftS]at hh;injection hh with hh;injection hh with h1 h2;subst h1;exact ha.append this
     split at h
     ·injection h with h;injection h with h1 h2;subst h1;exact .nil
     ·split at h
      ·cases h
      ·split at h
       ·split at h
        ·cases h
        ·rename_i t' n' he
         exact key t' n' (escL_u8 he) h
       ·split at h
        ·cases h
        ·rename_i hs
         have h9:=seqLen_take (c::r) hs;refine key _ _ (.one ?_ ?_) h
         ·intro e
          have:=congrArg List.length e;rw[List.length_take]at this;simp at this;omega
         ·rw[h9.1,List.length_take];omega
theorem quotL_u8{l t:List UInt8}{n:Nat}(h:quotL l=.ok (t,n)):U8 t:=by
 unfold quotL at h;split at h
 ·split at h
  ·split at h
   ·rename_i t' n' hs
    have:=strF_u8 _ _ _ _ hs;injection h with h;injection h with h1 h2;subst h1;exact this
   ·cases h
  ·cases h
 ·cases h
mutual
def okN:JT→Prop
 | .null _=>True
 | .truth _ _=>True
 | .int _ _=>True
 | .str _ _=>True
 | .arr ts _=>okNL ts
 | .obj ms _=>okNM ms∧(ms.map Prod.fst).Pairwise (fun a b=>a≠b)
def okNL:List JT→Prop
 | []=>True
 | t::r=>okN t∧okNL r
def okNM:List (List UInt8×JT)→Prop
 | []=>True
 | (k,t)::r=>U8 k∧okN t∧okNM r
end
theorem arrF_okn(v:List UInt8→Nat→JR JT)(hv:∀l i t n,v l i=.ok (t,n)→okN t):∀(f:Nat) (l:List UInt8) (i:Nat) (ts:List JT) (k:Nat),arrF v f l i=.ok (ts,k)→okNL ts:=by
 intro f;induction f with
 | zero=>intro l i ts k h;simp[arrF]at h
 | succ f ih=>
   intro l i ts k h;rw[arrF]at h;dsimp only at h;split at h
   ·cases h
   ·rename_i t n hvt
    have h0:=hv _ _ _ _ hvt;split at h
    ·split at h
     ·split at h
      ·cases h
      ·rename_i ts' k' hr
       have g:=ih _ _ _ _ hr;injection h with h;injection h with h1 h2;subst h1;rw[okNL];exact⟨h0,g⟩
     ·split at h
      ·injection h with h;injection h with h1 h2;subst h1
       rw[okNL,okNL];exact⟨h0,trivial⟩
      ·cases h
    ·cases h
theorem objF_okn(v:List UInt8→Nat→JR JT)(hv:∀l i t n,v l i=.ok (t,n)→okN t):∀(f:Nat) (ks:List (List UInt8)) (l:List UInt8) (i:Nat) (ms:List (List UInt8×JT)) (k:Nat),objF v f ks l i=.ok (ms,k)→okNM ms∧(ms.map Prod.fst).Pairwise (fun a b=>a≠b)∧∀x∈ms.map Prod.fst,x∉ks:=by
 intro f;induction f with
 | zero=>intro ks l i ts k h;simp[objF]at h
 | succ f ih=>
   intro ks l i ms k h;rw[objF]at h;dsimp only at h;split at h
   ·cases h
   ·rename_i name m hq
    have hu:=quotL_u8 hq;split at h
    ·cases h
    ·rename_i hks
     split at h
     ·split at h
      ·split at h
       ·cases h
       ·rename_i t n hvt
        have h0:=hv _ _ _ _ hvt;split at h
        ·split at h
         ·split at h
          ·cases h
          ·rename_i ms' k' hr
           obtain⟨g0,g1,g2⟩:=ih _ _ _ _ _ hr;injection h with h;injection h with h1 h2;subst h1;refine⟨by rw[okNM];exact⟨hu,h0,g0⟩,?_,?_⟩
           ·rw[List.map_cons,List.pairwise_cons]
            refine⟨fun x hx e=>?_,g1⟩;have:=g2 x hx;apply this;rw[←e];simp
           ·intro x hx
            rw[List.map_cons]at hx;rcases List.mem_cons.1 hx with rfl|hx
            ·exact hks
            ·intro hk;exact g2 x hx (by simp[hk])
         ·split at h
          ·injection h with h;injection h with h1 h2;subst h1
           refine⟨by rw[okNM,okNM];exact⟨hu,h0,trivial⟩,by simp,?_⟩;intro x hx;simp only[List.map_cons,List.map_nil,List.mem_singleton]at hx;rw[hx];exact hks
          ·cases h
        ·cases h
      ·cases h
     ·cases h
theorem arrL_okn(v:List UInt8→Nat→JR JT)(hv:∀l i t n,v l i=.ok (t,n)→okN t)(l:List UInt8)(i:Nat)(t:JT)(n:Nat)(h:arrL v l i=.ok (t,n)):okN t:=by
 unfold arrL at h;dsimp only at h;split at h
 ·injection h with h;injection h with h1 h2;subst h1;simp[okN,okNL]
 ·split at h
  ·cases h
  ·rename_i ts k hr
   have g:=arrF_okn v hv _ _ _ _ _ hr;injection h with h;injection h with h1 h2;subst h1;rw[okN];exact g
theorem objL_okn(v:List UInt8→Nat→JR JT)(hv:∀l i t n,v l i=.ok (t,n)→okN t)(l:List UInt8)(i:Nat)(t:JT)(n:Nat)(h:objL v l i=.ok (t,n)):okN t:=by
 unfold objL at h;dsimp only at h;split at h
 ·injection h with h;injection h with h1 h2;subst h1;simp[okN,okNM]
 ·split at h
  ·cases h
  ·rename_i ms k hr
   obtain⟨g0,g1,_⟩:=objF_okn v hv _ _ _ _ _ _ hr;injection h with h;injection h with h1 h2;subst h1;rw[okN];exact⟨g0,g1⟩
theorem wordL_okn{l:List UInt8}{i n:Nat}{t:JT}(h:wordL l i=.ok (t,n)):okN t:=by
 unfold wordL at h;dsimp only at h;repeat' split at h
 all_goals first|(cases h;simp[okN];done)|cases h
theorem valL_okn:∀(d:Nat) (l:List UInt8) (i:Nat) (t:JT) (n:Nat),valL d l i=.ok (t,n)→okN t:=by
 intro d;induction d with
 | zero=>
   intro l i t n h;match l with
   | []=>rw[valL_nil]at h;cases h
   | c::r=>
     rw[valL_cons]at h;generalize (c::r)=L at *;split at h
     ·split at h
      ·cases h
      ·injection h with h;injection h with h1 h2;subst h1;simp[okN]
     ·split at h
      ·split at h
       ·cases h
       ·injection h with h;injection h with h1 h2;subst h1;simp[okN]
      ·split at h
       ·exact wordL_okn h
       ·split at h<;>cases h
 | succ d ih=>
   intro l i t n h;match l with
   | []=>rw[valL_nil]at h;cases h
   | c::r=>
     rw[valL_cons]at h;generalize (c::r)=L at *;split at h
     ·split at h
      ·cases h
      ·injection h with h;injection h with h1 h2;subst h1;simp[okN]
     ·split at h
      ·split at h
       ·cases h
       ·injection h with h;injection h with h1 h2;subst h1;simp[okN]
      ·split at h
       ·exact wordL_okn h
       ·split at h
        ·dsimp only at h
         split at h
         ·exact arrL_okn _ ih _ _ _ _ h
         ·exact objL_okn _ ih _ _ _ _ h
        ·cases h
theorem readL_okn{l:List UInt8}{t:JT}(h:readL l=.ok t):okN t:=by
 unfold readL at h;split at h
 ·cases h
 ·dsimp only at h
  split at h
  ·cases h
  ·rename_i t' n hv
   have:=valL_okn _ _ _ _ _ hv;split at h
   ·cases h
   ·injection h with h;subst h;exact this
def NamesOk(L:List Nd):Prop:=∀(k:Nat) (n:Nd),L[k]?=some n→n.kind=5→(∀c∈n.kids,U8 (keyL L c))∧n.kids.Pairwise (fun a b=>keyL L a≠keyL L b)
theorem keys_of(L:List Nd):∀(ms:List (List UInt8×JT)) (b:Nat),SubM L b ms→(startsM b ms).map (keyL L)=ms.map Prod.fst
 | [],b,h=>rfl
 | (k,t)::r,b,h=>by
   rw[startsM,List.map_cons,List.map_cons,h.head.key,keys_of L r _ h.tail]
theorem u8_of:∀(ms:List (List UInt8×JT)),okNM ms→∀x∈ms.map Prod.fst,U8 x
 | [],_,x,hx=>by simp at hx
 | (k,t)::r,h,x,hx=>by
   rw[okNM]at h;rw[List.map_cons]at hx;rcases List.mem_cons.1 hx with rfl|hx
   ·exact h.1
   ·exact u8_of r h.2.2 x hx
def NameAt(L:List Nd)(k:Nat):Prop:=∀n,L[k]?=some n→n.kind=5→(∀c∈n.kids,U8 (keyL L c))∧n.kids.Pairwise (fun a b=>keyL L a≠keyL L b)
mutual
theorem name_sub(L:List Nd):∀(t:JT) (b:Nat) (key:List UInt8),Sub L b key t→okN t→∀j,j<t.size→NameAt L (b+j)
 | .null i,b,key,h,ho,j,hj=>fun n hn hk=>by
   have h1:j=0:=by simp[JT.size]at hj;omega
   subst h1;rw[h 0 hj]at hn;simp[flat]at hn;subst hn;simp at hk
 | .truth x i,b,key,h,ho,j,hj=>fun n hn hk=>by
   have h1:j=0:=by simp[JT.size]at hj;omega
   subst h1;rw[h 0 hj]at hn;simp[flat]at hn;subst hn;simp at hk
 | .int x i,b,key,h,ho,j,hj=>fun n hn hk=>by
   have h1:j=0:=by simp[JT.size]at hj;omega
   subst h1;rw[h 0 hj]at hn;simp[flat]at hn;subst hn;simp at hk
 | .str x i,b,key,h,ho,j,hj=>fun n hn hk=>by
   have h1:j=0:=by simp[JT.size]at hj;omega
   subst h1;rw[h 0 hj]at hn;simp[flat]at hn;subst hn;simp at hk
 | .arr ts i,b,key,h,ho,j,hj=>by
   match j with
   | 0=>intro n hn hk;rw[h 0 hj]at hn;simp[flat]at hn;subst hn;simp at hk
   | j+1=>
     rw[okN]at ho;have:=nameL_sub L ts (b+1) h.arr ho j (by simp[JT.size]at hj;omega);rwa [show b+(j+1)=b+1+j by omega]
 | .obj ms i,b,key,h,ho,j,hj=>by
   rw[okN]at ho;match j with
   | 0=>
     intro n hn hk;rw[h 0 hj]at hn;simp[flat]at hn;subst hn;simp only;have hkk:=keys_of L ms (b+1) h.obj;refine⟨fun c hc=>?_,?_⟩
     ·refine u8_of ms ho.1 _ ?_
      rw[←hkk];exact List.mem_map_of_mem hc
     ·have:=ho.2
      rw[←hkk]at this;exact List.pairwise_map.1 this
   | j+1=>
     have:=nameM_sub L ms (b+1) h.obj ho.1 j (by simp[JT.size]at hj;omega);rwa [show b+(j+1)=b+1+j by omega]
theorem nameL_sub(L:List Nd):∀(ts:List JT) (b:Nat),SubL L b ts→okNL ts→∀j,j<sizeL ts→NameAt L (b+j)
 | [],b,h,ho,j,hj=>by simp[sizeL]at hj
 | t::r,b,h,ho,j,hj=>by
   rw[okNL]at ho;by_cases h1:j<t.size
   ·exact name_sub L t b [] h.head ho.1 j h1
   ·have:=nameL_sub L r (b+t.size) h.tail ho.2 (j-t.size) (by simp[sizeL]at hj;omega)
    rwa [show b+t.size+(j-t.size)=b+j by omega]at this
theorem nameM_sub(L:List Nd):∀(ms:List (List UInt8×JT)) (b:Nat),SubM L b ms→okNM ms→∀j,j<sizeM ms→NameAt L (b+j)
 | [],b,h,ho,j,hj=>by simp[sizeM]at hj
 | (k,t)::r,b,h,ho,j,hj=>by
   rw[okNM]at ho;by_cases h1:j<t.size
   ·exact name_sub L t b k h.head ho.2.1 j h1
   ·have:=nameM_sub L r (b+t.size) h.tail ho.2.2 (j-t.size) (by simp[sizeM]at hj;omega)
    rwa [show b+t.size+(j-t.size)=b+j by omega]at this
end
theorem names_flat{t:JT}(h:okN t):NamesOk (flat 0 [] t):=by
 intro k n hn hk;have hlt:k<t.size:=by have:=(List.getElem?_eq_some_iff.1 hn).1;rwa [flat_length]at this
 have:=name_sub (flat 0 [] t) t 0 [] (fun j hj=>by rw[Nat.zero_add]) h k hlt;rw[Nat.zero_add]at this;exact this n hn hk
theorem getD_app(a r:List UInt8)(k:Nat)(h:k<a.length):(a++r).getD k 0=a.getD k 0:=by
 rw[List.getD_eq_getElem?_getD,List.getD_eq_getElem?_getD,List.getElem?_append_left h]
theorem runeTo_app(a r:List UInt8)(n:Nat):∀k,k<a.length→runeTo (a++r) n k=runeTo a n k:=by
 intro k;induction k with
 | zero=>intro h;simp only[runeTo];rw[getD_app a r 0 h]
 | succ k ih=>intro h;simp only[runeTo];rw[ih (by omega),getD_app a r _ h]
theorem stepL_app(a r:List UInt8)(h0:a≠[])(h:seqLen a=a.length):stepL (a++r)=a.length∧stepL a=a.length:=by
 have hp:=List.length_pos_iff.2 h0;unfold stepL;rw[seqLen_app a r h0 h,h,if_neg (by omega)];exact⟨rfl,rfl⟩
theorem runeL_app(a r:List UInt8)(h0:a≠[])(h:seqLen a=a.length):runeL (a++r)=runeL a:=by
 have hp:=List.length_pos_iff.2 h0;unfold runeL;rw[(stepL_app a r h0 h).1,(stepL_app a r h0 h).2,runeTo_app a r _ _ (by omega)]
theorem unitsL_app(a r:List UInt8)(h0:a≠[])(h:seqLen a=a.length):unitsL (a++r)=unitR (runeL a)++unitsL r:=by
 rw[unitsL_step _ (by simp[h0]),runeL_app a r h0 h,(stepL_app a r h0 h).1,List.drop_left' rfl]
theorem u8_ext(x:Nat)(b:UInt8)(h:x=b.toNat):UInt8.ofNat x=b:=by subst h;simp
theorem rune_seq(a:List UInt8)(h0:a≠[])(h:seqLen a=a.length):wr8 (runeL a)=a∧(runeL a<55296∨57343<runeL a)∧runeL a<1114112:=by
 have hst:=(stepL_app a [] h0 h).2;unfold runeL;rw[hst];match a,h0 with
 | c::a',_=>
   have hc:=c.toNat_lt;unfold seqLen at h;simp only at h;by_cases h1:c.toNat<128
   ·rw[if_pos h1]at h
    simp at h;subst h;have e1:runeTo [c] [c].length ([c].length-1)=c.toNat:=by simp[runeTo]
    rw[e1];refine⟨?_,by omega,by omega⟩;unfold wr8;rw[if_pos h1,u8_ext _ c rfl]
   ·rw[if_neg h1]at h
    by_cases h2:c.toNat<194∨244<c.toNat
    ·rw[if_pos h2]at h;simp at h
    ·rw[if_neg h2]at h
     split at h
     ·rename_i hg
      simp only[Bool.and_eq_true,Bool.or_eq_true,decide_eq_true_eq]at hg;obtain⟨⟨g1,g2⟩,g3⟩:=hg;by_cases h3:c.toNat<224
      ·have e:seqN c.toNat=2:=by unfold seqN;rw[if_pos h3]
       have hl:seqLo c.toNat=128:=by unfold seqLo;rw[if_neg (by omega),if_neg (by omega)]
       have hh:seqHi c.toNat=191:=by unfold seqHi;rw[if_neg (by omega),if_neg (by omega)]
       rw[e]at h;rw[hl,hh]at g1;match a',h with
       | [d],_=>
         rw[goesL0 d rfl]at g1;simp only[Bool.and_eq_true,decide_eq_true_eq]at g1;simp only[List.length_cons,List.length_nil,runeTo,Nat.zero_add,Nat.reduceAdd,Nat.reduceSub,List.getD_cons_zero,List.getD_cons_succ,Nat.reducePow,Nat.reduceLeDiff,if_false];refine⟨?_,by omega,by omega⟩;unfold wr8;rw[if_neg (by omega),if_pos (by omega),u8_ext _ c (by omega),u8_ext _ d (by omega)]
      ·by_cases h4:c.toNat<240
       ·have e:seqN c.toNat=3:=by unfold seqN;rw[if_neg h3,if_pos h4]
        rw[e]at h g2;match a',h with
        | [d,e2],_=>
          rw[goesL0 d rfl]at g1;rw[goesL0 e2 rfl]at g2;simp only[Bool.and_eq_true,decide_eq_true_eq]at g1 g2;have g2':128≤e2.toNat∧e2.toNat≤191:=g2.resolve_left (by omega);have gl:128≤d.toNat∧d.toNat≤191∧(c.toNat=224→160≤d.toNat)∧(c.toNat=237→d.toNat≤159):=by
           unfold seqLo seqHi at g1;obtain⟨p1,p2⟩:=g1;repeat' split at p1
           all_goals repeat' split at p2
           all_goals refine⟨?_,?_,?_,?_⟩
           all_goals omega
          simp only[List.length_cons,List.length_nil,runeTo,Nat.zero_add,Nat.reduceAdd,Nat.reduceSub,List.getD_cons_zero,List.getD_cons_succ,Nat.reducePow,Nat.reduceLeDiff,if_false];refine⟨?_,by omega,by omega⟩;unfold wr8;rw[if_neg (by omega),if_neg (by omega),if_pos (by omega),u8_ext _ c (by omega),u8_ext _ d (by omega),u8_ext _ e2 (by omega)]
       ·have e:seqN c.toNat=4:=by unfold seqN;rw[if_neg h3,if_neg h4]
        rw[e]at h g2 g3;match a',h with
        | [d,e2,f2],_=>
          rw[goesL0 d rfl]at g1;rw[goesL0 e2 rfl]at g2;rw[goesL0 f2 rfl]at g3;simp only[Bool.and_eq_true,decide_eq_true_eq]at g1 g2 g3;have g2':128≤e2.toNat∧e2.toNat≤191:=g2.resolve_left (by omega);have g3':128≤f2.toNat∧f2.toNat≤191:=g3.resolve_left (by omega);have gl:128≤d.toNat∧d.toNat≤191∧(c.toNat=240→144≤d.toNat)∧(c.toNat=244→d.toNat≤143):=by
           unfold seqLo seqHi at g1;obtain⟨p1,p2⟩:=g1;repeat' split at p1
           all_goals repeat' split at p2
           all_goals refine⟨?_,?_,?_,?_⟩
           all_goals omega
          simp only[List.length_cons,List.length_nil,runeTo,Nat.zero_add,Nat.reduceAdd,Nat.reduceSub,List.getD_cons_zero,List.getD_cons_succ,Nat.reducePow,Nat.reduceLeDiff,if_false];refine⟨?_,by omega,by omega⟩;unfold wr8;rw[if_neg (by omega),if_neg (by omega),if_neg (by omega),u8_ext _ c (by omega),u8_ext _ d (by omega),u8_ext _ e2 (by omega),u8_ext _ f2 (by omega)]
     ·simp at h
theorem unitR_inj(x y:Nat)(r s:List Nat)(hx:(x<55296∨57343<x)∧x<1114112)(hy:(y<55296∨57343<y)∧y<1114112)(h:unitR x++r=unitR y++s):x=y∧r=s:=by
 unfold unitR at h;by_cases h1:x<65536
 ·rw[if_pos h1]at h
  by_cases h2:y<65536
  ·rw[if_pos h2]at h
   simp at h;exact h
  ·rw[if_neg h2]at h
   simp at h;omega
 ·rw[if_neg h1]at h
  by_cases h2:y<65536
  ·rw[if_pos h2]at h
   simp at h;omega
  ·rw[if_neg h2]at h
   simp at h;refine⟨by omega,h.2.2⟩
theorem units_inj{a:List UInt8}(ha:U8 a):∀{b:List UInt8},U8 b→unitsL a=unitsL b→a=b:=by
 induction ha with
 | nil=>
   intro b hb h;cases hb with
   | nil=>rfl
   | cons x r h0 hx hr=>
     rw[unitsL_nil,unitsL_app x r h0 hx]at h;have h9:=congrArg List.length h;have hp:=unitR_pos (runeL x);rw[List.length_append,List.length_nil]at h9;omega
 | cons x r h0 hx _ ih=>
   intro b hb h;cases hb with
   | nil=>
     rw[unitsL_nil,unitsL_app x r h0 hx]at h;have h9:=congrArg List.length h;have hp:=unitR_pos (runeL x);rw[List.length_append,List.length_nil]at h9;omega
   | cons y s g0 hy hs=>
     rw[unitsL_app x r h0 hx,unitsL_app y s g0 hy]at h;have p1:=rune_seq x h0 hx;have p2:=rune_seq y g0 hy;obtain⟨e1,e2⟩:=unitR_inj _ _ _ _ p1.2 p2.2 h;rw[ih hs e2,←p1.1,←p2.1,e1]
theorem aheadU_irr:∀a:List Nat,aheadU a a=false
 | []=>rfl
 | x::r=>by rw[aheadU,if_pos rfl];exact aheadU_irr r
theorem aheadU_tot:∀a b:List Nat,a≠b→aheadU a b=false→aheadU b a=true
 | [],[],h,_=>absurd rfl h
 | [],y::s,_,h=>by simp[aheadU]at h
 | x::r,[],_,_=>by simp[aheadU]
 | x::r,y::s,h,h1=>by
   rw[aheadU]at h1 ⊢;by_cases e:x=y
   ·subst e
    rw[if_pos rfl]at h1 ⊢;exact aheadU_tot r s (fun e=>h (by rw[e])) h1
   ·rw[if_neg e]at h1
    rw[if_neg (Ne.symm e)];simp at h1 ⊢;omega
theorem aheadU_asym:∀a b:List Nat,aheadU a b=true→aheadU b a=false
 | [],[],h=>by simp[aheadU]at h
 | [],y::s,_=>by simp[aheadU]
 | x::r,[],h=>by simp[aheadU]at h
 | x::r,y::s,h=>by
   rw[aheadU]at h ⊢;by_cases e:x=y
   ·subst e
    rw[if_pos rfl]at h ⊢;exact aheadU_asym r s h
   ·rw[if_neg e]at h
    rw[if_neg (Ne.symm e)];simp at h ⊢;omega
theorem aheadU_trans:∀a b c:List Nat,aheadU a b=true→aheadU b c=true→aheadU a c=true
 | _,[],[],_,h2=>by simp[aheadU]at h2
 | [],[],_::_,_,_=>by simp[aheadU]
 | _::_,[],_::_,h1,_=>by simp[aheadU]at h1
 | _,_::_,[],_,h2=>by simp[aheadU]at h2
 | [],_::_,_::_,_,_=>by simp[aheadU]
 | x::r,y::s,z::t,h1,h2=>by
   rw[aheadU]at h1 h2 ⊢;by_cases e1:x=y
   ·subst e1
    rw[if_pos rfl]at h1;by_cases e2:x=z
    ·subst e2
     rw[if_pos rfl]at h2 ⊢;exact aheadU_trans r s t h1 h2
    ·rw[if_neg e2]at h2 ⊢;exact h2
   ·rw[if_neg e1]at h1
    by_cases e2:y=z
    ·subst e2
     rw[if_neg e1];exact h1
    ·rw[if_neg e2]at h2
     simp at h1 h2;rw[if_neg (by omega)];simp;omega
theorem insR_perm(lt:Nat→Nat→Bool)(x:Nat)(l:List Nat):(insR lt x l).Perm (x::l):=by
 induction l with
 | nil=>exact .refl _
 | cons y r ih=>
   simp only[insR];split
   ·exact(List.Perm.cons y ih).trans (.swap x y r)
   ·exact .refl _
theorem insL_perm(lt:Nat→Nat→Bool)(l:List Nat)(x:Nat):(insL lt l x).Perm (x::l):=by
 unfold insL;exact(List.reverse_perm _).trans ((insR_perm lt x _).trans (List.Perm.cons x (List.reverse_perm l)))
theorem fold_perm(lt:Nat→Nat→Bool)(l:List Nat):∀acc,(l.foldl (insL lt) acc).Perm (l++acc):=by
 induction l with
 | nil=>intro acc;exact .refl _
 | cons x r ih=>
   intro acc;rw[List.foldl_cons];refine(ih _).trans ?_;refine(List.Perm.append_left r (insL_perm lt acc x)).trans ?_;exact List.perm_middle
theorem srt_perm(lt:Nat→Nat→Bool)(l:List Nat):(srt lt l).Perm l:=by
 have:=fold_perm lt l [];rwa [List.append_nil]at this
theorem insR_desc(lt:Nat→Nat→Bool)(hT:∀a b c,lt a b=true→lt b c=true→lt a c=true)(x:Nat)(l:List Nat)(hd:∀y∈l,lt x y=false→lt y x=true)(h:l.Pairwise (fun a b=>lt b a=true)):(insR lt x l).Pairwise (fun a b=>lt b a=true):=by
 induction l with
 | nil=>simp[insR]
 | cons y r ih=>
   rw[List.pairwise_cons]at h;simp only[insR];split
   ·rename_i hlt
    rw[List.pairwise_cons];refine⟨fun b hb=>?_,ih (fun z hz=>hd z (List.mem_cons_of_mem _ hz)) h.2⟩;rcases insR_mem lt x r b hb with rfl|hb
    ·exact hlt
    ·exact h.1 b hb
   ·rename_i hlt
    have hyx:=hd y (by simp) (by simpa using hlt);rw[List.pairwise_cons,List.pairwise_cons];refine⟨fun b hb=>?_,h.1,h.2⟩;rcases List.mem_cons.1 hb with rfl|hb
    ·exact hyx
    ·exact hT _ _ _ (h.1 b hb) hyx
theorem fold_sorted(lt:Nat→Nat→Bool)(hT:∀a b c,lt a b=true→lt b c=true→lt a c=true)(l:List Nat):∀acc:List Nat,(l++acc).Pairwise (fun a b=>lt a b=true∨lt b a=true)→acc.Pairwise (fun a b=>lt a b=true)→(l.foldl (insL lt) acc).Pairwise (fun a b=>lt a b=true):=by
 induction l with
 | nil=>intro acc _ h;exact h
 | cons x r ih=>
   intro acc hd h;rw[List.foldl_cons];rw[List.cons_append,List.pairwise_cons]at hd;refine ih _ ?_ ?_
   ·refine List.Pairwise.perm (l:=x::(r++acc)) ?_ ?_ (fun {a b} h=>h.symm)
    ·rw[List.pairwise_cons];exact hd
    ·exact(List.perm_middle.symm).trans (List.Perm.append_left r (insL_perm lt acc x).symm)
   ·unfold insL
    rw[List.pairwise_reverse];refine insR_desc lt hT x _ (fun y hy hf=>?_) ?_
    ·rcases hd.1 y (by simp at hy;simp[hy])with e|e
     ·rw[e]at hf;cases hf
     ·exact e
    ·rw[List.pairwise_reverse];exact h
theorem srt_only(lt:Nat→Nat→Bool)(hT:∀a b c,lt a b=true→lt b c=true→lt a c=true)(hA:∀a b,lt a b=true→lt b a=false)(ks xs:List Nat)(hd:ks.Pairwise (fun a b=>lt a b=true∨lt b a=true))(hp:xs.Perm ks)(hs:xs.Pairwise (fun a b=>lt b a=false)):xs=srt lt ks:=by
 have hdx:xs.Pairwise (fun a b=>lt a b=true∨lt b a=true):=List.Pairwise.perm hd hp.symm (fun {a b} h=>h.symm);have hx:xs.Pairwise (fun a b=>lt a b=true):=by
  refine(hdx.and hs).imp ?_;rintro a b ⟨h1|h1,h2⟩
  ·exact h1
  ·rw[h1]at h2;cases h2
 have hs2:(srt lt ks).Pairwise (fun a b=>lt a b=true):=fold_sorted lt hT ks [] (by rw[List.append_nil];exact hd) .nil;refine List.Perm.eq_of_pairwise (le:=fun a b=>lt a b=true) ?_ hx hs2 (hp.trans (srt_perm lt ks).symm);intro a b _ _ h1 h2;rw[hA a b h1]at h2;cases h2
theorem ltK_facts(L:List Nd):(∀a b c,ltK L a b=true→ltK L b c=true→ltK L a c=true)∧(∀a b,ltK L a b=true→ltK L b a=false):=
 ⟨fun a b c h1 h2=>aheadU_trans _ _ _ h1 h2,fun a b h=>aheadU_asym _ _ h⟩
theorem ltK_apart(L:List Nd)(ks:List Nat)(hu:∀c∈ks,U8 (keyL L c))(hd:ks.Pairwise (fun a b=>keyL L a≠keyL L b)):ks.Pairwise (fun a b=>ltK L a b=true∨ltK L b a=true):=by
 induction ks with
 | nil=>exact .nil
 | cons x r ih=>
   rw[List.pairwise_cons]at hd ⊢;refine⟨fun b hb=>?_,ih (fun c hc=>hu c (List.mem_cons_of_mem _ hc)) hd.2⟩;have hne:unitsL (keyL L x)≠unitsL (keyL L b):=fun e=>hd.1 b hb (units_inj (hu x (by simp)) (hu b (List.mem_cons_of_mem _ hb)) e)
   by_cases h1:ltK L x b=true
   ·exact .inl h1
   ·exact .inr (aheadU_tot _ _ hne (Bool.not_eq_true _▸h1))
theorem digit_is(d:Nat)(h:d<10):isD (UInt8.ofNat (48+d))=true∧(UInt8.ofNat (48+d)).toNat=48+d:=by
 have e:(UInt8.ofNat (48+d)).toNat=48+d:=ofNat_toNat _ (by omega);refine⟨?_,e⟩;unfold isD;rw[e];simp;omega
theorem nd_app(a b:List UInt8)(ha:nd a=a.length):nd (a++b)=a.length+nd b:=by
 induction a with
 | nil=>simp
 | cons c r ih=>
   rw[nd]at ha;split at ha
   ·rename_i hc
    rw[List.cons_append,nd,if_pos hc,ih (by simp at ha;exact ha)];simp;omega
   ·simp at ha
theorem accN_app:∀(a:List UInt8) (n:Nat) (c:UInt8),accN n (a++[c])=(if accN n a≤maxI then 10*accN n a+(c.toNat-48)else accN n a)
 | [],n,c=>rfl
 | b::r,n,c=>by rw[List.cons_append,accN,accN_app r];rfl
theorem decN_facts(x:Nat):nd (decN x)=(decN x).length∧1≤(decN x).length∧(10≤x→(decN x).head?≠some 48)∧(1<(decN x).length→10≤x)∧(1≤x→(decN x).head?≠some 48)∧((x/10≤maxI→accN 0 (decN x)=x)∧(maxI<x/10→maxI<accN 0 (decN x))):=by
 induction x using Nat.strongRecOn with
 | ind x ih=>
   by_cases h:x<10
   ·obtain⟨d1,d2⟩:=digit_is x h
    rw[decN_small x h];refine⟨by rw[nd,if_pos d1];rfl,by simp,by omega,by simp,fun h1 e=>?_,fun _=>?_,fun hh=>?_⟩
    ·simp only[List.head?_cons,Option.some.injEq]at e
     have:=congrArg UInt8.toNat e;rw[d2]at this;simp at this;omega
    ·simp only[accN,d2]
     rw[if_pos (by unfold maxI;omega)];omega
    ·unfold maxI at hh;omega
   ·obtain⟨i1,i2,i3,i4,i5,i6,i7⟩:=ih (x/10) (by omega)
    obtain⟨d1,d2⟩:=digit_is (x%10) (by omega);rw[decN_big x (by omega)];have hh:(decN (x/10)++[UInt8.ofNat (48+x%10)]).head?=(decN (x/10)).head?:=by
     cases hq:decN (x/10)with
     | nil=>rw[hq]at i2;simp at i2
     | cons a r=>rfl
    refine⟨?_,by rw[List.length_append];omega,fun _=>?_,fun _=>by omega,fun _=>?_,fun hm=>?_,fun hm=>?_⟩
    ·rw[nd_app _ _ i1,List.length_append,nd,if_pos d1];rfl
    ·rw[hh];exact i5 (by omega)
    ·rw[hh];exact i5 (by omega)
    ·rw[accN_app,i6 (by omega),if_pos hm,d2];omega
    ·rw[accN_app]
     by_cases h9:x/10/10≤maxI
     ·rw[i6 h9,if_neg (by omega)];exact hm
     ·have:=i7 (by omega)
      rw[if_neg (by omega)];exact this
theorem decN_acc(x:Nat):(maxI<accN 0 (decN x)↔maxI<x)∧(x≤maxI→accN 0 (decN x)=x):=by
 obtain⟨_,_,_,_,_,a,b⟩:=decN_facts x;by_cases h:x/10≤maxI
 ·rw[a h];exact⟨Iff.rfl,fun _=>rfl⟩
 ·have h1:=b (by omega)
  refine⟨⟨fun _=>?_,fun _=>h1⟩,fun hx=>?_⟩
  ·have:=Nat.div_le_self x 10;omega
  ·have:=Nat.div_le_self x 10;omega
theorem decI_abs(n:Int):∃x:Nat,x=n.natAbs∧((n<0∧decI n=45::decN x∧1≤x)∨(0≤n∧decI n=decN x)):=by
 refine⟨n.natAbs,rfl,?_⟩;unfold decI;by_cases h:n<0
 ·rw[if_pos h]
  refine .inl ⟨h,?_,by omega⟩;rw[show(-n).toNat=n.natAbs by omega]
 ·rw[if_neg h]
  refine .inr ⟨by omega,?_⟩;rw[show n.toNat=n.natAbs by omega]
theorem decN_head(x:Nat):∃c r,decN x=c::r∧isD c=true∧c≠45:=by
 obtain⟨h1,h2,_⟩:=decN_facts x;cases hq:decN x with
 | nil=>rw[hq]at h2;simp at h2
 | cons c r=>
   rw[hq,nd]at h1;split at h1
   ·rename_i hc
    exact⟨c,r,rfl,hc,fun e=>by subst e;simp[isD]at hc⟩
   ·simp at h1
def numR(n:Int):Except (Nat×Nat) JT:=if n< -9007199254740991∨9007199254740991<n then .error (3,0)else .ok (.int n 0)
theorem intL_dec(n:Int):intL (decI n)=(if n< -9007199254740991∨9007199254740991<n then .error (3,0)else .ok (n,(decI n).length)):=by
 obtain⟨x,hx,hc⟩:=decI_abs n;obtain⟨f1,f2,f3,f4,_,_⟩:=decN_facts x;obtain⟨a1,a2⟩:=decN_acc x;obtain⟨c,r,hcr,hcd,hc45⟩:=decN_head x;unfold intL;dsimp only;rcases hc with⟨hn,hd,hx1⟩|⟨hn,hd⟩
 ·rw[hd]
  have e0:(if(45::decN x).head?=some 45 then 1 else 0)=1:=by simp
  rw[e0,List.drop_one,List.tail_cons,f1,List.take_length]
  rw[if_neg (by rintro(h|⟨h1,h2⟩);· omega
                ·exact f3 (f4 h1) h2)]
  by_cases hb:maxI<x
  ·rw[if_pos (a1.2 hb),if_pos (by unfold maxI at hb;omega)]
  ·rw[if_neg (fun h=>hb (a1.1 h)),if_pos rfl,a2 (by omega),if_neg (show ¬(n< -9007199254740991∨9007199254740991<n)by unfold maxI at hb;omega)]
   rw[List.length_cons];have e1:(-(x:Int))=n:=by omega
   rw[e1,Nat.add_comm]
 ·rw[hd]
  have e0:(if(decN x).head?=some 45 then 1 else 0)=0:=by rw[hcr];simp[hc45]
  rw[e0,List.drop_zero,f1,List.take_length]
  rw[if_neg (by rintro(h|⟨h1,h2⟩);· omega
                ·exact f3 (f4 h1) h2)]
  by_cases hb:maxI<x
  ·rw[if_pos (a1.2 hb),if_pos (by unfold maxI at hb;omega)]
  ·rw[if_neg (fun h=>hb (a1.1 h)),if_neg (show ¬(0=1)by omega),a2 (by omega),if_neg (show ¬(n< -9007199254740991∨9007199254740991<n)by unfold maxI at hb;omega)]
   have e1:((x:Nat):Int)=n:=by omega
   rw[e1,Nat.zero_add]
theorem readL_dec(n:Int)(h0: -9223372036854775808≤n)(h1:n≤9223372036854775807):readL (decI n)=numR n:=by
 have hlen:=decI_len n h0 h1;have hI:=intL_dec n;obtain⟨c,r,hcr,hcd⟩:∃c r,decI n=c::r∧(c=45∨isD c=true):=by
  obtain⟨x,hx,hc⟩:=decI_abs n;rcases hc with⟨_,hd,_⟩|⟨_,hd⟩
  ·exact⟨45,_,hd,.inl rfl⟩
  ·obtain⟨c,r,hcr,h2,_⟩:=decN_head x
   exact⟨c,r,by rw[hd,hcr],.inr h2⟩
 have hnb:nb (decI n)=0:=by
  rw[hcr,nb,if_neg];rcases hcd with rfl|h
  ·simp[isB]
  ·intro hb
   unfold isB at hb;unfold isD at h;simp only[Bool.or_eq_true,beq_iff_eq,Bool.and_eq_true,decide_eq_true_eq]at hb h;rcases hb with((rfl|rfl)|rfl)|rfl<;>simp at h
 have h34:c≠34:=by
  intro e;subst e;rcases hcd with h|h
  ·simp at h
  ·simp[isD]at h
 unfold readL;rw[if_neg (by omega)];dsimp only;rw[hnb,List.drop_zero,hcr,valL_cons,if_neg h34,if_pos hcd,←hcr,hI];unfold numR;by_cases hb:n< -9007199254740991∨9007199254740991<n
 ·rw[if_pos hb,if_pos hb]
 ·rw[if_neg hb,if_neg hb]
  dsimp only;rw[Nat.zero_add,List.drop_of_length_le (Nat.le_refl _)];rw[if_neg (by simp[nb])]
theorem form_int(n:Int):formN (flat 0 [] (.int n 0)) (flat 0 [] (.int n 0)).length 0=decI n:=by
 simp[flat,formN]
end Go.Proofs.YtbllepoagnfjnaaDoor
