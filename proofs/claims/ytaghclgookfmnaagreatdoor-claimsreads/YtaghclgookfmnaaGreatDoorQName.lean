import Derived.Test.YtaghclgookfmnaaGreatDoorQShort
namespace Go.Proofs.YtaghclgookfmnaaGreatDoor
set_option linter.unusedVariables false
inductive U8:List UInt8→Prop
 | nil:U8 []
 | cons (a r:List UInt8) (h0:a≠[]) (h:seqLen a=a.length):U8 r→U8 (a++r)
theorem U8.append{a b:List UInt8}(ha:U8 a)(hb:U8 b):U8 (a++b):=by
 induction ha with
 | nil=>exact hb
 | cons x r h0 h _ ih=>rw[List.append_assoc];exact .cons x _ h0 h ih
theorem U8.one{a:List UInt8}(h0:a≠[])(h:seqLen a=a.length):U8 a:=by
 have:=U8.cons a [] h0 h .nil;rwa [List.append_nil]at this
theorem goesL_app{a r:List UInt8}{k lo hi:Nat}(h:goesL a k lo hi=true):goesL (a++r) k lo hi=true:=by
 unfold goesL at h ⊢;cases hk:a[k]? with
 | none=>rw[hk]at h;cases h
 | some c=>
   have hlt:=(List.getElem?_eq_some_iff.1 hk).1;rw[hk]at h;rw[List.getElem?_append_left hlt,hk];exact h
theorem goesL_take{l:List UInt8}{n k lo hi:Nat}(hk:k<n):goesL (l.take n) k lo hi=goesL l k lo hi:=by
 unfold goesL;rw[List.getElem?_take_of_lt hk]
theorem seqN_pos(c:Nat):2≤seqN c∧seqN c≤4:=by unfold seqN;split<;>(try split)<;>omega
theorem seqLen_app(a r:List UInt8)(h0:a≠[])(h:seqLen a=a.length):seqLen (a++r)=a.length:=by
 match a,h0 with
 | c::a',_=>
   rw[List.cons_append];unfold seqLen at h ⊢;simp only at h ⊢;by_cases h1:c.toNat<128
   ·rw[if_pos h1]at h ⊢;exact h
   ·rw[if_neg h1]at h ⊢
    by_cases h2:c.toNat<194∨244<c.toNat
    ·rw[if_pos h2]at h;simp at h
    ·rw[if_neg h2]at h ⊢
     split at h
     ·rename_i hc
      rw[if_pos,h];simp only[Bool.and_eq_true,Bool.or_eq_true]at hc ⊢;rw[←List.cons_append];exact⟨⟨goesL_app hc.1.1,hc.1.2.imp id goesL_app⟩,hc.2.imp id goesL_app⟩
     ·simp at h
theorem seqLen_take(l:List UInt8)(h:seqLen l≠0):seqLen (l.take (seqLen l))=seqLen l∧seqLen l≤l.length:=by
 match l with
 | []=>exact absurd rfl h
 | c::r=>
   generalize hq:seqLen (c::r)=q at h ⊢;have hq':=hq;unfold seqLen at hq;simp only at hq;by_cases h1:c.toNat<128
   ·rw[if_pos h1]at hq
    subst hq;refine⟨?_,by simp⟩;simp[seqLen,h1]
   ·rw[if_neg h1]at hq
    by_cases h2:c.toNat<194∨244<c.toNat
    ·rw[if_pos h2]at hq;omega
    ·rw[if_neg h2]at hq
     split at hq
     ·rename_i hc
      have hc0:=hc;simp only[Bool.and_eq_true,Bool.or_eq_true,decide_eq_true_eq]at hc;have hp:=seqN_pos c.toNat;have hg:∀{k lo hi:Nat},goesL (c::r) k lo hi=true→k<(c::r).length:=by
       intro k lo hi hh;unfold goesL at hh;split at hh
       ·rename_i x hx;exact(List.getElem?_eq_some_iff.1 hx).1
       ·cases hh
      have hlen:q≤(c::r).length:=by
       have a1:=hg hc.1.1;rcases hc.1.2 with a2|a2
       ·omega
       ·have a2:=hg a2
        rcases hc.2 with a3|a3
        ·omega
        ·have a3:=hg a3;omega
      refine⟨?_,hlen⟩;have ht:(c::r).take q=c::r.take (q-1):=by
       obtain⟨q',rfl⟩:∃q',q=q'+1:=⟨q-1,by omega⟩;simp
      rw[ht];unfold seqLen;simp only;rw[if_neg h1,if_neg h2,←ht,if_pos,hq];simp only[Bool.and_eq_true,Bool.or_eq_true,decide_eq_true_eq];refine⟨⟨?_,?_⟩,?_⟩
      ·rw[goesL_take (by omega)];exact hc.1.1
      ·by_cases h3:seqN c.toNat≤2
       ·exact .inl h3
       ·rw[goesL_take (by omega)];exact hc.1.2
      ·by_cases h3:seqN c.toNat≤3
       ·exact .inl h3
       ·rw[goesL_take (by omega)];exact hc.2
     ·omega
theorem ofNat_toNat(n:Nat)(h:n<256):(UInt8.ofNat n).toNat=n:=by simp;omega
theorem goesL0{l:List UInt8}{k lo hi:Nat}(c:UInt8)(h:l[k]?=some c):goesL l k lo hi=(decide (lo≤c.toNat)&&decide (c.toNat≤hi)):=by unfold goesL;rw[h]
theorem wr8_u8(n:Nat)(h:n<55296∨57343<n)(h1:n<1114112):U8 (wr8 n):=by
 have hne:wr8 n≠[]:=by unfold wr8;repeat' split
                       all_goals simp
 refine .one hne ?_;unfold wr8;split
 ·unfold seqLen;simp only;rw[ofNat_toNat _ (by omega),if_pos (by omega)];rfl
 ·split
  ·unfold seqLen;simp only
   rw[goesL0 (k:=1) (UInt8.ofNat (128+n%64)) rfl];rw[ofNat_toNat _ (by omega),ofNat_toNat _ (by omega)];rw[if_neg (by omega),if_neg (by omega)];have e1:seqN (192+n/64)=2:=by unfold seqN;rw[if_pos (by omega)]
   have e2:seqLo (192+n/64)=128:=by unfold seqLo;rw[if_neg (by omega),if_neg (by omega)]
   have e3:seqHi (192+n/64)=191:=by unfold seqHi;rw[if_neg (by omega),if_neg (by omega)]
   rw[e1,e2,e3];rw[if_pos (by simp;omega)];rfl
  ·split
   ·unfold seqLen;simp only
    rw[goesL0 (k:=1) (UInt8.ofNat (128+n/64%64)) rfl,goesL0 (k:=2) (UInt8.ofNat (128+n%64)) rfl];rw[ofNat_toNat _ (by omega),ofNat_toNat _ (by omega),ofNat_toNat _ (by omega)];rw[if_neg (by omega),if_neg (by omega)];have e1:seqN (224+n/4096)=3:=by unfold seqN;rw[if_neg (by omega),if_pos (by omega)]
    have e2:seqLo (224+n/4096)≤128+n/64%64:=by unfold seqLo;repeat' split
                                               all_goals omega
    have e3:128+n/64%64≤seqHi (224+n/4096):=by unfold seqHi;repeat' split
                                               all_goals omega
    rw[e1,if_pos (by simp[e2,e3];omega)];rfl
   ·unfold seqLen;simp only
    rw[goesL0 (k:=1) (UInt8.ofNat (128+n/4096%64)) rfl,goesL0 (k:=2) (UInt8.ofNat (128+n/64%64)) rfl,goesL0 (k:=3) (UInt8.ofNat (128+n%64)) rfl];rw[ofNat_toNat _ (by omega),ofNat_toNat _ (by omega),ofNat_toNat _ (by omega),ofNat_toNat _ (by omega)];rw[if_neg (by omega),if_neg (by omega)];have e1:seqN (240+n/262144)=4:=by unfold seqN;rw[if_neg (by omega),if_neg (by omega)]
    have e2:seqLo (240+n/262144)≤128+n/4096%64:=by unfold seqLo;repeat' split
                                                   all_goals omega
    have e3:128+n/4096%64≤seqHi (240+n/262144):=by unfold seqHi;repeat' split
                                                   all_goals omega
    rw[e1,if_pos (by simp[e2,e3];omega)];rfl
theorem escL_u8{l t:List UInt8}{n:Nat}(h:escL l=.ok (t,n)):U8 t:=by
 unfold escL at h;split at h
 ·rename_i a c r
  split at h
  ·rename_i b hb
   injection h with h;injection h with h1 h2;subst h1;refine .one (by simp) ?_;have:b.toNat<128:=by
    unfold esc1 at hb;repeat' split at hb
    ·rename_i hc;injection hb with hb;subst hb;rcases hc with rfl|rfl|rfl<;>decide
    all_goals first|(injection hb with hb;subst hb;decide)|cases hb
   unfold seqLen;simp only;rw[if_pos this];rfl
  ·split at h
   ·split at h
    ·cases h
    ·rename_i m o h4
     have hm:=(four4_some h4).2;unfold pairL at h;split at h
     ·rename_i hs
      injection h with h;injection h with h1 h2;subst h1;exact wr8_u8 m hs (by omega)
     ·rename_i hs
      split at h
      ·cases h
      ·rename_i m' hl
       have hlow:56320≤m'∧m'≤57343:=by
        unfold lowL at hl;repeat' split at hl
        all_goals first|(cases hl;assumption)|cases hl
       split at h
       ·cases h
       ·injection h with h;injection h with h1 h2;subst h1
        exact wr8_u8 _ (.inr (by omega)) (by omega)
   ·cases h
 ·cases h
theorem strF_u8:∀(f:Nat) (l t:List UInt8) (n:Nat),strF f l=.ok (t,n)→U8 t:=by
 intro f;induction f with
 | zero=>intro l t n h;simp[strF]at h
 | succ f ih=>
   intro l t n h;match l with
   | []=>simp[strF]at h
   | c::r=>
     rw[strF]at h;have key:∀(acc:List UInt8) (k:Nat),U8 acc→shiftS acc k (strF f ((c::r).drop k))=.ok (t,n)→U8 t:=by
      intro acc k ha hh;generalize (c::r)=L at *;cases hs:strF f (L.drop k)with
      | error o=>rw[hs]at hh;simp[shiftS]at hh
      | ok q=>
        obtain⟨t',n'⟩:=q;have:=ih _ _ _ hs;rw[hs,shiftS]at hh;injection hh with hh;injection hh with h1 h2;subst h1;exact ha.append this
     split at h
     ·injection h with h;injection h with h1 h2;subst h1;exact .nil
     ·split at h
      ·cases h
      ·split at h
       ·split at h
        ·cases h
        ·rename_i t' n' he
         exact key t' n' (escL_u8 he) h
       ·split at h
        ·cases h
        ·rename_i hs
         have h9:=seqLen_take (c::r) hs;refine key _ _ (.one ?_ ?_) h
         ·intro e
          have:=congrArg List.length e;rw[List.length_take]at this;simp at this;omega
         ·rw[h9.1,List.length_take];omega
theorem quotL_u8{l t:List UInt8}{n:Nat}(h:quotL l=.ok (t,n)):U8 t:=by
 unfold quotL at h;split at h
 ·split at h
  ·split at h
   ·rename_i t' n' hs
    have:=strF_u8 _ _ _ _ hs;injection h with h;injection h with h1 h2;subst h1;exact this
   ·cases h
  ·cases h
 ·cases h
mutual
def okN:JT→Prop
 | .null _=>True
 | .truth _ _=>True
 | .int _ _=>True
 | .str _ _=>True
 | .arr ts _=>okNL ts
 | .obj ms _=>okNM ms∧(ms.map Prod.fst).Pairwise (fun a b=>a≠b)
def okNL:List JT→Prop
 | []=>True
 | t::r=>okN t∧okNL r
def okNM:List (List UInt8×JT)→Prop
 | []=>True
 | (k,t)::r=>U8 k∧okN t∧okNM r
end
theorem arrF_okn(v:List UInt8→Nat→JR JT)(hv:∀l i t n,v l i=.ok (t,n)→okN t):∀(f:Nat) (l:List UInt8) (i:Nat) (ts:List JT) (k:Nat),arrF v f l i=.ok (ts,k)→okNL ts:=by
 intro f;induction f with
 | zero=>intro l i ts k h;simp[arrF]at h
 | succ f ih=>
   intro l i ts k h;rw[arrF]at h;dsimp only at h;split at h
   ·cases h
   ·rename_i t n hvt
    have h0:=hv _ _ _ _ hvt;split at h
    ·split at h
     ·split at h
      ·cases h
      ·rename_i ts' k' hr
       have g:=ih _ _ _ _ hr;injection h with h;injection h with h1 h2;subst h1;rw[okNL];exact⟨h0,g⟩
     ·split at h
      ·injection h with h;injection h with h1 h2;subst h1
       rw[okNL,okNL];exact⟨h0,trivial⟩
      ·cases h
    ·cases h
theorem objF_okn(v:List UInt8→Nat→JR JT)(hv:∀l i t n,v l i=.ok (t,n)→okN t):∀(f:Nat) (ks:List (List UInt8)) (l:List UInt8) (i:Nat) (ms:List (List UInt8×JT)) (k:Nat),objF v f ks l i=.ok (ms,k)→okNM ms∧(ms.map Prod.fst).Pairwise (fun a b=>a≠b)∧∀x∈ms.map Prod.fst,x∉ks:=by
 intro f;induction f with
 | zero=>intro ks l i ts k h;simp[objF]at h
 | succ f ih=>
   intro ks l i ms k h;rw[objF]at h;dsimp only at h;split at h
   ·cases h
   ·rename_i name m hq
    have hu:=quotL_u8 hq;split at h
    ·cases h
    ·rename_i hks
     split at h
     ·split at h
      ·split at h
       ·cases h
       ·rename_i t n hvt
        have h0:=hv _ _ _ _ hvt;split at h
        ·split at h
         ·split at h
          ·cases h
          ·rename_i ms' k' hr
           obtain⟨g0,g1,g2⟩:=ih _ _ _ _ _ hr;injection h with h;injection h with h1 h2;subst h1;refine⟨by rw[okNM];exact⟨hu,h0,g0⟩,?_,?_⟩
           ·rw[List.map_cons,List.pairwise_cons]
            refine⟨fun x hx e=>?_,g1⟩;have:=g2 x hx;apply this;rw[←e];simp
           ·intro x hx
            rw[List.map_cons]at hx;rcases List.mem_cons.1 hx with rfl|hx
            ·exact hks
            ·intro hk;exact g2 x hx (by simp[hk])
         ·split at h
          ·injection h with h;injection h with h1 h2;subst h1
           refine⟨by rw[okNM,okNM];exact⟨hu,h0,trivial⟩,by simp,?_⟩;intro x hx;simp only[List.map_cons,List.map_nil,List.mem_singleton]at hx;rw[hx];exact hks
          ·cases h
        ·cases h
      ·cases h
     ·cases h
theorem arrL_okn(v:List UInt8→Nat→JR JT)(hv:∀l i t n,v l i=.ok (t,n)→okN t)(l:List UInt8)(i:Nat)(t:JT)(n:Nat)(h:arrL v l i=.ok (t,n)):okN t:=by
 unfold arrL at h;dsimp only at h;split at h
 ·injection h with h;injection h with h1 h2;subst h1;simp[okN,okNL]
 ·split at h
  ·cases h
  ·rename_i ts k hr
   have g:=arrF_okn v hv _ _ _ _ _ hr;injection h with h;injection h with h1 h2;subst h1;rw[okN];exact g
theorem objL_okn(v:List UInt8→Nat→JR JT)(hv:∀l i t n,v l i=.ok (t,n)→okN t)(l:List UInt8)(i:Nat)(t:JT)(n:Nat)(h:objL v l i=.ok (t,n)):okN t:=by
 unfold objL at h;dsimp only at h;split at h
 ·injection h with h;injection h with h1 h2;subst h1;simp[okN,okNM]
 ·split at h
  ·cases h
  ·rename_i ms k hr
   obtain⟨g0,g1,_⟩:=objF_okn v hv _ _ _ _ _ _ hr;injection h with h;injection h with h1 h2;subst h1;rw[okN];exact⟨g0,g1⟩
theorem wordL_okn{l:List UInt8}{i n:Nat}{t:JT}(h:wordL l i=.ok (t,n)):okN t:=by
 unfold wordL at h;dsimp only at h;repeat' split at h
 all_goals first|(cases h;simp[okN];done)|cases h
theorem valL_okn:∀(d:Nat) (l:List UInt8) (i:Nat) (t:JT) (n:Nat),valL d l i=.ok (t,n)→okN t:=by
 intro d;induction d with
 | zero=>
   intro l i t n h;match l with
   | []=>rw[valL_nil]at h;cases h
   | c::r=>
     rw[valL_cons]at h;generalize (c::r)=L at *;split at h
     ·split at h
      ·cases h
      ·injection h with h;injection h with h1 h2;subst h1;simp[okN]
     ·split at h
      ·split at h
       ·cases h
       ·injection h with h;injection h with h1 h2;subst h1;simp[okN]
      ·split at h
       ·exact wordL_okn h
       ·split at h<;>cases h
 | succ d ih=>
   intro l i t n h;match l with
   | []=>rw[valL_nil]at h;cases h
   | c::r=>
     rw[valL_cons]at h;generalize (c::r)=L at *;split at h
     ·split at h
      ·cases h
      ·injection h with h;injection h with h1 h2;subst h1;simp[okN]
     ·split at h
      ·split at h
       ·cases h
       ·injection h with h;injection h with h1 h2;subst h1;simp[okN]
      ·split at h
       ·exact wordL_okn h
       ·split at h
        ·dsimp only at h
         split at h
         ·exact arrL_okn _ ih _ _ _ _ h
         ·exact objL_okn _ ih _ _ _ _ h
        ·cases h
theorem readL_okn{l:List UInt8}{t:JT}(h:readL l=.ok t):okN t:=by
 unfold readL at h;split at h
 ·cases h
 ·dsimp only at h
  split at h
  ·cases h
  ·rename_i t' n hv
   have:=valL_okn _ _ _ _ _ hv;split at h
   ·cases h
   ·injection h with h;subst h;exact this
def NamesOk(L:List Nd):Prop:=∀(k:Nat) (n:Nd),L[k]?=some n→n.kind=5→(∀c∈n.kids,U8 (keyL L c))∧n.kids.Pairwise (fun a b=>keyL L a≠keyL L b)
theorem keys_of(L:List Nd):∀(ms:List (List UInt8×JT)) (b:Nat),SubM L b ms→(startsM b ms).map (keyL L)=ms.map Prod.fst
 | [],b,h=>rfl
 | (k,t)::r,b,h=>by
   rw[startsM,List.map_cons,List.map_cons,h.head.key,keys_of L r _ h.tail]
theorem u8_of:∀(ms:List (List UInt8×JT)),okNM ms→∀x∈ms.map Prod.fst,U8 x
 | [],_,x,hx=>by simp at hx
 | (k,t)::r,h,x,hx=>by
   rw[okNM]at h;rw[List.map_cons]at hx;rcases List.mem_cons.1 hx with rfl|hx
   ·exact h.1
   ·exact u8_of r h.2.2 x hx
def NameAt(L:List Nd)(k:Nat):Prop:=∀n,L[k]?=some n→n.kind=5→(∀c∈n.kids,U8 (keyL L c))∧n.kids.Pairwise (fun a b=>keyL L a≠keyL L b)
mutual
theorem name_sub(L:List Nd):∀(t:JT) (b:Nat) (key:List UInt8),Sub L b key t→okN t→∀j,j<t.size→NameAt L (b+j)
 | .null i,b,key,h,ho,j,hj=>fun n hn hk=>by
   have h1:j=0:=by simp[JT.size]at hj;omega
   subst h1;rw[h 0 hj]at hn;simp[flat]at hn;subst hn;simp at hk
 | .truth x i,b,key,h,ho,j,hj=>fun n hn hk=>by
   have h1:j=0:=by simp[JT.size]at hj;omega
   subst h1;rw[h 0 hj]at hn;simp[flat]at hn;subst hn;simp at hk
 | .int x i,b,key,h,ho,j,hj=>fun n hn hk=>by
   have h1:j=0:=by simp[JT.size]at hj;omega
   subst h1;rw[h 0 hj]at hn;simp[flat]at hn;subst hn;simp at hk
 | .str x i,b,key,h,ho,j,hj=>fun n hn hk=>by
   have h1:j=0:=by simp[JT.size]at hj;omega
   subst h1;rw[h 0 hj]at hn;simp[flat]at hn;subst hn;simp at hk
 | .arr ts i,b,key,h,ho,j,hj=>by
   match j with
   | 0=>intro n hn hk;rw[h 0 hj]at hn;simp[flat]at hn;subst hn;simp at hk
   | j+1=>
     rw[okN]at ho;have:=nameL_sub L ts (b+1) h.arr ho j (by simp[JT.size]at hj;omega);rwa [show b+(j+1)=b+1+j by omega]
 | .obj ms i,b,key,h,ho,j,hj=>by
   rw[okN]at ho;match j with
   | 0=>
     intro n hn hk;rw[h 0 hj]at hn;simp[flat]at hn;subst hn;simp only;have hkk:=keys_of L ms (b+1) h.obj;refine⟨fun c hc=>?_,?_⟩
     ·refine u8_of ms ho.1 _ ?_
      rw[←hkk];exact List.mem_map_of_mem hc
     ·have:=ho.2
      rw[←hkk]at this;exact List.pairwise_map.1 this
   | j+1=>
     have:=nameM_sub L ms (b+1) h.obj ho.1 j (by simp[JT.size]at hj;omega);rwa [show b+(j+1)=b+1+j by omega]
theorem nameL_sub(L:List Nd):∀(ts:List JT) (b:Nat),SubL L b ts→okNL ts→∀j,j<sizeL ts→NameAt L (b+j)
 | [],b,h,ho,j,hj=>by simp[sizeL]at hj
 | t::r,b,h,ho,j,hj=>by
   rw[okNL]at ho;by_cases h1:j<t.size
   ·exact name_sub L t b [] h.head ho.1 j h1
   ·have:=nameL_sub L r (b+t.size) h.tail ho.2 (j-t.size) (by simp[sizeL]at hj;omega)
    rwa [show b+t.size+(j-t.size)=b+j by omega]at this
theorem nameM_sub(L:List Nd):∀(ms:List (List UInt8×JT)) (b:Nat),SubM L b ms→okNM ms→∀j,j<sizeM ms→NameAt L (b+j)
 | [],b,h,ho,j,hj=>by simp[sizeM]at hj
 | (k,t)::r,b,h,ho,j,hj=>by
   rw[okNM]at ho;by_cases h1:j<t.size
   ·exact name_sub L t b k h.head ho.2.1 j h1
   ·have:=nameM_sub L r (b+t.size) h.tail ho.2.2 (j-t.size) (by simp[sizeM]at hj;omega)
    rwa [show b+t.size+(j-t.size)=b+j by omega]at this
end
theorem names_flat{t:JT}(h:okN t):NamesOk (flat 0 [] t):=by
 intro k n hn hk;have hlt:k<t.size:=by have:=(List.getElem?_eq_some_iff.1 hn).1;rwa [flat_length]at this
 have:=name_sub (flat 0 [] t) t 0 [] (fun j hj=>by rw[Nat.zero_add]) h k hlt;rw[Nat.zero_add]at this;exact this n hn hk
end Go.Proofs.YtaghclgookfmnaaGreatDoor
