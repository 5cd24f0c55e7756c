import Derived.Test.YtaghclgookfmnaaGreatDoorJPureP
namespace Go.Proofs.YtaghclgookfmnaaGreatDoor
set_option linter.unusedVariables false
theorem fourG_lenQ:∀(k n:Nat) (l:List UInt8) (o m o':Nat),fourG k n l o=(some m,o')→k≤l.length
 | 0,n,l,o,m,o',h=>Nat.zero_le _
 | k+1,n,[],o,m,o',h=>by simp[fourG]at h
 | k+1,n,c::r,o,m,o',h=>by
   rw[fourG]at h;split at h
   ·simp at h
   ·have:=fourG_lenQ k _ _ _ _ _ h
    simp;omega
theorem lowL_lenQ{l:List UInt8}{m:Nat}(h:lowL l=some m):6≤l.length:=by
 unfold lowL at h;split at h
 ·rename_i a b r
  split at h
  ·split at h
   ·rename_i n hn
    have:4≤r.length:=by
     have h4:four4 r=(some n,(four4 r).2):=Prod.ext hn rfl;exact fourG_lenQ 4 0 r 0 _ _ h4
    simp;omega
   ·cases h
  ·cases h
 ·cases h
theorem escL_lenQ{l t:List UInt8}{n:Nat}(h:escL l=.ok (t,n)):n≤l.length:=by
 unfold escL at h;split at h
 ·rename_i a c r
  split at h
  ·injection h with h;injection h with h1 h2;subst h2;simp
  ·split at h
   ·split at h
    ·cases h
    ·rename_i m o h4
     have h4':4≤r.length:=fourG_lenQ 4 0 r 0 _ _ h4;unfold pairL at h;split at h
     ·injection h with h;injection h with h1 h2;subst h2;simp;omega
     ·split at h
      ·cases h
      ·rename_i m' hl
       have:=lowL_lenQ hl;rw[List.length_drop]at this;split at h
       ·cases h
       ·injection h with h;injection h with h1 h2;subst h2;simp;omega
   ·cases h
 ·cases h
theorem strF_lenQ:∀(f:Nat) (l t:List UInt8) (n:Nat),strF f l=.ok (t,n)→t.length+1≤n∧n≤l.length:=by
 intro f;induction f with
 | zero=>intro l t n h;simp[strF]at h
 | succ f ih=>
   intro l t n h;match l with
   | []=>simp[strF]at h
   | c::r=>
     rw[strF]at h;have key:∀(acc:List UInt8) (k:Nat),acc.length≤k→k≤(c::r).length→shiftS acc k (strF f ((c::r).drop k))=.ok (t,n)→t.length+1≤n∧n≤(c::r).length:=by
      intro acc k ha hk hh;generalize (c::r)=L at *;cases hs:strF f (L.drop k)with
      | error o=>rw[hs]at hh;simp[shiftS]at hh
      | ok q=>
        obtain⟨t',n'⟩:=q;have:=ih _ _ _ hs;rw[List.length_drop]at this;rw[hs,shiftS]at hh;injection hh with hh;injection hh with h1 h2;subst h1;subst h2;rw[List.length_append];omega
     split at h
     ·injection h with h;injection h with h1 h2;subst h1;subst h2;simp
     ·split at h
      ·cases h
      ·split at h
       ·split at h
        ·cases h
        ·rename_i t' n' he
         exact key t' n' (escL_ok he).1 (escL_lenQ he) h
       ·split at h
        ·cases h
        ·have:=seqLen_len (c::r)
         exact key _ _ (by rw[List.length_take];omega) this h
theorem quotL_lenQ{l t:List UInt8}{n:Nat}(h:quotL l=.ok (t,n)):t.length+2≤n∧n≤l.length:=by
 unfold quotL at h;split at h
 ·rename_i c r
  split at h
  ·split at h
   ·rename_i t' n' hs
    have:=strF_lenQ _ _ _ _ hs;injection h with h;injection h with h1 h2;subst h1;subst h2;simp;omega
   ·cases h
  ·cases h
 ·cases h
theorem accN_len:∀(l:List UInt8) (n:Nat),n≤10*maxI+300→accN n l≤10*maxI+300
 | [],n,h=>h
 | c::r,n,h=>by
   rw[accN];apply accN_len r;split
   ·have:=c.toNat_lt;omega
   ·exact h
theorem intL_lenQ{l:List UInt8}{m:Int}{n:Nat}(h:intL l=.ok (m,n)):1≤n∧n≤l.length∧ -9223372036854775808≤m∧m≤9223372036854775807:=by
 have h1:=intL_pos h;unfold intL at h;dsimp only at h;have hd:=nd_le (l.drop (if l.head?=some 45 then 1 else 0));rw[List.length_drop]at hd;generalize (if l.head?=some 45 then 1 else 0)=a at h hd;split at h
 ·cases h
 ·rename_i hk
  split at h
  ·cases h
  ·rename_i hm
   injection h with h;injection h with e1 e2;have hm':accN 0 ((l.drop a).take (nd (l.drop a)))≤9007199254740991:=by unfold maxI at hm;omega
   refine⟨h1,by omega,?_⟩;split at e1<;>omega
theorem wordL_lenQ{l:List UInt8}{i n:Nat}{t:JT}(h:wordL l i=.ok (t,n)):n≤l.length∧4≤n∧((∃b,t=.truth b i)∨t=.null i):=by
 have hl:∀k,(l.take (nl l)).length=k→k≤l.length:=fun k hk=>by rw[List.length_take]at hk;omega
 unfold wordL at h;dsimp only at h;split at h
 ·rename_i e;injection h with h;injection h with h1 h2;subst h1;subst h2;exact⟨hl 4 (by rw[e];rfl),by omega,.inl ⟨_,rfl⟩⟩
 ·split at h
  ·rename_i e;injection h with h;injection h with h1 h2;subst h1;subst h2;exact⟨hl 5 (by rw[e];rfl),by omega,.inl ⟨_,rfl⟩⟩
  ·split at h
   ·rename_i e;injection h with h;injection h with h1 h2;subst h1;subst h2;exact⟨hl 4 (by rw[e];rfl),by omega,.inr rfl⟩
   ·cases h
mutual
def cost:JT→Nat
 | .null _=>4
 | .truth _ _=>5
 | .int _ _=>21
 | .str t _=>6*t.length+2
 | .arr ts _=>2+costL ts
 | .obj ms _=>2+costM ms
def costL:List JT→Nat
 | []=>0
 | t::r=>cost t+1+costL r
def costM:List (List UInt8×JT)→Nat
 | []=>0
 | (k,t)::r=>6*k.length+4+cost t+costM r
end
def Rok(l:List UInt8)(t:JT)(n:Nat):Prop:=n≤l.length∧cost t≤30*n∧∀M,l.length≤M→okT M t
theorem drop_ltQ{l:List UInt8}{b:Nat}{c:UInt8}{r:List UInt8}(h:l.drop b=c::r):b<l.length:=by
 by_cases hb:b<l.length
 ·exact hb
 ·rw[List.drop_of_length_le (by omega)]at h;cases h
theorem arrF_rok(v:List UInt8→Nat→JR JT)(hv:∀l i t n,v l i=.ok (t,n)→Rok l t n):∀(f:Nat) (l:List UInt8) (i:Nat) (ts:List JT) (k:Nat),arrF v f l i=.ok (ts,k)→(1≤k∧k≤l.length)∧costL ts≤30*k∧∀M,l.length≤M→okL M ts:=by
 intro f;induction f with
 | zero=>intro l i ts k h;simp[arrF]at h
 | succ f ih=>
   intro l i ts k h;rw[arrF]at h;dsimp only at h;split at h
   ·cases h
   ·rename_i t n hvt
    obtain⟨h0,h00,h01⟩:=hv _ _ _ _ hvt;rw[List.length_drop]at h0 h01;split at h
    ·rename_i c r hd
     have hb:=drop_ltQ hd;split at h
     ·split at h
      ·cases h
      ·rename_i ts' k' hr
       obtain⟨g0,g1,g2⟩:=ih _ _ _ _ hr;rw[List.length_drop]at g0 g2;injection h with h;injection h with h1 h2;subst h1;subst h2;refine⟨by omega,by simp only[costL];omega,fun M hM=>?_⟩;rw[okL];exact⟨h01 M (by omega),g2 M (by omega)⟩
     ·split at h
      ·injection h with h;injection h with h1 h2;subst h1;subst h2
       refine⟨by omega,by simp only[costL];omega,fun M hM=>?_⟩;rw[okL,okL];exact⟨h01 M (by omega),trivial⟩
      ·cases h
    ·cases h
theorem objF_rok(v:List UInt8→Nat→JR JT)(hv:∀l i t n,v l i=.ok (t,n)→Rok l t n):∀(f:Nat) (ks:List (List UInt8)) (l:List UInt8) (i:Nat) (ms:List (List UInt8×JT)) (k:Nat),objF v f ks l i=.ok (ms,k)→(1≤k∧k≤l.length)∧costM ms≤30*k∧∀M,l.length≤M→okM M ms:=by
 intro f;induction f with
 | zero=>intro ks l i ts k h;simp[objF]at h
 | succ f ih=>
   intro ks l i ms k h;rw[objF]at h;dsimp only at h;split at h
   ·cases h
   ·rename_i name m hq
    obtain⟨q0,q1⟩:=quotL_lenQ hq;rw[List.length_drop]at q1;split at h
    ·cases h
    ·split at h
     ·rename_i c0 r0 hd0
      have hb0:=drop_ltQ hd0;split at h
      ·split at h
       ·cases h
       ·rename_i t n hvt
        obtain⟨h0,h00,h01⟩:=hv _ _ _ _ hvt;rw[List.length_drop]at h0 h01;split at h
        ·rename_i c r hd
         have hb:=drop_ltQ hd;split at h
         ·split at h
          ·cases h
          ·rename_i ms' k' hr
           obtain⟨g0,g1,g2⟩:=ih _ _ _ _ _ hr;rw[List.length_drop]at g0 g2;injection h with h;injection h with h1 h2;subst h1;subst h2;refine⟨by omega,by simp only[costM];omega,fun M hM=>?_⟩;rw[okM];exact⟨by omega,h01 M (by omega),g2 M (by omega)⟩
         ·split at h
          ·injection h with h;injection h with h1 h2;subst h1;subst h2
           refine⟨by omega,by simp only[costM];omega,fun M hM=>?_⟩;rw[okM,okM];exact⟨by omega,h01 M (by omega),trivial⟩
          ·cases h
        ·cases h
      ·cases h
     ·cases h
theorem arrL_rok(v:List UInt8→Nat→JR JT)(hv:∀l i t n,v l i=.ok (t,n)→Rok l t n)(l:List UInt8)(i:Nat)(t:JT)(n:Nat)(h:arrL v l i=.ok (t,n)):Rok l t n:=by
 unfold arrL at h;dsimp only at h;split at h
 ·rename_i hh
  injection h with h;injection h with h1 h2;subst h1;subst h2;have hb:1+nb (l.drop 1)<l.length:=by
   by_cases hb:1+nb (l.drop 1)<l.length
   ·exact hb
   ·rw[List.drop_of_length_le (by omega)]at hh;simp at hh
  exact⟨by omega,by simp only[cost,costL];omega,fun M _=>by simp[okT,okL]⟩
 ·split at h
  ·cases h
  ·rename_i ts k hr
   obtain⟨g0,g1,g2⟩:=arrF_rok v hv _ _ _ _ _ hr;rw[List.length_drop]at g0 g2;injection h with h;injection h with h1 h2;subst h1;subst h2;exact⟨by omega,by simp only[cost];omega,fun M hM=>by rw[okT];exact g2 M (by omega)⟩
theorem objL_rok(v:List UInt8→Nat→JR JT)(hv:∀l i t n,v l i=.ok (t,n)→Rok l t n)(l:List UInt8)(i:Nat)(t:JT)(n:Nat)(h:objL v l i=.ok (t,n)):Rok l t n:=by
 unfold objL at h;dsimp only at h;split at h
 ·rename_i hh
  injection h with h;injection h with h1 h2;subst h1;subst h2;have hb:1+nb (l.drop 1)<l.length:=by
   by_cases hb:1+nb (l.drop 1)<l.length
   ·exact hb
   ·rw[List.drop_of_length_le (by omega)]at hh;simp at hh
  exact⟨by omega,by simp only[cost,costM];omega,fun M _=>by simp[okT,okM]⟩
 ·split at h
  ·cases h
  ·rename_i ms k hr
   obtain⟨g0,g1,g2⟩:=objF_rok v hv _ _ _ _ _ _ hr;rw[List.length_drop]at g0 g2;injection h with h;injection h with h1 h2;subst h1;subst h2;exact⟨by omega,by simp only[cost];omega,fun M hM=>by rw[okT];exact g2 M (by omega)⟩
theorem valL_rok:∀(d:Nat) (l:List UInt8) (i:Nat) (t:JT) (n:Nat),valL d l i=.ok (t,n)→Rok l t n:=by
 intro d;induction d with
 | zero=>
   intro l i t n h;match l with
   | []=>rw[valL_nil]at h;cases h
   | c::r=>
     rw[valL_cons]at h;generalize (c::r)=L at *;split at h
     ·split at h
      ·cases h
      ·rename_i hq;have:=quotL_lenQ hq;injection h with h;injection h with h1 h2;subst h1;subst h2;exact⟨by omega,by simp only[cost];omega,fun M hM=>by rw[okT];omega⟩
     ·split at h
      ·split at h
       ·cases h
       ·rename_i hq;have:=intL_lenQ hq;injection h with h;injection h with h1 h2;subst h1;subst h2;exact⟨by omega,by simp only[cost];omega,fun M hM=>by rw[okT];omega⟩
      ·split at h
       ·obtain⟨h1,h2,⟨b,rfl⟩|rfl⟩:=wordL_lenQ h
        ·exact⟨h1,by simp only[cost];omega,fun M hM=>by simp[okT]⟩
        ·exact⟨h1,by simp only[cost];omega,fun M hM=>by simp[okT]⟩
       ·split at h<;>cases h
 | succ d ih=>
   intro l i t n h;match l with
   | []=>rw[valL_nil]at h;cases h
   | c::r=>
     rw[valL_cons]at h;generalize (c::r)=L at *;split at h
     ·split at h
      ·cases h
      ·rename_i hq;have:=quotL_lenQ hq;injection h with h;injection h with h1 h2;subst h1;subst h2;exact⟨by omega,by simp only[cost];omega,fun M hM=>by rw[okT];omega⟩
     ·split at h
      ·split at h
       ·cases h
       ·rename_i hq;have:=intL_lenQ hq;injection h with h;injection h with h1 h2;subst h1;subst h2;exact⟨by omega,by simp only[cost];omega,fun M hM=>by rw[okT];omega⟩
      ·split at h
       ·obtain⟨h1,h2,⟨b,rfl⟩|rfl⟩:=wordL_lenQ h
        ·exact⟨h1,by simp only[cost];omega,fun M hM=>by simp[okT]⟩
        ·exact⟨h1,by simp only[cost];omega,fun M hM=>by simp[okT]⟩
       ·split at h
        ·dsimp only at h
         split at h
         ·exact arrL_rok _ ih _ _ _ _ h
         ·exact objL_rok _ ih _ _ _ _ h
        ·cases h
theorem readL_rok{l:List UInt8}{t:JT}(h:readL l=.ok t):cost t≤1966080∧okT 65536 t∧t.size≤65536:=by
 unfold readL at h;split at h
 ·cases h
 ·rename_i hl
  dsimp only at h;split at h
  ·cases h
  ·rename_i t' n hv
   obtain⟨h0,h1,h2⟩:=valL_rok _ _ _ _ _ hv;have h3:=valL_size _ _ _ _ _ hv;rw[List.length_drop]at h0 h2;split at h
   ·cases h
   ·injection h with h;subst h
    exact⟨by omega,h2 65536 (by omega),by omega⟩
end Go.Proofs.YtaghclgookfmnaaGreatDoor
