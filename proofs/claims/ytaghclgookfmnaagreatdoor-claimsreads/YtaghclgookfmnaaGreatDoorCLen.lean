import Derived.Test.YtaghclgookfmnaaGreatDoorCStr
namespace Go.Proofs.YtaghclgookfmnaaGreatDoor
set_option linter.unusedVariables false
theorem drop_lt{s:ByteArray}{p c:Nat}{r:List UInt8}{x:UInt8}(h:(sfx s p).drop c=x::r):p+c<s.size:=by
 rw[sfx_drop]at h;by_cases hx:p+c<s.size
 ·exact hx
 ·rw[sfx_nil s _ (by omega)]at h;cases h
theorem nb_leS(s:ByteArray)(p:Nat)(h:p≤s.size):p+nb (sfx s p)≤s.size:=by have:=nb_le (sfx s p);rw[sfx_length]at this;omega
theorem strF_len(s:ByteArray):∀(f p:Nat) (t:List UInt8) (n:Nat),strF f (sfx s p)=.ok (t,n)→p+n≤s.size:=by
 intro f;induction f with
 | zero=>intro p t n h;simp[strF]at h
 | succ f ih=>
   intro p t n h;by_cases hp:p<s.size
   ·have shift_len:∀(a:List UInt8) (k:Nat) (X:Except Nat (List UInt8×Nat)),(∀t n,X=.ok (t,n)→p+k+n≤s.size)→shiftS a k X=.ok (t,n)→p+n≤s.size:=by
     intro a k X hX hx;cases X with
     | error o=>simp[shiftS]at hx
     | ok q=>obtain⟨t',n'⟩:=q;have:=hX t' n' rfl;simp[shiftS]at hx;omega
    have hc:=sfx_cons s p hp;rw[hc,strF]at h;rw[←hc]at h;split at h
    ·injection h with h;injection h with h1 h2;omega
    ·split at h
     ·cases h
     ·split at h
      ·rw[escL_R]at h
       cases hE:escR (sfx s p)with
       | error o=>rw[hE]at h;cases h
       | ok q=>
         obtain⟨q,k⟩:=q;rw[hE]at h;refine shift_len (wr8 q) k (strF f ((sfx s p).drop k)) (fun t n hh=>?_) h;rw[sfx_drop]at hh;exact ih _ t n hh
      ·split at h
       ·cases h
       ·refine shift_len _ _ _ (fun t n hh=>?_) h
        rw[sfx_drop]at hh;exact ih _ t n hh
   ·rw[sfx_nil s p (by omega)]at h;simp[strF]at h
theorem quotL_len{s:ByteArray}{p:Nat}{t:List UInt8}{n:Nat}(h:quotL (sfx s p)=.ok (t,n)):p+n≤s.size:=by
 by_cases hp:p<s.size
 ·rw[sfx_cons s p hp,quotL]at h
  split at h
  ·unfold strL at h
   cases hs:strF ((sfx s (p+1)).length+1) (sfx s (p+1))with
   | error o=>rw[hs]at h;cases h
   | ok q=>
     obtain⟨t',n'⟩:=q;rw[hs]at h;have:=strF_len s _ _ _ _ hs;injection h with h;injection h with h1 h2;omega
  ·cases h
 ·rw[sfx_nil s p (by omega)]at h;cases h
theorem intL_len{s:ByteArray}{p:Nat}{m:Int}{n:Nat}(h:intL (sfx s p)=.ok (m,n)):p+n≤s.size:=by
 by_cases hp:p<s.size
 ·have hn:=nd_le (sfx s p)
  have hn1:=nd_le (sfx s (p+1));rw[sfx_length]at hn hn1;by_cases hm:(sfx s p).head?=some 45
  ·have hc:sfx s p=45::sfx s (p+1):=by
    rw[sfx_cons s p hp]at hm ⊢;simp at hm;rw[hm]
   rw[intL_minus hc]at h;split at h
   ·cases h
   ·split at h
    ·cases h
    ·injection h with h;injection h with h1 h2;omega
  ·rw[intL_plain hm]at h
   split at h
   ·cases h
   ·split at h
    ·cases h
    ·injection h with h;injection h with h1 h2;omega
 ·rw[sfx_nil s p (by omega)]at h;cases h
theorem wordL_len{s:ByteArray}{p i:Nat}{t:JT}{n:Nat}(h:wordL (sfx s p) i=.ok (t,n))(hp:p≤s.size):p+n≤s.size:=by
 have key:∀(w:List UInt8),(sfx s p).take (nl (sfx s p))=w→p+w.length≤s.size:=by
  intro w hw;have:=congrArg List.length hw;rw[List.length_take,sfx_length]at this;omega
 unfold wordL at h;dsimp only at h;split at h
 ·next hw=>have:=key _ hw;injection h with h;injection h with h1 h2;simp at this;omega
 ·split at h
  ·next hw=>have:=key _ hw;injection h with h;injection h with h1 h2;simp at this;omega
  ·split at h
   ·next hw=>have:=key _ hw;injection h with h;injection h with h1 h2;simp at this;omega
   ·cases h
theorem arrF_len(s:ByteArray)(v:List UInt8→Nat→JR JT)(hv:∀p i t n,v (sfx s p) i=.ok (t,n)→p≤s.size→p+n≤s.size):∀(f p i:Nat) (ts:List JT) (k:Nat),arrF v f (sfx s p) i=.ok (ts,k)→p≤s.size→p+k≤s.size:=by
 intro f;induction f with
 | zero=>intro p i ts k h;simp[arrF]at h
 | succ f ih=>
   intro p i ts k h hp;rw[arrF]at h;dsimp only at h;split at h
   ·cases h
   ·rename_i t n hvt
    split at h
    ·next c r hd=>
     have hl:=drop_lt hd;split at h
     ·split at h
      ·cases h
      ·rename_i ts' k' hr
       rw[sfx_drop]at hr;have:=ih _ _ _ _ hr (by omega);injection h with h;injection h with h1 h2;omega
     ·split at h
      ·injection h with h;injection h with h1 h2;omega
      ·cases h
    ·cases h
theorem objF_len(s:ByteArray)(v:List UInt8→Nat→JR JT):∀(f:Nat) (ks:List (List UInt8)) (p i:Nat) (ms:List (List UInt8×JT)) (k:Nat),objF v f ks (sfx s p) i=.ok (ms,k)→p≤s.size→p+k≤s.size:=by
 intro f;induction f with
 | zero=>intro ks p i ts k h;simp[objF]at h
 | succ f ih=>
   intro ks p i ms k h hp;rw[objF]at h;dsimp only at h;split at h
   ·cases h
   ·split at h
    ·cases h
    ·split at h
     ·split at h
      ·split at h
       ·cases h
       ·split at h
        ·next c r hd=>
         have hl:=drop_lt hd;split at h
         ·split at h
          ·cases h
          ·rename_i ms' k' hr
           rw[sfx_drop]at hr;have:=ih _ _ _ _ _ hr (by omega);injection h with h;injection h with h1 h2;omega
         ·split at h
          ·injection h with h;injection h with h1 h2;omega
          ·cases h
        ·cases h
      ·cases h
     ·cases h
theorem head_drop{s:ByteArray}{p a:Nat}{c:UInt8}(h:((sfx s p).drop a).head?=some c):p+a<s.size:=by rw[sfx_drop]at h;exact head_lt h
theorem valL_len(s:ByteArray):∀(d p i:Nat) (t:JT) (n:Nat),valL d (sfx s p) i=.ok (t,n)→p≤s.size→p+n≤s.size:=by
 intro d;induction d with
 | zero=>
   intro p i t n h hp;by_cases hps:p<s.size
   ·have hc:=sfx_cons s p hps
    rw[hc,valL_cons,←hc]at h;split at h
    ·split at h
     ·cases h
     ·rename_i hq;have:=quotL_len hq;injection h with h;injection h with h1 h2;omega
    ·split at h
     ·split at h
      ·cases h
      ·rename_i hq;have:=intL_len hq;injection h with h;injection h with h1 h2;omega
     ·split at h
      ·exact wordL_len h hp
      ·split at h
       ·cases h
       ·cases h
   ·rw[sfx_nil s p (by omega),valL_nil]at h;cases h
 | succ d ih=>
   intro p i t n h hp;by_cases hps:p<s.size
   ·have hc:=sfx_cons s p hps
    rw[hc,valL_cons,←hc]at h;split at h
    ·split at h
     ·cases h
     ·rename_i hq;have:=quotL_len hq;injection h with h;injection h with h1 h2;omega
    ·split at h
     ·split at h
      ·cases h
      ·rename_i hq;have:=intL_len hq;injection h with h;injection h with h1 h2;omega
     ·split at h
      ·exact wordL_len h hp
      ·split at h
       ·dsimp only at h
        split at h
        ·unfold arrL at h
         dsimp only at h;split at h
         ·next hh=>have:=head_drop hh;injection h with h;injection h with h1 h2;omega
         ·split at h
          ·cases h
          ·rename_i hr
           rw[sfx_drop]at hr;have hb:p+(1+nb (sfx s (p+1)))≤s.size:=by have:=nb_leS s (p+1) (by omega);omega
           rw[sfx_drop]at hr;have:=arrF_len s _ ih _ _ _ _ _ hr hb;injection h with h;injection h with h1 h2;rw[sfx_drop]at h2;omega
        ·unfold objL at h
         dsimp only at h;split at h
         ·next hh=>have:=head_drop hh;injection h with h;injection h with h1 h2;omega
         ·split at h
          ·cases h
          ·rename_i hr
           rw[sfx_drop]at hr;have hb:p+(1+nb (sfx s (p+1)))≤s.size:=by have:=nb_leS s (p+1) (by omega);omega
           rw[sfx_drop]at hr;have:=objF_len s _ _ _ _ _ _ _ hr hb;injection h with h;injection h with h1 h2;rw[sfx_drop]at h2;omega
       ·cases h
   ·rw[sfx_nil s p (by omega),valL_nil]at h;cases h
end Go.Proofs.YtaghclgookfmnaaGreatDoor
