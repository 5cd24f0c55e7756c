import Derived.Test.YtbbopknnoamkbaaGreatDoorG1
namespace Go.Proofs.YtbbopknnoamkbaaGreatDoor
set_option linter.unusedVariables false
def Beh(x:List UInt8):Prop:=∀c r,x=c::r→isD c=false∧isL c=false
theorem nb_ext:∀(y x:List UInt8) (c:UInt8) (r:List UInt8),y.drop (nb y)=c::r→nb (y++x)=nb y
 | [],x,c,r,h=>by simp at h
 | a::y,x,c,r,h=>by
   rw[List.cons_append,nb,nb];by_cases ha:isB a=true
   ·rw[if_pos ha,if_pos ha]
    rw[nb,if_pos ha,List.drop_succ_cons]at h;rw[nb_ext y x c r h]
   ·rw[if_neg ha,if_neg ha]
theorem drop_ext(l x:List UInt8)(k:Nat)(h:k≤l.length):(l++x).drop k=l.drop k++x:=List.drop_append_of_le_length h
theorem nb_at(l x:List UInt8)(k:Nat)(hk:k≤l.length)(c:UInt8)(r:List UInt8)(h:l.drop (k+nb (l.drop k))=c::r):nb ((l++x).drop k)=nb (l.drop k)∧(l++x).drop (k+nb (l.drop k))=c::(r++x):=by
 have h':(l.drop k).drop (nb (l.drop k))=c::r:=by rw[List.drop_drop];exact h
 have hlt:=drop_ltQ h;refine⟨?_,?_⟩
 ·rw[drop_ext l x k hk];exact nb_ext _ x c r h'
 ·rw[drop_ext l x _ (by omega),h,List.cons_append]
theorem seqLen_ext(l x:List UInt8)(h:seqLen l≠0):seqLen (l++x)=seqLen l:=by
 obtain⟨h1,h2⟩:=seqLen_take l h;have hl:(l.take (seqLen l)).length=seqLen l:=by rw[List.length_take];omega
 have hne:l.take (seqLen l)≠[]:=fun e=>by rw[e]at hl;simp at hl;omega
 have:=seqLen_app (l.take (seqLen l)) (l.drop (seqLen l)++x) hne (by rw[h1,hl]);rw[←List.append_assoc,List.take_append_drop]at this;rw[this,hl]
theorem fourG_ext:∀(k n:Nat) (l x:List UInt8) (o m e:Nat),fourG k n l o=(some m,e)→fourG k n (l++x) o=(some m,e)
 | 0,n,l,x,o,m,e,h=>by simpa [fourG]using h
 | k+1,n,[],x,o,m,e,h=>by simp[fourG]at h
 | k+1,n,c::r,x,o,m,e,h=>by
   rw[List.cons_append];rw[fourG]at h ⊢;cases hc:hexv c with
   | none=>rw[hc]at h;simp at h
   | some d=>
     rw[hc]at h;simp only at h ⊢;exact fourG_ext k _ r x _ m e h
theorem lowL_ext(l x:List UInt8)(m:Nat)(h:lowL l=some m):lowL (l++x)=some m:=by
 match l with
 | []=>simp[lowL]at h
 | [a]=>simp[lowL]at h
 | a::b::r=>
   rw[List.cons_append,List.cons_append];unfold lowL at h ⊢;simp only at h ⊢;split at h
   ·rename_i hab
    rw[if_pos hab];cases hf:(four4 r).1 with
    | none=>rw[hf]at h;simp at h
    | some n=>
      rw[hf]at h;have hf':four4 r=(some n,(four4 r).2):=Prod.ext hf rfl;have:=fourG_ext 4 0 r x 0 _ _ hf';have h4:four4 (r++x)=(some n,(four4 r).2):=this;rw[h4];exact h
   ·cases h
theorem escL_ext(l x t:List UInt8)(n:Nat)(h:escL l=.ok (t,n)):escL (l++x)=.ok (t,n):=by
 match l with
 | []=>simp[escL]at h
 | [a]=>simp[escL]at h
 | a::c::r=>
   rw[List.cons_append,List.cons_append];unfold escL at h ⊢;simp only at h ⊢;cases hc:esc1 c with
   | some b=>rw[hc]at h;simpa using h
   | none=>
     rw[hc]at h;simp only at h ⊢;split at h
     ·rename_i h117
      rw[if_pos h117];cases hf:four4 r with
      | mk o e=>
        cases o with
        | none=>rw[hf]at h;simp at h
        | some m=>
          rw[hf]at h;have h4:four4 (r++x)=(some m,e):=fourG_ext 4 0 r x 0 _ _ hf;rw[h4];simp only at h ⊢;have hr:4≤r.length:=fourG_lenQ 4 0 r 0 _ _ hf;rw[drop_ext r x 4 hr];unfold pairL at h ⊢;split at h
          ·rename_i hm;rw[if_pos hm];exact h
          ·rename_i hm
           rw[if_neg hm];cases hl:lowL (r.drop 4)with
           | none=>rw[hl]at h;simp at h
           | some q=>
             rw[hl]at h;rw[lowL_ext _ x q hl];exact h
     ·cases h
theorem strF_ext:∀(f f':Nat) (l x t:List UInt8) (n:Nat),f≤f'→strF f l=.ok (t,n)→strF f' (l++x)=.ok (t,n):=by
 intro f;induction f with
 | zero=>intro f' l x t n _ h;simp[strF]at h
 | succ f ih=>
   intro f' l x t n hf h;obtain⟨f',rfl⟩:∃g,f'=g+1:=⟨f'-1,by omega⟩;match l with
   | []=>simp[strF]at h
   | c::r=>
     have key:∀(acc:List UInt8) (k:Nat),k≤(c::r).length→shiftS acc k (strF f ((c::r).drop k))=.ok (t,n)→shiftS acc k (strF f' ((c::r++x).drop k))=.ok (t,n):=by
      intro acc k hk hh;rw[drop_ext _ x k hk];cases hs:strF f ((c::r).drop k)with
      | error o=>rw[hs]at hh;simp[shiftS]at hh
      | ok q=>
        obtain⟨t',n'⟩:=q;rw[hs]at hh;rw[ih f' _ x t' n' (by omega) hs];exact hh
     rw[List.cons_append];rw[strF]at h ⊢;split at h
     ·rename_i h34;rw[if_pos h34];exact h
     ·rename_i h34
      rw[if_neg h34];split at h
      ·cases h
      ·rename_i h32
       rw[if_neg h32];split at h
       ·rename_i h92
        rw[if_pos h92];cases he:escL (c::r)with
        | error o=>rw[he]at h;simp at h
        | ok q=>
          obtain⟨t',n'⟩:=q;rw[he]at h;have he':=escL_ext (c::r) x t' n' he;rw[List.cons_append]at he';rw[he'];exact key t' n' (escL_lenQ he) h
       ·rename_i h92
        rw[if_neg h92];split at h
        ·cases h
        ·rename_i hq
         have hx:=seqLen_ext (c::r) x hq;rw[List.cons_append]at hx;have hle:=(seqLen_take (c::r) hq).2;rw[hx,if_neg hq];have ht:(c::(r++x)).take (seqLen (c::r))=(c::r).take (seqLen (c::r)):=by rw[←List.cons_append];exact List.take_append_of_le_length hle
         rw[ht];exact key _ _ hle h
theorem quotL_ext{l t:List UInt8}{n:Nat}(x:List UInt8)(h:quotL l=.ok (t,n)):quotL (l++x)=.ok (t,n):=by
 match l with
 | []=>simp[quotL]at h
 | c::r=>
   rw[List.cons_append];unfold quotL at h ⊢;simp only at h ⊢;split at h
   ·rename_i hc
    rw[if_pos hc];cases hs:strL r with
    | error o=>rw[hs]at h;simp at h
    | ok q=>
      obtain⟨t',n'⟩:=q;rw[hs]at h;have:strL (r++x)=.ok (t',n'):=strF_ext _ _ r x t' n' (by rw[List.length_append];omega) hs;rw[this];exact h
   ·cases h
theorem nd_ext(l x:List UInt8)(hx:Beh x):nd (l++x)=nd l:=by
 induction l with
 | nil=>
   match x with
   | []=>rfl
   | c::r=>simp[nd,(hx c r rfl).1]
 | cons c r ih=>rw[List.cons_append,nd,nd,ih]
theorem nl_ext(l x:List UInt8)(hx:Beh x):nl (l++x)=nl l:=by
 induction l with
 | nil=>
   match x with
   | []=>rfl
   | c::r=>simp[nl,(hx c r rfl).2]
 | cons c r ih=>rw[List.cons_append,nl,nl,ih]
theorem nl_le:∀l:List UInt8,nl l≤l.length
 | []=>Nat.le_refl _
 | c::r=>by rw[nl];have:=nl_le r;split<;>simp<;>omega
theorem intL_ext{l:List UInt8}{m:Int}{n:Nat}(x:List UInt8)(hx:Beh x)(h:intL l=.ok (m,n)):intL (l++x)=.ok (m,n):=by
 have h1:=intL_lenQ h;match l with
 | []=>simp at h1;omega
 | c::r=>
   unfold intL at h ⊢;dsimp only at h ⊢;rw[List.cons_append,List.head?_cons];rw[List.head?_cons]at h;rw[←List.cons_append];generalize ha:(if some c=some (45:UInt8)then 1 else 0)=a at h ⊢;have hal:a≤(c::r).length:=by rw[←ha];split<;>simp
   rw[drop_ext _ x a hal,nd_ext _ x hx];have hnd:=nd_le ((c::r).drop a);by_cases h0:nd ((c::r).drop a)=0
   ·rw[h0]at h;simp at h
   ·have hne:(c::r).drop a≠[]:=fun e=>by rw[e]at h0;exact h0 rfl
    have hh:((c::r).drop a++x).head?=((c::r).drop a).head?:=by
     cases hq:(c::r).drop a with
     | nil=>exact absurd hq hne
     | cons b s=>rfl
    rw[hh,List.take_append_of_le_length hnd];exact h
theorem wordL_ext{l:List UInt8}{i n:Nat}{t:JT}(x:List UInt8)(hx:Beh x)(h:wordL l i=.ok (t,n)):wordL (l++x) i=.ok (t,n):=by
 unfold wordL at h ⊢;dsimp only at h ⊢;rw[nl_ext l x hx,List.take_append_of_le_length (nl_le l)];exact h
def Ext(x:List UInt8)(v:List UInt8→Nat→JR JT):Prop:=∀l i t n,v l i=.ok (t,n)→n≤l.length∧v (l++x) i=.ok (t,n)
theorem arrF_ext(x:List UInt8)(v:List UInt8→Nat→JR JT)(hv:Ext x v):∀(f f':Nat) (l:List UInt8) (i:Nat) (ts:List JT) (k:Nat),f≤f'→arrF v f l i=.ok (ts,k)→arrF v f' (l++x) i=.ok (ts,k):=by
 intro f;induction f with
 | zero=>intro f' l i ts k _ h;simp[arrF]at h
 | succ f ih=>
   intro f' l i ts k hf h;obtain⟨f',rfl⟩:∃g,f'=g+1:=⟨f'-1,by omega⟩;rw[arrF]at h ⊢;dsimp only at h ⊢;cases hq:v (l.drop (nb l)) (i+nb l)with
   | error e=>rw[hq]at h;simp at h
   | ok q=>
     obtain⟨t,n⟩:=q;rw[hq]at h;dsimp only at h;obtain⟨hn,hvx⟩:=hv _ _ _ _ hq;rw[List.length_drop]at hn;have hnbl:=nb_le l;have hnb0:nb (l++x)=nb l:=by
      by_cases hlt:nb l<l.length
      ·exact nb_ext l x _ _ (List.drop_eq_getElem_cons hlt)
      ·have hn0:n=0:=by omega
       exfalso;rw[List.drop_of_length_le (by omega)]at hq h;subst hn0;rw[Nat.add_zero,List.drop_of_length_le (by omega)]at h;simp[nb,List.drop_of_length_le (show l.length≤nb l by omega)]at h
     rw[hnb0,drop_ext l x (nb l) hnbl,hvx];dsimp only;cases hd:l.drop (nb l+n+nb (l.drop (nb l+n)))with
     | nil=>rw[hd]at h;simp at h
     | cons c r=>
       rw[hd]at h;dsimp only at h;obtain⟨e1,e2⟩:=nb_at l x (nb l+n) (by omega) c r hd;have hlt:=drop_ltQ hd;rw[e1,e2];dsimp only;split at h
       ·rename_i h44
        rw[if_pos h44];rw[drop_ext l x _ (by omega)];cases hr:arrF v f (l.drop (nb l+n+nb (l.drop (nb l+n))+1)) (i+(nb l+n+nb (l.drop (nb l+n))+1))with
        | error e=>rw[hr]at h;simp at h
        | ok z=>
          obtain⟨ts',k'⟩:=z;rw[hr]at h;rw[ih f' _ _ ts' k' (by omega) hr];exact h
       ·rename_i h44
        rw[if_neg h44];exact h
theorem objF_ext(x:List UInt8)(v:List UInt8→Nat→JR JT)(hv:Ext x v):∀(f f':Nat) (ks:List (List UInt8)) (l:List UInt8) (i:Nat) (ms:List (List UInt8×JT)) (k:Nat),f≤f'→objF v f ks l i=.ok (ms,k)→objF v f' ks (l++x) i=.ok (ms,k):=by
 intro f;induction f with
 | zero=>intro f' ks l i ts k _ h;simp[objF]at h
 | succ f ih=>
   intro f' ks l i ms k hf h;obtain⟨f',rfl⟩:∃g,f'=g+1:=⟨f'-1,by omega⟩;rw[objF]at h ⊢;dsimp only at h ⊢;cases hq:quotL (l.drop (nb l))with
   | error e=>rw[hq]at h;simp at h
   | ok q=>
     obtain⟨name,m⟩:=q;rw[hq]at h;dsimp only at h;have hm:=quotL_lenQ hq;rw[List.length_drop]at hm;have hnbl:=nb_le l;have hnb0:nb (l++x)=nb l:=nb_ext l x _ _ (List.drop_eq_getElem_cons (show nb l<l.length by omega));rw[hnb0,drop_ext l x (nb l) hnbl,quotL_ext x hq];dsimp only;split at h
     ·cases h
     ·rename_i hks
      rw[if_neg hks];cases hd:l.drop (nb l+m+nb (l.drop (nb l+m)))with
      | nil=>rw[hd]at h;simp at h
      | cons c r=>
        rw[hd]at h;dsimp only at h;obtain⟨e1,e2⟩:=nb_at l x (nb l+m) (by omega) c r hd;have hlt:=drop_ltQ hd;rw[e1,e2];dsimp only;generalize nb l+m+nb (l.drop (nb l+m))=B at *;split at h
        ·rename_i h58
         rw[if_pos h58];cases hw:v (l.drop (B+1+nb (l.drop (B+1)))) (i+(B+1+nb (l.drop (B+1))))with
         | error e=>rw[hw]at h;simp at h
         | ok q=>
           obtain⟨t,n⟩:=q;rw[hw]at h;dsimp only at h;obtain⟨hn,hvx⟩:=hv _ _ _ _ hw;rw[List.length_drop]at hn;have hb1:=nb_le (l.drop (B+1));rw[List.length_drop]at hb1;cases hg:l.drop (B+1+nb (l.drop (B+1))+n+nb (l.drop (B+1+nb (l.drop (B+1))+n)))with
           | nil=>rw[hg]at h;simp at h
           | cons c2 r2=>
             rw[hg]at h;dsimp only at h;have hlt2:=drop_ltQ hg;have hnb1:nb ((l++x).drop (B+1))=nb (l.drop (B+1)):=by
              rw[drop_ext l x _ (by omega)];by_cases hz:nb (l.drop (B+1))<(l.drop (B+1)).length
              ·exact nb_ext _ x _ _ (List.drop_eq_getElem_cons hz)
              ·exfalso;rw[List.length_drop]at hz;omega
             rw[hnb1];rw[drop_ext l x (B+1+nb (l.drop (B+1))) (by omega),hvx];dsimp only;obtain⟨e3,e4⟩:=nb_at l x (B+1+nb (l.drop (B+1))+n) (by omega) c2 r2 hg;rw[e3,e4];dsimp only;split at h
             ·rename_i h44
              rw[if_pos h44];rw[drop_ext l x _ (by omega)];generalize B+1+nb (l.drop (B+1))+n+nb (l.drop (B+1+nb (l.drop (B+1))+n))=D at *;cases hr:objF v f (ks++[name]) (l.drop (D+1)) (i+(D+1))with
              | error e=>rw[hr]at h;simp at h
              | ok z=>
                obtain⟨ms',k'⟩:=z;rw[hr]at h;rw[ih f' _ _ _ ms' k' (by omega) hr];exact h
             ·rename_i h44
              rw[if_neg h44];exact h
        ·cases h
theorem arrL_ext(x:List UInt8)(v:List UInt8→Nat→JR JT)(hv:Ext x v)(l:List UInt8)(i:Nat)(t:JT)(n:Nat)(h:arrL v l i=.ok (t,n)):arrL v (l++x) i=.ok (t,n):=by
 unfold arrL at h ⊢;dsimp only at h ⊢;have hb:=nb_le (l.drop 1);rw[List.length_drop]at hb;cases hd:l.drop (1+nb (l.drop 1))with
 | nil=>
   rw[hd]at h;simp at h;split at h
   ·cases h
   ·rename_i ts k hr
    exfalso;rw[arrF]at hr;dsimp only at hr;simp only[nb,List.drop_nil]at hr;split at hr
    ·cases hr
    ·cases hr
 | cons c r=>
   have hlt:=drop_ltQ hd;obtain⟨e1,e2⟩:=nb_at l x 1 (by omega) c r hd;rw[e1,e2,List.head?_cons];rw[hd,List.head?_cons]at h;split at h
   ·rename_i h93;rw[if_pos h93];exact h
   ·rename_i h93
    rw[if_neg h93];cases hr:arrF v (l.length+1) (c::r) (i+(1+nb (l.drop 1)))with
    | error e=>rw[hr]at h;simp at h
    | ok z=>
      obtain⟨ts,k⟩:=z;rw[hr]at h;have:=arrF_ext x v hv _ ((l++x).length+1) _ _ _ _ (by rw[List.length_append];omega) hr;rw[List.cons_append]at this;rw[this];exact h
theorem objL_ext(x:List UInt8)(v:List UInt8→Nat→JR JT)(hv:Ext x v)(l:List UInt8)(i:Nat)(t:JT)(n:Nat)(h:objL v l i=.ok (t,n)):objL v (l++x) i=.ok (t,n):=by
 unfold objL at h ⊢;dsimp only at h ⊢;have hb:=nb_le (l.drop 1);rw[List.length_drop]at hb;cases hd:l.drop (1+nb (l.drop 1))with
 | nil=>
   rw[hd]at h;simp at h;split at h
   ·cases h
   ·rename_i ts k hr
    exfalso;rw[objF]at hr;simp[nb,quotL]at hr
 | cons c r=>
   have hlt:=drop_ltQ hd;obtain⟨e1,e2⟩:=nb_at l x 1 (by omega) c r hd;rw[e1,e2,List.head?_cons];rw[hd,List.head?_cons]at h;split at h
   ·rename_i h93;rw[if_pos h93];exact h
   ·rename_i h93
    rw[if_neg h93];cases hr:objF v (l.length+1) [] (c::r) (i+(1+nb (l.drop 1)))with
    | error e=>rw[hr]at h;simp at h
    | ok z=>
      obtain⟨ts,k⟩:=z;rw[hr]at h;have:=objF_ext x v hv _ ((l++x).length+1) _ _ _ _ _ (by rw[List.length_append];omega) hr;rw[List.cons_append]at this;rw[this];exact h
theorem valL_ext(x:List UInt8)(hx:Beh x):∀d,Ext x (valL d):=by
 intro d;induction d with
 | zero=>
   intro l i t n h;refine⟨(valL_rok _ _ _ _ _ h).1,?_⟩;match l with
   | []=>rw[valL_nil]at h;cases h
   | c::r=>
     rw[List.cons_append];rw[valL_cons]at h ⊢;rw[←List.cons_append];generalize (c::r)=L at *;split at h
     ·rename_i h1
      rw[if_pos h1];cases hq:quotL L with
      | error e=>rw[hq]at h;simp at h
      | ok q=>rw[hq]at h;rw[quotL_ext x hq];exact h
     ·rename_i h1
      rw[if_neg h1];split at h
      ·rename_i h2
       rw[if_pos h2];cases hq:intL L with
       | error e=>rw[hq]at h;simp at h
       | ok q=>rw[hq]at h;rw[intL_ext x hx hq];exact h
      ·rename_i h2
       rw[if_neg h2];split at h
       ·rename_i h3
        rw[if_pos h3];exact wordL_ext x hx h
       ·split at h<;>cases h
 | succ d ih=>
   intro l i t n h;refine⟨(valL_rok _ _ _ _ _ h).1,?_⟩;match l with
   | []=>rw[valL_nil]at h;cases h
   | c::r=>
     rw[List.cons_append];rw[valL_cons]at h ⊢;rw[←List.cons_append];generalize (c::r)=L at *;split at h
     ·rename_i h1
      rw[if_pos h1];cases hq:quotL L with
      | error e=>rw[hq]at h;simp at h
      | ok q=>rw[hq]at h;rw[quotL_ext x hq];exact h
     ·rename_i h1
      rw[if_neg h1];split at h
      ·rename_i h2
       rw[if_pos h2];cases hq:intL L with
       | error e=>rw[hq]at h;simp at h
       | ok q=>rw[hq]at h;rw[intL_ext x hx hq];exact h
      ·rename_i h2
       rw[if_neg h2];split at h
       ·rename_i h3
        rw[if_pos h3];exact wordL_ext x hx h
       ·rename_i h3
        rw[if_neg h3];split at h
        ·rename_i h4
         rw[if_pos h4];dsimp only at h ⊢;split at h
         ·rename_i h5
          rw[if_pos h5];exact arrL_ext x _ ih _ _ _ _ h
         ·rename_i h5
          rw[if_neg h5];exact objL_ext x _ ih _ _ _ _ h
        ·cases h
mutual
def mvT(k:Nat):JT→JT
 | .null a=>.null (a+k)
 | .truth b a=>.truth b (a+k)
 | .int n a=>.int n (a+k)
 | .str t a=>.str t (a+k)
 | .arr ts a=>.arr (mvL k ts) (a+k)
 | .obj ms a=>.obj (mvM k ms) (a+k)
def mvL(k:Nat):List JT→List JT
 | []=>[]
 | t::r=>mvT k t::mvL k r
def mvM(k:Nat):List (List UInt8×JT)→List (List UInt8×JT)
 | []=>[]
 | (n,t)::r=>(n,mvT k t)::mvM k r
end
def mv1(k:Nat):JR JT→JR JT
 | .ok (t,n)=>.ok (mvT k t,n)
 | .error (e,a)=>.error (e,a+k)
def mvA(k:Nat):JR (List JT)→JR (List JT)
 | .ok (t,n)=>.ok (mvL k t,n)
 | .error (e,a)=>.error (e,a+k)
def mvO(k:Nat):JR (List (List UInt8×JT))→JR (List (List UInt8×JT))
 | .ok (t,n)=>.ok (mvM k t,n)
 | .error (e,a)=>.error (e,a+k)
theorem wordL_mv(l:List UInt8)(i k:Nat):wordL l (i+k)=mv1 k (wordL l i):=by
 unfold wordL;dsimp only;repeat' split
 all_goals simp[mv1,mvT]
theorem arrF_mv(k:Nat)(v:List UInt8→Nat→JR JT)(hv:∀l i,v l (i+k)=mv1 k (v l i)):∀(f:Nat) (l:List UInt8) (i:Nat),arrF v f l (i+k)=mvA k (arrF v f l i):=by
 intro f;induction f with
 | zero=>intro l i;simp[arrF,mvA]
 | succ f ih=>
   intro l i;rw[arrF,arrF];dsimp only;rw[show i+k+nb l=i+nb l+k by omega,hv];cases v (l.drop (nb l)) (i+nb l)with
   | error e=>obtain⟨e,a⟩:=e;simp[mv1,mvA]
   | ok q=>
     obtain⟨t,n⟩:=q;simp only[mv1];generalize nb l+n+nb (l.drop (nb l+n))=b;cases l.drop b with
     | nil=>simp[mvA];omega
     | cons c r=>
       dsimp only;split
       ·rw[show i+k+(b+1)=i+(b+1)+k by omega,ih]
        cases arrF v f (l.drop (b+1)) (i+(b+1))with
        | error e=>obtain⟨e,a⟩:=e;simp[mvA]
        | ok z=>obtain⟨ts,m⟩:=z;simp[mvA,mvL]
       ·split
        ·simp[mvA,mvL]
        ·simp[mvA];omega
theorem objF_mv(k:Nat)(v:List UInt8→Nat→JR JT)(hv:∀l i,v l (i+k)=mv1 k (v l i)):∀(f:Nat) (ks:List (List UInt8)) (l:List UInt8) (i:Nat),objF v f ks l (i+k)=mvO k (objF v f ks l i):=by
 intro f;induction f with
 | zero=>intro ks l i;simp[objF,mvO]
 | succ f ih=>
   intro ks l i;rw[objF,objF];dsimp only;cases quotL (l.drop (nb l))with
   | error o=>simp[mvO];omega
   | ok q=>
     obtain⟨name,m⟩:=q;dsimp only;split
     ·simp[mvO];omega
     ·generalize nb l+m+nb (l.drop (nb l+m))=b
      cases l.drop b with
      | nil=>simp[mvO];omega
      | cons c r=>
        dsimp only;split
        ·generalize b+1+nb (l.drop (b+1))=d
         rw[show i+k+d=i+d+k by omega,hv];cases v (l.drop d) (i+d)with
         | error e=>obtain⟨e,a⟩:=e;simp[mv1,mvO]
         | ok q=>
           obtain⟨t,n⟩:=q;simp only[mv1];generalize d+n+nb (l.drop (d+n))=g;cases l.drop g with
           | nil=>simp[mvO];omega
           | cons c r=>
             dsimp only;split
             ·rw[show i+k+(g+1)=i+(g+1)+k by omega,ih]
              cases objF v f (ks++[name]) (l.drop (g+1)) (i+(g+1))with
              | error e=>obtain⟨e,a⟩:=e;simp[mvO]
              | ok z=>obtain⟨ts,m⟩:=z;simp[mvO,mvM]
             ·split
              ·simp[mvO,mvM]
              ·simp[mvO];omega
        ·simp[mvO];omega
theorem arrL_mv(k:Nat)(v:List UInt8→Nat→JR JT)(hv:∀l i,v l (i+k)=mv1 k (v l i))(l:List UInt8)(i:Nat):arrL v l (i+k)=mv1 k (arrL v l i):=by
 unfold arrL;dsimp only;split
 ·simp[mv1,mvT,mvL]
 ·generalize 1+nb (l.drop 1)=a
  rw[show i+k+a=i+a+k by omega,arrF_mv k v hv];cases arrF v (l.length+1) (l.drop a) (i+a)with
  | error e=>obtain⟨e,a⟩:=e;simp[mv1,mvA]
  | ok z=>obtain⟨ts,m⟩:=z;simp[mv1,mvA,mvT]
theorem objL_mv(k:Nat)(v:List UInt8→Nat→JR JT)(hv:∀l i,v l (i+k)=mv1 k (v l i))(l:List UInt8)(i:Nat):objL v l (i+k)=mv1 k (objL v l i):=by
 unfold objL;dsimp only;split
 ·simp[mv1,mvT,mvM]
 ·generalize 1+nb (l.drop 1)=a
  rw[show i+k+a=i+a+k by omega,objF_mv k v hv];cases objF v (l.length+1) [] (l.drop a) (i+a)with
  | error e=>obtain⟨e,a⟩:=e;simp[mv1,mvO]
  | ok z=>obtain⟨ts,m⟩:=z;simp[mv1,mvO,mvT]
theorem valL_mv(k:Nat):∀(d:Nat) (l:List UInt8) (i:Nat),valL d l (i+k)=mv1 k (valL d l i):=by
 intro d;induction d with
 | zero=>
   intro l i;match l with
   | []=>rw[valL_nil,valL_nil];simp[mv1]
   | c::r=>
     rw[valL_cons,valL_cons];generalize (c::r)=L;split
     ·cases quotL L with
      | error o=>simp[mv1];omega
      | ok q=>obtain⟨t,n⟩:=q;simp[mv1,mvT]
     ·split
      ·cases intL L with
       | error o=>obtain⟨e,o⟩:=o;simp[mv1];omega
       | ok q=>obtain⟨t,n⟩:=q;simp[mv1,mvT]
      ·split
       ·exact wordL_mv L i k
       ·split<;>simp[mv1]
 | succ d ih=>
   intro l i;match l with
   | []=>rw[valL_nil,valL_nil];simp[mv1]
   | c::r=>
     rw[valL_cons,valL_cons];generalize (c::r)=L;split
     ·cases quotL L with
      | error o=>simp[mv1];omega
      | ok q=>obtain⟨t,n⟩:=q;simp[mv1,mvT]
     ·split
      ·cases intL L with
       | error o=>obtain⟨e,o⟩:=o;simp[mv1];omega
       | ok q=>obtain⟨t,n⟩:=q;simp[mv1,mvT]
      ·split
       ·exact wordL_mv L i k
       ·split
        ·dsimp only
         split
         ·exact arrL_mv k _ ih L i
         ·exact objL_mv k _ ih L i
        ·simp[mv1]
def Blk(b:List UInt8):Prop:=∀c∈b,isB c=true
theorem nb_blk(b s:List UInt8)(h:Blk b):nb (b++s)=b.length+nb s:=by
 induction b with
 | nil=>simp
 | cons c r ih=>
   rw[List.cons_append,nb,if_pos (h c (by simp)),ih (fun x hx=>h x (List.mem_cons_of_mem _ hx))];simp;omega
def mvR(k:Nat):Except (Nat×Nat) JT→Except (Nat×Nat) JT
 | .ok t=>.ok (mvT k t)
 | .error (e,a)=>.error (e,a+k)
theorem readL_ahead(b s:List UInt8)(h:Blk b)(hl:b.length+s.length≤65536):readL (b++s)=mvR b.length (readL s):=by
 unfold readL;rw[if_neg (by rw[List.length_append];omega),if_neg (by omega)];dsimp only;rw[nb_blk b s h];have hd:(b++s).drop (b.length+nb s)=s.drop (nb s):=by rw[←List.drop_drop,List.drop_left' rfl]
 rw[hd,Nat.add_comm b.length,valL_mv];cases valL 32 (s.drop (nb s)) (nb s)with
 | error e=>obtain⟨e,a⟩:=e;simp[mv1,mvR]
 | ok q=>
   obtain⟨t,n⟩:=q;simp only[mv1];have hd2:(b++s).drop (nb s+b.length+n)=s.drop (nb s+n):=by
    rw[show nb s+b.length+n=b.length+(nb s+n)by omega,←List.drop_drop,List.drop_left' rfl]
   rw[hd2,List.length_append];by_cases hb:nb s+n+nb (s.drop (nb s+n))<s.length
   ·rw[if_pos (by omega),if_pos hb];simp[mvR];omega
   ·rw[if_neg (by omega),if_neg hb];simp[mvR]
theorem readL_behind(s b:List UInt8)(t:JT)(h:Blk b)(hl:s.length+b.length≤65536)(hr:readL s=.ok t):readL (s++b)=.ok t:=by
 have hB:Beh b:=fun c r e=>by
  have hc:=h c (by rw[e];simp);unfold isB at hc;simp only[Bool.or_eq_true,beq_iff_eq]at hc;rcases hc with((rfl|rfl)|rfl)|rfl<;>decide
 unfold readL at hr ⊢;rw[if_neg (by omega)]at hr;rw[if_neg (by rw[List.length_append];omega)];dsimp only at hr ⊢;cases hv:valL 32 (s.drop (nb s)) (nb s)with
 | error e=>rw[hv]at hr;simp at hr
 | ok q=>
   obtain⟨t',n⟩:=q;rw[hv]at hr;dsimp only at hr;obtain⟨hn,hx⟩:=valL_ext b hB 32 _ _ _ _ hv;rw[List.length_drop]at hn;have hnbl:=nb_le s;have hlt:nb s<s.length:=by
    by_cases hlt:nb s<s.length
    ·exact hlt
    ·rw[List.drop_of_length_le (by omega),valL_nil]at hv;cases hv
   have hnb0:nb (s++b)=nb s:=nb_ext s b _ _ (List.drop_eq_getElem_cons hlt);rw[hnb0,drop_ext s b _ hnbl,hx];dsimp only;have hend:¬(nb s+n+nb (s.drop (nb s+n))<s.length):=by
    intro hc;rw[if_pos hc]at hr;cases hr
   rw[if_neg hend]at hr;have hle:=nb_le (s.drop (nb s+n));rw[List.length_drop]at hle;have hall:nb ((s++b).drop (nb s+n))=s.length-(nb s+n)+b.length:=by
    rw[drop_ext s b _ (by omega)];have hz:nb (s.drop (nb s+n))=(s.drop (nb s+n)).length:=by rw[List.length_drop];omega
    have hblk:Blk (s.drop (nb s+n)):=by
     have:∀l:List UInt8,nb l=l.length→Blk l:=by
      intro l;induction l with
      | nil=>intro _ c hc;simp at hc
      | cons c r ih=>
        intro hl;rw[nb]at hl;split at hl
        ·rename_i hc
         intro x hxm;rcases List.mem_cons.1 hxm with rfl|hxm
         ·exact hc
         ·exact ih (by simpa using hl) x hxm
        ·simp at hl
     exact this _ hz
    have e1:=nb_blk (s.drop (nb s+n)) b hblk;have e2:nb b=b.length:=by
     have:=nb_blk b [] h;simpa [nb]using this
    rw[e1,e2,List.length_drop]
   rw[hall,if_neg (by rw[List.length_append];omega)];exact hr
def mvN(k:Nat)(n:Nd):Nd:={n with at':=n.at'+k}
mutual
theorem mvT_size(k:Nat):∀t:JT,(mvT k t).size=t.size
 | .null a=>rfl
 | .truth b a=>rfl
 | .int n a=>rfl
 | .str t a=>rfl
 | .arr ts a=>by simp only[mvT,JT.size];rw[mvL_size k ts]
 | .obj ms a=>by simp only[mvT,JT.size];rw[mvM_size k ms]
theorem mvL_size(k:Nat):∀ts:List JT,sizeL (mvL k ts)=sizeL ts
 | []=>rfl
 | t::r=>by simp only[mvL,sizeL];rw[mvT_size k t,mvL_size k r]
theorem mvM_size(k:Nat):∀ms:List (List UInt8×JT),sizeM (mvM k ms)=sizeM ms
 | []=>rfl
 | (n,t)::r=>by simp only[mvM,sizeM];rw[mvT_size k t,mvM_size k r]
end
theorem starts_mvL(k:Nat):∀(ts:List JT) (b:Nat),startsL b (mvL k ts)=startsL b ts
 | [],b=>rfl
 | t::r,b=>by simp only[mvL,startsL];rw[mvT_size k t,starts_mvL k r]
theorem starts_mvM(k:Nat):∀(ms:List (List UInt8×JT)) (b:Nat),startsM b (mvM k ms)=startsM b ms
 | [],b=>rfl
 | (n,t)::r,b=>by simp only[mvM,startsM];rw[mvT_size k t,starts_mvM k r]
mutual
theorem flat_mv(k:Nat):∀(t:JT) (b:Nat) (key:List UInt8),flat b key (mvT k t)=(flat b key t).map (mvN k)
 | .null a,b,key=>rfl
 | .truth x a,b,key=>rfl
 | .int n a,b,key=>rfl
 | .str t a,b,key=>rfl
 | .arr ts a,b,key=>by simp only[mvT,flat,List.map_cons];rw[flat_mvL k ts,starts_mvL];rfl
 | .obj ms a,b,key=>by simp only[mvT,flat,List.map_cons];rw[flat_mvM k ms,starts_mvM];rfl
theorem flat_mvL(k:Nat):∀(ts:List JT) (b:Nat),flatL b (mvL k ts)=(flatL b ts).map (mvN k)
 | [],b=>rfl
 | t::r,b=>by simp only[mvL,flatL,List.map_append];rw[flat_mv k t,flat_mvL k r,mvT_size]
theorem flat_mvM(k:Nat):∀(ms:List (List UInt8×JT)) (b:Nat),flatM b (mvM k ms)=(flatM b ms).map (mvN k)
 | [],b=>rfl
 | (n,t)::r,b=>by simp only[mvM,flatM,List.map_append];rw[flat_mv k t,flat_mvM k r,mvT_size]
end
theorem keyL_mv(k:Nat)(L:List Nd)(i:Nat):keyL (L.map (mvN k)) i=keyL L i:=by
 unfold keyL;rw[List.getElem?_map];cases L[i]?<;>rfl
theorem ltK_mv(k:Nat)(L:List Nd):ltK (L.map (mvN k))=ltK L:=by
 funext a b;unfold ltK;rw[keyL_mv,keyL_mv]
theorem formN_mv(k:Nat)(L:List Nd):∀f,formN (L.map (mvN k)) f=formN L f:=by
 intro f;induction f with
 | zero=>funext i;rfl
 | succ f ih=>
   have hm:memF (L.map (mvN k)) (formN L f)=memF L (formN L f):=by funext i;unfold memF;rw[keyL_mv]
   funext i
   simp only[formN];rw[List.getElem?_map,ih,ltK_mv,hm];cases L[i]? with
   | none=>rfl
   | some n=>rfl
theorem prF_mv(k:Nat)(t:JT):prF (.ok (mvT k t))=prF (.ok t):=by
 unfold prF;simp only;rw[flat_mv,List.length_map,formN_mv]
theorem fourG_lim:∀(k n:Nat) (l:List UInt8) (o e:Nat),fourG k n l o=(none,e)→e≤o+l.length
 | 0,n,l,o,e,h=>by simp[fourG]at h
 | k+1,n,[],o,e,h=>by simp[fourG]at h;omega
 | k+1,n,c::r,o,e,h=>by
   rw[fourG]at h;cases hc:hexv c with
   | none=>rw[hc]at h;simp at h;omega
   | some d=>
     rw[hc]at h;have:=fourG_lim k _ r _ e h;simp;omega
theorem escL_lim(l:List UInt8)(o:Nat)(hl:l≠[])(h:escL l=.error o):o≤l.length:=by
 match l with
 | []=>exact absurd rfl hl
 | [a]=>simp[escL]at h;simp;omega
 | a::c::r=>
   unfold escL at h;simp only at h;cases hc:esc1 c with
   | some b=>rw[hc]at h;simp at h
   | none=>
     rw[hc]at h;simp only at h;split at h
     ·cases hf:four4 r with
      | mk q e=>
        rw[hf]at h;cases q with
        | none=>simp at h;have:=fourG_lim 4 0 r 0 e hf;simp;omega
        | some m=>
          simp only at h;unfold pairL at h;repeat' split at h
          all_goals first|(cases h;exact Nat.zero_le _)|cases h
     ·simp at h;simp;omega
theorem strF_lim:∀(f:Nat) (l:List UInt8) (o:Nat),strF f l=.error o→o≤l.length:=by
 intro f;induction f with
 | zero=>intro l o h;simp[strF]at h;omega
 | succ f ih=>
   intro l o h;match l with
   | []=>simp[strF]at h;simp;omega
   | c::r=>
     have key:∀(acc:List UInt8) (k:Nat),k≤(c::r).length→shiftS acc k (strF f ((c::r).drop k))=.error o→o≤(c::r).length:=by
      intro acc k hk hh;cases hs:strF f ((c::r).drop k)with
      | ok q=>obtain⟨t,n⟩:=q;rw[hs]at hh;simp[shiftS]at hh
      | error o'=>
        have:=ih _ _ hs;rw[List.length_drop]at this;rw[hs]at hh;simp only[shiftS,Except.error.injEq]at hh;omega
     rw[strF]at h;split at h
     ·cases h
     ·split at h
      ·injection h with h;omega
      ·split at h
       ·cases he:escL (c::r)with
        | error o'=>rw[he]at h;simp at h;have:=escL_lim _ _ (by simp) he;omega
        | ok q=>obtain⟨t,n⟩:=q;rw[he]at h;exact key t n (escL_lenQ he) h
       ·split at h
        ·injection h with h;omega
        ·rename_i hq
         exact key _ _ (seqLen_take _ hq).2 h
theorem quotL_lim(l:List UInt8)(o:Nat)(h:quotL l=.error o):o≤l.length:=by
 match l with
 | []=>simp[quotL]at h;omega
 | c::r=>
   unfold quotL at h;simp only at h;split at h
   ·cases hs:strL r with
    | ok q=>obtain⟨t,n⟩:=q;rw[hs]at h;simp at h
    | error o'=>rw[hs]at h;simp at h;have:=strF_lim _ _ _ hs;simp;omega
   ·injection h with h;omega
theorem intL_lim(l:List UInt8)(e o:Nat)(h:intL l=.error (e,o)):o≤l.length:=by
 unfold intL at h;dsimp only at h;have hm:(if l.head?=some 45 then 1 else 0)≤l.length:=by
  split
  ·rename_i hh
   cases l with
   | nil=>simp at hh
   | cons c r=>simp
  ·omega
 generalize (if l.head?=some 45 then 1 else 0)=m at h hm;split at h
 ·injection h with h;injection h with h1 h2;omega
 ·split at h
  ·injection h with h;injection h with h1 h2;omega
  ·cases h
mutual
def inT(M:Nat):JT→Prop
 | .null a=>a≤M
 | .truth _ a=>a≤M
 | .int _ a=>a≤M
 | .str _ a=>a≤M
 | .arr ts a=>a≤M∧inL M ts
 | .obj ms a=>a≤M∧inM M ms
def inL(M:Nat):List JT→Prop
 | []=>True
 | t::r=>inT M t∧inL M r
def inM(M:Nat):List (List UInt8×JT)→Prop
 | []=>True
 | (_,t)::r=>inT M t∧inM M r
end
def lim1(M:Nat):JR JT→Prop
 | .ok (t,_)=>inT M t
 | .error (_,a)=>a≤M
def limA(M:Nat):JR (List JT)→Prop
 | .ok (t,_)=>inL M t
 | .error (_,a)=>a≤M
def limO(M:Nat):JR (List (List UInt8×JT))→Prop
 | .ok (t,_)=>inM M t
 | .error (_,a)=>a≤M
theorem arrF_lim(M:Nat)(v:List UInt8→Nat→JR JT)(hn:∀l i t n,v l i=.ok (t,n)→n≤l.length)(hv:∀l i,i+l.length≤M→lim1 M (v l i)):∀(f:Nat) (l:List UInt8) (i:Nat),i+l.length≤M→limA M (arrF v f l i):=by
 intro f;induction f with
 | zero=>intro l i h;simp[arrF,limA];omega
 | succ f ih=>
   intro l i h;rw[arrF];dsimp only;have hb:=nb_le l;have h1:=hv (l.drop (nb l)) (i+nb l) (by rw[List.length_drop];omega);have h2:=hn (l.drop (nb l)) (i+nb l);cases hq:v (l.drop (nb l)) (i+nb l)with
   | error e=>rw[hq]at h1;exact h1
   | ok q=>
     obtain⟨t,n⟩:=q;rw[hq]at h1;have h3:=h2 t n hq;rw[List.length_drop]at h3;dsimp only;have hb2:=nb_le (l.drop (nb l+n));rw[List.length_drop]at hb2;generalize hB:nb l+n+nb (l.drop (nb l+n))=b at *;have hbl:b≤l.length:=by omega
     cases hd:l.drop b with
     | nil=>show _≤M;omega
     | cons c r=>
       have hlt:=drop_ltQ hd;dsimp only;split
       ·have h4:=ih (l.drop (b+1)) (i+(b+1)) (by rw[List.length_drop];omega)
        cases hr:arrF v f (l.drop (b+1)) (i+(b+1))with
        | error e=>rw[hr]at h4;exact h4
        | ok z=>obtain⟨ts,m⟩:=z;rw[hr]at h4;simp only[limA,inL];exact⟨h1,h4⟩
       ·split
        ·simp only[limA,inL];exact⟨h1,trivial⟩
        ·show _≤M;omega
theorem objF_lim(M:Nat)(v:List UInt8→Nat→JR JT)(hn:∀l i t n,v l i=.ok (t,n)→n≤l.length)(hv:∀l i,i+l.length≤M→lim1 M (v l i)):∀(f:Nat) (ks:List (List UInt8)) (l:List UInt8) (i:Nat),i+l.length≤M→limO M (objF v f ks l i):=by
 intro f;induction f with
 | zero=>intro ks l i h;simp[objF,limO];omega
 | succ f ih=>
   intro ks l i h;rw[objF];dsimp only;have hb:=nb_le l;cases hq:quotL (l.drop (nb l))with
   | error o=>
     have:=quotL_lim _ _ hq;rw[List.length_drop]at this;show _≤M;omega
   | ok q=>
     obtain⟨name,m⟩:=q;have hm:=quotL_lenQ hq;rw[List.length_drop]at hm;dsimp only;split
     ·show _≤M;omega
     ·have hb2:=nb_le (l.drop (nb l+m))
      rw[List.length_drop]at hb2;generalize hB:nb l+m+nb (l.drop (nb l+m))=b at *;cases hd:l.drop b with
      | nil=>show _≤M;omega
      | cons c r=>
        have hlt:=drop_ltQ hd;dsimp only;split
        ·have hb3:=nb_le (l.drop (b+1))
         rw[List.length_drop]at hb3;generalize hD:b+1+nb (l.drop (b+1))=d at *;have h1:=hv (l.drop d) (i+d) (by rw[List.length_drop];omega);have h2:=hn (l.drop d) (i+d);cases hw:v (l.drop d) (i+d)with
         | error e=>rw[hw]at h1;exact h1
         | ok q=>
           obtain⟨t,n⟩:=q;rw[hw]at h1;have h3:=h2 t n hw;rw[List.length_drop]at h3;dsimp only;have hb4:=nb_le (l.drop (d+n));rw[List.length_drop]at hb4;generalize hG:d+n+nb (l.drop (d+n))=g at *;cases hd2:l.drop g with
           | nil=>show _≤M;omega
           | cons c2 r2=>
             have hlt2:=drop_ltQ hd2;dsimp only;split
             ·have h4:=ih (ks++[name]) (l.drop (g+1)) (i+(g+1)) (by rw[List.length_drop];omega)
              cases hr:objF v f (ks++[name]) (l.drop (g+1)) (i+(g+1))with
              | error e=>rw[hr]at h4;exact h4
              | ok z=>obtain⟨ts,m⟩:=z;rw[hr]at h4;simp only[limO,inM];exact⟨h1,h4⟩
             ·split
              ·simp only[limO,inM];exact⟨h1,trivial⟩
              ·show _≤M;omega
        ·show _≤M;omega
theorem wordL_lim(M:Nat)(l:List UInt8)(i:Nat)(h:i≤M):lim1 M (wordL l i):=by
 unfold wordL;dsimp only;repeat' split
 all_goals simpa [lim1,inT]using h
theorem valL_lim(M:Nat):∀(d:Nat) (l:List UInt8) (i:Nat),i+l.length≤M→lim1 M (valL d l i):=by
 intro d;induction d with
 | zero=>
   intro l i h;match l,h with
   | [],h=>rw[valL_nil];show _≤M;simp at h;omega
   | c::r,h=>
     have hL1:1≤(c::r).length:=by simp
     rw[valL_cons];generalize (c::r)=L at *;split
     ·cases hq:quotL L with
      | error o=>have:=quotL_lim _ _ hq;show _≤M;omega
      | ok q=>obtain⟨t,n⟩:=q;show _≤M;omega
     ·split
      ·cases hq:intL L with
       | error o=>obtain⟨e,o⟩:=o;have:=intL_lim _ _ _ hq;show _≤M;omega
       | ok q=>obtain⟨t,n⟩:=q;show _≤M;omega
      ·split
       ·exact wordL_lim M L i (by omega)
       ·split
        ·show _≤M;omega
        ·show _≤M;omega
 | succ d ih=>
   intro l i h;match l,h with
   | [],h=>rw[valL_nil];show _≤M;simp at h;omega
   | c::r,h=>
     have hL1:1≤(c::r).length:=by simp
     rw[valL_cons];generalize (c::r)=L at *;split
     ·cases hq:quotL L with
      | error o=>have:=quotL_lim _ _ hq;show _≤M;omega
      | ok q=>obtain⟨t,n⟩:=q;show _≤M;omega
     ·split
      ·cases hq:intL L with
       | error o=>obtain⟨e,o⟩:=o;have:=intL_lim _ _ _ hq;show _≤M;omega
       | ok q=>obtain⟨t,n⟩:=q;show _≤M;omega
      ·split
       ·exact wordL_lim M L i (by omega)
       ·split
        ·have hn:∀l i t n,valL d l i=.ok (t,n)→n≤l.length:=fun l i t n hh=>(valL_rok _ _ _ _ _ hh).1
         have hb:=nb_le (L.drop 1);rw[List.length_drop]at hb;dsimp only;split
         ·unfold arrL
          dsimp only;split
          ·simp only[lim1,inT,inL];exact⟨by omega,trivial⟩
          ·by_cases hz:1+nb (L.drop 1)≤L.length
           ·have:=arrF_lim M (valL d) hn ih (L.length+1) (L.drop (1+nb (L.drop 1))) (i+(1+nb (L.drop 1))) (by rw[List.length_drop];omega)
            cases hr:arrF (valL d) (L.length+1) (L.drop (1+nb (L.drop 1))) (i+(1+nb (L.drop 1)))with
            | error e=>rw[hr]at this;exact this
            | ok z=>obtain⟨ts,m⟩:=z;rw[hr]at this;simp only[lim1,inT];exact⟨by omega,this⟩
           ·exfalso;omega
         ·unfold objL
          dsimp only;split
          ·simp only[lim1,inT,inM];exact⟨by omega,trivial⟩
          ·by_cases hz:1+nb (L.drop 1)≤L.length
           ·have:=objF_lim M (valL d) hn ih (L.length+1) [] (L.drop (1+nb (L.drop 1))) (i+(1+nb (L.drop 1))) (by rw[List.length_drop];omega)
            cases hr:objF (valL d) (L.length+1) [] (L.drop (1+nb (L.drop 1))) (i+(1+nb (L.drop 1)))with
            | error e=>rw[hr]at this;exact this
            | ok z=>obtain⟨ts,m⟩:=z;rw[hr]at this;simp only[lim1,inT];exact⟨by omega,this⟩
           ·exfalso;omega
        ·show _≤M;omega
mutual
theorem inT_flat(M:Nat):∀(t:JT) (b:Nat) (key:List UInt8),inT M t→∀n∈flat b key t,n.at'≤M
 | .null a,b,key,h,n,hn=>by simp[flat]at hn;subst hn;exact h
 | .truth x a,b,key,h,n,hn=>by simp[flat]at hn;subst hn;exact h
 | .int x a,b,key,h,n,hn=>by simp[flat]at hn;subst hn;exact h
 | .str x a,b,key,h,n,hn=>by simp[flat]at hn;subst hn;exact h
 | .arr ts a,b,key,h,n,hn=>by
   rw[inT]at h;rw[flat]at hn;rcases List.mem_cons.1 hn with rfl|hn
   ·exact h.1
   ·exact inL_flat M ts _ h.2 n hn
 | .obj ms a,b,key,h,n,hn=>by
   rw[inT]at h;rw[flat]at hn;rcases List.mem_cons.1 hn with rfl|hn
   ·exact h.1
   ·exact inM_flat M ms _ h.2 n hn
theorem inL_flat(M:Nat):∀(ts:List JT) (b:Nat),inL M ts→∀n∈flatL b ts,n.at'≤M
 | [],b,h,n,hn=>by simp[flatL]at hn
 | t::r,b,h,n,hn=>by
   rw[inL]at h;rw[flatL]at hn;rcases List.mem_append.1 hn with hn|hn
   ·exact inT_flat M t _ _ h.1 n hn
   ·exact inL_flat M r _ h.2 n hn
theorem inM_flat(M:Nat):∀(ms:List (List UInt8×JT)) (b:Nat),inM M ms→∀n∈flatM b ms,n.at'≤M
 | [],b,h,n,hn=>by simp[flatM]at hn
 | (k,t)::r,b,h,n,hn=>by
   rw[inM]at h;rw[flatM]at hn;rcases List.mem_append.1 hn with hn|hn
   ·exact inT_flat M t _ _ h.1 n hn
   ·exact inM_flat M r _ h.2 n hn
end
theorem readL_lim(l:List UInt8):(∀e a,readL l=.error (e,a)→a≤65536)∧(∀t,readL l=.ok t→∀n∈flat 0 [] t,n.at'≤65536):=by
 unfold readL;by_cases hl:65536<l.length
 ·rw[if_pos hl]
  exact⟨fun e a h=>by injection h with h;injection h with h1 h2;omega,fun t h=>by cases h⟩
 ·rw[if_neg hl]
  dsimp only;have hb:=nb_le l;have hv:=valL_lim 65536 32 (l.drop (nb l)) (nb l) (by rw[List.length_drop];omega);cases hq:valL 32 (l.drop (nb l)) (nb l)with
  | error ea=>
    obtain⟨e0,a0⟩:=ea;rw[hq]at hv;exact⟨fun e a h=>by injection h with h;injection h with h1 h2;subst h2;exact hv,fun t h=>by cases h⟩
  | ok q=>
    obtain⟨t0,n⟩:=q;rw[hq]at hv;dsimp only;constructor
    ·intro e a h
     split at h
     ·injection h with h;injection h with h1 h2;omega
     ·cases h
    ·intro t h
     split at h
     ·cases h
     ·injection h with h;subst h
      exact inT_flat 65536 t0 0 [] hv
def Mono(v u:List UInt8→Nat→JR JT):Prop:=∀l i t n,v l i=.ok (t,n)→u l i=.ok (t,n)
theorem arrF_mono(v u:List UInt8→Nat→JR JT)(hv:Mono v u):∀(f:Nat) (l:List UInt8) (i:Nat) (ts:List JT) (k:Nat),arrF v f l i=.ok (ts,k)→arrF u f l i=.ok (ts,k):=by
 intro f;induction f with
 | zero=>intro l i ts k h;simp[arrF]at h
 | succ f ih=>
   intro l i ts k h;rw[arrF]at h ⊢;dsimp only at h ⊢;cases hq:v (l.drop (nb l)) (i+nb l)with
   | error e=>rw[hq]at h;simp at h
   | ok q=>
     obtain⟨t,n⟩:=q;rw[hq]at h;rw[hv _ _ _ _ hq];dsimp only at h ⊢;generalize nb l+n+nb (l.drop (nb l+n))=b at *;cases hd:l.drop b with
     | nil=>rw[hd]at h;simp at h
     | cons c r=>
       rw[hd]at h;dsimp only at h ⊢;split at h
       ·rename_i h44
        rw[if_pos h44];cases hr:arrF v f (l.drop (b+1)) (i+(b+1))with
        | error e=>rw[hr]at h;simp at h
        | ok z=>obtain⟨ts',k'⟩:=z;rw[hr]at h;rw[ih _ _ ts' k' hr];exact h
       ·rename_i h44
        rw[if_neg h44];exact h
theorem objF_mono(v u:List UInt8→Nat→JR JT)(hv:Mono v u):∀(f:Nat) (ks:List (List UInt8)) (l:List UInt8) (i:Nat) (ms:List (List UInt8×JT)) (k:Nat),objF v f ks l i=.ok (ms,k)→objF u f ks l i=.ok (ms,k):=by
 intro f;induction f with
 | zero=>intro ks l i ts k h;simp[objF]at h
 | succ f ih=>
   intro ks l i ms k h;rw[objF]at h ⊢;dsimp only at h ⊢;cases hq:quotL (l.drop (nb l))with
   | error e=>rw[hq]at h;simp at h
   | ok q=>
     obtain⟨name,m⟩:=q;rw[hq]at h;dsimp only at h ⊢;split at h
     ·cases h
     ·rename_i hks
      rw[if_neg hks];generalize nb l+m+nb (l.drop (nb l+m))=b at *;cases hd:l.drop b with
      | nil=>rw[hd]at h;simp at h
      | cons c r=>
        rw[hd]at h;dsimp only at h ⊢;split at h
        ·rename_i h58
         rw[if_pos h58];generalize b+1+nb (l.drop (b+1))=d at *;cases hw:v (l.drop d) (i+d)with
         | error e=>rw[hw]at h;simp at h
         | ok q=>
           obtain⟨t,n⟩:=q;rw[hw]at h;rw[hv _ _ _ _ hw];dsimp only at h ⊢;generalize d+n+nb (l.drop (d+n))=g at *;cases hg:l.drop g with
           | nil=>rw[hg]at h;simp at h
           | cons c2 r2=>
             rw[hg]at h;dsimp only at h ⊢;split at h
             ·rename_i h44
              rw[if_pos h44];cases hr:objF v f (ks++[name]) (l.drop (g+1)) (i+(g+1))with
              | error e=>rw[hr]at h;simp at h
              | ok z=>obtain⟨ms',k'⟩:=z;rw[hr]at h;rw[ih _ _ _ ms' k' hr];exact h
             ·rename_i h44
              rw[if_neg h44];exact h
        ·cases h
theorem valL_mono:∀d,Mono (valL d) (valL (d+1)):=by
 intro d;induction d with
 | zero=>
   intro l i t n h;match l with
   | []=>rw[valL_nil]at h;cases h
   | c::r=>
     rw[valL_cons]at h ⊢;generalize (c::r)=L at *;split at h
     ·rename_i h1;rw[if_pos h1];exact h
     ·rename_i h1
      rw[if_neg h1];split at h
      ·rename_i h2;rw[if_pos h2];exact h
      ·rename_i h2
       rw[if_neg h2];split at h
       ·rename_i h3;rw[if_pos h3];exact h
       ·split at h<;>cases h
 | succ d ih=>
   intro l i t n h;match l with
   | []=>rw[valL_nil]at h;cases h
   | c::r=>
     rw[valL_cons]at h ⊢;generalize (c::r)=L at *;split at h
     ·rename_i h1;rw[if_pos h1];exact h
     ·rename_i h1
      rw[if_neg h1];split at h
      ·rename_i h2;rw[if_pos h2];exact h
      ·rename_i h2
       rw[if_neg h2];split at h
       ·rename_i h3;rw[if_pos h3];exact h
       ·rename_i h3
        rw[if_neg h3];split at h
        ·rename_i h4
         rw[if_pos h4];dsimp only at h ⊢;split at h
         ·rename_i h5
          rw[if_pos h5];unfold arrL at h ⊢;dsimp only at h ⊢;split at h
          ·rename_i h6;rw[if_pos h6];exact h
          ·rename_i h6
           rw[if_neg h6];cases hr:arrF (valL d) (L.length+1) (L.drop (1+nb (L.drop 1))) (i+(1+nb (L.drop 1)))with
           | error e=>rw[hr]at h;simp at h
           | ok z=>obtain⟨ts,k⟩:=z;rw[hr]at h;rw[arrF_mono _ _ ih _ _ _ _ _ hr];exact h
         ·rename_i h5
          rw[if_neg h5];unfold objL at h ⊢;dsimp only at h ⊢;split at h
          ·rename_i h6;rw[if_pos h6];exact h
          ·rename_i h6
           rw[if_neg h6];cases hr:objF (valL d) (L.length+1) [] (L.drop (1+nb (L.drop 1))) (i+(1+nb (L.drop 1)))with
           | error e=>rw[hr]at h;simp at h
           | ok z=>obtain⟨ts,k⟩:=z;rw[hr]at h;rw[objF_mono _ _ ih _ _ _ _ _ _ hr];exact h
        ·cases h
end Go.Proofs.YtbbopknnoamkbaaGreatDoor
