import Derived.Test.YtbbopknnoamkbaaGreatDoorG1
namespace Go.Proofs.YtbbopknnoamkbaaGreatDoor
set_option linter.unusedVariables false
def joinC:List (List UInt8)→List UInt8
 | []=>[]
 | [a]=>a
 | a::b::r=>a++44::joinC (b::r)
theorem joinC_snoc:∀(l:List (List UInt8)) (x:List UInt8),joinC (l++[x])=joinC l++(if l=[]then []else [44])++x
 | [],x=>by simp[joinC]
 | [a],x=>by simp[joinC]
 | a::b::r,x=>by
   have h:=joinC_snoc (b::r) x;simp only[List.cons_append,joinC]at h ⊢;rw[h];simp
theorem bodyTo_take(F:Nat→List UInt8)(ks:List Nat):∀j,j≤ks.length→bodyTo F ks j=joinC ((ks.take j).map F)
 | 0,_=>by simp[bodyTo,joinC]
 | j+1,h=>by
   have hj:j<ks.length:=h;rw[bodyTo,bodyTo_take F ks j (by omega),List.take_add_one,List.getElem?_eq_getElem hj];simp only[Option.toList,List.map_append,List.map_cons,List.map_nil];rw[joinC_snoc];have e:ks.getD j 0=ks[j]:=by rw[List.getD_eq_getElem?_getD,List.getElem?_eq_getElem hj];rfl
   rw[e];by_cases h0:j=0
   ·subst h0;simp
   ·have:(ks.take j).map F≠[]:=by
     intro hh;have h9:=congrArg List.length hh;rw[List.length_map,List.length_take,List.length_nil]at h9;omega
    rw[if_neg h0,if_neg this]
theorem bodyTo_all(F:Nat→List UInt8)(ks:List Nat):bodyTo F ks ks.length=joinC (ks.map F):=by
 rw[bodyTo_take F ks ks.length (Nat.le_refl _),List.take_length]
def insP(x:List UInt8×List UInt8):List (List UInt8×List UInt8)→List (List UInt8×List UInt8)
 | []=>[x]
 | y::r=>if aheadL x.1 y.1=true then y::insP x r else x::y::r
def srtP(l:List (List UInt8×List UInt8)):List (List UInt8×List UInt8):=l.foldl (fun a x=>(insP x a.reverse).reverse) []
theorem insR_map(L:List Nd)(F:Nat→List UInt8)(x:Nat):∀l:List Nat,(insR (ltK L) x l).map (fun k=>(keyL L k,F k))=insP (keyL L x,F x) (l.map fun k=>(keyL L k,F k))
 | []=>rfl
 | y::r=>by
   simp only[insR,List.map_cons,insP];have e:ltK L x y=aheadL (keyL L x) (keyL L y):=rfl;rw[e];split
   ·rw[List.map_cons,insR_map L F x r]
   ·rfl
theorem srt_map(L:List Nd)(F:Nat→List UInt8)(l:List Nat):(srt (ltK L) l).map (fun k=>(keyL L k,F k))=srtP (l.map fun k=>(keyL L k,F k)):=by
 have h:∀(l acc:List Nat),(l.foldl (insL (ltK L)) acc).map (fun k=>(keyL L k,F k))=(l.map fun k=>(keyL L k,F k)).foldl (fun a x=>(insP x a.reverse).reverse) (acc.map fun k=>(keyL L k,F k)):=by
  intro l;induction l with
  | nil=>intro acc;rfl
  | cons x r ih=>
    intro acc;rw[List.foldl_cons,ih,List.map_cons,List.foldl_cons];congr 1
    unfold insL;rw[List.map_reverse,insR_map,List.map_reverse]
 exact h l []
def memP(p:List UInt8×List UInt8):List UInt8:=strT p.1++58::p.2
mutual
def fmT:JT→List UInt8
 | .null _=>[110,117,108,108]
 | .truth b _=>if b then [116,114,117,101]else [102,97,108,115,101]
 | .int n _=>decI n
 | .str t _=>strT t
 | .arr ts _=>91::joinC (fmL ts)++[93]
 | .obj ms _=>123::joinC ((srtP (fmM ms)).map memP)++[125]
def fmL:List JT→List (List UInt8)
 | []=>[]
 | t::r=>fmT t::fmL r
def fmM:List (List UInt8×JT)→List (List UInt8×List UInt8)
 | []=>[]
 | (n,t)::r=>(n,fmT t)::fmM r
end
theorem sub_formL(L:List Nd)(f:Nat)(ih:∀(t:JT) (b:Nat) (key:List UInt8),Sub L b key t→t.size≤f→formN L f b=fmT t):∀(ts:List JT) (b:Nat),SubL L b ts→sizeL ts≤f→(startsL b ts).map (formN L f)=fmL ts
 | [],b,h,hs=>rfl
 | t::r,b,h,hs=>by
   rw[sizeL]at hs;simp only[startsL,List.map_cons,fmL];rw[ih t b [] h.head (by omega),sub_formL L f ih r _ h.tail (by omega)]
theorem sub_formM(L:List Nd)(f:Nat)(ih:∀(t:JT) (b:Nat) (key:List UInt8),Sub L b key t→t.size≤f→formN L f b=fmT t):∀(ms:List (List UInt8×JT)) (b:Nat),SubM L b ms→sizeM ms≤f→(startsM b ms).map (fun k=>(keyL L k,formN L f k))=fmM ms
 | [],b,h,hs=>rfl
 | (n,t)::r,b,h,hs=>by
   rw[sizeM]at hs;simp only[startsM,List.map_cons,fmM];rw[ih t b n h.head (by omega),h.head.key,sub_formM L f ih r _ h.tail (by omega)]
theorem sub_form(L:List Nd):∀(f:Nat) (t:JT) (b:Nat) (key:List UInt8),Sub L b key t→t.size≤f→formN L f b=fmT t:=by
 intro f;induction f with
 | zero=>intro t b key h hs;have:=size_pos t;omega
 | succ f ih=>
   intro t b key h hs;have hf:=h.first;cases t with
   | null a=>simp[flat]at hf;simp[formN,hf,fmT]
   | truth x a=>simp[flat]at hf;cases x<;>simp[formN,hf,fmT]
   | int n a=>simp[flat]at hf;simp[formN,hf,fmT]
   | str x a=>simp[flat]at hf;simp[formN,hf,fmT]
   | arr ts a=>
     simp[flat]at hf;simp only[formN,hf];simp only[JT.size]at hs;rw[if_neg (by decide),if_neg (by decide),if_neg (by decide),if_neg (by decide),if_pos trivial,bodyTo_all,sub_formL L f ih ts (b+1) h.arr (by omega),fmT]
   | obj ms a=>
     simp[flat]at hf;simp only[formN,hf];simp only[JT.size]at hs;have hl:(startsM (b+1) ms).length=(srt (ltK L) (startsM (b+1) ms)).length:=(srt_len _ _).symm;rw[if_neg (by decide),if_neg (by decide),if_neg (by decide),if_neg (by decide),if_neg (by decide),hl,bodyTo_all,fmT];have e:(srt (ltK L) (startsM (b+1) ms)).map (memF L (formN L f))=((srt (ltK L) (startsM (b+1) ms)).map (fun k=>(keyL L k,formN L f k))).map memP:=by
      rw[List.map_map];rfl
     rw[e,srt_map,sub_formM L f ih ms (b+1) h.obj (by omega)]
theorem prF_form(t:JT):prF (.ok t)=(fmT t,0,0):=by
 unfold prF;simp only;rw[flat_length,sub_form (flat 0 [] t) t.size t 0 [] (fun j hj=>by rw[Nat.zero_add]) (Nat.le_refl _)]
end Go.Proofs.YtbbopknnoamkbaaGreatDoor
