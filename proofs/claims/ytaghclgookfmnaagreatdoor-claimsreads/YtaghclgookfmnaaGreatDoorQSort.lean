import Derived.Test.YtaghclgookfmnaaGreatDoorQName
namespace Go.Proofs.YtaghclgookfmnaaGreatDoor
set_option linter.unusedVariables false
theorem getD_app(a r:List UInt8)(k:Nat)(h:k<a.length):(a++r).getD k 0=a.getD k 0:=by
 rw[List.getD_eq_getElem?_getD,List.getD_eq_getElem?_getD,List.getElem?_append_left h]
theorem runeTo_app(a r:List UInt8)(n:Nat):∀k,k<a.length→runeTo (a++r) n k=runeTo a n k:=by
 intro k;induction k with
 | zero=>intro h;simp only[runeTo];rw[getD_app a r 0 h]
 | succ k ih=>intro h;simp only[runeTo];rw[ih (by omega),getD_app a r _ h]
theorem stepL_app(a r:List UInt8)(h0:a≠[])(h:seqLen a=a.length):stepL (a++r)=a.length∧stepL a=a.length:=by
 have hp:=List.length_pos_iff.2 h0;unfold stepL;rw[seqLen_app a r h0 h,h,if_neg (by omega)];exact⟨rfl,rfl⟩
theorem runeL_app(a r:List UInt8)(h0:a≠[])(h:seqLen a=a.length):runeL (a++r)=runeL a:=by
 have hp:=List.length_pos_iff.2 h0;unfold runeL;rw[(stepL_app a r h0 h).1,(stepL_app a r h0 h).2,runeTo_app a r _ _ (by omega)]
theorem unitsL_app(a r:List UInt8)(h0:a≠[])(h:seqLen a=a.length):unitsL (a++r)=unitR (runeL a)++unitsL r:=by
 rw[unitsL_step _ (by simp[h0]),runeL_app a r h0 h,(stepL_app a r h0 h).1,List.drop_left' rfl]
theorem u8_ext(x:Nat)(b:UInt8)(h:x=b.toNat):UInt8.ofNat x=b:=by subst h;simp
theorem rune_seq(a:List UInt8)(h0:a≠[])(h:seqLen a=a.length):wr8 (runeL a)=a∧(runeL a<55296∨57343<runeL a)∧runeL a<1114112:=by
 have hst:=(stepL_app a [] h0 h).2;unfold runeL;rw[hst];match a,h0 with
 | c::a',_=>
   have hc:=c.toNat_lt;unfold seqLen at h;simp only at h;by_cases h1:c.toNat<128
   ·rw[if_pos h1]at h
    simp at h;subst h;have e1:runeTo [c] [c].length ([c].length-1)=c.toNat:=by simp[runeTo]
    rw[e1];refine⟨?_,by omega,by omega⟩;unfold wr8;rw[if_pos h1,u8_ext _ c rfl]
   ·rw[if_neg h1]at h
    by_cases h2:c.toNat<194∨244<c.toNat
    ·rw[if_pos h2]at h;simp at h
    ·rw[if_neg h2]at h
     split at h
     ·rename_i hg
      simp only[Bool.and_eq_true,Bool.or_eq_true,decide_eq_true_eq]at hg;obtain⟨⟨g1,g2⟩,g3⟩:=hg;by_cases h3:c.toNat<224
      ·have e:seqN c.toNat=2:=by unfold seqN;rw[if_pos h3]
       have hl:seqLo c.toNat=128:=by unfold seqLo;rw[if_neg (by omega),if_neg (by omega)]
       have hh:seqHi c.toNat=191:=by unfold seqHi;rw[if_neg (by omega),if_neg (by omega)]
       rw[e]at h;rw[hl,hh]at g1;match a',h with
       | [d],_=>
         rw[goesL0 d rfl]at g1;simp only[Bool.and_eq_true,decide_eq_true_eq]at g1;simp only[List.length_cons,List.length_nil,runeTo,Nat.zero_add,Nat.reduceAdd,Nat.reduceSub,List.getD_cons_zero,List.getD_cons_succ,Nat.reducePow,Nat.reduceLeDiff,if_false];refine⟨?_,by omega,by omega⟩;unfold wr8;rw[if_neg (by omega),if_pos (by omega),u8_ext _ c (by omega),u8_ext _ d (by omega)]
      ·by_cases h4:c.toNat<240
       ·have e:seqN c.toNat=3:=by unfold seqN;rw[if_neg h3,if_pos h4]
        rw[e]at h g2;match a',h with
        | [d,e2],_=>
          rw[goesL0 d rfl]at g1;rw[goesL0 e2 rfl]at g2;simp only[Bool.and_eq_true,decide_eq_true_eq]at g1 g2;have g2':128≤e2.toNat∧e2.toNat≤191:=g2.resolve_left (by omega);have gl:128≤d.toNat∧d.toNat≤191∧(c.toNat=224→160≤d.toNat)∧(c.toNat=237→d.toNat≤159):=by
           unfold seqLo seqHi at g1;obtain⟨p1,p2⟩:=g1;repeat' split at p1
           all_goals repeat' split at p2
           all_goals refine⟨?_,?_,?_,?_⟩
           all_goals omega
          simp only[List.length_cons,List.length_nil,runeTo,Nat.zero_add,Nat.reduceAdd,Nat.reduceSub,List.getD_cons_zero,List.getD_cons_succ,Nat.reducePow,Nat.reduceLeDiff,if_false];refine⟨?_,by omega,by omega⟩;unfold wr8;rw[if_neg (by omega),if_neg (by omega),if_pos (by omega),u8_ext _ c (by omega),u8_ext _ d (by omega),u8_ext _ e2 (by omega)]
       ·have e:seqN c.toNat=4:=by unfold seqN;rw[if_neg h3,if_neg h4]
        rw[e]at h g2 g3;match a',h with
        | [d,e2,f2],_=>
          rw[goesL0 d rfl]at g1;rw[goesL0 e2 rfl]at g2;rw[goesL0 f2 rfl]at g3;simp only[Bool.and_eq_true,decide_eq_true_eq]at g1 g2 g3;have g2':128≤e2.toNat∧e2.toNat≤191:=g2.resolve_left (by omega);have g3':128≤f2.toNat∧f2.toNat≤191:=g3.resolve_left (by omega);have gl:128≤d.toNat∧d.toNat≤191∧(c.toNat=240→144≤d.toNat)∧(c.toNat=244→d.toNat≤143):=by
           unfold seqLo seqHi at g1;obtain⟨p1,p2⟩:=g1;repeat' split at p1
           all_goals repeat' split at p2
           all_goals refine⟨?_,?_,?_,?_⟩
           all_goals omega
          simp only[List.length_cons,List.length_nil,runeTo,Nat.zero_add,Nat.reduceAdd,Nat.reduceSub,List.getD_cons_zero,List.getD_cons_succ,Nat.reducePow,Nat.reduceLeDiff,if_false];refine⟨?_,by omega,by omega⟩;unfold wr8;rw[if_neg (by omega),if_neg (by omega),if_neg (by omega),u8_ext _ c (by omega),u8_ext _ d (by omega),u8_ext _ e2 (by omega),u8_ext _ f2 (by omega)]
     ·simp at h
theorem unitR_inj(x y:Nat)(r s:List Nat)(hx:(x<55296∨57343<x)∧x<1114112)(hy:(y<55296∨57343<y)∧y<1114112)(h:unitR x++r=unitR y++s):x=y∧r=s:=by
 unfold unitR at h;by_cases h1:x<65536
 ·rw[if_pos h1]at h
  by_cases h2:y<65536
  ·rw[if_pos h2]at h
   simp at h;exact h
  ·rw[if_neg h2]at h
   simp at h;omega
 ·rw[if_neg h1]at h
  by_cases h2:y<65536
  ·rw[if_pos h2]at h
   simp at h;omega
  ·rw[if_neg h2]at h
   simp at h;refine⟨by omega,h.2.2⟩
theorem units_inj{a:List UInt8}(ha:U8 a):∀{b:List UInt8},U8 b→unitsL a=unitsL b→a=b:=by
 induction ha with
 | nil=>
   intro b hb h;cases hb with
   | nil=>rfl
   | cons x r h0 hx hr=>
     rw[unitsL_nil,unitsL_app x r h0 hx]at h;have h9:=congrArg List.length h;have hp:=unitR_pos (runeL x);rw[List.length_append,List.length_nil]at h9;omega
 | cons x r h0 hx _ ih=>
   intro b hb h;cases hb with
   | nil=>
     rw[unitsL_nil,unitsL_app x r h0 hx]at h;have h9:=congrArg List.length h;have hp:=unitR_pos (runeL x);rw[List.length_append,List.length_nil]at h9;omega
   | cons y s g0 hy hs=>
     rw[unitsL_app x r h0 hx,unitsL_app y s g0 hy]at h;have p1:=rune_seq x h0 hx;have p2:=rune_seq y g0 hy;obtain⟨e1,e2⟩:=unitR_inj _ _ _ _ p1.2 p2.2 h;rw[ih hs e2,←p1.1,←p2.1,e1]
theorem aheadU_irr:∀a:List Nat,aheadU a a=false
 | []=>rfl
 | x::r=>by rw[aheadU,if_pos rfl];exact aheadU_irr r
theorem aheadU_tot:∀a b:List Nat,a≠b→aheadU a b=false→aheadU b a=true
 | [],[],h,_=>absurd rfl h
 | [],y::s,_,h=>by simp[aheadU]at h
 | x::r,[],_,_=>by simp[aheadU]
 | x::r,y::s,h,h1=>by
   rw[aheadU]at h1 ⊢;by_cases e:x=y
   ·subst e
    rw[if_pos rfl]at h1 ⊢;exact aheadU_tot r s (fun e=>h (by rw[e])) h1
   ·rw[if_neg e]at h1
    rw[if_neg (Ne.symm e)];simp at h1 ⊢;omega
theorem aheadU_asym:∀a b:List Nat,aheadU a b=true→aheadU b a=false
 | [],[],h=>by simp[aheadU]at h
 | [],y::s,_=>by simp[aheadU]
 | x::r,[],h=>by simp[aheadU]at h
 | x::r,y::s,h=>by
   rw[aheadU]at h ⊢;by_cases e:x=y
   ·subst e
    rw[if_pos rfl]at h ⊢;exact aheadU_asym r s h
   ·rw[if_neg e]at h
    rw[if_neg (Ne.symm e)];simp at h ⊢;omega
theorem aheadU_trans:∀a b c:List Nat,aheadU a b=true→aheadU b c=true→aheadU a c=true
 | _,[],[],_,h2=>by simp[aheadU]at h2
 | [],[],_::_,_,_=>by simp[aheadU]
 | _::_,[],_::_,h1,_=>by simp[aheadU]at h1
 | _,_::_,[],_,h2=>by simp[aheadU]at h2
 | [],_::_,_::_,_,_=>by simp[aheadU]
 | x::r,y::s,z::t,h1,h2=>by
   rw[aheadU]at h1 h2 ⊢;by_cases e1:x=y
   ·subst e1
    rw[if_pos rfl]at h1;by_cases e2:x=z
    ·subst e2
     rw[if_pos rfl]at h2 ⊢;exact aheadU_trans r s t h1 h2
    ·rw[if_neg e2]at h2 ⊢;exact h2
   ·rw[if_neg e1]at h1
    by_cases e2:y=z
    ·subst e2
     rw[if_neg e1];exact h1
    ·rw[if_neg e2]at h2
     simp at h1 h2;rw[if_neg (by omega)];simp;omega
theorem insR_perm(lt:Nat→Nat→Bool)(x:Nat)(l:List Nat):(insR lt x l).Perm (x::l):=by
 induction l with
 | nil=>exact .refl _
 | cons y r ih=>
   simp only[insR];split
   ·exact(List.Perm.cons y ih).trans (.swap x y r)
   ·exact .refl _
theorem insL_perm(lt:Nat→Nat→Bool)(l:List Nat)(x:Nat):(insL lt l x).Perm (x::l):=by
 unfold insL;exact(List.reverse_perm _).trans ((insR_perm lt x _).trans (List.Perm.cons x (List.reverse_perm l)))
theorem fold_perm(lt:Nat→Nat→Bool)(l:List Nat):∀acc,(l.foldl (insL lt) acc).Perm (l++acc):=by
 induction l with
 | nil=>intro acc;exact .refl _
 | cons x r ih=>
   intro acc;rw[List.foldl_cons];refine(ih _).trans ?_;refine(List.Perm.append_left r (insL_perm lt acc x)).trans ?_;exact List.perm_middle
theorem srt_perm(lt:Nat→Nat→Bool)(l:List Nat):(srt lt l).Perm l:=by
 have:=fold_perm lt l [];rwa [List.append_nil]at this
theorem insR_desc(lt:Nat→Nat→Bool)(hT:∀a b c,lt a b=true→lt b c=true→lt a c=true)(x:Nat)(l:List Nat)(hd:∀y∈l,lt x y=false→lt y x=true)(h:l.Pairwise (fun a b=>lt b a=true)):(insR lt x l).Pairwise (fun a b=>lt b a=true):=by
 induction l with
 | nil=>simp[insR]
 | cons y r ih=>
   rw[List.pairwise_cons]at h;simp only[insR];split
   ·rename_i hlt
    rw[List.pairwise_cons];refine⟨fun b hb=>?_,ih (fun z hz=>hd z (List.mem_cons_of_mem _ hz)) h.2⟩;rcases insR_mem lt x r b hb with rfl|hb
    ·exact hlt
    ·exact h.1 b hb
   ·rename_i hlt
    have hyx:=hd y (by simp) (by simpa using hlt);rw[List.pairwise_cons,List.pairwise_cons];refine⟨fun b hb=>?_,h.1,h.2⟩;rcases List.mem_cons.1 hb with rfl|hb
    ·exact hyx
    ·exact hT _ _ _ (h.1 b hb) hyx
theorem fold_sorted(lt:Nat→Nat→Bool)(hT:∀a b c,lt a b=true→lt b c=true→lt a c=true)(l:List Nat):∀acc:List Nat,(l++acc).Pairwise (fun a b=>lt a b=true∨lt b a=true)→acc.Pairwise (fun a b=>lt a b=true)→(l.foldl (insL lt) acc).Pairwise (fun a b=>lt a b=true):=by
 induction l with
 | nil=>intro acc _ h;exact h
 | cons x r ih=>
   intro acc hd h;rw[List.foldl_cons];rw[List.cons_append,List.pairwise_cons]at hd;refine ih _ ?_ ?_
   ·refine List.Pairwise.perm (l:=x::(r++acc)) ?_ ?_ (fun {a b} h=>h.symm)
    ·rw[List.pairwise_cons];exact hd
    ·exact(List.perm_middle.symm).trans (List.Perm.append_left r (insL_perm lt acc x).symm)
   ·unfold insL
    rw[List.pairwise_reverse];refine insR_desc lt hT x _ (fun y hy hf=>?_) ?_
    ·rcases hd.1 y (by simp at hy;simp[hy])with e|e
     ·rw[e]at hf;cases hf
     ·exact e
    ·rw[List.pairwise_reverse];exact h
theorem srt_only(lt:Nat→Nat→Bool)(hT:∀a b c,lt a b=true→lt b c=true→lt a c=true)(hA:∀a b,lt a b=true→lt b a=false)(ks xs:List Nat)(hd:ks.Pairwise (fun a b=>lt a b=true∨lt b a=true))(hp:xs.Perm ks)(hs:xs.Pairwise (fun a b=>lt b a=false)):xs=srt lt ks:=by
 have hdx:xs.Pairwise (fun a b=>lt a b=true∨lt b a=true):=List.Pairwise.perm hd hp.symm (fun {a b} h=>h.symm);have hx:xs.Pairwise (fun a b=>lt a b=true):=by
  refine(hdx.and hs).imp ?_;rintro a b ⟨h1|h1,h2⟩
  ·exact h1
  ·rw[h1]at h2;cases h2
 have hs2:(srt lt ks).Pairwise (fun a b=>lt a b=true):=fold_sorted lt hT ks [] (by rw[List.append_nil];exact hd) .nil;refine List.Perm.eq_of_pairwise (le:=fun a b=>lt a b=true) ?_ hx hs2 (hp.trans (srt_perm lt ks).symm);intro a b _ _ h1 h2;rw[hA a b h1]at h2;cases h2
theorem ltK_facts(L:List Nd):(∀a b c,ltK L a b=true→ltK L b c=true→ltK L a c=true)∧(∀a b,ltK L a b=true→ltK L b a=false):=
 ⟨fun a b c h1 h2=>aheadU_trans _ _ _ h1 h2,fun a b h=>aheadU_asym _ _ h⟩
theorem ltK_apart(L:List Nd)(ks:List Nat)(hu:∀c∈ks,U8 (keyL L c))(hd:ks.Pairwise (fun a b=>keyL L a≠keyL L b)):ks.Pairwise (fun a b=>ltK L a b=true∨ltK L b a=true):=by
 induction ks with
 | nil=>exact .nil
 | cons x r ih=>
   rw[List.pairwise_cons]at hd ⊢;refine⟨fun b hb=>?_,ih (fun c hc=>hu c (List.mem_cons_of_mem _ hc)) hd.2⟩;have hne:unitsL (keyL L x)≠unitsL (keyL L b):=fun e=>hd.1 b hb (units_inj (hu x (by simp)) (hu b (List.mem_cons_of_mem _ hb)) e)
   by_cases h1:ltK L x b=true
   ·exact .inl h1
   ·exact .inr (aheadU_tot _ _ hne (Bool.not_eq_true _▸h1))
end Go.Proofs.YtaghclgookfmnaaGreatDoor
