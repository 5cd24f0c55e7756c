import Derived.Test.YtbbopknnoamkbaaGreatDoorQTw
import Derived.Test.YtbbopknnoamkbaaGreatDoorQGrow
namespace Go.Proofs.YtbbopknnoamkbaaGreatDoor
set_option linter.unusedVariables false
theorem memK_no(L:List Nd)(name:List UInt8):∀ks:List Nat,¬memK L name ks<0→∃c∈ks,(ndA L c).key=name
 | [],h=>absurd (by rw[memK];decide) h
 | c::r,h=>by
   rw[memK]at h;by_cases hk:(ndA L c).key=name
   ·exact⟨c,by simp,hk⟩
   ·rw[if_neg hk]at h
    obtain⟨d,hd,e⟩:=memK_no L name r h;exact⟨d,by simp[hd],e⟩
theorem memK_yes(L:List Nd)(name:List UInt8):∀ks:List Nat,(∃c∈ks,(ndA L c).key=name)→¬memK L name ks<0
 | [],h=>by obtain⟨c,hc,_⟩:=h;simp at hc
 | c::r,h=>by
   rw[memK];by_cases hk:(ndA L c).key=name
   ·rw[if_pos hk];omega
   ·rw[if_neg hk]
    obtain⟨d,hd,e⟩:=h;rcases List.mem_cons.1 hd with rfl|hd
    ·exact absurd e hk
    ·exact memK_yes L name r ⟨d,hd,e⟩
theorem allE_none(L:List Nd):∀ks:List Nat,(∀c∈ks,(clmE L (ndA L c)).1=0)→(allE L ks).1=0
 | [],_=>rfl
 | c::r,h=>by
   rw[allE,if_pos (h c (by simp))];exact allE_none L r fun d hd=>h d (by simp[hd])
theorem allC_one(L:List Nd)(name:List UInt8)(P:Cl→Prop):∀(ks:List Nat) (x:Cl),(∀c∈ks,(ndA L c).key=name→∀x,P (setC L (ndA L c) x))→(∀c∈ks,(ndA L c).key≠name→∀x,P x→P (setC L (ndA L c) x))→(P x∨∃c∈ks,(ndA L c).key=name)→P (allC L ks x)
 | [],x,_,_,h=>by
   rcases h with h|⟨c,hc,_⟩
   ·exact h
   ·simp at hc
 | c::r,x,h1,h2,h=>by
   rw[allC];refine allC_one L name P r _ (fun d hd=>h1 d (by simp[hd])) (fun d hd=>h2 d (by simp[hd])) ?_;by_cases hk:(ndA L c).key=name
   ·exact .inl (h1 c (by simp) hk x)
   ·rcases h with h|⟨d,hd,e⟩
    ·exact .inl (h2 c (by simp) hk x h)
    ·rcases List.mem_cons.1 hd with rfl|hd
     ·exact absurd e hk
     ·exact .inr ⟨d,hd,e⟩
theorem n_ne:issS≠audS∧issS≠iatS∧issS≠nbfS∧issS≠expS∧audS≠iatS∧audS≠nbfS∧audS≠expS∧iatS≠nbfS∧iatS≠expS∧nbfS≠expS:=by decide
theorem set_iss(L:List Nd)(n:Nd)(x:Cl)(h:n.key=issS):setC L n x={x with iss:=⟨n.text.toArray⟩}:=by unfold setC;rw[if_pos h]
theorem set_aud(L:List Nd)(n:Nd)(x:Cl)(h:n.key=audS):setC L n x={x with aud:=auds L n}:=by unfold setC;rw[if_neg (by rw[h];decide),if_pos h]
theorem set_iat(L:List Nd)(n:Nd)(x:Cl)(h:n.key=iatS):setC L n x={x with iat:=n.num}:=by unfold setC;rw[if_neg (by rw[h];decide),if_neg (by rw[h];decide),if_pos h]
theorem set_nbf(L:List Nd)(n:Nd)(x:Cl)(h:n.key=nbfS):setC L n x={x with nbf:=n.num}:=by unfold setC;rw[if_neg (by rw[h];decide),if_neg (by rw[h];decide),if_neg (by rw[h];decide),if_pos h]
theorem set_exp(L:List Nd)(n:Nd)(x:Cl)(h:n.key=expS):setC L n x={x with exp:=n.num}:=by unfold setC;rw[if_neg (by rw[h];decide),if_neg (by rw[h];decide),if_neg (by rw[h];decide),if_neg (by rw[h];decide),if_pos h]
theorem set_not(L:List Nd)(n:Nd)(x:Cl):(n.key≠issS→(setC L n x).iss=x.iss)∧(n.key≠audS→(setC L n x).aud=x.aud)∧(n.key≠iatS→(setC L n x).iat=x.iat)∧(n.key≠nbfS→(setC L n x).nbf=x.nbf)∧(n.key≠expS→(setC L n x).exp=x.exp):=by
 unfold setC;refine⟨fun h=>?_,fun h=>?_,fun h=>?_,fun h=>?_,fun h=>?_⟩;all_goals repeat' split
 all_goals first|rfl|exact absurd (by assumption) h
theorem starts_get(L:List Nd)(us:List (List UInt8×JT))(hs:SubM L 1 us)(p:List UInt8×JT)(hp:p∈us):∃c∈startsM 1 us,Sub L c p.1 p.2:=by
 obtain⟨j,hj⟩:=List.getElem?_of_mem hp;have hl:j<(startsM 1 us).length:=by rw[startsM_len];exact(List.getElem?_eq_some_iff.1 hj).1
 obtain⟨n,t,e,h⟩:=subM_get L us 1 hs j _ (List.getElem?_eq_getElem hl);rw[hj]at e;injection e with e;subst e;exact⟨_,List.getElem_mem hl,h⟩
theorem starts_mem(L:List Nd)(us:List (List UInt8×JT))(hs:SubM L 1 us)(c:Nat)(hc:c∈startsM 1 us):∃p∈us,Sub L c p.1 p.2:=by
 obtain⟨j,hj⟩:=List.getElem?_of_mem hc;obtain⟨n,t,e,h⟩:=subM_get L us 1 hs j c hj;exact⟨(n,t),List.mem_of_getElem? e,h⟩
theorem nd_str{L:List Nd}{c:Nat}{n x:List UInt8}{i:Nat}(h:Sub L c n (.str x i)):ndA L c=⟨3,n,x,0,[],i⟩:=ndA_of (by have:=h.first;rw[flat]at this;exact this)
theorem nd_int{L:List Nd}{c:Nat}{n:List UInt8}{v:Int}{i:Nat}(h:Sub L c n (.int v i)):ndA L c=⟨2,n,[],v,[],i⟩:=ndA_of (by have:=h.first;rw[flat]at this;exact this)
theorem nd_aud{L:List Nd}{c:Nat}{n:List UInt8}{u:JT}(h:Sub L c n u)(ho:okAud u=true):auds L (ndA L c)≠[]:=by
 cases u with
 | null i=>simp[okAud]at ho
 | truth x i=>simp[okAud]at ho
 | int x i=>simp[okAud]at ho
 | obj ms i=>simp[okAud]at ho
 | str x i=>rw[nd_str h];simp[auds]
 | arr ts i=>
   have e:ndA L c=⟨4,n,[],0,startsL (c+1) ts,i⟩:=ndA_of (by have:=h.first;rw[flat]at this;exact this);rw[e];cases ts with
   | nil=>simp[okAud]at ho
   | cons t r=>simp[auds,startsL]
theorem nd_key{L:List Nd}{c:Nat}{n:List UInt8}{u:JT}(h:Sub L c n u):(ndA L c).key=n:=by
 obtain⟨m,hm,e,_⟩:=sub_nd h;rw[ndA_of hm,e]
def MadeM(il:List UInt8)(a b:Int)(p:List UInt8×JT):Prop:=
 (p.1=issS→∃i,p.2=.str il i)∧(p.1=iatS→∃i,p.2=.int a i)∧(p.1=nbfS→∃i,p.2=.int a i)∧(p.1=expS→∃i,p.2=.int b i)∧(p.1=audS→okAud p.2=true)
theorem made_mem{ms us:List (List UInt8×JT)}{il:List UInt8}{a b:Int}(hr:refN ms=0)(hno:∀p∈ms,p.1≠issS∧p.1≠iatS∧p.1≠nbfS∧p.1≠expS)(h2:All2 BkM (srtM (ms++four il a b)) us):∀p∈us,MadeM il a b p:=by
 intro p hp;obtain⟨q,hq,e,hb⟩:=all2_back h2 p hp;have hal:=hb.1;rcases List.mem_append.1 ((srtM_perm _).mem_iff.1 hq)with hm|hm
 ·have:=hno q hm
  rw[e]at this;refine⟨fun h=>absurd h this.1,fun h=>absurd h this.2.1,fun h=>absurd h this.2.2.1,fun h=>absurd h this.2.2.2,fun h=>okAud_al hal (refN_bad ms hr q hm (e.trans h))⟩
 ·obtain⟨q1,q2⟩:=q
  dsimp only at e hal;simp only[four,List.mem_cons,List.not_mem_nil,or_false,Prod.mk.injEq]at hm;unfold MadeM;rw[←e];rcases hm with⟨rfl,rfl⟩|⟨rfl,rfl⟩|⟨rfl,rfl⟩|⟨rfl,rfl⟩;all_goals rw[Al]at hal
  all_goals refine⟨fun h=>?_,fun h=>?_,fun h=>?_,fun h=>?_,fun h=>?_⟩
  all_goals first|exact hal|exact absurd h (by decide)
theorem refN_no:∀ms:List (List UInt8×JT),refN ms=0→∀p∈ms,p.1≠issS∧p.1≠iatS∧p.1≠nbfS∧p.1≠expS
 | [],_,p,hp=>by simp at hp
 | (k,t)::r,h,p,hp=>by
   rw[refN]at h;by_cases h1:k=issS∨k=iatS∨k=nbfS∨k=expS
   ·rw[if_pos h1]at h;simp at h
   ·rw[if_neg h1]at h
    have hr:refN r=0:=by
     split at h
     ·split at h
      ·exact h
      ·simp at h
     ·exact h
    rcases List.mem_cons.1 hp with rfl|hp
    ·exact⟨fun e=>h1 (.inl e),fun e=>h1 (.inr (.inl e)),fun e=>h1 (.inr (.inr (.inl e))),fun e=>h1 (.inr (.inr (.inr e)))⟩
    ·exact refN_no r hr p hp
theorem hold{s:List UInt8}{il:List UInt8}{a ttl:Int}{T:List UInt8}{p:Int}(h:mkR s il a ttl=(T,0,p)):∃t c,readL T=.ok t∧prF (.ok t)=(T,0,0)∧rdC (flat 0 [] t)=(c,0,0)∧c.iss=⟨il.toArray⟩∧c.iat=a∧c.nbf=a∧c.exp=a+ttl∧c.aud≠[]∧c.aud.length≤1000000∧0≤a∧1≤ttl∧a+ttl≤9007199254740991:=by
 obtain⟨ms,i,us,h1,h2,h3,h4,h5,h6,h7,h8,h9⟩:=madeX h;have sM:SubM (flat 0 [] (.obj ms i)) 1 ms:=Sub.obj (i:=i) (key:=[]) (fun j hj=>by rw[Nat.zero_add]);have sU:SubM (flat 0 [] (.obj us 0)) 1 us:=Sub.obj (i:=0) (key:=[]) (fun j hj=>by rw[Nat.zero_add]);rw[refA_N _ ms 1 sM]at h2;have hmem:=made_mem (a:=a) (b:=a+ttl) h2 (refN_no ms h2) h4;have hW:=(read_fit h3).1;have e0:ndA (flat 0 [] (.obj us 0)) 0=⟨5,[],[],0,startsM 1 us,0⟩:=by rw[flat];rfl
 have hpm:=srtM_perm (ms++four il a (a+ttl));have has:∀q∈ms++four il a (a+ttl),∃c∈startsM 1 us,(ndA (flat 0 [] (.obj us 0)) c).key=q.1:=fun q hq=>by
  obtain⟨b,hb,e,_⟩:=h4.mem q (hpm.mem_iff.2 hq);obtain⟨c,hc,hS⟩:=starts_get _ us sU b hb;exact⟨c,hc,by rw[nd_key hS,e]⟩
 have h4f:∀q∈four il a (a+ttl),∃c∈startsM 1 us,(ndA (flat 0 [] (.obj us 0)) c).key=q.1:=fun q hq=>has q (List.mem_append_right _ hq)
 have hi:=h4f (issS,.str il 0) (by simp[four]);have ht:=h4f (iatS,.int a 0) (by simp[four]);have hn:=h4f (nbfS,.int a 0) (by simp[four]);have hx:=h4f (expS,.int (a+ttl) 0) (by simp[four]);have ha:∃c∈startsM 1 us,(ndA (flat 0 [] (.obj us 0)) c).key=audS:=by
  obtain⟨c,hc,e⟩:=memK_no _ _ _ h8;obtain⟨q,hq,hS⟩:=starts_mem _ ms sM c hc;rw[nd_key hS]at e;obtain⟨d,hd,e2⟩:=has q (List.mem_append_left _ hq);exact⟨d,hd,e2.trans e⟩
 dsimp only at hi ht hn hx;have hnode:∀c∈startsM 1 us,∃q,Sub (flat 0 [] (.obj us 0)) c q.1 q.2∧(ndA (flat 0 [] (.obj us 0)) c).key=q.1∧MadeM il a (a+ttl) q:=fun c hc=>by
  obtain⟨q,hq,hS⟩:=starts_mem _ us sU c hc;exact⟨q,hS,nd_key hS,hmem q hq⟩
 have hfew:∀c∈startsM 1 us,(auds (flat 0 [] (.obj us 0)) (ndA (flat 0 [] (.obj us 0)) c)).length≤1000000:=fun c hc=>by
  obtain⟨q,hS,_⟩:=hnode c hc;obtain⟨m,hm,_⟩:=sub_nd hS;rw[ndA_of hm];have:=hW.few c m hm;unfold auds;split
  ·simp
  ·simpa using this
 have hp:prF (.ok (.obj us 0))=(T,0,0):=by
  rw[prF_form,h7];have hs:=srtM_sorted _ h6 h5;have hf:=(all2_fmM h4).1;have:fmT (.obj us 0)=anyO (srtM (ms++four il a (a+ttl))):=by
   rw[fmT,hf,srtP_same _ (by rw[fmM_map,List.pairwise_map];exact hs)];rfl
  rw[this]
 refine⟨.obj us 0,allC (flat 0 [] (.obj us 0)) (startsM 1 us) cl0,h3,hp,?_⟩;generalize flat 0 [] (.obj us 0)=L at *;refine⟨?_,?_,?_,?_,?_,?_,?_,by omega,by omega,by omega⟩
 ·unfold rdC
  rw[e0,if_pos rfl,if_pos,if_neg]
  ·rw[Bool.not_eq_true]
   unfold lackB;refine decide_eq_false fun h=>?_
   rcases h with h|h|h|h|h
   ·exact memK_yes _ _ _ hi h
   ·exact memK_yes _ _ _ ha h
   ·exact memK_yes _ _ _ ht h
   ·exact memK_yes _ _ _ hn h
   ·exact memK_yes _ _ _ hx h
  ·refine allE_none L _ fun c hc=>?_
   obtain⟨q,hS,ek,m1,m2,m3,m4,m5⟩:=hnode c hc;obtain⟨q1,q2⟩:=q;dsimp only at hS ek m1 m2 m3 m4 m5;unfold clmE;rw[ek];by_cases k1:q1=issS
   ·obtain⟨j,rfl⟩:=m1 k1
    rw[if_pos k1,nd_str hS];rfl
   ·rw[if_neg k1]
    by_cases k2:q1=audS
    ·rw[if_pos k2]
     obtain⟨m,hm,_⟩:=sub_nd hS;rw[ndA_of hm,audE_T hS m hm,if_pos (m5 k2)]
    ·rw[if_neg k2]
     have num:∀(v:Int) (j:Nat),0≤v→q2=.int v j→(numE (ndA L c)).1=0:=fun v j hv e=>by
      subst e;rw[nd_int hS];unfold numE;rw[if_pos rfl,if_neg (by dsimp only;omega)]
     by_cases k3:q1=iatS∨q1=nbfS∨q1=expS
     ·rw[if_pos k3]
      rcases k3 with k3|k3|k3
      ·obtain⟨j,e⟩:=m2 k3;exact num _ j (by omega) e
      ·obtain⟨j,e⟩:=m3 k3;exact num _ j (by omega) e
      ·obtain⟨j,e⟩:=m4 k3;exact num _ j (by omega) e
     ·rw[if_neg k3]
 ·refine allC_one L issS (fun x=>x.iss=⟨il.toArray⟩) _ _ (fun c hc e x=>?_) (fun c hc e x hx=>by rw[(set_not L _ x).1 e];exact hx) (.inr hi)
  obtain⟨⟨q1,q2⟩,hS,ek,m1,_⟩:=hnode c hc;obtain⟨j,rfl⟩:=m1 (ek.symm.trans e);rw[set_iss _ _ _ e,nd_str hS]
 ·refine allC_one L iatS (fun x=>x.iat=a) _ _ (fun c hc e x=>?_) (fun c hc e x hx=>by rw[(set_not L _ x).2.2.1 e];exact hx) (.inr ht)
  obtain⟨⟨q1,q2⟩,hS,ek,_,m2,_⟩:=hnode c hc;obtain⟨j,rfl⟩:=m2 (ek.symm.trans e);rw[set_iat _ _ _ e,nd_int hS]
 ·refine allC_one L nbfS (fun x=>x.nbf=a) _ _ (fun c hc e x=>?_) (fun c hc e x hx=>by rw[(set_not L _ x).2.2.2.1 e];exact hx) (.inr hn)
  obtain⟨⟨q1,q2⟩,hS,ek,_,_,m3,_⟩:=hnode c hc;obtain⟨j,rfl⟩:=m3 (ek.symm.trans e);rw[set_nbf _ _ _ e,nd_int hS]
 ·refine allC_one L expS (fun x=>x.exp=a+ttl) _ _ (fun c hc e x=>?_) (fun c hc e x hx=>by rw[(set_not L _ x).2.2.2.2 e];exact hx) (.inr hx)
  obtain⟨⟨q1,q2⟩,hS,ek,_,_,_,m4,_⟩:=hnode c hc;obtain⟨j,rfl⟩:=m4 (ek.symm.trans e);rw[set_exp _ _ _ e,nd_int hS]
 ·refine allC_one L audS (fun x=>x.aud≠[]) _ _ (fun c hc e x=>?_) (fun c hc e x hx=>by rw[(set_not L _ x).2.1 e];exact hx) (.inr ha)
  obtain⟨⟨q1,q2⟩,hS,ek,_,_,_,_,m5⟩:=hnode c hc;rw[set_aud _ _ _ e];exact nd_aud hS (m5 (ek.symm.trans e))
 ·refine allC_one L audS (fun x=>x.aud.length≤1000000) _ _ (fun c hc e x=>?_) (fun c hc e x hx=>by rw[(set_not L _ x).2.1 e];exact hx) (.inr ha)
  rw[set_aud _ _ _ e];exact hfew c hc
end Go.Proofs.YtbbopknnoamkbaaGreatDoor
