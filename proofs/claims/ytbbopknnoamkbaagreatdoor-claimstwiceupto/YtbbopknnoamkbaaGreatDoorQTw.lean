import Derived.Test.YtbbopknnoamkbaaGreatDoorQMd
namespace Go.Proofs.YtbbopknnoamkbaaGreatDoor
set_option linter.unusedVariables false
def isStr:JT→Bool
 | .str _ _=>true
 | _=>false
def okAud:JT→Bool
 | .str _ _=>true
 | .arr ts _=>!ts.isEmpty&&ts.all isStr
 | _=>false
def refN:List (List UInt8×JT)→Int
 | []=>0
 | (n,t)::r=>if n=issS∨n=iatS∨n=nbfS∨n=expS then 4 else if n=audS then(if okAud t=true then refN r else 6)else refN r
theorem sub_nd{L:List Nd}{b:Nat}{key:List UInt8}{t:JT}(h:Sub L b key t):∃n,L[b]?=some n∧n.key=key∧(n.kind=3↔isStr t=true)∧(∀ts i,t=.arr ts i→n.kind=4∧n.kids=startsL (b+1) ts)∧((∀ts i,t≠.arr ts i)→n.kind≠4):=by
 have h1:=h.first;cases t with
 | null i=>rw[flat]at h1;exact⟨_,h1,rfl,by simp[isStr],(fun ts i e=>by cases e),(fun _=>by simp)⟩
 | truth x i=>rw[flat]at h1;exact⟨_,h1,rfl,by simp[isStr],(fun ts i e=>by cases e),(fun _=>by simp)⟩
 | int x i=>rw[flat]at h1;exact⟨_,h1,rfl,by simp[isStr],(fun ts i e=>by cases e),(fun _=>by simp)⟩
 | str x i=>rw[flat]at h1;exact⟨_,h1,rfl,by simp[isStr],(fun ts i e=>by cases e),(fun _=>by simp)⟩
 | arr ts i=>rw[flat]at h1;exact⟨_,h1,rfl,by simp[isStr],(fun ts' i' e=>by injection e with e1 e2;subst e1;exact⟨rfl,rfl⟩),(fun h=>absurd rfl (h ts i))⟩
 | obj ms i=>rw[flat]at h1;exact⟨_,h1,rfl,by simp[isStr],(fun ts i e=>by cases e),(fun _=>by simp)⟩
theorem audF_all(L:List Nd):∀(ts:List JT) (b:Nat),SubL L b ts→((audF L (startsL b ts)).1=0↔ts.all isStr=true)∧((audF L (startsL b ts)).1=0∨(audF L (startsL b ts)).1=6)
 | [],b,h=>by simp[startsL,audF]
 | t::r,b,h=>by
   obtain⟨n,hn,_,hs,_⟩:=sub_nd h.head;obtain⟨ih1,ih2⟩:=audF_all L r _ h.tail;rw[startsL,audF,ndA_of hn];by_cases hk:n.kind=3
   ·rw[if_pos hk]
    have:=hs.1 hk;exact⟨by rw[ih1];simp[this],ih2⟩
   ·rw[if_neg hk]
    have hf:isStr t=false:=by cases he:isStr t with|false=>rfl|true=>exact absurd (hs.2 he) hk
    exact⟨by simp[hf],.inr rfl⟩
theorem audE_T{L:List Nd}{b:Nat}{key:List UInt8}{t:JT}(h:Sub L b key t)(n:Nd)(hn:L[b]?=some n):(audE L n).1=if okAud t=true then 0 else 6:=by
 obtain⟨n',hn',_,hs,ha,hna⟩:=sub_nd h;obtain rfl:n=n':=Option.some.inj (hn.symm.trans hn');unfold audE;by_cases hk:n.kind=3
 ·rw[if_pos hk]
  have e:=hs.1 hk;cases t<;>simp[isStr]at e;simp[okAud]
 ·rw[if_neg hk]
  have hf:isStr t=false:=by cases he:isStr t with|false=>rfl|true=>exact absurd (hs.2 he) hk
  cases t with
  | str x i=>simp[isStr]at hf
  | arr ts i=>
    obtain⟨k4,ek⟩:=ha ts i rfl;obtain⟨g1,g2⟩:=audF_all L ts (b+1) h.arr;rw[ek];cases ts with
    | nil=>simp[startsL,okAud]
    | cons t r=>
      rw[if_pos ⟨k4,by simp[startsL]⟩];have ea:okAud (.arr (t::r) i)=(t::r).all isStr:=by unfold okAud;rfl
      by_cases hq:(t::r).all isStr=true
      ·rw[g1.2 hq,if_pos (ea.trans hq)]
      ·rcases g2 with g|g
       ·exact absurd (g1.1 g) hq
       ·rw[g,if_neg (by rw[ea];exact hq)]
  | null i=>rw[if_neg (fun h=>hna (by intro ts i e;cases e) h.1)];simp[okAud]
  | truth x i=>rw[if_neg (fun h=>hna (by intro ts i e;cases e) h.1)];simp[okAud]
  | int x i=>rw[if_neg (fun h=>hna (by intro ts i e;cases e) h.1)];simp[okAud]
  | obj ms i=>rw[if_neg (fun h=>hna (by intro ts i e;cases e) h.1)];simp[okAud]
theorem refA_N(L:List Nd):∀(ms:List (List UInt8×JT)) (b:Nat),SubM L b ms→(refA L (startsM b ms)).1=refN ms
 | [],b,h=>by simp[startsM,refA,refN]
 | (k,t)::r,b,h=>by
   obtain⟨n,hn,hk,_⟩:=sub_nd h.head;have ih:=refA_N L r _ h.tail;have ha:=audE_T h.head n hn;rw[startsM,refA,ndA_of hn,refN];unfold refE;rw[hk];by_cases h1:k=issS∨k=iatS∨k=nbfS∨k=expS
   ·rw[if_pos h1,if_pos h1,if_neg (by simp)]
   ·rw[if_neg h1,if_neg h1]
    by_cases h2:k=audS
    ·rw[if_pos h2,if_pos h2]
     by_cases h3:okAud t=true
     ·rw[if_pos h3]at ha
      rw[if_pos ha,if_pos h3,ih]
     ·rw[if_neg h3]at ha
      rw[if_neg (by rw[ha];decide),if_neg h3,ha]
    ·rw[if_neg h2,if_neg h2,if_pos rfl,ih]
theorem refN_bad:∀ms:List (List UInt8×JT),refN ms=0→∀p∈ms,p.1=audS→okAud p.2=true
 | [],_,p,hp,_=>by simp at hp
 | (k,t)::r,h,p,hp,e=>by
   rw[refN]at h;by_cases h1:k=issS∨k=iatS∨k=nbfS∨k=expS
   ·rw[if_pos h1]at h;simp at h
   ·rw[if_neg h1]at h
    by_cases h2:k=audS
    ·rw[if_pos h2]at h
     by_cases h3:okAud t=true
     ·rw[if_pos h3]at h
      rcases List.mem_cons.1 hp with rfl|hp
      ·exact h3
      ·exact refN_bad r h p hp e
     ·rw[if_neg h3]at h;simp at h
    ·rw[if_neg h2]at h
     rcases List.mem_cons.1 hp with rfl|hp
     ·exact absurd e h2
     ·exact refN_bad r h p hp e
theorem refN_four:∀l:List (List UInt8×JT),(∀p∈l,p.1=audS→okAud p.2=true)→(∃p∈l,p.1=issS)→refN l=4
 | [],_,h=>by obtain⟨p,hp,_⟩:=h;simp at hp
 | (k,t)::r,ha,h=>by
   rw[refN];by_cases h1:k=issS∨k=iatS∨k=nbfS∨k=expS
   ·rw[if_pos h1]
   ·rw[if_neg h1]
    have hr:∃p∈r,p.1=issS:=by
     obtain⟨p,hp,e⟩:=h;rcases List.mem_cons.1 hp with rfl|hp
     ·exact absurd (.inl e) h1
     ·exact⟨p,hp,e⟩
    have ih:=refN_four r (fun p hp=>ha p (List.mem_cons_of_mem _ hp)) hr;by_cases h2:k=audS
    ·rw[if_pos h2,if_pos (ha (k,t) (by simp) h2),ih]
    ·rw[if_neg h2,ih]
theorem isStr_al{t u:JT}(h:Al t u):isStr u=isStr t:=by
 cases t<;>rw[Al]at h
 all_goals first
  | (obtain⟨i,rfl⟩:=h;rfl)
  | (obtain⟨us,i,rfl,_⟩:=h;rfl)
theorem okAud_al{t u:JT}(h:Al t u)(ha:okAud t=true):okAud u=true:=by
 cases t with
 | null i=>simp[okAud]at ha
 | truth x i=>simp[okAud]at ha
 | int x i=>simp[okAud]at ha
 | obj ms i=>simp[okAud]at ha
 | str x i=>rw[Al]at h;obtain⟨j,rfl⟩:=h;rfl
 | arr ts i=>
   rw[Al]at h;obtain⟨us,j,rfl,hl⟩:=h;have hal:∀(ts us:List JT),AlL ts us→us.isEmpty=ts.isEmpty∧us.all isStr=ts.all isStr:=by
    intro ts;induction ts with
    | nil=>intro us h;rw[AlL]at h;subst h;exact⟨rfl,rfl⟩
    | cons t r ih=>
      intro us h;rw[AlL]at h;obtain⟨u,q,rfl,h1,h2⟩:=h;obtain⟨_,e⟩:=ih q h2;exact⟨rfl,by simp only[List.all_cons,isStr_al h1,e]⟩
   obtain⟨e1,e2⟩:=hal ts us hl;simp only[okAud,e1,e2]at ha ⊢;exact ha
theorem twice{s:List UInt8}{il:List UInt8}{a ttl:Int}{T:List UInt8}{p:Int}(h:mkR s il a ttl=(T,0,p)):(mkR T il a ttl).1=[]∧(mkR T il a ttl).2.1=4:=by
 obtain⟨ms,i,us,hR,hE,hu1,hu2,_⟩:=made h;have hS:Sub (flat 0 [] (.obj ms i)) 0 [] (.obj ms i):=fun j hj=>by rw[Nat.zero_add]
 rw[refA_N _ ms 1 hS.obj]at hE;have hpm:=srtM_perm (ms++four il a (a+ttl));have hn4:refN us=4:=by
  refine refN_four us (fun p hp ep=>?_) ?_
  ·obtain⟨b,hb,e1,e2⟩:=all2_back hu2 p hp
   have hb':=hpm.mem_iff.1 hb;rw[←e1]at ep;rcases List.mem_append.1 hb' with hb'|hb'
   ·exact okAud_al e2.1 (refN_bad ms hE b hb' ep)
   ·simp only[four,List.mem_cons,List.not_mem_nil,or_false]at hb'
    rcases hb' with rfl|rfl|rfl|rfl<;>exact absurd ep (by simp[issS,iatS,nbfS,expS,audS])
  ·obtain⟨b,hb,e1,e2⟩:=hu2.mem (issS,.str il 0) (hpm.mem_iff.2 (by simp[four]))
   exact⟨b,hb,e1.symm⟩
 unfold mkR;rw[hu1];dsimp only;unfold mkT;have e5:ndA (flat 0 [] (.obj us 0)) 0=⟨5,[],[],0,startsM 1 us,0⟩:=by rw[flat];rfl
 have hS2:Sub (flat 0 [] (.obj us 0)) 0 [] (.obj us 0):=fun j hj=>by rw[Nat.zero_add]
 have h4:=refA_N _ us 1 hS2.obj;rw[hn4]at h4;rw[e5,if_pos rfl,if_neg (by rw[h4];decide)];exact⟨rfl,h4⟩
end Go.Proofs.YtbbopknnoamkbaaGreatDoor
