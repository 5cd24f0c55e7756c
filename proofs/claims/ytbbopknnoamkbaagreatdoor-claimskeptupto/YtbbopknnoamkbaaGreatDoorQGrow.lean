import Derived.Test.YtbbopknnoamkbaaGreatDoorU2
namespace Go.Proofs.YtbbopknnoamkbaaGreatDoor
set_option linter.unusedVariables false
def allK(ns:List Nd):List Nat:=ns.flatMap Nd.kids
theorem allK_app(a b:List Nd):allK (a++b)=allK a++allK b:=by simp[allK]
theorem allK_cons(a:Nd)(b:List Nd):allK (a::b)=a.kids++allK b:=by simp[allK]
mutual
theorem flat_cnt(c b:Nat)(key:List UInt8)(t:JT):(allK (flat b key t)).count c=if b<c∧c<b+t.size then 1 else 0:=by
 cases t with
 | null=>rw[flat,allK_cons,JT.size,show(if b<c∧c<b+1 then 1 else 0)=0 from if_neg (by omega)];simp[allK]
 | truth=>rw[flat,allK_cons,JT.size,show(if b<c∧c<b+1 then 1 else 0)=0 from if_neg (by omega)];simp[allK]
 | int=>rw[flat,allK_cons,JT.size,show(if b<c∧c<b+1 then 1 else 0)=0 from if_neg (by omega)];simp[allK]
 | str=>rw[flat,allK_cons,JT.size,show(if b<c∧c<b+1 then 1 else 0)=0 from if_neg (by omega)];simp[allK]
 | arr ts i=>
   rw[flat,allK_cons,List.count_append,flatL_cnt c (b+1) ts,JT.size];have e:(b+1≤c∧c<b+1+sizeL ts)↔(b<c∧c<b+(1+sizeL ts)):=by omega
   simp only[e]
 | obj ms i=>
   rw[flat,allK_cons,List.count_append,flatM_cnt c (b+1) ms,JT.size];have e:(b+1≤c∧c<b+1+sizeM ms)↔(b<c∧c<b+(1+sizeM ms)):=by omega
   simp only[e]
theorem flatL_cnt(c b:Nat)(ts:List JT):(startsL b ts).count c+(allK (flatL b ts)).count c=if b≤c∧c<b+sizeL ts then 1 else 0:=by
 cases ts with
 | nil=>rw[sizeL,if_neg (by omega)];simp[startsL,flatL,allK]
 | cons t r=>
   have h1:=flat_cnt c b [] t;have h2:=flatL_cnt c (b+t.size) r;have hp:=size_pos t;rw[flatL,allK_app,List.count_append,startsL,List.count_cons,sizeL,h1];by_cases h0:c=b
   ·subst h0
    rw[if_neg (by omega)]at h2;have hcc:(if(c==c)=true then 1 else 0)=1:=by simp
    rw[hcc,if_neg (by omega),if_pos (by omega)];omega
   ·rw[if_neg (show ¬(b==c)=true by simp;omega)]
    by_cases h3:c<b+t.size
    ·rw[if_neg (by omega)]at h2
     by_cases h4:b<c
     ·rw[if_pos (by omega),if_pos (by omega)];omega
     ·rw[if_neg (by omega),if_neg (by omega)];omega
    ·rw[if_neg (by omega)]
     by_cases h4:c<b+t.size+sizeL r
     ·rw[if_pos (by omega)]at h2;rw[if_pos (by omega)];omega
     ·rw[if_neg (by omega)]at h2;rw[if_neg (by omega)];omega
theorem flatM_cnt(c b:Nat)(ms:List (List UInt8×JT)):(startsM b ms).count c+(allK (flatM b ms)).count c=if b≤c∧c<b+sizeM ms then 1 else 0:=by
 cases ms with
 | nil=>rw[sizeM,if_neg (by omega)];simp[startsM,flatM,allK]
 | cons p r=>
   obtain⟨n,t⟩:=p;have h1:=flat_cnt c b n t;have h2:=flatM_cnt c (b+t.size) r;have hp:=size_pos t;rw[flatM,allK_app,List.count_append,startsM,List.count_cons,sizeM,h1];by_cases h0:c=b
   ·subst h0
    rw[if_neg (by omega)]at h2;have hcc:(if(c==c)=true then 1 else 0)=1:=by simp
    rw[hcc,if_neg (by omega),if_pos (by omega)];omega
   ·rw[if_neg (show ¬(b==c)=true by simp;omega)]
    by_cases h3:c<b+t.size
    ·rw[if_neg (by omega)]at h2
     by_cases h4:b<c
     ·rw[if_pos (by omega),if_pos (by omega)];omega
     ·rw[if_neg (by omega),if_neg (by omega)];omega
    ·rw[if_neg (by omega)]
     by_cases h4:c<b+t.size+sizeM r
     ·rw[if_pos (by omega)]at h2;rw[if_pos (by omega)];omega
     ·rw[if_neg (by omega)]at h2;rw[if_neg (by omega)];omega
end
def upR(P:List Nat)(n:Nat):List Value:=(List.range n).map fun c=>Value.int .i64 (P.count c:Int)
theorem upR_len(P:List Nat)(n:Nat):(upR P n).length=n:=by simp[upR]
theorem upR_get(P:List Nat)(n c:Nat)(h:c<n):(upR P n).toArray[c]?=some (.int .i64 (P.count c:Int)):=by
 simp[upR,List.getElem?_range h]
theorem upR_nil(n:Nat):upR [] n=List.replicate n (.int .i64 0):=by
 apply List.ext_getElem?;intro i;by_cases h:i<n
 ·simp[upR,h]
 ·rw[List.getElem?_eq_none (by rw[upR_len];omega),List.getElem?_eq_none (by simp;omega)]
theorem upR_set(P:List Nat)(n c:Nat)(h:c<n):(upR P n).toArray.setIfInBounds c (.int .i64 ((P.count c:Int)+1))=(upR (P++[c]) n).toArray:=by
 apply Array.ext';rw[Array.toList_setIfInBounds];apply List.ext_getElem?;intro i;rw[List.getElem?_set];by_cases hi:i<n
 ·by_cases hc:c=i
  ·subst hc
   rw[if_pos rfl,if_pos (by simp[upR_len,h])];simp[upR,List.getElem?_range h]
  ·rw[if_neg hc]
   simp[upR,List.getElem?_range hi,List.count_append,List.count_singleton,hc]
 ·have e1:(upR P n).toArray.toList[i]?=none:=List.getElem?_eq_none (by simp[upR_len];omega)
  have e2:(upR (P++[c]) n).toArray.toList[i]?=none:=List.getElem?_eq_none (by simp[upR_len];omega);rw[e2];split
  ·rw[if_neg (by simp[upR_len];omega)]
  ·exact e1
theorem take_kids(ns:List Nd)(i:Nat)(n:Nd)(h:ns[i]?=some n):allK (ns.take (i+1))=allK (ns.take i)++n.kids:=by
 rw[List.take_add_one,h,allK_app];simp[allK]
theorem pre_le(ns:List Nd)(i k:Nat)(n:Nd)(h:ns[i]?=some n)(c:Nat):(allK (ns.take i)++n.kids.take k).count c≤(allK ns).count c:=by
 have e:allK ns=allK (ns.take i)++(n.kids++allK (ns.drop (i+1))):=by
  have hl:i<ns.length:=(List.getElem?_eq_some_iff.1 h).1;have hd:ns.drop i=n::ns.drop (i+1):=by rw[List.drop_eq_getElem_cons hl,(List.getElem?_eq_some_iff.1 h).2]
  conv=>lhs;rw[←List.take_append_drop i ns,hd,allK_app,allK_cons]
 have h2:=(List.take_sublist k n.kids).count_le c;rw[e,List.count_append,List.count_append,List.count_append];omega
theorem startsL_len:∀(ts:List JT) (b:Nat),(startsL b ts).length=ts.length
 | [],b=>rfl
 | t::r,b=>by simp[startsL,startsL_len r]
theorem startsM_len:∀(ms:List (List UInt8×JT)) (b:Nat),(startsM b ms).length=ms.length
 | [],b=>rfl
 | (n,t)::r,b=>by simp[startsM,startsM_len r]
theorem subL_get(L:List Nd):∀(ts:List JT) (b:Nat),SubL L b ts→∀(j p:Nat),(startsL b ts)[j]?=some p→∃t,ts[j]?=some t∧Sub L p [] t
 | [],b,_,j,p,h=>by simp[startsL]at h
 | t::r,b,hs,0,p,h=>by
   simp[startsL]at h;subst h;exact⟨t,rfl,hs.head⟩
 | t::r,b,hs,j+1,p,h=>by
   simp only[startsL,List.getElem?_cons_succ]at h ⊢;exact subL_get L r _ hs.tail j p h
theorem subM_get(L:List Nd):∀(ms:List (List UInt8×JT)) (b:Nat),SubM L b ms→∀(j p:Nat),(startsM b ms)[j]?=some p→∃n t,ms[j]?=some (n,t)∧Sub L p n t
 | [],b,_,j,p,h=>by simp[startsM]at h
 | (n,t)::r,b,hs,0,p,h=>by
   simp[startsM]at h;subst h;exact⟨n,t,rfl,hs.head⟩
 | (n,t)::r,b,hs,j+1,p,h=>by
   simp only[startsM,List.getElem?_cons_succ]at h ⊢;exact subM_get L r _ hs.tail j p h
theorem AlL_get:∀(ts us:List JT),AlL ts us→us.length=ts.length∧∀(j:Nat) (t u:JT),ts[j]?=some t→us[j]?=some u→Al t u
 | [],us,h=>by
   rw[AlL]at h;subst h;exact⟨rfl,fun j t u h=>by simp at h⟩
 | t::r,us,h=>by
   rw[AlL]at h;obtain⟨u,v,rfl,h1,h2⟩:=h;obtain⟨g1,g2⟩:=AlL_get r v h2;refine⟨by simp[g1],fun j=>?_⟩;cases j with
   | zero=>intro t' u' e1 e2;simp at e1 e2;subst e1;subst e2;exact h1
   | succ j=>intro t' u' e1 e2;simp only[List.getElem?_cons_succ]at e1 e2;exact g2 j t' u' e1 e2
theorem AlM_get:∀(ms us:List (List UInt8×JT)),AlM ms us→∀(j:Nat) (n:List UInt8) (t:JT),ms[j]?=some (n,t)→∃(y:Nat) (u:JT),us[y]?=some (n,u)∧Al t u
 | [],us,_,j,n,t,h=>by simp at h
 | (m,s)::r,us,ha,j,n,t,h=>by
   rw[AlM]at ha;cases j with
   | zero=>
     simp at h;obtain⟨rfl,rfl⟩:=h;obtain⟨u,hm,hu⟩:=ha.1;obtain⟨y,hy⟩:=List.getElem?_of_mem hm;exact⟨y,u,hy,hu⟩
   | succ j=>
     simp only[List.getElem?_cons_succ]at h;exact AlM_get r us ha.2 j n t h
structure Pair (L M:List Nd) (R:Nat→Nat→Prop) (a b:Nd):Prop where
 kind:b.kind=a.kind
 key:b.key=a.key
 text:b.text=a.text
 num:b.num=a.num
 len:b.kids.length=a.kids.length
 kid:∀(j p:Nat),a.kids[j]?=some p→∃y q,b.kids[y]?=some q∧R p q∧(a.kind≠5→y=j)∧(a.kind=5→keyL M q=keyL L p∧∀y' q',y'<y→b.kids[y']?=some q'→keyL M q'≠keyL L p)
theorem alk_pair(L M:List Nd)(R:Nat→Nat→Prop)(t u:JT)(i k:Nat)(key:List UInt8)(hL:Sub L i key t)(hM:Sub M k key u)(ha:Al t u)(hR:∀(p q:Nat) (key':List UInt8) (t' u':JT),Sub L p key' t'→Sub M q key' u'→Al t' u'→t'.size<t.size→R p q):∃a b,L[i]?=some a∧M[k]?=some b∧Pair L M R a b:=by
 have f1:=hL.first;have f2:=hM.first;cases t with
 | null x=>
   rw[Al]at ha;obtain⟨y,rfl⟩:=ha;simp only[flat,List.getElem?_cons_zero]at f1 f2;exact⟨_,_,f1,f2,rfl,rfl,rfl,rfl,rfl,fun j p h=>by simp at h⟩
 | truth c x=>
   rw[Al]at ha;obtain⟨y,rfl⟩:=ha;simp only[flat,List.getElem?_cons_zero]at f1 f2;exact⟨_,_,f1,f2,rfl,rfl,rfl,rfl,rfl,fun j p h=>by simp at h⟩
 | int c x=>
   rw[Al]at ha;obtain⟨y,rfl⟩:=ha;simp only[flat,List.getElem?_cons_zero]at f1 f2;exact⟨_,_,f1,f2,rfl,rfl,rfl,rfl,rfl,fun j p h=>by simp at h⟩
 | str c x=>
   rw[Al]at ha;obtain⟨y,rfl⟩:=ha;simp only[flat,List.getElem?_cons_zero]at f1 f2;exact⟨_,_,f1,f2,rfl,rfl,rfl,rfl,rfl,fun j p h=>by simp at h⟩
 | arr ts x=>
   rw[Al]at ha;obtain⟨us,y,rfl,ha⟩:=ha;simp only[flat,List.getElem?_cons_zero]at f1 f2;obtain⟨g1,g2⟩:=AlL_get ts us ha;refine⟨_,_,f1,f2,rfl,rfl,rfl,rfl,by simp only[startsL_len,g1],fun j p h=>?_⟩;simp only at h ⊢;obtain⟨t',e1,s1⟩:=subL_get L ts _ hL.arr j p h;have hj:j<(startsL (k+1) us).length:=by
    rw[startsL_len,g1];exact(List.getElem?_eq_some_iff.1 e1).1
   obtain⟨u',e2,s2⟩:=subL_get M us _ hM.arr j _ (List.getElem?_eq_getElem hj);refine⟨j,_,List.getElem?_eq_getElem hj,hR _ _ _ t' u' s1 s2 (g2 j t' u' e1 e2) ?_,fun _=>rfl,fun h5=>by simp at h5⟩;have:=sizeL_mem ts t' (List.mem_of_getElem? e1);rw[JT.size];omega
 | obj ms x=>
   rw[Al]at ha;obtain⟨us,y,rfl,g1,g3,ha⟩:=ha;simp only[flat,List.getElem?_cons_zero]at f1 f2;refine⟨_,_,f1,f2,rfl,rfl,rfl,rfl,by simp only[startsM_len,g1],fun j p h=>?_⟩;simp only at h ⊢;obtain⟨n,t',e1,s1⟩:=subM_get L ms _ hL.obj j p h;obtain⟨z,u',e2,a2⟩:=AlM_get ms us ha j n t' e1;have hz:z<(startsM (k+1) us).length:=by
    rw[startsM_len];exact(List.getElem?_eq_some_iff.1 e2).1
   obtain⟨n2,u2,e3,s2⟩:=subM_get M us _ hM.obj z _ (List.getElem?_eq_getElem hz);rw[e2]at e3;injection e3 with e3;injection e3 with e4 e5;subst e4;subst e5;refine⟨z,_,List.getElem?_eq_getElem hz,hR _ _ _ t' u' s1 s2 a2 ?_,fun h5=>by simp at h5,fun _=>⟨by rw[s1.key,s2.key],fun y' q' hy' hq' e=>?_⟩⟩
   ·have:=sizeM_mem ms (n,t') (List.mem_of_getElem? e1)
    rw[JT.size];simp only at this;omega
   ·obtain⟨n3,u3,e6,s3⟩:=subM_get M us _ hM.obj y' q' hq'
    rw[s3.key,s1.key]at e;subst e;have hpw:=List.pairwise_iff_getElem.1 g3 y' z (by rw[List.length_map];exact(List.getElem?_eq_some_iff.1 e6).1) (by rw[List.length_map];exact(List.getElem?_eq_some_iff.1 e2).1) hy';apply hpw;rw[List.getElem_map,List.getElem_map,(List.getElem?_eq_some_iff.1 e6).2,(List.getElem?_eq_some_iff.1 e2).2]
end Go.Proofs.YtbbopknnoamkbaaGreatDoor
