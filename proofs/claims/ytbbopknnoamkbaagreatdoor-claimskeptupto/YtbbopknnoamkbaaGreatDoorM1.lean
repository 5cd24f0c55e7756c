import Derived.Test.YtbbopknnoamkbaaGreatDoorU2
import Derived.Test.YtbbopknnoamkbaaGreatDoorD1
import Derived.Test.YtbbopknnoamkbaaGreatDoorV1
namespace Go.Proofs.YtbbopknnoamkbaaGreatDoor
set_option linter.unusedVariables false
theorem okNM_of:∀ms:List (List UInt8×JT),(∀p∈ms,U8 p.1∧okN p.2)→okNM ms
 | [],_=>by rw[okNM];trivial
 | (n,t)::r,h=>by
   rw[okNM];exact⟨(h (n,t) (by simp)).1,(h (n,t) (by simp)).2,okNM_of r fun p hp=>h p (List.mem_cons_of_mem _ hp)⟩
theorem joinC_app:∀(a b:List (List UInt8)),a≠[]→b≠[]→joinC (a++b)=joinC a++44::joinC b
 | [],_,h,_=>absurd rfl h
 | [x],[],_,h=>absurd rfl h
 | [x],y::r,_,_=>by simp[joinC]
 | x::y::r,b,_,hb=>by
   have:=joinC_app (y::r) b (by simp) hb;simp only[List.cons_append]at this ⊢;rw[joinC,this,joinC];simp
theorem fmM_app(a b:List (List UInt8×JT)):fmM (a++b)=fmM a++fmM b:=by simp only[fmM_map,List.map_append]
theorem srtP_one{l m:List (List UInt8×JT)}(hp:l.Perm m)(ho:okNM l)(hd:(l.map Prod.fst).Pairwise (fun a b=>a≠b)):srtP (fmM l)=srtP (fmM m):=by
 have ho2:okNM m:=okNM_of m fun p hm=>okNM_mem l ho p (hp.mem_iff.2 hm)
 have hd2:(m.map Prod.fst).Pairwise (fun a b=>a≠b):=List.Pairwise.perm hd (hp.map Prod.fst) (fun {a b} h=>h.symm);rw[srtM_fm,srtM_fm];congr 1
 refine List.Perm.eq_of_pairwise (le:=fun a b=>aheadL a.1 b.1=true) ?_ (srtM_sorted l ho hd) (srtM_sorted m ho2 hd2) ((srtM_perm l).trans (hp.trans (srtM_perm m).symm));intro a b _ _ h1 h2;have:=aheadU_asym _ _ h1;unfold aheadL at h2;rw[this]at h2;cases h2
def anyO(ms:List (List UInt8×JT)):List UInt8:=123::(joinC ((fmM ms).map memP)++[125])
theorem anyO_len(ms:List (List UInt8×JT))(i:Nat):(anyO ms).length=(fmT (.obj ms i)).length:=by
 unfold anyO;rw[fmT];simp only[List.length_cons,List.length_append,List.cons_append];rw[joinC_srt]
theorem anyO_read(ms:List (List UInt8×JT))(h0:ms≠[])(ho:okNM ms)(hi:okIM ms)(hd:dpM ms 31)(hpw:(ms.map Prod.fst).Pairwise (fun a b=>a≠b))(hl:(anyO ms).length≤65536):∃us,readL (anyO ms)=.ok (.obj us 0)∧All2 BkM ms us:=by
 have hv:∀p∈ms,U8 p.1∧Rd (valL 31) p.2:=fun p hm=>⟨(okNM_mem ms ho p hm).1,back p.2.size p.2 (Nat.le_refl _) (okNM_mem ms ho p hm).2 (okIM_mem ms hi p hm) 31 (dpM_mem 31 ms hd p hm)⟩
 obtain⟨us,h1,h2⟩:=objF_back (valL 31) ms h0 hv hpw [] (fun p _ h=>by simp at h) ((anyO ms).length+1) (by
  have:=joinC_ge ((fmM ms).map memP) (fun a ha=>by
   obtain⟨t,_,rfl⟩:=List.mem_map.1 ha;simp[memP])
  rw[fmM_map,List.length_map,List.length_map]at this;unfold anyO;rw[fmM_map];simp only[List.length_cons,List.length_append,List.length_nil];omega) 1 []
 refine⟨us,?_,h2⟩;have hj:∃q,joinC ((fmM ms).map memP)++[125]=34::q:=by
  cases ms with
  | nil=>exact absurd rfl h0
  | cons p r=>
    obtain⟨n0,t0⟩:=p;cases r with
    | nil=>exact⟨_,rfl⟩
    | cons a b=>exact⟨_,rfl⟩
 obtain⟨q,hj⟩:=hj;have hval:valL 32 (anyO ms) 0=.ok (.obj us 0,(anyO ms).length):=by
  have e:anyO ms=123::(joinC ((fmM ms).map memP)++[125]):=rfl;rw[e,valL_cons,if_neg (by decide),if_neg (by decide),if_neg (by decide),if_pos (by decide)];dsimp only;rw[if_neg (by decide)];unfold objL;dsimp only;rw[List.drop_succ_cons,List.drop_zero,hj,nb_of _ _ (by decide),Nat.add_zero,List.drop_succ_cons,List.drop_zero,List.head?_cons,if_neg (by decide),←hj];rw[e]at h1;rw[h1];simp;omega
 have h0:nb (anyO ms)=0:=nb_of _ _ (by decide);unfold readL;rw[if_neg (by omega)];dsimp only;rw[h0,List.drop_zero,hval];dsimp only;rw[Nat.zero_add,List.drop_of_length_le (Nat.le_refl _),if_neg (by simp[nb])]
theorem anyO_print(ms ns:List (List UInt8×JT))(hp:ms.Perm ns)(h0:ms≠[])(ho:okNM ms)(hi:okIM ms)(hd:dpM ms 31)(hpw:(ms.map Prod.fst).Pairwise (fun a b=>a≠b)):prF (readL (anyO ms))=if(fmT (.obj ns 0)).length≤65536 then(fmT (.obj ns 0),0,0)else([],1,0):=by
 have es:srtP (fmM ms)=srtP (fmM ns):=srtP_one hp ho hpw;have el:(anyO ms).length=(fmT (.obj ns 0)).length:=by rw[anyO_len ms 0,fmT,fmT,es]
 by_cases hl:(fmT (.obj ns 0)).length≤65536
 ·rw[if_pos hl]
  obtain⟨us,h1,h2⟩:=anyO_read ms h0 ho hi hd hpw (by omega);rw[h1,prF_form,fmT,(all2_fmM h2).1,es,fmT]
 ·rw[if_neg hl]
  unfold readL;rw[if_pos (by omega)];rfl
def four(iss:List UInt8)(a b:Int):List (List UInt8×JT):=[(issS,.str iss 0),(iatS,.int a 0),(nbfS,.int a 0),(expS,.int b 0)]
def fourT(iss:List UInt8)(a b:Int):List UInt8:=[44,34,105,115,115,34,58]++strT iss++[44,34,105,97,116,34,58]++decI a++[44,34,110,98,102,34,58]++decI a++[44,34,101,120,112,34,58]++decI b
theorem four_text(iss:List UInt8)(a b:Int):44::joinC ((fmM (four iss a b)).map memP)=fourT iss a b:=by
 have e1:strT issS=[34,105,115,115,34]:=by decide
 have e2:strT iatS=[34,105,97,116,34]:=by decide
 have e3:strT nbfS=[34,110,98,102,34]:=by decide
 have e4:strT expS=[34,101,120,112,34]:=by decide
 simp[four,fourT,fmM,joinC,memP,fmT,e1,e2,e3,e4]
theorem u8_name(n:List UInt8)(h:n=issS∨n=iatS∨n=nbfS∨n=expS):U8 n:=by
 have one:∀c:UInt8,c.toNat<128→U8 [c]:=fun c hc=>U8.one (by simp) (by unfold seqLen;simp[hc])
 have three:∀a b c:UInt8,a.toNat<128→b.toNat<128→c.toNat<128→U8 [a,b,c]:=fun a b c ha hb hc=>(one a ha).append ((one b hb).append (one c hc))
 rcases h with rfl|rfl|rfl|rfl<;>exact three _ _ _ (by decide) (by decide) (by decide)
theorem make_print{s:List UInt8}{ms:List (List UInt8×JT)}{i:Nat}(h:readL s=.ok (.obj ms i))(h0:ms≠[])(hno:∀p∈ms,p.1≠issS∧p.1≠iatS∧p.1≠nbfS∧p.1≠expS)(iss:List UInt8)(hu:U8 iss)(a b:Int)(ha:0≤a∧a≤9007199254740991)(hb:0≤b∧b≤9007199254740991)(pre:List UInt8)(hpre:fmT (.obj ms i)=pre++[125]):prF (readL (pre++fourT iss a b++[125]))=if(fmT (.obj (ms++four iss a b) 0)).length≤65536 then(fmT (.obj (ms++four iss a b) 0),0,0)else([],1,0):=by
 obtain⟨_,h2,h3,_⟩:=readL_fit h;have hn:=readL_okn h;rw[okN]at hn;rw[okI]at h2;rw[dpT]at h3;have hp:=srtM_perm ms;have hne:srtM ms≠[]:=fun e=>h0 (List.eq_nil_of_length_eq_zero (by rw[←hp.length_eq,e];rfl))
 have e:pre++fourT iss a b++[125]=anyO (srtM ms++four iss a b):=by
  have e1:pre=123::joinC ((fmM (srtM ms)).map memP):=by
   have:fmT (.obj ms i)=(123::joinC ((fmM (srtM ms)).map memP))++[125]:=by rw[←srtM_fm];rfl
   rw[this]at hpre;exact(List.append_inj_left' hpre rfl).symm
  unfold anyO;rw[fmM_app,List.map_append,joinC_app _ _ (by rw[fmM_map];simpa using hne) (by simp[four,fmM]),four_text,e1];simp
 rw[e];have hmem:∀p∈srtM ms++four iss a b,U8 p.1∧okN p.2:=fun p hm=>by
  rcases List.mem_append.1 hm with hm|hm
  ·exact okNM_mem ms hn.1 p (hp.mem_iff.1 hm)
  ·simp only[four,List.mem_cons,List.not_mem_nil,or_false]at hm
   rcases hm with rfl|rfl|rfl|rfl<;>exact⟨u8_name _ (by simp),by rw[okN];trivial⟩
 refine anyO_print _ _ (hp.append_right _) (by simp[hne]) (okNM_of _ hmem) ?_ ?_ ?_
 ·have app:∀(x y:List (List UInt8×JT)),(∀p∈x,okI p.2)→okIM y→okIM (x++y):=by
   intro x y hx hy;induction x with
   | nil=>exact hy
   | cons p r ih=>
     obtain⟨n,t⟩:=p;rw[List.cons_append,okIM];exact⟨hx (n,t) (by simp),ih fun p hp=>hx p (List.mem_cons_of_mem _ hp)⟩
  refine app _ _ (fun p hm=>okIM_mem ms h2 p (hp.mem_iff.1 hm)) ?_;simp only[four,okIM,okI];exact⟨hu,⟨by omega,by omega⟩,⟨by omega,by omega⟩,⟨by omega,by omega⟩,trivial⟩
 ·have app:∀(x y:List (List UInt8×JT)),(∀p∈x,dpT p.2 31)→dpM y 31→dpM (x++y) 31:=by
   intro x y hx hy;induction x with
   | nil=>exact hy
   | cons p r ih=>
     obtain⟨n,t⟩:=p;rw[List.cons_append,dpM];exact⟨hx (n,t) (by simp),ih fun p hp=>hx p (List.mem_cons_of_mem _ hp)⟩
  refine app _ _ (fun p hm=>dpM_mem 31 ms h3.2 p (hp.mem_iff.1 hm)) ?_;simp[four,dpM,dpT]
 ·rw[List.map_append,List.pairwise_append]
  refine⟨List.Pairwise.perm hn.2 (hp.map Prod.fst).symm (fun {a b} h=>h.symm),by simp only[four,List.map_cons,List.map_nil];decide,fun x hx y hy=>?_⟩;obtain⟨p,hpm,rfl⟩:=List.mem_map.1 hx;have:=hno p (hp.mem_iff.1 hpm);simp only[four,List.map_cons,List.map_nil,List.mem_cons,List.not_mem_nil,or_false]at hy;rcases hy with rfl|rfl|rfl|rfl
  ·exact this.1
  ·exact this.2.1
  ·exact this.2.2.1
  ·exact this.2.2.2
def mkN(L:List Nd)(iss:List UInt8)(a b:Int):List Nd:=
 match L with
 | []=>[]
 | n::r=>{n with kids:=n.kids++[L.length,L.length+1,L.length+2,L.length+3]}::r++[⟨3,issS,iss,0,[],0⟩,⟨2,iatS,[],a,[],0⟩,⟨2,nbfS,[],a,[],0⟩,⟨2,expS,[],b,[],0⟩]
theorem mkN_form(ms:List (List UInt8×JT))(i:Nat)(iss:List UInt8)(a b:Int)(f:Nat)(hf:(JT.obj ms i).size≤f):formN (mkN (flat 0 [] (.obj ms i)) iss a b) (f+1) 0=fmT (.obj (ms++four iss a b) 0):=by
 have hlen:(flat 0 [] (.obj ms i)).length=(JT.obj ms i).size:=flat_length 0 [] _;have hL:flat 0 [] (.obj ms i)=⟨5,[],[],0,startsM 1 ms,i⟩::flatM 1 ms:=by rw[flat]
 have hm1:(flatM 1 ms).length=sizeM ms:=flatM_length 1 ms;rw[hL]at hlen ⊢;simp only[JT.size]at hlen hf;obtain⟨N,hN⟩:∃N,N=1+sizeM ms:=⟨_,rfl⟩;have hl2:((⟨5,[],[],0,startsM 1 ms,i⟩:Nd)::flatM 1 ms).length=N:=by rw[List.length_cons,hm1];omega
 have hK:mkN (⟨5,[],[],0,startsM 1 ms,i⟩::flatM 1 ms) iss a b=(⟨5,[],[],0,startsM 1 ms++[N,N+1,N+2,N+3],i⟩::flatM 1 ms)++[⟨3,issS,iss,0,[],0⟩,⟨2,iatS,[],a,[],0⟩,⟨2,nbfS,[],a,[],0⟩,⟨2,expS,[],b,[],0⟩]:=by
  unfold mkN;simp only[hl2]
 rw[hK];generalize hM:((⟨5,[],[],0,startsM 1 ms++[N,N+1,N+2,N+3],i⟩::flatM 1 ms)++[⟨3,issS,iss,0,[],0⟩,⟨2,iatS,[],a,[],0⟩,⟨2,nbfS,[],a,[],0⟩,⟨2,expS,[],b,[],0⟩]:List Nd)=M;have hl3:((⟨5,[],[],0,startsM 1 ms++[N,N+1,N+2,N+3],i⟩:Nd)::flatM 1 ms).length=N:=by rw[List.length_cons,hm1];omega
 have g0:M[0]?=some ⟨5,[],[],0,startsM 1 ms++[N,N+1,N+2,N+3],i⟩:=by rw[←hM];rfl
 have gk:∀k,M[N+k]?=[(⟨3,issS,iss,0,[],0⟩:Nd),⟨2,iatS,[],a,[],0⟩,⟨2,nbfS,[],a,[],0⟩,⟨2,expS,[],b,[],0⟩][k]?:=fun k=>by
  rw[←hM,List.getElem?_append_right (by omega),hl3,Nat.add_sub_cancel_left]
 have k0:M[N]?=some ⟨3,issS,iss,0,[],0⟩:=gk 0;have k1:M[N+1]?=some ⟨2,iatS,[],a,[],0⟩:=gk 1;have k2:M[N+2]?=some ⟨2,nbfS,[],a,[],0⟩:=gk 2;have k3:M[N+3]?=some ⟨2,expS,[],b,[],0⟩:=gk 3;have hS:SubM M 1 ms:=fun j hj=>by
  rw[←hM,List.getElem?_append_left (by omega),Nat.add_comm 1 j,List.getElem?_cons_succ]
 obtain⟨f,rfl⟩:∃g,f=g+1:=⟨f-1,by omega⟩;have hfm:=sub_formM M (f+1) (sub_form M (f+1)) ms 1 hS (by omega);rw[formN];simp only[g0];have hl:(startsM 1 ms++[N,N+1,N+2,N+3]).length=(srt (ltK M) (startsM 1 ms++[N,N+1,N+2,N+3])).length:=(srt_len _ _).symm;rw[if_neg (by decide),if_neg (by decide),if_neg (by decide),if_neg (by decide),if_neg (by decide),hl,bodyTo_all,fmT];have e:(srt (ltK M) (startsM 1 ms++[N,N+1,N+2,N+3])).map (memF M (formN M (f+1)))=((srt (ltK M) (startsM 1 ms++[N,N+1,N+2,N+3])).map (fun k=>(keyL M k,formN M (f+1) k))).map memP:=by
  rw[List.map_map];rfl
 have e4:[N,N+1,N+2,N+3].map (fun k=>(keyL M k,formN M (f+1) k))=fmM (four iss a b):=by
  simp only[List.map_cons,List.map_nil,keyL_of k0,keyL_of k1,keyL_of k2,keyL_of k3,formN,k0,k1,k2,k3,four,fmM,fmT];simp
 rw[e,srt_map,List.map_append,hfm,e4,←fmM_app]
def leaves(iss:List UInt8)(a b:Int):List Nd:=[⟨3,issS,iss,0,[],0⟩,⟨2,iatS,[],a,[],0⟩,⟨2,nbfS,[],a,[],0⟩,⟨2,expS,[],b,[],0⟩]
theorem mkN_eq(ms:List (List UInt8×JT))(i:Nat)(iss:List UInt8)(a b:Int):mkN (flat 0 [] (.obj ms i)) iss a b=(⟨5,[],[],0,startsM 1 ms++[1+sizeM ms,1+sizeM ms+1,1+sizeM ms+2,1+sizeM ms+3],i⟩::flatM 1 ms)++leaves iss a b:=by
 have hL:flat 0 [] (.obj ms i)=⟨5,[],[],0,startsM 1 ms,i⟩::flatM 1 ms:=by rw[flat]
 have hl2:((⟨5,[],[],0,startsM 1 ms,i⟩:Nd)::flatM 1 ms).length=1+sizeM ms:=by rw[List.length_cons,flatM_length];omega
 rw[hL];unfold mkN leaves;simp only[hl2]
section
variable (ms:List (List UInt8×JT)) (i:Nat) (iss:List UInt8) (a b:Int)
theorem mkN_len:(mkN (flat 0 [] (.obj ms i)) iss a b).length=1+sizeM ms+4:=by
 rw[mkN_eq,List.length_append,List.length_cons,flatM_length];simp[leaves];omega
theorem mkN_0:(mkN (flat 0 [] (.obj ms i)) iss a b)[0]?=some ⟨5,[],[],0,startsM 1 ms++[1+sizeM ms,1+sizeM ms+1,1+sizeM ms+2,1+sizeM ms+3],i⟩:=by
 rw[mkN_eq];rfl
theorem mkN_leaf(k:Nat):(mkN (flat 0 [] (.obj ms i)) iss a b)[1+sizeM ms+k]?=(leaves iss a b)[k]?:=by
 have hl:((⟨5,[],[],0,startsM 1 ms++[1+sizeM ms,1+sizeM ms+1,1+sizeM ms+2,1+sizeM ms+3],i⟩:Nd)::flatM 1 ms).length=1+sizeM ms:=by rw[List.length_cons,flatM_length];omega
 rw[mkN_eq,List.getElem?_append_right (by omega),hl,Nat.add_sub_cancel_left]
theorem mkN_old(k:Nat)(h0:0<k)(hk:k<1+sizeM ms):(mkN (flat 0 [] (.obj ms i)) iss a b)[k]?=(flat 0 [] (.obj ms i))[k]?:=by
 obtain⟨k,rfl⟩:∃j,k=j+1:=⟨k-1,by omega⟩;rw[mkN_eq,List.getElem?_append_left (by rw[List.length_cons,flatM_length];omega),flat,List.getElem?_cons_succ,List.getElem?_cons_succ]
theorem mkN_sub:SubM (mkN (flat 0 [] (.obj ms i)) iss a b) 1 ms:=fun j hj=>by
 rw[mkN_old ms i iss a b (1+j) (by omega) (by omega),flat,Nat.add_comm 1 j,List.getElem?_cons_succ]
theorem mkN_cases(k:Nat)(n:Nd)(h:(mkN (flat 0 [] (.obj ms i)) iss a b)[k]?=some n):(k=0∧n=⟨5,[],[],0,startsM 1 ms++[1+sizeM ms,1+sizeM ms+1,1+sizeM ms+2,1+sizeM ms+3],i⟩)∨(0<k∧k<1+sizeM ms∧(flat 0 [] (.obj ms i))[k]?=some n)∨(1+sizeM ms≤k∧n∈leaves iss a b):=by
 by_cases h0:k=0
 ·subst h0
  rw[mkN_0]at h;injection h with h;exact .inl ⟨rfl,h.symm⟩
 ·by_cases hk:k<1+sizeM ms
  ·rw[mkN_old ms i iss a b k (by omega) hk]at h
   exact .inr (.inl ⟨by omega,hk,h⟩)
  ·obtain⟨q,rfl⟩:∃q,k=1+sizeM ms+q:=⟨k-(1+sizeM ms),by omega⟩
   rw[mkN_leaf]at h;exact .inr (.inr ⟨by omega,List.mem_of_getElem? h⟩)
theorem leaves_ok(hi:iss.length≤1048576)(ha:0≤a∧a≤9007199254740991)(hb:0≤b∧b≤9007199254740991)(n:Nd)(hn:n∈leaves iss a b):(n.kind=2∨n.kind=3)∧0≤n.num∧n.num≤9007199254740991∧n.text.length≤1048576∧n.key.length=3∧n.kids=[]:=by
 simp only[leaves,List.mem_cons,List.not_mem_nil,or_false]at hn;rcases hn with rfl|rfl|rfl|rfl
 ·exact⟨.inr rfl,(by show(0:Int)≤0;omega),(by show(0:Int)≤9007199254740991;omega),hi,rfl,rfl⟩
 ·exact⟨.inl rfl,ha.1,ha.2,by simp,rfl,rfl⟩
 ·exact⟨.inl rfl,ha.1,ha.2,by simp,rfl,rfl⟩
 ·exact⟨.inl rfl,hb.1,hb.2,by simp,rfl,rfl⟩
theorem startsM_le:∀(ms:List (List UInt8×JT)) (q:Nat),(startsM q ms).length≤sizeM ms
 | [],q=>by simp[startsM]
 | (n,t)::r,q=>by
   have:=startsM_le r (q+t.size);have h1:=size_pos t;rw[startsM,sizeM,List.length_cons];omega
theorem mkN_wfn(hW:WFN (flat 0 [] (.obj ms i)))(hsz:(JT.obj ms i).size≤100000)(hi:iss.length≤1048576)(ha:0≤a∧a≤9007199254740991)(hb:0≤b∧b≤9007199254740991):WFN (mkN (flat 0 [] (.obj ms i)) iss a b):=by
 have hc:=mkN_cases ms i iss a b;have hl:=leaves_ok iss a b hi ha hb;have hlen:=mkN_len ms i iss a b;have hL:(flat 0 [] (.obj ms i)).length=1+sizeM ms:=by rw[flat_length];rfl
 have h0:(flat 0 [] (.obj ms i))[0]?=some ⟨5,[],[],0,startsM 1 ms,i⟩:=by rw[flat];rfl
 rw[JT.size]at hsz;refine⟨by omega,?_,?_,?_,?_,?_,?_,?_,?_⟩
 ·intro k n h
  rcases hc k n h with⟨_,rfl⟩|⟨_,_,h⟩|⟨_,h⟩
  ·exact Nat.le_refl 5
  ·exact hW.kind k n h
  ·rcases(hl n h).1 with h|h<;>omega
 ·intro k n h hk
  rcases hc k n h with⟨_,rfl⟩|⟨_,_,h⟩|⟨_,h⟩
  ·simp at hk
  ·exact hW.truth k n h hk
  ·rcases(hl n h).1 with h|h<;>omega
 ·intro k n h
  rcases hc k n h with⟨_,rfl⟩|⟨_,_,h⟩|⟨_,h⟩
  ·simp
  ·exact hW.lo k n h
  ·have:=(hl n h).2.1;omega
 ·intro k n h
  rcases hc k n h with⟨_,rfl⟩|⟨_,_,h⟩|⟨_,h⟩
  ·simp
  ·exact hW.hi k n h
  ·have:=(hl n h).2.2.1;omega
 ·intro k n h
  rcases hc k n h with⟨_,rfl⟩|⟨_,_,h⟩|⟨_,h⟩
  ·simp
  ·exact hW.text k n h
  ·have:=(hl n h).2.2.2.1;omega
 ·intro k n h
  rcases hc k n h with⟨_,rfl⟩|⟨_,_,h⟩|⟨_,h⟩
  ·simp
  ·exact hW.key k n h
  ·have:=(hl n h).2.2.2.2.1;omega
 ·intro k n h
  rcases hc k n h with⟨_,rfl⟩|⟨_,_,h⟩|⟨_,h⟩
  ·have:=startsM_le ms 1
   simp only[List.length_append,List.length_cons,List.length_nil];omega
  ·exact hW.few k n h
  ·rw[(hl n h).2.2.2.2.2];simp
 ·intro k n h c hcm
  rcases hc k n h with⟨rfl,rfl⟩|⟨h1,h2,h⟩|⟨_,h⟩
  ·rcases List.mem_append.1 hcm with hcm|hcm
   ·have:=hW.kids 0 _ h0 c hcm
    omega
   ·simp only[List.mem_cons,List.not_mem_nil,or_false]at hcm
    omega
  ·have:=hW.kids k n h c hcm
   omega
  ·rw[(hl n h).2.2.2.2.2]at hcm;simp at hcm
theorem leaf_form(hi:iss.length≤1048576)(ha:0≤a∧a≤9007199254740991)(hb:0≤b∧b≤9007199254740991)(f k:Nat)(n:Nd)(h:(mkN (flat 0 [] (.obj ms i)) iss a b)[k]?=some n)(hn:n∈leaves iss a b):(formN (mkN (flat 0 [] (.obj ms i)) iss a b) f k).length≤6291460∧(keyL (mkN (flat 0 [] (.obj ms i)) iss a b) k).length=3:=by
 obtain⟨h1,h2,h3,h4,h5,h6⟩:=leaves_ok iss a b hi ha hb n hn;refine⟨?_,by rw[keyL_of h];exact h5⟩;cases f with
 | zero=>simp[formN]
 | succ f=>
   rw[formN,h];dsimp only;rcases h1 with h1|h1
   ·rw[if_neg (by omega),if_neg (by omega),if_pos h1]
    have:=decI_len n.num (by omega) (by omega);omega
   ·rw[if_neg (by omega),if_neg (by omega),if_neg (by omega),if_pos h1]
    have:=strT_len n.text;omega
theorem mkN_body(ho:okM 65536 ms)(hcs:costM ms≤1966080)(hi:iss.length≤1048576)(ha:0≤a∧a≤9007199254740991)(hb:0≤b∧b≤9007199254740991)(f j:Nat)(hj:j≤(startsM 1 ms++[1+sizeM ms,1+sizeM ms+1,1+sizeM ms+2,1+sizeM ms+3]).length):(bodyTo (memF (mkN (flat 0 [] (.obj ms i)) iss a b) (formN (mkN (flat 0 [] (.obj ms i)) iss a b) f)) (srt (ltK (mkN (flat 0 [] (.obj ms i)) iss a b)) (startsM 1 ms++[1+sizeM ms,1+sizeM ms+1,1+sizeM ms+2,1+sizeM ms+3])) j).length≤30000000:=by
 have hS:=mkN_sub ms i iss a b;have hlf:=mkN_leaf ms i iss a b;have hlv:=leaf_form ms i iss a b hi ha hb f;generalize mkN (flat 0 [] (.obj ms i)) iss a b=M at *;have h2:=sumM M (formN M f) (form_cost M f) ms 1 hS ho;have h3:=bodyTo_sum (memF M (formN M f)) (srt (ltK M) (startsM 1 ms++[1+sizeM ms,1+sizeM ms+1,1+sizeM ms+2,1+sizeM ms+3])) j (by rw[srt_len];exact hj);rw[srt_sum,List.map_append,List.sum_append]at h3;have one:∀q (n:Nd),(leaves iss a b)[q]?=some n→(memF M (formN M f) (1+sizeM ms+q)).length+1≤6291490:=fun q n hq=>by
  have e:=hlf q;rw[hq]at e;obtain⟨g1,g2⟩:=hlv (1+sizeM ms+q) n e (List.mem_of_getElem? hq);have g3:=strT_len (keyL M (1+sizeM ms+q));unfold memF;rw[List.length_append,List.length_cons];omega
 have o0:(memF M (formN M f) (1+sizeM ms)).length+1≤6291490:=one 0 _ rfl;have o1:=one 1 _ rfl;have o2:=one 2 _ rfl;have o3:=one 3 _ rfl;simp only[List.map_cons,List.map_nil,List.sum_cons,List.sum_nil]at h3;omega
theorem mkN_short(ho:okM 65536 ms)(hcs:costM ms≤1966080)(hi:iss.length≤1048576)(ha:0≤a∧a≤9007199254740991)(hb:0≤b∧b≤9007199254740991):Short (mkN (flat 0 [] (.obj ms i)) iss a b):=by
 have hc:=mkN_cases ms i iss a b;have hbd:=mkN_body ms i iss a b ho hcs hi ha hb;have hlv:=leaf_form ms i iss a b hi ha hb;have h0:=mkN_0 ms i iss a b;have hS:=mkN_sub ms i iss a b;have hold:=mkN_old ms i iss a b;have hlo:=leaves_ok iss a b hi ha hb;generalize mkN (flat 0 [] (.obj ms i)) iss a b=M at *;have hat:∀k,0<k→k<1+sizeM ms→∃key' t',Sub M k key' t'∧okT 65536 t'∧cost t'≤costM ms:=fun k h1 h2=>by
  obtain⟨key',t',g1,g2,g3⟩:=subM_at M 1 ms hS ho (k-1) (by omega);rw[show 1+(k-1)=k by omega]at g1;exact⟨key',t',g1,g2,g3⟩
 refine⟨fun f k=>?_,fun f k n hn h4 j hj=>?_,fun f k n hn h5 j hj=>?_⟩
 ·cases f with
  | zero=>simp[formN]
  | succ f=>
    cases hk:M[k]? with
    | none=>rw[formN,hk];simp
    | some n=>
      rcases hc k n hk with⟨rfl,rfl⟩|⟨h1,h2,h⟩|⟨_,h⟩
      ·rw[formN,hk]
       dsimp only;rw[if_neg (by decide),if_neg (by decide),if_neg (by decide),if_neg (by decide),if_neg (by decide)];have:=hbd f _ (Nat.le_refl _);simp only[List.length_cons,List.length_append,List.length_nil]at this ⊢;omega
      ·obtain⟨key,t',g1,g2,g3⟩:=hat k h1 h2
       have:=form_cost M (f+1) k key t' g1 g2;omega
      ·have:=(hlv (f+1) k n hk h).1;omega
 ·rcases hc k n hn with⟨rfl,rfl⟩|⟨h1,h2,h⟩|⟨_,h⟩
  ·simp at h4
  ·obtain⟨key,t',g1,g2,g3⟩:=hat k h1 h2
   have h1:=g1.first;rw[hn]at h1;cases t' with
   | null i=>rw[flat]at h1;injection h1 with h1;subst h1;simp at h4
   | truth x i=>rw[flat]at h1;injection h1 with h1;subst h1;simp at h4
   | int n i=>rw[flat]at h1;injection h1 with h1;subst h1;simp at h4
   | str s i=>rw[flat]at h1;injection h1 with h1;subst h1;simp at h4
   | arr ts i=>
     have h2:=sumL M (formN M f) (form_cost M f) ts (k+1) g1.arr (by rw[okT]at g2;exact g2);rw[flat]at h1;injection h1 with h1;subst h1;have h3:=bodyTo_sum (formN M f) (startsL (k+1) ts) j hj;rw[cost]at g3;dsimp only;omega
   | obj ms i=>rw[flat]at h1;injection h1 with h1;subst h1;simp at h4
  ·rcases(hlo n h).1 with h|h<;>omega
 ·rcases hc k n hn with⟨rfl,rfl⟩|⟨h1,h2,h⟩|⟨_,h⟩
  ·exact Nat.le_trans (hbd f j hj) (by omega)
  ·obtain⟨key,t',g1,g2,g3⟩:=hat k h1 h2
   have h1:=g1.first;rw[hn]at h1;cases t' with
   | null i=>rw[flat]at h1;injection h1 with h1;subst h1;simp at h5
   | truth x i=>rw[flat]at h1;injection h1 with h1;subst h1;simp at h5
   | int n i=>rw[flat]at h1;injection h1 with h1;subst h1;simp at h5
   | str s i=>rw[flat]at h1;injection h1 with h1;subst h1;simp at h5
   | arr ts i=>rw[flat]at h1;injection h1 with h1;subst h1;simp at h5
   | obj ms i=>
     have h2:=sumM M (formN M f) (form_cost M f) ms (k+1) g1.obj (by rw[okT]at g2;exact g2);rw[flat]at h1;injection h1 with h1;subst h1;have h3:=bodyTo_sum (memF M (formN M f)) (srt (ltK M) (startsM (k+1) ms)) j (by rw[srt_len];exact hj);rw[srt_sum]at h3;rw[cost]at g3;dsimp only;omega
  ·rcases(hlo n h).1 with h|h<;>omega
end
theorem nodes_lt{B:Nat}{tN:TypeId}{v:Value}{ns:List Nd}{w:World}(h:Nodes B tN v ns w)(hl:0<ns.length):B≤w.heap.size:=by
 obtain⟨kvs,_,k2,_⟩:=h;rcases k2.2 with⟨e,h0⟩|⟨q,_,_,_,h1,h2,_⟩
 ·omega
 ·have:=(Array.getElem?_eq_some_iff.1 h2).1;omega
theorem addKid_few(ns:List Nd)(u k K:Nat)(nd:Nd)(h:∀n∈ns,n.kids.length≤K)(hn:nd.kids=[]):∀n∈addKid ns (some u) k++[nd],n.kids.length≤K+1:=by
 intro n hm;rcases List.mem_append.1 hm with hm|hm
 ·obtain⟨j,hj⟩:=List.getElem?_of_mem hm
  unfold addKid at hj;dsimp only at hj;rw[List.getElem?_modify]at hj;cases hq:ns[j]? with
  | none=>rw[hq]at hj;simp at hj
  | some m=>
    have:=h m (List.mem_of_getElem? hq);rw[hq]at hj;simp only[Option.map_eq_map,Option.map_some,Option.some.injEq]at hj;subst hj;split
    ·simp only[List.length_append,List.length_cons,List.length_nil];omega
    ·omega
 ·simp at hm;subst hm;rw[hn];simp
theorem mkN_chain(L:List Nd)(hl:L≠[])(iss:List UInt8)(a b:Int)(L1 L2 L3:List Nd)(h1:L1=addKid L (some 0) L.length++[⟨3,issS,iss,0,[],0⟩])(h2:L2=addKid L1 (some 0) L1.length++[⟨2,iatS,[],a,[],0⟩])(h3:L3=addKid L2 (some 0) L2.length++[⟨2,nbfS,[],a,[],0⟩]):mkN L iss a b=addKid L3 (some 0) L3.length++[⟨2,expS,[],b,[],0⟩]:=by
 subst h1 h2 h3;cases L with
 | nil=>exact absurd rfl hl
 | cons n r=>simp[addKid,mkN]
def mkF(t:JT)(iss:List UInt8)(a b:Int):List UInt8×Int×Int:=
 match t with
 | .obj ms _=>if(fmT (.obj (ms++four iss a b) 0)).length≤65536 then(fmT (.obj (ms++four iss a b) 0),0,0)else([],1,0)
 | _=>([],0,0)
def mkT(t:JT)(iss:List UInt8)(a ttl:Int):List UInt8×Int×Int:=
 if(ndA (flat 0 [] t) 0).kind=5 then
  if(refA (flat 0 [] t) (ndA (flat 0 [] t) 0).kids).1=0 then
   if memK (flat 0 [] t) audS (ndA (flat 0 [] t) 0).kids<0 then([],7,0)
   else if Lib.validD iss=false then([],2,0)
   else if a<0∨ttl<1∨9007199254740991-ttl<a then([],3,0)
   else mkF t iss a (a+ttl)
  else([],refA (flat 0 [] t) (ndA (flat 0 [] t) 0).kids)
 else([],6,((ndA (flat 0 [] t) 0).at':Int))
def mkR(s iss:List UInt8)(a ttl:Int):List UInt8×Int×Int:=
 match readL s with
 | .ok t=>mkT t iss a ttl
 | .error (e,p)=>([],(e:Int),(p:Int))
theorem make_obj{t:JT}(hk:(ndA (flat 0 [] t) 0).kind=5)(hr:(refA (flat 0 [] t) (ndA (flat 0 [] t) 0).kids).1=0)(ha:¬memK (flat 0 [] t) audS (ndA (flat 0 [] t) 0).kids<0):∃ms i,t=.obj ms i∧ms≠[]∧∀p∈ms,p.1≠issS∧p.1≠iatS∧p.1≠nbfS∧p.1≠expS:=by
 cases t with
 | null i=>simp[flat,ndA]at hk
 | truth b i=>simp[flat,ndA]at hk
 | int n i=>simp[flat,ndA]at hk
 | str x i=>simp[flat,ndA]at hk
 | arr ts i=>simp[flat,ndA]at hk
 | obj ms i=>
   have e0:ndA (flat 0 [] (.obj ms i)) 0=⟨5,[],[],0,startsM 1 ms,i⟩:=by rw[flat];rfl
   rw[e0]at hr ha;have hS:Sub (flat 0 [] (.obj ms i)) 0 [] (.obj ms i):=fun j hj=>by rw[Nat.zero_add]
   have hM:SubM (flat 0 [] (.obj ms i)) 1 ms:=hS.obj;have hkeys:=keys_of (flat 0 [] (.obj ms i)) ms 1 hM;have hno:=refA_none _ _ hr;refine⟨ms,i,rfl,?_,fun p hp=>?_⟩
   ·rintro rfl
    exact ha (by simp[startsM,memK])
   ·have hm:p.1∈(startsM 1 ms).map (keyL (flat 0 [] (.obj ms i))):=by rw[hkeys];exact List.mem_map_of_mem hp
    obtain⟨c,hc,e⟩:=List.mem_map.1 hm;have hn:=hno c hc;have ek:(ndA (flat 0 [] (.obj ms i)) c).key=keyL (flat 0 [] (.obj ms i)) c:=by
     unfold ndA keyL;cases(flat 0 [] (.obj ms i))[c]?<;>rfl
    rw[ek,e]at hn;exact⟨fun h=>hn (.inl h),fun h=>hn (.inr (.inl h)),fun h=>hn (.inr (.inr (.inl h))),fun h=>hn (.inr (.inr (.inr h)))⟩
theorem make_seal{s:List UInt8}{t:JT}(h:readL s=.ok t)(hk:(ndA (flat 0 [] t) 0).kind=5)(hr:(refA (flat 0 [] t) (ndA (flat 0 [] t) 0).kids).1=0)(ha:¬memK (flat 0 [] t) audS (ndA (flat 0 [] t) 0).kids<0)(iss:List UInt8)(hu:Lib.validD iss=true)(a ttl:Int)(hb:¬(a<0∨ttl<1∨9007199254740991-ttl<a))(pre:List UInt8)(hpre:fmT t=pre++[125]):((prF (readL (pre++fourT iss a (a+ttl)++[125]))).1,((prF (readL (pre++fourT iss a (a+ttl)++[125]))).2.1:Int),((prF (readL (pre++fourT iss a (a+ttl)++[125]))).2.2:Int))=mkF t iss a (a+ttl):=by
 obtain⟨ms,i,rfl,h0,hno⟩:=make_obj hk hr ha;rw[make_print h h0 hno iss ((valid_u8 iss).1 hu) a (a+ttl) ⟨by omega,by omega⟩ ⟨by omega,by omega⟩ pre hpre];unfold mkF;dsimp only;split<;>rfl
theorem fm_last(ms:List (List UInt8×JT))(i:Nat):∃pre,fmT (.obj ms i)=pre++[125]:=⟨_,by rw[fmT]⟩
end Go.Proofs.YtbbopknnoamkbaaGreatDoor
