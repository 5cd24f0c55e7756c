import Derived.Test.YtbbopknnoamkbaaGreatDoorM1
import Derived.Test.YtbbopknnoamkbaaGreatDoorQPos
namespace Go.Proofs.YtbbopknnoamkbaaGreatDoor
set_option linter.unusedVariables false
theorem okIM_of:∀ms:List (List UInt8×JT),(∀p∈ms,okI p.2)→okIM ms
 | [],_=>by rw[okIM];trivial
 | (n,t)::r,h=>by rw[okIM];exact⟨h (n,t) (by simp),okIM_of r fun p hp=>h p (List.mem_cons_of_mem _ hp)⟩
theorem dpM_of(d:Nat):∀ms:List (List UInt8×JT),(∀p∈ms,dpT p.2 d)→dpM ms d
 | [],_=>by rw[dpM];trivial
 | (n,t)::r,h=>by rw[dpM];exact⟨h (n,t) (by simp),dpM_of d r fun p hp=>h p (List.mem_cons_of_mem _ hp)⟩
theorem all2_back{ms us:List (List UInt8×JT)}(h:All2 BkM ms us):∀p∈us,∃b∈ms,BkM b p:=by
 induction h with
 | nil=>intro p hp;simp at hp
 | cons hab _ ih=>
   intro p hp;rcases List.mem_cons.1 hp with rfl|hp
   ·exact⟨_,by simp,hab⟩
   ·obtain⟨b,hb,e⟩:=ih p hp
    exact⟨b,List.mem_cons_of_mem _ hb,e⟩
theorem four_ok{s:List UInt8}{ms:List (List UInt8×JT)}{i:Nat}(h:readL s=.ok (.obj ms i))(h0:ms≠[])(hno:∀p∈ms,p.1≠issS∧p.1≠iatS∧p.1≠nbfS∧p.1≠expS)(iss:List UInt8)(hu:U8 iss)(a b:Int)(ha:0≤a∧a≤9007199254740991)(hb:0≤b∧b≤9007199254740991):okNM (ms++four iss a b)∧okIM (ms++four iss a b)∧dpM (ms++four iss a b) 31∧((ms++four iss a b).map Prod.fst).Pairwise (fun a b=>a≠b):=by
 obtain⟨_,h2,h3,_⟩:=readL_fit h;have hn:=readL_okn h;rw[okN]at hn;rw[okI]at h2;rw[dpT]at h3;have split4:∀p∈ms++four iss a b,p∈ms∨p=(issS,.str iss 0)∨p=(iatS,.int a 0)∨p=(nbfS,.int a 0)∨p=(expS,.int b 0):=fun p hm=>by
  rcases List.mem_append.1 hm with hm|hm
  ·exact .inl hm
  ·simp only[four,List.mem_cons,List.not_mem_nil,or_false]at hm;exact .inr hm
 refine⟨okNM_of _ fun p hm=>?_,okIM_of _ fun p hm=>?_,dpM_of 31 _ fun p hm=>?_,?_⟩
 ·rcases split4 p hm with hm|rfl|rfl|rfl|rfl
  ·exact okNM_mem ms hn.1 p hm
  all_goals exact⟨u8_name _ (by simp),by rw[okN];trivial⟩
 ·rcases split4 p hm with hm|rfl|rfl|rfl|rfl
  ·exact okIM_mem ms h2 p hm
  ·rw[okI];exact hu
  all_goals (rw[okI];constructor<;>omega)
 ·rcases split4 p hm with hm|rfl|rfl|rfl|rfl
  ·exact dpM_mem 31 ms h3.2 p hm
  all_goals (rw[dpT];trivial)
 ·rw[List.map_append,List.pairwise_append]
  refine⟨hn.2,by simp only[four,List.map_cons,List.map_nil];decide,fun x hx y hy=>?_⟩;obtain⟨p,hpm,rfl⟩:=List.mem_map.1 hx;have:=hno p hpm;simp only[four,List.map_cons,List.map_nil,List.mem_cons,List.not_mem_nil,or_false]at hy;rcases hy with rfl|rfl|rfl|rfl
  ·exact this.1
  ·exact this.2.1
  ·exact this.2.2.1
  ·exact this.2.2.2
theorem madeX{s:List UInt8}{il:List UInt8}{a ttl:Int}{T:List UInt8}{p:Int}(h:mkR s il a ttl=(T,0,p)):∃ms i us,readL s=.ok (.obj ms i)∧(refA (flat 0 [] (.obj ms i)) (startsM 1 ms)).1=0∧readL T=.ok (.obj us 0)∧All2 BkM (srtM (ms++four il a (a+ttl))) us∧((ms++four il a (a+ttl)).map Prod.fst).Pairwise (fun a b=>a≠b)∧okNM (ms++four il a (a+ttl))∧T=anyO (srtM (ms++four il a (a+ttl)))∧¬memK (flat 0 [] (.obj ms i)) audS (startsM 1 ms)<0∧¬(a<0∨ttl<1∨9007199254740991-ttl<a):=by
 unfold mkR at h;cases hR:readL s with
 | error q=>
   obtain⟨e,q⟩:=q;rw[hR]at h;simp only[Prod.mk.injEq]at h;exact absurd h.2.1 (by have:=readL_err hR;omega)
 | ok t=>
   rw[hR]at h;dsimp only at h;unfold mkT at h;by_cases hk:(ndA (flat 0 [] t) 0).kind=5
   ·rw[if_pos hk]at h
    by_cases hE:(refA (flat 0 [] t) (ndA (flat 0 [] t) 0).kids).1=0
    ·rw[if_pos hE]at h
     by_cases hA:memK (flat 0 [] t) audS (ndA (flat 0 [] t) 0).kids<0
     ·rw[if_pos hA]at h;simp at h
     ·rw[if_neg hA]at h
      cases hU:Lib.validD il with
      | false=>rw[hU,if_pos rfl]at h;simp at h
      | true=>
        rw[hU,if_neg (by decide)]at h;by_cases hr:a<0∨ttl<1∨9007199254740991-ttl<a
        ·rw[if_pos hr]at h;simp at h
        ·rw[if_neg hr]at h
         obtain⟨ms,i,rfl,h0,hno⟩:=make_obj hk hE hA;have e0:ndA (flat 0 [] (.obj ms i)) 0=⟨5,[],[],0,startsM 1 ms,i⟩:=by rw[flat];rfl
         rw[e0]at hE hA;unfold mkF at h;dsimp only at h;by_cases hl:(fmT (.obj (ms++four il a (a+ttl)) 0)).length≤65536
         ·rw[if_pos hl]at h
          simp only[Prod.mk.injEq]at h;obtain⟨rfl,_⟩:=h;have hu:=(valid_u8 il).1 hU;obtain⟨q1,q2,q3,q4⟩:=four_ok hR h0 hno il hu a (a+ttl) ⟨by omega,by omega⟩ ⟨by omega,by omega⟩;have hpm:=srtM_perm (ms++four il a (a+ttl));have e:fmT (.obj (ms++four il a (a+ttl)) 0)=anyO (srtM (ms++four il a (a+ttl))):=by rw[fmT,srtM_fm];rfl
          rw[e]at hl ⊢;obtain⟨us,hu1,hu2⟩:=anyO_read (srtM (ms++four il a (a+ttl))) (fun e=>by have:=hpm.length_eq;rw[e]at this;simp[four]at this) (okNM_of _ fun p hp=>okNM_mem _ q1 p (hpm.mem_iff.1 hp)) (okIM_of _ fun p hp=>okIM_mem _ q2 p (hpm.mem_iff.1 hp)) (dpM_of 31 _ fun p hp=>dpM_mem 31 _ q3 p (hpm.mem_iff.1 hp)) (List.Pairwise.perm q4 (hpm.map Prod.fst).symm (fun {a b} h=>h.symm)) hl;exact⟨ms,i,us,rfl,hE,hu1,hu2,q4,q1,rfl,hA,hr⟩
         ·rw[if_neg hl]at h;simp at h
    ·rw[if_neg hE]at h
     simp only[Prod.mk.injEq]at h;have h2:=h.2;exact absurd (by rw[Prod.ext_iff]at h2;exact h2.1) hE
   ·rw[if_neg hk]at h;simp at h
theorem made{s:List UInt8}{il:List UInt8}{a ttl:Int}{T:List UInt8}{p:Int}(h:mkR s il a ttl=(T,0,p)):∃ms i us,readL s=.ok (.obj ms i)∧(refA (flat 0 [] (.obj ms i)) (startsM 1 ms)).1=0∧readL T=.ok (.obj us 0)∧All2 BkM (srtM (ms++four il a (a+ttl))) us∧((ms++four il a (a+ttl)).map Prod.fst).Pairwise (fun a b=>a≠b):=by
 obtain⟨ms,i,us,h1,h2,h3,h4,h5,_⟩:=madeX h;exact⟨ms,i,us,h1,h2,h3,h4,h5⟩
end Go.Proofs.YtbbopknnoamkbaaGreatDoor
