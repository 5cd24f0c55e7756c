import Derived.Test.YtbbopknnoamkbaaGreatDoorQMd
import Derived.Test.YtbbopknnoamkbaaGreatDoorQGrow
namespace Go.Proofs.YtbbopknnoamkbaaGreatDoor
set_option linter.unusedVariables false
theorem kept{s:List UInt8}{il:List UInt8}{a ttl:Int}{T:List UInt8}{p:Int}(h:mkR s il a ttl=(T,0,p)):∃ms i us,readL s=.ok (.obj ms i)∧readL T=.ok (.obj us 0)∧us.length=ms.length+4∧∀(j:Nat) (n:List UInt8) (t:JT),ms[j]?=some (n,t)→∃(y:Nat) (u:JT),us[y]?=some (n,u)∧Al t u∧∀(y':Nat) (u':JT),us[y']?=some (n,u')→y'=y:=by
 obtain⟨ms,i,us,hR,_,hu1,hu2,hd⟩:=made h;have hpm:=srtM_perm (ms++four il a (a+ttl));have hn:=(all2_fmM hu2).2.2;have hdu:(us.map Prod.fst).Pairwise (fun a b=>a≠b):=by rw[hn];exact List.Pairwise.perm hd (hpm.map Prod.fst).symm (fun {a b} h=>h.symm)
 refine⟨ms,i,us,hR,hu1,by rw[hu2.length,hpm.length_eq,List.length_append];rfl,fun j n t hj=>?_⟩;obtain⟨b,hb,e1,e2⟩:=hu2.mem (n,t) (hpm.mem_iff.2 (List.mem_append_left _ (List.mem_of_getElem? hj)));obtain⟨y,hy⟩:=List.getElem?_of_mem hb;obtain⟨bn,bu⟩:=b;dsimp only at e1 e2;subst e1;refine⟨y,bu,hy,e2.1,fun y' u' hy'=>?_⟩;rw[List.pairwise_iff_getElem]at hdu;obtain⟨l1,g1⟩:=List.getElem?_eq_some_iff.1 hy;obtain⟨l2,g2⟩:=List.getElem?_eq_some_iff.1 hy';rcases Nat.lt_trichotomy y y' with hlt|he|hlt
 ·exact(hdu y y' (by rw[List.length_map];exact l1) (by rw[List.length_map];exact l2) hlt (by rw[List.getElem_map,List.getElem_map,g1,g2])).elim
 ·exact he.symm
 ·exact(hdu y' y (by rw[List.length_map];exact l2) (by rw[List.length_map];exact l1) hlt (by rw[List.getElem_map,List.getElem_map,g1,g2])).elim
end Go.Proofs.YtbbopknnoamkbaaGreatDoor
