import Derived.Test.YtihboehpeehlmaaGreatDoorG1
namespace Go.Proofs.YtihboehpeehlmaaGreatDoor
set_option linter.unusedVariables false
theorem BF(v:dj->Nat->JR JT)(b:∀l i e a,v l i=.error (e,a)->0<e):∀(f:Nat) (l:dj) (i e a:Nat),dW v f l i=.error (e,a)->0<e:=by
 intro f;induction f with
 | zero=>intro l i e a h;simp[dW]at h;omega
 | succ f ih=>
   intro l i e a h;rw[dW]at h;dsimp only at h;repeat' split at h
   all_goals first
    | (injection h with h;subst h;exact b _ _ _ _ (by assumption))
    | (injection h with h;subst h;exact ih _ _ _ _ (by assumption))
    | (simp only[K8,Lh]at h;omega)
    | cases h
theorem Bb(v:dj->Nat->JR JT)(c:∀l i e a,v l i=.error (e,a)->0<e):∀(f:Nat) (b:List (dj)) (l:dj) (i e a:Nat),dn v f b l i=.error (e,a)->0<e:=by
 intro f;induction f with
 | zero=>intro b l i e a h;simp[dn]at h;omega
 | succ f ih=>
   intro b l i e a h;rw[dn]at h;dsimp only at h;repeat' split at h
   all_goals first
    | (injection h with h;subst h;exact c _ _ _ _ (by assumption))
    | (injection h with h;subst h;exact ih _ _ _ _ _ (by assumption))
    | (simp only[K8,Lh]at h;omega)
    | cases h
theorem rz{l:dj}{e o:Nat}(h:di l=.error (e,o)):0<e:=by
 unfold di at h;dsimp only at h;repeat' split at h
 all_goals first
  | (simp only[K8,Lh]at h;omega)
  | cases h
theorem pw{l:dj}{i e a:Nat}(h:df l i=.error (e,a)):0<e:=by
 unfold df at h;dsimp only at h;repeat' split at h
 all_goals first
  | (simp only[K8,Lh]at h;omega)
  | cases h
theorem xX:∀(d:Nat) (l:dj) (i e a:Nat),valL d l i=.error (e,a)->0<e:=by
 intro d;induction d with
 | zero=>
   intro l i e a h;cases l with
   | nil=>rw[valL]at h;simp only[K8,Lh]at h;omega
   | cons c r=>
     rw[cG]at h;dsimp only at h;repeat' split at h
     all_goals first
      | exact pw h
      | (simp only[K8,Lh]at h;omega)
      | (simp only[K8,Lh]at h;have:=rz (by assumption);omega)
      | cases h
 | succ d ih=>
   intro l i e a h;cases l with
   | nil=>rw[valL]at h;simp only[K8,Lh]at h;omega
   | cons c r=>
     rw[cG]at h;dsimp only at h;unfold dM db at h;dsimp only at h;repeat' split at h
     all_goals first
      | exact pw h
      | (injection h with h;subst h;exact BF _ ih _ _ _ _ _ (by assumption))
      | (injection h with h;subst h;exact Bb _ ih _ _ _ _ _ _ (by assumption))
      | (simp only[K8,Lh]at h;omega)
      | (simp only[K8,Lh]at h;have:=rz (by assumption);omega)
      | cases h
theorem y9{l:dj}{e a:Nat}(h:cB l=.error (e,a)):0<e:=by
 unfold cB at h;dsimp only at h;repeat' split at h
 all_goals first
  | (injection h with h;subst h;exact xX _ _ _ _ _ (by assumption))
  | (simp only[K8,Lh]at h;omega)
  | cases h
end Go.Proofs.YtihboehpeehlmaaGreatDoor
