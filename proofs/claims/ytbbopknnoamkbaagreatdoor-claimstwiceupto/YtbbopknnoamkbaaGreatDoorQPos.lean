import Derived.Test.YtbbopknnoamkbaaGreatDoorG1
namespace Go.Proofs.YtbbopknnoamkbaaGreatDoor
set_option linter.unusedVariables false
theorem arrF_pos(v:List UInt8→Nat→JR JT)(hv:∀l i e a,v l i=.error (e,a)→0<e):∀(f:Nat) (l:List UInt8) (i e a:Nat),arrF v f l i=.error (e,a)→0<e:=by
 intro f;induction f with
 | zero=>intro l i e a h;simp[arrF]at h;omega
 | succ f ih=>
   intro l i e a h;rw[arrF]at h;dsimp only at h;repeat' split at h
   all_goals first
    | (injection h with h;subst h;exact hv _ _ _ _ (by assumption))
    | (injection h with h;subst h;exact ih _ _ _ _ (by assumption))
    | (simp only[Except.error.injEq,Prod.mk.injEq]at h;omega)
    | cases h
theorem objF_pos(v:List UInt8→Nat→JR JT)(hv:∀l i e a,v l i=.error (e,a)→0<e):∀(f:Nat) (ks:List (List UInt8)) (l:List UInt8) (i e a:Nat),objF v f ks l i=.error (e,a)→0<e:=by
 intro f;induction f with
 | zero=>intro ks l i e a h;simp[objF]at h;omega
 | succ f ih=>
   intro ks l i e a h;rw[objF]at h;dsimp only at h;repeat' split at h
   all_goals first
    | (injection h with h;subst h;exact hv _ _ _ _ (by assumption))
    | (injection h with h;subst h;exact ih _ _ _ _ _ (by assumption))
    | (simp only[Except.error.injEq,Prod.mk.injEq]at h;omega)
    | cases h
theorem intL_pos2{l:List UInt8}{e o:Nat}(h:intL l=.error (e,o)):0<e:=by
 unfold intL at h;dsimp only at h;repeat' split at h
 all_goals first
  | (simp only[Except.error.injEq,Prod.mk.injEq]at h;omega)
  | cases h
theorem wordL_pos2{l:List UInt8}{i e a:Nat}(h:wordL l i=.error (e,a)):0<e:=by
 unfold wordL at h;dsimp only at h;repeat' split at h
 all_goals first
  | (simp only[Except.error.injEq,Prod.mk.injEq]at h;omega)
  | cases h
theorem valL_pos2:∀(d:Nat) (l:List UInt8) (i e a:Nat),valL d l i=.error (e,a)→0<e:=by
 intro d;induction d with
 | zero=>
   intro l i e a h;cases l with
   | nil=>rw[valL]at h;simp only[Except.error.injEq,Prod.mk.injEq]at h;omega
   | cons c r=>
     rw[valL_cons]at h;dsimp only at h;repeat' split at h
     all_goals first
      | exact wordL_pos2 h
      | (simp only[Except.error.injEq,Prod.mk.injEq]at h;omega)
      | (simp only[Except.error.injEq,Prod.mk.injEq]at h;have:=intL_pos2 (by assumption);omega)
      | cases h
 | succ d ih=>
   intro l i e a h;cases l with
   | nil=>rw[valL]at h;simp only[Except.error.injEq,Prod.mk.injEq]at h;omega
   | cons c r=>
     rw[valL_cons]at h;dsimp only at h;unfold arrL objL at h;dsimp only at h;repeat' split at h
     all_goals first
      | exact wordL_pos2 h
      | (injection h with h;subst h;exact arrF_pos _ ih _ _ _ _ _ (by assumption))
      | (injection h with h;subst h;exact objF_pos _ ih _ _ _ _ _ _ (by assumption))
      | (simp only[Except.error.injEq,Prod.mk.injEq]at h;omega)
      | (simp only[Except.error.injEq,Prod.mk.injEq]at h;have:=intL_pos2 (by assumption);omega)
      | cases h
theorem readL_err{l:List UInt8}{e a:Nat}(h:readL l=.error (e,a)):0<e:=by
 unfold readL at h;dsimp only at h;repeat' split at h
 all_goals first
  | (injection h with h;subst h;exact valL_pos2 _ _ _ _ _ (by assumption))
  | (simp only[Except.error.injEq,Prod.mk.injEq]at h;omega)
  | cases h
end Go.Proofs.YtbbopknnoamkbaaGreatDoor
