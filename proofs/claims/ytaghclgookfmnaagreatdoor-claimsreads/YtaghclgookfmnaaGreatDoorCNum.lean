import Derived.Test.YtaghclgookfmnaaGreatDoorCWord
import Derived.Lib.ParseIntBTie
import Derived.Lib.AtoiErrMem
namespace Go.Proofs.YtaghclgookfmnaaGreatDoor
open Go.RowKit
set_option linter.unusedVariables false
theorem pu_ge:∀(l:List UInt8) (a u:Nat),Lib.parseUint10 a l=.ok u→a≤u
 | [],a,u,h=>by rw[Lib.parseUint10]at h;injection h with h;omega
 | c::r,a,u,h=>by
   rw[Lib.parseUint10]at h;split at h
   ·split at h
    ·cases h
    ·split at h
     ·cases h
     ·have:=pu_ge r _ u h;omega
   ·cases h
theorem pu_nosyn:∀(l:List UInt8) (a:Nat),(∀c∈l,isD c=true)→Lib.parseUint10 a l≠.syntax
 | [],a,_=>by rw[Lib.parseUint10];intro h;cases h
 | c::r,a,hd=>by
   rw[Lib.parseUint10,if_pos ((isD_iff c).1 (hd c (by simp)))];split
   ·intro h;cases h
   ·split
    ·intro h;cases h
    ·exact pu_nosyn r _ (fun x hx=>hd x (by simp[hx]))
theorem acc_still:∀(l:List UInt8) (a:Nat),maxI<a→accN a l=a
 | [],a,_=>rfl
 | c::r,a,h=>by rw[accN,if_neg (by omega)];exact acc_still r a h
theorem pu_acc:∀(l:List UInt8) (a:Nat),(∀c∈l,isD c=true)→a≤maxI→(accN a l≤maxI→Lib.parseUint10 a l=.ok (accN a l))∧(maxI<accN a l→Lib.parseUint10 a l=.range∨∃u,maxI<u∧Lib.parseUint10 a l=.ok u)
 | [],a,_,ha=>⟨fun _=>rfl,fun h=>by rw[accN]at h;omega⟩
 | c::r,a,hd,ha=>by
   have hc:=(isD_iff c).1 (hd c (by simp));have hr:∀x∈r,isD x=true:=fun x hx=>hd x (by simp[hx])
   unfold maxI at *;have e:Lib.parseUint10 a (c::r)=Lib.parseUint10 (a*10+(c.toNat-48)) r:=by
    rw[Lib.parseUint10,if_pos hc,if_neg (by omega),if_neg (by omega)]
   rw[e,accN,if_pos (by unfold maxI;exact ha),show 10*a+(c.toNat-48)=a*10+(c.toNat-48)by omega];by_cases h2:a*10+(c.toNat-48)≤9007199254740991
   ·exact pu_acc r _ hr h2
   ·have hs:=acc_still r (a*10+(c.toNat-48)) (by unfold maxI;omega)
    rw[hs];refine⟨fun h=>absurd h h2,fun _=>?_⟩;cases hp:Lib.parseUint10 (a*10+(c.toNat-48)) r with
    | ok u=>exact .inr ⟨u,by have:=pu_ge _ _ _ hp;omega,rfl⟩
    | «syntax» =>exact absurd hp (pu_nosyn r _ hr)
    | range=>exact .inl rfl
def PI(T:Nat)(V:Int)(R:Lib.NumEnd Int):Prop:=
 (T≤maxI∧R=.ok V)∨(maxI<T∧(R=.range∨∃v,R=.ok v∧(v< -9007199254740991∨9007199254740991<v)))
theorem pi_plain(l:List UInt8)(hl:l≠[])(hd:∀c∈l,isD c=true):PI (accN 0 l) (accN 0 l:Int) (Lib.parseIntB 64 l):=by
 rw[Lib.parseIntB_64];obtain⟨p1,p2⟩:=pu_acc l 0 hd (by unfold maxI;omega);match l,hl with
 | c::r,_=>
   have hc:=(isD_iff c).1 (hd c (by simp));have e:Lib.atoiAll (c::r)=match Lib.parseUint10 0 (c::r)with| .syntax=>.syntax| .range=>.range| .ok u=>if 9223372036854775808≤u then .range else .ok (u:Int):=by
    unfold Lib.atoiAll Lib.parseMag;have n43:¬c.toNat=43:=by omega
    have n45:¬c.toNat=45:=by omega
    simp only[n43,n45,or_self,if_false,not_false_eq_true,true_and,false_and,reduceCtorEq];cases Lib.parseUint10 0 (c::r)<;>rfl
   rw[e];by_cases hT:accN 0 (c::r)≤maxI
   ·refine .inl ⟨hT,?_⟩
    rw[p1 hT];simp only;unfold maxI at hT;rw[if_neg (by omega)]
   ·refine .inr ⟨by omega,?_⟩
    rcases p2 (by omega)with h|⟨u,hu,h⟩
    ·rw[h];exact .inl rfl
    ·rw[h]
     simp only;split
     ·exact .inl rfl
     ·refine .inr ⟨_,rfl,.inr ?_⟩
      unfold maxI at hu;omega
theorem pi_minus(l:List UInt8)(hl:l≠[])(hd:∀c∈l,isD c=true):PI (accN 0 l) (-(accN 0 l:Int)) (Lib.parseIntB 64 (45::l)):=by
 rw[Lib.parseIntB_64];obtain⟨p1,p2⟩:=pu_acc l 0 hd (by unfold maxI;omega);have e:Lib.atoiAll (45::l)=match Lib.parseUint10 0 l with| .syntax=>.syntax| .range=>.range| .ok u=>if 9223372036854775808<u then .range else .ok (-(u:Int)):=by
  unfold Lib.atoiAll Lib.parseMag;simp only[show(45:UInt8).toNat=45 from rfl,or_true,if_true,hl,if_false,not_true_eq_false,false_and,true_and];cases Lib.parseUint10 0 l<;>rfl
 rw[e];by_cases hT:accN 0 l≤maxI
 ·refine .inl ⟨hT,?_⟩
  rw[p1 hT];simp only;unfold maxI at hT;rw[if_neg (by omega)]
 ·refine .inr ⟨by omega,?_⟩
  rcases p2 (by omega)with h|⟨u,hu,h⟩
  ·rw[h];exact .inl rfl
  ·rw[h]
   simp only;split
   ·exact .inl rfl
   ·refine .inr ⟨_,rfl,.inl ?_⟩
    unfold maxI at hu;omega
theorem nd_all(l:List UInt8):∀c∈l.take (nd l),isD c=true:=by
 induction l with
 | nil=>intro c h;simp at h
 | cons a r ih=>
   intro c h;rw[nd]at h;split at h
   ·next ha=>
    rw[List.take_succ_cons]at h;rcases List.mem_cons.1 h with h|h
    ·subst h;exact ha
    ·exact ih c h
   ·simp at h
end Go.Proofs.YtaghclgookfmnaaGreatDoor
