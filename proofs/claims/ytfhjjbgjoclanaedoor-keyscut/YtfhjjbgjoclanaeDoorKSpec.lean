import Derived.Test.YtfhjjbgjoclanaeDoorKRow
import Derived.Test.YtfhjjbgjoclanaeDoorBSpec
import Derived.Lib.Join
namespace Go.Proofs.YtfhjjbgjoclanaeDoor
open Go.RowKit
set_option linter.unusedVariables false
def errK(done:List Ky)(k:Ky):Int:=
 if 20≤done.length then 8 else if keyErr k.alg k.kid k.key=0 then(if 0≤findK k.kid done 0 then 4 else 0)else keyErr k.alg k.kid k.key
def objL(k:Ky):List UInt8:=
 [123,34,97,108,103,34,58,34]++((nameB k.alg).data.toList++([34,44,34,107,34,58,34]++(enc (dB k.key) k.key.size++([34,44,34,107,105,100,34,58,34]++(k.kid.data.toList++[34,44,34,107,116,121,34,58,34,111,99,116,34,125])))))
def prS(done:List Ky):List Ky→Option (Int×Nat)
 | []=>none
 | k::ks=>if errK done k=0 then prS (done++[k]) ks else some (errK done k,done.length)
def headK:List UInt8:=[123,34,107,101,121,115,34,58,91]
def textK(ks:List Ky):List UInt8:=headK++Lib.join (ks.map objL) [44]++[93,125]
def prT(ks:List Ky):List UInt8×Int×Nat:=match prS [] ks with|none=>(textK ks,0,0)|some (e,i)=>([],e,i)
theorem prS_at(ks:List Ky)(i:Nat)(k:Ky)(h:ks[i]?=some k):prS (ks.take i) (ks.drop i)=if errK (ks.take i) k=0 then prS (ks.take (i+1)) (ks.drop (i+1))else some (errK (ks.take i) k,i):=by
 obtain⟨hl,e⟩:=List.getElem?_eq_some_iff.1 h;rw[List.drop_eq_getElem_cons hl,e];have ht:ks.take (i+1)=ks.take i++[k]:=by rw[List.take_add_one,h];rfl
 have hlen:(ks.take i).length=i:=by rw[List.length_take];omega
 rw[ht];conv=>lhs;unfold prS
 rw[hlen]
theorem errK_bd{done:List Ky}{k:Ky}(h:errK done k=0):done.length<20∧keyErr k.alg k.kid k.key=0:=by
 unfold errK at h;split at h
 ·omega
 ·rename_i h1
  split at h
  ·rename_i h2;exact⟨by omega,h2⟩
  ·rename_i h2;exact absurd h h2
theorem key_small{alg:Int}{kid key:ByteArray}(h:keyErr alg kid key=0):(alg=256∨alg=384∨alg=512)∧1≤kid.size∧kid.size≤40∧key.size≤200:=by
 unfold keyErr at h;split at h
 ·omega
 ·rename_i h1
  split at h
  ·omega
  ·rename_i h2
   split at h
   ·omega
   ·rename_i h3
    refine⟨?_,?_⟩
    ·unfold sizeN at h1
     repeat' split at h1
     all_goals omega
    ·have h2':isKid kid=true:=by simpa using h2
     have h3':fitsB alg key=true:=by simpa using h3
     unfold isKid at h2';unfold fitsB at h3';simp only[Bool.and_eq_true,decide_eq_true_eq]at h2' h3';exact⟨h2'.1.1,h2'.1.2,h3'.2.2⟩
theorem join_snoc(xs:List (List UInt8))(x sep:List UInt8)(h:xs≠[]):Lib.join (xs++[x]) sep=Lib.join xs sep++(sep++x):=by
 induction xs with
 | nil=>exact absurd rfl h
 | cons y ys ih=>
   cases ys with
   | nil=>simp[Lib.join,List.intercalate]
   | cons z zs=>
     have:=ih (by simp);simp only[Lib.join,List.intercalate,List.cons_append,List.intersperse_cons_cons,List.flatten_cons]at this ⊢;rw[this];simp[List.append_assoc]
theorem find_take(kid:ByteArray)(ks:List Ky)(i:Nat)(m:Nat)(k:Ky)(h:ks[i]?=some k)(hk:k.kid.data.toList=kid.data.toList):(findK kid ks m<((m+i:Nat):Int))↔0≤findK kid (ks.take i) m:=by
 induction ks generalizing i m with
 | nil=>simp at h
 | cons k0 ks ih=>
   cases i with
   | zero=>
     simp at h;subst h;simp[findK,hk]
   | succ i=>
     simp at h;simp only[List.take_succ_cons];unfold findK;split
     ·constructor
      ·intro _;omega
      ·intro _;omega
     ·have:=ih i (m+1) h
      rw[show m+1+i=m+(i+1)by omega]at this;exact this
theorem prS_ok{ks:List Ky}:∀{done:List Ky},prS done ks=none→∀k∈ks,keyErr k.alg k.kid k.key=0:=by
 induction ks with
 | nil=>intro done _ k hk;cases hk
 | cons k0 ks ih=>
   intro done h k hk;unfold prS at h;split at h
   ·rename_i h0
    rcases List.mem_cons.1 hk with rfl|hk
    ·exact(errK_bd h0).2
    ·exact ih h k hk
   ·cases h
theorem prS_len{ks:List Ky}:∀{done:List Ky},prS done ks=none→ks≠[]→done.length+ks.length≤20:=by
 induction ks with
 | nil=>intro done _ h;exact absurd rfl h
 | cons k0 ks ih=>
   intro done h _;unfold prS at h;split at h
   ·rename_i h0
    have h1:=(errK_bd h0).1;cases ks with
    | nil=>simp;omega
    | cons k1 ks=>have:=ih h (by simp);simp at this ⊢;omega
   ·cases h
end Go.Proofs.YtfhjjbgjoclanaeDoor
