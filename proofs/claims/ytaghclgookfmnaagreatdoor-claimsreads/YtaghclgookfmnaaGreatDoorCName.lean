import Derived.Test.YtaghclgookfmnaaGreatDoorCKid
import Derived.Test.YtaghclgookfmnaaGreatDoorCLen
import Derived.Maps.OwnSet
import Derived.StringKeys
namespace Go.Proofs.YtaghclgookfmnaaGreatDoor
open Go.RowKit Go.Maps
set_option linter.unusedVariables false
theorem slaw:Keyed Tryz.prog 9:=string_keyed Tryz.underlying9
theorem zeroU(w:World):(zeroValue 105).run Tryz.prog w=.ok (.agg #[]) w:=by kernel_rfl
def NM(bm:Nat)(ks:List (List UInt8))(w:World):Prop:=w.ownsMap Tryz.prog 9 (unitElem (H:=Unit)) bm ks.length (setOf (.agg []) (ks.map Lit.string))
theorem keylit(a:List UInt8):WideAt.IsKeyLit (.string a):=by simp[WideAt.IsKeyLit]
theorem same_string(a b:List UInt8):(Lit.string a).sameKey (.string b)=decide (a=b):=by
 rw[Bool.eq_iff_iff,decide_eq_true_iff];constructor
 ·intro h;have:=WideAt.sameKey_eq h;injection this
 ·rintro rfl;simp[Lit.sameKey]
theorem has_names(ks:List (List UInt8))(name:List UInt8):Maps.has (setOf (H:=Unit) (.agg []) (ks.map Lit.string)) (.string name)=decide (name∈ks):=by
 rw[has_setOf _ _ _ (by intro x hx;simp at hx;obtain⟨a,_,rfl⟩:=hx;exact keylit a)];rw[List.any_map,Bool.eq_iff_iff,decide_eq_true_iff,List.any_eq_true];constructor
 ·rintro⟨a,ha,h⟩
  simp only[Function.comp,same_string,decide_eq_true_iff]at h;exact h▸ha
 ·intro h;exact⟨name,h,by simp[same_string]⟩
theorem NM.kept{bm:Nat}{ks:List (List UInt8)}{w w':World}(h:NM bm ks w)(hk:w'.heap[bm]?=w.heap[bm]?):NM bm ks w':=by
 obtain⟨es,clock,a,b,c,d⟩:=h;exact⟨es,clock,hk.trans a,b,c,d⟩
theorem NM.lt{bm:Nat}{ks:List (List UInt8)}{w:World}(h:NM bm ks w):bm<w.heap.size:=World.ownsMap.lt h
theorem Onl2.trans{bp a:Nat}{x y z:World}(h:Onl2 bp a x y)(g:Onl2 bp a y z):Onl2 bp a x z:=
 ⟨g.os.trans h.os,g.tape.trans h.tape,g.output.trans h.output,Nat.le_trans h.size g.size,fun k hk h1 h2=>(g.block k (Nat.lt_of_lt_of_le hk h.size) h1 h2).trans (h.block k hk h1 h2)⟩
theorem strF_name:∀(f:Nat) (l t:List UInt8) (n:Nat),strF f l=.ok (t,n)→t.length≤n:=by
 intro f;induction f with
 | zero=>intro l t n h;simp[strF]at h
 | succ f ih=>
   intro l t n h;match l with
   | []=>simp[strF]at h
   | c::r=>
     have sh:∀(a:List UInt8) (k:Nat) (X:Except Nat (List UInt8×Nat)),a.length≤k→(∀t n,X=.ok (t,n)→t.length≤n)→shiftS a k X=.ok (t,n)→t.length≤n:=by
      intro a k X ha hX hx;cases X with
      | error o=>simp[shiftS]at hx
      | ok q=>obtain⟨t',n'⟩:=q;have:=hX t' n' rfl;simp[shiftS]at hx;obtain⟨rfl,rfl⟩:=hx;simp;omega
     rw[strF]at h;split at h
     ·injection h with h;injection h with h1 h2;subst h1;simp
     ·split at h
      ·cases h
      ·split at h
       ·split at h
        ·cases h
        ·next hE=>exact sh _ _ _ (escL_ok hE).1 (fun t n=>ih _ t n) h
       ·split at h
        ·cases h
        ·exact sh _ _ _ (by simp;omega) (fun t n=>ih _ t n) h
theorem quotL_name{l t:List UInt8}{n:Nat}(h:quotL l=.ok (t,n)):t.length≤n:=by
 unfold quotL at h;split at h
 ·split at h
  ·split at h
   ·next hS=>have:=strF_name _ _ _ _ hS;injection h with h;injection h with h1 h2;subst h1;omega
   ·cases h
  ·cases h
 ·cases h
section
variable (bp:Nat) (s:ByteArray) (i:Nat) (vL:Value) (dp bm:Nat) (ks:List (List UInt8)) (w:World)
def MQ(R:Except Nat (List UInt8×Nat))(r:Ending)(w':World):Prop:=
 match R with
 | .error o=>r=.panicked (flt 2 (i+o))∧Onl2 bp bm w w'
 | .ok (name,m)=>(name∈ks→r=.panicked (flt 4 i)∧Onl2 bp bm w w')∧(name∉ks→r=.returned (.string ⟨name.toArray⟩)∧CD bp s (i+m) vL dp w'∧NM bm (ks++[name]) w'∧Onl2 bp bm w w')
set_option maxRecDepth 4000 in
set_option maxHeartbeats 2000000 in
theorem cname(hs:s.size≤65536)(hbp:8≤bp)(h:CD bp s i vL dp w)(hG:GV w)(hi:i≤s.size)(hM:NM bm ks w)(hbm:bm≠bp)(hkl:ks.length≤70000):Calls Tryz.prog 60 #[.pointer (some ⟨bp,0,none⟩),.map (some bm)] w fun r w'=>MQ bp s i vL dp bm ks w (quotL (sfx s i)) r w':=by
 have hq:=cquot bp s i vL dp w (by omega) hbp h hG hi;obtain⟨c0,c1,c2,c3,cf⟩:=h.cell;have hbl:=hM.lt;cases hQ:quotL (sfx s i)with
 | error o=>
   rw[hQ]at hq;clear hQ;go_enter Tryz.func60,Tryz.ntmps60;go_wp2_with fail
   refine hq.mono ?_;rintro r w1 ⟨⟨rfl,j,h1⟩,o1⟩;have O1:Hid (Onl bp w w1):=o1;clear o1 hq;go_wp2;exact⟨rfl,rfl,O1.out.two⟩
 | ok q=>
   obtain⟨name,m⟩:=q;rw[hQ]at hq;have hml:=quotL_len hQ;have hnm:name.length≤65536:=by have:=quotL_name hQ;omega
   clear hQ;have hkey:keyOf Tryz.prog 9 (.string ⟨name.toArray⟩)=some (.string name):=by
    have:=WideMaps.keyOf_string_mk (P:=Tryz.prog) (s:=⟨name.toArray⟩) Tryz.underlying9 (by unfold maxLen;show name.toArray.size≤_;simp;omega);simpa using this
   by_cases hk:name∈ks
   ·have hhas:Maps.has (setOf (H:=Unit) (.agg []) (ks.map Lit.string)) (.string name)=true:=by rw[has_names];simpa using hk
    have hth:∀w',Calls Tryz.prog 54 #[.int .i64 4,.int .i64 (i:Int)] w' fun r w''=>r=.panicked (flt 4 i)∧w''=w':=fun w'=>cthrow 4 i w'
    go_enter Tryz.func60,Tryz.ntmps60;go_wp2_with fail
    refine hq.mono ?_;rintro r w1 ⟨⟨rfl,h1⟩,o1⟩;have O1:Hid (Onl bp w w1):=o1;have hM1:NM bm ks w1:=hM.kept (o1.block bm hbl (fun e=>by injection e with e;exact hbm e));have hM1':w1.ownsMap Tryz.prog 9 (unitElem (H:=Unit)) bm ks.length (setOf (.agg []) (ks.map Lit.string)):=hM1;clear o1 hq;go_wp2_with (at_lookup;refine wpList_lookup_own_unit _ rfl _ _ 99 rfl 9 105 slaw Tryz.underlying99 (zeroU _) bm ks.length _ rfl hM1' _ _ rfl hkey ?_;rw[hhas])
    refine(hth _).mono ?_;rintro r w2 ⟨rfl,rfl⟩;clear hth;go_wp2;refine⟨rfl,fun _=>⟨rfl,(Onl.alloc O1.out _).two⟩,fun hk'=>absurd hk hk'⟩
   ·have hhas:Maps.has (setOf (H:=Unit) (.agg []) (ks.map Lit.string)) (.string name)=false:=by rw[has_names];simpa using hk
    go_enter Tryz.func60,Tryz.ntmps60;go_wp2_with fail
    refine hq.mono ?_;rintro r w1 ⟨⟨rfl,h1⟩,o1⟩;have O1:Hid (Onl bp w w1):=o1;have hM1:NM bm ks w1:=hM.kept (o1.block bm hbl (fun e=>by injection e with e;exact hbm e));have hM1':w1.ownsMap Tryz.prog 9 (unitElem (H:=Unit)) bm ks.length (setOf (.agg []) (ks.map Lit.string)):=hM1;have hN1:Hid (ks.length<maxLen):=by show ks.length<maxLen;unfold maxLen;omega
    clear o1 hq;go_wp2_with (first|(at_lookup;refine wpList_lookup_own_unit _ rfl _ _ 99 rfl 9 105 slaw Tryz.underlying99 (zeroU _) bm ks.length _ rfl hM1' _ _ rfl hkey ?_;rw[hhas])|(at_mapUpdate;refine wpList_mapUpdate_own _ rfl _ _ _ 99 rfl 9 105 slaw Tryz.underlying99 (unitElem (H:=Unit)) bm ks.length _ rfl (World.ownsMap.alloc hM1' _) hN1.out _ _ _ rfl rfl hkey _ [] unitElem_mk ?_;intro w2 hM2 hg2;have HM2:Hid _:=hM2;have G2:Hid _:=hg2;clear hM2 hg2))
    go_wp2;go_ret;have hg:=G2.out;refine⟨fun hk'=>absurd hk' hk,fun _=>⟨rfl,?_,?_,?_⟩⟩
    ·unfold CD
     rw[hg.block bp (by simp;have:=h1.lt;omega) (fun e=>by injection e with e;exact hbm e.symm),heap_alloc_old _ _ h1.lt];exact h1
    ·have:=HM2.out
     rw[←setOf_snoc]at this;show World.ownsMap _ _ _ _ _ _ _
     rw[List.length_append,List.map_append];exact this
    ·have o:=O1.out
     refine⟨hg.os.trans o.os,hg.tape.trans o.tape,hg.output.trans o.output,by have:=hg.size;have:=o.size;simp at *;omega,fun k hk' h1' h2'=>?_⟩;rw[hg.block k (by simp;have:=o.size;omega) (fun e=>by injection e with e;exact h2' e),heap_alloc_old _ _ (by have:=o.size;omega)];exact o.block k hk' (fun e=>by injection e with e;exact h1' e)
end
end Go.Proofs.YtaghclgookfmnaaGreatDoor
