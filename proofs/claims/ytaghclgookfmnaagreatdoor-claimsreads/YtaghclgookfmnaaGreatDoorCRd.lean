import Derived.Test.YtaghclgookfmnaaGreatDoorJPureP
set_option maxHeartbeats 400000
namespace Go.Proofs.YtaghclgookfmnaaGreatDoor
open Go.RowKit
set_option linter.unusedVariables false
def cdCells(s:ByteArray)(i:Nat)(vL:Value)(dp:Nat):Array Value:= #[.string s,.int .i64 (i:Int),vL,.int .i64 (dp:Int)]
def CD(bp:Nat)(s:ByteArray)(i:Nat)(vL:Value)(dp:Nat)(w:World):Prop:=w.heap[bp]?=some (.cells (cdCells s i vL dp) 75 (0,0))
def fv(e a:Nat):Value:=.agg #[.int .i64 (e:Int),.int .i64 (a:Int)]
def flt(e a:Nat):List PanicEntry:=[{v:=.iface 77 (fv e a),recovered:=false}]
theorem CD.cell{bp:Nat}{s:ByteArray}{i:Nat}{vL:Value}{dp:Nat}{w:World}(h:CD bp s i vL dp w):w.cell? ⟨bp,0,none⟩=some (.string s)∧w.cell? ⟨bp,1,none⟩=some (.int .i64 (i:Int))∧w.cell? ⟨bp,2,none⟩=some vL∧w.cell? ⟨bp,3,none⟩=some (.int .i64 (dp:Int))∧(∀k,w.frozen? ⟨bp,k,none⟩=false):=by
 refine⟨?_,?_,?_,?_,?_⟩
 ·rw[cell_of_row w bp 0 _ _ _ h];rfl
 ·rw[cell_of_row w bp 1 _ _ _ h];rfl
 ·rw[cell_of_row w bp 2 _ _ _ h];rfl
 ·rw[cell_of_row w bp 3 _ _ _ h];rfl
 ·intro k;unfold CD at h;simp[World.frozen?,h]
section
variable {bp:Nat} {s:ByteArray} {i:Nat} {vL:Value} {dp:Nat} {w:World}
theorem CD.setI(h:CD bp s i vL dp w)(j:Nat):CD bp s j vL dp (w.setCell ⟨bp,1,none⟩ (.int .i64 (j:Int))):=by
 rw[setCell_eq_setRow w bp 1 _ _ _ _ h];exact setRow_heap w bp _ _ _ _ h
theorem CD.setL(h:CD bp s i vL dp w)(v:Value):CD bp s i v dp (w.setCell ⟨bp,2,none⟩ v):=by
 rw[setCell_eq_setRow w bp 2 _ _ _ _ h];exact setRow_heap w bp _ _ _ _ h
theorem CD.setD(h:CD bp s i vL dp w)(j:Nat):CD bp s i vL j (w.setCell ⟨bp,3,none⟩ (.int .i64 (j:Int))):=by
 rw[setCell_eq_setRow w bp 3 _ _ _ _ h];exact setRow_heap w bp _ _ _ _ h
theorem CD.lt(h:CD bp s i vL dp w):bp<w.heap.size:=(Array.getElem?_eq_some_iff.1 h).1
theorem CD.drewN(h:CD bp s i vL dp w)(n:Nat):CD bp s i vL dp (w.drewN n):=h
theorem CD.alloc(h:CD bp s i vL dp w)(o:Obj):CD bp s i vL dp (w.alloc o):=by
 unfold CD;rw[heap_alloc_old _ _ h.lt];exact h
end
theorem cthrow(e a:Nat)(w:World):Calls Tryz.prog 54 #[.int .i64 (e:Int),.int .i64 (a:Int)] w fun r w'=>r=.panicked (flt e a)∧w'=w:=by
 go_enter Tryz.func54,Tryz.ntmps54;go_wp2;exact⟨rfl,rfl,rfl⟩
def pk(l:List UInt8):UInt8:=l.head?.getD 0
theorem cpeek(bp:Nat)(s:ByteArray)(i:Nat)(vL:Value)(dp:Nat)(w:World)(h:CD bp s i vL dp w)(hi:i≤s.size):Calls Tryz.prog 50 #[.pointer (some ⟨bp,0,none⟩)] w fun r w'=>r=.returned (.int .u8 ((pk (sfx s i)).toNat:Int))∧CD bp s i vL dp w'∧Onl bp w w':=by
 obtain⟨c0,c1,c2,c3,cf⟩:=h.cell;by_cases hj:i=s.size
 ·have hb:((i:Int)==(s.size:Int))=true:=by simp[hj]
  have hp:pk (sfx s i)=0:=by rw[sfx_nil s i (by omega)];rfl
  rw[hp];clear hp hj;go_enter Tryz.func50,Tryz.ntmps50;go_wp2_with fail
  go_quiet (fail);go_wp2;go_ret;exact⟨rfl,h.drewN _,(onl_refl bp w).drewN _⟩
 ·have hb:((i:Int)==(s.size:Int))=false:=by simp;omega
  have hi':i<s.size:=by omega
  have hi2:(i:Int)<(s.size:Int):=by omega
  have hp:pk (sfx s i)=s[i]:=by rw[sfx_cons s i hi'];rfl
  rw[hp];clear hp hj;go_enter Tryz.func50,Tryz.ntmps50;go_wp2_with fail
  go_quiet (fail);go_wp2_with fail
  go_quiet (fail);go_wp2;go_ret;exact⟨rfl,(h.drewN _).drewN _,((onl_refl bp w).drewN _).drewN _⟩
theorem cfail(bp:Nat)(s:ByteArray)(i:Nat)(vL:Value)(dp:Nat)(w:World)(h:CD bp s i vL dp w):Calls Tryz.prog 44 #[.pointer (some ⟨bp,0,none⟩)] w fun r w'=>r=.panicked (flt 2 i)∧w'=w:=by
 obtain⟨c0,c1,c2,c3,cf⟩:=h.cell;have ht:Calls Tryz.prog 54 #[.int .i64 2,.int .i64 (i:Int)] w fun r w'=>r=.panicked (flt 2 i)∧w'=w:=cthrow 2 i w
 go_enter Tryz.func44,Tryz.ntmps44;go_wp2_with fail
 refine ht.mono ?_;rintro e w1 ⟨rfl,rfl⟩;clear ht;go_wp2;exact⟨rfl,rfl,rfl⟩
theorem pk_head{l:List UInt8}{c:UInt8}(h:l.head?=some c):pk l=c:=by simp[pk,h]
theorem pk_ne{l:List UInt8}{c:UInt8}(hc:c≠0)(h:l.head?≠some c):pk l≠c:=by
 match l with
 | []=>simpa [pk]using fun e=>hc e.symm
 | a::r=>simpa [pk]using h
section
variable (bp:Nat) (s:ByteArray) (i:Nat) (vL:Value) (dp:Nat) (c:UInt8) (w:World)
theorem ctake_yes(hs:s.size≤140737488355328)(h:CD bp s i vL dp w)(hc:(sfx s i).head?=some c):Calls Tryz.prog 71 #[.pointer (some ⟨bp,0,none⟩),.int .u8 (c.toNat:Int)] w fun r w'=>r=.returned (.bool true)∧CD bp s (i+1) vL dp w'∧Onl bp w w':=by
 have hi:=head_lt hc;have hi2:i≤140737488355328:=by omega
 have hp:=cpeek bp s i vL dp w h (by omega);rw[pk_head hc]at hp;clear hc hi;go_enter Tryz.func71,Tryz.ntmps71;go_wp2_with fail
 refine hp.mono ?_;rintro e w1 ⟨rfl,h1,o1⟩;clear hp;have HO:Hid _:=o1;clear o1;obtain⟨c0,c1,c2,c3,cf⟩:=h1.cell;have f1:=cf 1;go_wp2;go_ret;exact⟨rfl,h1.setI (i+1),Onl.setCell HO.out _ h1⟩
theorem ctake_no(h:CD bp s i vL dp w)(hi:i≤s.size)(hc0:c≠0)(hc:(sfx s i).head?≠some c):Calls Tryz.prog 71 #[.pointer (some ⟨bp,0,none⟩),.int .u8 (c.toNat:Int)] w fun r w'=>r=.returned (.bool false)∧CD bp s i vL dp w'∧Onl bp w w':=by
 have hp:=cpeek bp s i vL dp w h hi;have hb:(((pk (sfx s i)).toNat:Int)==(c.toNat:Int))=false:=by
  rw[beq_eq_false_iff_ne];intro e;exact pk_ne hc0 hc (UInt8.toNat_inj.1 (by exact_mod_cast e))
 clear hc hc0;go_enter Tryz.func71,Tryz.ntmps71;go_wp2_with fail
 refine hp.mono ?_;rintro e w1 ⟨rfl,h1,o1⟩;clear hp;have HO:Hid _:=o1;clear o1;go_wp2;go_ret;exact⟨rfl,h1,HO.out⟩
theorem cneed_yes(hs:s.size≤140737488355328)(h:CD bp s i vL dp w)(hc:(sfx s i).head?=some c):Calls Tryz.prog 61 #[.pointer (some ⟨bp,0,none⟩),.int .u8 (c.toNat:Int)] w fun r w'=>r=.returned (.tuple #[])∧CD bp s (i+1) vL dp w'∧Onl bp w w':=by
 have hp:=ctake_yes bp s i vL dp c w hs h hc;clear hc;go_enter Tryz.func61,Tryz.ntmps61;go_wp2_with fail
 refine hp.mono ?_;rintro e w1 ⟨rfl,h1,o1⟩;clear hp;have HO:Hid _:=o1;clear o1;go_wp2;go_end0
 exact⟨rfl,h1,HO.out⟩
theorem cneed_no(h:CD bp s i vL dp w)(hi:i≤s.size)(hc0:c≠0)(hc:(sfx s i).head?≠some c):Calls Tryz.prog 61 #[.pointer (some ⟨bp,0,none⟩),.int .u8 (c.toNat:Int)] w fun r w'=>r=.panicked (flt 2 i)∧CD bp s i vL dp w'∧Onl bp w w':=by
 have hp:=ctake_no bp s i vL dp c w h hi hc0 hc;clear hc;go_enter Tryz.func61,Tryz.ntmps61;go_wp2_with fail
 refine hp.mono ?_;rintro e w1 ⟨rfl,h1,o1⟩;clear hp;have HO:Hid _:=o1;clear o1;have hf:=cfail bp s i vL dp w1 h1;go_wp2_with fail
 refine hf.mono ?_;rintro e w2 ⟨rfl,rfl⟩;clear hf;go_wp2;exact⟨rfl,rfl,h1,HO.out⟩
end
end Go.Proofs.YtaghclgookfmnaaGreatDoor
