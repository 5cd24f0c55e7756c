import Derived.Test.YtbbopknnoamkbaaGreatDoorJPureP
import Derived.Defers
import Derived.Recover
import Derived.Test.YtbbopknnoamkbaaGreatDoorShelf
set_option maxHeartbeats 1000000
namespace Go.Proofs.YtbbopknnoamkbaaGreatDoor
open Go.RowKit
set_option linter.unusedVariables false
def cdCells(s:ByteArray)(i:Nat)(vL:Value)(dp:Nat):Array Value:= #[.string s,.int .i64 (i:Int),vL,.int .i64 (dp:Int)]
def CD(bp:Nat)(s:ByteArray)(i:Nat)(vL:Value)(dp:Nat)(w:World):Prop:=w.heap[bp]?=some (.cells (cdCells s i vL dp) 68 (0,0))
def fv(e a:Nat):Value:=.agg #[.int .i64 (e:Int),.int .i64 (a:Int)]
def flt(e a:Nat):List PanicEntry:=[{v:=.iface 70 (fv e a),recovered:=false}]
theorem CD.cell{bp:Nat}{s:ByteArray}{i:Nat}{vL:Value}{dp:Nat}{w:World}(h:CD bp s i vL dp w):w.cell? ⟨bp,0,none⟩=some (.string s)∧w.cell? ⟨bp,1,none⟩=some (.int .i64 (i:Int))∧w.cell? ⟨bp,2,none⟩=some vL∧w.cell? ⟨bp,3,none⟩=some (.int .i64 (dp:Int))∧(∀k,w.frozen? ⟨bp,k,none⟩=false):=by
 refine⟨?_,?_,?_,?_,?_⟩
 ·rw[cell_of_row w bp 0 _ _ _ h];rfl
 ·rw[cell_of_row w bp 1 _ _ _ h];rfl
 ·rw[cell_of_row w bp 2 _ _ _ h];rfl
 ·rw[cell_of_row w bp 3 _ _ _ h];rfl
 ·intro k;unfold CD at h;simp[World.frozen?,h]
section
variable {bp:Nat} {s:ByteArray} {i:Nat} {vL:Value} {dp:Nat} {w:World}
theorem CD.setI(h:CD bp s i vL dp w)(j:Nat):CD bp s j vL dp (w.setCell ⟨bp,1,none⟩ (.int .i64 (j:Int))):=by
 rw[setCell_eq_setRow w bp 1 _ _ _ _ h];exact setRow_heap w bp _ _ _ _ h
theorem CD.setL(h:CD bp s i vL dp w)(v:Value):CD bp s i v dp (w.setCell ⟨bp,2,none⟩ v):=by
 rw[setCell_eq_setRow w bp 2 _ _ _ _ h];exact setRow_heap w bp _ _ _ _ h
theorem CD.setD(h:CD bp s i vL dp w)(j:Nat):CD bp s i vL j (w.setCell ⟨bp,3,none⟩ (.int .i64 (j:Int))):=by
 rw[setCell_eq_setRow w bp 3 _ _ _ _ h];exact setRow_heap w bp _ _ _ _ h
theorem CD.lt(h:CD bp s i vL dp w):bp<w.heap.size:=(Array.getElem?_eq_some_iff.1 h).1
theorem CD.drewN(h:CD bp s i vL dp w)(n:Nat):CD bp s i vL dp (w.drewN n):=h
theorem CD.alloc(h:CD bp s i vL dp w)(o:Obj):CD bp s i vL dp (w.alloc o):=by
 unfold CD;rw[heap_alloc_old _ _ h.lt];exact h
end
theorem cthrow(e a:Nat)(w:World):Calls Tryz.prog 121 #[.int .i64 (e:Int),.int .i64 (a:Int)] w fun r w'=>r=.panicked (flt e a)∧w'=w:=by
 go_enter Tryz.func121,Tryz.ntmps121;go_wp2;exact⟨rfl,rfl,rfl⟩
def pk(l:List UInt8):UInt8:=l.head?.getD 0
theorem cpeek(bp:Nat)(s:ByteArray)(i:Nat)(vL:Value)(dp:Nat)(w:World)(h:CD bp s i vL dp w)(hi:i≤s.size):Calls Tryz.prog 117 #[.pointer (some ⟨bp,0,none⟩)] w fun r w'=>r=.returned (.int .u8 ((pk (sfx s i)).toNat:Int))∧CD bp s i vL dp w'∧Onl bp w w':=by
 obtain⟨c0,c1,c2,c3,cf⟩:=h.cell;by_cases hj:i=s.size
 ·have hb:((i:Int)==(s.size:Int))=true:=by simp[hj]
  have hp:pk (sfx s i)=0:=by rw[sfx_nil s i (by omega)];rfl
  rw[hp];clear hp hj;go_enter Tryz.func117,Tryz.ntmps117;go_wp2_with fail
  go_quiet (fail);go_wp2;go_ret;exact⟨rfl,h.drewN _,(onl_refl bp w).drewN _⟩
 ·have hb:((i:Int)==(s.size:Int))=false:=by simp;omega
  have hi':i<s.size:=by omega
  have hi2:(i:Int)<(s.size:Int):=by omega
  have hp:pk (sfx s i)=s[i]:=by rw[sfx_cons s i hi'];rfl
  rw[hp];clear hp hj;go_enter Tryz.func117,Tryz.ntmps117;go_wp2_with fail
  go_quiet (fail);go_wp2_with fail
  go_quiet (fail);go_wp2;go_ret;exact⟨rfl,(h.drewN _).drewN _,((onl_refl bp w).drewN _).drewN _⟩
theorem cfail(bp:Nat)(s:ByteArray)(i:Nat)(vL:Value)(dp:Nat)(w:World)(h:CD bp s i vL dp w):Calls Tryz.prog 75 #[.pointer (some ⟨bp,0,none⟩)] w fun r w'=>r=.panicked (flt 2 i)∧w'=w:=by
 obtain⟨c0,c1,c2,c3,cf⟩:=h.cell;have ht:Calls Tryz.prog 121 #[.int .i64 2,.int .i64 (i:Int)] w fun r w'=>r=.panicked (flt 2 i)∧w'=w:=cthrow 2 i w
 go_enter Tryz.func75,Tryz.ntmps75;go_wp2_with fail
 refine ht.mono ?_;rintro e w1 ⟨rfl,rfl⟩;clear ht;go_wp2;exact⟨rfl,rfl,rfl⟩
theorem pk_head{l:List UInt8}{c:UInt8}(h:l.head?=some c):pk l=c:=by simp[pk,h]
theorem pk_ne{l:List UInt8}{c:UInt8}(hc:c≠0)(h:l.head?≠some c):pk l≠c:=by
 match l with
 | []=>simpa [pk]using fun e=>hc e.symm
 | a::r=>simpa [pk]using h
section
variable (bp:Nat) (s:ByteArray) (i:Nat) (vL:Value) (dp:Nat) (c:UInt8) (w:World)
theorem ctake_yes(hs:s.size≤140737488355328)(h:CD bp s i vL dp w)(hc:(sfx s i).head?=some c):Calls Tryz.prog 180 #[.pointer (some ⟨bp,0,none⟩),.int .u8 (c.toNat:Int)] w fun r w'=>r=.returned (.bool true)∧CD bp s (i+1) vL dp w'∧Onl bp w w':=by
 have hi:=head_lt hc;have hi2:i≤140737488355328:=by omega
 have hp:=cpeek bp s i vL dp w h (by omega);rw[pk_head hc]at hp;clear hc hi;go_enter Tryz.func180,Tryz.ntmps180;go_wp2_with fail
 refine hp.mono ?_;rintro e w1 ⟨rfl,h1,o1⟩;clear hp;have HO:Hid _:=o1;clear o1;obtain⟨c0,c1,c2,c3,cf⟩:=h1.cell;have f1:=cf 1;go_wp2;go_ret;exact⟨rfl,h1.setI (i+1),Onl.setCell HO.out _ h1⟩
theorem ctake_no(h:CD bp s i vL dp w)(hi:i≤s.size)(hc0:c≠0)(hc:(sfx s i).head?≠some c):Calls Tryz.prog 180 #[.pointer (some ⟨bp,0,none⟩),.int .u8 (c.toNat:Int)] w fun r w'=>r=.returned (.bool false)∧CD bp s i vL dp w'∧Onl bp w w':=by
 have hp:=cpeek bp s i vL dp w h hi;have hb:(((pk (sfx s i)).toNat:Int)==(c.toNat:Int))=false:=by
  rw[beq_eq_false_iff_ne];intro e;exact pk_ne hc0 hc (UInt8.toNat_inj.1 (by exact_mod_cast e))
 clear hc hc0;go_enter Tryz.func180,Tryz.ntmps180;go_wp2_with fail
 refine hp.mono ?_;rintro e w1 ⟨rfl,h1,o1⟩;clear hp;have HO:Hid _:=o1;clear o1;go_wp2;go_ret;exact⟨rfl,h1,HO.out⟩
theorem cneed_yes(hs:s.size≤140737488355328)(h:CD bp s i vL dp w)(hc:(sfx s i).head?=some c):Calls Tryz.prog 148 #[.pointer (some ⟨bp,0,none⟩),.int .u8 (c.toNat:Int)] w fun r w'=>r=.returned (.tuple #[])∧CD bp s (i+1) vL dp w'∧Onl bp w w':=by
 have hp:=ctake_yes bp s i vL dp c w hs h hc;clear hc;go_enter Tryz.func148,Tryz.ntmps148;go_wp2_with fail
 refine hp.mono ?_;rintro e w1 ⟨rfl,h1,o1⟩;clear hp;have HO:Hid _:=o1;clear o1;go_wp2;go_end0
 exact⟨rfl,h1,HO.out⟩
theorem cneed_no(h:CD bp s i vL dp w)(hi:i≤s.size)(hc0:c≠0)(hc:(sfx s i).head?≠some c):Calls Tryz.prog 148 #[.pointer (some ⟨bp,0,none⟩),.int .u8 (c.toNat:Int)] w fun r w'=>r=.panicked (flt 2 i)∧CD bp s i vL dp w'∧Onl bp w w':=by
 have hp:=ctake_no bp s i vL dp c w h hi hc0 hc;clear hc;go_enter Tryz.func148,Tryz.ntmps148;go_wp2_with fail
 refine hp.mono ?_;rintro e w1 ⟨rfl,h1,o1⟩;clear hp;have HO:Hid _:=o1;clear o1;have hf:=cfail bp s i vL dp w1 h1;go_wp2_with fail
 refine hf.mono ?_;rintro e w2 ⟨rfl,rfl⟩;clear hf;go_wp2;exact⟨rfl,rfl,h1,HO.out⟩
end
def run(p:UInt8→Bool):List UInt8→Nat|[]=>0|c::r=>if p c then run p r+1 else 0
theorem run_le(p:UInt8→Bool)(l:List UInt8):run p l≤l.length:=by
 induction l with
 | nil=>simp[run]
 | cons c r ih=>rw[run];split<;>simp<;>omega
theorem run_cons(p:UInt8→Bool)(s:ByteArray)(i:Nat)(h:i<s.size)(hb:p s[i]=true):run p (sfx s i)=run p (sfx s (i+1))+1:=by rw[sfx_cons s i h,run,if_pos hb]
theorem run_zero(p:UInt8→Bool)(l:List UInt8)(h0:p 0=false)(h:p (pk l)=false):run p l=0:=by
 match l with
 | []=>rfl
 | c::r=>rw[run,if_neg (by simpa [pk]using h)]
theorem run_nb(l:List UInt8):run isB l=nb l:=by
 induction l with
 | nil=>rfl
 | cons c r ih=>rw[run,nb,ih]
theorem run_nd(l:List UInt8):run isD l=nd l:=by
 induction l with
 | nil=>rfl
 | cons c r ih=>rw[run,nd,ih]
theorem run_nl(l:List UInt8):run isL l=nl l:=by
 induction l with
 | nil=>rfl
 | cons c r ih=>rw[run,nl,ih]
def Kind(K:Nat)(p:UInt8→Bool):Prop:=∀(c:UInt8) (w:World),Calls Tryz.prog K #[.int .u8 (c.toNat:Int)] w fun e w'=>e=.returned (.bool (p c))∧w'=w
theorem kblank:Kind 116 isB:=by
 intro c w;by_cases h1:c=32
 ·subst h1
  go_enter Tryz.func116,Tryz.ntmps116;go_wp2;go_ret;exact⟨rfl,rfl⟩
 ·by_cases h2:c=9
  ·subst h2
   go_enter Tryz.func116,Tryz.ntmps116;go_wp2;go_ret;exact⟨rfl,rfl⟩
  ·by_cases h3:c=10
   ·subst h3
    go_enter Tryz.func116,Tryz.ntmps116;go_wp2;go_ret;exact⟨rfl,rfl⟩
   ·have e1:((c.toNat:Int)==32)=false:=by rw[beq_eq_false_iff_ne];intro e;exact h1 (UInt8.toNat_inj.1 (by simpa using by omega))
    have e2:((c.toNat:Int)==9)=false:=by rw[beq_eq_false_iff_ne];intro e;exact h2 (UInt8.toNat_inj.1 (by simpa using by omega))
    have e3:((c.toNat:Int)==10)=false:=by rw[beq_eq_false_iff_ne];intro e;exact h3 (UInt8.toNat_inj.1 (by simpa using by omega))
    have e4:isB c=((c.toNat:Int)==13):=by
     have b1:(c==32)=false:=beq_eq_false_iff_ne.2 h1;have b2:(c==9)=false:=beq_eq_false_iff_ne.2 h2;have b3:(c==10)=false:=beq_eq_false_iff_ne.2 h3;rw[isB,b1,b2,b3,Bool.false_or,Bool.false_or,Bool.false_or,Bool.eq_iff_iff,beq_iff_eq,beq_iff_eq];constructor
     ·rintro rfl;rfl
     ·intro e;exact UInt8.toNat_inj.1 (by simpa using by omega)
    rw[e4];clear e4 h1 h2 h3;go_enter Tryz.func116,Tryz.ntmps116;go_wp2;go_ret;exact⟨rfl,rfl⟩
theorem kdigit:Kind 152 isD:=by
 intro c w;by_cases h1:48≤c.toNat
 ·have h1':(48:Int)≤(c.toNat:Int):=by omega
  by_cases h2:c.toNat≤57
  ·have h2':(c.toNat:Int)≤57:=by omega
   go_enter Tryz.func152,Tryz.ntmps152;go_wp2;go_ret;exact⟨by simp[isD,h1,h2],rfl⟩
  ·have h2':(57:Int)<(c.toNat:Int):=by omega
   go_enter Tryz.func152,Tryz.ntmps152;go_wp2;go_ret;exact⟨by simp[isD,h2];omega,rfl⟩
 ·have h1':(c.toNat:Int)<48:=by omega
  go_enter Tryz.func152,Tryz.ntmps152;go_wp2;go_ret;exact⟨by simp[isD,h1],rfl⟩
theorem ksmall:Kind 186 isL:=by
 intro c w;by_cases h1:97≤c.toNat
 ·have h1':(97:Int)≤(c.toNat:Int):=by omega
  by_cases h2:c.toNat≤122
  ·have h2':(c.toNat:Int)≤122:=by omega
   go_enter Tryz.func186,Tryz.ntmps186;go_wp2;go_ret;exact⟨by simp[isL,h1,h2],rfl⟩
  ·have h2':(122:Int)<(c.toNat:Int):=by omega
   go_enter Tryz.func186,Tryz.ntmps186;go_wp2;go_ret;exact⟨by simp[isL,h2];omega,rfl⟩
 ·have h1':(c.toNat:Int)<97:=by omega
  go_enter Tryz.func186,Tryz.ntmps186;go_wp2;go_ret;exact⟨by simp[isL,h1],rfl⟩
theorem cpos_rd{bp:Nat}{s:ByteArray}{i:Nat}{vL:Value}{dp:Nat}{w:World}(h:CD bp s i vL dp w):posOf (w.cell? ⟨bp,1,none⟩)=i:=by rw[h.cell.2.1];rfl
theorem cpos_set{bp:Nat}{s:ByteArray}{i:Nat}{vL:Value}{dp:Nat}{w:World}(h:CD bp s i vL dp w)(k:Nat):posOf ((w.setCell ⟨bp,1,none⟩ (.int .i64 ((k:Int)+1))).cell? ⟨bp,1,none⟩)=k+1:=cpos_rd (h.setI (k+1))
theorem ctakeAll_blank(bp:Nat)(s:ByteArray)(i:Nat)(vL:Value)(dp:Nat)(w:World)(hs:s.size≤140737488355328)(h:CD bp s i vL dp w)(hi:i≤s.size):Calls Tryz.prog 115 #[.pointer (some ⟨bp,0,none⟩),.func (.func 116) #[] #[]] w fun r w'=>r=.returned (.string (s.extract i (i+run isB (sfx s i))))∧CD bp s (i+run isB (sfx s i)) vL dp w'∧Onl bp w w':=by
 generalize hE:i+run isB (sfx s i)=E;have hEs:E≤s.size:=by have:=run_le isB (sfx s i);rw[sfx_length]at this;omega
 have HE:Hid (i+run isB (sfx s i)=E):=hE;clear hE;obtain⟨c0,c1,c2,c3,cf⟩:=h.cell;go_enter Tryz.func115,Tryz.ntmps115;go_wp2_with fail
 clear c0 c1 c2 c3 cf;go_loopw [10] (fun v wr=>∃k:Nat,k≤s.size∧i≤k∧k+run isB (sfx s k)=E∧CD bp s k vL dp wr∧Onl bp w wr) (fun _ wr=>s.size-posOf (wr.cell? ⟨bp,1,none⟩))
 case atStart=>exact⟨i,hi,Nat.le_refl _,HE.out,h,onl_refl bp w⟩
 case round=>
  clear h HE;obtain⟨k,hk,hik,hE,h,ho⟩:=hrel;have HK:Hid (k+run isB (sfx s k)=E):=hE;have HO:Hid (Onl bp w wr):=ho;have hm:posOf (wr.cell? ⟨bp,1,none⟩)=k:=cpos_rd h;have HM:Hid (posOf (wr.cell? ⟨bp,1,none⟩)=k):=hm;clear hE ho hm;have hp:=cpeek bp s k vL dp wr h hk;have hk2:k≤140737488355328:=by omega
  have hkk:=fun w'=>kblank (pk (sfx s k)) w'
  go_wp2_with fail
  refine hp.mono ?_;rintro e w1 ⟨rfl,h1,o1⟩;clear hp;have HO1:Hid (Onl bp w w1):=HO.out.trans o1;clear o1 HO;cases hq:isB (pk (sfx s k))with
  | true=>
    rw[hq]at hkk;have hks:k<s.size:=by
     by_cases hx:k<s.size
     ·exact hx
     ·rw[sfx_nil s k (by omega)]at hq;cases hq
    have hE2:=HK.out;rw[run_cons isB s k hks (by rw[sfx_cons s k hks]at hq;exact hq)]at hE2;have HE2:Hid (k+(run isB (sfx s (k+1))+1)=E):=hE2;clear hE2 HK hq;go_wp2_with fail
    refine(hkk _).mono ?_;rintro e w2 ⟨rfl,rfl⟩;clear hkk;obtain⟨c0,c1,c2,c3,cf⟩:=h1.cell;have f1:=cf 1;go_wp2;refine⟨⟨k+1,by omega,by omega,by have:=HE2.out;omega,h1.setI (k+1),Onl.setCell HO1.out _ h1⟩,?_⟩;rw[HM.out,cpos_set h1 k];omega
  | false=>
    rw[hq]at hkk;have hE2:=HK.out;rw[run_zero isB _ rfl hq]at hE2;have hE3:k=E:=by omega
    subst hE3;clear hE2 HK hq HM;go_wp2_with fail
    refine(hkk _).mono ?_;rintro e w2 ⟨rfl,rfl⟩;clear hkk;obtain⟨c0,c1,c2,c3,cf⟩:=h1.cell;have hik':(i:Int)≤(k:Int):=by omega
    have hks':(k:Int)≤(s.size:Int):=by omega
    go_wp2_with fail
    go_quiet (fail);go_wp2;go_ret;exact⟨rfl,h1.drewN _,Onl.drewN HO1.out _⟩
theorem ctakeAll_digit(bp:Nat)(s:ByteArray)(i:Nat)(vL:Value)(dp:Nat)(w:World)(hs:s.size≤140737488355328)(h:CD bp s i vL dp w)(hi:i≤s.size):Calls Tryz.prog 115 #[.pointer (some ⟨bp,0,none⟩),.func (.func 152) #[] #[]] w fun r w'=>r=.returned (.string (s.extract i (i+run isD (sfx s i))))∧CD bp s (i+run isD (sfx s i)) vL dp w'∧Onl bp w w':=by
 generalize hE:i+run isD (sfx s i)=E;have hEs:E≤s.size:=by have:=run_le isD (sfx s i);rw[sfx_length]at this;omega
 have HE:Hid (i+run isD (sfx s i)=E):=hE;clear hE;obtain⟨c0,c1,c2,c3,cf⟩:=h.cell;go_enter Tryz.func115,Tryz.ntmps115;go_wp2_with fail
 clear c0 c1 c2 c3 cf;go_loopw [10] (fun v wr=>∃k:Nat,k≤s.size∧i≤k∧k+run isD (sfx s k)=E∧CD bp s k vL dp wr∧Onl bp w wr) (fun _ wr=>s.size-posOf (wr.cell? ⟨bp,1,none⟩))
 case atStart=>exact⟨i,hi,Nat.le_refl _,HE.out,h,onl_refl bp w⟩
 case round=>
  clear h HE;obtain⟨k,hk,hik,hE,h,ho⟩:=hrel;have HK:Hid (k+run isD (sfx s k)=E):=hE;have HO:Hid (Onl bp w wr):=ho;have hm:posOf (wr.cell? ⟨bp,1,none⟩)=k:=cpos_rd h;have HM:Hid (posOf (wr.cell? ⟨bp,1,none⟩)=k):=hm;clear hE ho hm;have hp:=cpeek bp s k vL dp wr h hk;have hk2:k≤140737488355328:=by omega
  have hkk:=fun w'=>kdigit (pk (sfx s k)) w'
  go_wp2_with fail
  refine hp.mono ?_;rintro e w1 ⟨rfl,h1,o1⟩;clear hp;have HO1:Hid (Onl bp w w1):=HO.out.trans o1;clear o1 HO;cases hq:isD (pk (sfx s k))with
  | true=>
    rw[hq]at hkk;have hks:k<s.size:=by
     by_cases hx:k<s.size
     ·exact hx
     ·rw[sfx_nil s k (by omega)]at hq;cases hq
    have hE2:=HK.out;rw[run_cons isD s k hks (by rw[sfx_cons s k hks]at hq;exact hq)]at hE2;have HE2:Hid (k+(run isD (sfx s (k+1))+1)=E):=hE2;clear hE2 HK hq;go_wp2_with fail
    refine(hkk _).mono ?_;rintro e w2 ⟨rfl,rfl⟩;clear hkk;obtain⟨c0,c1,c2,c3,cf⟩:=h1.cell;have f1:=cf 1;go_wp2;refine⟨⟨k+1,by omega,by omega,by have:=HE2.out;omega,h1.setI (k+1),Onl.setCell HO1.out _ h1⟩,?_⟩;rw[HM.out,cpos_set h1 k];omega
  | false=>
    rw[hq]at hkk;have hE2:=HK.out;rw[run_zero isD _ rfl hq]at hE2;have hE3:k=E:=by omega
    subst hE3;clear hE2 HK hq HM;go_wp2_with fail
    refine(hkk _).mono ?_;rintro e w2 ⟨rfl,rfl⟩;clear hkk;obtain⟨c0,c1,c2,c3,cf⟩:=h1.cell;have hik':(i:Int)≤(k:Int):=by omega
    have hks':(k:Int)≤(s.size:Int):=by omega
    go_wp2_with fail
    go_quiet (fail);go_wp2;go_ret;exact⟨rfl,h1.drewN _,Onl.drewN HO1.out _⟩
theorem ctakeAll_small(bp:Nat)(s:ByteArray)(i:Nat)(vL:Value)(dp:Nat)(w:World)(hs:s.size≤140737488355328)(h:CD bp s i vL dp w)(hi:i≤s.size):Calls Tryz.prog 115 #[.pointer (some ⟨bp,0,none⟩),.func (.func 186) #[] #[]] w fun r w'=>r=.returned (.string (s.extract i (i+run isL (sfx s i))))∧CD bp s (i+run isL (sfx s i)) vL dp w'∧Onl bp w w':=by
 generalize hE:i+run isL (sfx s i)=E;have hEs:E≤s.size:=by have:=run_le isL (sfx s i);rw[sfx_length]at this;omega
 have HE:Hid (i+run isL (sfx s i)=E):=hE;clear hE;obtain⟨c0,c1,c2,c3,cf⟩:=h.cell;go_enter Tryz.func115,Tryz.ntmps115;go_wp2_with fail
 clear c0 c1 c2 c3 cf;go_loopw [10] (fun v wr=>∃k:Nat,k≤s.size∧i≤k∧k+run isL (sfx s k)=E∧CD bp s k vL dp wr∧Onl bp w wr) (fun _ wr=>s.size-posOf (wr.cell? ⟨bp,1,none⟩))
 case atStart=>exact⟨i,hi,Nat.le_refl _,HE.out,h,onl_refl bp w⟩
 case round=>
  clear h HE;obtain⟨k,hk,hik,hE,h,ho⟩:=hrel;have HK:Hid (k+run isL (sfx s k)=E):=hE;have HO:Hid (Onl bp w wr):=ho;have hm:posOf (wr.cell? ⟨bp,1,none⟩)=k:=cpos_rd h;have HM:Hid (posOf (wr.cell? ⟨bp,1,none⟩)=k):=hm;clear hE ho hm;have hp:=cpeek bp s k vL dp wr h hk;have hk2:k≤140737488355328:=by omega
  have hkk:=fun w'=>ksmall (pk (sfx s k)) w'
  go_wp2_with fail
  refine hp.mono ?_;rintro e w1 ⟨rfl,h1,o1⟩;clear hp;have HO1:Hid (Onl bp w w1):=HO.out.trans o1;clear o1 HO;cases hq:isL (pk (sfx s k))with
  | true=>
    rw[hq]at hkk;have hks:k<s.size:=by
     by_cases hx:k<s.size
     ·exact hx
     ·rw[sfx_nil s k (by omega)]at hq;cases hq
    have hE2:=HK.out;rw[run_cons isL s k hks (by rw[sfx_cons s k hks]at hq;exact hq)]at hE2;have HE2:Hid (k+(run isL (sfx s (k+1))+1)=E):=hE2;clear hE2 HK hq;go_wp2_with fail
    refine(hkk _).mono ?_;rintro e w2 ⟨rfl,rfl⟩;clear hkk;obtain⟨c0,c1,c2,c3,cf⟩:=h1.cell;have f1:=cf 1;go_wp2;refine⟨⟨k+1,by omega,by omega,by have:=HE2.out;omega,h1.setI (k+1),Onl.setCell HO1.out _ h1⟩,?_⟩;rw[HM.out,cpos_set h1 k];omega
  | false=>
    rw[hq]at hkk;have hE2:=HK.out;rw[run_zero isL _ rfl hq]at hE2;have hE3:k=E:=by omega
    subst hE3;clear hE2 HK hq HM;go_wp2_with fail
    refine(hkk _).mono ?_;rintro e w2 ⟨rfl,rfl⟩;clear hkk;obtain⟨c0,c1,c2,c3,cf⟩:=h1.cell;have hik':(i:Int)≤(k:Int):=by omega
    have hks':(k:Int)≤(s.size:Int):=by omega
    go_wp2_with fail
    go_quiet (fail);go_wp2;go_ret;exact⟨rfl,h1.drewN _,Onl.drewN HO1.out _⟩
theorem cblanks(bp:Nat)(s:ByteArray)(i:Nat)(vL:Value)(dp:Nat)(w:World)(hs:s.size≤140737488355328)(h:CD bp s i vL dp w)(hi:i≤s.size):Calls Tryz.prog 73 #[.pointer (some ⟨bp,0,none⟩)] w fun r w'=>r=.returned (.tuple #[])∧CD bp s (i+nb (sfx s i)) vL dp w'∧Onl bp w w':=by
 have ht:=ctakeAll_blank bp s i vL dp w hs h hi;rw[run_nb]at ht;generalize i+nb (sfx s i)=E at ht ⊢;go_enter Tryz.func73,Tryz.ntmps73;go_wp2_with fail
 refine ht.mono ?_;rintro e w1 ⟨rfl,h1,o1⟩;clear ht;have HO:Hid _:=o1;clear o1;go_wp2;go_end0
 exact⟨rfl,h1,HO.out⟩
theorem as_fault(v:Value)(w:World):(Instr.typeAssert (.iface 70 v) 20 70 false).run Tryz.prog w=.ok v w:=by kernel_rfl
theorem ccatch_pan(b:Nat)(x y:Value)(e a:Nat)(older:List PanicEntry)(w:World)(hc:w.heap[b]?=some (.cells #[x,y] 70 (0,0))):CallsD Tryz.prog 72 #[.pointer (some ⟨b,0,none⟩)] (.panicking ({v:=.iface 70 (fv e a),recovered:=false}::older)) w fun r u' w'=>
 r=.returned (.tuple #[])∧u'=.panicking ({v:=.iface 70 (fv e a),recovered:=true}::older)∧w'=(w.setCell ⟨b,0,none⟩ (.int .i64 (e:Int))).setCell ⟨b,1,none⟩ (.int .i64 (a:Int)):=by
 have c0:w.cell? ⟨b,0,none⟩=some x:=by rw[cell_of_row w b 0 _ _ _ hc];rfl
 have c1:w.cell? ⟨b,1,none⟩=some y:=by rw[cell_of_row w b 1 _ _ _ hc];rfl
 have cf:∀k,w.frozen? ⟨b,k,none⟩=false:=by intro k;simp[World.frozen?,hc]
 refine callsD_of_wpS Tryz.func72 rfl fun c₀ cs hu=>?_
 apply wpS_seq;apply wpS_region;simp[wpOpsS,go_sem,recoverD,hu,Tryz.ntmps72,Exit.thenS];apply wpS_seq;apply wpS_region;simp[wpOpsS,go_sem,Exit.thenS,fv];refine wpS_cond (t:=true) (by simp[Act.eval,Array.replicate]) ?_;simp only[if_true];have hta:=as_fault;have f0:=cf 0;have f1:=cf 1;refine wpS_of_wp ?_;change Code.wp _ _ _ ⟨#[.pointer (some ⟨b,0,none⟩),.iface 70 (.agg #[.int .i64 (e:Int),.int .i64 (a:Int)]),.iface 70 (.agg #[.int .i64 (e:Int),.int .i64 (a:Int)]),.iface 70 (.agg #[.int .i64 (e:Int),.int .i64 (a:Int)]),.bool true,undef,undef],[]⟩ w;go_wp2;simp[bodyPostS,results,Tryz.results72]
theorem ccatch_idle(b:Nat)(w:World):CallsD Tryz.prog 72 #[.pointer (some ⟨b,0,none⟩)] .returning w fun r u' w'=>r=.returned (.tuple #[])∧u'=.returning∧w'=w:=by
 refine callsD_of_wpS Tryz.func72 rfl fun c₀ cs hu=>?_
 apply wpS_seq;apply wpS_region;simp[wpOpsS,go_sem,recoverD,hu,Tryz.ntmps72,Exit.thenS];apply wpS_seq;apply wpS_region;simp[wpOpsS,go_sem,Exit.thenS];refine wpS_cond (t:=false) (by simp[Act.eval,Array.replicate]) ?_;simp only[Bool.false_eq_true,if_false];refine wpS_of_wp (wp_skip ?_);cases c₀;simp_all [bodyPostS,results,Tryz.results72]
theorem ccatch_text_bad(bp:Nat)(w:World)(e:Nat)(S:Nat→World→Prop)(hr:Calls Tryz.prog 40 #[.pointer (some ⟨bp,0,none⟩)] (w.alloc (.cells #[.int .i64 0,.int .i64 0] 70)) fun r w2=>∃a,r=.panicked (flt e a)∧w2.heap[w.heap.size]?=some (.cells #[.int .i64 0,.int .i64 0] 70 (0,0))∧S a w2):Calls Tryz.prog 39 #[.func (.func 40) #[.pointer (some ⟨bp,0,none⟩)] #[]] w fun r w'=>∃a,r=.returned (fv e a)∧∃w2,S a w2∧Onl w.heap.size w2 w':=by
 have hmf:∀(fn:Fn) (first cap:Array Value) (w:World),(Instr.makeFunc fn first cap).run Tryz.prog w=.ok (.func fn first cap) w:=fun _ _ _ _=>rfl
 go_enter_defers Tryz.func39,Tryz.ntmps39
 go_wp2_with fail
 refine hr.mono ?_;rintro r w2 ⟨a,rfl,hc,hS⟩;go_wp2;refine leaves_cons (f:=72) (args:= #[.pointer (some ⟨w.heap.size,0,none⟩)]) (by simp) (by simp[go_sem]) ?_;refine(ccatch_pan w.heap.size _ _ e a [] _ hc).mono ?_;rintro r u' w3 ⟨rfl,rfl,rfl⟩;have c0:=cell_of_row w2 w.heap.size 0 _ _ _ hc;have c1:=cell_of_row w2 w.heap.size 1 _ _ _ hc;have O1:Onl w.heap.size w2 ((w2.setCell ⟨w.heap.size,0,none⟩ (.int .i64 (e:Int))).setCell ⟨w.heap.size,1,none⟩ (.int .i64 (a:Int))):=Onl.setCell (Onl.setCell (onl_refl _ w2) _ hc) _ (by rw[setCell_eq_setRow w2 _ 0 _ _ _ _ hc];exact setRow_heap w2 _ _ _ _ _ hc);simp[Leaves,settle,results,Tryz.results39,go_sem,c0,c1,fv];exact⟨a,rfl,w2,hS,O1⟩
theorem ccatch_text_ok(bp:Nat)(w:World)(S:World→Prop)(hr:Calls Tryz.prog 40 #[.pointer (some ⟨bp,0,none⟩)] (w.alloc (.cells #[.int .i64 0,.int .i64 0] 70)) fun r w2=>r=.returned (.tuple #[])∧w2.heap[w.heap.size]?=some (.cells #[.int .i64 0,.int .i64 0] 70 (0,0))∧S w2):Calls Tryz.prog 39 #[.func (.func 40) #[.pointer (some ⟨bp,0,none⟩)] #[]] w fun r w'=>r=.returned (fv 0 0)∧∃w2,S w2∧Onl w.heap.size w2 w':=by
 have hmf:∀(fn:Fn) (first cap:Array Value) (w:World),(Instr.makeFunc fn first cap).run Tryz.prog w=.ok (.func fn first cap) w:=fun _ _ _ _=>rfl
 go_enter_defers Tryz.func39,Tryz.ntmps39
 go_wp2_with fail
 refine hr.mono ?_;rintro r w2 ⟨rfl,hc,hS⟩;have c0:=cell_of_row w2 w.heap.size 0 _ _ _ hc;have c1:=cell_of_row w2 w.heap.size 1 _ _ _ hc;have f0:w2.frozen? ⟨w.heap.size,0,none⟩=false:=by simp[World.frozen?,hc]
 have f1:w2.frozen? ⟨w.heap.size,1,none⟩=false:=by simp[World.frozen?,hc]
 go_wp2;refine leaves_cons (f:=72) (args:= #[.pointer (some ⟨w.heap.size,0,none⟩)]) (by simp) (by simp[go_sem]) ?_;refine(ccatch_idle w.heap.size _).mono ?_;rintro r u' w3 ⟨rfl,rfl,rfl⟩;have O1:Onl w.heap.size w2 ((w2.setCell ⟨w.heap.size,0,none⟩ (.int .i64 0)).setCell ⟨w.heap.size,1,none⟩ (.int .i64 0)):=Onl.setCell (Onl.setCell (onl_refl _ w2) _ hc) _ (by rw[setCell_eq_setRow w2 _ 0 _ _ _ _ hc];exact setRow_heap w2 _ _ _ _ _ hc);simp[Leaves,settle,results,Tryz.results39,go_sem,c0,c1,fv];exact⟨w2,hS,O1⟩
theorem ccatch_try_bad(a1 a2:Nat)(w:World)(e:Nat)(S:Nat→World→Prop)(hr:Calls Tryz.prog 249 #[.pointer (some ⟨a1,0,none⟩),.pointer (some ⟨a2,0,none⟩)] (w.alloc (.cells #[.int .i64 0,.int .i64 0] 70)) fun r w2=>∃a,r=.panicked (flt e a)∧w2.heap[w.heap.size]?=some (.cells #[.int .i64 0,.int .i64 0] 70 (0,0))∧S a w2):Calls Tryz.prog 39 #[.func (.func 249) #[] #[.pointer (some ⟨a1,0,none⟩),.pointer (some ⟨a2,0,none⟩)]] w fun r w'=>∃a,r=.returned (fv e a)∧∃w2,S a w2∧Onl w.heap.size w2 w':=by
 have hmf:∀(fn:Fn) (first cap:Array Value) (w:World),(Instr.makeFunc fn first cap).run Tryz.prog w=.ok (.func fn first cap) w:=fun _ _ _ _=>rfl
 go_enter_defers Tryz.func39,Tryz.ntmps39
 go_wp2_with fail
 refine hr.mono ?_;rintro r w2 ⟨a,rfl,hc,hS⟩;go_wp2;refine leaves_cons (f:=72) (args:= #[.pointer (some ⟨w.heap.size,0,none⟩)]) (by simp) (by simp[go_sem]) ?_;refine(ccatch_pan w.heap.size _ _ e a [] _ hc).mono ?_;rintro r u' w3 ⟨rfl,rfl,rfl⟩;have c0:=cell_of_row w2 w.heap.size 0 _ _ _ hc;have c1:=cell_of_row w2 w.heap.size 1 _ _ _ hc;have O1:Onl w.heap.size w2 ((w2.setCell ⟨w.heap.size,0,none⟩ (.int .i64 (e:Int))).setCell ⟨w.heap.size,1,none⟩ (.int .i64 (a:Int))):=Onl.setCell (Onl.setCell (onl_refl _ w2) _ hc) _ (by rw[setCell_eq_setRow w2 _ 0 _ _ _ _ hc];exact setRow_heap w2 _ _ _ _ _ hc);simp[Leaves,settle,results,Tryz.results39,go_sem,c0,c1,fv];exact⟨a,rfl,w2,hS,O1⟩
theorem ccatch_try_ok(a1 a2:Nat)(w:World)(S:World→Prop)(hr:Calls Tryz.prog 249 #[.pointer (some ⟨a1,0,none⟩),.pointer (some ⟨a2,0,none⟩)] (w.alloc (.cells #[.int .i64 0,.int .i64 0] 70)) fun r w2=>r=.returned (.tuple #[])∧w2.heap[w.heap.size]?=some (.cells #[.int .i64 0,.int .i64 0] 70 (0,0))∧S w2):Calls Tryz.prog 39 #[.func (.func 249) #[] #[.pointer (some ⟨a1,0,none⟩),.pointer (some ⟨a2,0,none⟩)]] w fun r w'=>r=.returned (fv 0 0)∧∃w2,S w2∧Onl w.heap.size w2 w':=by
 have hmf:∀(fn:Fn) (first cap:Array Value) (w:World),(Instr.makeFunc fn first cap).run Tryz.prog w=.ok (.func fn first cap) w:=fun _ _ _ _=>rfl
 go_enter_defers Tryz.func39,Tryz.ntmps39
 go_wp2_with fail
 refine hr.mono ?_;rintro r w2 ⟨rfl,hc,hS⟩;have c0:=cell_of_row w2 w.heap.size 0 _ _ _ hc;have c1:=cell_of_row w2 w.heap.size 1 _ _ _ hc;have f0:w2.frozen? ⟨w.heap.size,0,none⟩=false:=by simp[World.frozen?,hc]
 have f1:w2.frozen? ⟨w.heap.size,1,none⟩=false:=by simp[World.frozen?,hc]
 go_wp2;refine leaves_cons (f:=72) (args:= #[.pointer (some ⟨w.heap.size,0,none⟩)]) (by simp) (by simp[go_sem]) ?_;refine(ccatch_idle w.heap.size _).mono ?_;rintro r u' w3 ⟨rfl,rfl,rfl⟩;have O1:Onl w.heap.size w2 ((w2.setCell ⟨w.heap.size,0,none⟩ (.int .i64 0)).setCell ⟨w.heap.size,1,none⟩ (.int .i64 0)):=Onl.setCell (Onl.setCell (onl_refl _ w2) _ hc) _ (by rw[setCell_eq_setRow w2 _ 0 _ _ _ _ hc];exact setRow_heap w2 _ _ _ _ _ hc);simp[Leaves,settle,results,Tryz.results39,go_sem,c0,c1,fv];exact⟨w2,hS,O1⟩
def hexS:ByteArray:=⟨#[48,49,50,51,52,53,54,55,56,57,97,98,99,100,101,102,65,66,67,68,69,70]⟩
def hexX(c:UInt8):Int:=Lib.indexByte hexS.data.toList c
def hexOk(c:UInt8):Bool:=match hexv c with
 | none=>decide (hexX c= -1)
 | some d=>decide (0≤hexX c)&&decide (hexX c≤21)&&decide (d<16)&&(if 15<hexX c then decide (hexX c-6=(d:Int))else decide (hexX c=(d:Int)))
theorem hexOk_all:∀n,n<256→hexOk (UInt8.ofNat n)=true:=by decide +kernel
theorem hexOk_c(c:UInt8):hexOk c=true:=by have:=hexOk_all c.toNat c.toNat_lt;rwa [UInt8.ofNat_toNat]at this
theorem hexX_none{c:UInt8}(h:hexv c=none):hexX c= -1:=by have:=hexOk_c c;rw[hexOk,h]at this;simpa using this
theorem hexX_some{c:UInt8}{d:Nat}(h:hexv c=some d):0≤hexX c∧hexX c≤21∧d<16∧(15<hexX c→hexX c-6=(d:Int))∧(¬15<hexX c→hexX c=(d:Int)):=by
 have:=hexOk_c c;rw[hexOk,h]at this;simp only[Bool.and_eq_true,decide_eq_true_eq]at this;obtain⟨⟨⟨a,b⟩,c'⟩,e⟩:=this;refine⟨a,b,c',?_,?_⟩
 ·intro hh;rw[if_pos hh]at e;simpa using e
 ·intro hh;rw[if_neg hh]at e;simpa using e
theorem cfourG_none{k n o:Nat}{l:List UInt8}(h:hexv (pk l)=none):fourG (k+1) n l o=(none,o):=by
 match l with
 | []=>rfl
 | c::r=>rw[fourG];rw[show pk (c::r)=c from rfl]at h;rw[h]
theorem cfourG_some{s:ByteArray}{i k n o d:Nat}(h:hexv (pk (sfx s i))=some d):i<s.size∧fourG (k+1) n (sfx s i) o=fourG k (16*n+d) (sfx s (i+1)) (o+1):=by
 by_cases hi:i<s.size
 ·refine⟨hi,?_⟩
  rw[sfx_cons s i hi]at h ⊢;rw[fourG];rw[show pk (s[i]::sfx s (i+1))=s[i]from rfl]at h;rw[h]
 ·rw[sfx_nil s i (by omega)]at h;cases h
theorem cidx(c:UInt8)(w:World):Calls Tryz.prog 176 #[.string ⟨#[48,49,50,51,52,53,54,55,56,57,97,98,99,100,101,102,65,66,67,68,69,70]⟩,.int .u8 (c.toNat:Int)] w fun e w'=>e=.returned (.int .i64 (hexX c))∧w'=w:=by
 have h:=Tryz.strings_IndexByte hexS (c.toNat:Int) w;rw[show((c.toNat:Int).toNat.toUInt8)=c by simp]at h;exact h
def FP(bp:Nat)(s:ByteArray)(i:Nat)(vL:Value)(dp:Nat)(r:Ending)(w':World):Option Nat×Nat→Prop
 | (some n,_)=>r=.returned (.int .i32 (n:Int))∧CD bp s (i+4) vL dp w'
 | (none,o)=>r=.panicked (flt 2 (i+o))∧CD bp s (i+o) vL dp w'
theorem cfour(bp:Nat)(s:ByteArray)(i:Nat)(vL:Value)(dp:Nat)(w:World)(hs:s.size≤140737488355328)(h:CD bp s i vL dp w)(hi:i≤s.size):Calls Tryz.prog 229 #[.pointer (some ⟨bp,0,none⟩)] w fun r w'=>FP bp s i vL dp r w' (four4 (sfx s i))∧Onl bp w w':=by
 generalize hE:four4 (sfx s i)=E;have HE:Hid (four4 (sfx s i)=E):=hE;clear hE;go_enter Tryz.func229,Tryz.ntmps229;go_wp2_with fail
 go_loopw [3,5] (fun nv kv wr=>∃k N:Nat,k≤4∧i+k≤s.size∧N<16^k∧nv=.int .i64 (N:Int)∧kv=.int .i64 (k:Int)∧fourG (4-k) N (sfx s (i+k)) k=E∧CD bp s (i+k) vL dp wr∧Onl bp w wr) (fun _ kv _=>4-(intOf kv).toNat)
 case atStart=>exact⟨0,0,by omega,hi,by decide,rfl,rfl,HE.out,h,onl_refl bp w⟩
 case round=>
  clear h HE;obtain⟨k,N,hk,hik,hN,rfl,rfl,hE,h,ho⟩:=hrel;have HK:Hid (fourG (4-k) N (sfx s (i+k)) k=E):=hE;have HO:Hid (Onl bp w wr):=ho;clear hE ho;have HN:Hid (N<16^k):=hN;clear hN;by_cases hk4:k<4
  ·have hk4':(k:Int)<4:=by omega
   have hN':(N:Int)≤4096:=by
    have:=HN.out;have h2:16^k≤16^3:=Nat.pow_le_pow_right (by omega) (by omega);omega
   have hp:=cpeek bp s (i+k) vL dp wr h hik;have hx:=fun w'=>cidx (pk (sfx s (i+k))) w'
   have hik2:i+k≤140737488355328:=by omega
   cases hq:hexv (pk (sfx s (i+k)))with
   | none=>
     rw[hexX_none hq]at hx;have hE2:=HK.out;rw[show 4-k=3-k+1 by omega,cfourG_none hq]at hE2;subst hE2;clear HK hq;go_wp2_with fail
     refine hp.mono ?_;rintro e w1 ⟨rfl,h1,o1⟩;clear hp;have HO1:Hid (Onl bp w w1):=HO.out.trans o1;clear o1 HO;go_wp2_with fail
     refine(hx _).mono ?_;rintro e w2 ⟨rfl,rfl⟩;clear hx;have hf:=cfail bp s (i+k) vL dp w2 h1;go_wp2_with fail
     refine hf.mono ?_;rintro e w3 ⟨rfl,rfl⟩;clear hf;go_wp2;exact⟨rfl,⟨rfl,h1⟩,HO1.out⟩
   | some d=>
     obtain⟨hks,hg⟩:=cfourG_some (k:=3-k) (n:=N) (o:=k) hq;obtain⟨x0,x1,hd,xa,xb⟩:=hexX_some hq;have hE2:=HK.out;rw[show 4-k=3-k+1 by omega,hg]at hE2;have HE2:Hid (fourG (4-(k+1)) (16*N+d) (sfx s (i+(k+1))) (k+1)=E):=by rw[show 4-(k+1)=3-k by omega];exact hE2
     have hN2:Hid (16*N+d<16^(k+1)):=by show 16*N+d<16^(k+1);rw[Nat.pow_succ];have:=HN.out;omega
     clear HK hq hE2 hg HN;generalize hexX (pk (sfx s (i+k)))=X at hx x0 x1 xa xb;by_cases hX:15<X
     ·have hXd:X-6=(d:Int):=xa hX
      clear xa xb;have hXe:X=(d:Int)+6:=by omega
      subst hXe;have hX0:¬((d:Int)+6<0):=by omega
      clear hXd x0 x1;go_wp2_with fail
      refine hp.mono ?_;rintro e w1 ⟨rfl,h1,o1⟩;clear hp;have HO1:Hid (Onl bp w w1):=HO.out.trans o1;clear o1 HO;go_wp2_with fail
      refine(hx _).mono ?_;rintro e w2 ⟨rfl,rfl⟩;clear hx;obtain⟨c0,c1,c2,c3,cf⟩:=h1.cell;have f1:=cf 1;go_wp2;refine⟨⟨k+1,16*N+d,by omega,by omega,hN2.out,by rw[show((16*N+d:Nat):Int)=(N:Int)*16+(d:Int)by omega],by rw[show((k+1:Nat):Int)=(k:Int)+1 by omega],HE2.out,h1.setI (i+(k+1)),Onl.setCell HO1.out _ h1⟩,?_⟩;simp only[intOf];omega
     ·have hXd:X=(d:Int):=xb hX
      clear xa xb;subst hXd;have hX0:¬((d:Int)<0):=by omega
      clear x0 x1;go_wp2_with fail
      refine hp.mono ?_;rintro e w1 ⟨rfl,h1,o1⟩;clear hp;have HO1:Hid (Onl bp w w1):=HO.out.trans o1;clear o1 HO;go_wp2_with fail
      refine(hx _).mono ?_;rintro e w2 ⟨rfl,rfl⟩;clear hx;obtain⟨c0,c1,c2,c3,cf⟩:=h1.cell;have f1:=cf 1;go_wp2;refine⟨⟨k+1,16*N+d,by omega,by omega,hN2.out,by rw[show((16*N+d:Nat):Int)=(N:Int)*16+(d:Int)by omega],by rw[show((k+1:Nat):Int)=(k:Int)+1 by omega],HE2.out,h1.setI (i+(k+1)),Onl.setCell HO1.out _ h1⟩,?_⟩;simp only[intOf];omega
  ·have hk4':k=4:=by omega
   subst hk4';have hN':(N:Int)<65536:=by have:=HN.out;omega
   have hE2:=HK.out;rw[show 4-4=0 from rfl,fourG]at hE2;subst hE2;clear HK HN;go_wp2;go_ret;exact⟨⟨rfl,h⟩,HO.out⟩
def isHi(n:Nat):Bool:=decide (55296≤n)&&decide (n<56320)
def isLo(n:Nat):Bool:=decide (56320≤n)&&decide (n<57344)
theorem chi(n:Nat)(w:World):Calls Tryz.prog 230 #[.int .i32 (n:Int)] w fun e w'=>e=.returned (.bool (isHi n))∧w'=w:=by
 by_cases h1:55296≤n
 ·have h1':(55296:Int)≤(n:Int):=by omega
  by_cases h2:n<56320
  ·have h2':(n:Int)<56320:=by omega
   go_enter Tryz.func230,Tryz.ntmps230;go_wp2;go_ret;exact⟨by simp[isHi,h1,h2],rfl⟩
  ·have h2':¬(n:Int)<56320:=by omega
   go_enter Tryz.func230,Tryz.ntmps230;go_wp2;go_ret;exact⟨by simp[isHi,h2],rfl⟩
 ·have h1':¬(55296:Int)≤(n:Int):=by omega
  go_enter Tryz.func230,Tryz.ntmps230;go_wp2;go_ret;exact⟨by simp[isHi,h1],rfl⟩
theorem clo(n:Nat)(w:World):Calls Tryz.prog 233 #[.int .i32 (n:Int)] w fun e w'=>e=.returned (.bool (isLo n))∧w'=w:=by
 by_cases h1:56320≤n
 ·have h1':(56320:Int)≤(n:Int):=by omega
  by_cases h2:n<57344
  ·have h2':(n:Int)<57344:=by omega
   go_enter Tryz.func233,Tryz.ntmps233;go_wp2;go_ret;exact⟨by simp[isLo,h1,h2],rfl⟩
  ·have h2':¬(n:Int)<57344:=by omega
   go_enter Tryz.func233,Tryz.ntmps233;go_wp2;go_ret;exact⟨by simp[isLo,h2],rfl⟩
 ·have h1':¬(56320:Int)≤(n:Int):=by omega
  go_enter Tryz.func233,Tryz.ntmps233;go_wp2;go_ret;exact⟨by simp[isLo,h1],rfl⟩
def SP(bp:Nat)(s:ByteArray)(i:Nat)(vL:Value)(dp:Nat)(r:Ending)(w':World):Option Nat→Prop
 | some m=>r=.returned (.int .i32 (m:Int))∧CD bp s (i+6) vL dp w'
 | none=>∃a j,r=.panicked (flt 2 a)∧CD bp s j vL dp w'
theorem lowL_no1{s:ByteArray}{i:Nat}(h:(sfx s i).head?≠some 92):lowL (sfx s i)=none:=by
 unfold lowL;split
 ·next a b r he=>rw[he]at h;rw[if_neg];simp at h;exact fun e=>h e.1
 ·rfl
theorem lowL_no2{s:ByteArray}{i:Nat}(h:(sfx s (i+1)).head?≠some 117):lowL (sfx s i)=none:=by
 rw[←sfx_drop s i 1]at h;unfold lowL;split
 ·next a b r he=>rw[he]at h;rw[if_neg];simp at h;exact fun e=>h e.2
 ·rfl
def lowO:Option Nat→Option Nat
 | some n=>if 56320≤n∧n≤57343 then some n else none
 | none=>none
theorem lowL_yes{s:ByteArray}{i:Nat}(h1:(sfx s i).head?=some 92)(h2:(sfx s (i+1)).head?=some 117):lowL (sfx s i)=lowO (four4 (sfx s (i+2))).1:=by
 have hi:=head_lt h1;have hi2:=head_lt h2;rw[sfx_cons s i hi]at h1 ⊢;rw[sfx_cons s (i+1) hi2]at h2 ⊢;simp only[List.head?_cons,Option.some.injEq]at h1 h2;rw[lowL,if_pos ⟨h1,h2⟩];rfl
theorem four4_n{l:List UInt8}{n o:Nat}(h:four4 l=(some n,o)):n<65536:=by
 have key:∀(k N:Nat) (l:List UInt8) (o n o':Nat),fourG k N l o=(some n,o')→N<16^(4-k)→k≤4→n<65536:=by
  intro k;induction k with
  | zero=>intro N l o n o' h hN _;rw[fourG]at h;injection h with h1 _;injection h1 with h1;subst h1;simpa using hN
  | succ k ih=>
    intro N l o n o' h hN hk;match l with
    | []=>rw[fourG]at h;injection h with h1 _;cases h1
    | c::r=>
      rw[fourG]at h;cases hq:hexv c with
      | none=>rw[hq]at h;injection h with h1 _;cases h1
      | some d=>
        rw[hq]at h;have hd:=(hexX_some hq).2.2.1;refine ih (16*N+d) r (o+1) n o' h ?_ (by omega);rw[show 4-k=4-(k+1)+1 by omega,Nat.pow_succ];omega
 exact key 4 0 l 0 n o h (by decide) (by omega)
section
variable (bp:Nat) (s:ByteArray) (i:Nat) (vL:Value) (dp:Nat) (w:World)
theorem csec(hs:s.size≤140737488355328)(h:CD bp s i vL dp w)(hi:i≤s.size):Calls Tryz.prog 232 #[.pointer (some ⟨bp,0,none⟩)] w fun r w'=>SP bp s i vL dp r w' (lowL (sfx s i))∧Onl bp w w':=by
 by_cases h1:(sfx s i).head?=some 92
 ·have hi1:=head_lt h1
  have hn:=cneed_yes bp s i vL dp 92 w hs h h1;rw[show((92:UInt8).toNat:Int)=92 from rfl]at hn;by_cases h2:(sfx s (i+1)).head?=some 117
  ·have hi2:=head_lt h2
   have hn2:=fun w' h'=>cneed_yes bp s (i+1) vL dp 117 w' hs h' h2
   rw[show((117:UInt8).toNat:Int)=117 from rfl]at hn2;have hf:=fun w' h'=>cfour bp s (i+2) vL dp w' hs h' (by omega)
   have HL:Hid _:=lowL_yes h1 h2;clear h1 h2;cases hq:four4 (sfx s (i+2))with
   | mk q o=>
     rw[hq]at hf;have HL2:Hid (lowL (sfx s i)=lowO q):=by have:=HL.out;rw[hq]at this;exact this
     clear HL;cases q with
     | none=>
       clear hq;go_enter Tryz.func232,Tryz.ntmps232;go_wp2_with fail
       refine hn.mono ?_;rintro e w1 ⟨rfl,g1,o1⟩;have O1:Hid (Onl bp w w1):=o1;clear o1 hn;go_wp2_with fail
       refine(hn2 w1 g1).mono ?_;rintro e w2 ⟨rfl,g2,o2⟩;have O2:Hid (Onl bp w w2):=O1.out.trans o2;clear o2 hn2 O1;go_wp2_with fail
       refine(hf w2 g2).mono ?_;rintro e w3 ⟨⟨rfl,g3⟩,o3⟩;have O3:Hid (Onl bp w w3):=O2.out.trans o3;clear o3 hf O2;go_wp2;refine⟨rfl,?_,O3.out⟩;rw[HL2.out];exact⟨_,_,rfl,g3⟩
     | some n=>
       have hn6:=four4_n hq;have hll:=fun w'=>clo n w'
       clear hq;cases hb:isLo n with
       | true=>
         have HL3:Hid (lowL (sfx s i)=some n):=by
          have:=HL2.out;rw[lowO]at this;rw[isLo]at hb;simp at hb;rw[if_pos ⟨hb.1,by omega⟩]at this;exact this
         clear HL2;rw[hb]at hll;clear hb;go_enter Tryz.func232,Tryz.ntmps232;go_wp2_with fail
         refine hn.mono ?_;rintro e w1 ⟨rfl,g1,o1⟩;have O1:Hid (Onl bp w w1):=o1;clear o1 hn;go_wp2_with fail
         refine(hn2 w1 g1).mono ?_;rintro e w2 ⟨rfl,g2,o2⟩;have O2:Hid (Onl bp w w2):=O1.out.trans o2;clear o2 hn2 O1;go_wp2_with fail
         refine(hf w2 g2).mono ?_;rintro e w3 ⟨⟨rfl,g3⟩,o3⟩;have O3:Hid (Onl bp w w3):=O2.out.trans o3;clear o3 hf O2;go_wp2_with fail
         refine(hll w3).mono ?_;rintro e w4 ⟨rfl,rfl⟩;clear hll;go_wp2;go_ret;refine⟨?_,O3.out⟩;rw[HL3.out];exact⟨rfl,g3⟩
       | false=>
         have HL3:Hid (lowL (sfx s i)=none):=by
          have:=HL2.out;rw[lowO]at this;rw[if_neg (by rintro⟨x,y⟩;rw[isLo]at hb;simp[x]at hb;omega)]at this;exact this
         clear HL2;rw[hb]at hll;clear hb;go_enter Tryz.func232,Tryz.ntmps232;go_wp2_with fail
         refine hn.mono ?_;rintro e w1 ⟨rfl,g1,o1⟩;have O1:Hid (Onl bp w w1):=o1;clear o1 hn;go_wp2_with fail
         refine(hn2 w1 g1).mono ?_;rintro e w2 ⟨rfl,g2,o2⟩;have O2:Hid (Onl bp w w2):=O1.out.trans o2;clear o2 hn2 O1;go_wp2_with fail
         refine(hf w2 g2).mono ?_;rintro e w3 ⟨⟨rfl,g3⟩,o3⟩;have O3:Hid (Onl bp w w3):=O2.out.trans o3;clear o3 hf O2;go_wp2_with fail
         refine(hll w3).mono ?_;rintro e w4 ⟨rfl,rfl⟩;clear hll;have hff:=cfail bp s (i+2+4) vL dp w4 g3;go_wp2_with fail
         refine hff.mono ?_;rintro e w5 ⟨rfl,rfl⟩;clear hff;go_wp2;refine⟨rfl,?_,O3.out⟩;rw[HL3.out];exact⟨_,_,rfl,g3⟩
  ·have hn2:=fun w' h'=>cneed_no bp s (i+1) vL dp 117 w' h' (by omega) (by decide) h2
   rw[show((117:UInt8).toNat:Int)=117 from rfl]at hn2;have HL:Hid _:=lowL_no2 h2;clear h1 h2;go_enter Tryz.func232,Tryz.ntmps232;go_wp2_with fail
   refine hn.mono ?_;rintro e w1 ⟨rfl,g1,o1⟩;have O1:Hid (Onl bp w w1):=o1;clear o1 hn;go_wp2_with fail
   refine(hn2 w1 g1).mono ?_;rintro e w2 ⟨rfl,g2,o2⟩;have O2:Hid (Onl bp w w2):=O1.out.trans o2;clear o2 hn2 O1;go_wp2;refine⟨rfl,?_,O2.out⟩;rw[HL.out];exact⟨_,_,rfl,g2⟩
 ·have hn:=cneed_no bp s i vL dp 92 w h hi (by decide) h1
  rw[show((92:UInt8).toNat:Int)=92 from rfl]at hn;have HL:Hid _:=lowL_no1 h1;clear h1;go_enter Tryz.func232,Tryz.ntmps232;go_wp2_with fail
  refine hn.mono ?_;rintro e w1 ⟨rfl,g1,o1⟩;have O1:Hid (Onl bp w w1):=o1;clear o1 hn;go_wp2;refine⟨rfl,?_,O1.out⟩;rw[HL.out];exact⟨_,_,rfl,g1⟩
end
structure Onl2 (bp a:Nat) (w w':World):Prop where
 os:w'.os=w.os
 tape:w'.tape=w.tape
 output:w'.output=w.output
 size:w.heap.size≤w'.heap.size
 block:∀k,k<w.heap.size→k≠bp→k≠a→w'.heap[k]?=w.heap[k]?
theorem Onl.two{bp a:Nat}{w w':World}(h:Onl bp w w'):Onl2 bp a w w':=⟨h.os,h.tape,h.output,h.size,fun k hk h1 _=>h.block k hk (fun e=>by injection e with e;exact h1 e)⟩
def secF(bp:Nat):Value:=.func (.func 232) #[.pointer (some ⟨bp,0,none⟩)] #[]
section
variable (bp:Nat) (s:ByteArray) (i:Nat) (vL:Value) (dp a1 a2:Nat) (w:World)
theorem ctry1_ok(hs:s.size≤140737488355328)(h:CD bp s i vL dp w)(hi:i≤s.size)(m:Nat)(hL:lowL (sfx s i)=some m)(h1:w.heap[a1]?=some (.cells #[secF bp] 205 (0,0)))(h2:w.heap[a2]?=some (.cells #[.int .i32 0] 21 (0,0)))(n2:bp≠a2):Calls Tryz.prog 249 #[.pointer (some ⟨a1,0,none⟩),.pointer (some ⟨a2,0,none⟩)] w fun r w'=>r=.returned (.tuple #[])∧CD bp s (i+6) vL dp w'∧w'.heap[a2]?=some (.cells #[.int .i32 (m:Int)] 21 (0,0))∧Onl2 bp a2 w w':=by
 have c1:w.cell? ⟨a1,0,none⟩=some (secF bp):=by rw[cell_of_row w a1 0 _ _ _ h1];rfl
 unfold secF at c1;have hc:=csec bp s i vL dp w hs h hi;rw[hL]at hc;have ha2:a2<w.heap.size:=(Array.getElem?_eq_some_iff.1 h2).1;clear hL h1;go_enter Tryz.func249,Tryz.ntmps249;go_wp2_with fail
 refine hc.mono ?_;rintro e w1 ⟨⟨rfl,g1⟩,o1⟩;clear hc c1;have h3:w1.heap[a2]?=some (.cells #[.int .i32 0] 21 (0,0)):=by rw[o1.block a2 ha2 (fun e=>by injection e with e;exact n2 e.symm)];exact h2
 have O1:Hid (Onl bp w w1):=o1;clear o1;have c2:w1.cell? ⟨a2,0,none⟩=some (.int .i32 0):=by rw[cell_of_row w1 a2 0 _ _ _ h3];rfl
 have f2:w1.frozen? ⟨a2,0,none⟩=false:=by simp[World.frozen?,h3]
 go_wp2;go_end0
 have e2:=setCell_eq_setRow w1 a2 0 _ _ _ (.int .i32 (m:Int)) h3;refine⟨rfl,?_,?_,?_⟩
 ·unfold CD;rw[e2,setRow_other w1 a2 bp _ n2];exact g1
 ·rw[e2];exact setRow_heap w1 a2 _ _ _ _ h3
 ·have o:=O1.out
  refine⟨by rw[e2];exact o.os,by rw[e2];exact o.tape,by rw[e2];exact o.output,by rw[e2];have:=o.size;simpa [World.setRow]using this,?_⟩;intro k hk k1 k2;rw[e2,setRow_other w1 a2 k _ k2];exact o.block k hk (fun e=>by injection e with e;exact k1 e)
theorem ctry1_bad(hs:s.size≤140737488355328)(h:CD bp s i vL dp w)(hi:i≤s.size)(hL:lowL (sfx s i)=none)(h1:w.heap[a1]?=some (.cells #[secF bp] 205 (0,0))):Calls Tryz.prog 249 #[.pointer (some ⟨a1,0,none⟩),.pointer (some ⟨a2,0,none⟩)] w fun r w'=>∃a j,r=.panicked (flt 2 a)∧CD bp s j vL dp w'∧Onl bp w w':=by
 have c1:w.cell? ⟨a1,0,none⟩=some (secF bp):=by rw[cell_of_row w a1 0 _ _ _ h1];rfl
 unfold secF at c1;have hc:=csec bp s i vL dp w hs h hi;rw[hL]at hc;clear hL h1;go_enter Tryz.func249,Tryz.ntmps249;go_wp2_with fail
 refine hc.mono ?_;rintro e w1 ⟨⟨a,j,rfl,g1⟩,o1⟩;clear hc c1;have O1:Hid (Onl bp w w1):=o1;clear o1;go_wp2;exact⟨rfl,_,_,rfl,g1,O1.out⟩
theorem cell_al{w:World}{b k:Nat}(hb:b<w.heap.size)(o:Obj):(w.alloc o).cell? ⟨b,k,none⟩=w.cell? ⟨b,k,none⟩:=by
 unfold World.cell?;simp[heap_alloc_old _ _ hb]
theorem frozen_al{w:World}{b k:Nat}(hb:b<w.heap.size)(o:Obj):(w.alloc o).frozen? ⟨b,k,none⟩=w.frozen? ⟨b,k,none⟩:=by
 unfold World.frozen?;simp[heap_alloc_old _ _ hb]
def TP(bp:Nat)(s:ByteArray)(i:Nat)(vL:Value)(dp:Nat)(r:Ending)(w':World):Option Nat→Prop
 | some m=>r=.returned (.tuple #[.int .i32 (m:Int),.bool true])∧CD bp s (i+6) vL dp w'
 | none=>r=.returned (.tuple #[.int .i32 0,.bool false])∧CD bp s i vL dp w'
theorem ctry(hs:s.size≤140737488355328)(h:CD bp s i vL dp w)(hi:i≤s.size):Calls Tryz.prog 231 #[.pointer (some ⟨bp,0,none⟩),secF bp] w fun r w'=>TP bp s i vL dp r w' (lowL (sfx s i))∧Onl bp w w':=by
 have hmf:∀(fn:Fn) (first cap:Array Value) (w:World),(Instr.makeFunc fn first cap).run Tryz.prog w=.ok (.func fn first cap) w:=fun _ _ _ _=>rfl
 have hlt:=h.lt;obtain⟨c0,c1,c2,c3,cf⟩:=h.cell;cases hL:lowL (sfx s i)with
 | some m=>
   generalize hW:(((w.alloc (.cells #[secF bp] 205)).alloc (.cells #[.int .i32 0] 21)).alloc (.cells #[.string s,.int .i64 (i:Int)] 66))=W;have hsz:W.heap.size=w.heap.size+3:=by subst hW;simp
   have b0:W.heap[w.heap.size]?=some (.cells #[secF bp] 205 (0,0)):=by
    subst hW;rw[heap_alloc_old _ _ (by simp;omega),heap_alloc_old _ _ (by simp),heap_alloc_new]
   have b1:W.heap[w.heap.size+1]?=some (.cells #[.int .i32 0] 21 (0,0)):=by
    subst hW;rw[heap_alloc_old _ _ (by simp)];have:=heap_alloc_new (w.alloc (.cells #[secF bp] 205)) (.cells #[.int .i32 0] 21);simpa using this
   have gW:CD bp s i vL dp W:=by subst hW;exact((h.alloc _).alloc _).alloc _
   have oW:Hid (Onl bp w W):=by subst hW;exact(((onl_refl bp w).alloc _).alloc _).alloc _
   have HW:Hid _:=hW;clear hW;have hT:=ctry1_ok bp s i vL dp w.heap.size (w.heap.size+1) (W.alloc (.cells #[.int .i64 0,.int .i64 0] 70)) hs (gW.alloc _) hi m hL (by rw[heap_alloc_old _ _ (by omega)];exact b0) (by rw[heap_alloc_old _ _ (by omega)];exact b1) (by omega)
   have hC:=ccatch_try_ok w.heap.size (w.heap.size+1) W (fun w2=>CD bp s (i+6) vL dp w2∧w2.heap[w.heap.size+1]?=some (.cells #[.int .i32 (m:Int)] 21 (0,0))∧Onl bp w w2)
    (hT.mono (by
      rintro r w2 ⟨rfl,g2,q2,o2⟩;refine⟨rfl,?_,g2,q2,?_⟩
      ·rw[o2.block W.heap.size (by simp) (by omega) (by omega)];exact heap_alloc_new W _
      ·have oW:=oW.out
       refine⟨o2.os.trans oW.os,o2.tape.trans oW.tape,o2.output.trans oW.output,by have:=o2.size;simp at this;omega,?_⟩;intro k hk hn;rw[o2.block k (by simp;omega) (fun e=>hn (by rw[e])) (by omega),heap_alloc_old _ _ (by omega)];exact oW.block k hk hn))
   have hC2:=hC.mono (R':=fun r w3=>r=.returned (fv 0 0)∧CD bp s (i+6) vL dp w3∧w3.heap[w.heap.size+1]?=some (.cells #[.int .i32 (m:Int)] 21 (0,0))∧Onl bp w w3∧w.heap.size+1<w3.heap.size) (by
    rintro r w3 ⟨rfl,w2,⟨g2,q2,o2⟩,o3⟩;have l2:w.heap.size+1<w2.heap.size:=(Array.getElem?_eq_some_iff.1 q2).1;have e1:w3.heap[w.heap.size+1]?=w2.heap[w.heap.size+1]?:=o3.block _ l2 (fun e=>by injection e with e;omega);refine⟨rfl,?_,e1.trans q2,?_,by have:=o3.size;omega⟩
    ·exact(o3.block bp g2.lt (fun e=>by injection e with e;omega)).trans g2
    ·exact⟨o3.os.trans o2.os,o3.tape.trans o2.tape,o3.output.trans o2.output,Nat.le_trans o2.size o3.size,fun k hk hn=>(o3.block k (by omega) (fun e=>by injection e with e;omega)).trans (o2.block k hk hn)⟩)
   clear hC;rw[←HW.out]at hC2;unfold secF at hC2 ⊢;clear hT b0 b1 gW hL oW HW hsz W;go_enter Tryz.func231,Tryz.ntmps231;go_wp2_with fail
   refine hC2.mono ?_;rintro e w3 ⟨rfl,g3,q3,o3,l3⟩;clear hC2 c0 c1 c2 c3 cf;unfold fv;have G3:Hid (CD bp s (i+6) vL dp w3):=g3;have O3:Hid (Onl bp w w3):=o3;have Q3:Hid _:=q3;have q4:w3.cell? ⟨w.heap.size+1,0,none⟩=some (.int .i32 (m:Int)):=by rw[cell_of_row w3 _ 0 _ _ _ q3];rfl
   have f4:w3.frozen? ⟨w.heap.size+1,0,none⟩=false:=by simp[World.frozen?,q3]
   have q5:∀o,(w3.alloc o).cell? ⟨w.heap.size+1,0,none⟩=some (.int .i32 (m:Int)):=fun o=>by rw[cell_al l3];exact q4
   have f5:∀o,(w3.alloc o).frozen? ⟨w.heap.size+1,0,none⟩=false:=fun o=>by rw[frozen_al l3];exact f4
   clear g3 o3 q3;go_wp2;have e2:=setCell_eq_setRow w3 (w.heap.size+1) 0 _ _ _ (.int .i32 (m:Int)) Q3.out;have r2:=setRow_heap w3 (w.heap.size+1) _ (#[.int .i32 (m:Int)]) _ _ Q3.out;have hcell:((w3.setCell ⟨w.heap.size+1,0,none⟩ (.int .i32 (m:Int))).alloc (.cells #[.int .i64 0,.int .i64 0] 70)).cell? ⟨w.heap.size+1,0,none⟩=some (.int .i32 (m:Int)):=by
    rw[e2,cell_al (by simpa [World.setRow]using l3)];exact cell_of_row _ _ 0 _ _ _ r2
   refine bodyPost_ret (v:=.tuple #[.int .i32 (m:Int),.bool true]) (by simp[results,Tryz.results231,go_sem,hcell]) rfl ?_;refine⟨⟨rfl,?_⟩,?_⟩
   ·refine CD.alloc ?_ _
    rw[e2];exact(setRow_other w3 _ bp _ (by omega)).trans G3.out
   ·refine Onl.alloc ?_ _
    exact Onl.setNew O3.out Q3.out (by omega) 0 _
 | none=>
   generalize hW:(((w.alloc (.cells #[secF bp] 205)).alloc (.cells #[.int .i32 0] 21)).alloc (.cells #[.string s,.int .i64 (i:Int)] 66))=W;have hsz:W.heap.size=w.heap.size+3:=by subst hW;simp
   have b0:W.heap[w.heap.size]?=some (.cells #[secF bp] 205 (0,0)):=by
    subst hW;rw[heap_alloc_old _ _ (by simp;omega),heap_alloc_old _ _ (by simp),heap_alloc_new]
   have b1:W.heap[w.heap.size+1]?=some (.cells #[.int .i32 0] 21 (0,0)):=by
    subst hW;rw[heap_alloc_old _ _ (by simp)];have:=heap_alloc_new (w.alloc (.cells #[secF bp] 205)) (.cells #[.int .i32 0] 21);simpa using this
   have b2:W.heap[w.heap.size+1+1]?=some (.cells #[.string s,.int .i64 (i:Int)] 66 (0,0)):=by
    subst hW;have:=heap_alloc_new ((w.alloc (.cells #[secF bp] 205)).alloc (.cells #[.int .i32 0] 21)) (.cells #[.string s,.int .i64 (i:Int)] 66);simpa using this
   have gW:CD bp s i vL dp W:=by subst hW;exact((h.alloc _).alloc _).alloc _
   have oW:Hid (Onl bp w W):=by subst hW;exact(((onl_refl bp w).alloc _).alloc _).alloc _
   have HW:Hid _:=hW;clear hW;have hT:=ctry1_bad bp s i vL dp w.heap.size (w.heap.size+1) (W.alloc (.cells #[.int .i64 0,.int .i64 0] 70)) hs (gW.alloc _) hi hL (by rw[heap_alloc_old _ _ (by omega)];exact b0)
   have hC:=ccatch_try_bad w.heap.size (w.heap.size+1) W 2 (fun _ w2=>(∃j,CD bp s j vL dp w2)∧w2.heap[w.heap.size+1]?=some (.cells #[.int .i32 0] 21 (0,0))∧w2.heap[w.heap.size+1+1]?=some (.cells #[.string s,.int .i64 (i:Int)] 66 (0,0))∧Onl bp w w2)
    (hT.mono (by
      rintro r w2 ⟨a,j,rfl,g2,o2⟩;have hz:∀k,k<W.heap.size→k≠bp→w2.heap[k]?=W.heap[k]?:=fun k hk hn=>by
       rw[o2.block k (by simp;omega) (fun e=>by injection e with e;exact hn e),heap_alloc_old _ _ hk]
      refine⟨a,rfl,?_,⟨j,g2⟩,?_,?_,?_⟩
      ·rw[o2.block W.heap.size (by simp) (fun e=>by injection e with e;omega)];exact heap_alloc_new W _
      ·rw[hz _ (by omega) (by omega)];exact b1
      ·rw[hz _ (by omega) (by omega)];exact b2
      ·have oW:=oW.out
       refine⟨o2.os.trans oW.os,o2.tape.trans oW.tape,o2.output.trans oW.output,by have:=o2.size;simp at this;omega,?_⟩;intro k hk hn;rw[hz k (by omega) (fun e=>hn (by rw[e]))];exact oW.block k hk hn))
   have hC2:=hC.mono (R':=fun r w3=>∃a,r=.returned (fv 2 a)∧(∃j,CD bp s j vL dp w3)∧w3.heap[w.heap.size+1]?=some (.cells #[.int .i32 0] 21 (0,0))∧w3.heap[w.heap.size+1+1]?=some (.cells #[.string s,.int .i64 (i:Int)] 66 (0,0))∧Onl bp w w3∧w.heap.size+1+1<w3.heap.size) (by
    rintro r w3 ⟨a,rfl,w2,⟨⟨j,g2⟩,q2,y2,o2⟩,o3⟩;have l2:w.heap.size+1+1<w2.heap.size:=(Array.getElem?_eq_some_iff.1 y2).1;have e1:w3.heap[w.heap.size+1]?=w2.heap[w.heap.size+1]?:=o3.block _ (by omega) (fun e=>by injection e with e;omega);have e2:w3.heap[w.heap.size+1+1]?=w2.heap[w.heap.size+1+1]?:=o3.block _ (by omega) (fun e=>by injection e with e;omega);refine⟨a,rfl,⟨j,?_⟩,e1.trans q2,e2.trans y2,?_,by have:=o3.size;omega⟩
    ·exact(o3.block bp g2.lt (fun e=>by injection e with e;omega)).trans g2
    ·exact⟨o3.os.trans o2.os,o3.tape.trans o2.tape,o3.output.trans o2.output,Nat.le_trans o2.size o3.size,fun k hk hn=>(o3.block k (by omega) (fun e=>by injection e with e;omega)).trans (o2.block k hk hn)⟩)
   clear hC;rw[←HW.out]at hC2;unfold secF at hC2 ⊢;clear hT b0 b1 b2 gW hL oW HW hsz W;go_enter Tryz.func231,Tryz.ntmps231;go_wp2_with fail
   refine hC2.mono ?_;rintro e w3 ⟨a,rfl,⟨j,g3⟩,q3,y3,o3,l3⟩;clear hC2 c0 c1 c2 c3 cf;unfold fv;have G3:Hid (CD bp s j vL dp w3):=g3;have O3:Hid (Onl bp w w3):=o3;have Q3:Hid _:=q3;have l2:w.heap.size+1<w3.heap.size:=by omega
   have lb:bp<w3.heap.size:=g3.lt;obtain⟨c0,c1,c2,c3,cf⟩:=g3.cell;have q5:w3.cell? ⟨w.heap.size+1,0,none⟩=some (.int .i32 0):=by rw[cell_of_row w3 _ 0 _ _ _ q3];rfl
   have f5:w3.frozen? ⟨w.heap.size+1,0,none⟩=false:=by simp[World.frozen?,q3]
   have y5:w3.cell? ⟨w.heap.size+1+1,0,none⟩=some (.string s):=by rw[cell_of_row w3 _ 0 _ _ _ y3];rfl
   have y6:w3.cell? ⟨w.heap.size+1+1,1,none⟩=some (.int .i64 (i:Int)):=by rw[cell_of_row w3 _ 1 _ _ _ y3];rfl
   have b7:=cf 0;have b8:=cf 1;have nb1:¬bp=w.heap.size+1:=by omega
   have nb2:¬w.heap.size+1=bp:=by omega
   clear g3 o3 q3 y3 c2 c3 cf;go_wp2;have g4:CD bp s j vL dp (w3.setCell ⟨bp,0,none⟩ (.string s)):=by
    unfold CD;rw[setCell_eq_setRow w3 bp 0 _ _ _ _ G3.out];exact setRow_heap w3 bp _ _ _ _ G3.out
   have o4:Onl bp w (w3.setCell ⟨bp,0,none⟩ (.string s)):=Onl.setCell O3.out _ G3.out;have q4:(w3.setCell ⟨bp,0,none⟩ (.string s)).heap[w.heap.size+1]?=some (.cells #[.int .i32 0] 21 (0,0)):=by
    rw[setCell_eq_setRow w3 bp 0 _ _ _ _ G3.out,setRow_other w3 bp _ _ nb2];exact Q3.out
   have g5:=g4.setI i;have o5:=Onl.setCell (k:=1) o4 (.int .i64 (i:Int)) g4;have q6:((w3.setCell ⟨bp,0,none⟩ (.string s)).setCell ⟨bp,1,none⟩ (.int .i64 (i:Int))).heap[w.heap.size+1]?=some (.cells #[.int .i32 0] 21 (0,0)):=by
    rw[setCell_eq_setRow _ bp 1 _ _ _ _ g4,setRow_other _ bp _ _ nb2];exact q4
   generalize (w3.setCell ⟨bp,0,none⟩ (.string s)).setCell ⟨bp,1,none⟩ (.int .i64 (i:Int))=w5 at g5 o5 q6 ⊢;have l5:w.heap.size+1<w5.heap.size:=(Array.getElem?_eq_some_iff.1 q6).1;have e2:=setCell_eq_setRow w5 (w.heap.size+1) 0 _ _ _ (.int .i32 0) q6;have r2:=setRow_heap w5 (w.heap.size+1) _ (#[.int .i32 0]) _ _ q6;have hcell:((w5.setCell ⟨w.heap.size+1,0,none⟩ (.int .i32 0)).alloc (.cells #[.int .i64 2,.int .i64 (a:Int)] 70)).cell? ⟨w.heap.size+1,0,none⟩=some (.int .i32 0):=by
    rw[e2,cell_al (by simpa [World.setRow]using l5)];exact cell_of_row _ _ 0 _ _ _ r2
   refine bodyPost_ret (v:=.tuple #[.int .i32 0,.bool false]) (by simp[results,Tryz.results231,go_sem,hcell]) rfl ?_;refine⟨⟨rfl,?_⟩,?_⟩
   ·refine CD.alloc ?_ _
    rw[e2];exact(setRow_other w5 _ bp _ (by omega)).trans g5
   ·refine Onl.alloc ?_ _
    exact Onl.setNew o5 q6 (by omega) 0 _
end
end Go.Proofs.YtbbopknnoamkbaaGreatDoor
