import Derived.Test.YtbbopknnoamkbaaGreatDoorHB
import Derived.Test.YtbbopknnoamkbaaGreatDoorHC
import Derived.Test.YtbbopknnoamkbaaGreatDoorHD
import Derived.Test.YtbbopknnoamkbaaGreatDoorH1
set_option maxHeartbeats 400000
namespace Go.Proofs.YtbbopknnoamkbaaGreatDoor.Dg
set_option maxRecDepth 4000
open Go.RowKit
set_option linter.unusedVariables false
def byteRow(l:List UInt8):Array Value:=(l.map byteV).toArray
theorem byteRow_get(l:List UInt8)(k:Nat)(h:k<l.length):(byteRow l)[k]?=some (byteV l[k]):=by simp[byteRow,h]
theorem byteRow_size(l:List UInt8):(byteRow l).size=l.length:=by simp[byteRow]
theorem made_bytes(n:Nat):madeCells (Value.int .u8 0).cells (n*1)=byteRow (List.replicate n 0):=by
 apply Array.ext';rw[Nat.mul_one];have:=toList_madeCells_one (.int .u8 0) n;rw[show(Value.int .u8 0).cells= #[.int .u8 0]from rfl,this];simp[byteRow,byteV]
theorem wp_copy_str{P:Program}{ops:Array Oper}{rest:List Oper}{o:Oper}{a:Act}{Q:Exit→Act→World→Prop}{w:World}(hgd:o.guard=none)(d s:Operand)(dT sT:TypeId)(ho:o.op=.call {callee:=.builtin .copy,args:= #[d,s],argTypes:= #[dT,sT]})(e:TypeId)(hu:P.underlying dT=some (.slice e))(hs1:(P.info? e).map (·.size)=some 1)
 (g n c:Nat) (t:TypeId) (l:List UInt8) (x:ByteArray) (hd:a.eval d=.slice (some ⟨g,0,none⟩) n c) (hs:a.eval s=.string x) (hl:l.length=n) (hx:x.size≤n)
 (hg:w.heap[g]?=some (.cells (byteRow l) t (0,0)))
 (h:∀v,wpList P ops Q rest (a.put o.dst v) (w.setRow g (byteRow (x.data.toList++l.drop x.size)))):wpList P ops Q (o::rest) a w:=by
 refine wpList_plain hgd fun K hK=>?_
 have hm:Nat.min x.size n=x.size:=Nat.min_eq_left hx;have hc:List.take x.size (List.map (fun b:UInt8=>Value.int .u8 (b.toNat:Int)) x.data.toList)=(byteRow x.data.toList).toList:=by
  rw[List.take_of_length_le (by simp)];rfl
 have hst:=run_storeCells_at P g 0 t (byteRow x.data.toList).toList 0 (byteRow l) w hg (by simp[byteRow];omega) (by intro v hv;simp[byteRow]at hv;obtain⟨b,_,rfl⟩:=hv;rfl);have e2:(List.take (0+0) (byteRow l).toList++(byteRow x.data.toList).toList++List.drop (0+0+(byteRow x.data.toList).toList.length) (byteRow l).toList).toArray=byteRow (x.data.toList++l.drop x.size):=by
  simp[byteRow]
 rw[e2]at hst;have hr:(Builtin.copy_ #[dT,sT] o.type #[.slice (some ⟨g,0,none⟩) n c,.string x]).run P w=.ok (goInt x.size) (w.setRow g (byteRow (x.data.toList++l.drop x.size))):=by
  cases hi:P.info? e with
  | none=>simp[hi]at hs1
  | some i=>
    have hsz:i.size=1:=by simpa [hi]using hs1
    simp[Builtin.copy_,run_underlying hu,Builtin.lenOf,sizeOf,typeInfo,hi,hm,Builtin.firstCells,hc,hst]
 unfold Oper.wp execOp;simp only[ho,resolve,invoke,builtin,Sem.run_bind,Sem.run_pure,Result.andThen_ok,List.map_toArray,List.map_cons,List.map_nil,hd,hs,hr];exact hK _ _ (h _)
theorem xorU8(b c:UInt8):bits .xor .u8 (b.toNat:Int) (c.toNat:Int)=((b^^^c).toNat:Int):=by
 rw[u8_xor_nat _ _ b.toNat_lt c.toNat_lt,UInt8.toNat_xor]
def xorTo(c:UInt8)(l:List UInt8)(k:Nat):List UInt8:=(l.take k).map (· ^^^c)++l.drop k
theorem xorTo_length(c:UInt8)(l:List UInt8)(k:Nat):(xorTo c l k).length=l.length:=by simp[xorTo];omega
theorem xorTo_get(c:UInt8)(l:List UInt8)(k:Nat)(h:k<l.length):(byteRow (xorTo c l k))[k]?=some (byteV l[k]):=by
 have h1:k<(xorTo c l k).length:=by rw[xorTo_length];exact h
 rw[byteRow_get _ _ h1];congr 2
 simp[xorTo,List.getElem_append_right,Nat.min_eq_left (Nat.le_of_lt h)]
theorem xorTo_set(c:UInt8)(l:List UInt8)(k:Nat)(h:k<l.length):(byteRow (xorTo c l k)).setIfInBounds k (byteV (l[k]^^^c))=byteRow (xorTo c l (k+1)):=by
 apply Array.ext';rw[Array.toList_setIfInBounds];simp only[byteRow];rw[←List.map_set];congr 1
 have e1:l.drop k=l[k]::l.drop (k+1):=List.drop_eq_getElem_cons h;have e2:l.take (k+1)=l.take k++[l[k]]:=List.take_succ_eq_append_getElem h;have e3:k-((l.take k).map (· ^^^c)).length=0:=by simp;omega
 rw[xorTo,xorTo,e2,e1,List.set_append_right _ _ (by simp;omega),e3,List.set_cons_zero,List.map_append,List.append_assoc];rfl
def padK(n:Nat)(k:List UInt8):List UInt8:=k++List.replicate (n-k.length) 0
def maskL(n:Nat)(c:UInt8)(k:List UInt8):List UInt8:=(padK n k).map (· ^^^c)
theorem ksize_any(a:Int)(w:World):Calls Tryz.prog 88 #[.int .i64 a] w fun e w'=>e=.returned (.int .i64 (if a=256 then 64 else 128))∧w'=w:=by
 by_cases h:a=256
 ·subst h
  go_enter Tryz.func88,Tryz.ntmps88;go_wp2;go_ret;exact⟨rfl,rfl⟩
 ·have e1:(a==256)=false:=by simp[h]
  rw[if_neg h];clear h;go_enter Tryz.func88,Tryz.ntmps88;go_wp2;go_ret;exact⟨rfl,rfl⟩
section
attribute [local go_sem] xorU8
theorem mask_any(k:ByteArray)(n:Nat)(c:UInt8)(w:World)(hk:k.size≤n)(hn:n≤128):Calls Tryz.prog 90 #[.string k,.int .i64 (n:Int),.int .u8 (c.toNat:Int)] w fun e w'=>e=.returned (.string ⟨(maskL n c k.data.toList).toArray⟩)∧Below w.heap.size w w':=by
 obtain⟨i0,hi,hz0,hz1,hz2⟩:=info_parts u8info32;have hmk:∀W:World,(Instr.makeSlice 78 (.int .i64 (n:Int)) (.int .i64 (n:Int))).run Tryz.prog W=.ok (.slice (some ⟨W.heap.size,0,none⟩) n n) (W.alloc (.cells (byteRow (List.replicate n 0)) 5)):=fun W=>by
  have:=run_make (P:=Tryz.prog) W 78 5 i0 (.int .u8 0) Tryz.underlying78 hi hz0 .i64 .i64 (n:Int) (n:Int) (by omega) (by omega) (by rw[hz2];omega) (by omega);rw[hz1,Int.toNat_natCast,made_bytes]at this;exact this
 have hs1:(Tryz.prog.info? 5).map (·.size)=some 1:=by rw[hi];simp[hz1]
 have HS1:Hid _:=hs1;clear hi hz0 hz1 hz2 hs1;generalize hL:k.data.toList++(List.replicate n 0).drop k.size=L;have HL:Hid (k.data.toList++(List.replicate n 0).drop k.size=L):=hL;have hLn:L.length=n:=by rw[←hL];simp;omega
 have HLn:Hid (L.length=n):=hLn;clear hL hLn;go_enter Tryz.func90,Tryz.ntmps90;go_wp2_with (refine wp_copy_str rfl _ _ 78 9 rfl 5 Tryz.underlying78 HS1.out w.heap.size n n 5 (List.replicate n 0) k rfl rfl (by simp) hk (heap_alloc_new _ _) ?_;intro vc;rw[HL.out,World.setRow_alloc_new])
 go_loopw [16] (fun i wr=>∃j:Nat,j≤n∧i=.int .i64 j∧wr.heap[w.heap.size]?=some (.cells (byteRow (xorTo c L j)) 5 (0,0))∧Below w.heap.size w wr) (fun i _=>n-(intOf i).toNat)
 case atStart=>exact⟨0,by omega,rfl,by rw[heap_alloc_new];simp[xorTo],bal (brf _) _⟩
 case round=>
  obtain⟨j,hj,rfl,hg,hb⟩:=hrel;by_cases hlt:j<n
  ·have hl:j<L.length:=by rw[HLn.out];exact hlt
   have hc:wr.cell? ⟨w.heap.size,j,none⟩=some (.int .u8 (L[j].toNat:Int)):=by rw[cell_of_row _ _ _ _ _ _ hg,xorTo_get _ _ _ hl];rfl
   have hf:wr.frozen? ⟨w.heap.size,j,none⟩=false:=frozen_of_row _ _ _ _ _ hg;have HG:Hid _:=hg;clear hg;generalize hx:L[j]=x at hc;have HX:Hid (L[j]=x):=hx;clear hx;have hi1:(j:Int)<(n:Int):=by omega
   go_wp2_with fail
   go_roundw
   case rel=>
    refine⟨j+1,by omega,by go_num,?_,hb.setCell (Nat.le_refl _) _⟩;rw[heap_setCell_same _ _ _ _ _ _ HG.out,←xorTo_set _ _ _ hl,HX.out];rfl
   case measure=>simp[intOf];omega
  ·obtain rfl:j=n:=by omega
   have ho:OwnB w.heap.size 5 (.slice (some ⟨w.heap.size,0,none⟩) (xorTo c L j).length j) (xorTo c L j) wr:=by
    refine .inr ⟨w.heap.size,j,_,(0,0),rfl,Nat.le_refl _,hg,.inl (Nat.zero_le _),?_,?_,?_,?_⟩
    ·rw[xorTo_length,HLn.out];exact Nat.le_refl _
    ·unfold maxLen;omega
    ·rw[byteRow_size,xorTo_length,HLn.out]
    ·rw[List.take_of_length_le (by simp[byteRow])];simp[byteRow]
   rw[xorTo_length,HLn.out]at ho;have hs:=ho.str (P:=Tryz.prog) (t:=78) (d:=9) Tryz.underlying78 Tryz.underlying5 Tryz.underlying9;clear ho hg;generalize hM:xorTo c L j=M at hs;have HM:Hid (xorTo c L j=M):=hM;clear hM;go_wp2;go_ret;refine⟨?_,hb⟩;have e1:maskL j c k.data.toList=M:=by
    have hl:=HLn.out;rw[←HM.out,maskL,xorTo,List.take_of_length_le (by omega),List.drop_of_length_le (by omega),List.append_nil,padK,←HL.out];congr 2
    simp
   rw[e1];rfl
end
def blockN(a:Int):Nat:=if a=256 then 64 else 128
def keyL(sum:List UInt8→List UInt8)(n:Nat)(k:List UInt8):List UInt8:=if n<k.length then sum k else k
def macL(sum:List UInt8→List UInt8)(n:Nat)(k d:List UInt8):List UInt8:=sum (maskL n 92 (keyL sum n k)++sum (maskL n 54 (keyL sum n k)++d))
def codeMac(a:Int)(k d:List UInt8):List UInt8:=if isAlg a=true then macL (codeSum a) (blockN a) k d else []
theorem codeSum_length(a:Int)(l:List UInt8):((codeSum a l).length:Int)=sizeL a:=by
 unfold codeSum sizeL;by_cases h1:a=256
 ·rw[if_pos h1,if_pos h1,writeTo32_length];rfl
 ·rw[if_neg h1,if_neg h1]
  by_cases h2:a=384
  ·rw[if_pos h2,if_pos h2,List.length_take,writeTo64_length];rfl
  ·rw[if_neg h2,if_neg h2]
   by_cases h3:a=512
   ·rw[if_pos h3,if_pos h3,writeTo64_length];rfl
   ·rw[if_neg h3,if_neg h3];rfl
theorem isAlg_cases{a:Int}(h:isAlg a=true):a=256∨a=384∨a=512:=by
 simp[isAlg]at h;omega
theorem sizeL_pos{a:Int}(h:isAlg a=true):0<sizeL a∧sizeL a≤blockN a:=by
 rcases isAlg_cases h with rfl|rfl|rfl<;>decide
theorem sizeL_zero{a:Int}(h:isAlg a=false):sizeL a=0:=by
 simp[isAlg]at h;simp[sizeL,h]
theorem sumx(a:Int)(d:ByteArray)(w:World)(hd:d.size≤140737488355328):Calls Tryz.prog 89 #[.int .i64 a,.string d] w fun e w'=>(∃T:ByteArray,T.data.toList=codeSum a d.data.toList∧e=.returned (.string T))∧Below w.heap.size w w':=
 (sum_any a d w hd).mono fun e w' ⟨he,hb⟩=>⟨⟨_,rfl,he⟩,hb⟩
theorem maskx(k:ByteArray)(n:Nat)(c:UInt8)(w:World)(hk:k.size≤n)(hn:n≤128):Calls Tryz.prog 90 #[.string k,.int .i64 (n:Int),.int .u8 (c.toNat:Int)] w fun e w'=>(∃T:ByteArray,T.data.toList=maskL n c k.data.toList∧e=.returned (.string T))∧Below w.heap.size w w':=
 (mask_any k n c w hk hn).mono fun e w' ⟨he,hb⟩=>⟨⟨_,rfl,he⟩,hb⟩
theorem maskL_length(n:Nat)(c:UInt8)(k:List UInt8)(h:k.length≤n):(maskL n c k).length=n:=by simp[maskL,padK];omega
theorem ksizex(a:Int)(w:World):Calls Tryz.prog 88 #[.int .i64 a] w fun e w'=>e=.returned (.int .i64 (blockN a:Int))∧w'=w:=
 (ksize_any a w).mono fun e w' ⟨he,hw⟩=>⟨by rw[he];unfold blockN;by_cases h:a=256<;>simp[h],hw⟩
theorem mac_none(a:Int)(k d:ByteArray)(w:World)(h:isAlg a=false):Calls Tryz.prog 51 #[.int .i64 a,.string k,.string d] w fun e w'=>e=.returned (.string ⟨#[]⟩)∧w'=w:=by
 have hs:=sizeL_zero h;clear h;go_enter Tryz.func51,Tryz.ntmps51;go_wp2_with (go_at_call 87;refine(size_any a _).mono ?_;rintro e1 w1 ⟨rfl,hw1⟩;rw[hw1,hs];clear hw1 w1)
 go_ret;exact⟨rfl,rfl⟩
theorem mac_short(a:Int)(k d:ByteArray)(w:World)(h:isAlg a=true)(hk:k.size≤blockN a)(hd:d.size≤140737488351232):Calls Tryz.prog 51 #[.int .i64 a,.string k,.string d] w fun e w'=>e=.returned (.string ⟨(macL (codeSum a) (blockN a) k.data.toList d.data.toList).toArray⟩)∧Below w.heap.size w w':=by
 have hs:=sizeL_pos h;have hs0:(sizeL a==0)=false:=by rw[beq_eq_false_iff_ne];omega
 have hn:blockN a≤128:=by unfold blockN;split<;>omega
 have HKL:Hid (keyL (codeSum a) (blockN a) k.data.toList=k.data.toList):=by show keyL _ _ _=_;rw[keyL,if_neg (by simp;omega)]
 have hlen:∀l,((codeSum a l).length:Int)≤128:=fun l=>by rw[codeSum_length];omega
 have HLen:Hid (∀l,((codeSum a l).length:Int)≤128):=hlen;clear h hs hlen;generalize hN:blockN a=n at hk hn HKL;go_enter Tryz.func51,Tryz.ntmps51;go_wp2_with (first|(go_at_call 87;refine(size_any a _).mono ?_;rintro e1 w1 ⟨rfl,hw1⟩;rw[hw1];clear hw1 w1)|(go_at_call 88;refine(ksizex a _).mono ?_;rintro e1 w1 ⟨rfl,hw1⟩;rw[hw1,hN];clear hw1 w1))
 refine(maskx k n 54 _ hk hn).mono ?_;rintro e1 w1 ⟨⟨T1,hT1,rfl⟩,hb1⟩;have h1s:T1.size≤128:=by
  have e:T1.data.toList.length=T1.size:=by simp
  rw[←e,hT1,maskL_length _ _ _ (by simpa using hk)];exact hn
 have HT1:Hid _:=hT1;clear hT1;go_wp2_with fail
 refine(sumx a (T1++d) _ (by simp;omega)).mono ?_;rintro e2 w2 ⟨⟨T2,hT2,rfl⟩,hb2⟩;have h2s:T2.size≤128:=by
  have e:T2.data.toList.length=T2.size:=by simp
  have h:=HLen.out (T1++d).data.toList;rw[←hT2,e]at h;omega
 have HT2:Hid _:=hT2;clear hT2;go_wp2_with fail
 refine(maskx k n 92 _ hk hn).mono ?_;rintro e3 w3 ⟨⟨T3,hT3,rfl⟩,hb3⟩;have h3s:T3.size≤128:=by
  have e:T3.data.toList.length=T3.size:=by simp
  rw[←e,hT3,maskL_length _ _ _ (by simpa using hk)];exact hn
 have HT3:Hid _:=hT3;clear hT3;go_wp2_with fail
 refine(sumx a (T3++T2) _ (by simp;omega)).mono ?_;rintro e4 w4 ⟨⟨T4,hT4,rfl⟩,hb4⟩;have HT4:Hid _:=hT4;clear hT4;go_wp2_with fail
 go_ret;have B1:=hb1.trans (hb2.mono hb1.size);have B2:=B1.trans (hb3.mono B1.size);have B3:=B2.trans (hb4.mono B2.size);refine⟨?_,B3⟩;show Ending.returned (.string T4)=_
 have e1:T4=⟨(macL (codeSum a) n k.data.toList d.data.toList).toArray⟩:=by
  apply Go.WideShapes.bytes_inj;rw[HT4.out,macL,HKL.out];simp[HT3.out,HT2.out,HT1.out]
 rw[e1]
theorem mac_long(a:Int)(k d:ByteArray)(w:World)(h:isAlg a=true)(hk:blockN a<k.size)(hkk:k.size≤140737488355328)(hd:d.size≤140737488351232):Calls Tryz.prog 51 #[.int .i64 a,.string k,.string d] w fun e w'=>e=.returned (.string ⟨(macL (codeSum a) (blockN a) k.data.toList d.data.toList).toArray⟩)∧Below w.heap.size w w':=by
 have hs:=sizeL_pos h;have hs0:(sizeL a==0)=false:=by rw[beq_eq_false_iff_ne];omega
 have hn:blockN a≤128:=by unfold blockN;split<;>omega
 have HKL:Hid (keyL (codeSum a) (blockN a) k.data.toList=codeSum a k.data.toList):=by show keyL _ _ _=_;rw[keyL,if_pos (by simp;omega)]
 have hlen:∀l,((codeSum a l).length:Int)≤128:=fun l=>by rw[codeSum_length];omega
 have hln:∀l,(codeSum a l).length≤blockN a:=fun l=>by have:=codeSum_length a l;omega
 have HLen:Hid (∀l,((codeSum a l).length:Int)≤128):=hlen;have HLn:Hid (∀l,(codeSum a l).length≤blockN a):=hln;clear h hs hlen hln;generalize hN:blockN a=n at hk hn HKL HLn;go_enter Tryz.func51,Tryz.ntmps51;go_wp2_with (first|(go_at_call 87;refine(size_any a _).mono ?_;rintro e1 w1 ⟨rfl,hw1⟩;rw[hw1];clear hw1 w1)|(go_at_call 88;refine(ksizex a _).mono ?_;rintro e1 w1 ⟨rfl,hw1⟩;rw[hw1,hN];clear hw1 w1))
 refine(sumx a k _ hkk).mono ?_;rintro e0 w0 ⟨⟨T0,hT0,rfl⟩,hb0⟩;have h0s:T0.size≤n:=by
  have e:T0.data.toList.length=T0.size:=by simp
  have h:=HLn.out k.data.toList;rw[←hT0,e]at h;omega
 have HT0:Hid _:=hT0;clear hT0;go_wp2_with fail
 refine(maskx T0 n 54 _ h0s hn).mono ?_;rintro e1 w1 ⟨⟨T1,hT1,rfl⟩,hb1⟩;have h1s:T1.size≤128:=by
  have e:T1.data.toList.length=T1.size:=by simp
  rw[←e,hT1,maskL_length _ _ _ (by simpa using h0s)];exact hn
 have HT1:Hid _:=hT1;clear hT1;go_wp2_with fail
 refine(sumx a (T1++d) _ (by simp;omega)).mono ?_;rintro e2 w2 ⟨⟨T2,hT2,rfl⟩,hb2⟩;have h2s:T2.size≤128:=by
  have e:T2.data.toList.length=T2.size:=by simp
  have h:=HLen.out (T1++d).data.toList;rw[←hT2,e]at h;omega
 have HT2:Hid _:=hT2;clear hT2;go_wp2_with fail
 refine(maskx T0 n 92 _ h0s hn).mono ?_;rintro e3 w3 ⟨⟨T3,hT3,rfl⟩,hb3⟩;have h3s:T3.size≤128:=by
  have e:T3.data.toList.length=T3.size:=by simp
  rw[←e,hT3,maskL_length _ _ _ (by simpa using h0s)];exact hn
 have HT3:Hid _:=hT3;clear hT3;go_wp2_with fail
 refine(sumx a (T3++T2) _ (by simp;omega)).mono ?_;rintro e4 w4 ⟨⟨T4,hT4,rfl⟩,hb4⟩;have HT4:Hid _:=hT4;clear hT4;go_wp2_with fail
 go_ret;have B0:=hb0.trans (hb1.mono hb0.size);have B1:=B0.trans (hb2.mono B0.size);have B2:=B1.trans (hb3.mono B1.size);have B3:=B2.trans (hb4.mono B2.size);refine⟨?_,B3⟩;show Ending.returned (.string T4)=_
 have e1:T4=⟨(macL (codeSum a) n k.data.toList d.data.toList).toArray⟩:=by
  apply Go.WideShapes.bytes_inj;rw[HT4.out,macL,HKL.out];simp[HT3.out,HT2.out,HT1.out,HT0.out]
 rw[e1]
theorem mac_any(a:Int)(k d:ByteArray)(w:World)(hkk:k.size≤140737488355328)(hd:d.size≤140737488351232):Calls Tryz.prog 51 #[.int .i64 a,.string k,.string d] w fun e w'=>e=.returned (.string ⟨(codeMac a k.data.toList d.data.toList).toArray⟩)∧Below w.heap.size w w':=by
 unfold codeMac;cases h:isAlg a with
 | false=>exact(mac_none a k d w h).mono fun e w' ⟨he,hw⟩=>⟨he,by rw[hw];exact brf w⟩
 | true=>
   rw[if_pos rfl];by_cases hk:blockN a<k.size
   ·exact mac_long a k d w h hk hkk hd
   ·exact mac_short a k d w h (by omega) hd
theorem rsize_any(a:Int)(w:World):Calls Tryz.prog 91 #[.int .i64 a] w fun e w'=>e=.returned (.int .i64 (sizeL a))∧w'=w:=by
 by_cases h1:a=256
 ·subst h1
  go_enter Tryz.func91,Tryz.ntmps91;go_wp2;go_ret;exact⟨rfl,rfl⟩
 by_cases h2:a=384
 ·subst h2
  go_enter Tryz.func91,Tryz.ntmps91;go_wp2;go_ret;exact⟨rfl,rfl⟩
 by_cases h3:a=512
 ·subst h3
  go_enter Tryz.func91,Tryz.ntmps91;go_wp2;go_ret;exact⟨rfl,rfl⟩
 ·have e1:(a==256)=false:=by simp[h1]
  have e2:(a==384)=false:=by simp[h2]
  have e3:(a==512)=false:=by simp[h3]
  have HS:Hid (sizeL a=0):=by show sizeL a=0;simp[sizeL,h1,h2,h3]
  clear h1 h2 h3;go_enter Tryz.func91,Tryz.ntmps91;go_wp2;go_ret;exact⟨by rw[HS.out];rfl,rfl⟩
theorem keyL_sum(a:Int)(k:List UInt8)(h:isAlg a=true):keyL (codeSum a) (blockN a) (codeSum a k)=codeSum a k:=by
 rw[keyL,if_neg];have h1:=codeSum_length a k;have h2:=sizeL_pos h;omega
theorem mac_of_sum(a:Int)(k d:List UInt8)(h:isAlg a=true)(hk:blockN a<k.length):codeMac a (codeSum a k) d=codeMac a k d:=by
 unfold codeMac macL;rw[if_pos h,if_pos h,keyL_sum a k h];rw[keyL,if_pos hk]
theorem padK_zeros(n z:Nat)(k:List UInt8)(h:k.length+z≤n):padK n (k++List.replicate z 0)=padK n k:=by
 unfold padK;rw[List.append_assoc,List.replicate_append_replicate];congr 2
 simp;omega
theorem mac_of_zeros(a:Int)(k d:List UInt8)(z:Nat)(h:k.length+z≤blockN a):codeMac a (k++List.replicate z 0) d=codeMac a k d:=by
 have h1:keyL (codeSum a) (blockN a) (k++List.replicate z 0)=k++List.replicate z 0:=by rw[keyL,if_neg (by simp;omega)]
 have h2:keyL (codeSum a) (blockN a) k=k:=by rw[keyL,if_neg (by omega)]
 unfold codeMac macL;rw[h1,h2];unfold maskL;rw[padK_zeros _ _ _ h]
theorem mac_length(a:Int)(k d:List UInt8)(h:isAlg a=true):((codeMac a k d).length:Int)=sizeL a:=by
 unfold codeMac macL;rw[if_pos h,codeSum_length]
theorem sizeL_div{a:Int}(h:isAlg a=true):sizeL a=a/8:=by
 rcases isAlg_cases h with rfl|rfl|rfl<;>rfl
theorem rsum_none(a:Int)(d:ByteArray)(w:World)(h:sizeL a=0):Calls Tryz.prog 94 #[.int .i64 a,.string d] w fun e w'=>e=.returned (.string ⟨#[]⟩)∧Below w.heap.size w w':=by
 go_enter Tryz.func94,Tryz.ntmps94;go_wp2_with (go_at_call 91;refine(rsize_any a _).mono ?_;rintro e1 w1 ⟨rfl,hw1⟩;rw[hw1,h];clear hw1 w1)
 go_ret;exact⟨rfl,brf w⟩
theorem rsum_any(a:Int)(d:ByteArray)(w:World)(hd:d.size≤140737488355328):Calls Tryz.prog 94 #[.int .i64 a,.string d] w fun e w'=>e=.returned (.string ⟨(codeSum a d.data.toList).toArray⟩)∧Below w.heap.size w w':=by
 unfold codeSum;by_cases h1:a=256
 ·subst h1
  rw[if_pos rfl];refine(rsum32 256 32 s256 (rsize_any 256) (by omega) (by omega) way256 d w hd).mono ?_;rintro e w' ⟨rfl,hb⟩;refine⟨?_,hb⟩;rw[refS32_eq,List.take_of_length_le (by rw[writeTo32_length];omega)]
 ·rw[if_neg h1]
  by_cases h2:a=384
  ·subst h2
   rw[if_pos rfl];refine(rsum64 384 48 s384 (rsize_any 384) (by omega) (by omega) way384 d w hd).mono ?_;rintro e w' ⟨rfl,hb⟩;refine⟨?_,hb⟩;rw[refS64_eq]
  ·rw[if_neg h2]
   by_cases h3:a=512
   ·subst h3
    rw[if_pos rfl];refine(rsum64 512 64 s512 (rsize_any 512) (by omega) (by omega) way512 d w hd).mono ?_;rintro e w' ⟨rfl,hb⟩;refine⟨?_,hb⟩;rw[refS64_eq,List.take_of_length_le (by rw[writeTo64_length];omega)]
   ·rw[if_neg h3]
    exact rsum_none a d w (by simp[sizeL,h1,h2,h3])
theorem xorI(b c:UInt8):bits .xor .i64 (b.toNat:Int) (c.toNat:Int)=((b^^^c).toNat:Int):=by
 have h1:=b.toNat_lt;have h2:=c.toNat_lt;have e:∀u:UInt8,((u.toNat:Nat):Int)=eS (BitVec.ofNat 64 u.toNat):=by
  intro u;have hu:=u.toNat_lt;unfold eS;rw[BitVec.toInt_eq_toNat_cond,BitVec.toNat_ofNat];split<;>omega
 rw[e b,e c,xorS,e (b^^^c)];congr 1
 apply BitVec.eq_of_toNat_eq;rw[BitVec.toNat_xor,BitVec.toNat_ofNat,BitVec.toNat_ofNat,BitVec.toNat_ofNat,UInt8.toNat_xor,Nat.mod_eq_of_lt (by omega),Nat.mod_eq_of_lt (by omega),Nat.mod_eq_of_lt];exact Nat.lt_of_lt_of_le (Nat.xor_lt_two_pow (n:=8) h1 h2) (by omega)
theorem xorIb(b c:UInt8):bits .xor .i64 (b.toNat:Int) (c.toNat:Int)%256=((b^^^c).toNat:Int):=by
 rw[xorI];have h:=(b^^^c).toNat_lt;omega
theorem xorIw(b c:UInt8):bits .xor .i64 (wrap64 (b.toNat:Int)) (c.toNat:Int)%256=((b^^^c).toNat:Int):=by
 have h:=b.toNat_lt;rw[show wrap64 (b.toNat:Int)=(b.toNat:Int)from by unfold wrap64;omega,xorIb]
def veilTo(c:UInt8)(l:List UInt8)(j:Nat):List UInt8:=(l.take j).map (· ^^^c)++List.replicate (l.length-j) 0
theorem veilTo_length(c:UInt8)(l:List UInt8)(j:Nat)(h:j≤l.length):(veilTo c l j).length=l.length:=by simp[veilTo];omega
theorem veilTo_get(c:UInt8)(l:List UInt8)(j:Nat)(h:j<l.length):(byteRow (veilTo c l j))[j]?=some (.int .u8 0):=by
 have h1:j<(veilTo c l j).length:=by rw[veilTo_length _ _ _ (by omega)];exact h
 rw[byteRow_get _ _ h1];have e:(veilTo c l j)[j]=0:=by simp[veilTo,List.getElem_append_right,Nat.min_eq_left (Nat.le_of_lt h)]
 rw[e];rfl
theorem veilTo_set(c:UInt8)(l:List UInt8)(j:Nat)(h:j<l.length):(byteRow (veilTo c l j)).setIfInBounds j (byteV (l[j]^^^c))=byteRow (veilTo c l (j+1)):=by
 apply Array.ext';rw[Array.toList_setIfInBounds];simp only[byteRow];rw[←List.map_set];congr 1
 have e1:List.replicate (l.length-j) (0:UInt8)=0::List.replicate (l.length-(j+1)) 0:=by
  rw[←List.replicate_succ];congr 1;omega
 have e2:l.take (j+1)=l.take j++[l[j]]:=List.take_succ_eq_append_getElem h;have e3:j-((l.take j).map (· ^^^c)).length=0:=by simp;omega
 rw[veilTo,veilTo,e2,e1,List.set_append_right _ _ (by simp;omega),e3,List.set_cons_zero,List.map_append,List.append_assoc];rfl
theorem veiled_any(s:ByteArray)(c:UInt8)(w:World)(hn:s.size≤128):Calls Tryz.prog 95 #[.string s,.int .i64 (c.toNat:Int)] w fun e w'=>(∃T:ByteArray,T.data.toList=s.data.toList.map (· ^^^c)∧e=.returned (.string T))∧Below w.heap.size w w':=by
 obtain⟨i0,hi,hz0,hz1,hz2⟩:=info_parts u8info32;obtain⟨n,hN⟩:∃n,s.size=n:=⟨_,rfl⟩;have hmk:∀W:World,(Instr.makeSlice 78 (.int .i64 (s.size:Int)) (.int .i64 (s.size:Int))).run Tryz.prog W=.ok (.slice (some ⟨W.heap.size,0,none⟩) n n) (W.alloc (.cells (byteRow (List.replicate n 0)) 5)):=fun W=>by
  have:=run_make (P:=Tryz.prog) W 78 5 i0 (.int .u8 0) Tryz.underlying78 hi hz0 .i64 .i64 (n:Int) (n:Int) (by omega) (by omega) (by rw[hz2];omega) (by omega);rw[hz1,Int.toNat_natCast,made_bytes]at this;rw[hN];exact this
 clear hi hz0 hz1 hz2;have hLn:s.data.toList.length=n:=by rw[←hN];simp
 have HN:Hid (s.size=n):=hN;have HLn:Hid (s.data.toList.length=n):=hLn;clear hLn hN;go_enter Tryz.func95,Tryz.ntmps95;go_wp2_with fail
 go_loopw [6] (fun i wr=>∃j:Nat,j≤n∧i=.int .i64 j∧wr.heap[w.heap.size]?=some (.cells (byteRow (veilTo c s.data.toList j)) 5 (0,0))∧Below w.heap.size w wr) (fun i _=>n-(intOf i).toNat)
 case atStart=>exact⟨0,by omega,rfl,by rw[heap_alloc_new];simp[veilTo,HLn.out],bal (brf _) _⟩
 case round=>
  obtain⟨j,hj,rfl,hg,hb⟩:=hrel;by_cases hlt:j<n
  ·have hl:j<s.data.toList.length:=by rw[HLn.out];exact hlt
   have hc:wr.cell? ⟨w.heap.size,j,none⟩=some (.int .u8 0):=by rw[cell_of_row _ _ _ _ _ _ hg,veilTo_get _ _ _ hl]
   have hf:wr.frozen? ⟨w.heap.size,j,none⟩=false:=frozen_of_row _ _ _ _ _ hg;have HG:Hid _:=hg;clear hg;have hi1:(j:Int)<(s.size:Int):=by have:=HN.out;omega
   have hi2:(0:Int)≤(j:Int):=by omega
   have hi3:j<s.size:=by have:=HN.out;omega
   have hi4:(j:Int)<(n:Int):=by omega
   go_wp2_with fail
   refine⟨⟨j+1,by omega,by go_num,?_,hb.setCell (Nat.le_refl _) _⟩,by simp[intOf];omega⟩;rw[heap_setCell_same _ _ _ _ _ _ HG.out,←veilTo_set _ _ _ hl,xorIw];rfl
  ·obtain rfl:j=n:=by omega
   have hi5:¬(j:Int)<(s.size:Int):=by have:=HN.out;omega
   have ho:OwnB w.heap.size 5 (.slice (some ⟨w.heap.size,0,none⟩) (veilTo c s.data.toList j).length j) (veilTo c s.data.toList j) wr:=by
    refine .inr ⟨w.heap.size,j,_,(0,0),rfl,Nat.le_refl _,hg,.inl (Nat.zero_le _),?_,?_,?_,?_⟩
    ·rw[veilTo_length _ _ _ (by rw[HLn.out];omega),HLn.out];exact Nat.le_refl _
    ·have:=HN.out;unfold maxLen;omega
    ·rw[byteRow_size,veilTo_length _ _ _ (by rw[HLn.out];omega),HLn.out]
    ·rw[List.take_of_length_le (by simp[byteRow])];simp[byteRow]
   rw[veilTo_length _ _ _ (by rw[HLn.out];omega),HLn.out]at ho;have hs:=ho.str (P:=Tryz.prog) (t:=78) (d:=9) Tryz.underlying78 Tryz.underlying5 Tryz.underlying9;clear ho hg;generalize hM:veilTo c s.data.toList j=M at hs;have HM:Hid (veilTo c s.data.toList j=M):=hM;clear hM;go_wp2_with fail
   go_ret;refine⟨⟨_,?_,rfl⟩,hb⟩;show M=_
   rw[←HM.out,veilTo,List.take_of_length_le (by rw[HLn.out];omega),HLn.out];simp
theorem rsumx(a:Int)(d:ByteArray)(w:World)(hd:d.size≤140737488355328):Calls Tryz.prog 94 #[.int .i64 a,.string d] w fun e w'=>(∃T:ByteArray,T.data.toList=codeSum a d.data.toList∧e=.returned (.string T))∧Below w.heap.size w w':=
 (rsum_any a d w hd).mono fun e w' ⟨he,hb⟩=>⟨⟨_,rfl,he⟩,hb⟩
theorem list_size(T:ByteArray):T.data.toList.length=T.size:=by simp
theorem size_list(L:List UInt8):(⟨L.toArray⟩:ByteArray).size=L.length:=by show L.toArray.size=_;simp
theorem macL_eq(sum:List UInt8→List UInt8)(n:Nat)(k d K L:List UInt8)(hK:keyL sum n k=K)(hL:L=K++List.replicate (n-K.length) 0):macL sum n k d=sum (L.map (· ^^^92)++sum (L.map (· ^^^54)++d)):=by
 unfold macL maskL padK;rw[hK,hL]
theorem rmac_none(a:Int)(k d:ByteArray)(w:World)(h:isAlg a=false):Calls Tryz.prog 55 #[.int .i64 a,.string k,.string d] w fun e w'=>e=.returned (.string ⟨#[]⟩)∧w'=w:=by
 have hs:=sizeL_zero h;clear h;go_enter Tryz.func55,Tryz.ntmps55;go_wp2_with (go_at_call 91;refine(rsize_any a _).mono ?_;rintro e1 w1 ⟨rfl,hw1⟩;rw[hw1,hs];clear hw1 w1)
 go_ret;exact⟨rfl,rfl⟩
theorem rmac_256s(a:Int)(k d:ByteArray)(w:World)(h:isAlg a=true)(ha:(a==256)=true)(hN:blockN a=64)(hk:k.size≤64)(hkk:k.size≤140737488355328)(hd:d.size≤140737488351232):Calls Tryz.prog 55 #[.int .i64 a,.string k,.string d] w fun e w'=>e=.returned (.string ⟨(macL (codeSum a) 64 k.data.toList d.data.toList).toArray⟩)∧Below w.heap.size w w':=by
 have hs:=sizeL_pos h;have hs0:(sizeL a==0)=false:=by rw[beq_eq_false_iff_ne];omega
 have hlen:∀T:ByteArray,∀l,T.data.toList=codeSum a l→T.size≤64:=fun T l e=>by have:=codeSum_length a l;rw[←e,list_size]at this;omega
 have HLen:Hid _:=hlen;clear h hs hlen hN;have hi0:(k.size:Int)≤64:=by omega
 go_enter Tryz.func55,Tryz.ntmps55;go_wp2_with (go_at_call 91;refine(rsize_any a _).mono ?_;rintro e1 w1 ⟨rfl,hw1⟩;rw[hw1];clear hw1 w1)
 obtain⟨K0,hK0⟩:∃K0,K0=k:=⟨_,rfl⟩;obtain⟨w0,hw0⟩:∃w0,w0=w:=⟨_,rfl⟩;have hk0:K0.size≤64:=by rw[hK0];exact hk
 have HK:Hid (keyL (codeSum a) 64 k.data.toList=K0.data.toList):=by show keyL _ _ _=_;rw[keyL,if_neg (by rw[list_size];omega),hK0]
 have HB0:Hid (Below w.heap.size w w0):=by rw[hw0];exact brf w
 have HE:Hid (K0=k∧w0=w):=⟨hK0,hw0⟩;clear hkk hK0 hw0;go_loopw [1] (fun v wr=>∃j:Nat,j≤64-K0.size∧v=.string ⟨(K0.data.toList++List.replicate j 0).toArray⟩∧wr=w0) (fun v _=>64-(match v with| .string s=>s.size|_=>0))
 case atStart=>exact⟨0,by omega,by rw[HE.out.1];simp,HE.out.2.symm⟩
 case round=>
  obtain⟨j,hj,rfl,hw⟩:=hrel;subst hw;have hLl:(K0.data.toList++List.replicate j 0).length=K0.size+j:=by simp
  generalize hL:K0.data.toList++List.replicate j 0=L at hLl;have HL:Hid (K0.data.toList++List.replicate j 0=L):=hL;clear hL;by_cases hlt:j<64-K0.size
  ·have hi1:(L.length:Int)<64:=by omega
   have hi2:L.length+1≤9223372036854775807:=by omega
   have HLl:Hid _:=hLl;clear hLl;go_wp2_with fail
   have ea:(⟨L.toArray⟩++⟨#[0]⟩:ByteArray)=⟨(K0.data.toList++List.replicate (j+1) 0).toArray⟩:=by rw[List.replicate_succ',←List.append_assoc,HL.out];exact str_app L [0]
   refine⟨⟨j+1,by omega,by rw[ea],trivial⟩,?_⟩;show 64-(⟨L.toArray⟩++⟨#[0]⟩:ByteArray).size<64-(⟨L.toArray⟩:ByteArray).size
   rw[show(⟨L.toArray⟩++⟨#[0]⟩:ByteArray)=_ from str_app L [0],size_list,size_list,List.length_append];show 64-(L.length+1)<64-L.length
   omega
  ·have hLn:L.length=64:=by omega
   have hi1:¬(L.length:Int)<64:=by omega
   have HLe:Hid (L=K0.data.toList++List.replicate (64-K0.data.toList.length) 0):=by show L=_;rw[←HL.out,list_size];congr 2;omega
   have HLn:Hid (L.length=64):=hLn;clear hLn hLl;go_wp2_with fail
   refine(veiled_any ⟨L.toArray⟩ 54 _ (by rw[size_list,HLn.out];omega)).mono ?_;rintro e1 w1 ⟨⟨T1,hT1,rfl⟩,hb1⟩;have h1s:T1.size≤128:=by rw[←list_size,hT1,List.length_map];show L.length≤128;rw[HLn.out];omega
   have HT1:Hid _:=hT1;clear hT1;go_wp2_with fail
   refine(rsumx a (T1++d) _ (by simp;omega)).mono ?_;rintro e2 w2 ⟨⟨T2,hT2,rfl⟩,hb2⟩;have h2s:=HLen.out T2 _ hT2;have HT2:Hid _:=hT2;clear hT2;go_wp2_with fail
   refine(veiled_any ⟨L.toArray⟩ 92 _ (by rw[size_list,HLn.out];omega)).mono ?_;rintro e3 w3 ⟨⟨T3,hT3,rfl⟩,hb3⟩;have h3s:T3.size≤128:=by rw[←list_size,hT3,List.length_map];show L.length≤128;rw[HLn.out];omega
   have HT3:Hid _:=hT3;clear hT3;go_wp2_with fail
   refine(rsumx a (T3++T2) _ (by simp;omega)).mono ?_;rintro e4 w4 ⟨⟨T4,hT4,rfl⟩,hb4⟩;have HT4:Hid _:=hT4;clear hT4;go_wp2_with fail
   go_ret;have B0:=HB0.out.trans (hb1.mono HB0.out.size);have B1:=B0.trans (hb2.mono B0.size);have B2:=B1.trans (hb3.mono B1.size);have B3:=B2.trans (hb4.mono B2.size);refine⟨?_,B3⟩;show Ending.returned (.string T4)=_
   have e1:T4=⟨(macL (codeSum a) 64 k.data.toList d.data.toList).toArray⟩:=by
    apply Go.WideShapes.bytes_inj;rw[HT4.out,macL_eq _ _ _ _ _ _ HK.out HLe.out];simp[HT3.out,HT2.out,HT1.out]
   rw[e1]
theorem rmac_256l(a:Int)(k d:ByteArray)(w:World)(h:isAlg a=true)(ha:(a==256)=true)(hN:blockN a=64)(hk:64<k.size)(hkk:k.size≤140737488355328)(hd:d.size≤140737488351232):Calls Tryz.prog 55 #[.int .i64 a,.string k,.string d] w fun e w'=>e=.returned (.string ⟨(macL (codeSum a) 64 k.data.toList d.data.toList).toArray⟩)∧Below w.heap.size w w':=by
 have hs:=sizeL_pos h;have hs0:(sizeL a==0)=false:=by rw[beq_eq_false_iff_ne];omega
 have hlen:∀T:ByteArray,∀l,T.data.toList=codeSum a l→T.size≤64:=fun T l e=>by have:=codeSum_length a l;rw[←e,list_size]at this;omega
 have HLen:Hid _:=hlen;clear h hs hlen hN;have hi0:(64:Int)<(k.size:Int):=by omega
 go_enter Tryz.func55,Tryz.ntmps55;go_wp2_with (go_at_call 91;refine(rsize_any a _).mono ?_;rintro e1 w1 ⟨rfl,hw1⟩;rw[hw1];clear hw1 w1)
 refine(rsumx a k _ hkk).mono ?_;rintro e0 w0 ⟨⟨K0,hK0,rfl⟩,hb0⟩;have hk0:K0.size≤64:=HLen.out K0 _ hK0;have HK:Hid (keyL (codeSum a) 64 k.data.toList=K0.data.toList):=by show keyL _ _ _=_;rw[keyL,if_pos (by rw[list_size];exact hk),hK0]
 have HB0:Hid _:=hb0;clear hb0 hK0 hk hkk hi0;go_wp2_with fail
 go_loopw [1] (fun v wr=>∃j:Nat,j≤64-K0.size∧v=.string ⟨(K0.data.toList++List.replicate j 0).toArray⟩∧wr=w0) (fun v _=>64-(match v with| .string s=>s.size|_=>0))
 case atStart=>exact⟨0,by omega,by simp,rfl⟩
 case round=>
  obtain⟨j,hj,rfl,hw⟩:=hrel;subst hw;have hLl:(K0.data.toList++List.replicate j 0).length=K0.size+j:=by simp
  generalize hL:K0.data.toList++List.replicate j 0=L at hLl;have HL:Hid (K0.data.toList++List.replicate j 0=L):=hL;clear hL;by_cases hlt:j<64-K0.size
  ·have hi1:(L.length:Int)<64:=by omega
   have hi2:L.length+1≤9223372036854775807:=by omega
   have HLl:Hid _:=hLl;clear hLl;go_wp2_with fail
   have ea:(⟨L.toArray⟩++⟨#[0]⟩:ByteArray)=⟨(K0.data.toList++List.replicate (j+1) 0).toArray⟩:=by rw[List.replicate_succ',←List.append_assoc,HL.out];exact str_app L [0]
   refine⟨⟨j+1,by omega,by rw[ea],trivial⟩,?_⟩;show 64-(⟨L.toArray⟩++⟨#[0]⟩:ByteArray).size<64-(⟨L.toArray⟩:ByteArray).size
   rw[show(⟨L.toArray⟩++⟨#[0]⟩:ByteArray)=_ from str_app L [0],size_list,size_list,List.length_append];show 64-(L.length+1)<64-L.length
   omega
  ·have hLn:L.length=64:=by omega
   have hi1:¬(L.length:Int)<64:=by omega
   have HLe:Hid (L=K0.data.toList++List.replicate (64-K0.data.toList.length) 0):=by show L=_;rw[←HL.out,list_size];congr 2;omega
   have HLn:Hid (L.length=64):=hLn;clear hLn hLl;go_wp2_with fail
   refine(veiled_any ⟨L.toArray⟩ 54 _ (by rw[size_list,HLn.out];omega)).mono ?_;rintro e1 w1 ⟨⟨T1,hT1,rfl⟩,hb1⟩;have h1s:T1.size≤128:=by rw[←list_size,hT1,List.length_map];show L.length≤128;rw[HLn.out];omega
   have HT1:Hid _:=hT1;clear hT1;go_wp2_with fail
   refine(rsumx a (T1++d) _ (by simp;omega)).mono ?_;rintro e2 w2 ⟨⟨T2,hT2,rfl⟩,hb2⟩;have h2s:=HLen.out T2 _ hT2;have HT2:Hid _:=hT2;clear hT2;go_wp2_with fail
   refine(veiled_any ⟨L.toArray⟩ 92 _ (by rw[size_list,HLn.out];omega)).mono ?_;rintro e3 w3 ⟨⟨T3,hT3,rfl⟩,hb3⟩;have h3s:T3.size≤128:=by rw[←list_size,hT3,List.length_map];show L.length≤128;rw[HLn.out];omega
   have HT3:Hid _:=hT3;clear hT3;go_wp2_with fail
   refine(rsumx a (T3++T2) _ (by simp;omega)).mono ?_;rintro e4 w4 ⟨⟨T4,hT4,rfl⟩,hb4⟩;have HT4:Hid _:=hT4;clear hT4;go_wp2_with fail
   go_ret;have B0:=HB0.out.trans (hb1.mono HB0.out.size);have B1:=B0.trans (hb2.mono B0.size);have B2:=B1.trans (hb3.mono B1.size);have B3:=B2.trans (hb4.mono B2.size);refine⟨?_,B3⟩;show Ending.returned (.string T4)=_
   have e1:T4=⟨(macL (codeSum a) 64 k.data.toList d.data.toList).toArray⟩:=by
    apply Go.WideShapes.bytes_inj;rw[HT4.out,macL_eq _ _ _ _ _ _ HK.out HLe.out];simp[HT3.out,HT2.out,HT1.out]
   rw[e1]
theorem rmac_512s(a:Int)(k d:ByteArray)(w:World)(h:isAlg a=true)(ha:(a==256)=false)(hN:blockN a=128)(hk:k.size≤128)(hkk:k.size≤140737488355328)(hd:d.size≤140737488351232):Calls Tryz.prog 55 #[.int .i64 a,.string k,.string d] w fun e w'=>e=.returned (.string ⟨(macL (codeSum a) 128 k.data.toList d.data.toList).toArray⟩)∧Below w.heap.size w w':=by
 have hs:=sizeL_pos h;have hs0:(sizeL a==0)=false:=by rw[beq_eq_false_iff_ne];omega
 have hlen:∀T:ByteArray,∀l,T.data.toList=codeSum a l→T.size≤128:=fun T l e=>by have:=codeSum_length a l;rw[←e,list_size]at this;omega
 have HLen:Hid _:=hlen;clear h hs hlen hN;have hi0:(k.size:Int)≤128:=by omega
 go_enter Tryz.func55,Tryz.ntmps55;go_wp2_with (go_at_call 91;refine(rsize_any a _).mono ?_;rintro e1 w1 ⟨rfl,hw1⟩;rw[hw1];clear hw1 w1)
 obtain⟨K0,hK0⟩:∃K0,K0=k:=⟨_,rfl⟩;obtain⟨w0,hw0⟩:∃w0,w0=w:=⟨_,rfl⟩;have hk0:K0.size≤128:=by rw[hK0];exact hk
 have HK:Hid (keyL (codeSum a) 128 k.data.toList=K0.data.toList):=by show keyL _ _ _=_;rw[keyL,if_neg (by rw[list_size];omega),hK0]
 have HB0:Hid (Below w.heap.size w w0):=by rw[hw0];exact brf w
 have HE:Hid (K0=k∧w0=w):=⟨hK0,hw0⟩;clear hkk hK0 hw0;go_loopw [1] (fun v wr=>∃j:Nat,j≤128-K0.size∧v=.string ⟨(K0.data.toList++List.replicate j 0).toArray⟩∧wr=w0) (fun v _=>128-(match v with| .string s=>s.size|_=>0))
 case atStart=>exact⟨0,by omega,by rw[HE.out.1];simp,HE.out.2.symm⟩
 case round=>
  obtain⟨j,hj,rfl,hw⟩:=hrel;subst hw;have hLl:(K0.data.toList++List.replicate j 0).length=K0.size+j:=by simp
  generalize hL:K0.data.toList++List.replicate j 0=L at hLl;have HL:Hid (K0.data.toList++List.replicate j 0=L):=hL;clear hL;by_cases hlt:j<128-K0.size
  ·have hi1:(L.length:Int)<128:=by omega
   have hi2:L.length+1≤9223372036854775807:=by omega
   have HLl:Hid _:=hLl;clear hLl;go_wp2_with fail
   have ea:(⟨L.toArray⟩++⟨#[0]⟩:ByteArray)=⟨(K0.data.toList++List.replicate (j+1) 0).toArray⟩:=by rw[List.replicate_succ',←List.append_assoc,HL.out];exact str_app L [0]
   refine⟨⟨j+1,by omega,by rw[ea],trivial⟩,?_⟩;show 128-(⟨L.toArray⟩++⟨#[0]⟩:ByteArray).size<128-(⟨L.toArray⟩:ByteArray).size
   rw[show(⟨L.toArray⟩++⟨#[0]⟩:ByteArray)=_ from str_app L [0],size_list,size_list,List.length_append];show 128-(L.length+1)<128-L.length
   omega
  ·have hLn:L.length=128:=by omega
   have hi1:¬(L.length:Int)<128:=by omega
   have HLe:Hid (L=K0.data.toList++List.replicate (128-K0.data.toList.length) 0):=by show L=_;rw[←HL.out,list_size];congr 2;omega
   have HLn:Hid (L.length=128):=hLn;clear hLn hLl;go_wp2_with fail
   refine(veiled_any ⟨L.toArray⟩ 54 _ (by rw[size_list,HLn.out];omega)).mono ?_;rintro e1 w1 ⟨⟨T1,hT1,rfl⟩,hb1⟩;have h1s:T1.size≤128:=by rw[←list_size,hT1,List.length_map];show L.length≤128;rw[HLn.out];omega
   have HT1:Hid _:=hT1;clear hT1;go_wp2_with fail
   refine(rsumx a (T1++d) _ (by simp;omega)).mono ?_;rintro e2 w2 ⟨⟨T2,hT2,rfl⟩,hb2⟩;have h2s:=HLen.out T2 _ hT2;have HT2:Hid _:=hT2;clear hT2;go_wp2_with fail
   refine(veiled_any ⟨L.toArray⟩ 92 _ (by rw[size_list,HLn.out];omega)).mono ?_;rintro e3 w3 ⟨⟨T3,hT3,rfl⟩,hb3⟩;have h3s:T3.size≤128:=by rw[←list_size,hT3,List.length_map];show L.length≤128;rw[HLn.out];omega
   have HT3:Hid _:=hT3;clear hT3;go_wp2_with fail
   refine(rsumx a (T3++T2) _ (by simp;omega)).mono ?_;rintro e4 w4 ⟨⟨T4,hT4,rfl⟩,hb4⟩;have HT4:Hid _:=hT4;clear hT4;go_wp2_with fail
   go_ret;have B0:=HB0.out.trans (hb1.mono HB0.out.size);have B1:=B0.trans (hb2.mono B0.size);have B2:=B1.trans (hb3.mono B1.size);have B3:=B2.trans (hb4.mono B2.size);refine⟨?_,B3⟩;show Ending.returned (.string T4)=_
   have e1:T4=⟨(macL (codeSum a) 128 k.data.toList d.data.toList).toArray⟩:=by
    apply Go.WideShapes.bytes_inj;rw[HT4.out,macL_eq _ _ _ _ _ _ HK.out HLe.out];simp[HT3.out,HT2.out,HT1.out]
   rw[e1]
theorem rmac_512l(a:Int)(k d:ByteArray)(w:World)(h:isAlg a=true)(ha:(a==256)=false)(hN:blockN a=128)(hk:128<k.size)(hkk:k.size≤140737488355328)(hd:d.size≤140737488351232):Calls Tryz.prog 55 #[.int .i64 a,.string k,.string d] w fun e w'=>e=.returned (.string ⟨(macL (codeSum a) 128 k.data.toList d.data.toList).toArray⟩)∧Below w.heap.size w w':=by
 have hs:=sizeL_pos h;have hs0:(sizeL a==0)=false:=by rw[beq_eq_false_iff_ne];omega
 have hlen:∀T:ByteArray,∀l,T.data.toList=codeSum a l→T.size≤128:=fun T l e=>by have:=codeSum_length a l;rw[←e,list_size]at this;omega
 have HLen:Hid _:=hlen;clear h hs hlen hN;have hi0:(128:Int)<(k.size:Int):=by omega
 go_enter Tryz.func55,Tryz.ntmps55;go_wp2_with (go_at_call 91;refine(rsize_any a _).mono ?_;rintro e1 w1 ⟨rfl,hw1⟩;rw[hw1];clear hw1 w1)
 refine(rsumx a k _ hkk).mono ?_;rintro e0 w0 ⟨⟨K0,hK0,rfl⟩,hb0⟩;have hk0:K0.size≤128:=HLen.out K0 _ hK0;have HK:Hid (keyL (codeSum a) 128 k.data.toList=K0.data.toList):=by show keyL _ _ _=_;rw[keyL,if_pos (by rw[list_size];exact hk),hK0]
 have HB0:Hid _:=hb0;clear hb0 hK0 hk hkk hi0;go_wp2_with fail
 go_loopw [1] (fun v wr=>∃j:Nat,j≤128-K0.size∧v=.string ⟨(K0.data.toList++List.replicate j 0).toArray⟩∧wr=w0) (fun v _=>128-(match v with| .string s=>s.size|_=>0))
 case atStart=>exact⟨0,by omega,by simp,rfl⟩
 case round=>
  obtain⟨j,hj,rfl,hw⟩:=hrel;subst hw;have hLl:(K0.data.toList++List.replicate j 0).length=K0.size+j:=by simp
  generalize hL:K0.data.toList++List.replicate j 0=L at hLl;have HL:Hid (K0.data.toList++List.replicate j 0=L):=hL;clear hL;by_cases hlt:j<128-K0.size
  ·have hi1:(L.length:Int)<128:=by omega
   have hi2:L.length+1≤9223372036854775807:=by omega
   have HLl:Hid _:=hLl;clear hLl;go_wp2_with fail
   have ea:(⟨L.toArray⟩++⟨#[0]⟩:ByteArray)=⟨(K0.data.toList++List.replicate (j+1) 0).toArray⟩:=by rw[List.replicate_succ',←List.append_assoc,HL.out];exact str_app L [0]
   refine⟨⟨j+1,by omega,by rw[ea],trivial⟩,?_⟩;show 128-(⟨L.toArray⟩++⟨#[0]⟩:ByteArray).size<128-(⟨L.toArray⟩:ByteArray).size
   rw[show(⟨L.toArray⟩++⟨#[0]⟩:ByteArray)=_ from str_app L [0],size_list,size_list,List.length_append];show 128-(L.length+1)<128-L.length
   omega
  ·have hLn:L.length=128:=by omega
   have hi1:¬(L.length:Int)<128:=by omega
   have HLe:Hid (L=K0.data.toList++List.replicate (128-K0.data.toList.length) 0):=by show L=_;rw[←HL.out,list_size];congr 2;omega
   have HLn:Hid (L.length=128):=hLn;clear hLn hLl;go_wp2_with fail
   refine(veiled_any ⟨L.toArray⟩ 54 _ (by rw[size_list,HLn.out];omega)).mono ?_;rintro e1 w1 ⟨⟨T1,hT1,rfl⟩,hb1⟩;have h1s:T1.size≤128:=by rw[←list_size,hT1,List.length_map];show L.length≤128;rw[HLn.out];omega
   have HT1:Hid _:=hT1;clear hT1;go_wp2_with fail
   refine(rsumx a (T1++d) _ (by simp;omega)).mono ?_;rintro e2 w2 ⟨⟨T2,hT2,rfl⟩,hb2⟩;have h2s:=HLen.out T2 _ hT2;have HT2:Hid _:=hT2;clear hT2;go_wp2_with fail
   refine(veiled_any ⟨L.toArray⟩ 92 _ (by rw[size_list,HLn.out];omega)).mono ?_;rintro e3 w3 ⟨⟨T3,hT3,rfl⟩,hb3⟩;have h3s:T3.size≤128:=by rw[←list_size,hT3,List.length_map];show L.length≤128;rw[HLn.out];omega
   have HT3:Hid _:=hT3;clear hT3;go_wp2_with fail
   refine(rsumx a (T3++T2) _ (by simp;omega)).mono ?_;rintro e4 w4 ⟨⟨T4,hT4,rfl⟩,hb4⟩;have HT4:Hid _:=hT4;clear hT4;go_wp2_with fail
   go_ret;have B0:=HB0.out.trans (hb1.mono HB0.out.size);have B1:=B0.trans (hb2.mono B0.size);have B2:=B1.trans (hb3.mono B1.size);have B3:=B2.trans (hb4.mono B2.size);refine⟨?_,B3⟩;show Ending.returned (.string T4)=_
   have e1:T4=⟨(macL (codeSum a) 128 k.data.toList d.data.toList).toArray⟩:=by
    apply Go.WideShapes.bytes_inj;rw[HT4.out,macL_eq _ _ _ _ _ _ HK.out HLe.out];simp[HT3.out,HT2.out,HT1.out]
   rw[e1]
theorem rmac_any(a:Int)(k d:ByteArray)(w:World)(hkk:k.size≤140737488355328)(hd:d.size≤140737488351232):Calls Tryz.prog 55 #[.int .i64 a,.string k,.string d] w fun e w'=>e=.returned (.string ⟨(codeMac a k.data.toList d.data.toList).toArray⟩)∧Below w.heap.size w w':=by
 unfold codeMac;cases h:isAlg a with
 | false=>rw[if_neg (by simp)];exact(rmac_none a k d w h).mono fun e w' ⟨he,hw⟩=>⟨he,by rw[hw];exact brf w⟩
 | true=>
   rw[if_pos rfl];by_cases ha:a=256
   ·have hN:blockN a=64:=by rw[ha];rfl
    rw[hN];by_cases hk:k.size≤64
    ·exact rmac_256s a k d w h (by simp[ha]) hN hk hkk hd
    ·exact rmac_256l a k d w h (by simp[ha]) hN (by omega) hkk hd
   ·have hN:blockN a=128:=by unfold blockN;rw[if_neg ha]
    rw[hN];by_cases hk:k.size≤128
    ·exact rmac_512s a k d w h (by simp[ha]) hN hk hkk hd
    ·exact rmac_512l a k d w h (by simp[ha]) hN (by omega) hkk hd
end Go.Proofs.YtbbopknnoamkbaaGreatDoor.Dg
