import Derived.Laws.BitsAllLaws
import Derived.Laws.Shifts
import Derived.WalkKit
import Derived.Deep.QuietTactic
import Derived.Laws.AppendOwn
import Derived.Laws.BytesArg
import Derived.Laws.IdiomStrings
import Derived.Laws.Rows
import Derived.Laws.Tables
import Derived.Laws.CopyOwn
import Derived.Test.YtaghclgookfmnaaGreatDoorProg
import Derived.WalkSpells
import Derived.WalkLawsBesides
import Derived.BigQuiet
import Derived.Deep.RegionHeld3
import Derived.Deep.AppendSrc
import Derived.Deep.DeepAppendWide
import Derived.Deep.RegionLaw
import Derived.Deep.AppendLies
import Derived.Deep.DeepCutAuto
import Derived.Laws.AppendOwnNone
namespace Go.Proofs.YtaghclgookfmnaaGreatDoor
open Go.RowKit
def eW{b:Nat}(x:BitVec b):Int:=(x.toNat:Int)
theorem eW_nonneg{b:Nat}(x:BitVec b):0≤eW x:=by unfold eW;omega
theorem eW_lt{b:Nat}(x:BitVec b):eW x<2^b:=by
 unfold eW;have:=x.isLt;exact_mod_cast this
theorem ofInt_eW{b:Nat}(x:BitVec b):BitVec.ofInt b (eW x)=x:=by unfold eW;simp
theorem wrap32_eq(n:Int):IntKind.u32.wrap n=eW (BitVec.ofInt 32 n):=by
 rw[IntKind.wrap_u32'];unfold eW;rw[BitVec.toNat_ofInt];omega
theorem wrap64_eq(n:Int):IntKind.u64.wrap n=eW (BitVec.ofInt 64 n):=by
 rw[IntKind.wrap_u64];unfold eW;rw[BitVec.toNat_ofInt];omega
theorem wrap8_eq(n:Int):IntKind.u8.wrap n=eW (BitVec.ofInt 8 n):=by
 rw[IntKind.wrap_u8'];unfold eW;rw[BitVec.toNat_ofInt];omega
theorem wrap32_nat(x:BitVec 32):IntKind.u32.wrap (x.toNat:Int)=eW x:=by
 have:=ofInt_eW x;unfold eW at this;rw[wrap32_eq,this]
theorem wrap64_nat(x:BitVec 64):IntKind.u64.wrap (x.toNat:Int)=eW x:=by
 have:=ofInt_eW x;unfold eW at this;rw[wrap64_eq,this]
theorem wrap8_nat(x:BitVec 8):IntKind.u8.wrap (x.toNat:Int)=eW x:=by
 have:=ofInt_eW x;unfold eW at this;rw[wrap8_eq,this]
theorem and32(x y:BitVec 32):bits .and .u32 (eW x) (eW y)=eW (x&&&y):=by
 show IntKind.u32.wrap ((BitVec.ofInt 32 (eW x)&&&BitVec.ofInt 32 (eW y)).toNat:Int)=_
 rw[ofInt_eW,ofInt_eW,wrap32_nat]
theorem or32(x y:BitVec 32):bits .or .u32 (eW x) (eW y)=eW (x|||y):=by
 show IntKind.u32.wrap ((BitVec.ofInt 32 (eW x)|||BitVec.ofInt 32 (eW y)).toNat:Int)=_
 rw[ofInt_eW,ofInt_eW,wrap32_nat]
theorem xor32(x y:BitVec 32):bits .xor .u32 (eW x) (eW y)=eW (x^^^y):=by
 show IntKind.u32.wrap ((BitVec.ofInt 32 (eW x)^^^BitVec.ofInt 32 (eW y)).toNat:Int)=_
 rw[ofInt_eW,ofInt_eW,wrap32_nat]
theorem and64(x y:BitVec 64):bits .and .u64 (eW x) (eW y)=eW (x&&&y):=by
 show IntKind.u64.wrap ((BitVec.ofInt 64 (eW x)&&&BitVec.ofInt 64 (eW y)).toNat:Int)=_
 rw[ofInt_eW,ofInt_eW,wrap64_nat]
theorem or64(x y:BitVec 64):bits .or .u64 (eW x) (eW y)=eW (x|||y):=by
 show IntKind.u64.wrap ((BitVec.ofInt 64 (eW x)|||BitVec.ofInt 64 (eW y)).toNat:Int)=_
 rw[ofInt_eW,ofInt_eW,wrap64_nat]
theorem xor64(x y:BitVec 64):bits .xor .u64 (eW x) (eW y)=eW (x^^^y):=by
 show IntKind.u64.wrap ((BitVec.ofInt 64 (eW x)^^^BitVec.ofInt 64 (eW y)).toNat:Int)=_
 rw[ofInt_eW,ofInt_eW,wrap64_nat]
theorem xor8(x y:BitVec 8):bits .xor .u8 (eW x) (eW y)=eW (x^^^y):=by
 show IntKind.u8.wrap ((BitVec.ofInt 8 (eW x)^^^BitVec.ofInt 8 (eW y)).toNat:Int)=_
 rw[ofInt_eW,ofInt_eW,wrap8_nat]
theorem not32(x:BitVec 32):bits .xor .u32 IntKind.u32.max (eW x)=eW (~~~x):=by
 show IntKind.u32.wrap ((BitVec.ofInt 32 4294967295^^^BitVec.ofInt 32 (eW x)).toNat:Int)=_
 rw[ofInt_eW,wrap32_nat,show BitVec.ofInt 32 4294967295=BitVec.allOnes 32 from rfl,BitVec.allOnes_xor]
theorem not64(x:BitVec 64):bits .xor .u64 IntKind.u64.max (eW x)=eW (~~~x):=by
 show IntKind.u64.wrap ((BitVec.ofInt 64 18446744073709551615^^^BitVec.ofInt 64 (eW x)).toNat:Int)=_
 rw[ofInt_eW,wrap64_nat,show BitVec.ofInt 64 18446744073709551615=BitVec.allOnes 64 from rfl,BitVec.allOnes_xor]
theorem ofInt_add_eW{b:Nat}(x y:BitVec b):BitVec.ofInt b (eW x+eW y)=x+y:=by
 rw[BitVec.ofInt_add,ofInt_eW,ofInt_eW]
theorem add32(x y:BitVec 32):IntKind.u32.wrap (eW x+eW y)=eW (x+y):=by rw[wrap32_eq,ofInt_add_eW]
theorem add64(x y:BitVec 64):IntKind.u64.wrap (eW x+eW y)=eW (x+y):=by rw[wrap64_eq,ofInt_add_eW]
theorem add32m(x y:BitVec 32):(eW x+eW y)%(4294967296:Int)=eW (x+y):=by rw[←add32,IntKind.wrap_u32']
theorem add64m(x y:BitVec 64):(eW x+eW y)%(18446744073709551616:Int)=eW (x+y):=by rw[←add64,IntKind.wrap_u64]
theorem add32m3(x y z:BitVec 32):(eW x+eW y+eW z)%(4294967296:Int)=eW (x+y+z):=by rw[←add32m,←add32m];omega
theorem add64m3(x y z:BitVec 64):(eW x+eW y+eW z)%(18446744073709551616:Int)=eW (x+y+z):=by rw[←add64m,←add64m];omega
theorem shr_eW{b:Nat}(x:BitVec b)(n:Nat):eW x/2^n=eW (x>>>n):=by
 unfold eW;rw[BitVec.toNat_ushiftRight,Nat.shiftRight_eq_div_pow];have:((2:Int)^n)=((2^n:Nat):Int):=by simp
 rw[this];exact_mod_cast rfl
theorem shr_eW_min{b:Nat}(x:BitVec b)(n:Nat):eW x/2^min n b=eW (x>>>n):=by
 rw[shr_eW];by_cases h:n≤b
 ·rw[Nat.min_eq_left h]
 ·rw[Nat.min_eq_right (by omega)]
  rw[BitVec.ushiftRight_eq_zero (by omega),BitVec.ushiftRight_eq_zero (by omega)]
theorem shl_ofInt{b:Nat}(x:BitVec b)(n:Nat):BitVec.ofInt b (eW x*2^n)=x<<<n:=by
 rw[BitVec.ofInt_mul,ofInt_eW,BitVec.shiftLeft_eq_mul_twoPow];congr 1
 apply BitVec.eq_of_toNat_eq;rw[BitVec.toNat_ofInt,BitVec.toNat_twoPow];have:((2:Int)^n)=((2^n:Nat):Int):=by simp
 rw[this];exact_mod_cast rfl
theorem shl32(x:BitVec 32)(n:Nat):IntKind.u32.wrap (eW x*2^n)=eW (x<<<n):=by rw[wrap32_eq,shl_ofInt]
theorem shl64(x:BitVec 64)(n:Nat):IntKind.u64.wrap (eW x*2^n)=eW (x<<<n):=by rw[wrap64_eq,shl_ofInt]
theorem i64w(n:Int)(h: -9223372036854775808≤n∧n≤9223372036854775807):IntKind.i64.wrap n=n:=by rw[IntKind.wrap_i64];omega
theorem alloc_drewN(w:World)(n:Nat)(o:Obj):(w.drewN n).alloc o=(w.alloc o).drewN n:=rfl
theorem cell2{w:World}{b o:Nat}{v:Value}(h:w.cell? ⟨b,o,none⟩=some v):∀o1 o2,((w.alloc o1).alloc o2).cell? ⟨b,o,none⟩=some v:=fun o1 o2=>by
 have hlt:b<w.heap.size:=World.block_lt_of_cell? w _ h;rw[World.cell?_alloc_lt _ _ _ (by simp;omega),World.cell?_alloc_lt _ _ _ hlt,h]
theorem frozen2{w:World}{b o:Nat}(hlt:b<w.heap.size)(h:w.frozen? ⟨b,o,none⟩=false):∀o1 o2,((w.alloc o1).alloc o2).frozen? ⟨b,o,none⟩=false:=fun o1 o2=>by
 have hb:Below w.heap.size w ((w.alloc o1).alloc o2):=((Below.refl _ _).alloc (Nat.le_refl _) _).alloc (by simp) _;rw[hb.frozen hlt,h]
theorem heap2{w:World}{g:Nat}{o:Obj}(h:w.heap[g]?=some o):∀o1 o2,((w.alloc o1).alloc o2).heap[g]?=some o:=fun o1 o2=>by
 have hlt:g<w.heap.size:=(Array.getElem?_eq_some_iff.1 h).1;have hb:Below w.heap.size w ((w.alloc o1).alloc o2):=((Below.refl _ _).alloc (Nat.le_refl _) _).alloc (by simp) _;rw[hb.block _ hlt,h]
theorem cell3{w:World}{b o:Nat}{v:Value}(h:w.cell? ⟨b,o,none⟩=some v):∀o1 o2 o3,(((w.alloc o1).alloc o2).alloc o3).cell? ⟨b,o,none⟩=some v:=fun o1 o2 o3=>by
 have hlt:b<w.heap.size:=World.block_lt_of_cell? w _ h;rw[World.cell?_alloc_lt _ _ _ (by simp;omega),World.cell?_alloc_lt _ _ _ (by simp;omega),World.cell?_alloc_lt _ _ _ hlt,h]
theorem bal{a w:World}(h:Below a.heap.size a w)(o:Obj):Below a.heap.size a (w.alloc o):=h.alloc h.size o
theorem brf(a:World):Below a.heap.size a a:=Below.refl _ _
theorem bdN{B:Nat}{a w:World}(h:Below B a w)(n:Nat):Below B a (w.drewN n):=⟨h.os,h.tape,h.output,h.size,h.block⟩
theorem b_cell{B:Nat}{w w':World}(h:Below B w w'){b o:Nat}{v:Value}(hb:b<B)(hv:w.cell? ⟨b,o,none⟩=some v):w'.cell? ⟨b,o,none⟩=some v:=(h.cell (p:=⟨b,o,none⟩) hb).trans hv
theorem ret_int{k:IntKind}{a b:Int}(h:a=b):Ending.returned (.int k a)=.returned (.int k b):=by rw[h]
theorem bcell{W w1:World}(hb:Below W.heap.size W w1):(∀b o,b<W.heap.size→w1.cell? ⟨b,o,none⟩=W.cell? ⟨b,o,none⟩)∧(∀b o,b<W.heap.size→w1.frozen? ⟨b,o,none⟩=W.frozen? ⟨b,o,none⟩):=
 ⟨fun b o h=>hb.cell (p:=⟨b,o,none⟩) h,fun b o h=>hb.frozen (p:=⟨b,o,none⟩) h⟩
theorem extract_list(t:ByteArray)(a b:Nat):(t.extract a b).data.toList=(t.data.toList.drop a).take (b-a):=by
 simp[List.extract_eq_take_drop]
def rotr{b:Nat}(x:BitVec b)(n:Nat):BitVec b:=x>>>n|||x<<<(b-n)
set_option linter.unusedVariables false
theorem ushr_min64(x:BitVec 64)(n:Nat):x>>>(min n 64)=x>>>n:=by
 by_cases h:n≤64
 ·rw[Nat.min_eq_left h]
 ·rw[Nat.min_eq_right (by omega),BitVec.ushiftRight_eq_zero (by omega),BitVec.ushiftRight_eq_zero (by omega)]
def byteV(b:UInt8):Value:=.int .u8 (b.toNat:Int)
def OwnB(B:Nat)(e:TypeId)(v:Value)(l:List UInt8)(w:World):Prop:=
 (v=.slice none 0 0∧l=[])∨
 ∃g cap cur fz,v=.slice (some ⟨g,0,none⟩) l.length cap∧B≤g∧w.heap[g]?=some (.cells cur e fz)∧(fz.2≤l.length∨cap≤fz.1)∧l.length≤cap∧cap≤maxLen∧cur.size=cap∧cur.toList.take l.length=l.map byteV
theorem OwnB.below{B C:Nat}{e:TypeId}{v:Value}{l:List UInt8}{w w':World}(h:OwnB B e v l w)(hb:Below C w w')(hC:w.heap.size≤C):OwnB B e v l w':=by
 rcases h with h|⟨g,cap,cur,fz,hv,hB,hg,rest⟩
 ·exact .inl h
 ·refine .inr ⟨g,cap,cur,fz,hv,hB,?_,rest⟩
  have:=(Array.getElem?_eq_some_iff.1 hg).1;rw[hb.block _ (by omega)];exact hg
theorem OwnB.cells{B:Nat}{e:TypeId}{l:List UInt8}{w:World}{g cap:Nat}{cur:Array Value}{fz:Nat×Nat}(hg:w.heap[g]?=some (.cells cur e fz))(ht:cur.toList.take l.length=l.map byteV):∀j u,(l.map byteV)[j]?=some u→w.cell? ((⟨g,0,none⟩:Addr).add j)=some u:=by
 intro j u hu;have hadd:(⟨g,0,none⟩:Addr).add j=⟨g,j,none⟩:=by unfold Addr.add;split<;>simp_all
 rw[hadd,cell_of_row w g j cur e fz hg];rw[←ht,List.getElem?_take]at hu;split at hu
 ·simpa using hu
 ·cases hu
theorem one_cell(w:World)(v:Value)(e:TypeId):∀j u,[v][j]?=some u→(w.alloc (.cells #[v] e)).cell? ((⟨w.heap.size,0,none⟩:Addr).add j)=some u:=by
 intro j u hu;match j,hu with
 | 0,hu=>simp at hu;subst hu;simp[Addr.add]
 | (j+1),hu=>simp at hu
theorem grown_own{P:Program}(W:World)(e:TypeId)(B:Nat)(l:List UInt8)(b:UInt8)(c:Nat)(hB:B≤W.heap.size)(hc:l.length+1≤c)(hm:c≤maxLen):OwnB B e (.slice (some ⟨W.heap.size,0,none⟩) (l.length+1) c) (l++[b]) (W.drew.alloc (.cells ((l.map byteV).toArray++[byteV b].toArray++Builtin.zeroCells (Value.int .u8 0).cells (c-(l.length+1))) e)):=by
 refine .inr ⟨W.heap.size,c,_,(0,0),by simp,hB,heap_alloc_new W.drew _,.inl (Nat.zero_le _),by simpa using hc,hm,?_,?_⟩
 ·have hz1:(Value.int IntKind.u8 0).cells.size=1:=rfl
  simp only[Array.size_append,List.size_toArray,size_zeroCells,hz1,List.length_map,List.length_singleton];omega
 ·have e1:(l++[b]).length=((l.map byteV)++[byteV b]).length:=by simp
  rw[e1];simp only[Array.toList_append];rw[List.take_left];simp
theorem app1{P:Program}(w0:World)(t ty e:TypeId)(i:TypeInfo)(ht:P.underlying t=some (.slice e))(hi:P.info? e=some i)(hz:i.zero=some (.int .u8 0))(hsize:i.size=1)(hby:i.bytes=1)(B:Nat)(v:Value)(l:List UInt8)(b:UInt8)(hown:OwnB B e v l w0)(hB:B≤w0.heap.size)(hlen:l.length+1≤140737488355328):∃v' w',(Builtin.append_ #[t,t] ty #[v,.slice (some ⟨w0.heap.size,0,none⟩) 1 1]).run P (w0.alloc (.cells #[byteV b] e))=.ok v' w'∧OwnB B e v' (l++[b]) w'∧Below B w0 w':=by
 have hW:Below B w0 (w0.alloc (.cells #[byteV b] e)):=(Below.refl _ _).alloc hB _;have hnew:=one_cell w0 (byteV b) e;generalize hWe:w0.alloc (.cells #[byteV b] e)=W at hW hnew;have hsz:W.heap.size=w0.heap.size+1:=by rw[←hWe];simp
 have h63:l.length+1≤maxLen:=by unfold maxLen;omega
 rcases hown with⟨rfl,rfl⟩|⟨g,cap,cur,fz,rfl,hBg,hg,hfz,hlc,hcm,hcs,htk⟩
 ·obtain⟨v',w',r1,r2,r3,_⟩:=run_append_own (P:=P) W B t ty e i (.int .u8 0) 1 1 ht hi hz hsize hby rfl (by decide) (.slice none 0 0) 0 [] ⟨by simp,.inl ⟨rfl,rfl⟩⟩ ⟨w0.heap.size,0,none⟩ 1 1 [byteV b] rfl hnew
   (by intro u hu;simp at hu;subst hu;rfl) (by unfold maxLen;omega) (by omega) (by omega)
  refine⟨v',w',r1,?_,hW.trans ⟨r3.os,r3.tape,r3.output,r3.size,fun k hk=>r3.block k (by omega) (by simp[Value.ownBlock])⟩⟩;rcases r2.2 with⟨_,h0⟩|⟨g,cap,cur,hv,hb,hg,hn,hm,hs,htake⟩
  ·omega
  ·exact .inr ⟨g,cap,cur,(0,0),hv,hb,hg,.inl (Nat.zero_le _),hn,hm,by omega,by simpa using htake⟩
 ·have hgW:W.heap[g]?=some (.cells cur e fz):=by
   rw[←hWe,heap_alloc_old _ _ (Array.getElem?_eq_some_iff.1 hg).1];exact hg
  by_cases hroom:l.length+1≤cap
  ·have hf:=run_firstCells_some (P:=P) W 1 1 ⟨w0.heap.size,0,none⟩ 1 1 [byteV b] rfl hnew
   have hcell:W.cell? ⟨g,l.length,none⟩=some cur[l.length]:=by simp[World.cell?,hgW]
   have hfro:W.frozen? ⟨g,l.length,none⟩=false:=by
    obtain⟨lo,hi'⟩:=fz;simp only[World.frozen?,hgW,Bool.and_eq_false_iff,decide_eq_false_iff_not];simp only at hfz;omega
   have hadd:(⟨g,l.length,none⟩:Addr).add 0=⟨g,l.length,none⟩:=by unfold Addr.add;split<;>simp_all
   have hst:(storeCells ⟨g,l.length,none⟩ [byteV b] 0).run P W=.ok () (W.setRow g (cur.setIfInBounds l.length (byteV b))):=by
    simp only[storeCells,Sem.run_bind,hadd];rw[run_store P W _ (byteV b) _ rfl,hcell];simp[hfro,setCell_eq_setRow W g l.length cur e fz (byteV b) hgW]
   refine⟨.slice (some ⟨g,0,none⟩) (l.length+1) cap,W.setRow g (cur.setIfInBounds l.length (byteV b)),?_,?_,below_setRow hW hBg _⟩
   ·simp[Builtin.append_,run_underlying ht,sizeOf,typeInfo,hi,hsize,Builtin.lenOf,hroom,hf,Addr.add_lit,hst]
   ·refine .inr ⟨g,cap,_,fz,by simp,hBg,setRow_heap W g cur _ e _ hgW,?_,by simpa using hroom,hcm,by simpa using hcs,?_⟩
    ·rcases hfz with h|h
     ·left;simp;omega
     ·exact .inr h
    ·rw[List.length_append,List.length_singleton,Array.toList_setIfInBounds,List.take_succ_eq_append_getElem (by simp;omega)]
     rw[List.take_set_of_le (Nat.le_refl _),htk];simp
  ·have holds:=OwnB.cells (B:=B) (cap:=cap) hgW htk
   have hr:=run_append_grow (P:=P) W t ty e i (.int .u8 0) ht hi hz ⟨g,0,none⟩ l.length cap (l.map byteV) (by rw[hsize];simp) holds ⟨w0.heap.size,0,none⟩ 1 1 [byteV b] (by rw[hsize];rfl) hnew (by omega) (by unfold maxLen at h63;omega)
    (by rw[hby];exact growslice_fits (by omega) (by omega))
   refine⟨_,_,hr,grown_own (P:=P) W e B l b _ (by omega) (grownCap_ge W _ _ e) (grownCap_le_maxLen W _ _ e h63),?_⟩;exact(hW.drew).alloc (by show B≤W.heap.size;omega) _
theorem wp_app1{P:Program}{ops:Array Oper}{rest:List Oper}{o:Oper}{a:Act}{Q:Exit→Act→World→Prop}(hgd:o.guard=none)(s x:Operand)(t:TypeId)(ho:o.op=.call {callee:=.builtin .append,args:= #[s,x],argTypes:= #[t,t]})
 (e:TypeId) (i:TypeInfo) (ht:P.underlying t=some (.slice e)) (hi:P.info? e=some i) (hz:i.zero=some (.int .u8 0)) (hsize:i.size=1) (hby:i.bytes=1)
 (B:Nat) (v:Value) (l:List UInt8) (b:UInt8) (w0:World) (hs:a.eval s=v) (hown:OwnB B e v l w0) (hB:B≤w0.heap.size) (hlen:l.length+1≤140737488355328)
 (hx:a.eval x=.slice (some ⟨w0.heap.size,0,none⟩) 1 1)
 (h:∀v' w',OwnB B e v' (l++[b]) w'→Below B w0 w'→wpList P ops Q rest (a.put o.dst v') w'):wpList P ops Q (o::rest) a (w0.alloc (.cells #[byteV b] e)):=by
 refine wpList_plain hgd fun K hK=>?_
 obtain⟨v',w',hr,h2,h3⟩:=app1 (P:=P) w0 t o.type e i ht hi hz hsize hby B v l b hown hB hlen;unfold Oper.wp execOp;simp only[ho,resolve,invoke,builtin,Sem.run_bind,Sem.run_pure,Result.andThen_ok,List.map_toArray,List.map_cons,List.map_nil,hs,hx,hr];exact hK _ _ (h v' w' h2 h3)
theorem OwnB.shape{B:Nat}{e:TypeId}{v:Value}{l:List UInt8}{w:World}(h:OwnB B e v l w)(hl:l≠[]):∃g cap,v=.slice (some ⟨g,0,none⟩) l.length cap:=by
 rcases h with⟨_,h⟩|⟨g,cap,_,_,hv,_⟩
 ·exact absurd h hl
 ·exact⟨g,cap,hv⟩
def slen:Value→Nat| .slice _ n _=>n|_=>0
theorem OwnB.slen{B:Nat}{e:TypeId}{v:Value}{l:List UInt8}{w:World}(h:OwnB B e v l w):slen v=l.length:=by
 rcases h with⟨rfl,rfl⟩|⟨g,cap,_,_,rfl,_⟩<;>rfl
theorem OwnB.str{P:Program}{B:Nat}{t d e:TypeId}{v:Value}{l:List UInt8}{w:World}(ht:P.underlying t=some (.slice e))(he:P.underlying e=some (.int .u8))(hd:P.underlying d=some .string)(h:OwnB B e v l w):Sem.run P (convert t d v) w=.ok (.string ⟨l.toArray⟩) w:=by
 rcases h with⟨rfl,rfl⟩|⟨g,cap,cur,fz,rfl,hB,hg,hfz,hlc,hcm,hcs,htk⟩
 ·exact run_convert_bytes_nil w t e ht he 0 0 d hd
 ·refine run_convert_bytes_back w t d e ⟨g,0,none⟩ cap l ht he hd ?_
  intro j hj;exact OwnB.cells (B:=B) (cap:=cap) hg htk j _ (by simp[List.getElem?_eq_getElem hj,byteV])
theorem wp_bytes{P:Program}{ops:Array Oper}{rest:List Oper}{o:Oper}{a:Act}{Q:Exit→Act→World→Prop}{w:World}(hgd:o.guard=none)(x:Operand)(t d:TypeId)(ho:o.op=.convert t d x)(e:TypeId)(ht:P.underlying t=some .string)(hd:P.underlying d=some (.slice e))(he:P.underlying e=some (.int .u8))(B:Nat)(s:ByteArray)(hs:a.eval x=.string s)(hB:B≤w.heap.size)(hlen:s.size≤maxLen)(h:∀v' w',OwnB B e v' s.data.toList w'→Below B w w'→wpList P ops Q rest (a.put o.dst v') w'):wpList P ops Q (o::rest) a w:=by
 refine wpList_plain hgd fun K hK=>?_
 have hr:=run_bytes_of_string (P:=P) w t d e s ht hd he;have hge:=grownCap_ge w s.size 0 e;have hm:=grownCap_le_maxLen w s.size 0 e hlen;generalize grownCap w s.size 0 e=c at hr hge hm;have hsz:(bytesRow s c).size=c:=by
  simp only[bytesRow,Array.size_append,Array.size_map,Array.size_replicate,ByteArray.size_data];omega
 unfold Oper.wp execOp;simp only[ho,hs,Sem.run_bind,Sem.run_pure,Result.andThen_ok,hr];refine hK _ _ (h _ _ ?_ ((Below.refl B w).drew.alloc hB _));refine .inr ⟨w.heap.size,c,_,_,by simp,hB,heap_alloc_new w.drew _,.inr (by simp[hsz]),by simpa using hge,hm,hsz,?_⟩;simp only[bytesRow,Array.toList_append,Array.toList_map];rw[List.take_left' (by simp)];all_goals rfl
def sfx(s:ByteArray)(i:Nat):List UInt8:=s.data.toList.drop i
theorem sfx_cons(s:ByteArray)(i:Nat)(h:i<s.size):sfx s i=s[i]::sfx s (i+1):=by
 unfold sfx;have h':i<s.data.toList.length:=by simpa using h
 rw[List.drop_eq_getElem_cons h'];rfl
theorem sfx_nil(s:ByteArray)(i:Nat)(h:s.size≤i):sfx s i=[]:=by
 unfold sfx;exact List.drop_of_length_le (by simpa using h)
theorem sfx_drop(s:ByteArray)(i n:Nat):(sfx s i).drop n=sfx s (i+n):=by unfold sfx;rw[List.drop_drop]
theorem sfx_length(s:ByteArray)(i:Nat):(sfx s i).length=s.size-i:=by unfold sfx;simp
theorem sfx_get(s:ByteArray)(i k:Nat)(h:i+k<s.size):(sfx s i)[k]?=some s[i+k]:=by
 unfold sfx;have h':i+k<s.data.toList.length:=by simpa using h
 rw[List.getElem?_drop,List.getElem?_eq_getElem h'];rfl
theorem sfx_get_none(s:ByteArray)(i k:Nat)(h:s.size≤i+k):(sfx s i)[k]?=none:=by
 rw[List.getElem?_eq_none];rw[sfx_length];omega
def isB(c:UInt8):Bool:=c==32||c==9||c==10||c==13
def nb:List UInt8→Nat|[]=>0|c::r=>if isB c then nb r+1 else 0
def isD(c:UInt8):Bool:=decide (48≤c.toNat)&&decide (c.toNat≤57)
def goesL(l:List UInt8)(k lo hi:Nat):Bool:=match l[k]? with|some c=>decide (lo≤c.toNat)&&decide (c.toNat≤hi)|none=>false
def seqN(c:Nat):Nat:=if c<224 then 2 else if c<240 then 3 else 4
def seqLo(c:Nat):Nat:=if c=224 then 160 else if c=240 then 144 else 128
def seqHi(c:Nat):Nat:=if c=237 then 159 else if c=244 then 143 else 191
def seqLen(l:List UInt8):Nat:=
 match l with
 | []=>0
 | c::_=>
   if c.toNat<128 then 1
   else if c.toNat<194∨244<c.toNat then 0
   else if(goesL l 1 (seqLo c.toNat) (seqHi c.toNat)&&(decide (seqN c.toNat≤2)||goesL l 2 128 191)&&(decide (seqN c.toNat≤3)||goesL l 3 128 191))=true then seqN c.toNat else 0
def hexv(c:UInt8):Option Nat:=
 if 48≤c.toNat∧c.toNat≤57 then some (c.toNat-48)
 else if 65≤c.toNat∧c.toNat≤70 then some (c.toNat-55)
 else if 97≤c.toNat∧c.toNat≤102 then some (c.toNat-87)
 else none
def fourG:Nat→Nat→List UInt8→Nat→Option Nat×Nat
 | 0,n,_,o=>(some n,o)
 | _+1,_,[],o=>(none,o)
 | k+1,n,c::r,o=>match hexv c with|none=>(none,o)|some d=>fourG k (16*n+d) r (o+1)
def four4(l:List UInt8):Option Nat×Nat:=fourG 4 0 l 0
def lowL(l:List UInt8):Option Nat:=
 match l with
 | a::b::r=>if a=92∧b=117 then(match (four4 r).1 with|some n=>if 56320≤n∧n≤57343 then some n else none|none=>none)else none
 | _=>none
def wr8(n:Nat):List UInt8:=
 if n<128 then [UInt8.ofNat n]
 else if n<2048 then [UInt8.ofNat (192+n/64),UInt8.ofNat (128+n%64)]
 else if n<65536 then [UInt8.ofNat (224+n/4096),UInt8.ofNat (128+n/64%64),UInt8.ofNat (128+n%64)]
 else [UInt8.ofNat (240+n/262144),UInt8.ofNat (128+n/4096%64),UInt8.ofNat (128+n/64%64),UInt8.ofNat (128+n%64)]
def pairL(n:Nat)(r:List UInt8):Except Nat (List UInt8×Nat):=
 if n<55296∨57343<n then .ok (wr8 n,6)
 else match lowL r with
  | none=>.error 0
  | some m=>if 56320≤n then .error 0 else .ok (wr8 (65536+1024*(n-55296)+(m-56320)),12)
def esc1(c:UInt8):Option UInt8:=
 if c=34∨c=92∨c=47 then some c else if c=98 then some 8 else if c=102 then some 12 else if c=110 then some 10 else if c=114 then some 13 else if c=116 then some 9 else none
def escL(l:List UInt8):Except Nat (List UInt8×Nat):=
 match l with
 | _::c::r=>
   match esc1 c with
   | some b=>.ok ([b],2)
   | none=>if c=117 then(match four4 r with|(none,o)=>.error (2+o)|(some n,_)=>pairL n (r.drop 4))else .error 1
 | _=>.error 1
def shiftS(acc:List UInt8)(k:Nat):Except Nat (List UInt8×Nat)→Except Nat (List UInt8×Nat)
 | .ok (t,n)=>.ok (acc++t,k+n)
 | .error o=>.error (k+o)
def strF:Nat→List UInt8→Except Nat (List UInt8×Nat)
 | 0,_=>.error 0
 | f+1,l=>
   match l with
   | []=>.error 0
   | c::_=>
     if c=34 then .ok ([],1)
     else if c.toNat<32 then .error 0
     else if c=92 then
      match escL l with
      | .error o=>.error o
      | .ok (t,n)=>shiftS t n (strF f (l.drop n))
     else if seqLen l=0 then .error 0
     else shiftS (l.take (seqLen l)) (seqLen l) (strF f (l.drop (seqLen l)))
def strL(l:List UInt8):Except Nat (List UInt8×Nat):=strF (l.length+1) l
def quotL(l:List UInt8):Except Nat (List UInt8×Nat):=
 match l with
 | c::r=>if c=34 then(match strL r with| .ok (t,n)=>.ok (t,n+1)| .error o=>.error (o+1))else .error 0
 | []=>.error 0
def maxI:Nat:=9007199254740991
def nd:List UInt8→Nat|[]=>0|c::r=>if isD c then nd r+1 else 0
def accN:Nat→List UInt8→Nat
 | n,[]=>n
 | n,c::r=>accN (if n≤maxI then 10*n+(c.toNat-48)else n) r
def intL(l:List UInt8):Except (Nat×Nat) (Int×Nat):=
 let m:=if l.head?=some 45 then 1 else 0
 let r:=l.drop m
 let k:=nd r
 if k=0∨(1<k∧r.head?=some 48)then .error (2,m)
 else if maxI<accN 0 (r.take k)then .error (3,0)
 else .ok (if m=1 then -(accN 0 (r.take k):Int)else(accN 0 (r.take k):Int),m+k)
def isL(c:UInt8):Bool:=decide (97≤c.toNat)&&decide (c.toNat≤122)
def nl:List UInt8→Nat|[]=>0|c::r=>if isL c then nl r+1 else 0
inductive JT where
 | null (at':Nat)
 | truth (b:Bool) (at':Nat)
 | int (n:Int) (at':Nat)
 | str (t:List UInt8) (at':Nat)
 | arr (ts:List JT) (at':Nat)
 | obj (ms:List (List UInt8×JT)) (at':Nat)
def wordL(l:List UInt8)(i:Nat):Except (Nat×Nat) (JT×Nat):=
 let w:=l.take (nl l)
 if w=[116,114,117,101]then .ok (.truth true i,4)
 else if w=[102,97,108,115,101]then .ok (.truth false i,5)
 else if w=[110,117,108,108]then .ok (.null i,4)
 else .error (2,i)
abbrev JR(α:Type):=Except (Nat×Nat) (α×Nat)
def arrF(v:List UInt8→Nat→JR JT):Nat→List UInt8→Nat→JR (List JT)
 | 0,_,i=>.error (2,i)
 | f+1,l,i=>
   let a:=nb l
   match v (l.drop a) (i+a)with
   | .error e=>.error e
   | .ok (t,n)=>
     let b:=a+n+nb (l.drop (a+n))
     match l.drop b with
     | c::_=>
       if c=44 then(match arrF v f (l.drop (b+1)) (i+(b+1))with| .error e=>.error e| .ok (ts,k)=>.ok (t::ts,b+1+k))
       else if c=93 then .ok ([t],b+1)else .error (2,i+b)
     | []=>.error (2,i+b)
def objF(v:List UInt8→Nat→JR JT):Nat→List (List UInt8)→List UInt8→Nat→JR (List (List UInt8×JT))
 | 0,_,_,i=>.error (2,i)
 | f+1,ks,l,i=>
   let a:=nb l
   match quotL (l.drop a)with
   | .error o=>.error (2,i+a+o)
   | .ok (name,m)=>
     if name∈ks then .error (4,i+a)
     else
      let b:=a+m+nb (l.drop (a+m))
      match l.drop b with
      | c::_=>
        if c=58 then
         let d:=b+1+nb (l.drop (b+1))
         match v (l.drop d) (i+d)with
         | .error e=>.error e
         | .ok (t,n)=>
           let g:=d+n+nb (l.drop (d+n))
           match l.drop g with
           | c::_=>
             if c=44 then(match objF v f (ks++[name]) (l.drop (g+1)) (i+(g+1))with| .error e=>.error e| .ok (ms,k)=>.ok ((name,t)::ms,g+1+k))
             else if c=125 then .ok ([(name,t)],g+1)else .error (2,i+g)
           | []=>.error (2,i+g)
        else .error (2,i+b)
      | []=>.error (2,i+b)
def arrL(v:List UInt8→Nat→JR JT)(l:List UInt8)(i:Nat):JR JT:=
 let a:=1+nb (l.drop 1)
 if(l.drop a).head?=some 93 then .ok (.arr [] i,a+1)
 else match arrF v (l.length+1) (l.drop a) (i+a)with
  | .error e=>.error e
  | .ok (ts,k)=>.ok (.arr ts i,a+k)
def objL(v:List UInt8→Nat→JR JT)(l:List UInt8)(i:Nat):JR JT:=
 let a:=1+nb (l.drop 1)
 if(l.drop a).head?=some 125 then .ok (.obj [] i,a+1)
 else match objF v (l.length+1) [] (l.drop a) (i+a)with
  | .error e=>.error e
  | .ok (ms,k)=>.ok (.obj ms i,a+k)
def valL:Nat→List UInt8→Nat→JR JT
 | d,l,i=>
   match l with
   | []=>.error (2,i)
   | c::_=>
     if c=34 then(match quotL l with| .error o=>.error (2,i+o)| .ok (t,n)=>.ok (.str t i,n))
     else if c=45∨isD c=true then(match intL l with| .error (e,o)=>.error (e,i+o)| .ok (n,k)=>.ok (.int n i,k))
     else if c=116∨c=102∨c=110 then wordL l i
     else if c=91∨c=123 then
      match d with
      | 0=>.error (5,i)
      | d+1=>if c=91 then arrL (valL d) l i else objL (valL d) l i
     else .error (2,i)
def readL(l:List UInt8):Except (Nat×Nat) JT:=
 if 65536<l.length then .error (1,0)
 else
  let a:=nb l
  match valL 32 (l.drop a) a with
  | .error e=>.error e
  | .ok (t,n)=>
    let b:=a+n+nb (l.drop (a+n))
    if b<l.length then .error (2,b)else .ok t
structure Nd where
 kind:Nat
 key:List UInt8
 text:List UInt8
 num:Int
 kids:List Nat
 at':Nat
mutual
def JT.size:JT→Nat
 | .null _=>1
 | .truth _ _=>1
 | .int _ _=>1
 | .str _ _=>1
 | .arr ts _=>1+sizeL ts
 | .obj ms _=>1+sizeM ms
def sizeL:List JT→Nat
 | []=>0
 | t::r=>t.size+sizeL r
def sizeM:List (List UInt8×JT)→Nat
 | []=>0
 | (_,t)::r=>t.size+sizeM r
end
def startsL:Nat→List JT→List Nat
 | _,[]=>[]
 | b,t::r=>b::startsL (b+t.size) r
def startsM:Nat→List (List UInt8×JT)→List Nat
 | _,[]=>[]
 | b,(_,t)::r=>b::startsM (b+t.size) r
mutual
def flat(b:Nat)(key:List UInt8):JT→List Nd
 | .null i=>[⟨0,key,[],0,[],i⟩]
 | .truth x i=>[⟨1,key,[],if x then 1 else 0,[],i⟩]
 | .int n i=>[⟨2,key,[],n,[],i⟩]
 | .str t i=>[⟨3,key,t,0,[],i⟩]
 | .arr ts i=>⟨4,key,[],0,startsL (b+1) ts,i⟩::flatL (b+1) ts
 | .obj ms i=>⟨5,key,[],0,startsM (b+1) ms,i⟩::flatM (b+1) ms
def flatL(b:Nat):List JT→List Nd
 | []=>[]
 | t::r=>flat b [] t++flatL (b+t.size) r
def flatM(b:Nat):List (List UInt8×JT)→List Nd
 | []=>[]
 | (k,t)::r=>flat b k t++flatM (b+t.size) r
end
mutual
theorem flat_length(b:Nat)(key:List UInt8)(t:JT):(flat b key t).length=t.size:=by
 cases t with
 | null=>rfl
 | truth=>rfl
 | int=>rfl
 | str=>rfl
 | arr ts i=>rw[flat,List.length_cons,flatL_length,JT.size];omega
 | obj ms i=>rw[flat,List.length_cons,flatM_length,JT.size];omega
theorem flatL_length(b:Nat)(ts:List JT):(flatL b ts).length=sizeL ts:=by
 cases ts with
 | nil=>rfl
 | cons t r=>rw[flatL,List.length_append,flat_length,flatL_length,sizeL]
theorem flatM_length(b:Nat)(ms:List (List UInt8×JT)):(flatM b ms).length=sizeM ms:=by
 cases ms with
 | nil=>rfl
 | cons m r=>
   obtain⟨k,t⟩:=m;rw[flatM,List.length_append,flat_length,flatM_length,sizeM]
end
theorem convL(W:World)(l:List UInt8)(hl:l.length≤maxLen):Sem.run Tryz.prog (convert 87 9 (.slice (some ⟨W.heap.size,0,none⟩) l.length l.length)) (W.alloc (.cells (l.map byteV).toArray 5))=.ok (.string ⟨l.toArray⟩) (W.alloc (.cells (l.map byteV).toArray 5)):=by
 have h:OwnB W.heap.size 5 (.slice (some ⟨W.heap.size,0,none⟩) l.length l.length) l (W.alloc (.cells (l.map byteV).toArray 5)):=.inr ⟨W.heap.size,l.length,_,(0,0),rfl,Nat.le_refl _,heap_alloc_new _ _,.inl (Nat.zero_le _),Nat.le_refl _,hl,by simp,by rw[List.take_of_length_le (by simp)]⟩;exact h.str Tryz.underlying87 Tryz.underlying5 Tryz.underlying9
theorem conv1(W:World)(a:UInt8):Sem.run Tryz.prog (convert 87 9 (.slice (some ⟨W.heap.size,0,none⟩) 1 1)) (W.alloc (.cells #[.int .u8 (a.toNat:Int)] 5))=.ok (.string ⟨#[a]⟩) (W.alloc (.cells #[.int .u8 (a.toNat:Int)] 5)):=convL W [a] (by simp[maxLen])
theorem conv2(W:World)(a b:UInt8):Sem.run Tryz.prog (convert 87 9 (.slice (some ⟨W.heap.size,0,none⟩) 2 2)) (W.alloc (.cells #[.int .u8 (a.toNat:Int),.int .u8 (b.toNat:Int)] 5))=.ok (.string ⟨#[a,b]⟩) (W.alloc (.cells #[.int .u8 (a.toNat:Int),.int .u8 (b.toNat:Int)] 5)):=convL W [a,b] (by simp[maxLen])
theorem conv3(W:World)(a b c:UInt8):Sem.run Tryz.prog (convert 87 9 (.slice (some ⟨W.heap.size,0,none⟩) 3 3)) (W.alloc (.cells #[.int .u8 (a.toNat:Int),.int .u8 (b.toNat:Int),.int .u8 (c.toNat:Int)] 5))=.ok (.string ⟨#[a,b,c]⟩) (W.alloc (.cells #[.int .u8 (a.toNat:Int),.int .u8 (b.toNat:Int),.int .u8 (c.toNat:Int)] 5)):=convL W [a,b,c] (by simp[maxLen])
theorem conv4(W:World)(a b c d:UInt8):Sem.run Tryz.prog (convert 87 9 (.slice (some ⟨W.heap.size,0,none⟩) 4 4)) (W.alloc (.cells #[.int .u8 (a.toNat:Int),.int .u8 (b.toNat:Int),.int .u8 (c.toNat:Int),.int .u8 (d.toNat:Int)] 5))=.ok (.string ⟨#[a,b,c,d]⟩) (W.alloc (.cells #[.int .u8 (a.toNat:Int),.int .u8 (b.toNat:Int),.int .u8 (c.toNat:Int),.int .u8 (d.toNat:Int)] 5)):=convL W [a,b,c,d] (by simp[maxLen])
def optI:Option Nat→Int|some d=>(d:Int)|none=> -1
theorem optI_some(d:Nat):optI (some d)=(d:Int):=rfl
theorem optI_none:optI none= -1:=rfl
theorem u8_ne{c:UInt8}{k:Nat}(hk:k<256)(h:c≠UInt8.ofNat k):((c.toNat:Int)==(k:Int))=false:=by
 rw[beq_eq_false_iff_ne];intro he;have:c.toNat=k:=by exact_mod_cast he
 exact h (by rw[←this];simp)
theorem u8_bne{c:UInt8}{k:Nat}(hk:k<256)(h:c≠UInt8.ofNat k):((c.toNat:Int) != (k:Int))=true:=by
 have:=u8_ne hk h;simp[bne,this]
def lowN:Option Nat→Option Nat
 | some n=>if 56320≤n∧n≤57343 then some n else none
 | none=>none
section
attribute [local go_sem] conv1 conv2 conv3 conv4
theorem byte_of(x:Int)(n:Nat)(h:x=(n:Int))(hn:n<256):x=((UInt8.ofNat n).toNat:Int):=by rw[h];simp;omega
end
def okS(l:List UInt8)(lo hi k:Nat):Bool:=goesL l 1 lo hi&&(decide (k≤2)||goesL l 2 128 191)&&(decide (k≤3)||goesL l 3 128 191)
theorem okS2(l:List UInt8)(lo hi:Nat):okS l lo hi 2=goesL l 1 lo hi:=by simp[okS]
theorem okS3(l:List UInt8)(lo hi:Nat):okS l lo hi 3=(okS l lo hi 2&&goesL l 2 128 191):=by simp[okS]
theorem okS4(l:List UInt8)(lo hi:Nat):okS l lo hi 4=(okS l lo hi 3&&goesL l 3 128 191):=by simp[okS]
theorem okS_succ(l:List UInt8)(lo hi k:Nat)(h2:2≤k)(h4:k<4):okS l lo hi (k+1)=(okS l lo hi k&&goesL l k 128 191):=by
 have:k=2∨k=3:=by omega
 rcases this with rfl|rfl
 ·exact okS3 l lo hi
 ·exact okS4 l lo hi
theorem seq_kinds(c:Nat)(h1:194≤c)(h2:c≤244):(c<224∧seqN c=2∧seqLo c=128∧seqHi c=191)∨(c=224∧seqN c=3∧seqLo c=160∧seqHi c=191)∨(c=237∧seqN c=3∧seqLo c=128∧seqHi c=159)∨(224<c∧c<240∧c≠237∧seqN c=3∧seqLo c=128∧seqHi c=191)∨(c=240∧seqN c=4∧seqLo c=144∧seqHi c=191)∨(c=244∧seqN c=4∧seqLo c=128∧seqHi c=143)∨(240<c∧c<244∧seqN c=4∧seqLo c=128∧seqHi c=191):=by
 unfold seqN seqLo seqHi;have:c<224∨c=224∨c=237∨(224<c∧c<240∧c≠237)∨c=240∨c=244∨(240<c∧c<244):=by omega
 rcases this with h|h|h|⟨h,h',h''⟩|h|h|⟨h,h'⟩
 ·left;refine⟨h,?_,?_,?_⟩<;>(repeat' split)<;>omega
 ·right;left;simp[h]
 ·right;right;left;simp[h]
 ·right;right;right;left;refine⟨h,h',h'',?_,?_,?_⟩<;>(repeat' split)<;>omega
 ·right;right;right;right;left;simp[h]
 ·right;right;right;right;right;left;simp[h]
 ·right;right;right;right;right;right;refine⟨h,h',?_,?_,?_⟩<;>(repeat' split)<;>omega
def rdCells(s:ByteArray)(i:Nat)(vL:Value)(er at' dp:Nat):Array Value:= #[.string s,.int .i64 (i:Int),vL,.int .i64 (er:Int),.int .i64 (at':Int),.int .i64 (dp:Int)]
section
variable {bp:Nat} {s:ByteArray} {i:Nat} {vL:Value} {er at' dp:Nat} {w:World}
end
abbrev Onl(bp:Nat)(w w':World):Prop:=w.grownBy w' (some bp)
theorem onl_refl(bp:Nat)(w:World):Onl bp w w:=⟨rfl,rfl,rfl,Nat.le_refl _,fun _ _ _=>rfl⟩
theorem Onl.trans{bp:Nat}{a b c:World}(h:Onl bp a b)(g:Onl bp b c):Onl bp a c:=
 ⟨g.os.trans h.os,g.tape.trans h.tape,g.output.trans h.output,Nat.le_trans h.size g.size,fun k hk hn=>(g.block k (Nat.lt_of_lt_of_le hk h.size) hn).trans (h.block k hk hn)⟩
theorem Onl.drewN{bp:Nat}{a b:World}(h:Onl bp a b)(n:Nat):Onl bp a (b.drewN n):=⟨h.os,h.tape,h.output,h.size,h.block⟩
theorem Onl.setCell{bp k:Nat}{a b:World}(h:Onl bp a b)(v:Value){cur:Array Value}{t:TypeId}{fz:Nat×Nat}(hg:b.heap[bp]?=some (.cells cur t fz)):Onl bp a (b.setCell ⟨bp,k,none⟩ v):=by
 rw[setCell_eq_setRow b bp k _ _ _ _ hg];refine h.trans ⟨rfl,rfl,rfl,by simp[World.setRow],fun j hj hn=>setRow_other b bp j _ ?_⟩;intro e;exact hn (by rw[e])
theorem Onl.alloc{bp:Nat}{a b:World}(h:Onl bp a b)(o:Obj):Onl bp a (b.alloc o):=
 ⟨h.os,h.tape,h.output,Nat.le_trans h.size (by simp),fun k hk hn=>by rw[heap_alloc_old _ _ (Nat.lt_of_lt_of_le hk h.size)];exact h.block k hk hn⟩
theorem onl_below{bp:Nat}{a b:World}(h:Below a.heap.size a b):Onl bp a b:=⟨h.os,h.tape,h.output,h.size,fun k hk _=>h.block k hk⟩
def isAt(er:Nat)(l:List UInt8)(c:UInt8):Bool:=decide (er=0)&&(l.head?==some c)
theorem isAt_yes{l:List UInt8}{c:UInt8}(h:l.head?=some c):isAt 0 l c=true:=by simp[isAt,h]
theorem isAt_no{l:List UInt8}{c:UInt8}(h:l.head?≠some c):isAt 0 l c=false:=by simp[isAt,h]
theorem isAt_er{er:Nat}{l:List UInt8}{c:UInt8}(h:0<er):isAt er l c=false:=by simp[isAt];omega
theorem head_lt{s:ByteArray}{i:Nat}{c:UInt8}(h:(sfx s i).head?=some c):i<s.size:=by
 by_cases hi:i<s.size
 ·exact hi
 ·rw[sfx_nil s i (by omega)]at h;simp at h
section
variable (bp:Nat) (s:ByteArray) (i:Nat) (vL:Value) (er at0 dp:Nat) (c:UInt8) (w:World)
end
theorem nb_cons(s:ByteArray)(i:Nat)(h:i<s.size)(hb:isB s[i]=true):nb (sfx s i)=nb (sfx s (i+1))+1:=by rw[sfx_cons s i h,nb,if_pos hb]
theorem nb_zero(s:ByteArray)(i:Nat)(h:∀c,(sfx s i).head?=some c→isB c=false):nb (sfx s i)=0:=by
 match hs:sfx s i with
 | []=>rfl
 | c::r=>rw[nb,if_neg (by rw[h c (by rw[hs];rfl)];simp)]
def posOf:Option Value→Nat|some (.int _ n)=>n.toNat|_=>0
theorem pairL_plain(n:Nat)(r:List UInt8)(h:n<55296∨57343<n):pairL n r=.ok (wr8 n,6):=by unfold pairL;rw[if_pos h]
theorem lowL_bound{l:List UInt8}{m:Nat}(h:lowL l=some m):56320≤m∧m≤57343:=by
 unfold lowL at h;split at h
 ·split at h
  ·split at h
   ·split at h
    ·injection h with h;subst h;assumption
    ·cases h
   ·cases h
  ·cases h
 ·cases h
section
variable (bp:Nat) (s:ByteArray) (i:Nat) (vL:Value) (at0 dp:Nat) (w:World)
theorem escL_cons(h:i+1<s.size):escL (sfx s i)=(match esc1 s[i+1]with
 | some b=>.ok ([b],2)
 | none=>if s[i+1]=117 then(match four4 (sfx s (i+2))with|(none,o)=>.error (2+o)|(some n,_)=>pairL n (sfx s (i+6)))else .error 1):=by
 have hi:i<s.size:=by omega
 rw[sfx_cons s i hi,sfx_cons s (i+1) h,escL,sfx_drop];all_goals rfl
end
section
variable (bp:Nat) (s:ByteArray) (i:Nat) (vL:Value) (at0 dp:Nat) (w:World)
attribute [local go_sem] conv1
end
section
variable (bp:Nat) (s:ByteArray) (i:Nat) (vL:Value) (at0 dp:Nat) (w:World)
end
theorem hexv_lt{c:UInt8}{d:Nat}(h:hexv c=some d):d<16:=by
 unfold hexv at h;split at h
 ·injection h with h;omega
 ·split at h
  ·injection h with h;omega
  ·split at h
   ·injection h with h;omega
   ·cases h
theorem fourG_some{k n:Nat}{l:List UInt8}{o m e:Nat}(h:fourG k n l o=(some m,e)):e=o+k∧m<(n+1)*16^k:=by
 induction k generalizing n l o with
 | zero=>simp[fourG]at h;omega
 | succ k ih=>
   match l with
   | []=>simp[fourG]at h
   | c::r=>
     rw[fourG]at h;cases hv:hexv c with
     | none=>rw[hv]at h;simp at h
     | some d=>
       rw[hv]at h;obtain⟨h1,h2⟩:=ih h;have:=hexv_lt hv;refine⟨by omega,Nat.lt_of_lt_of_le h2 ?_⟩;rw[Nat.pow_succ,Nat.mul_comm (16^k) 16,←Nat.mul_assoc];exact Nat.mul_le_mul_right _ (by omega)
theorem four4_some{l:List UInt8}{m e:Nat}(h:four4 l=(some m,e)):e=4∧m<65536:=by
 have:=fourG_some h;omega
section
variable (bp:Nat) (s:ByteArray) (i:Nat) (vL:Value) (at0 dp:Nat) (w:World)
theorem esc1_none{c:UInt8}(h:esc1 c=none)(h117:c≠117):∀k∈[34,92,47,98,102,110,114,116,117],c≠UInt8.ofNat k:=by
 intro k hk e;simp at hk;rcases hk with rfl|rfl|rfl|rfl|rfl|rfl|rfl|rfl|rfl;all_goals first|(rw[e]at h;revert h;decide)|exact h117 e
end
theorem setCells_row{g:Nat}{e:TypeId}{fz:Nat×Nat}:∀(vs:List Value) (o:Nat) (w:World) (cur:Array Value),w.heap[g]?=some (.cells cur e fz)→o+vs.length≤cur.size→∃cur',(w.setCells g o vs).heap[g]?=some (.cells cur' e fz)∧cur'.size=cur.size∧cur'.toList=cur.toList.take o++vs++cur.toList.drop (o+vs.length)∧(∀B,B≤g→Below B w (w.setCells g o vs)):=by
 intro vs;induction vs with
 | nil=>intro o w cur h hl;exact⟨cur,h,rfl,by simp,fun B _=>Below.refl _ _⟩
 | cons v r ih=>
   intro o w cur h hl;simp only[List.length_cons]at hl;have e1:=setCell_eq_setRow w g o cur e fz v h;have h1:(w.setCell ⟨g,o,none⟩ v).heap[g]?=some (.cells (cur.setIfInBounds o v) e fz):=by rw[e1];exact setRow_heap w g _ _ _ _ h
   obtain⟨cur',a1,a2,a3,a4⟩:=ih (o+1) _ _ h1 (by simp;omega);refine⟨cur',a1,by simpa using a2,?_,fun B hB=>?_⟩
   ·rw[a3,Array.toList_setIfInBounds]
    rw[List.take_succ_eq_append_getElem (by simp;omega),List.take_set_of_le (Nat.le_refl _)];rw[List.drop_set_of_lt (by omega)];simp[List.append_assoc,Nat.add_comm,Nat.add_left_comm]
   ·have hb:Below B w (w.setCell ⟨g,o,none⟩ v):=by rw[e1];exact below_setRow (Below.refl _ _) hB _
    exact hb.trans (a4 B hB)
theorem byteCells_eq(s:ByteArray):byteCells s=s.data.toList.map byteV:=rfl
theorem appS{P:Program}(w:World)(t u ty e:TypeId)(i:TypeInfo)(ht:P.underlying t=some (.slice e))(hu:P.underlying u=some .string)(hi:P.info? e=some i)(hz:i.zero=some (.int .u8 0))(hsize:i.size=1)(hby:i.bytes=1)(B:Nat)(v:Value)(l:List UInt8)(s:ByteArray)(hown:OwnB B e v l w)(hB:B≤w.heap.size)(hlen:l.length+s.size≤140737488355328):∃v' w',(Builtin.append_ #[t,u] ty #[v,.string s]).run P w=.ok v' w'∧OwnB B e v' (l++s.data.toList) w'∧Below B w w':=by
 have hsrc:Src P i.size u (.string s) s.size (byteCells s) w:=by rw[hsize];exact Src.ofString w hu s
 have h63:l.length+s.size≤maxLen:=by unfold maxLen;omega
 have hsl:s.data.toList.length=s.size:=by simp
 by_cases hs0:s.size=0
 ·have hsd:s.data.toList=[]:=List.length_eq_zero_iff.1 (by omega)
  rw[hsd,List.append_nil];rcases hown with⟨rfl,rfl⟩|⟨g,cap,cur,fz,rfl,hBg,hg,hfz,hlc,hcm,hcs,htk⟩
  ·refine⟨.slice none 0 0,w,?_,.inl ⟨rfl,rfl⟩,Below.refl _ _⟩
   simp[Builtin.append_,run_underlying ht,run_underlying hu,sizeOf,typeInfo,hi,Builtin.lenOf,Builtin.firstCells,hs0]
  ·have hr:=run_append_room_src (P:=P) w t u ty e i ht hi g 0 l.length cap (.string s) s.size (byteCells s) hsrc (by omega) (by intro j hj;rw[byteCells_length]at hj;omega) (by intro j hj;rw[byteCells_length]at hj;omega)
   have hbc:byteCells s=[]:=by rw[byteCells_eq,hsd];rfl
   rw[hbc]at hr;refine⟨_,_,hr,.inr ⟨g,cap,cur,fz,by rw[hs0];rfl,hBg,hg,hfz,hlc,hcm,hcs,htk⟩,Below.refl _ _⟩
 ·rcases hown with⟨rfl,rfl⟩|⟨g,cap,cur,fz,rfl,hBg,hg,hfz,hlc,hcm,hcs,htk⟩
  ·have hr:=run_append_grow_src (P:=P) w t u ty e i (.int .u8 0) ht hi hz none 0 0 [] (by simp[Builtin.firstCells]) (.string s) s.size (byteCells s) hsrc (by omega) (by simp at hlen ⊢;omega) (by rw[hby];exact growslice_fits (by omega) (by simp at hlen ⊢;omega))
   rw[Nat.zero_add]at hr;have hge:=grownCap_ge w s.size 0 e;have hm:=grownCap_le_maxLen w s.size 0 e (by simpa using h63);generalize grownCap w s.size 0 e=c at hr hge hm;refine⟨_,_,hr,?_,((Below.refl B w).drew).alloc (by show B≤w.heap.size;omega) _⟩;refine .inr ⟨w.heap.size,c,_,(0,0),by simp,hB,heap_alloc_new w.drew _,.inl (Nat.zero_le _),by simp;omega,hm,?_,?_⟩
   ·have hz1:(Value.int IntKind.u8 0).cells.size=1:=rfl
    simp only[Array.size_append,List.size_toArray,size_zeroCells,hz1,List.length_append,byteCells_length,List.length_nil];omega
   ·rw[byteCells_eq]
    simp only[Array.toList_append,List.nil_append];rw[List.take_left' (by simp)]
  ·by_cases hroom:l.length+s.size≤cap
   ·have hcc:∀j,j<(byteCells s).length→(w.cell? ⟨g,0+l.length*i.size+j,none⟩).isSome=true:=by
     intro j hj;rw[byteCells_length]at hj;rw[hsize,cell_of_row w g _ cur e fz hg];simp;omega
    have hff:∀j,j<(byteCells s).length→w.frozen? ⟨g,0+l.length*i.size+j,none⟩=false:=by
     intro j hj;rw[byteCells_length]at hj;obtain⟨lo,hi'⟩:=fz;simp only[World.frozen?,hg,Bool.and_eq_false_iff,decide_eq_false_iff_not,hsize];simp only at hfz;omega
    have hr:=run_append_room_src (P:=P) w t u ty e i ht hi g 0 l.length cap (.string s) s.size (byteCells s) hsrc hroom hcc hff;obtain⟨cur',a1,a2,a3,a4⟩:=setCells_row (byteCells s) (0+l.length*i.size) w cur hg (by rw[byteCells_length,hsize];omega);refine⟨_,_,hr,.inr ⟨g,cap,cur',fz,by simp,hBg,a1,?_,by simp;omega,hcm,by omega,?_⟩,a4 B hBg⟩
    ·rcases hfz with h|h
     ·left;simp;omega
     ·exact .inr h
    ·rw[a3,hsize,Nat.zero_add,Nat.mul_one,htk,byteCells_eq]
     rw[List.take_left' (by simp)];simp
   ·have holds:=OwnB.cells (B:=B) (cap:=cap) hg htk
    have hold:(Builtin.firstCells i.size l.length (.slice (some ⟨g,0,none⟩) l.length cap)).run P w.drew=.ok (l.map byteV).toArray w.drew:=by
     rw[hsize];exact run_firstCells_some (P:=P) w.drew 1 l.length ⟨g,0,none⟩ l.length cap (l.map byteV) (by simp) (by simpa using holds)
    have hr:=run_append_grow_src (P:=P) w t u ty e i (.int .u8 0) ht hi hz (some ⟨g,0,none⟩) l.length cap (l.map byteV) hold (.string s) s.size (byteCells s) hsrc (by omega) (by unfold maxLen at h63;omega) (by rw[hby];exact growslice_fits (by omega) (by omega));have hge:=grownCap_ge w (l.length+s.size) cap e;have hm:=grownCap_le_maxLen w (l.length+s.size) cap e h63;generalize grownCap w (l.length+s.size) cap e=c at hr hge hm;refine⟨_,_,hr,?_,((Below.refl B w).drew).alloc (by show B≤w.heap.size;omega) _⟩;refine .inr ⟨w.heap.size,c,_,(0,0),by simp,hB,heap_alloc_new w.drew _,.inl (Nat.zero_le _),by simp;omega,hm,?_,?_⟩
    ·have hz1:(Value.int IntKind.u8 0).cells.size=1:=rfl
     simp only[Array.size_append,List.size_toArray,size_zeroCells,hz1,List.length_append,byteCells_length,List.length_map];omega
    ·rw[byteCells_eq]
     simp only[Array.toList_append];rw[←List.map_append,List.take_left' (by simp)]
theorem wp_appS{P:Program}{ops:Array Oper}{rest:List Oper}{o:Oper}{a:Act}{Q:Exit→Act→World→Prop}{w:World}(hgd:o.guard=none)(x y:Operand)(t u:TypeId)(ho:o.op=.call {callee:=.builtin .append,args:= #[x,y],argTypes:= #[t,u]})
 (e:TypeId) (i:TypeInfo) (ht:P.underlying t=some (.slice e)) (hu:P.underlying u=some .string) (hi:P.info? e=some i) (hz:i.zero=some (.int .u8 0)) (hsize:i.size=1) (hby:i.bytes=1)
 (B:Nat) (v:Value) (l:List UInt8) (s:ByteArray) (hx:a.eval x=v) (hy:a.eval y=.string s) (hlen:l.length+s.size≤140737488355328) (hown:OwnB B e v l w) (hB:B≤w.heap.size)
 (h:∀v' w',OwnB B e v' (l++s.data.toList) w'→Below B w w'→wpList P ops Q rest (a.put o.dst v') w'):wpList P ops Q (o::rest) a w:=by
 refine wpList_plain hgd fun K hK=>?_
 obtain⟨v',w',hr,h2,h3⟩:=appS (P:=P) w t u o.type e i ht hu hi hz hsize hby B v l s hown hB hlen;unfold Oper.wp execOp;simp only[ho,resolve,invoke,builtin,Sem.run_bind,Sem.run_pure,Result.andThen_ok,List.map_toArray,List.map_cons,List.map_nil,hx,hy,hr];exact hK _ _ (h v' w' h2 h3)
theorem stepS{P:Program}{ops:Array Oper}{o:Oper}{a:Act}{w:World}{K:Act→World→Prop}{Q:Exit→Act→World→Prop}{E:Prop}(hgd:o.guard=none)(x y:Operand)(t u:TypeId)(ho:o.op=.call {callee:=.builtin .append,args:= #[x,y],argTypes:= #[t,u]})
 (e:TypeId) (i:TypeInfo) (ht:P.underlying t=some (.slice e)) (hu:P.underlying u=some .string) (hi:P.info? e=some i) (hz:i.zero=some (.int .u8 0)) (hsize:i.size=1) (hby:i.bytes=1)
 (B:Nat) (v:Value) (l:List UInt8) (s:ByteArray) (hx:a.eval x=v) (hy:a.eval y=.string s) (hlen:l.length+s.size≤140737488355328) (hown:OwnB B e v l w) (hB:B≤w.heap.size)
 (h:∀v' w',OwnB B e v' (l++s.data.toList) w'→Below B w w'→K (a.put o.dst v') w'):
 if Region.wanted o (yielded ops a.tmps)=true then Oper.wp P o a w K Q else E:=by
 have hw:Region.wanted o (yielded ops a.tmps)=true:=by simp[Region.wanted,hgd]
 rw[if_pos hw];obtain⟨v',w',hr,h2,h3⟩:=appS (P:=P) w t u o.type e i ht hu hi hz hsize hby B v l s hown hB hlen;unfold Oper.wp execOp;simp only[ho,resolve,invoke,builtin,Sem.run_bind,Sem.run_pure,Result.andThen_ok,List.map_toArray,List.map_cons,List.map_nil,hx,hy,hr];exact h v' w' h2 h3
theorem wr8_length(n:Nat):(wr8 n).length≤4:=by
 unfold wr8;split
 ·simp
 ·split
  ·simp
  ·split<;>simp
theorem escL_ok{l t:List UInt8}{n:Nat}(h:escL l=.ok (t,n)):t.length≤n∧2≤n∧n≤12:=by
 unfold escL at h;split at h
 ·split at h
  ·injection h with h;injection h with h1 h2;subst h1;subst h2;simp
  ·split at h
   ·split at h
    ·cases h
    ·unfold pairL at h
     split at h
     ·injection h with h;injection h with h1 h2;subst h1;subst h2
      have:=wr8_length;exact⟨Nat.le_trans (this _) (by omega),by omega,by omega⟩
     ·split at h
      ·cases h
      ·split at h
       ·cases h
       ·injection h with h;injection h with h1 h2;subst h1;subst h2
        have:=wr8_length;exact⟨Nat.le_trans (this _) (by omega),by omega,by omega⟩
   ·cases h
 ·cases h
theorem shiftS_shiftS(a t:List UInt8)(k n:Nat)(X:Except Nat (List UInt8×Nat)):shiftS a k (shiftS t n X)=shiftS (a++t) (k+n) X:=by
 cases X with
 | ok p=>obtain⟨x,m⟩:=p;simp[shiftS,Nat.add_assoc]
 | error o=>simp[shiftS,Nat.add_assoc]
theorem seqN_le(c:Nat):seqN c≤4:=by unfold seqN;split<;>(try split)<;>omega
theorem seqLen_le4(l:List UInt8):seqLen l≤4:=by
 unfold seqLen;split
 ·omega
 ·split
  ·omega
  ·split
   ·omega
   ·split
    ·exact seqN_le _
    ·omega
theorem goesL_len{l:List UInt8}{k lo hi:Nat}(h:goesL l k lo hi=true):k<l.length:=by
 unfold goesL at h;split at h
 ·rename_i c hc;exact(List.getElem?_eq_some_iff.1 hc).1
 ·cases h
theorem seqLen_len(l:List UInt8):seqLen l≤l.length:=by
 match l with
 | []=>simp[seqLen]
 | c::r=>
   simp only[seqLen];split
   ·simp
   ·split
    ·omega
    ·split
     ·rename_i h
      simp only[Bool.and_eq_true,Bool.or_eq_true,decide_eq_true_eq]at h;obtain⟨⟨h1,h2⟩,h3⟩:=h;have a1:=goesL_len h1;have:=seqN_le c.toNat;rcases h2 with h2|h2
      ·omega
      ·have a2:=goesL_len h2
       rcases h3 with h3|h3
       ·omega
       ·have a3:=goesL_len h3;omega
     ·omega
theorem u8infoJ:(Tryz.prog.info? 5).map (fun i=>(i.zero,i.size,i.bytes))=some (some (.int .u8 0),1,1):=by kernel_rfl
section
variable (bp:Nat) (s:ByteArray) (i:Nat) (vL:Value) (at0 dp:Nat) (w:World)
def QM(wr:World):Nat:=if posOf (wr.cell? ⟨bp,3,none⟩)=0 then s.size+13-posOf (wr.cell? ⟨bp,1,none⟩)+1 else 0
theorem onl_belowB{w':World}{wr:World}(ho:Onl bp w wr)(hb:Below w.heap.size wr w'):Onl bp w w':=
 ⟨hb.os.trans ho.os,hb.tape.trans ho.tape,hb.output.trans ho.output,Nat.le_trans ho.size hb.size,fun k hk hn=>(hb.block k hk).trans (ho.block k hk hn)⟩
theorem OwnB.onl{B:Nat}{e:TypeId}{v:Value}{l:List UInt8}{wa wb:World}(h:OwnB B e v l wa)(ho:Onl bp wa wb)(hlt:bp<B):OwnB B e v l wb:=by
 rcases h with h|⟨g,cap,cur,fz,hv,hB,hg,rest⟩
 ·exact .inl h
 ·refine .inr ⟨g,cap,cur,fz,hv,hB,?_,rest⟩
  have:=(Array.getElem?_eq_some_iff.1 hg).1;rw[ho.block _ this (fun e=>by injection e with e;omega)];exact hg
end
theorem nd_cons(s:ByteArray)(p:Nat)(h:p<s.size)(hd:isD s[p]=true):nd (sfx s p)=nd (sfx s (p+1))+1:=by rw[sfx_cons s p h,nd,if_pos hd]
theorem nd_stop(s:ByteArray)(p:Nat)(h:p<s.size)(hd:isD s[p]=false):nd (sfx s p)=0:=by rw[sfx_cons s p h,nd,if_neg (by rw[hd];simp)]
theorem nd_end(s:ByteArray)(p:Nat)(h:s.size≤p):nd (sfx s p)=0:=by rw[sfx_nil s p h];rfl
theorem nd_le(l:List UInt8):nd l≤l.length:=by
 induction l with
 | nil=>simp[nd]
 | cons c r ih=>rw[nd];split<;>simp<;>omega
theorem acc_cons(s:ByteArray)(p X:Nat)(h:p<s.size)(hd:isD s[p]=true):accN X ((sfx s p).take (nd (sfx s p)))=accN (if X≤maxI then 10*X+(s[p].toNat-48)else X) ((sfx s (p+1)).take (nd (sfx s (p+1)))):=by
 rw[nd_cons s p h hd,sfx_cons s p h,List.take_succ_cons,accN]
theorem intL_plain{l:List UInt8}(h:l.head?≠some 45):intL l=if nd l=0∨(1<nd l∧l.head?=some 48)then .error (2,0)else if maxI<accN 0 (l.take (nd l))then .error (3,0)else .ok ((accN 0 (l.take (nd l)):Int),0+nd l):=by
 unfold intL;simp only[if_neg h,List.drop_zero];rfl
theorem intL_minus{l r:List UInt8}(h:l=45::r):intL l=if nd r=0∨(1<nd r∧r.head?=some 48)then .error (2,1)else if maxI<accN 0 (r.take (nd r))then .error (3,0)else .ok (-(accN 0 (r.take (nd r)):Int),1+nd r):=by
 subst h;rfl
theorem isD_iff(c:UInt8):isD c=true↔48≤c.toNat∧c.toNat≤57:=by simp[isD]
section
variable (bp:Nat) (s:ByteArray) (i:Nat) (vL:Value) (at0 dp:Nat) (w:World)
end
section
variable (bp:Nat) (s:ByteArray) (i:Nat) (vL:Value) (at0 dp:Nat) (w:World)
end
def iV(n:Nat):Value:=.int .i64 (n:Int)
def ndCells(n:Nd)(kv:Value):List Value:=[.int .i64 (n.kind:Int),.string ⟨n.key.toArray⟩,.string ⟨n.text.toArray⟩,.int .i64 n.num,kv,.int .i64 (n.at':Int)]
def rowN:List Nd→List Value→List Value
 | n::ns,v::vs=>ndCells n v++rowN ns vs
 | _,_=>[]
theorem rowN_length:∀(ns:List Nd) (vs:List Value),vs.length=ns.length→(rowN ns vs).length=ns.length*6:=by
 intro ns;induction ns with
 | nil=>intro vs h;rfl
 | cons n ns ih=>
   intro vs h;match vs,h with
   | v::vs,h=>rw[rowN,List.length_append,ih vs (by simpa using h)];simp[ndCells];omega
theorem rowN_append:∀(ns:List Nd) (vs:List Value) (ms:List Nd) (us:List Value),vs.length=ns.length→rowN (ns++ms) (vs++us)=rowN ns vs++rowN ms us:=by
 intro ns;induction ns with
 | nil=>intro vs ms us h;match vs,h with|[],_=>rfl
 | cons n ns ih=>
   intro vs ms us h;match vs,h with
   | v::vs,h=>simp only[List.cons_append,rowN];rw[ih vs ms us (by simpa using h),List.append_assoc]
def Nodes(B:Nat)(tN:TypeId)(v:Value)(ns:List Nd)(w:World):Prop:=
 ∃kvs:List Value,kvs.length=ns.length∧w.ownsRow B tN 6 v ns.length (rowN ns kvs)∧(∀(k:Nat) (n:Nd) (kv:Value),ns[k]?=some n→kvs[k]?=some kv→w.ownsRow B 3 1 kv n.kids.length (n.kids.map iV))∧(∀(j k:Nat) (a b:Value),j≠k→kvs[j]?=some a→kvs[k]?=some b→a.ownBlock≠none→a.ownBlock≠b.ownBlock)
theorem ownsRow_sub{w w':World}{B sz n:Nat}{e:TypeId}{v:Value}{xs:List Value}(h:w.ownsRow B e sz v n xs)(hk:∀g,B≤g→g<w.heap.size→w'.heap[g]?=w.heap[g]?):w'.ownsRow B e sz v n xs:=by
 refine⟨h.1,?_⟩;rcases h.2 with h|⟨g,cap,cur,a,b,c,d⟩
 ·exact .inl h
 ·exact .inr ⟨g,cap,cur,a,b,(hk g b (Array.getElem?_eq_some_iff.1 c).1).trans c,d⟩
theorem Nodes.kept{B:Nat}{tN:TypeId}{v:Value}{ns:List Nd}{w w':World}(h:Nodes B tN v ns w)(hk:∀g,B≤g→g<w.heap.size→w'.heap[g]?=w.heap[g]?):Nodes B tN v ns w':=by
 obtain⟨kvs,h1,h2,h3,h4⟩:=h;exact⟨kvs,h1,ownsRow_sub h2 hk,fun k n kv a b=>ownsRow_sub (h3 k n kv a b) hk,h4⟩
theorem Nodes.onl{B bp:Nat}{tN:TypeId}{v:Value}{ns:List Nd}{w w':World}(h:Nodes B tN v ns w)(ho:Onl bp w w')(hb:bp<B):Nodes B tN v ns w':=
 h.kept fun g hg hl=>ho.block g hl (fun e=>by injection e with e;omega)
theorem Nodes.nil(B:Nat)(tN:TypeId)(w:World):Nodes B tN (.slice none 0 0) [] w:=
 ⟨[],rfl,⟨rfl,.inl ⟨rfl,rfl⟩⟩,fun k n kv a b=>(by simp at a),fun j k a b _ h _ _=>(by simp at h)⟩
def addKid(ns:List Nd)(up:Option Nat)(k:Nat):List Nd:=
 match up with
 | none=>ns
 | some u=>ns.modify u (fun n=>{n with kids:=n.kids++[k]})
theorem addKid_length(ns:List Nd)(up:Option Nat)(k:Nat):(addKid ns up k).length=ns.length:=by
 unfold addKid;cases up<;>simp
def upV:Option Nat→Int|none=> -1|some u=>(u:Int)
def ndV(n:Nd):Value:=.agg #[.int .i64 (n.kind:Int),.string ⟨n.key.toArray⟩,.string ⟨n.text.toArray⟩,.int .i64 n.num,.slice none 0 0,.int .i64 (n.at':Int)]
theorem intinfo:(Tryz.prog.info? 3).map (fun i=>(i.zero,i.size,i.bytes))=some (some (.int .i64 0),1,8):=by kernel_rfl
theorem stepN{P:Program}{ops:Array Oper}{o:Oper}{a:Act}{w:World}{K:Act→World→Prop}{Q:Exit→Act→World→Prop}{E:Prop}(hgd:o.guard=none)(s x:Operand)(t:TypeId)(ho:o.op=.call {callee:=.builtin .append,args:= #[s,x],argTypes:= #[t,t]})
 (e:TypeId) (i:TypeInfo) (z:Value) (size bytes:Nat) (ht:P.underlying t=some (.slice e)) (hi:P.info? e=some i) (hz:i.zero=some z) (hsize:i.size=size) (hby:i.bytes=bytes) (hzs:z.cells.size=size) (hsz:0<size)
 (B:Nat) (v:Value) (n:Nat) (xs news:List Value) (ad:Addr) (hs:a.eval s=v) (hx:a.eval x=.slice (some ad) 1 1) (hl:news.length=1*size) (h1:∀u∈news,u.oneCell'=true) (h63:n+1≤1000000000) (hb80:bytes≤80)
 (hown:w.ownsRow B e size v n xs) (hB:B≤w.heap.size) (hc:∀j u,news[j]?=some u→w.cell? (ad.add j)=some u)
 (h:∀v' w',w'.ownsRow B e size v' (n+1) (xs++news)→w.grownBy w' v.ownBlock→K (a.put o.dst v') w'):
 if Region.wanted o (yielded ops a.tmps)=true then Oper.wp P o a w K Q else E:=by
 have hw:Region.wanted o (yielded ops a.tmps)=true:=by simp[Region.wanted,hgd]
 rw[if_pos hw];obtain⟨v',w',r1,r2,r3,_⟩:=run_append_own (P:=P) w B t o.type e i z size bytes ht hi hz hsize hby hzs hsz v n xs hown ad 1 1 news hl hc h1 (by unfold maxLen;omega) (by
  have:(n+1)*bytes≤1000000000*80:=Nat.mul_le_mul h63 hb80;omega) hB
 unfold Oper.wp execOp;simp only[ho,resolve,invoke,builtin,Sem.run_bind,Sem.run_pure,Result.andThen_ok,List.map_toArray,List.map_cons,List.map_nil,hs,hx,r1];exact h v' w' r2 r3
theorem ownsRow_other{w w6:World}{B n m sz:Nat}{e e':TypeId}{v kv:Value}{xs ys:List Value}(he:e≠e')(hv:w.ownsRow B e sz v n xs)(hk:w.ownsRow B e' 1 kv m ys)(hkeep:∀g,g<w.heap.size→some g≠v.ownBlock→w6.heap[g]?=w.heap[g]?):w6.ownsRow B e' 1 kv m ys:=by
 refine⟨hk.1,?_⟩;rcases hk.2 with h|⟨g,cap,cur,a,b,c,d⟩
 ·exact .inl h
 ·refine .inr ⟨g,cap,cur,a,b,(hkeep g (Array.getElem?_eq_some_iff.1 c).1 ?_).trans c,d⟩
  intro hg;rcases hv.2 with⟨rfl,_⟩|⟨g',cap',cur',rfl,_,c',_⟩
  ·simp[Value.ownBlock]at hg
  ·simp[Value.ownBlock]at hg
   subst hg;rw[c]at c';injection c' with c';injection c' with _ c' _;exact he c'.symm
theorem Nodes.push{B:Nat}{tN:TypeId}{v v6:Value}{ns:List Nd}{nd:Nd}{kvs:List Value}{w w6:World}(k1:kvs.length=ns.length)(k2:w.ownsRow B tN 6 v ns.length (rowN ns kvs))(k3:∀(k:Nat) (n:Nd) (kv:Value),ns[k]?=some n→kvs[k]?=some kv→w.ownsRow B 3 1 kv n.kids.length (n.kids.map iV))(k4:∀(j k:Nat) (a b:Value),j≠k→kvs[j]?=some a→kvs[k]?=some b→a.ownBlock≠none→a.ownBlock≠b.ownBlock)(hrow:w6.ownsRow B tN 6 v6 (ns.length+1) (rowN ns kvs++ndCells nd (.slice none 0 0)))(hkeep:∀g,g<w.heap.size→some g≠v.ownBlock→w6.heap[g]?=w.heap[g]?)(ht:tN≠3)(hk:nd.kids=[]):Nodes B tN v6 (ns++[nd]) w6:=by
 refine⟨kvs++[.slice none 0 0],by simp[k1],?_,?_,?_⟩
 ·rw[rowN_append ns kvs [nd] [.slice none 0 0] k1,List.length_append]
  have e:rowN [nd] [.slice none 0 0]=ndCells nd (.slice none 0 0):=by simp[rowN]
  rw[e];exact hrow
 ·intro k n kv hn hkv
  by_cases hlt:k<ns.length
  ·rw[List.getElem?_append_left hlt]at hn
   rw[List.getElem?_append_left (by omega)]at hkv;exact ownsRow_other ht k2 (k3 k n kv hn hkv) hkeep
  ·have hke:k=ns.length:=by
    have:=(List.getElem?_eq_some_iff.1 hn).1;simp at this;omega
   subst hke;rw[List.getElem?_append_right (Nat.le_refl _)]at hn;rw[←k1,List.getElem?_append_right (Nat.le_refl _)]at hkv;simp at hn hkv;subst hn;subst hkv;rw[hk];exact⟨rfl,.inl ⟨rfl,rfl⟩⟩
 ·intro j k a b hjk ha hb hne
  have hbd:∀{m:Nat} {x:Value},(kvs++[Value.slice none 0 0])[m]?=some x→(m<kvs.length∧kvs[m]?=some x)∨x=.slice none 0 0:=by
   intro m x hx;by_cases hm:m<kvs.length
   ·left;rw[List.getElem?_append_left hm]at hx;exact⟨hm,hx⟩
   ·right
    rw[List.getElem?_append_right (by omega)]at hx;have:=(List.getElem?_eq_some_iff.1 hx).1;have h0:m-kvs.length=0:=by simp at this;omega
    rw[h0]at hx;simpa using hx.symm
  rcases hbd ha with⟨_,ha⟩|rfl
  ·rcases hbd hb with⟨_,hb⟩|rfl
   ·exact k4 j k a b hjk ha hb hne
   ·simpa [Value.ownBlock]using hne
  ·exact absurd rfl hne
theorem ownsRow_shape{w:World}{B sz n:Nat}{e:TypeId}{v:Value}{xs:List Value}(h:w.ownsRow B e sz v (n+1) xs):∃g cap,v=.slice (some ⟨g,0,none⟩) (n+1) cap:=by
 rcases h.2 with⟨_,h⟩|⟨g,cap,cur,hv,_⟩
 ·omega
 ·exact⟨g,cap,hv⟩
theorem keepers{wb w6:World}{o:Obj}{row:Option Nat}(hg:((wb.alloc o).drew).grownBy w6 row){k:Nat}(hk:k<wb.heap.size)(hne:some k≠row):w6.heap[k]?=wb.heap[k]?∧(∀j,w6.cell? ⟨k,j,none⟩=wb.cell? ⟨k,j,none⟩)∧(∀j,w6.frozen? ⟨k,j,none⟩=wb.frozen? ⟨k,j,none⟩):=by
 have e:w6.heap[k]?=wb.heap[k]?:=(hg.block k (by show k<(wb.alloc o).heap.size;simp;omega) hne).trans (heap_alloc_old _ _ hk);exact⟨e,fun j=>World.cell?_of_block (a:=⟨k,j,none⟩) e,fun j=>World.frozen?_of_block (a:=⟨k,j,none⟩) e⟩
theorem rowN_set:∀(ns:List Nd) (vs:List Value) (u k:Nat) (n:Nd) (kv':Value),vs.length=ns.length→ns[u]?=some n→rowN (ns.modify u (fun n=>{n with kids:=n.kids++[k]})) (vs.set u kv')=(rowN ns vs).set (u*6+4) kv':=by
 intro ns;induction ns with
 | nil=>intro vs u k n kv' h hn;simp at hn
 | cons m ns ih=>
   intro vs u k n kv' h hn;match vs,h with
   | v::vs,h=>
     match u with
     | 0=>simp[rowN,ndCells]
     | u+1=>
       have h':vs.length=ns.length:=by simpa using h
       have:=ih vs u k n kv' h' (by simpa using hn);simp only[List.modify_succ_cons,List.set_cons_succ,rowN];rw[this];have e:(u+1)*6+4=(ndCells m v).length+(u*6+4):=by simp[ndCells];omega
       rw[e,List.set_append_right _ _ (Nat.le_add_right _ _),Nat.add_sub_cancel_left]
theorem ownBlock_lt{w:World}{B sz n g:Nat}{e:TypeId}{v:Value}{xs:List Value}(h:w.ownsRow B e sz v n xs)(hg:v.ownBlock=some g):B≤g∧g<w.heap.size∧∃cur,w.heap[g]?=some (.cells cur e (0,0)):=by
 rcases h.2 with⟨rfl,_⟩|⟨g',cap,cur,rfl,b,c,d⟩
 ·simp[Value.ownBlock]at hg
 ·simp[Value.ownBlock]at hg;subst hg;exact⟨b,(Array.getElem?_eq_some_iff.1 c).1,cur,c⟩
theorem blocks_ne{w:World}{B n m sz sz' g:Nat}{e e':TypeId}{v v':Value}{xs ys:List Value}(he:e≠e')(h:w.ownsRow B e sz v n xs)(h':w.ownsRow B e' sz' v' m ys)(hg:v.ownBlock=some g):v'.ownBlock≠some g:=by
 intro hg';obtain⟨_,_,cur,c⟩:=ownBlock_lt h hg;obtain⟨_,_,cur',c'⟩:=ownBlock_lt h' hg';rw[c]at c';injection c' with c';injection c' with _ c' _;exact he c'
theorem Nodes.kid{B:Nat}{tN:TypeId}{v:Value}{ns:List Nd}{kvs:List Value}{w w8:World}(k1:kvs.length=ns.length)(k2:w.ownsRow B tN 6 v ns.length (rowN ns kvs))(k3:∀(k:Nat) (n:Nd) (kv:Value),ns[k]?=some n→kvs[k]?=some kv→w.ownsRow B 3 1 kv n.kids.length (n.kids.map iV))(k4:∀(j k:Nat) (a b:Value),j≠k→kvs[j]?=some a→kvs[k]?=some b→a.ownBlock≠none→a.ownBlock≠b.ownBlock)(u k g capk gL:Nat)(n:Nd)(kv:Value)(hn:ns[u]?=some n)(hkv:kvs[u]?=some kv)(hrow8:w8.ownsRow B 3 1 (.slice (some ⟨g,0,none⟩) (n.kids.length+1) capk) (n.kids.length+1) (n.kids.map iV++[iV k]))(hkeep:∀g',g'<w.heap.size→some g'≠kv.ownBlock→w8.heap[g']?=w.heap[g']?)(hg:kv.ownBlock=some g∨w.heap.size≤g)(hgL:v.ownBlock=some gL)(ht:tN≠3):Nodes B tN v (ns.modify u (fun n=>{n with kids:=n.kids++[k]})) (w8.setCell ⟨gL,u*6+4,none⟩ (.slice (some ⟨g,0,none⟩) (n.kids.length+1) capk)):=by
 have hun:u<ns.length:=(List.getElem?_eq_some_iff.1 hn).1;have hku:=k3 u n kv hn hkv;have hLk:kv.ownBlock≠some gL:=blocks_ne ht k2 hku hgL;have k2':w8.ownsRow B tN 6 v ns.length (rowN ns kvs):=by
  refine⟨k2.1,?_⟩;rcases k2.2 with h|⟨g',cap,cur,a,b,c,d⟩
  ·exact .inl h
  ·refine .inr ⟨g',cap,cur,a,b,(hkeep g' (Array.getElem?_eq_some_iff.1 c).1 (fun e=>?_)).trans c,d⟩
   rw[a]at hgL;simp[Value.ownBlock]at hgL;exact hLk (by rw[←hgL];exact e.symm)
 obtain⟨cap,cur,hv,hB,hcell,hnc,hcm,hcs,htk⟩:∃cap cur,v=.slice (some ⟨gL,0,none⟩) ns.length cap∧B≤gL∧w8.heap[gL]?=some (.cells cur tN (0,0))∧ns.length≤cap∧cap≤maxLen∧cur.size=cap*6∧cur.toList.take (ns.length*6)=rowN ns kvs:=by
  rcases k2'.2 with⟨h,_⟩|⟨g',cap,cur,a,b,c,d⟩
  ·rw[h]at hgL;simp[Value.ownBlock]at hgL
  ·rw[a]at hgL
   simp[Value.ownBlock]at hgL;subst hgL;exact⟨cap,cur,a,b,c,d⟩
 have hset:=setCell_eq_setRow w8 gL (u*6+4) cur tN (0,0) (.slice (some ⟨g,0,none⟩) (n.kids.length+1) capk) hcell;rw[hset];have hoth:∀g',g'≠gL→(w8.setRow gL (cur.setIfInBounds (u*6+4) (.slice (some ⟨g,0,none⟩) (n.kids.length+1) capk))).heap[g']?=w8.heap[g']?:=fun g' h=>setRow_other w8 gL g' _ h
 have hkid9:∀{kv2:Value} {m:Nat} {ys:List Value},w8.ownsRow B 3 1 kv2 m ys→(w8.setRow gL (cur.setIfInBounds (u*6+4) (.slice (some ⟨g,0,none⟩) (n.kids.length+1) capk))).ownsRow B 3 1 kv2 m ys:=by
  intro kv2 m ys h;refine⟨h.1,?_⟩;rcases h.2 with h'|⟨g',c1,c2,a,b,c,d⟩
  ·exact .inl h'
  ·refine .inr ⟨g',c1,c2,a,b,(hoth g' ?_).trans c,d⟩
   intro e;subst e;rw[c]at hcell;injection hcell with hcell;injection hcell with _ e2 _;exact ht e2.symm
 refine⟨kvs.set u (.slice (some ⟨g,0,none⟩) (n.kids.length+1) capk),by simp[k1],?_,?_,?_⟩
 ·rw[rowN_set ns kvs u k n _ k1 hn,List.length_modify]
  refine⟨by rw[List.length_set,rowN_length ns kvs k1],.inr ⟨gL,cap,_,hv,hB,setRow_heap w8 gL _ _ _ _ hcell,hnc,hcm,by simpa using hcs,?_⟩⟩;rw[Array.toList_setIfInBounds,←htk,List.take_set]
 ·intro j m kv2 hj hkv2
  by_cases hju:j=u
  ·subst hju
   rw[List.getElem?_modify_eq,hn]at hj;simp at hj;subst hj;rw[List.getElem?_set_self (by omega)]at hkv2;injection hkv2 with hkv2;subst hkv2;simp only[List.length_append,List.length_singleton,List.map_append,List.map_cons,List.map_nil];exact hkid9 hrow8
  ·rw[List.getElem?_modify_ne _ _ (Ne.symm hju)]at hj
   rw[List.getElem?_set_ne (Ne.symm hju)]at hkv2;have h0:=k3 j m kv2 hj hkv2;refine hkid9 ⟨h0.1,?_⟩;rcases h0.2 with h'|⟨g',c1,c2,a,b,c,d⟩
   ·exact .inl h'
   ·refine .inr ⟨g',c1,c2,a,b,(hkeep g' (Array.getElem?_eq_some_iff.1 c).1 ?_).trans c,d⟩
    intro e;refine k4 j u kv2 kv hju hkv2 hkv (by rw[a];simp[Value.ownBlock]) ?_;rw[a,←e];rfl
 ·intro j m a b hjm ha hb hne
  have hlt:∀{q:Nat} {x:Value} {gg:Nat},kvs[q]?=some x→x.ownBlock=some gg→gg<w.heap.size:=by
   intro q x gg hq hx;have hql:q<ns.length:=by have:=(List.getElem?_eq_some_iff.1 hq).1;omega
   exact(ownBlock_lt (k3 q ns[q] x (List.getElem?_eq_getElem hql) hq) hx).2.1
  by_cases hju:j=u
  ·subst hju
   rw[List.getElem?_set_self (by omega)]at ha;rw[List.getElem?_set_ne hjm]at hb;injection ha with ha;subst ha;intro e;have hbg:b.ownBlock=some g:=by rw[←e];rfl
   rcases hg with hg|hg
   ·exact k4 m j b kv (Ne.symm hjm) hb hkv (by rw[hbg];simp) (by rw[hbg,hg])
   ·have:=hlt hb hbg;omega
  ·rw[List.getElem?_set_ne (Ne.symm hju)]at ha
   by_cases hmu:m=u
   ·subst hmu
    rw[List.getElem?_set_self (by omega)]at hb;injection hb with hb;subst hb;intro e;have hag:a.ownBlock=some g:=by rw[e];rfl
    rcases hg with hg|hg
    ·exact k4 j m a kv hjm ha hkv hne (by rw[hag,hg])
    ·have:=hlt ha hag;omega
   ·rw[List.getElem?_set_ne (Ne.symm hmu)]at hb
    exact k4 j m a b hjm ha hb hne
theorem rowN_get:∀(ns:List Nd) (vs:List Value) (u:Nat) (kv:Value),vs.length=ns.length→vs[u]?=some kv→(rowN ns vs)[u*6+4]?=some kv:=by
 intro ns;induction ns with
 | nil=>intro vs u kv h hk;match vs,h with|[],_=>simp at hk
 | cons n ns ih=>
   intro vs u kv h hk;match vs,h with
   | v::vs,h=>
     match u with
     | 0=>simp at hk;subst hk;simp[rowN,ndCells]
     | u+1=>
       have e:(u+1)*6+4=(ndCells n v).length+(u*6+4):=by simp[ndCells];omega
       rw[rowN,e,List.getElem?_append_right (Nat.le_add_right _ _),Nat.add_sub_cancel_left];exact ih vs u kv (by simpa using h) (by simpa using hk)
theorem modify_app{α:Type}(ns:List α)(x:α)(u:Nat)(f:α→α)(h:u<ns.length):(ns++[x]).modify u f=ns.modify u f++[x]:=by
 induction ns generalizing u with
 | nil=>simp at h
 | cons a r ih=>
   match u with
   | 0=>simp
   | u+1=>simp only[List.cons_append,List.modify_succ_cons];rw[ih u (by simpa using h)]
theorem stepK{P:Program}{ops:Array Oper}{o:Oper}{a:Act}{w:World}{K:Act→World→Prop}{Q:Exit→Act→World→Prop}{E:Prop}(hgd:o.guard=none)(s x:Operand)(t:TypeId)(ho:o.op=.call {callee:=.builtin .append,args:= #[s,x],argTypes:= #[t,t]})
 (e:TypeId) (i:TypeInfo) (ht:P.underlying t=some (.slice e)) (hi:P.info? e=some i) (hz:i.zero=some (.int .i64 0)) (hsize:i.size=1) (hby:i.bytes=8)
 (B:Nat) (v:Value) (n:Nat) (xs:List Value) (k:Nat) (ad:Addr) (H:Nat) (hs:a.eval s=v) (hx:a.eval x=.slice (some ad) 1 1) (h63:n+1≤1000000000)
 (hown:w.ownsRow B e 1 v n xs) (hB:B≤w.heap.size) (hH:w.heap.size=H) (hc:∀j u,[iV k][j]?=some u→w.cell? (ad.add j)=some u)
 (h:∀g cap w',w'.ownsRow B e 1 (.slice (some ⟨g,0,none⟩) (n+1) cap) (n+1) (xs++[iV k])→w.grownBy w' v.ownBlock→(v.ownBlock=some g∨g=H)→K (a.put o.dst (.slice (some ⟨g,0,none⟩) (n+1) cap)) w'):
 if Region.wanted o (yielded ops a.tmps)=true then Oper.wp P o a w K Q else E:=
 step_append_lies w hgd s x t ho B e i (.int .i64 0) 1 8 ht hi hz hsize hby rfl (by decide) v n xs hs hown ad 1 1 [iV k] hx rfl hc (by intro u hu;simp at hu;subst hu;rfl) (by decide) (by unfold maxLen;omega) (by omega) hB H hH
  fun g cap w' a b c _=>h g cap w' a b c
def WFk(ns:List Nd):Prop:=∀n∈ns,n.kids.length≤ns.length
theorem Nodes.shape{B:Nat}{tN:TypeId}{v:Value}{ns:List Nd}{w:World}(h:Nodes B tN v ns w):∃ad cap,v=.slice ad ns.length cap:=by
 obtain⟨kvs,_,h2,_⟩:=h;rcases h2.2 with⟨a,b⟩|⟨g,c,cu,a,_⟩
 ·exact⟨none,0,by rw[a,b]⟩
 ·exact⟨_,_,a⟩
section
variable {bp:Nat} {s:ByteArray} {i:Nat} {ns:List Nd} {er at' dp:Nat} {w w':World}
theorem onl_bel(h:Onl bp w w')(hlt:bp<w.heap.size):Below bp w w':=
 ⟨h.os,h.tape,h.output,h.size,fun k hk=>h.block k (by omega) (fun e=>by injection e with e;omega)⟩
end
theorem addKid_wf{ns:List Nd}(h:WFk ns)(up:Option Nat)(nd:Nd)(hk:nd.kids=[]):WFk (addKid ns up ns.length++[nd]):=by
 intro n hn;rw[List.length_append,addKid_length,List.length_singleton];rw[List.mem_append]at hn;rcases hn with hn|hn
 ·cases up with
  | none=>have:=h n hn;omega
  | some u=>
    unfold addKid at hn;obtain⟨k,hk2,rfl⟩:=List.getElem_of_mem hn;rw[List.getElem_modify];have hk3:k<ns.length:=by simpa using hk2
    have:=h ns[k] (List.getElem_mem hk3);split
    ·simp;omega
    ·omega
 ·simp at hn;subst hn;rw[hk];simp
theorem valL_cons(d:Nat)(c:UInt8)(r:List UInt8)(i:Nat):valL d (c::r) i=if c=34 then(match quotL (c::r)with| .error o=>.error (2,i+o)| .ok (t,n)=>.ok (.str t i,n))
 else if c=45∨isD c=true then(match intL (c::r)with| .error (e,o)=>.error (e,i+o)| .ok (n,k)=>.ok (.int n i,k))
 else if c=116∨c=102∨c=110 then wordL (c::r) i
 else if c=91∨c=123 then
  (match d with
    | 0=>.error (5,i)
    | d+1=>if c=91 then arrL (valL d) (c::r) i else objL (valL d) (c::r) i)
 else .error (2,i):=by cases d<;>rfl
theorem valL_nil(d i:Nat):valL d [] i=.error (2,i):=by cases d<;>rfl
theorem str_back(t:ByteArray):(⟨t.data.toList.toArray⟩:ByteArray)=t:=by cases t;simp
section
variable (bp:Nat) (s:ByteArray) (i:Nat) (ns:List Nd) (up:Option Nat) (key:List UInt8) (at0 dp:Nat) (w:World)
end
theorem intL_err{l:List UInt8}{e o:Nat}(h:intL l=.error (e,o)):0<e:=by
 have key:∀(m:Nat) (c1 c2:Prop) [Decidable c1] [Decidable c2] (x:Int×Nat),(if c1 then Except.error (2,m)else if c2 then .error (3,0)else .ok x:Except (Nat×Nat) (Int×Nat))=.error (e,o)→0<e:=by
  intro m c1 c2 _ _ x hx;split at hx
  ·injection hx with hx;injection hx with h1 h2;omega
  ·split at hx
   ·injection hx with hx;injection hx with h1 h2;omega
   ·cases hx
 exact key _ _ _ _ h
section
variable (bp:Nat) (s:ByteArray) (i:Nat) (ns:List Nd) (up:Option Nat) (key:List UInt8) (at0 dp:Nat) (w:World)
end
theorem isL_iff(c:UInt8):isL c=true↔97≤c.toNat∧c.toNat≤122:=by simp[isL]
theorem nl_cons(s:ByteArray)(p:Nat)(h:p<s.size)(hd:isL s[p]=true):nl (sfx s p)=nl (sfx s (p+1))+1:=by rw[sfx_cons s p h,nl,if_pos hd]
theorem nl_stop(s:ByteArray)(p:Nat)(h:p<s.size)(hd:isL s[p]=false):nl (sfx s p)=0:=by rw[sfx_cons s p h,nl,if_neg (by rw[hd];simp)]
theorem nl_end(s:ByteArray)(p:Nat)(h:s.size≤p):nl (sfx s p)=0:=by rw[sfx_nil s p h];rfl
theorem Onl.setNew{bp b:Nat}{w w':World}{cur:Array Value}{t:TypeId}{fz:Nat×Nat}(h:Onl bp w w')(hc:w'.heap[b]?=some (.cells cur t fz))(hb:w.heap.size≤b)(k:Nat)(v:Value):Onl bp w (w'.setCell ⟨b,k,none⟩ v):=by
 rw[setCell_eq_setRow w' b k _ _ _ _ hc];exact⟨h.os,h.tape,h.output,Nat.le_trans h.size (by simp[World.setRow]),fun j hj hn=>(setRow_other w' b j _ (by omega)).trans (h.block j hj hn)⟩
theorem word_list{s:ByteArray}{i p:Nat}(hE:i+nl (sfx s i)=p):(s.extract i p).toList=(sfx s i).take (nl (sfx s i)):=by
 rw[ByteArray.toList_eq,extract_list,show p-i=nl (sfx s i)by omega];rfl
theorem word_len{s:ByteArray}{i p:Nat}(hp:i≤p∧p≤s.size):(s.extract i p).toList.length=p-i:=by
 rw[ByteArray.toList_eq,extract_list];simp;omega
theorem word_T{s:ByteArray}{i p:Nat}(hE:i+nl (sfx s i)=p)(hp:i≤p∧p≤s.size)(h:(s.extract i p).toList=[116,114,117,101]):wordL (sfx s i) i=.ok (.truth true i,4)∧p-i=4:=by
 have h1:=word_list hE;have h2:=word_len hp;rw[h]at h1 h2;exact⟨by unfold wordL;rw[←h1];rfl,h2.symm⟩
theorem word_F{s:ByteArray}{i p:Nat}(hE:i+nl (sfx s i)=p)(hp:i≤p∧p≤s.size)(h:(s.extract i p).toList=[102,97,108,115,101]):wordL (sfx s i) i=.ok (.truth false i,5)∧p-i=5:=by
 have h1:=word_list hE;have h2:=word_len hp;rw[h]at h1 h2;exact⟨by unfold wordL;rw[←h1];rfl,h2.symm⟩
theorem word_N{s:ByteArray}{i p:Nat}(hE:i+nl (sfx s i)=p)(hp:i≤p∧p≤s.size)(h:(s.extract i p).toList=[110,117,108,108]):wordL (sfx s i) i=.ok (.null i,4)∧p-i=4:=by
 have h1:=word_list hE;have h2:=word_len hp;rw[h]at h1 h2;exact⟨by unfold wordL;rw[←h1];rfl,h2.symm⟩
theorem word_X{s:ByteArray}{i p:Nat}(hE:i+nl (sfx s i)=p)(hp:i≤p∧p≤s.size)(hT:(s.extract i p).toList≠[116,114,117,101])(hF:(s.extract i p).toList≠[102,97,108,115,101])(hN:(s.extract i p).toList≠[110,117,108,108]):wordL (sfx s i) i=.error (2,i):=by
 have h1:=word_list hE;rw[h1]at hT hF hN;unfold wordL;rw[if_neg hT,if_neg hF,if_neg hN]
section
variable (bp:Nat) (s:ByteArray) (i:Nat) (ns:List Nd) (up:Option Nat) (key:List UInt8) (at0 dp:Nat) (w:World)
end
section
variable (bp:Nat) (s:ByteArray) (i:Nat) (ns:List Nd) (up:Option Nat) (key:List UInt8) (at0 dp:Nat) (w:World)
end
theorem strF_pos:∀(f:Nat) (l t:List UInt8) (n:Nat),strF f l=.ok (t,n)→1≤n:=by
 intro f;induction f with
 | zero=>intro l t n h;simp[strF]at h
 | succ f ih=>
   intro l t n h;match l with
   | []=>simp[strF]at h
   | c::r=>
     have shift_pos:∀(a:List UInt8) (k:Nat) (X:Except Nat (List UInt8×Nat)),(∀t n,X=.ok (t,n)→1≤n)→shiftS a k X=.ok (t,n)→1≤n:=by
      intro a k X hX hx;cases X with
      | error o=>simp[shiftS]at hx
      | ok q=>obtain⟨t',n'⟩:=q;have:=hX t' n' rfl;simp[shiftS]at hx;omega
     rw[strF]at h;split at h
     ·injection h with h;injection h with h1 h2;omega
     ·split at h
      ·cases h
      ·split at h
       ·split at h
        ·cases h
        ·exact shift_pos _ _ _ (fun t n=>ih _ t n) h
       ·split at h
        ·cases h
        ·exact shift_pos _ _ _ (fun t n=>ih _ t n) h
theorem quotL_pos{l t:List UInt8}{n:Nat}(h:quotL l=.ok (t,n)):1≤n:=by
 unfold quotL at h;split at h
 ·split at h
  ·split at h
   ·injection h with h;injection h with h1 h2;omega
   ·cases h
  ·cases h
 ·cases h
theorem intL_pos{l:List UInt8}{m:Int}{n:Nat}(h:intL l=.ok (m,n)):1≤n:=by
 have key:∀(m1 k:Nat) (p:Prop) (c2:Prop) [Decidable p] [Decidable c2] (x:Int),(if k=0∨p then Except.error (2,m1)else if c2 then .error (3,0)else .ok (x,m1+k):Except (Nat×Nat) (Int×Nat))=.ok (m,n)→1≤n:=by
  intro m1 k p c2 _ _ x hx;split at hx
  ·cases hx
  ·split at hx
   ·cases hx
   ·rename_i h1 _
    injection hx with hx;injection hx with h2 h3;have:k≠0:=fun e=>h1 (.inl e)
    omega
 exact key _ _ _ _ _ h
theorem wordL_size{l:List UInt8}{i n:Nat}{t:JT}(h:wordL l i=.ok (t,n)):t.size≤n:=by
 unfold wordL at h;dsimp only at h;split at h
 ·injection h with h;injection h with h1 h2;subst h1;subst h2;simp[JT.size]
 ·split at h
  ·injection h with h;injection h with h1 h2;subst h1;subst h2;simp[JT.size]
  ·split at h
   ·injection h with h;injection h with h1 h2;subst h1;subst h2;simp[JT.size]
   ·cases h
theorem arrF_size(v:List UInt8→Nat→JR JT)(hv:∀l i t n,v l i=.ok (t,n)→t.size≤n):∀(f:Nat) (l:List UInt8) (i:Nat) (ts:List JT) (k:Nat),arrF v f l i=.ok (ts,k)→sizeL ts≤k:=by
 intro f;induction f with
 | zero=>intro l i ts k h;simp[arrF]at h
 | succ f ih=>
   intro l i ts k h;rw[arrF]at h;dsimp only at h;split at h
   ·cases h
   ·rename_i t n hvt
    have h0:=hv _ _ _ _ hvt;split at h
    ·split at h
     ·split at h
      ·cases h
      ·rename_i ts' k' hr
       have:=ih _ _ _ _ hr;injection h with h;injection h with h1 h2;subst h1;subst h2;simp only[sizeL];omega
     ·split at h
      ·injection h with h;injection h with h1 h2;subst h1;subst h2
       simp only[sizeL];omega
      ·cases h
    ·cases h
theorem objF_size(v:List UInt8→Nat→JR JT)(hv:∀l i t n,v l i=.ok (t,n)→t.size≤n):∀(f:Nat) (ks:List (List UInt8)) (l:List UInt8) (i:Nat) (ms:List (List UInt8×JT)) (k:Nat),objF v f ks l i=.ok (ms,k)→sizeM ms≤k:=by
 intro f;induction f with
 | zero=>intro ks l i ts k h;simp[objF]at h
 | succ f ih=>
   intro ks l i ms k h;rw[objF]at h;dsimp only at h;split at h
   ·cases h
   ·split at h
    ·cases h
    ·split at h
     ·split at h
      ·split at h
       ·cases h
       ·rename_i t n hvt
        have h0:=hv _ _ _ _ hvt;split at h
        ·split at h
         ·split at h
          ·cases h
          ·rename_i ms' k' hr
           have:=ih _ _ _ _ _ hr;injection h with h;injection h with h1 h2;subst h1;subst h2;simp only[sizeM];omega
         ·split at h
          ·injection h with h;injection h with h1 h2;subst h1;subst h2
           simp only[sizeM];omega
          ·cases h
        ·cases h
      ·cases h
     ·cases h
theorem valL_size:∀(d:Nat) (l:List UInt8) (i:Nat) (t:JT) (n:Nat),valL d l i=.ok (t,n)→t.size≤n:=by
 intro d;induction d with
 | zero=>
   intro l i t n h;match l with
   | []=>rw[valL_nil]at h;cases h
   | c::r=>
     rw[valL_cons]at h;split at h
     ·split at h
      ·cases h
      ·rename_i hq;have:=quotL_pos hq;injection h with h;injection h with h1 h2;subst h1;subst h2;simp[JT.size];omega
     ·split at h
      ·split at h
       ·cases h
       ·rename_i hq;have:=intL_pos hq;injection h with h;injection h with h1 h2;subst h1;subst h2;simp[JT.size];omega
      ·split at h
       ·exact wordL_size h
       ·split at h
        ·cases h
        ·cases h
 | succ d ih=>
   intro l i t n h;match l with
   | []=>rw[valL_nil]at h;cases h
   | c::r=>
     rw[valL_cons]at h;split at h
     ·split at h
      ·cases h
      ·rename_i hq;have:=quotL_pos hq;injection h with h;injection h with h1 h2;subst h1;subst h2;simp[JT.size];omega
     ·split at h
      ·split at h
       ·cases h
       ·rename_i hq;have:=intL_pos hq;injection h with h;injection h with h1 h2;subst h1;subst h2;simp[JT.size];omega
      ·split at h
       ·exact wordL_size h
       ·split at h
        ·dsimp only at h
         split at h
         ·unfold arrL at h
          dsimp only at h;split at h
          ·injection h with h;injection h with h1 h2;subst h1;subst h2;simp[JT.size,sizeL]
          ·split at h
           ·cases h
           ·rename_i hr;have:=arrF_size _ ih _ _ _ _ _ hr;injection h with h;injection h with h1 h2;subst h1;subst h2;simp only[JT.size];omega
         ·unfold objL at h
          dsimp only at h;split at h
          ·injection h with h;injection h with h1 h2;subst h1;subst h2;simp[JT.size,sizeM]
          ·split at h
           ·cases h
           ·rename_i hr;have:=objF_size _ ih _ _ _ _ _ _ hr;injection h with h;injection h with h1 h2;subst h1;subst h2;simp only[JT.size];omega
        ·cases h
theorem sizeL_append(ts:List JT)(t:JT):sizeL (ts++[t])=sizeL ts+t.size:=by
 induction ts with
 | nil=>simp[sizeL]
 | cons a r ih=>simp only[List.cons_append,sizeL,ih];omega
theorem startsL_append(b:Nat)(ts:List JT)(t:JT):startsL b (ts++[t])=startsL b ts++[b+sizeL ts]:=by
 induction ts generalizing b with
 | nil=>simp[startsL,sizeL]
 | cons a r ih=>simp only[List.cons_append,startsL,ih,sizeL,Nat.add_assoc]
theorem flatL_append(b:Nat)(ts:List JT)(t:JT):flatL b (ts++[t])=flatL b ts++flat (b+sizeL ts) [] t:=by
 induction ts generalizing b with
 | nil=>simp[flatL,sizeL]
 | cons a r ih=>simp only[List.cons_append,flatL,ih,sizeL,List.append_assoc,Nat.add_assoc]
theorem size_pos(t:JT):1≤t.size:=by cases t<;>simp only[JT.size]<;>omega
theorem startsL_length(b:Nat)(ts:List JT):(startsL b ts).length≤sizeL ts:=by
 induction ts generalizing b with
 | nil=>simp[startsL,sizeL]
 | cons a r ih=>have:=ih (b+a.size);have:=size_pos a;simp only[startsL,List.length_cons,sizeL];omega
theorem startsM_length(b:Nat)(ms:List (List UInt8×JT)):(startsM b ms).length≤sizeM ms:=by
 induction ms generalizing b with
 | nil=>simp[startsM,sizeM]
 | cons a r ih=>obtain⟨k,t⟩:=a;have:=ih (b+t.size);have:=size_pos t;simp only[startsM,List.length_cons,sizeM];omega
mutual
theorem flat_kids(b:Nat)(key:List UInt8)(t:JT):∀n∈flat b key t,n.kids.length≤t.size:=by
 cases t with
 | null i=>intro n hn;simp[flat]at hn;subst hn;simp
 | truth x i=>intro n hn;simp[flat]at hn;subst hn;simp
 | int m i=>intro n hn;simp[flat]at hn;subst hn;simp
 | str t i=>intro n hn;simp[flat]at hn;subst hn;simp
 | arr ts i=>
   intro n hn;rw[flat,List.mem_cons]at hn;rcases hn with rfl|hn
   ·have:=startsL_length (b+1) ts;simp only[JT.size];omega
   ·have:=flatL_kids (b+1) ts n hn;simp only[JT.size];omega
 | obj ms i=>
   intro n hn;rw[flat,List.mem_cons]at hn;rcases hn with rfl|hn
   ·have:=startsM_length (b+1) ms;simp only[JT.size];omega
   ·have:=flatM_kids (b+1) ms n hn;simp only[JT.size];omega
theorem flatL_kids(b:Nat)(ts:List JT):∀n∈flatL b ts,n.kids.length≤sizeL ts:=by
 cases ts with
 | nil=>intro n hn;simp[flatL]at hn
 | cons t r=>
   intro n hn;rw[flatL,List.mem_append]at hn;rcases hn with hn|hn
   ·have:=flat_kids b [] t n hn;simp only[sizeL];omega
   ·have:=flatL_kids (b+t.size) r n hn;simp only[sizeL];omega
theorem flatM_kids(b:Nat)(ms:List (List UInt8×JT)):∀n∈flatM b ms,n.kids.length≤sizeM ms:=by
 cases ms with
 | nil=>intro n hn;simp[flatM]at hn
 | cons m r=>
   obtain⟨k,t⟩:=m;intro n hn;rw[flatM,List.mem_append]at hn;rcases hn with hn|hn
   ·have:=flat_kids b k t n hn;simp only[sizeM];omega
   ·have:=flatM_kids (b+t.size) r n hn;simp only[sizeM];omega
end
theorem addKid_mem{ns:List Nd}(h:WFk ns)(up:Option Nat)(k:Nat):∀n∈addKid ns up k,n.kids.length≤ns.length+1:=by
 intro n hn;cases up with
 | none=>have:=h n hn;omega
 | some u=>
   unfold addKid at hn;obtain⟨j,hj,rfl⟩:=List.getElem_of_mem hn;rw[List.getElem_modify];have hk3:j<ns.length:=by simpa using hj
   have:=h ns[j] (List.getElem_mem hk3);split
   ·simp;omega
   ·omega
theorem flat_wf{ns:List Nd}(h:WFk ns)(up:Option Nat)(key:List UInt8)(t:JT):WFk (addKid ns up ns.length++flat ns.length key t):=by
 intro n hn;rw[List.length_append,addKid_length,flat_length];rw[List.mem_append]at hn;have hp:=size_pos t;rcases hn with hn|hn
 ·have:=addKid_mem h up ns.length n hn;omega
 ·have:=flat_kids ns.length key t n hn;omega
def arrN(ns:List Nd)(up:Option Nat)(key:List UInt8)(i:Nat)(ts:List JT):List Nd:=
 addKid ns up ns.length++flat ns.length key (.arr ts i)
theorem arrN_length(ns:List Nd)(up:Option Nat)(key:List UInt8)(i:Nat)(ts:List JT):(arrN ns up key i ts).length=ns.length+1+sizeL ts:=by
 rw[arrN,List.length_append,addKid_length,flat_length,JT.size];omega
theorem modify_mid{α:Type}(A:List α)(x:α)(F:List α)(f:α→α)(k:Nat)(h:A.length=k):(A++x::F).modify k f=A++f x::F:=by
 subst h;induction A with
 | nil=>rfl
 | cons a A ih=>simp only[List.cons_append,List.length_cons,List.modify_succ_cons,ih]
theorem arrN_add(ns:List Nd)(up:Option Nat)(key:List UInt8)(i:Nat)(ts:List JT)(t:JT):addKid (arrN ns up key i ts) (some ns.length) (arrN ns up key i ts).length++flat (arrN ns up key i ts).length [] t=arrN ns up key i (ts++[t]):=by
 rw[arrN_length];unfold arrN;rw[flat,flat];show(List.modify _ _ _)++_=_
 rw[modify_mid _ _ _ _ _ (addKid_length ns up ns.length),startsL_append,flatL_append];simp[Nat.add_assoc]
def finA(ts:List JT)(i p:Nat):JR (List JT)→JR JT
 | .error e=>.error e
 | .ok (ts',k)=>.ok (.arr (ts++ts') i,p-i+k)
theorem nb_le(l:List UInt8):nb l≤l.length:=by
 induction l with
 | nil=>simp[nb]
 | cons c r ih=>rw[nb];split<;>simp<;>omega
theorem arrL_eq(v:List UInt8→Nat→JR JT)(s:ByteArray)(i p:Nat)(hp:i+1+nb (sfx s (i+1))=p):arrL v (sfx s i) i=if(sfx s p).head?=some 93 then .ok (.arr [] i,p-i+1)else finA [] i p (arrF v ((sfx s i).length+1) (sfx s p) p):=by
 unfold arrL;dsimp only;rw[sfx_drop,sfx_drop,show i+(1+nb (sfx s (i+1)))=p by omega,show 1+nb (sfx s (i+1))=p-i by omega];split
 ·rfl
 ·unfold finA;split<;>simp_all
theorem arrF_er(v:List UInt8→Nat→JR JT)(s:ByteArray)(p f:Nat)(e:Nat×Nat)(h:v (sfx s (p+nb (sfx s p))) (p+nb (sfx s p))=.error e):arrF v (f+1) (sfx s p) p=.error e:=by
 rw[arrF];dsimp only;rw[sfx_drop,h]
theorem arrF_more(v:List UInt8→Nat→JR JT)(s:ByteArray)(p f p2 p3 n:Nat)(t:JT)(h2:p+nb (sfx s p)=p2)(h:v (sfx s p2) p2=.ok (t,n))(h3:p2+n+nb (sfx s (p2+n))=p3)(hc:(sfx s p3).head?=some 44):arrF v (f+1) (sfx s p) p=match arrF v f (sfx s (p3+1)) (p3+1)with| .error e=>.error e| .ok (ts,k)=>.ok (t::ts,p3+1-p+k):=by
 rw[arrF];dsimp only;rw[sfx_drop,h2,h];dsimp only;rw[sfx_drop,sfx_drop,sfx_drop,show p+(nb (sfx s p)+n)=p2+n by omega,show p+(nb (sfx s p)+n+nb (sfx s (p2+n)))=p3 by omega,show p+(nb (sfx s p)+n+nb (sfx s (p2+n))+1)=p3+1 by omega,show nb (sfx s p)+n+nb (sfx s (p2+n))+1=p3+1-p by omega];match hs:sfx s p3 with
 | []=>rw[hs]at hc;simp at hc
 | c::r=>
   rw[hs]at hc;have hc:c=44:=by simpa using hc
   simp only[hc,if_true];all_goals rfl
theorem arrF_last(v:List UInt8→Nat→JR JT)(s:ByteArray)(p f p2 p3 n:Nat)(t:JT)(h2:p+nb (sfx s p)=p2)(h:v (sfx s p2) p2=.ok (t,n))(h3:p2+n+nb (sfx s (p2+n))=p3)(hc:(sfx s p3).head?≠some 44):arrF v (f+1) (sfx s p) p=if(sfx s p3).head?=some 93 then .ok ([t],p3+1-p)else .error (2,p3):=by
 rw[arrF];dsimp only;rw[sfx_drop,h2,h];dsimp only;rw[sfx_drop,sfx_drop,sfx_drop,show p+(nb (sfx s p)+n)=p2+n by omega,show p+(nb (sfx s p)+n+nb (sfx s (p2+n)))=p3 by omega,show p+(nb (sfx s p)+n+nb (sfx s (p2+n))+1)=p3+1 by omega,show nb (sfx s p)+n+nb (sfx s (p2+n))+1=p3+1-p by omega];match hs:sfx s p3 with
 | []=>simp
 | c::r=>
   rw[hs]at hc;have hc:c≠44:=by simpa using hc
   simp[hc]
theorem finA_more(ts:List JT)(t:JT)(i p q:Nat)(h:i≤p)(hq:p≤q)(X:JR (List JT)):finA ts i p (match X with| .error e=>.error e| .ok (ts',k)=>.ok (t::ts',q-p+k))=finA (ts++[t]) i q X:=by
 cases X with
 | error e=>rfl
 | ok x=>obtain⟨a,b⟩:=x;simp[finA];omega
theorem finA_last(ts:List JT)(t:JT)(i p p3:Nat)(h:i≤p)(hq:p≤p3)(c:Prop) [Decidable c]:finA ts i p (if c then .ok ([t],p3+1-p)else .error (2,p3))=if c then .ok (.arr (ts++[t]) i,p3-i+1)else .error (2,p3):=by
 split
 ·simp[finA];omega
 ·rfl
section
variable (bp:Nat) (s:ByteArray) (i:Nat) (ns:List Nd) (up:Option Nat) (key:List UInt8) (at0 dp:Nat) (w:World)
def boolOf:Value→Bool| .bool b=>b|_=>false
def AM(v:Value)(wr:World):Nat:=if boolOf v=true∧posOf (wr.cell? ⟨bp,3,none⟩)=0 then s.size+2-posOf (wr.cell? ⟨bp,1,none⟩)+1 else 0
theorem AM_no{w':World}:AM bp s (.bool false) w'=0:=by unfold AM;rw[if_neg (by simp[boolOf])]
theorem arrL_head(v:List UInt8→Nat→JR JT)(s:ByteArray)(i p:Nat)(hp:i+1+nb (sfx s (i+1))=p)(hh:(sfx s p).head?=some 93):arrL v (sfx s i) i=if(sfx s p).head?=some 93 then .ok (.arr [] i,p-i+1)else .error (2,p):=by
 rw[arrL_eq v s i p hp,if_pos hh,if_pos hh]
end
theorem rowN_key:∀(ns:List Nd) (vs:List Value) (u:Nat) (n:Nd),vs.length=ns.length→ns[u]?=some n→(rowN ns vs)[u*6+1]?=some (.string ⟨n.key.toArray⟩):=by
 intro ns;induction ns with
 | nil=>intro vs u n h hn;simp at hn
 | cons m ns ih=>
   intro vs u n h hn;match vs,h with
   | v::vs,h=>
     match u with
     | 0=>simp at hn;subst hn;simp[rowN,ndCells]
     | u+1=>
       have e:(u+1)*6+1=(ndCells m v).length+(u*6+1):=by simp[ndCells];omega
       rw[rowN,e,List.getElem?_append_right (Nat.le_add_right _ _),Nat.add_sub_cancel_left];exact ih vs u n (by simpa using h) (by simpa using hn)
theorem Nodes.cells{B g:Nat}{tN:TypeId}{cap:Nat}{L:List Nd}{w:World}(h:Nodes B tN (.slice (some ⟨g,0,none⟩) L.length cap) L w):(∀u n,L[u]?=some n→w.cell? ⟨g,u*6+1,none⟩=some (.string ⟨n.key.toArray⟩))∧(∀u n,L[u]?=some n→∃adk capk,w.cell? ⟨g,u*6+4,none⟩=some (.slice adk n.kids.length capk)∧(∀j k,n.kids[j]?=some k→∃gk,adk=some ⟨gk,0,none⟩∧w.cell? ⟨gk,j,none⟩=some (iV k))):=by
 obtain⟨kvs,k1,k2,k3,k4⟩:=h;have hadd:∀(g j:Nat),(⟨g,0,none⟩:Addr).add j=⟨g,j,none⟩:=fun g j=>by unfold Addr.add;split<;>simp_all
 refine⟨fun u n hn=>?_,fun u n hn=>?_⟩
 ·have:=k2.cells (g:=g) rfl (u*6+1) _ (rowN_key L kvs u n k1 hn)
  rwa [hadd]at this
 ·have hul:u<L.length:=(List.getElem?_eq_some_iff.1 hn).1
  obtain⟨kv,hkv⟩:∃kv,kvs[u]?=some kv:=⟨_,List.getElem?_eq_getElem (by omega)⟩;have hrow:=k3 u n kv hn hkv;have hc:=k2.cells (g:=g) rfl (u*6+4) _ (rowN_get L kvs u kv k1 hkv);rw[hadd]at hc;rcases hrow.2 with⟨a,b⟩|⟨gk,c,cu,a,_⟩
  ·refine⟨none,0,by rw[hc,a,b],fun j k hj=>?_⟩
   have:=(List.getElem?_eq_some_iff.1 hj).1;omega
  ·refine⟨some ⟨gk,0,none⟩,c,by rw[hc,a],fun j k hj=>⟨gk,rfl,?_⟩⟩
   have:=hrow.cells (g:=gk) (by rw[a];rfl) j (iV k) (by rw[List.getElem?_map,hj];rfl);rwa [hadd]at this
theorem sizeM_append(ms:List (List UInt8×JT))(k:List UInt8)(t:JT):sizeM (ms++[(k,t)])=sizeM ms+t.size:=by
 induction ms with
 | nil=>simp[sizeM]
 | cons a r ih=>obtain⟨x,y⟩:=a;simp only[List.cons_append,sizeM,ih];omega
theorem startsM_append(b:Nat)(ms:List (List UInt8×JT))(k:List UInt8)(t:JT):startsM b (ms++[(k,t)])=startsM b ms++[b+sizeM ms]:=by
 induction ms generalizing b with
 | nil=>simp[startsM,sizeM]
 | cons a r ih=>obtain⟨x,y⟩:=a;simp only[List.cons_append,startsM,ih,sizeM,Nat.add_assoc]
theorem flatM_append(b:Nat)(ms:List (List UInt8×JT))(k:List UInt8)(t:JT):flatM b (ms++[(k,t)])=flatM b ms++flat (b+sizeM ms) k t:=by
 induction ms generalizing b with
 | nil=>simp[flatM,sizeM]
 | cons a r ih=>obtain⟨x,y⟩:=a;simp only[List.cons_append,flatM,ih,sizeM,List.append_assoc,Nat.add_assoc]
theorem flat_head(b:Nat)(key:List UInt8)(t:JT):∃n r,flat b key t=n::r∧n.key=key:=by
 cases t with
 | null i=>exact⟨_,_,by rw[flat],rfl⟩
 | truth x i=>exact⟨_,_,by rw[flat],rfl⟩
 | int m i=>exact⟨_,_,by rw[flat],rfl⟩
 | str t i=>exact⟨_,_,by rw[flat],rfl⟩
 | arr ts i=>exact⟨_,_,by rw[flat],rfl⟩
 | obj ms i=>exact⟨_,_,by rw[flat],rfl⟩
theorem startsM_lt(b:Nat)(ms:List (List UInt8×JT)):∀k∈startsM b ms,k<b+sizeM ms:=by
 induction ms generalizing b with
 | nil=>intro k hk;simp[startsM]at hk
 | cons a r ih=>
   obtain⟨x,t⟩:=a;intro k hk;have hp:=size_pos t;rw[startsM,List.mem_cons]at hk;simp only[sizeM];rcases hk with rfl|hk
   ·omega
   ·have:=ih _ k hk;omega
theorem startsM_ge(b:Nat)(ms:List (List UInt8×JT)):∀k∈startsM b ms,b≤k:=by
 induction ms generalizing b with
 | nil=>intro k hk;simp[startsM]at hk
 | cons a r ih=>
   obtain⟨x,t⟩:=a;intro k hk;rw[startsM,List.mem_cons]at hk;rcases hk with rfl|hk
   ·omega
   ·have:=ih _ k hk;omega
theorem startsM_key(ms:List (List UInt8×JT))(name:List UInt8):∀(b:Nat) (pre:List Nd),pre.length=b→((∃(k:Nat) (n2:Nd),k∈startsM b ms∧(pre++flatM b ms)[k]?=some n2∧n2.key=name)↔name∈ms.map (·.1)):=by
 induction ms with
 | nil=>intro b pre hp;simp[startsM]
 | cons a r ih=>
   obtain⟨x,t⟩:=a;intro b pre hp;have h0:=ih (b+t.size) (pre++flat b x t) (by rw[List.length_append,flat_length,hp]);obtain⟨n0,r0,hf,hk0⟩:=flat_head b x t;have hat:(pre++flatM b ((x,t)::r))[b]?=some n0:=by
    rw[flatM,hf,List.getElem?_append_right (by omega),hp,Nat.sub_self];rfl
   have hap:pre++flatM b ((x,t)::r)=pre++flat b x t++flatM (b+t.size) r:=by rw[flatM,List.append_assoc]
   rw[startsM];constructor
   ·rintro⟨k,n2,hk,hn,he⟩
    rw[List.mem_cons]at hk;rcases hk with rfl|hk
    ·rw[hat]at hn
     injection hn with hn;subst hn;rw[List.map_cons,List.mem_cons];left;rw[←he,hk0]
    ·rw[List.map_cons,List.mem_cons];right
     rw[hap]at hn;exact h0.1 ⟨k,n2,hk,hn,he⟩
   ·intro h
    rw[List.map_cons,List.mem_cons]at h;rcases h with h|h
    ·exact⟨b,n0,by simp,hat,by rw[hk0,h]⟩
    ·obtain⟨k,n2,hk,hn,he⟩:=h0.2 h
     exact⟨k,n2,by simp[hk],by rw[hap];exact hn,he⟩
def objN(ns:List Nd)(up:Option Nat)(key:List UInt8)(i:Nat)(ms:List (List UInt8×JT)):List Nd:=
 addKid ns up ns.length++flat ns.length key (.obj ms i)
theorem objN_length(ns:List Nd)(up:Option Nat)(key:List UInt8)(i:Nat)(ms:List (List UInt8×JT)):(objN ns up key i ms).length=ns.length+1+sizeM ms:=by
 rw[objN,List.length_append,addKid_length,flat_length,JT.size];omega
theorem objN_add(ns:List Nd)(up:Option Nat)(key:List UInt8)(i:Nat)(ms:List (List UInt8×JT))(k:List UInt8)(t:JT):addKid (objN ns up key i ms) (some ns.length) (objN ns up key i ms).length++flat (objN ns up key i ms).length k t=objN ns up key i (ms++[(k,t)]):=by
 rw[objN_length];unfold objN;rw[flat,flat];show(List.modify _ _ _)++_=_
 rw[modify_mid _ _ _ _ _ (addKid_length ns up ns.length),startsM_append,flatM_append];simp[Nat.add_assoc]
theorem objN_self(ns:List Nd)(up:Option Nat)(key:List UInt8)(i:Nat)(ms:List (List UInt8×JT)):(objN ns up key i ms)[ns.length]?=some ⟨5,key,[],0,startsM (ns.length+1) ms,i⟩:=by
 rw[objN,flat,List.getElem?_append_right (by rw[addKid_length];omega),addKid_length,Nat.sub_self];rfl
theorem objN_keys(ns:List Nd)(up:Option Nat)(key:List UInt8)(i:Nat)(ms:List (List UInt8×JT))(name:List UInt8):(∃(k:Nat) (n2:Nd),k∈startsM (ns.length+1) ms∧(objN ns up key i ms)[k]?=some n2∧(⟨n2.key.toArray⟩:ByteArray)=⟨name.toArray⟩)↔name∈ms.map (·.1):=by
 have h:=startsM_key ms name (ns.length+1) (addKid ns up ns.length++[⟨5,key,[],0,startsM (ns.length+1) ms,i⟩]) (by rw[List.length_append,addKid_length];rfl);rw[←h];have e:objN ns up key i ms=addKid ns up ns.length++[⟨5,key,[],0,startsM (ns.length+1) ms,i⟩]++flatM (ns.length+1) ms:=by rw[objN,flat];simp
 rw[e];constructor
 ·rintro⟨k,n2,a,b,c⟩
  refine⟨k,n2,a,b,?_⟩;injection c with c;have:=congrArg Array.toList c;simpa using this
 ·rintro⟨k,n2,a,b,c⟩
  exact⟨k,n2,a,b,by rw[c]⟩
def finO(ms:List (List UInt8×JT))(i p:Nat):JR (List (List UInt8×JT))→JR JT
 | .error e=>.error e
 | .ok (ms',k)=>.ok (.obj (ms++ms') i,p-i+k)
theorem objL_eq(v:List UInt8→Nat→JR JT)(s:ByteArray)(i p:Nat)(hp:i+1+nb (sfx s (i+1))=p):objL v (sfx s i) i=if(sfx s p).head?=some 125 then .ok (.obj [] i,p-i+1)else finO [] i p (objF v ((sfx s i).length+1) [] (sfx s p) p):=by
 unfold objL;dsimp only;rw[sfx_drop,sfx_drop,show i+(1+nb (sfx s (i+1)))=p by omega,show 1+nb (sfx s (i+1))=p-i by omega];split
 ·rfl
 ·unfold finO;split<;>simp_all
theorem objF_quot(v:List UInt8→Nat→JR JT)(s:ByteArray)(p f p2 o:Nat)(ks:List (List UInt8))(h2:p+nb (sfx s p)=p2)(h:quotL (sfx s p2)=.error o):objF v (f+1) ks (sfx s p) p=.error (2,p2+o):=by
 rw[objF];dsimp only;rw[sfx_drop,h2,h]
theorem objF_twice(v:List UInt8→Nat→JR JT)(s:ByteArray)(p f p2 m:Nat)(ks:List (List UInt8))(name:List UInt8)(h2:p+nb (sfx s p)=p2)(h:quotL (sfx s p2)=.ok (name,m))(hk:name∈ks):objF v (f+1) ks (sfx s p) p=.error (4,p2):=by
 rw[objF];dsimp only;rw[sfx_drop,h2,h];simp[hk]
theorem objF_colon(v:List UInt8→Nat→JR JT)(s:ByteArray)(p f p2 p3 m:Nat)(ks:List (List UInt8))(name:List UInt8)(h2:p+nb (sfx s p)=p2)(h:quotL (sfx s p2)=.ok (name,m))(hk:name∉ks)(h3:p2+m+nb (sfx s (p2+m))=p3)(hc:(sfx s p3).head?≠some 58):objF v (f+1) ks (sfx s p) p=.error (2,p3):=by
 rw[objF];dsimp only;rw[sfx_drop,h2,h];dsimp only;rw[if_neg hk,sfx_drop,sfx_drop,show p+(nb (sfx s p)+m)=p2+m by omega,show p+(nb (sfx s p)+m+nb (sfx s (p2+m)))=p3 by omega];match hs:sfx s p3 with
 | []=>rfl
 | c::r=>
   rw[hs]at hc;have hc:c≠58:=by simpa using hc
   simp[hc]
theorem objF_val(v:List UInt8→Nat→JR JT)(s:ByteArray)(p f p2 p3 p4 m:Nat)(ks:List (List UInt8))(name:List UInt8)(h2:p+nb (sfx s p)=p2)(h:quotL (sfx s p2)=.ok (name,m))(hk:name∉ks)(h3:p2+m+nb (sfx s (p2+m))=p3)(hc:(sfx s p3).head?=some 58)(h4:p3+1+nb (sfx s (p3+1))=p4):objF v (f+1) ks (sfx s p) p=match v (sfx s p4) p4 with
 | .error e=>.error e
 | .ok (t,n)=>
   match sfx s (p4+n+nb (sfx s (p4+n)))with
   | c::_=>
     if c=44 then(match objF v f (ks++[name]) (sfx s (p4+n+nb (sfx s (p4+n))+1)) (p4+n+nb (sfx s (p4+n))+1)with| .error e=>.error e| .ok (ms,k)=>.ok ((name,t)::ms,p4+n+nb (sfx s (p4+n))+1-p+k))
     else if c=125 then .ok ([(name,t)],p4+n+nb (sfx s (p4+n))+1-p)else .error (2,p4+n+nb (sfx s (p4+n)))
   | []=>.error (2,p4+n+nb (sfx s (p4+n))):=by
 rw[objF];dsimp only;rw[sfx_drop,h2,h];dsimp only;rw[if_neg hk,sfx_drop,sfx_drop,show p+(nb (sfx s p)+m)=p2+m by omega,show p+(nb (sfx s p)+m+nb (sfx s (p2+m)))=p3 by omega];match hs:sfx s p3 with
 | []=>rw[hs]at hc;simp at hc
 | c::r=>
   rw[hs]at hc;have hc:c=58:=by simpa using hc
   simp only[hc,if_true];simp only[sfx_drop];rw[show p+(nb (sfx s p)+m+nb (sfx s (p2+m))+1)=p3+1 by omega,show p+(nb (sfx s p)+m+nb (sfx s (p2+m))+1+nb (sfx s (p3+1)))=p4 by omega];cases v (sfx s p4) p4 with
   | error e=>rfl
   | ok q=>
     obtain⟨t,n⟩:=q;dsimp only
     rw[show p+(nb (sfx s p)+m+nb (sfx s (p2+m))+1+nb (sfx s (p3+1))+n)=p4+n by omega,
      show p+(nb (sfx s p)+m+nb (sfx s (p2+m))+1+nb (sfx s (p3+1))+n+nb (sfx s (p4+n)))=p4+n+nb (sfx s (p4+n))by omega,
      show p+(nb (sfx s p)+m+nb (sfx s (p2+m))+1+nb (sfx s (p3+1))+n+nb (sfx s (p4+n))+1)=p4+n+nb (sfx s (p4+n))+1 by omega,
      show nb (sfx s p)+m+nb (sfx s (p2+m))+1+nb (sfx s (p3+1))+n+nb (sfx s (p4+n))+1=p4+n+nb (sfx s (p4+n))+1-p by omega]
     all_goals rfl
theorem finO_more(ms:List (List UInt8×JT))(x:List UInt8×JT)(i p q:Nat)(h:i≤p)(hq:p≤q)(X:JR (List (List UInt8×JT))):finO ms i p (match X with| .error e=>.error e| .ok (ms',k)=>.ok (x::ms',q-p+k))=finO (ms++[x]) i q X:=by
 cases X with
 | error e=>rfl
 | ok y=>obtain⟨a,b⟩:=y;simp[finO];omega
section
variable (bp:Nat) (s:ByteArray) (i:Nat) (ns:List Nd) (up:Option Nat) (key:List UInt8) (at0 dp:Nat) (w:World)
theorem objL_head(v:List UInt8→Nat→JR JT)(s:ByteArray)(i p:Nat)(hp:i+1+nb (sfx s (i+1))=p)(hh:(sfx s p).head?=some 125):objL v (sfx s i) i=if(sfx s p).head?=some 125 then .ok (.obj [] i,p-i+1)else .error (2,p):=by
 rw[objL_eq v s i p hp,if_pos hh,if_pos hh]
end
section
variable (bp:Nat) (s:ByteArray) (i:Nat) (ns:List Nd) (up:Option Nat) (key:List UInt8) (at0 dp:Nat) (w:World)
end
theorem readL_eq(s:ByteArray)(hs:s.size≤65536)(p:Nat)(hp:nb (sfx s 0)=p):readL s.data.toList=(match valL 32 (sfx s p) p with
 | .error e=>.error e
 | .ok (t,n)=>if p+n+nb (sfx s (p+n))<s.size then .error (2,p+n+nb (sfx s (p+n)))else .ok t):=by
 have e0:s.data.toList=sfx s 0:=rfl;unfold readL;rw[if_neg (by simp;omega),e0,hp];dsimp only;rw[sfx_drop,Nat.zero_add];cases valL 32 (sfx s p) p with
 | error e=>rfl
 | ok q=>
   obtain⟨t,n⟩:=q;dsimp only;rw[sfx_drop,Nat.zero_add,sfx_length,Nat.sub_zero]
def lowC(n:Nat):UInt8:=if n<10 then UInt8.ofNat (48+n)else UInt8.ofNat (87+n)
def sgnL(c:UInt8):List UInt8:=
 if c=34∨c=92 then [92,c]else if c=8 then [92,98]else if c=9 then [92,116]else if c=10 then [92,110]else if c=12 then [92,102]else if c=13 then [92,114]
 else if c.toNat<32 then [92,117,48,48,lowC (c.toNat/16),lowC (c.toNat%16)]else [c]
def sgnsL:List UInt8→List UInt8|[]=>[]|c::r=>sgnL c++sgnsL r
def strT(t:List UInt8):List UInt8:=34::sgnsL t++[34]
theorem sgnL_len(c:UInt8):(sgnL c).length≤6:=by
 unfold sgnL;repeat' split
 all_goals simp
theorem sgnsL_append(a b:List UInt8):sgnsL (a++b)=sgnsL a++sgnsL b:=by
 induction a with
 | nil=>rfl
 | cons c r ih=>simp only[List.cons_append,sgnsL,ih,List.append_assoc]
theorem sgnsL_len(l:List UInt8):(sgnsL l).length≤6*l.length:=by
 induction l with
 | nil=>simp[sgnsL]
 | cons c r ih=>have:=sgnL_len c;simp only[sgnsL,List.length_append,List.length_cons];omega
section
attribute [local go_sem] conv1 conv2
end
def decN(n:Nat):List UInt8:=if h:n<10 then [UInt8.ofNat (48+n)]else decN (n/10)++[UInt8.ofNat (48+n%10)]
termination_by n
decreasing_by omega
theorem decN_small(n:Nat)(h:n<10):decN n=[UInt8.ofNat (48+n)]:=by rw[decN,dif_pos h]
theorem decN_big(n:Nat)(h:10≤n):decN n=decN (n/10)++[UInt8.ofNat (48+n%10)]:=by rw[decN,dif_neg (by omega)]
def decI(n:Int):List UInt8:=if n<0 then 45::decN (-n).toNat else decN n.toNat
theorem decN_len:∀(n k:Nat),n<10^k→(decN n).length≤k+1:=by
 intro n k;induction k generalizing n with
 | zero=>intro h;rw[decN_small n (by simp at h;omega)];simp
 | succ k ih=>
   intro h;by_cases hn:n<10
   ·rw[decN_small n hn];simp
   ·rw[decN_big n (by omega),List.length_append]
    have:=ih (n/10) (by rw[Nat.pow_succ]at h;omega);simp;omega
section
attribute [local go_sem] conv1
end
theorem arr_snoc(l:List UInt8)(c:UInt8):(⟨l.toArray⟩:ByteArray)++⟨#[c]⟩=⟨(l++[c]).toArray⟩:=by
 apply ByteArray.ext;rw[ByteArray.data_append];simp
theorem decN_le{n:Nat}(h:n≤9223372036854775808):(decN n).length≤20:=decN_len n 19 (by omega)
def stepL(l:List UInt8):Nat:=if seqLen l=0 then 1 else seqLen l
theorem stepL_pos(l:List UInt8):1≤stepL l:=by unfold stepL;split<;>omega
def runeTo(l:List UInt8)(n:Nat):Nat→Nat
 | 0=>if n≤1 then(l.getD 0 0).toNat else(l.getD 0 0).toNat%2^(7-n)
 | k+1=>64*runeTo l n k+(l.getD (k+1) 0).toNat%64
def runeL(l:List UInt8):Nat:=runeTo l (stepL l) (stepL l-1)
def unitR(r:Nat):List Nat:=if r<65536 then [r]else [55296+(r-65536)/1024,56320+(r-65536)%1024]
def unitsL(l:List UInt8):List Nat:=if h:l=[]then []else unitR (runeL l)++unitsL (l.drop (stepL l))
termination_by l.length
decreasing_by
 have:=stepL_pos l;have:=List.length_pos_iff.2 h;rw[List.length_drop];omega
theorem unitsL_nil:unitsL []=[]:=by rw[unitsL,dif_pos rfl]
theorem unitsL_step(l:List UInt8)(h:l≠[]):unitsL l=unitR (runeL l)++unitsL (l.drop (stepL l)):=by rw[unitsL,dif_neg h]
theorem runeTo_lt(l:List UInt8)(n:Nat):∀k,runeTo l n k<256*64^k:=by
 intro k;induction k with
 | zero=>
   have h:=(l.getD 0 0).toNat_lt;simp only[runeTo];split
   ·omega
   ·have:=Nat.mod_le (l.getD 0 0).toNat (2^(7-n));omega
 | succ k ih=>simp only[runeTo];rw[Nat.pow_succ];have:=Nat.mod_lt (l.getD (k+1) 0).toNat (y:=64) (by omega);omega
theorem unitR_len(r:Nat):(unitR r).length≤2:=by unfold unitR;split<;>simp
theorem unitR_pos(r:Nat):1≤(unitR r).length:=by unfold unitR;split<;>simp
theorem unitsL_len(l:List UInt8):(unitsL l).length≤2*l.length:=by
 match hm:l.length with
 | 0=>obtain rfl:=List.length_eq_zero_iff.1 hm;simp[unitsL_nil]
 | m+1=>
   have hne:l≠[]:=by intro h;rw[h]at hm;simp at hm
   have h1:=stepL_pos l;rw[unitsL_step l hne,List.length_append];have:=unitsL_len (l.drop (stepL l));have:=unitR_len (runeL l);rw[List.length_drop]at *;omega
termination_by l.length
decreasing_by rw[List.length_drop];omega
theorem sfx_getD(s:ByteArray)(i k:Nat)(h:i+k<s.size):(sfx s i).getD k 0=s[i+k]:=by
 rw[List.getD_eq_getElem?_getD,sfx_get s i k h];rfl
theorem one_cellJ(w:World)(y:Value)(e:TypeId):∀(j:Nat) (u:Value),[y][j]?=some u→(w.alloc (.cells #[y] e)).cell? ((⟨w.heap.size,0,none⟩:Addr).add j)=some u:=by
 intro j u h;match j with
 | 0=>simp at h;subst h;simp[Addr.add]
 | j+1=>simp at h
theorem wp_appN{P:Program}{ops:Array Oper}{rest:List Oper}{o:Oper}{a:Act}{Q:Exit→Act→World→Prop}(hgd:o.guard=none)(s x:Operand)(t:TypeId)(ho:o.op=.call {callee:=.builtin .append,args:= #[s,x],argTypes:= #[t,t]})
 (e:TypeId) (i:TypeInfo) (ht:P.underlying t=some (.slice e)) (hi:P.info? e=some i) (hz:i.zero=some (.int .i64 0)) (hsize:i.size=1) (hby:i.bytes=8)
 (B:Nat) (v:Value) (n:Nat) (xs:List Value) (y:Value) (hy:y.oneCell'=true) (w0:World) (hs:a.eval s=v) (hown:w0.ownsRow B e 1 v n xs) (hB:B≤w0.heap.size) (hlen:n≤10000000000000)
 (hx:a.eval x=.slice (some ⟨w0.heap.size,0,none⟩) 1 1)
 (h:∀v' w',w'.ownsRow B e 1 v' (n+1) (xs++[y])→Below B w0 w'→wpList P ops Q rest (a.put o.dst v') w'):wpList P ops Q (o::rest) a (w0.alloc (.cells #[y] e)):=by
 refine wpList_append_own _ hgd s x t ho B e i (.int .i64 0) 1 8 ht hi hz hsize hby rfl (by decide) v n xs hs (hown.alloc _) ⟨w0.heap.size,0,none⟩ 1 1 [y] hx rfl (one_cellJ w0 y e) (by intro u hu;simp at hu;subst hu;exact hy) (by unfold maxLen;omega) (by omega) (by simp;omega) ?_;intro v' w' h1 h2 _;refine h v' w' h1 (((Below.refl B w0).alloc hB _).grown h2 (by simp;omega) ?_);intro k hk;exact(hown.lt k hk).1
theorem wr_step(X c:Nat)(hX:X<67108864)(hc:c<256):wrap64 (64*(X:Int)+(wrap64 (c:Int)).tmod 64)=((64*X+c%64:Nat):Int):=by
 have h1:wrap64 (c:Int)=(c:Int):=by unfold wrap64;omega
 have h2:(c:Int).tmod 64=((c%64:Nat):Int):=rfl;rw[h1,h2];have:=Nat.mod_lt c (y:=64) (by omega);unfold wrap64;omega
theorem seq5(l:List UInt8):seqLen l=0∨seqLen l=1∨seqLen l=2∨seqLen l=3∨seqLen l=4:=by
 have:=seqLen_le4 l;omega
def UInv(s:ByteArray)(w:World)(v i:Value)(wr:World):Prop:=
 ∃(j:Nat) (us:List Nat),j≤s.size∧i=.int .i64 (j:Int)∧us.length≤2*j∧unitsL s.data.toList=us++unitsL (sfx s j)∧wr.ownsRow w.heap.size 3 1 v us.length (us.map iV)∧Below w.heap.size w wr
theorem UInv.next{s:ByteArray}{w wr:World}{v:Value}{j:Nat}{us ys:List Nat}{i:Int}(hj:j<s.size)(hu:us.length≤2*j)(he:unitsL s.data.toList=us++unitsL (sfx s j))(hi:i=((j+stepL (sfx s j):Nat):Int))(hsz:j+stepL (sfx s j)≤s.size)(hy:ys=unitR (runeL (sfx s j)))(ho:wr.ownsRow w.heap.size 3 1 v (us.length+ys.length) (us.map iV++ys.map iV))(hb:Below w.heap.size w wr):UInv s w v (.int .i64 i) wr:=by
 subst hi;refine⟨j+stepL (sfx s j),us++ys,hsz,rfl,?_,?_,?_,hb⟩
 ·have h1:=stepL_pos (sfx s j)
  have h2:=unitR_len (runeL (sfx s j));rw[List.length_append,hy];omega
 ·rw[he,unitsL_step (sfx s j) (by rw[sfx_cons s j hj];simp),sfx_drop,hy,List.append_assoc]
 ·rw[List.length_append,List.map_append];exact ho
def aheadU:List Nat→List Nat→Bool
 | x::xs,y::ys=>if x=y then aheadU xs ys else decide (x<y)
 | [],_::_=>true
 | _,[]=>false
def aheadL(a b:List UInt8):Bool:=aheadU (unitsL a) (unitsL b)
theorem aheadU_step(a b:List Nat)(j x:Nat)(ha:a[j]?=some x)(hb:b[j]?=some x):aheadU (a.drop j) (b.drop j)=aheadU (a.drop (j+1)) (b.drop (j+1)):=by
 obtain⟨h1,h1'⟩:=List.getElem?_eq_some_iff.1 ha;obtain⟨h2,h2'⟩:=List.getElem?_eq_some_iff.1 hb;rw[List.drop_eq_getElem_cons h1,List.drop_eq_getElem_cons h2,aheadU,h1',h2',if_pos rfl]
theorem aheadU_ne(a b:List Nat)(j x y:Nat)(ha:a[j]?=some x)(hb:b[j]?=some y)(h:x≠y):aheadU (a.drop j) (b.drop j)=decide (x<y):=by
 obtain⟨h1,h1'⟩:=List.getElem?_eq_some_iff.1 ha;obtain⟨h2,h2'⟩:=List.getElem?_eq_some_iff.1 hb;rw[List.drop_eq_getElem_cons h1,List.drop_eq_getElem_cons h2,aheadU,h1',h2',if_neg h]
theorem aheadU_end(a b:List Nat)(j:Nat)(hj:j≤a.length)(hj':j≤b.length)(h:a.length≤j∨b.length≤j):aheadU (a.drop j) (b.drop j)=decide (a.length<b.length):=by
 by_cases h1:a.length≤j
 ·rw[List.drop_of_length_le h1]
  by_cases h2:b.length≤j
  ·rw[List.drop_of_length_le h2,aheadU];simp;omega
  ·rw[List.drop_eq_getElem_cons (by omega),aheadU];simp;omega
 ·have h2:b.length≤j:=by omega
  rw[List.drop_of_length_le h2,List.drop_eq_getElem_cons (by omega),aheadU];simp;omega
def IRow(w:World)(v:Value)(us:List Nat):Prop:=
 ∃ad cap,v=.slice ad us.length cap∧∀j k:Nat,us[j]?=some k→∃g,ad=some ⟨g,0,none⟩∧w.cell? ⟨g,j,none⟩=some (.int .i64 (k:Int))
theorem IRow.of{B:Nat}{e:TypeId}{w:World}{v:Value}{us:List Nat}(h:w.ownsRow B e 1 v us.length (us.map iV)):IRow w v us:=by
 have hadd:∀(g j:Nat),(⟨g,0,none⟩:Addr).add j=⟨g,j,none⟩:=fun g j=>by unfold Addr.add;split<;>simp_all
 rcases h.2 with⟨a,b⟩|⟨g,c,cu,a,_⟩
 ·refine⟨none,0,by rw[a,b],fun j k hj=>?_⟩
  obtain rfl:=List.length_eq_zero_iff.1 b;simp at hj
 ·refine⟨some ⟨g,0,none⟩,c,a,fun j k hj=>⟨g,rfl,?_⟩⟩
  have:=h.cells (g:=g) (by rw[a];rfl) j (iV k) (by simp[hj]);rwa [hadd]at this
theorem IRow.keep{w w':World}{v:Value}{us:List Nat}(h:IRow w v us)(hc:∀g j u,w.cell? ⟨g,j,none⟩=some u→w'.cell? ⟨g,j,none⟩=some u):IRow w' v us:=by
 obtain⟨ad,cap,h1,h2⟩:=h;refine⟨ad,cap,h1,fun j k hj=>?_⟩;obtain⟨g,a,b⟩:=h2 j k hj;exact⟨g,a,hc _ _ _ b⟩
theorem IRow.drewN{w:World}{v:Value}{us:List Nat}(h:IRow w v us)(n:Nat):IRow (w.drewN n) v us:=h.keep fun g j u hc=>by simpa using hc
theorem cell_keep{w w':World}(h:Below w.heap.size w w'){g j:Nat}{u:Value}(hc:w.cell? ⟨g,j,none⟩=some u):w'.cell? ⟨g,j,none⟩=some u:=by
 by_cases hg:g<w.heap.size
 ·have:=h.block g hg
  simp only[World.cell?]at hc ⊢;rw[this];exact hc
 ·have:w.heap[g]?=none:=Array.getElem?_eq_none (by omega)
  simp[World.cell?,this]at hc
def insR(lt:Nat→Nat→Bool)(x:Nat):List Nat→List Nat
 | []=>[x]
 | y::r=>if lt x y=true then y::insR lt x r else x::y::r
def insL(lt:Nat→Nat→Bool)(l:List Nat)(x:Nat):List Nat:=(insR lt x l.reverse).reverse
def srt(lt:Nat→Nat→Bool)(l:List Nat):List Nat:=l.foldl (insL lt) []
theorem insL_nil(lt:Nat→Nat→Bool)(x:Nat):insL lt [] x=[x]:=rfl
theorem insL_go(lt:Nat→Nat→Bool)(l:List Nat)(x y:Nat)(h:lt x y=true):insL lt (l++[y]) x=insL lt l x++[y]:=by
 unfold insL;simp[insR,h]
theorem insL_stop(lt:Nat→Nat→Bool)(l:List Nat)(x y:Nat)(h:lt x y=false):insL lt (l++[y]) x=l++[y]++[x]:=by
 unfold insL;simp[insR,h]
theorem insR_len(lt:Nat→Nat→Bool)(x:Nat)(l:List Nat):(insR lt x l).length=l.length+1:=by
 induction l with
 | nil=>rfl
 | cons y r ih=>simp only[insR];split<;>simp[ih]
theorem insL_len(lt:Nat→Nat→Bool)(l:List Nat)(x:Nat):(insL lt l x).length=l.length+1:=by simp[insL,insR_len]
theorem srt_snoc(lt:Nat→Nat→Bool)(l:List Nat)(x:Nat):srt lt (l++[x])=insL lt (srt lt l) x:=by simp[srt]
theorem insR_mem(lt:Nat→Nat→Bool)(x:Nat)(l:List Nat):∀k,k∈insR lt x l→k=x∨k∈l:=by
 induction l with
 | nil=>intro k h;simp[insR]at h;exact .inl h
 | cons y r ih=>
   intro k h;simp only[insR]at h;split at h
   ·rcases List.mem_cons.1 h with h|h
    ·exact .inr (by simp[h])
    ·rcases ih k h with h|h
     ·exact .inl h
     ·exact .inr (List.mem_cons_of_mem _ h)
   ·rcases List.mem_cons.1 h with h|h
    ·exact .inl h
    ·exact .inr h
theorem fold_len(lt:Nat→Nat→Bool)(l:List Nat):∀acc,(l.foldl (insL lt) acc).length=acc.length+l.length:=by
 induction l with
 | nil=>intro acc;rfl
 | cons x r ih=>intro acc;rw[List.foldl_cons,ih,insL_len,List.length_cons];omega
theorem fold_mem(lt:Nat→Nat→Bool)(l:List Nat):∀acc k,k∈l.foldl (insL lt) acc→k∈acc∨k∈l:=by
 induction l with
 | nil=>intro acc k h;exact .inl h
 | cons x r ih=>
   intro acc k h;rw[List.foldl_cons]at h;rcases ih _ _ h with h|h
   ·rcases insR_mem lt x acc.reverse k (by simpa [insL]using h)with h|h
    ·exact .inr (by simp[h])
    ·exact .inl (by simpa using h)
   ·exact .inr (List.mem_cons_of_mem _ h)
theorem srt_len(lt:Nat→Nat→Bool)(l:List Nat):(srt lt l).length=l.length:=by unfold srt;rw[fold_len];simp
theorem srt_mem(lt:Nat→Nat→Bool)(l:List Nat)(k:Nat)(h:k∈srt lt l):k∈l:=by
 rcases fold_mem lt l [] k h with h|h
 ·simp at h
 ·exact h
theorem rowSet{w:World}{B g n cap k:Nat}{e:TypeId}{xs:List Value}(y:Value)(h:w.ownsRow B e 1 (.slice (some ⟨g,0,none⟩) n cap) n xs)(hk:k<n):(w.setCell ⟨g,k,none⟩ y).ownsRow B e 1 (.slice (some ⟨g,0,none⟩) n cap) n (xs.set k y)∧Below B w (w.setCell ⟨g,k,none⟩ y)∧w.frozen? ⟨g,k,none⟩=false∧(w.cell? ⟨g,k,none⟩).isSome=true:=by
 rcases h.2 with⟨a,_⟩|⟨g',cap',cur,a,b,c,d1,d2,d3,d4⟩
 ·simp at a
 ·simp at a
  obtain⟨rfl,rfl⟩:=a;have hset:=setCell_eq_setRow w g k cur e (0,0) y c;refine⟨?_,?_,?_,?_⟩
  ·rw[hset]
   refine⟨by simpa using h.1,.inr ⟨g,cap,cur.setIfInBounds k y,rfl,b,setRow_heap w g _ _ _ _ c,d1,d2,by simpa using d3,?_⟩⟩;rw[Array.toList_setIfInBounds,List.take_set,d4]
  ·rw[hset];exact below_setRow (Below.refl _ _) b _
  ·simp[World.frozen?,c]
  ·rw[cell_of_row w g _ cur e (0,0) c];simp;omega
def keyL(L:List Nd)(k:Nat):List UInt8:=match L[k]? with|some n=>n.key|none=>[]
def ltK(L:List Nd)(x y:Nat):Bool:=aheadL (keyL L x) (keyL L y)
theorem keyL_of{L:List Nd}{k:Nat}{n:Nd}(h:L[k]?=some n):keyL L k=n.key:=by unfold keyL;rw[h]
theorem Nodes.kidrow{B g:Nat}{tN:TypeId}{cap:Nat}{L:List Nd}{w:World}(h:Nodes B tN (.slice (some ⟨g,0,none⟩) L.length cap) L w)(u:Nat)(n:Nd)(hn:L[u]?=some n):∃kv,w.cell? ⟨g,u*6+4,none⟩=some kv∧w.ownsRow B 3 1 kv n.kids.length (n.kids.map iV):=by
 obtain⟨kvs,k1,k2,k3,k4⟩:=h;have hadd:∀(g j:Nat),(⟨g,0,none⟩:Addr).add j=⟨g,j,none⟩:=fun g j=>by unfold Addr.add;split<;>simp_all
 have hul:u<L.length:=(List.getElem?_eq_some_iff.1 hn).1;obtain⟨kv,hkv⟩:∃kv,kvs[u]?=some kv:=⟨_,List.getElem?_eq_getElem (by omega)⟩;have hc:=k2.cells (g:=g) rfl (u*6+4) _ (rowN_get L kvs u kv k1 hkv);rw[hadd]at hc;exact⟨kv,hc,k3 u n kv hn hkv⟩
theorem wp_copy{P:Program}{ops:Array Oper}{rest:List Oper}{o:Oper}{a:Act}{Q:Exit→Act→World→Prop}(hgd:o.guard=none)(s x:Operand)(t:TypeId)(ho:o.op=.call {callee:=.builtin .append,args:= #[s,x],argTypes:= #[t,t]})
 (e:TypeId) (i:TypeInfo) (ht:P.underlying t=some (.slice e)) (hi:P.info? e=some i) (hz:i.zero=some (.int .i64 0)) (hsize:i.size=1) (hby:i.bytes=8)
 (B:Nat) (v:Value) (ks:List Nat) (w:World) (hs:a.eval s=.slice none 0 0) (hx:a.eval x=v) (hown:w.ownsRow B e 1 v ks.length (ks.map iV)) (hlen:ks.length≤10000000000000)
 (h:∀v' w',w'.ownsRow w.heap.size e 1 v' ks.length (ks.map iV)→Below w.heap.size w w'→wpList P ops Q rest (a.put o.dst v') w'):wpList P ops Q (o::rest) a w:=by
 have hrow:=IRow.of hown;rcases hown.2 with⟨a1,a2⟩|⟨g,c,cu,a1,_⟩
 ·subst a1
  refine wpList_append_own_none hgd s x t ho w.heap.size e i 1 ht hi _ 0 [] hs (World.ownsRow_nil _ _ _ _) hx (h _ _ ?_ (Below.refl _ _));obtain rfl:=List.length_eq_zero_iff.1 a2;exact World.ownsRow_nil _ _ _ _
 ·subst a1
  refine wpList_append_own _ hgd s x t ho w.heap.size e i (.int .i64 0) 1 8 ht hi hz hsize hby rfl (by decide) _ 0 [] hs (World.ownsRow_nil _ _ _ _) ⟨g,0,none⟩ ks.length c (ks.map iV) hx (by simp) ?_ ?_ (by unfold maxLen;omega) (by omega) (Nat.le_refl _) ?_
  ·intro j u hu
   exact hown.cells (g:=g) rfl j u hu
  ·intro u hu
   obtain⟨k,_,rfl⟩:=List.mem_map.1 hu;all_goals rfl
  ·intro v' w' h1 h2 _
   rw[Nat.zero_add,List.nil_append]at h1;exact h v' w' h1 ((Below.refl _ _).grown h2 (Nat.le_refl _) (by intro k hk;simp[Value.ownBlock]at hk))
theorem rowN_at:∀(ns:List Nd) (vs:List Value) (u j:Nat) (n:Nd) (kv:Value),vs.length=ns.length→ns[u]?=some n→vs[u]?=some kv→j<6→(rowN ns vs)[u*6+j]?=(ndCells n kv)[j]?:=by
 intro ns;induction ns with
 | nil=>intro vs u j n kv h hn;simp at hn
 | cons m ns ih=>
   intro vs u j n kv h hn hk hj;match vs,h with
   | v::vs,h=>
     match u with
     | 0=>
       simp at hn hk;subst hn;subst hk;rw[rowN,Nat.zero_mul,Nat.zero_add,List.getElem?_append_left (by simpa [ndCells]using hj)]
     | u+1=>
       have:=ih vs u j n kv (by simpa using h) (by simpa using hn) (by simpa using hk) hj;rw[rowN,List.getElem?_append_right (by simp[ndCells];omega),←this];congr 1
       simp[ndCells];omega
theorem Nodes.six{B g:Nat}{tN:TypeId}{cap:Nat}{L:List Nd}{w:World}(h:Nodes B tN (.slice (some ⟨g,0,none⟩) L.length cap) L w)(u:Nat)(n:Nd)(hn:L[u]?=some n):∃kv,(∀j v,(ndCells n kv)[j]?=some v→w.cell? ⟨g,u*6+j,none⟩=some v)∧w.ownsRow B 3 1 kv n.kids.length (n.kids.map iV):=by
 obtain⟨kvs,k1,k2,k3,k4⟩:=h;have hadd:∀(g j:Nat),(⟨g,0,none⟩:Addr).add j=⟨g,j,none⟩:=fun g j=>by unfold Addr.add;split<;>simp_all
 have hul:u<L.length:=(List.getElem?_eq_some_iff.1 hn).1;obtain⟨kv,hkv⟩:∃kv,kvs[u]?=some kv:=⟨_,List.getElem?_eq_getElem (by omega)⟩;refine⟨kv,fun j v hv=>?_,k3 u n kv hn hkv⟩;have hj:j<6:=by have:=(List.getElem?_eq_some_iff.1 hv).1;simpa [ndCells]using this
 have hc:=k2.cells (g:=g) rfl (u*6+j) v ((rowN_at L kvs u j n kv k1 hn hkv hj).trans hv);rwa [hadd]at hc
def bodyTo(f:Nat→List UInt8)(ks:List Nat):Nat→List UInt8
 | 0=>[]
 | j+1=>bodyTo f ks j++(if j=0 then []else [44])++f (ks.getD j 0)
def memF(L:List Nd)(f:Nat→List UInt8)(k:Nat):List UInt8:=strT (keyL L k)++58::f k
def formN(L:List Nd):Nat→Nat→List UInt8
 | 0,_=>[]
 | f+1,k=>
   match L[k]? with
   | none=>[]
   | some n=>
     if n.kind=0 then [110,117,108,108]
     else if n.kind=1 then(if n.num=1 then [116,114,117,101]else [102,97,108,115,101])
     else if n.kind=2 then decI n.num
     else if n.kind=3 then strT n.text
     else if n.kind=4 then 91::bodyTo (formN L f) n.kids n.kids.length++[93]
     else 123::bodyTo (memF L (formN L f)) (srt (ltK L) n.kids) n.kids.length++[125]
structure WFN (L:List Nd):Prop where
 len:L.length≤1000000
 kind:∀(k:Nat) (n:Nd),L[k]?=some n→n.kind≤5
 truth:∀(k:Nat) (n:Nd),L[k]?=some n→n.kind=1→n.num=0∨n.num=1
 lo:∀(k:Nat) (n:Nd),L[k]?=some n→ -9223372036854775808≤n.num
 hi:∀(k:Nat) (n:Nd),L[k]?=some n→n.num≤9223372036854775807
 text:∀(k:Nat) (n:Nd),L[k]?=some n→n.text.length≤100000000
 key:∀(k:Nat) (n:Nd),L[k]?=some n→n.key.length≤100000000
 few:∀(k:Nat) (n:Nd),L[k]?=some n→n.kids.length≤1000000
 kids:∀(k:Nat) (n:Nd),L[k]?=some n→∀c∈n.kids,k<c∧c<L.length
structure Short (L:List Nd):Prop where
 one:∀(f k:Nat),(formN L f k).length≤1000000000
 arr:∀(f k:Nat) (n:Nd),L[k]?=some n→n.kind=4→∀j,j≤n.kids.length→(bodyTo (formN L f) n.kids j).length≤1000000000
 obj:∀(f k:Nat) (n:Nd),L[k]?=some n→n.kind=5→∀j,j≤n.kids.length→(bodyTo (memF L (formN L f)) (srt (ltK L) n.kids) j).length≤1000000000
def prF(R:Except (Nat×Nat) JT):List UInt8×Nat×Nat:=
 match R with
 | .ok t=>(formN (flat 0 [] t) (flat 0 [] t).length 0,0,0)
 | .error (e,a)=>([],e,a)
mutual
def okT(M:Nat):JT→Prop
 | .null _=>True
 | .truth _ _=>True
 | .int n _=> -9223372036854775808≤n∧n≤9223372036854775807
 | .str t _=>t.length≤M
 | .arr ts _=>okL M ts
 | .obj ms _=>okM M ms
def okL(M:Nat):List JT→Prop
 | []=>True
 | t::r=>okT M t∧okL M r
def okM(M:Nat):List (List UInt8×JT)→Prop
 | []=>True
 | (k,t)::r=>k.length≤M∧okT M t∧okM M r
end
def NdOK(M:Nat)(n:Nd):Prop:=n.kind≤5∧(n.kind=1→n.num=0∨n.num=1)∧ -9223372036854775808≤n.num∧n.num≤9223372036854775807∧n.text.length≤M∧n.key.length≤M
mutual
theorem flat_ok(M b:Nat)(key:List UInt8)(t:JT)(h:okT M t)(hk:key.length≤M):∀n∈flat b key t,NdOK M n:=by
 cases t with
 | null i=>intro n hn;simp[flat]at hn;subst hn;simp[NdOK,hk]
 | truth x i=>intro n hn;simp[flat]at hn;subst hn;cases x<;>simp[NdOK,hk]
 | int m i=>intro n hn;simp[flat]at hn;subst hn;simp[okT]at h;simp[NdOK,hk,h]
 | str t i=>intro n hn;simp[flat]at hn;subst hn;simp[okT]at h;simp[NdOK,hk,h]
 | arr ts i=>
   intro n hn;rw[flat,List.mem_cons]at hn;rcases hn with rfl|hn
   ·simp[NdOK,hk]
   ·exact flatL_ok M (b+1) ts (by simpa [okT]using h) n hn
 | obj ms i=>
   intro n hn;rw[flat,List.mem_cons]at hn;rcases hn with rfl|hn
   ·simp[NdOK,hk]
   ·exact flatM_ok M (b+1) ms (by simpa [okT]using h) n hn
theorem flatL_ok(M b:Nat)(ts:List JT)(h:okL M ts):∀n∈flatL b ts,NdOK M n:=by
 cases ts with
 | nil=>intro n hn;simp[flatL]at hn
 | cons t r=>
   intro n hn;rw[okL]at h;rw[flatL,List.mem_append]at hn;rcases hn with hn|hn
   ·exact flat_ok M b [] t h.1 (Nat.zero_le _) n hn
   ·exact flatL_ok M (b+t.size) r h.2 n hn
theorem flatM_ok(M b:Nat)(ms:List (List UInt8×JT))(h:okM M ms):∀n∈flatM b ms,NdOK M n:=by
 cases ms with
 | nil=>intro n hn;simp[flatM]at hn
 | cons m r=>
   obtain⟨k,t⟩:=m;intro n hn;rw[okM]at h;rw[flatM,List.mem_append]at hn;rcases hn with hn|hn
   ·exact flat_ok M b k t h.2.1 h.1 n hn
   ·exact flatM_ok M (b+t.size) r h.2.2 n hn
end
theorem startsL_in(ts:List JT):∀(b c:Nat),c∈startsL b ts→b≤c∧c<b+sizeL ts:=by
 induction ts with
 | nil=>intro b c h;simp[startsL]at h
 | cons t r ih=>
   intro b c h;have:=size_pos t;rw[startsL,List.mem_cons]at h;rw[sizeL];rcases h with rfl|h
   ·omega
   ·have:=ih _ _ h;omega
theorem startsM_in(ms:List (List UInt8×JT)):∀(b c:Nat),c∈startsM b ms→b≤c∧c<b+sizeM ms:=by
 induction ms with
 | nil=>intro b c h;simp[startsM]at h
 | cons m r ih=>
   obtain⟨k,t⟩:=m;intro b c h;have:=size_pos t;rw[startsM,List.mem_cons]at h;rw[sizeM];rcases h with rfl|h
   ·omega
   ·have:=ih _ _ h;omega
mutual
theorem flat_up(b:Nat)(key:List UInt8)(t:JT):∀(k:Nat) (n:Nd),(flat b key t)[k]?=some n→∀c∈n.kids,b+k<c∧c<b+t.size:=by
 cases t with
 | null i=>intro k n hn c hc;cases k with|zero=>simp[flat]at hn;subst hn;simp at hc|succ k=>simp[flat]at hn
 | truth x i=>intro k n hn c hc;cases k with|zero=>simp[flat]at hn;subst hn;simp at hc|succ k=>simp[flat]at hn
 | int m i=>intro k n hn c hc;cases k with|zero=>simp[flat]at hn;subst hn;simp at hc|succ k=>simp[flat]at hn
 | str t i=>intro k n hn c hc;cases k with|zero=>simp[flat]at hn;subst hn;simp at hc|succ k=>simp[flat]at hn
 | arr ts i=>
   intro k n hn c hc;rw[flat]at hn;rw[JT.size];cases k with
   | zero=>
     simp at hn;subst hn;have:=startsL_in ts _ _ hc;omega
   | succ k=>
     have:=flatL_up (b+1) ts k n (by simpa using hn) c hc;omega
 | obj ms i=>
   intro k n hn c hc;rw[flat]at hn;rw[JT.size];cases k with
   | zero=>
     simp at hn;subst hn;have:=startsM_in ms _ _ hc;omega
   | succ k=>
     have:=flatM_up (b+1) ms k n (by simpa using hn) c hc;omega
theorem flatL_up(b:Nat)(ts:List JT):∀(k:Nat) (n:Nd),(flatL b ts)[k]?=some n→∀c∈n.kids,b+k<c∧c<b+sizeL ts:=by
 cases ts with
 | nil=>intro k n hn;simp[flatL]at hn
 | cons t r=>
   intro k n hn c hc;rw[flatL]at hn;rw[sizeL];have hl:=flat_length b [] t;by_cases hk:k<t.size
   ·rw[List.getElem?_append_left (by omega)]at hn
    have:=flat_up b [] t k n hn c hc;omega
   ·rw[List.getElem?_append_right (by omega),hl]at hn
    have:=flatL_up (b+t.size) r (k-t.size) n hn c hc;omega
theorem flatM_up(b:Nat)(ms:List (List UInt8×JT)):∀(k:Nat) (n:Nd),(flatM b ms)[k]?=some n→∀c∈n.kids,b+k<c∧c<b+sizeM ms:=by
 cases ms with
 | nil=>intro k n hn;simp[flatM]at hn
 | cons m r=>
   obtain⟨key,t⟩:=m;intro k n hn c hc;rw[flatM]at hn;rw[sizeM];have hl:=flat_length b key t;by_cases hk:k<t.size
   ·rw[List.getElem?_append_left (by omega)]at hn
    have:=flat_up b key t k n hn c hc;omega
   ·rw[List.getElem?_append_right (by omega),hl]at hn
    have:=flatM_up (b+t.size) r (k-t.size) n hn c hc;omega
end
theorem wfn_flat(M:Nat)(t:JT)(h:okT M t)(hM:M≤100000000)(hs:t.size≤1000000):WFN (flat 0 [] t):=by
 have hok:∀(k:Nat) (n:Nd),(flat 0 [] t)[k]?=some n→NdOK M n:=fun k n hn=>flat_ok M 0 [] t h (Nat.zero_le _) n (List.mem_of_getElem? hn)
 refine⟨by rw[flat_length];exact hs,fun k n hn=>(hok k n hn).1,fun k n hn=>(hok k n hn).2.1,fun k n hn=>(hok k n hn).2.2.1,fun k n hn=>(hok k n hn).2.2.2.1,fun k n hn=>Nat.le_trans (hok k n hn).2.2.2.2.1 hM,fun k n hn=>Nat.le_trans (hok k n hn).2.2.2.2.2 hM,fun k n hn=>Nat.le_trans (flat_kids 0 [] t n (List.mem_of_getElem? hn)) hs,?_⟩;intro k n hn c hc;have:=flat_up 0 [] t k n hn c hc;rw[flat_length];omega
end Go.Proofs.YtaghclgookfmnaaGreatDoor
