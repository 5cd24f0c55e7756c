import Derived.Test.YtaghclgookfmnaaGreatDoorCChr
namespace Go.Proofs.YtaghclgookfmnaaGreatDoor
open Go.RowKit
set_option linter.unusedVariables false
def OwnZ(B:Nat)(e:TypeId)(v:Value)(l:List UInt8)(w:World):Prop:=
 (v=.slice none 0 0∧l=[])∨
 ∃g cap cur,v=.slice (some ⟨g,0,none⟩) l.length cap∧B≤g∧w.heap[g]?=some (.cells cur e (0,0))∧l.length≤cap∧cap≤maxLen∧cur.size=cap∧cur.toList.take l.length=l.map byteV
theorem OwnZ.b{B:Nat}{e:TypeId}{v:Value}{l:List UInt8}{w:World}(h:OwnZ B e v l w):OwnB B e v l w:=by
 rcases h with h|⟨g,cap,cur,a1,a2,a3,a4,a5,a6,a7⟩
 ·exact .inl h
 ·exact .inr ⟨g,cap,cur,(0,0),a1,a2,a3,.inl (Nat.zero_le _),a4,a5,a6,a7⟩
theorem OwnZ.row{B:Nat}{e:TypeId}{v:Value}{l:List UInt8}{w:World}(h:OwnZ B e v l w):w.ownsRow B e 1 v l.length (l.map byteV):=by
 refine⟨by simp,?_⟩;rcases h with⟨a,b⟩|⟨g,cap,cur,a1,a2,a3,a4,a5,a6,a7⟩
 ·exact .inl ⟨a,by rw[b];rfl⟩
 ·exact .inr ⟨g,cap,cur,a1,a2,a3,a4,a5,by omega,by rw[Nat.mul_one];exact a7⟩
theorem OwnZ.of{B:Nat}{e:TypeId}{v:Value}{l:List UInt8}{w:World}{n:Nat}(hn:n=l.length)(h:w.ownsRow B e 1 v n (l.map byteV)):OwnZ B e v l w:=by
 subst hn;rcases h.2 with⟨a,b⟩|⟨g,cap,cur,a1,a2,a3,a4,a5,a6,a7⟩
 ·exact .inl ⟨a,List.length_eq_zero_iff.1 b⟩
 ·exact .inr ⟨g,cap,cur,a1,a2,a3,a4,a5,by omega,by rw[Nat.mul_one]at a7;exact a7⟩
theorem OwnZ.onl{bp B:Nat}{e:TypeId}{v:Value}{l:List UInt8}{wa wb:World}(h:OwnZ B e v l wa)(ho:Onl bp wa wb)(hlt:bp<B):OwnZ B e v l wb:=by
 rcases h with h|⟨g,cap,cur,hv,hB,hg,rest⟩
 ·exact .inl h
 ·refine .inr ⟨g,cap,cur,hv,hB,?_,rest⟩
  have:=(Array.getElem?_eq_some_iff.1 hg).1;rw[ho.block _ this (fun e=>by injection e with e;omega)];exact hg
theorem appZ{P:Program}(w:World)(t u ty e:TypeId)(i:TypeInfo)(ht:P.underlying t=some (.slice e))(hu:P.underlying u=some .string)(hi:P.info? e=some i)(hz:i.zero=some (.int .u8 0))(hsize:i.size=1)(hby:i.bytes=1)(B:Nat)(v:Value)(l:List UInt8)(s:ByteArray)(hown:OwnZ B e v l w)(hB:B≤w.heap.size)(hlen:l.length+s.size≤140737488355328):∃v' w',(Builtin.append_ #[t,u] ty #[v,.string s]).run P w=.ok v' w'∧OwnZ B e v' (l++s.data.toList) w'∧Below B w w':=by
 have hsrc:Src P i.size u (.string s) s.size (byteCells s) w:=by rw[hsize];exact Src.ofString w hu s
 have h63:l.length+s.size≤maxLen:=by unfold maxLen;omega
 have hsl:s.data.toList.length=s.size:=by simp
 by_cases hs0:s.size=0
 ·have hsd:s.data.toList=[]:=List.length_eq_zero_iff.1 (by omega)
  rw[hsd,List.append_nil];rcases hown with⟨rfl,rfl⟩|⟨g,cap,cur,rfl,hBg,hg,hlc,hcm,hcs,htk⟩
  ·refine⟨.slice none 0 0,w,?_,.inl ⟨rfl,rfl⟩,Below.refl _ _⟩
   simp[Builtin.append_,run_underlying ht,run_underlying hu,sizeOf,typeInfo,hi,Builtin.lenOf,Builtin.firstCells,hs0]
  ·have hr:=run_append_room_src (P:=P) w t u ty e i ht hi g 0 l.length cap (.string s) s.size (byteCells s) hsrc (by omega) (by intro j hj;rw[byteCells_length]at hj;omega) (by intro j hj;rw[byteCells_length]at hj;omega)
   have hbc:byteCells s=[]:=by rw[byteCells_eq,hsd];rfl
   rw[hbc]at hr;refine⟨_,_,hr,.inr ⟨g,cap,cur,by rw[hs0];rfl,hBg,hg,hlc,hcm,hcs,htk⟩,Below.refl _ _⟩
 ·rcases hown with⟨rfl,rfl⟩|⟨g,cap,cur,rfl,hBg,hg,hlc,hcm,hcs,htk⟩
  ·have hr:=run_append_grow_src (P:=P) w t u ty e i (.int .u8 0) ht hi hz none 0 0 [] (by simp[Builtin.firstCells]) (.string s) s.size (byteCells s) hsrc (by omega) (by simp at hlen ⊢;omega) (by rw[hby];exact growslice_fits (by omega) (by simp at hlen ⊢;omega))
   rw[Nat.zero_add]at hr;have hge:=grownCap_ge w s.size 0 e;have hm:=grownCap_le_maxLen w s.size 0 e (by simpa using h63);generalize grownCap w s.size 0 e=c at hr hge hm;refine⟨_,_,hr,?_,((Below.refl B w).drew).alloc (by show B≤w.heap.size;omega) _⟩;refine .inr ⟨w.heap.size,c,_,by simp,hB,heap_alloc_new w.drew _,by simp;omega,hm,?_,?_⟩
   ·have hz1:(Value.int IntKind.u8 0).cells.size=1:=rfl
    simp only[Array.size_append,List.size_toArray,size_zeroCells,hz1,List.length_append,byteCells_length,List.length_nil];omega
   ·rw[byteCells_eq]
    simp only[Array.toList_append,List.nil_append];rw[List.take_left' (by simp)]
  ·by_cases hroom:l.length+s.size≤cap
   ·have hcc:∀j,j<(byteCells s).length→(w.cell? ⟨g,0+l.length*i.size+j,none⟩).isSome=true:=by
     intro j hj;rw[byteCells_length]at hj;rw[hsize,cell_of_row w g _ cur e (0,0) hg];simp;omega
    have hff:∀j,j<(byteCells s).length→w.frozen? ⟨g,0+l.length*i.size+j,none⟩=false:=by
     intro j hj;rw[byteCells_length]at hj;simp[World.frozen?,hg]
    have hr:=run_append_room_src (P:=P) w t u ty e i ht hi g 0 l.length cap (.string s) s.size (byteCells s) hsrc hroom hcc hff;obtain⟨cur',a1,a2,a3,a4⟩:=setCells_row (byteCells s) (0+l.length*i.size) w cur hg (by rw[byteCells_length,hsize];omega);refine⟨_,_,hr,.inr ⟨g,cap,cur',by simp,hBg,a1,by simp;omega,hcm,by omega,?_⟩,a4 B hBg⟩
    ·rw[a3,hsize,Nat.zero_add,Nat.mul_one,htk,byteCells_eq]
     rw[List.take_left' (by simp)];simp
   ·have holds:=OwnB.cells (B:=B) (cap:=cap) hg htk
    have hold:(Builtin.firstCells i.size l.length (.slice (some ⟨g,0,none⟩) l.length cap)).run P w.drew=.ok (l.map byteV).toArray w.drew:=by
     rw[hsize];exact run_firstCells_some (P:=P) w.drew 1 l.length ⟨g,0,none⟩ l.length cap (l.map byteV) (by simp) (by simpa using holds)
    have hr:=run_append_grow_src (P:=P) w t u ty e i (.int .u8 0) ht hi hz (some ⟨g,0,none⟩) l.length cap (l.map byteV) hold (.string s) s.size (byteCells s) hsrc (by omega) (by unfold maxLen at h63;omega) (by rw[hby];exact growslice_fits (by omega) (by omega));have hge:=grownCap_ge w (l.length+s.size) cap e;have hm:=grownCap_le_maxLen w (l.length+s.size) cap e h63;generalize grownCap w (l.length+s.size) cap e=c at hr hge hm;refine⟨_,_,hr,?_,((Below.refl B w).drew).alloc (by show B≤w.heap.size;omega) _⟩;refine .inr ⟨w.heap.size,c,_,by simp,hB,heap_alloc_new w.drew _,by simp;omega,hm,?_,?_⟩
    ·have hz1:(Value.int IntKind.u8 0).cells.size=1:=rfl
     simp only[Array.size_append,List.size_toArray,size_zeroCells,hz1,List.length_append,byteCells_length,List.length_map];omega
    ·rw[byteCells_eq]
     simp only[Array.toList_append];rw[←List.map_append,List.take_left' (by simp)]
theorem wp_appZ{P:Program}{ops:Array Oper}{rest:List Oper}{o:Oper}{a:Act}{Q:Exit→Act→World→Prop}{w:World}(hgd:o.guard=none)(x y:Operand)(t u:TypeId)(ho:o.op=.call {callee:=.builtin .append,args:= #[x,y],argTypes:= #[t,u]})
 (e:TypeId) (i:TypeInfo) (ht:P.underlying t=some (.slice e)) (hu:P.underlying u=some .string) (hi:P.info? e=some i) (hz:i.zero=some (.int .u8 0)) (hsize:i.size=1) (hby:i.bytes=1)
 (B:Nat) (v:Value) (l:List UInt8) (s:ByteArray) (hx:a.eval x=v) (hy:a.eval y=.string s) (hlen:l.length+s.size≤140737488355328) (hown:OwnZ B e v l w) (hB:B≤w.heap.size)
 (h:∀v' w',OwnZ B e v' (l++s.data.toList) w'→Below B w w'→wpList P ops Q rest (a.put o.dst v') w'):wpList P ops Q (o::rest) a w:=by
 refine wpList_plain hgd fun K hK=>?_
 obtain⟨v',w',hr,h2,h3⟩:=appZ (P:=P) w t u o.type e i ht hu hi hz hsize hby B v l s hown hB hlen;unfold Oper.wp execOp;simp only[ho,resolve,invoke,builtin,Sem.run_bind,Sem.run_pure,Result.andThen_ok,List.map_toArray,List.map_cons,List.map_nil,hx,hy,hr];exact hK _ _ (h v' w' h2 h3)
theorem runeCells_wr8(q:Nat)(h:(q<55296∨57343<q)∧q≤1114111):Lib.runeCells (q:Int)=(wr8 q).map byteV:=by
 have hb:∀n:Nat,n<256→byteV (UInt8.ofNat n)=Value.int .u8 (n:Int):=by
  intro n hn;unfold byteV;rw[UInt8.toNat_ofNat_of_lt' (by simpa [UInt8.size]using hn)]
 unfold Lib.runeCells wr8;split
 ·rw[Lib.encodeRuneZ_one (by omega) (by omega)];simp[hb q (by omega)]
 ·split
  ·rw[Lib.encodeRuneZ_two (by omega) (by omega)];simp only[List.map_cons,List.map_nil];rw[hb _ (by omega),hb _ (by omega)];simp
  ·split
   ·rw[Lib.encodeRuneZ_three (by omega)];simp only[List.map_cons,List.map_nil];rw[hb _ (by omega),hb _ (by omega),hb _ (by omega)];simp
   ·rw[Lib.encodeRuneZ_four (by omega) (by omega)];simp only[List.map_cons,List.map_nil];rw[hb _ (by omega),hb _ (by omega),hb _ (by omega),hb _ (by omega)];simp
theorem cappR(B:Nat)(v:Value)(l:List UInt8)(q:Nat)(hq:(q<55296∨57343<q)∧q≤1114111)(w:World)(hown:OwnZ B 5 v l w)(hlen:l.length+4≤140737488355328)(hB:B≤w.heap.size):Calls Tryz.prog 73 #[v,.int .i32 (q:Int)] w fun e w'=>∃v',e=.returned v'∧OwnZ B 5 v' (l++wr8 q) w'∧Below B w w':=by
 have hnb:∀k,k<B→some k≠v.ownBlock:=by
  intro k hk e;rcases hown with⟨a,b⟩|⟨g,cap,cur,a1,a2,_⟩
  ·rw[a]at e;cases e
  ·rw[a1]at e;injection e with e;dsimp only at e;omega
 refine(Tryz.utf8_AppendRune_plain B v l.length (l.map byteV) (q:Int) (by omega) (by omega) w hown.row hlen hB).mono ?_;rintro e w' ⟨v',rfl,h1,o,h2⟩;refine⟨v',rfl,?_,?_⟩
 ·rw[runeCells_wr8 q hq,←List.map_append]at h1
  exact OwnZ.of (by simp) h1
 ·have hz:=h2.size
  refine⟨h2.os,h2.tape,h2.output,by simp at hz;omega,fun k hk=>?_⟩;rw[h2.block k (by simp;omega) (hnb k hk),heap_alloc_old _ _ (by omega)]
end Go.Proofs.YtaghclgookfmnaaGreatDoor
