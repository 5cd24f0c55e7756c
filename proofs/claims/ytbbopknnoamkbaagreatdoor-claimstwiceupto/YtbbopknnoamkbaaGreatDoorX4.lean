import Derived.Test.YtbbopknnoamkbaaGreatDoorG1
import Derived.Lib.OthersKept
import Derived.Laws.RangeAny
import Derived.Lib.DecodeN
import Derived.Test.YtbbopknnoamkbaaGreatDoorK4
import Derived.Test.YtbbopknnoamkbaaGreatDoorShelfG
import Derived.Lib.OwnBridge
set_option maxHeartbeats 4000000
set_option maxRecDepth 100000
namespace Go.Proofs.YtbbopknnoamkbaaGreatDoor
open Go.RowKit
set_option linter.unusedVariables false
def uV(n:Nat):Value:=.int .u16 (n:Int)
theorem isnan(x:Nat)(w:World):Calls Tryz.prog 209 #[.int .u16 (x:Int)] w fun e w'=>e=.returned (.bool false)∧w'=w:=by
 go_enter Tryz.func209,Tryz.ntmps209;go_wp2;go_ret;exact⟨rfl,rfl⟩
def cmpN(x y:Nat):Int:=if x<y then -1 else if y<x then 1 else 0
theorem cmpU16(x y:Nat)(w:World):Calls Tryz.prog 179 #[.int .u16 (x:Int),.int .u16 (y:Int)] w fun e w'=>e=.returned (.int .i64 (cmpN x y))∧w'=w:=by
 unfold cmpN;by_cases h1:x<y
 ·have i1:(x:Int)<(y:Int):=by omega
  rw[if_pos h1];go_enter Tryz.func179,Tryz.ntmps179;go_wp2_with (go_at_call 209;refine(isnan _ _).mono ?_;rintro e w' ⟨rfl,rfl⟩)
  go_ret;exact⟨rfl,rfl⟩
 ·have i1:¬(x:Int)<(y:Int):=by omega
  rw[if_neg h1];by_cases h2:y<x
  ·have i2:(y:Int)<(x:Int):=by omega
   rw[if_pos h2];go_enter Tryz.func179,Tryz.ntmps179;go_wp2_with (go_at_call 209;refine(isnan _ _).mono ?_;rintro e w' ⟨rfl,rfl⟩)
   go_ret;exact⟨rfl,rfl⟩
  ·have i2:¬(y:Int)<(x:Int):=by omega
   rw[if_neg h2];go_enter Tryz.func179,Tryz.ntmps179;go_wp2_with (go_at_call 209;refine(isnan _ _).mono ?_;rintro e w' ⟨rfl,rfl⟩)
   go_ret;exact⟨rfl,rfl⟩
structure UR (v:Value) (xs:List Nat) (w:World):Prop where
 shape:∃ad cap,v=.slice ad xs.length cap
 at':∀(j x:Nat),xs[j]?=some x→∃g cap,v=.slice (some ⟨g,0,none⟩) xs.length cap∧w.cell? ⟨g,j,none⟩=some (.int .u16 (x:Int))
def cmpU:List Nat→List Nat→Int
 | x::xs,y::ys=>if x=y then cmpU xs ys else cmpN x y
 | [],_::_=> -1
 | _::_,[]=>1
 | [],[]=>0
theorem cmpU_ahead:∀a b:List Nat,decide (cmpU a b<0)=aheadU a b
 | [],[]=>rfl
 | [],_::_=>rfl
 | _::_,[]=>rfl
 | x::xs,y::ys=>by
   rw[cmpU,aheadU];split
   ·exact cmpU_ahead xs ys
   ·unfold cmpN
    by_cases h:x<y
    ·rw[if_pos h];simp[h]
    ·rw[if_neg h,if_pos (by omega)];simp[h]
theorem drop_at{xs:List Nat}{j x:Nat}(h:xs[j]?=some x):xs.drop j=x::xs.drop (j+1):=by
 obtain⟨h1,h2⟩:=List.getElem?_eq_some_iff.1 h;rw[List.drop_eq_getElem_cons h1,h2]
theorem ccompare(v1 v2:Value)(xs ys:List Nat)(w:World)(h1:UR v1 xs w)(h2:UR v2 ys w)(hx:xs.length≤1000000)(hy:ys.length≤1000000):Calls Tryz.prog 144 #[v1,v2] w fun e w'=>e=.returned (.int .i64 (cmpU xs ys))∧w'=w:=by
 obtain⟨ad1,cap1,rfl⟩:=h1.shape;obtain⟨ad2,cap2,rfl⟩:=h2.shape;have H1:Hid _:=h1;have H2:Hid _:=h2;clear h1 h2;go_enter Tryz.func144,Tryz.ntmps144;go_wp2;go_loopw [11] (fun iv wr=>∃(j:Nat),j≤xs.length∧j≤ys.length∧iv=.int .i64 (j:Int)∧wr=w∧cmpU (xs.drop j) (ys.drop j)=cmpU xs ys) (fun iv _=>xs.length-(intOf iv).toNat)
 case atStart=>exact⟨0,Nat.zero_le _,Nat.zero_le _,rfl,rfl,rfl⟩
 case round=>
  obtain⟨j,hj,hj2,rfl,rfl,hc⟩:=hrel;by_cases hlt:j<xs.length
  ·obtain⟨x,hxj⟩:∃x,xs[j]?=some x:=⟨_,List.getElem?_eq_getElem hlt⟩
   obtain⟨g1,c1,e1,r1⟩:=H1.out.at' j x hxj;obtain rfl:ad1=some ⟨g1,0,none⟩:=by injection e1
   have k1:(j:Int)<(xs.length:Int):=by omega
   by_cases hlt2:j<ys.length
   ·obtain⟨y,hyj⟩:∃y,ys[j]?=some y:=⟨_,List.getElem?_eq_getElem hlt2⟩
    obtain⟨g2,c2,e2,r2⟩:=H2.out.at' j y hyj;obtain rfl:ad2=some ⟨g2,0,none⟩:=by injection e2
    have k2:(j:Int)<(ys.length:Int):=by omega
    have k3:¬(ys.length:Int)≤(j:Int):=by omega
    rw[drop_at hxj,drop_at hyj,cmpU]at hc;clear e1 e2;by_cases hxy:x=y
    ·subst hxy
     rw[if_pos rfl]at hc;have HC:Hid _:=hc;have e0:cmpN x x=0:=by unfold cmpN;simp
     clear hc hxj hyj;go_wp2_with (go_at_call 179;refine(cmpU16 _ _ _).mono ?_;rintro e w' ⟨rfl,rfl⟩;rw[e0])
     go_roundw
     case rel=>exact⟨j+1,by omega,by omega,by go_num,(by first|rfl|trivial),HC.out⟩
     case measure=>simp[intOf];omega
    ·rw[if_neg hxy]at hc
     have e0:cmpN x y≠0:=by unfold cmpN;split<;>(try split)<;>omega
     have HC:Hid _:=hc;generalize hq:cmpN x y=q at *;clear hc hxj hyj;go_wp2_with (go_at_call 179;refine(cmpU16 _ _ _).mono ?_;rintro e w' ⟨rfl,rfl⟩;rw[hq])
     go_ret;exact⟨by rw[←HC.out];rfl,rfl⟩
   ·have k2:(ys.length:Int)≤(j:Int):=by omega
    rw[drop_at hxj,show ys.drop j=[]from List.drop_of_length_le (by omega),cmpU]at hc;have HC:Hid _:=hc;clear hc hxj e1;go_wp2;go_ret;exact⟨by rw[←HC.out];rfl,rfl⟩
  ·obtain rfl:j=xs.length:=by omega
   have k1:¬(xs.length:Int)<(xs.length:Int):=by omega
   rw[List.drop_of_length_le (Nat.le_refl _)]at hc;by_cases h3:xs.length<ys.length
   ·have k2:(xs.length:Int)<(ys.length:Int):=by omega
    obtain⟨y,hyj⟩:∃y,ys[xs.length]?=some y:=⟨_,List.getElem?_eq_getElem h3⟩;rw[drop_at hyj,cmpU]at hc;have HC:Hid _:=hc;clear hc hyj;go_wp2;go_ret;exact⟨by rw[←HC.out];rfl,rfl⟩
   ·have k2:¬(xs.length:Int)<(ys.length:Int):=by omega
    rw[show ys.drop xs.length=[]from List.drop_of_length_le (by omega),cmpU]at hc;have HC:Hid _:=hc;clear hc;go_wp2;go_ret;exact⟨by rw[←HC.out];rfl,rfl⟩
theorem seq_cases(a:List UInt8)(h0:a≠[])(h:seqLen a=a.length):(∃c,a=[c]∧c.toNat<128)∨(∃c d,a=[c,d]∧194≤c.toNat∧c.toNat<224∧128≤d.toNat∧d.toNat≤191)∨(∃c d e,a=[c,d,e]∧224≤c.toNat∧c.toNat<240∧128≤d.toNat∧d.toNat≤191∧(c.toNat=224→160≤d.toNat)∧(c.toNat=237→d.toNat≤159)∧128≤e.toNat∧e.toNat≤191)∨(∃c d e f,a=[c,d,e,f]∧240≤c.toNat∧c.toNat≤244∧128≤d.toNat∧d.toNat≤191∧(c.toNat=240→144≤d.toNat)∧(c.toNat=244→d.toNat≤143)∧128≤e.toNat∧e.toNat≤191∧128≤f.toNat∧f.toNat≤191):=by
 match a,h0 with
 | c::a',_=>
   have hc:=c.toNat_lt;unfold seqLen at h;simp only at h;by_cases h1:c.toNat<128
   ·rw[if_pos h1]at h
    simp at h;subst h;exact .inl ⟨c,rfl,h1⟩
   ·rw[if_neg h1]at h
    by_cases h2:c.toNat<194∨244<c.toNat
    ·rw[if_pos h2]at h;simp at h
    ·rw[if_neg h2]at h
     split at h
     ·rename_i hg
      simp only[Bool.and_eq_true,Bool.or_eq_true,decide_eq_true_eq]at hg;obtain⟨⟨g1,g2⟩,g3⟩:=hg;by_cases h3:c.toNat<224
      ·have e:seqN c.toNat=2:=by unfold seqN;rw[if_pos h3]
       have hl:seqLo c.toNat=128:=by unfold seqLo;rw[if_neg (by omega),if_neg (by omega)]
       have hh:seqHi c.toNat=191:=by unfold seqHi;rw[if_neg (by omega),if_neg (by omega)]
       rw[e]at h;rw[hl,hh]at g1;match a',h with
       | [d],_=>
         rw[goesL0 d rfl]at g1;simp only[Bool.and_eq_true,decide_eq_true_eq]at g1;exact .inr (.inl ⟨c,d,rfl,by omega,h3,g1.1,g1.2⟩)
      ·by_cases h4:c.toNat<240
       ·have e:seqN c.toNat=3:=by unfold seqN;rw[if_neg h3,if_pos h4]
        rw[e]at h g2;match a',h with
        | [d,e2],_=>
          rw[goesL0 d rfl]at g1;rw[goesL0 e2 rfl]at g2;simp only[Bool.and_eq_true,decide_eq_true_eq]at g1 g2;have g2':128≤e2.toNat∧e2.toNat≤191:=g2.resolve_left (by omega);refine .inr (.inr (.inl ⟨c,d,e2,rfl,by omega,h4,?_⟩));unfold seqLo seqHi at g1;obtain⟨p1,p2⟩:=g1;repeat' split at p1
          all_goals repeat' split at p2
          all_goals refine⟨?_,?_,?_,?_,g2'⟩
          all_goals omega
       ·have e:seqN c.toNat=4:=by unfold seqN;rw[if_neg h3,if_neg h4]
        rw[e]at h g2 g3;match a',h with
        | [d,e2,f2],_=>
          rw[goesL0 d rfl]at g1;rw[goesL0 e2 rfl]at g2;rw[goesL0 f2 rfl]at g3;simp only[Bool.and_eq_true,decide_eq_true_eq]at g1 g2 g3;have g2':128≤e2.toNat∧e2.toNat≤191:=g2.resolve_left (by omega);have g3':128≤f2.toNat∧f2.toNat≤191:=g3.resolve_left (by omega);refine .inr (.inr (.inr ⟨c,d,e2,f2,rfl,by omega,by omega,?_⟩));unfold seqLo seqHi at g1;obtain⟨p1,p2⟩:=g1;repeat' split at p1
          all_goals repeat' split at p2
          all_goals refine⟨?_,?_,?_,?_,g2'.1,g2'.2,g3'⟩
          all_goals omega
     ·simp at h
theorem get_sfx(s:ByteArray)(i k:Nat)(c:UInt8)(h:(sfx s i)[k]?=some c):s.get! (i+k)=c∧i+k<s.size:=by
 by_cases hk:i+k<s.size
 ·rw[sfx_get s i k hk]at h
  injection h with h;refine⟨?_,hk⟩;rw[←h];have:=Go.get_at s (i+k) hk;simpa using this
 ·rw[sfx_get_none s i k (by omega)]at h;cases h
theorem runeL2(c d:UInt8)(h:seqLen [c,d]=2):runeL [c,d]=64*(c.toNat%32)+d.toNat%64:=by
 have hst:=(stepL_app [c,d] [] (by simp) h).2;unfold runeL;rw[hst];simp only[List.length_cons,List.length_nil,runeTo,Nat.zero_add,Nat.reduceAdd,Nat.reduceSub,List.getD_cons_zero,List.getD_cons_succ,Nat.reducePow,Nat.reduceLeDiff,if_false]
theorem runeL3(c d e:UInt8)(h:seqLen [c,d,e]=3):runeL [c,d,e]=64*(64*(c.toNat%16)+d.toNat%64)+e.toNat%64:=by
 have hst:=(stepL_app [c,d,e] [] (by simp) h).2;unfold runeL;rw[hst];simp only[List.length_cons,List.length_nil,runeTo,Nat.zero_add,Nat.reduceAdd,Nat.reduceSub,List.getD_cons_zero,List.getD_cons_succ,Nat.reducePow,Nat.reduceLeDiff,if_false]
theorem runeL4(c d e f:UInt8)(h:seqLen [c,d,e,f]=4):runeL [c,d,e,f]=64*(64*(64*(c.toNat%8)+d.toNat%64)+e.toNat%64)+f.toNat%64:=by
 have hst:=(stepL_app [c,d,e,f] [] (by simp) h).2;unfold runeL;rw[hst];simp only[List.length_cons,List.length_nil,runeTo,Nat.zero_add,Nat.reduceAdd,Nat.reduceSub,List.getD_cons_zero,List.getD_cons_succ,Nat.reducePow,Nat.reduceLeDiff,if_false]
theorem runeL1(c:UInt8)(h:seqLen [c]=1):runeL [c]=c.toNat:=by
 have hst:=(stepL_app [c] [] (by simp) h).2;unfold runeL;rw[hst];simp[runeTo]
theorem decode_u8(s:ByteArray)(i:Nat)(a r:List UInt8)(hs:sfx s i=a++r)(h0:a≠[])(h:seqLen a=a.length):Utf8.decode s i=(runeL a,a.length)∧i+a.length≤s.size:=by
 have hb:∀k c,a[k]?=some c→s.get! (i+k)=c∧i+k<s.size:=fun k c hk=>get_sfx s i k c (by rw[hs,List.getElem?_append_left (List.getElem?_eq_some_iff.1 hk).1];exact hk)
 rw[Lib.decode_at];rcases seq_cases a h0 h with⟨c,rfl,p⟩|⟨c,d,rfl,p⟩|⟨c,d,e,rfl,p⟩|⟨c,d,e,f,rfl,p⟩
 ·have b0:=hb 0 c rfl
  rw[Nat.add_zero]at b0;rw[b0.1,runeL1 c h];refine⟨?_,by simp;omega⟩;unfold Lib.decodeN;repeat' split
  all_goals first|rfl|(exfalso;omega)
 ·have b0:=hb 0 c rfl
  have b1:=hb 1 d rfl;rw[Nat.add_zero]at b0;rw[b0.1,b1.1,runeL2 c d h];refine⟨?_,by simp;omega⟩;have hn:1<s.size-i:=by omega
  unfold Lib.decodeN;repeat' split
  all_goals first|(exfalso;omega)|(refine Prod.ext ?_ ?_<;>simp only[List.length_cons,List.length_nil]<;>omega)
 ·have b0:=hb 0 c rfl
  have b1:=hb 1 d rfl;have b2:=hb 2 e rfl;rw[Nat.add_zero]at b0;rw[b0.1,b1.1,b2.1,runeL3 c d e h];refine⟨?_,by simp;omega⟩;have hn:2<s.size-i:=by omega
  unfold Lib.decodeN;repeat' split
  all_goals first|(exfalso;omega)|(refine Prod.ext ?_ ?_<;>simp only[List.length_cons,List.length_nil]<;>omega)
 ·have b0:=hb 0 c rfl
  have b1:=hb 1 d rfl;have b2:=hb 2 e rfl;have b3:=hb 3 f rfl;rw[Nat.add_zero]at b0;rw[b0.1,b1.1,b2.1,b3.1,runeL4 c d e f h];refine⟨?_,by simp;omega⟩;have hn:3<s.size-i:=by omega
  unfold Lib.decodeN;repeat' split
  all_goals first|(exfalso;omega)|(refine Prod.ext ?_ ?_<;>simp only[List.length_cons,List.length_nil]<;>omega)
theorem built_any(w:World)(vs:List Value)(e:TypeId):∀(j:Nat) (u:Value),vs[j]?=some u→(w.alloc (.cells vs.toArray e)).cell? ((⟨w.heap.size,0,none⟩:Addr).add j)=some u:=by
 intro j u h;have hadd:(⟨w.heap.size,0,none⟩:Addr).add j=⟨w.heap.size,j,none⟩:=by unfold Addr.add;split<;>simp_all
 rw[hadd,cell_of_row _ _ j _ _ _ (heap_alloc_new w _)];simpa using h
theorem wp_appV{P:Program}{ops:Array Oper}{rest:List Oper}{o:Oper}{a:Act}{Q:Exit→Act→World→Prop}(hgd:o.guard=none)(s x:Operand)(t:TypeId)(ho:o.op=.call {callee:=.builtin .append,args:= #[s,x],argTypes:= #[t,t]})
 (e:TypeId) (i:TypeInfo) (z:Value) (bytes:Nat) (ht:P.underlying t=some (.slice e)) (hi:P.info? e=some i) (hz:i.zero=some z) (hsize:i.size=1) (hby:i.bytes=bytes) (hzs:z.cells.size=1) (hb8:bytes≤8)
 (B:Nat) (v:Value) (n:Nat) (xs news:List Value) (w0:World) (hs:a.eval s=v) (hown:w0.ownsRow B e 1 v n xs) (hB:B≤w0.heap.size) (hlen:n≤1000000000) (h0:0<news.length) (h1:news.length≤1000) (hone:∀u∈news,u.oneCell'=true)
 (hx:a.eval x=.slice (some ⟨w0.heap.size,0,none⟩) news.length news.length)
 (h:∀g cap w',w'.ownsRow B e 1 (.slice (some ⟨g,0,none⟩) (n+news.length) cap) (n+news.length) (xs++news)→(w0.alloc (.cells news.toArray e)).grownBy w' v.ownBlock→(v.ownBlock=some g∨g=w0.heap.size+1)→wpList P ops Q rest (a.put o.dst (.slice (some ⟨g,0,none⟩) (n+news.length) cap)) w'):
 wpList P ops Q (o::rest) a (w0.alloc (.cells news.toArray e)):=by
 have hb:(n+news.length)*bytes≤140737488355328:=by
  have:=Nat.mul_le_mul (show n+news.length≤1000001000 by omega) hb8;omega
 refine wpList_append_lies _ hgd s x t ho B e i z 1 bytes ht hi hz hsize hby hzs (by decide) v n xs hs (hown.alloc _) ⟨w0.heap.size,0,none⟩ news.length news.length news hx (by simp) (built_any w0 news e) hone h0 (by unfold maxLen;omega) hb (by simp;omega) (w0.heap.size+1) (by simp) ?_;intro g cap w' h2 h3 h4 _;exact h g cap w' h2 h3 h4
theorem u16info:(Tryz.prog.info? 179).map (fun i=>(i.zero,i.size,i.bytes))=some (some (.int .u16 0),1,2):=by kernel_rfl
structure UI (s:ByteArray) (w:World) (pos:Nat) (us:List Nat) (v:Value) (wr:World):Prop where
 le:pos≤s.size
 it:wr.heap[w.heap.size]?=some (.stringIter s pos)
 u8:U8 (sfx s pos)
 eq:unitsL s.data.toList=us++unitsL (sfx s pos)
 len:us.length≤2*pos
 row:wr.ownsRow (w.heap.size+1) 179 1 v us.length (us.map uV)
 bel:Below w.heap.size w wr
theorem UI.shape{s:ByteArray}{w:World}{pos:Nat}{us:List Nat}{v:Value}{wr:World}(h:UI s w pos us v wr):∃ad cap,v=.slice ad us.length cap:=by
 rcases h.row.2 with⟨a,b⟩|⟨g,c,cu,a,_⟩
 ·exact⟨none,0,by rw[a,b]⟩
 ·exact⟨_,_,a⟩
theorem UI.next{s:ByteArray}{w:World}{pos:Nat}{us:List Nat}{v:Value}{wr w9:World}{a r:List UInt8}(h:UI s w pos us v wr)(hs:sfx s pos=a++r)(h0:a≠[])(ha:seqLen a=a.length)(hr:U8 r){g cap:Nat}(ho:w9.ownsRow (w.heap.size+1) 179 1 (.slice (some ⟨g,0,none⟩) (us.length+(unitR (runeL a)).length) cap) (us.length+(unitR (runeL a)).length) (us.map uV++(unitR (runeL a)).map uV))(o:Obj)(hg:((wr.iterAt w.heap.size s (pos+a.length)).alloc o).grownBy w9 v.ownBlock):UI s w (pos+a.length) (us++unitR (runeL a)) (.slice (some ⟨g,0,none⟩) (us.length+(unitR (runeL a)).length) cap) w9:=by
 have hit:=Lib.iterAt_heap wr w.heap.size s pos (pos+a.length) h.it;have hlt:w.heap.size<wr.heap.size:=(Array.getElem?_eq_some_iff.1 h.it).1;have hne:some w.heap.size≠v.ownBlock:=fun e=>by have:=(ownBlock_lt h.row e.symm).1;omega
 have hd:=(decode_u8 s pos a r hs h0 ha).2;have hp:=List.length_pos_iff.2 h0;have hsz:(wr.iterAt w.heap.size s (pos+a.length)).heap.size=wr.heap.size:=Lib.iterAt_size _ _ _ _;have hr':sfx s (pos+a.length)=r:=by rw[←sfx_drop,hs,List.drop_left' rfl]
 refine⟨hd,?_,by rw[hr'];exact hr,?_,?_,?_,?_⟩
 ·rw[hg.block _ (by simp;omega) hne,heap_alloc_old _ _ (by omega)];exact hit
 ·rw[h.eq,hs,unitsL_app a r h0 ha,hr'];simp
 ·have:=unitR_len (runeL a);rw[List.length_append];have:=h.len;omega
 ·rw[List.length_append,List.map_append];exact ho
 ·have b1:=Lib.below_iterAt h.bel (k:=w.heap.size) (Nat.le_refl _) s (pos+a.length)
  have b2:Below w.heap.size w ((wr.iterAt w.heap.size s (pos+a.length)).alloc o):=b1.alloc (by omega) o;exact b2.grown hg (by simp;omega) (fun k hk=>by have:=(ownBlock_lt h.row hk).1;omega)
theorem and1023(n:Nat)(h:n<2097152):bits .and .i32 (n:Int) 1023=((n%1024:Nat):Int):=by
 have h1:(BitVec.ofInt 32 (n:Int)).toNat=n:=by
  rw[BitVec.ofInt_natCast,BitVec.toNat_ofNat];exact Nat.mod_eq_of_lt (by omega)
 have h2:(BitVec.ofInt 32 (1023:Int)).toNat=1023:=by decide
 show IntKind.i32.wrap ((BitVec.ofInt 32 (n:Int)&&&BitVec.ofInt 32 (1023:Int)).toNat:Int)=_
 have h3:n&&&1023=n%1024:=Nat.and_two_pow_sub_one_eq_mod n 10;rw[BitVec.toNat_and,h1,h2,h3];simp[IntKind.wrap,IntKind.bits,IntKind.signed];omega
theorem cunits(s:ByteArray)(w:World)(hu:U8 s.data.toList)(hs:s.size≤65536):Calls Tryz.prog 141 #[.string s] w fun e w'=>∃v,e=.returned v∧w'.ownsRow (w.heap.size+1) 179 1 v (unitsL s.data.toList).length ((unitsL s.data.toList).map uV)∧Below w.heap.size w w':=by
 obtain⟨i0,hi0,hz0,hz1,hz2⟩:=info_parts u16info;have HI:Hid _:=hi0;have HU:Hid _:=hu;clear hi0 hu;go_enter Tryz.func141,Tryz.ntmps141;go_wp2;go_loopw [3] (fun ov wr=>∃(pos:Nat) (us:List Nat),UI s w pos us ov wr) (fun _ wr=>s.size-wr.iterPos w.heap.size)
 case atStart=>
  refine⟨0,[],by omega,?_,?_,?_,by simp,⟨rfl,.inl ⟨rfl,rfl⟩⟩,(Below.refl _ w).alloc (Nat.le_refl _) _⟩
  ·exact World.iter_heap w s 0
  ·exact HU.out
  ·rfl
 case round=>
  obtain⟨pos,us,hI⟩:=hrel;obtain⟨ad,cap,rfl⟩:=hI.shape;have H:Hid _:=hI;have hit:=hI.it;have hlen:us.length≤131072:=by have:=hI.len;have:=hI.le;omega
  by_cases hp:pos<s.size
  ·obtain⟨a,r,hsx,h0,ha,hr⟩:∃a r,sfx s pos=a++r∧a≠[]∧seqLen a=a.length∧U8 r:=by
    have h1:=hI.u8;generalize hq:sfx s pos=q at h1;cases h1 with
    | nil=>have:=congrArg List.length hq;rw[sfx_length]at this;simp at this;omega
    | cons a r h0 h h2=>exact⟨a,r,rfl,h0,h,h2⟩
   have hdec:=(decode_u8 s pos a r hsx h0 ha).1;have hrn:=rune_seq a h0 ha;have hpl:=List.length_pos_iff.2 h0;have HN:Hid (∀{w9:World} {g cap9:Nat},w9.ownsRow (w.heap.size+1) 179 1 (.slice (some ⟨g,0,none⟩) (us.length+(unitR (runeL a)).length) cap9) (us.length+(unitR (runeL a)).length) (us.map uV++(unitR (runeL a)).map uV)→∀(o:Obj),((wr.iterAt w.heap.size s (pos+a.length)).alloc o).grownBy w9 (Value.slice ad us.length cap).ownBlock→UI s w (pos+a.length) (us++unitR (runeL a)) (.slice (some ⟨g,0,none⟩) (us.length+(unitR (runeL a)).length) cap9) w9):=fun ho o hg=>hI.next hsx h0 ha hr ho o hg
   have hnx:∀ty,(Instr.next (.pointer (some ⟨w.heap.size,0,none⟩)) true ty).run Tryz.prog wr=.ok (.tuple #[.bool true,.int .i64 pos,.int .i32 ((runeL a:Nat):Int)]) (wr.iterAt w.heap.size s (pos+a.length)):=fun ty=>by
    have:=Lib.run_next_any_at (P:=Tryz.prog) wr w.heap.size s pos ty hit hp;rw[hdec]at this;exact this
   have hrow:Hid ((wr.iterAt w.heap.size s (pos+a.length)).ownsRow (w.heap.size+1) 179 1 (.slice ad us.length cap) us.length (us.map uV)):=ownsRow_k hI.row (fun g hg=>Lib.iterAt_other _ _ _ _ _ (by have:=(ownBlock_lt hI.row hg).1;omega));have HSZ:Hid ((wr.iterAt w.heap.size s (pos+a.length)).heap.size=wr.heap.size):=Lib.iterAt_size _ _ _ _;have hltw:w.heap.size<wr.heap.size:=(Array.getElem?_eq_some_iff.1 hit).1;have HIT:Hid _:=hit;generalize hR:runeL a=R at *;generalize hAL:a.length=al at *;clear hI hsx hdec h0 ha hr hR hit;have hR1:=hrn.2.2;clear hrn;by_cases hsm:R<65536
   ·have i1:(R:Int)<65536:=by omega
    have hw:IntKind.u16.wrap (R:Int)=(R:Int):=by simp[IntKind.wrap,IntKind.bits,IntKind.signed];omega
    have HUR:Hid (unitR R=[R]):=by show _=_;unfold unitR;rw[if_pos hsm]
    go_wp2_with (refine wp_appV rfl (.tmp 13) (.tmp 16) 173 rfl 179 i0 _ 2 Tryz.underlying173 HI.out hz0 hz1 hz2 rfl (by decide) (w.heap.size+1) _ us.length (us.map uV) [.int .u16 (R:Int)] (wr.iterAt w.heap.size s (pos+al)) rfl hrow.out (by have:=HSZ.out;omega) (by omega) (Nat.zero_lt_succ _) (by simp) (by simp[Value.oneCell']) rfl ?_;intro g9 cap9 w9 ho hg hgg;have Z:Hid _:=And.intro ho hg;clear ho hg hgg)
    go_wp2_with fail
    go_roundw
    case rel=>
     have h9:=HN.out (w9:=w9) (g:=g9) (cap9:=cap9) (by rw[HUR.out];exact Z.out.1) _ Z.out.2;rw[HUR.out]at h9;exact⟨_,_,h9⟩
    case measure=>
     have h9:=HN.out (w9:=w9) (g:=g9) (cap9:=cap9) (by rw[HUR.out];exact Z.out.1) _ Z.out.2;simp only[World.iterPos,h9.it,HIT.out];omega
   ·have i1:¬(R:Int)<65536:=by omega
    have hw1:IntKind.i32.wrap ((R:Int)-65536)=(R:Int)-65536:=by simp[IntKind.wrap,IntKind.bits,IntKind.signed];omega
    have HUR:Hid (unitR R=[55296+(R-65536)/1024,56320+(R-65536)%1024]):=by show _=_;unfold unitR;rw[if_neg hsm]
    have HL2:Hid ((unitR R).length=2):=by show _=_;rw[HUR.out];rfl
    have hb:bits BinOp.and IntKind.i32 ((R:Int)-65536) 1023=((R:Int)-65536)%1024:=by
     have:=and1023 (R-65536) (by omega);rw[show((R-65536:Nat):Int)=(R:Int)-65536 by omega]at this;rw[this];omega
    have HV:Hid ([Value.int .u16 (55296+((R:Int)-65536)/1024),Value.int .u16 (56320+((R:Int)-65536)%1024)]=(unitR R).map uV):=by
     show _=_
     rw[HUR.out];simp only[List.map_cons,List.map_nil,uV];congr 2
     ·omega
     ·congr 2;omega
    go_wp2_with (refine wp_appV rfl (.tmp 20) (.tmp 29) 173 rfl 179 i0 _ 2 Tryz.underlying173 HI.out hz0 hz1 hz2 rfl (by decide) (w.heap.size+1) _ us.length (us.map uV) [Value.int .u16 (55296+((R:Int)-65536)/1024),Value.int .u16 (56320+((R:Int)-65536)%1024)] (wr.iterAt w.heap.size s (pos+al)) rfl hrow.out (by have:=HSZ.out;omega) (by omega) (Nat.zero_lt_succ _) (by simp) (by simp[Value.oneCell']) rfl ?_;intro g9 cap9 w9 ho hg hgg;have Z:Hid _:=And.intro ho hg;clear ho hg hgg)
    go_wp2_with fail
    go_roundw
    case rel=>
     have h9:=HN.out (w9:=w9) (g:=g9) (cap9:=cap9) (by rw[←HV.out,HL2.out];exact Z.out.1) _ Z.out.2;rw[HL2.out]at h9;exact⟨_,_,h9⟩
    case measure=>
     have h9:=HN.out (w9:=w9) (g:=g9) (cap9:=cap9) (by rw[←HV.out,HL2.out];exact Z.out.1) _ Z.out.2;simp only[World.iterPos,h9.it,HIT.out];omega
  ·have hnx:∀ty,(Instr.next (.pointer (some ⟨w.heap.size,0,none⟩)) true ty).run Tryz.prog wr=_:=fun ty=>Lib.run_next_end_at wr w.heap.size s pos ty hit hp
   have HE:Hid (unitsL s.data.toList=us):=by
    show _=_
    rw[hI.eq,sfx_nil s pos (by omega),unitsL_nil,List.append_nil]
   clear hI hit;go_wp2;go_ret;exact⟨_,rfl,by rw[HE.out];exact H.out.row,H.out.bel⟩
open Go.Sort
theorem ccloses(v1 v2:Value)(k1 k2:Nat)(xs ys:List Nat)(w:World)(h1:UR v1 xs w)(h2:UR v2 ys w)(hx:xs.length≤1000000)(hy:ys.length≤1000000)(hk:∀os,UR v1 xs (grow w os)∧UR v2 ys (grow w os)):Calls Tryz.prog 143 #[.agg #[v1,.int .i64 (k1:Int)],.agg #[v2,.int .i64 (k2:Int)]] w fun e w'=>e=.returned (.int .i64 (cmpU xs ys))∧∃q os',w'=grow (w.drewN q) os':=by
 obtain⟨ad1,cap1,rfl⟩:=h1.shape;obtain⟨ad2,cap2,rfl⟩:=h2.shape;have HK:Hid _:=hk;clear h1 h2 hk;go_enter Tryz.func143,Tryz.ntmps143;go_wp2_with fail
 refine(ccompare _ _ xs ys _ ?_ ?_ hx hy).mono ?_
 ·rw[alloc_eq_grow,alloc_eq_grow,grow_grow];exact(HK.out _).1
 ·rw[alloc_eq_grow,alloc_eq_grow,grow_grow];exact(HK.out _).2
 rintro e w' ⟨rfl,rfl⟩;go_wp2;go_ret;exact⟨rfl,0,_,by rw[alloc_eq_grow,alloc_eq_grow,grow_grow];rfl⟩
def memC:List Nat→List Value→List Value
 | k::ks,u::us=>u::iV k::memC ks us
 | _,_=>[]
theorem memC_len:∀(ks:List Nat) (us:List Value),us.length=ks.length→(memC ks us).length=ks.length*2
 | [],[],_=>rfl
 | k::ks,u::us,h=>by
   simp only[memC,List.length_cons];rw[memC_len ks us (by simpa using h)];omega
theorem memC_at:∀(ks:List Nat) (us:List Value) (i k:Nat) (u:Value),ks[i]?=some k→us[i]?=some u→(memC ks us)[i*2]?=some u∧(memC ks us)[i*2+1]?=some (iV k)
 | [],_,i,k,u,h,_=>by simp at h
 | _::_,[],i,k,u,_,h=>by simp at h
 | a::ks,b::us,0,k,u,h,h'=>by
   simp at h h';subst h;subst h';exact⟨rfl,rfl⟩
 | a::ks,b::us,i+1,k,u,h,h'=>by
   have:=memC_at ks us i k u (by simpa using h) (by simpa using h');have e1:(i+1)*2=i*2+1+1:=by omega
   rw[e1];simp only[memC,List.getElem?_cons_succ];exact this
theorem memC_snoc:∀(ks:List Nat) (us:List Value) (k:Nat) (u:Value),us.length=ks.length→memC (ks++[k]) (us++[u])=memC ks us++[u,iV k]
 | [],[],k,u,_=>rfl
 | a::ks,b::us,k,u,h=>by
   simp only[List.cons_append,memC];rw[memC_snoc ks us k u (by simpa using h)]
theorem UR.of{w:World}{B:Nat}{v:Value}{xs:List Nat}(h:w.ownsRow B 179 1 v xs.length (xs.map uV)):UR v xs w:=by
 refine⟨?_,fun j x hx=>?_⟩
 ·rcases h.2 with⟨a,b⟩|⟨g,c,cu,a,_⟩
  ·exact⟨none,0,by rw[a,b]⟩
  ·exact⟨_,_,a⟩
 ·rcases h.2 with⟨a,b⟩|⟨g,c,cu,a,_⟩
  ·have:=(List.getElem?_eq_some_iff.1 hx).1;omega
  ·refine⟨g,c,a,?_⟩
   have:=h.cells (g:=g) (by rw[a];rfl) j (uV x) (by rw[List.getElem?_map,hx];rfl);have hadd:(⟨g,0,none⟩:Addr).add j=⟨g,j,none⟩:=by unfold Addr.add;split<;>simp_all
   rwa [hadd]at this
theorem UR.kept{v:Value}{xs:List Nat}{w w':World}(h:UR v xs w)(hk:∀g,v.ownBlock=some g→∀j,w'.cell? ⟨g,j,none⟩=w.cell? ⟨g,j,none⟩):UR v xs w':=by
 refine⟨h.shape,fun j x hx=>?_⟩;obtain⟨g,cap,e,hc⟩:=h.at' j x hx;exact⟨g,cap,e,by rw[hk g (by rw[e];rfl)];exact hc⟩
theorem ext_all{α:Type}(a:Array α)(n:Nat)(h:a.size=n):a.extract 0 n=a:=by subst h;simp
theorem aheadU_swo(n:Nat)(f:Fin n→List Nat):SWO (ltOf fun x y:Fin n=>cmpU (f x) (f y)):=by
 have e:∀x y,ltOf (fun x y:Fin n=>cmpU (f x) (f y)) x y=aheadU (f x) (f y):=fun x y=>cmpU_ahead _ _
 refine⟨fun x=>?_,fun x y z h1 h2=>?_,fun x y z h1 h2=>?_⟩
 ·rw[e];exact aheadU_irr _
 ·rw[e]at *;exact aheadU_trans _ _ _ h1 h2
 ·rw[e]at *
  by_cases h3:aheadU (f x) (f z)=true
  ·exfalso
   by_cases hxy:f x=f y
   ·rw[hxy]at h3;rw[h3]at h2;cases h2
   ·have:=aheadU_tot _ _ hxy h1
    have:=aheadU_trans _ _ _ this h3;rw[this]at h2;cases h2
  ·simpa using h3
theorem csort(L:List Nd)(ks:List Nat)(us:List Value)(B g cap:Nat)(w:World)(hl:us.length=ks.length)(h0:0<ks.length)(hn:ks.length≤1000000)(row:w.ownsRow B 176 2 (.slice (some ⟨g,0,none⟩) ks.length cap) ks.length (memC ks us))(un:∀(i k:Nat) (u:Value),ks[i]?=some k→us[i]?=some u→w.ownsRow B 179 1 u (unitsL (keyL L k)).length ((unitsL (keyL L k)).map uV))(hu:∀c∈ks,U8 (keyL L c))(hd:ks.Pairwise (fun a b=>keyL L a≠keyL L b))(hkey:∀c∈ks,(keyL L c).length≤65536):Calls Tryz.prog 142 #[.slice (some ⟨g,0,none⟩) ks.length cap,.func (.func 143) #[] #[]] w fun e w'=>
 e=.returned (.tuple #[])∧Below B w w'∧∀i k,(srt (ltK L) ks)[i]?=some k→∃a m c,w'.cell? ⟨g,i*2,none⟩=some (.slice a m c)∧w'.cell? ⟨g,i*2+1,none⟩=some (iV k):=by
 haveI:Inhabited (Fin ks.length):=⟨⟨0,h0⟩⟩
 have hus:∀i:Fin ks.length,i.1<us.length:=fun i=>by rw[hl];exact i.2
 let enc:Fin ks.length→List Value:=fun i=>[us[i.1]'(hus i),iV ks[i.1]]
 let cf:Fin ks.length→Fin ks.length→Int:=fun x y=>cmpU (unitsL (keyL L ks[x.1])) (unitsL (keyL L ks[y.1]))
 let d:Array (Fin ks.length):=Array.ofFn id
 have hds:d.size=ks.length:=by simp[d]
 have hdg:∀i (h:i<ks.length),d[i]! =⟨i,h⟩:=fun i h=>by
  rw[getElem!_pos d i (by omega)];simp[d]
 obtain⟨b1,b2,cur,hcur⟩:=ownBlock_lt row (g:=g) rfl;have hadd:∀j,(⟨g,0,none⟩:Addr).add j=⟨g,j,none⟩:=fun j=>by unfold Addr.add;split<;>simp_all
 have hH:HoldsK enc 2 w g 0 d:=by
  intro t ht;rw[size_flatK,hds]at ht;rw[get_flatK enc 2 d t (by omega),Nat.zero_add];have hi:t/2<ks.length:=by omega
  rw[hdg _ hi];refine⟨?_,by simp[World.frozen?,hcur]⟩;have hm:=memC_at ks us (t/2) _ _ (List.getElem?_eq_getElem hi) (List.getElem?_eq_getElem (hus ⟨t/2,hi⟩));rcases Nat.mod_two_eq_zero_or_one t with h2|h2
  ·have e:t=t/2*2:=by omega
   have:=row.cells (g:=g) rfl (t/2*2) _ hm.1;rw[hadd,←e]at this;rw[this,h2];rfl
  ·have e:t=t/2*2+1:=by omega
   have:=row.cells (g:=g) rfl (t/2*2+1) _ hm.2;rw[hadd,←e]at this;rw[this,h2];rfl
 have hul:∀i:Fin ks.length,(unitsL (keyL L ks[i.1])).length≤1000000:=fun i=>by
  have h1:=unitsL_len (keyL L ks[i.1]);have h2:=hkey ks[i.1] (List.getElem_mem i.2);omega
 have hur:∀i:Fin ks.length,w.ownsRow B 179 1 (us[i.1]'(hus i)) (unitsL (keyL L ks[i.1])).length ((unitsL (keyL L ks[i.1])).map uV):=fun i=>
  un i.1 _ _ (List.getElem?_eq_getElem i.2) (List.getElem?_eq_getElem (hus i))
 have hne:∀(i:Fin ks.length) (b:Nat),(us[i.1]'(hus i)).ownBlock=some b→b≠g∧b<w.heap.size:=fun i b hb=>by
  obtain⟨c1,c2,cur2,hc2⟩:=ownBlock_lt (hur i) hb;refine⟨fun e=>?_,c2⟩;subst e;rw[hcur]at hc2;injection hc2 with hc2;injection hc2 with _ hc2 _;exact absurd hc2 (by decide)
 have hcmp:CmpLays Tryz.prog 143 #[] enc 2 cf g 0 d.size w:=by
  intro m os dk _ x y;have hk:∀(i:Fin ks.length) (os':Array Obj),UR (us[i.1]'(hus i)) (unitsL (keyL L ks[i.1])) (grow (sortWorldK enc 2 w g 0 m dk os) os'):=fun i os'=>by
   refine(UR.of (hur i)).kept fun b hb j=>?_
   obtain⟨n1,n2⟩:=hne i b hb;rw[cell?_grow _ _ _ (by exact Nat.lt_of_lt_of_le n2 (size_sortWorldK_c enc 2 w g 0 m dk os)),cell?_sortWorldK_other enc 2 w g 0 m dk os _ n1 n2]
  have hk0:∀(i:Fin ks.length),UR (us[i.1]'(hus i)) (unitsL (keyL L ks[i.1])) (sortWorldK enc 2 w g 0 m dk os):=fun i=>by
   refine(UR.of (hur i)).kept fun b hb j=>?_
   obtain⟨n1,n2⟩:=hne i b hb;rw[cell?_sortWorldK_other enc 2 w g 0 m dk os _ n1 n2]
  exact ccloses _ _ ks[x.1] ks[y.1] _ _ _ (hk0 x) (hk0 y) (hul x) (hul y) (fun os'=>⟨hk x os',hk y os'⟩)
 have eg:∀args w,(callFunc 143 args).run Tryz.prog w=.ok (.enter 143 args) w:=enters_of Tryz.func143 (by kernel_rfl) rfl;have h1:∀x,∀v∈enc x,v.oneCell'=true:=fun x v hv=>by
  rcases List.mem_cons.1 hv with rfl|hv
  ·obtain⟨a,c,e⟩:=(UR.of (hur x)).shape
   rw[e];rfl
  ·rw[List.mem_singleton.1 hv];rfl
 have hcon:=AnyQ.slices_SortFunc Tryz.sortM 2 Tryz.isAgg176 Tryz.sizeOf176 enc (fun _=>rfl) h1 cf (aheadU_swo _ _) 143 #[] g 0 cap d w eg hcmp hH b2 (by rw[hds];omega);rw[hds]at hcon;refine Calls.mono hcon ?_;rintro e w' ⟨rfl,d',nn,os,hp,hs,rfl⟩;obtain⟨p1,_,p3⟩:=hp;have hd's:d'.size=ks.length:=p1.trans hds;have hx:d'.toList.map (fun i:Fin ks.length=>ks[i.1])=srt (ltK L) ks:=by
  refine srt_only (ltK L) (ltK_facts L).1 (ltK_facts L).2 ks _ (ltK_apart L ks hu hd) ?_ ?_
  ·have q1:d'.toList.Perm d.toList:=by
    have e1:d'.extract 0 ks.length=d':=ext_all d' _ hd's;have e2:d.extract 0 ks.length=d:=ext_all d _ hds;rwa [e1,e2]at p3
   have q2:d.toList.map (fun i:Fin ks.length=>ks[i.1])=ks:=by
    refine List.ext_getElem (by simp[d]) fun i h1 h2=>?_
    simp[d]
   have:=q1.map (fun i:Fin ks.length=>ks[i.1]);rwa [q2]at this
  ·rw[List.pairwise_map,List.pairwise_iff_getElem]
   intro i j hi hj hij;have hi':i<d'.size:=by simpa using hi
   have hj':j<d'.size:=by simpa using hj
   have:=hs i j (Nat.zero_le _) hij (by omega);rw[getElem!_pos d' j hj',getElem!_pos d' i hi']at this;have e3:∀x y,ltOf cf x y=ltK L ks[x.1] ks[y.1]:=fun x y=>cmpU_ahead _ _
   rw[e3]at this;simpa using this
 have hHW:=holdsK_sortWorldK_c enc 2 w g 0 d d' nn os hH b2 (by omega);refine⟨rfl,?_,fun i k hk=>?_⟩
 ·have h3:Below B w (putRowK enc 2 (Sort.ahead w nn) g 0 d'):=Lib.below_putRow (Below.refl B w) b1
  refine h3.trans ⟨rfl,rfl,rfl,by show _≤(grow (putRowK enc 2 (Sort.ahead w nn) g 0 d') os).heap.size;rw[Sort.size_grow];exact Nat.le_add_right _ _,fun j hj=>?_⟩;have hsz:(putRowK enc 2 (Sort.ahead w nn) g 0 d').heap.size=w.heap.size:=by
   unfold putRowK;rw[Sort.size_putRow];rfl
  exact Sort.heap_grow_old _ _ (by rw[hsz];omega)
 ·rw[←hx,List.getElem?_map]at hk
  cases hq:d'.toList[i]? with
  | none=>rw[hq]at hk;cases hk
  | some f=>
    rw[hq]at hk;simp only[Option.map_some,Option.some.injEq]at hk;subst hk;obtain⟨hi,hf⟩:=List.getElem?_eq_some_iff.1 hq;have hi':i<d'.size:=by simpa using hi
    have c0:=(hHW.cell hi' (c:=0) (by omega)).1;have c1:=(hHW.cell hi' (c:=1) (by omega)).1;have hf':d'[i]! =f:=by rw[getElem!_pos d' i hi'];simpa using hf
    rw[hf',Nat.zero_add]at c0 c1;obtain⟨a,c,e⟩:=(UR.of (hur f)).shape;rw[show(enc f)[0]! =us[f.1]'(hus f)from rfl,e]at c0;exact⟨a,_,c,c0,c1⟩
end Go.Proofs.YtbbopknnoamkbaaGreatDoor
