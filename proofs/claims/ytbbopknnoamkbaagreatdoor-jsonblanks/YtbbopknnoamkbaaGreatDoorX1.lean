import Derived.Test.YtbbopknnoamkbaaGreatDoorK4
import Derived.Test.YtbbopknnoamkbaaGreatDoorJPureP
import Derived.Deep.AppendLies
import Derived.Deep.RegionLaw
set_option maxHeartbeats 2000000
set_option maxRecDepth 4000
namespace Go.Proofs.YtbbopknnoamkbaaGreatDoor
open Go.RowKit
set_option linter.unusedVariables false
def WD(bp:Nat)(vN vO:Value)(w:World):Prop:=w.heap[bp]?=some (.cells #[vN,vO] 109 (0,0))
section
variable {bp:Nat} {vN vO:Value} {w:World}
theorem WD.cell(h:WD bp vN vO w):w.cell? ⟨bp,0,none⟩=some vN∧w.cell? ⟨bp,1,none⟩=some vO∧(∀k,w.frozen? ⟨bp,k,none⟩=false):=by
 refine⟨?_,?_,?_⟩
 ·rw[cell_of_row w bp 0 _ _ _ h];rfl
 ·rw[cell_of_row w bp 1 _ _ _ h];rfl
 ·intro k;unfold WD at h;simp[World.frozen?,h]
theorem WD.setO(h:WD bp vN vO w)(v:Value):WD bp vN v (w.setCell ⟨bp,1,none⟩ v):=by
 rw[setCell_eq_setRow w bp 1 _ _ _ _ h];exact setRow_heap w bp _ _ _ _ h
theorem WD.lt(h:WD bp vN vO w):bp<w.heap.size:=(Array.getElem?_eq_some_iff.1 h).1
theorem WD.alloc(h:WD bp vN vO w)(o:Obj):WD bp vN vO (w.alloc o):=by
 unfold WD;rw[heap_alloc_old _ _ h.lt];exact h
end
structure WZ (bp:Nat) (vN vO:Value) (l:List UInt8) (w:World):Prop where
 wd:WD bp vN vO w
 row:w.ownsRow (bp+1) 5 1 vO l.length (l.map byteV)
theorem WZ.shape{bp:Nat}{vN vO:Value}{l:List UInt8}{w:World}(h:WZ bp vN vO l w):∃ad cap,vO=.slice ad l.length cap:=by
 rcases h.row.2 with⟨a,b⟩|⟨g,c,cu,a,_⟩
 ·exact⟨none,0,by rw[a,b]⟩
 ·exact⟨_,_,a⟩
def WQ(bp:Nat)(vN:Value)(O:Nat→Prop)(w:World)(l':List UInt8)(r:Ending)(w':World):Prop:=
 r=.returned (.tuple #[])∧∃vO',WZ bp vN vO' l' w'∧Chg bp O w (own vO' []) w'
theorem WZ.put{bp:Nat}{vN vO:Value}{l bs:List UInt8}{w G w8:World}(h:WZ bp vN vO l w)(hGs:G.heap.size=w.heap.size+1)(hGk:∀k,k<w.heap.size→G.heap[k]?=w.heap[k]?)(hGo:G.os=w.os)(hGt:G.tape=w.tape)(hGu:G.output=w.output){g cap:Nat}(ho:w8.ownsRow (bp+1) 5 1 (.slice (some ⟨g,0,none⟩) (l.length+bs.length) cap) (l.length+bs.length) (l.map byteV++bs.map byteV))(hg:G.grownBy w8 vO.ownBlock)(hgg:vO.ownBlock=some g∨g=w.heap.size+1):WZ bp vN (.slice (some ⟨g,0,none⟩) (l.length+bs.length) cap) (l++bs) (w8.setCell ⟨bp,1,none⟩ (.slice (some ⟨g,0,none⟩) (l.length+bs.length) cap))∧Chg bp (own vO []) w (own (.slice (some ⟨g,0,none⟩) (l.length+bs.length) cap) []) (w8.setCell ⟨bp,1,none⟩ (.slice (some ⟨g,0,none⟩) (l.length+bs.length) cap)):=by
 have hlt:=h.wd.lt;have hne:some bp≠vO.ownBlock:=fun e=>by have:=(ownBlock_lt h.row e.symm).1;omega
 have hk8:∀k,k<w.heap.size→some k≠vO.ownBlock→w8.heap[k]?=w.heap[k]?:=fun k hk hn=>(hg.block k (by omega) hn).trans (hGk k hk)
 have hd8:WD bp vN vO w8:=(hk8 bp hlt hne).trans h.wd;have e:=setCell_eq_setRow w8 bp 1 _ _ _ (.slice (some ⟨g,0,none⟩) (l.length+bs.length) cap) hd8;have hgb:bp+1≤g:=(ownBlock_lt ho (g:=g) rfl).1;refine⟨⟨hd8.setO _,?_⟩,?_⟩
 ·rw[List.length_append,List.map_append]
  refine ownsRow_k ho (fun k hk=>?_);simp only[Value.ownBlock,Option.some.injEq]at hk;subst hk;rw[e];exact setRow_other w8 bp _ _ (by omega)
 ·have hs:=hg.size
  rw[e];refine⟨hg.os.trans hGo,hg.tape.trans hGt,hg.output.trans hGu,by simp[World.setRow];omega,fun k hk hb hO=>?_,fun k hk=>?_⟩
  ·rw[setRow_other w8 bp k _ hb]
   exact hk8 k hk (fun e=>hO (.inl e.symm))
  ·rcases hk with hk|⟨kv,hm,_⟩
   ·simp only[Value.ownBlock,Option.some.injEq]at hk
    subst hk;rcases hgg with e|e
    ·exact .inl (.inl e)
    ·exact .inr (by omega)
   ·simp at hm
theorem built_cells(w:World)(bs:List UInt8)(e:TypeId):∀(j:Nat) (u:Value),(bs.map byteV)[j]?=some u→(w.alloc (.cells (bs.map byteV).toArray e)).cell? ((⟨w.heap.size,0,none⟩:Addr).add j)=some u:=by
 intro j u h;have hadd:(⟨w.heap.size,0,none⟩:Addr).add j=⟨w.heap.size,j,none⟩:=by unfold Addr.add;split<;>simp_all
 rw[hadd,cell_of_row _ _ j _ _ _ (heap_alloc_new w _)];simpa using h
theorem wp_appO{P:Program}{ops:Array Oper}{rest:List Oper}{o:Oper}{a:Act}{Q:Exit→Act→World→Prop}(hgd:o.guard=none)(s x:Operand)(t:TypeId)(ho:o.op=.call {callee:=.builtin .append,args:= #[s,x],argTypes:= #[t,t]})
 (e:TypeId) (i:TypeInfo) (ht:P.underlying t=some (.slice e)) (hi:P.info? e=some i) (hz:i.zero=some (.int .u8 0)) (hsize:i.size=1) (hby:i.bytes=1)
 (B:Nat) (v:Value) (n:Nat) (xs:List Value) (bs:List UInt8) (w0:World) (hs:a.eval s=v) (hown:w0.ownsRow B e 1 v n xs) (hB:B≤w0.heap.size) (hlen:n≤1000000000000) (h0:0<bs.length) (h1:bs.length≤1000)
 (hx:a.eval x=.slice (some ⟨w0.heap.size,0,none⟩) bs.length bs.length)
 (h:∀g cap w',w'.ownsRow B e 1 (.slice (some ⟨g,0,none⟩) (n+bs.length) cap) (n+bs.length) (xs++bs.map byteV)→(w0.alloc (.cells (bs.map byteV).toArray e)).grownBy w' v.ownBlock→(v.ownBlock=some g∨g=w0.heap.size+1)→wpList P ops Q rest (a.put o.dst (.slice (some ⟨g,0,none⟩) (n+bs.length) cap)) w'):
 wpList P ops Q (o::rest) a (w0.alloc (.cells (bs.map byteV).toArray e)):=by
 refine wpList_append_lies _ hgd s x t ho B e i (.int .u8 0) 1 1 ht hi hz hsize hby rfl (by decide) v n xs hs (hown.alloc _) ⟨w0.heap.size,0,none⟩ bs.length bs.length (bs.map byteV) hx (by simp) (built_cells w0 bs e) (by intro u hu;obtain⟨c,_,rfl⟩:=List.mem_map.1 hu;rfl) h0 (by unfold maxLen;omega) (by omega) (by simp;omega) (w0.heap.size+1) (by simp) ?_;intro g cap w' h2 h3 h4 _;exact h g cap w' h2 h3 h4
theorem stepO{P:Program}{ops:Array Oper}{o:Oper}{a:Act}{w:World}{K:Act→World→Prop}{Q:Exit→Act→World→Prop}{E:Prop}(hgd:o.guard=none)(s x:Operand)(t:TypeId)(ho:o.op=.call {callee:=.builtin .append,args:= #[s,x],argTypes:= #[t,t]})
 (e:TypeId) (i:TypeInfo) (ht:P.underlying t=some (.slice e)) (hi:P.info? e=some i) (hz:i.zero=some (.int .u8 0)) (hsize:i.size=1) (hby:i.bytes=1)
 (B:Nat) (v:Value) (n:Nat) (xs:List Value) (bs:List UInt8) (ad:Addr) (H:Nat) (hs:a.eval s=v) (hx:a.eval x=.slice (some ad) bs.length bs.length) (hlen:n≤1000000000000) (h0:0<bs.length) (h1:bs.length≤1000)
 (hown:w.ownsRow B e 1 v n xs) (hB:B≤w.heap.size) (hH:w.heap.size=H) (hc:∀j u,(bs.map byteV)[j]?=some u→w.cell? (ad.add j)=some u)
 (h:∀g cap w',w'.ownsRow B e 1 (.slice (some ⟨g,0,none⟩) (n+bs.length) cap) (n+bs.length) (xs++bs.map byteV)→w.grownBy w' v.ownBlock→(v.ownBlock=some g∨g=H)→K (a.put o.dst (.slice (some ⟨g,0,none⟩) (n+bs.length) cap)) w'):
 if Region.wanted o (yielded ops a.tmps)=true then Oper.wp P o a w K Q else E:=
 step_append_lies w hgd s x t ho B e i (.int .u8 0) 1 1 ht hi hz hsize hby rfl (by decide) v n xs hs hown ad bs.length bs.length (bs.map byteV) hx (by simp) hc (by intro u hu;obtain⟨c,_,rfl⟩:=List.mem_map.1 hu;rfl) h0 (by unfold maxLen;omega) (by omega) hB H hH
  fun g cap w' a b c _=>h g cap w' a b c
def sbS:ByteArray:=⟨#[34,92,8,12,10,13,9]⟩
def sbX(c:UInt8):Int:=Lib.indexByte sbS.data.toList c
def sbOk(c:UInt8):Bool:=
 (decide (sbX c= -1)&&(if c.toNat<32 then decide (sgnL c=[92,117,48,48,lowC (c.toNat/16),lowC (c.toNat%16)])else decide (sgnL c=[c])))||
 (decide (0≤sbX c)&&decide (sbX c<7)&&decide (((#[34,92,98,102,110,114,116]:Array UInt8)[(sbX c).toNat]?).map (fun d=>[92,d])=some (sgnL c)))
theorem sbOk_all:∀n,n<256→sbOk (UInt8.ofNat n)=true:=by decide +kernel
theorem sbOk_c(c:UInt8):sbOk c=true:=by have:=sbOk_all c.toNat c.toNat_lt;rwa [UInt8.ofNat_toNat]at this
theorem cidx3(c:UInt8)(w:World):Calls Tryz.prog 176 #[.string ⟨#[34,92,8,12,10,13,9]⟩,.int .u8 (c.toNat:Int)] w fun e w'=>e=.returned (.int .i64 (sbX c))∧w'=w:=by
 have h:=Tryz.strings_IndexByte sbS (c.toNat:Int) w;rw[show((c.toNat:Int).toNat.toUInt8)=c by simp]at h;exact h
theorem keepersA{wb w6:World}{o:Obj}{row:Option Nat}(hg:(wb.alloc o).grownBy w6 row){k:Nat}(hk:k<wb.heap.size)(hne:some k≠row):w6.heap[k]?=wb.heap[k]?∧(∀j,w6.cell? ⟨k,j,none⟩=wb.cell? ⟨k,j,none⟩)∧(∀j,w6.frozen? ⟨k,j,none⟩=wb.frozen? ⟨k,j,none⟩):=by
 have e:w6.heap[k]?=wb.heap[k]?:=(hg.block k (by show k<(wb.alloc o).heap.size;simp;omega) hne).trans (heap_alloc_old _ _ hk);exact⟨e,fun j=>World.cell?_of_block (a:=⟨k,j,none⟩) e,fun j=>World.frozen?_of_block (a:=⟨k,j,none⟩) e⟩
section
variable (bp:Nat) (vN vO:Value) (l:List UInt8) (b:UInt8) (w:World)
theorem wbyte_plain(hl:l.length≤1000000000000)(h:WZ bp vN vO l w)(hx1:sbX b= -1)(hb:¬b.toNat<32):Calls Tryz.prog 140 #[.pointer (some ⟨bp,0,none⟩),.int .u8 (b.toNat:Int)] w fun r w'=>WQ bp vN (own vO []) w (l++[b]) r w':=by
 obtain⟨i0,hi0,hz0,hz1,hz2⟩:=info_parts u8infoJ;have HI:Hid _:=hi0;have H:Hid (WZ bp vN vO l w):=h;have hlt:=h.wd.lt;have HNE:Hid (some bp≠vO.ownBlock):=fun e=>by have:=(ownBlock_lt h.row e.symm).1;omega
 obtain⟨ad,cap,rfl⟩:=h.shape;obtain⟨c0,c1,cf⟩:=h.wd.cell;have f1:=cf 1;have hx:=cidx3 b w;rw[hx1]at hx;have hb':¬(b.toNat:Int)<32:=by omega
 clear hi0 h cf hx1;go_enter Tryz.func140,Tryz.ntmps140;go_wp2_with fail
 refine hx.mono ?_;rintro e w1 ⟨rfl,rfl⟩;clear hx;go_wp2_with (refine wp_appO rfl (.tmp 41) (.tmp 43) 78 rfl 5 i0 Tryz.underlying78 HI.out hz0 hz1 hz2 (bp+1) _ l.length (l.map byteV) [b] w1 rfl H.out.row (by omega) hl (Nat.zero_lt_succ _) (by simp) rfl ?_;intro g8 cap8 w8 ho8 hg8 hgg8;have kA:=keepersA hg8 hlt HNE.out;have s1:=(kA.2.1 1).trans c1;have t1:=(kA.2.2 1).trans f1;have P8:Hid _:=H.out.put (by simp) (fun k hk=>heap_alloc_old _ _ hk) rfl rfl rfl ho8 hg8 hgg8;clear kA ho8 hg8 hgg8)
 go_wp2;go_end0
 exact⟨rfl,_,P8.out.1,P8.out.2⟩
end
theorem hex_all:∀n,n<32→hexS.data[n/16]?=some (lowC (n/16))∧hexS.data[n%16]?=some (lowC (n%16))∧bits BinOp.and IntKind.u8 ((n:Nat):Int) 15=((n%16:Nat):Int):=by decide +kernel
theorem hex_at{k:Nat}{x:UInt8}(h:hexS.data[k]?=some x)(h':k<hexS.size):(hexS[k]'h').toNat=x.toNat:=by
 have e:hexS[k]'h'=x:=by
  have:=Array.getElem?_eq_some_iff.1 h;exact this.2
 rw[e]
section
variable (bp:Nat) (vN vO:Value) (l:List UInt8) (w:World)
theorem wbyte_hex(b:UInt8)(z:Int)(x1 x2:UInt8)(hz:(b.toNat:Int)=z)(hb:b.toNat<32)(hsb:sbX b= -1)(h1:lowC (b.toNat/16)=x1)(h2:lowC (b.toNat%16)=x2)(hl:l.length≤1000000000000)(h:WZ bp vN vO l w):Calls Tryz.prog 140 #[.pointer (some ⟨bp,0,none⟩),.int .u8 z] w fun r w'=>WQ bp vN (own vO []) w (l++[92,117,48,48,x1,x2]) r w':=by
 obtain⟨i0,hi0,hz0,hz1,hz2⟩:=info_parts u8infoJ;have HI:Hid _:=hi0;have H:Hid (WZ bp vN vO l w):=h;have hlt:=h.wd.lt;have HNE:Hid (some bp≠vO.ownBlock):=fun e=>by have:=(ownBlock_lt h.row e.symm).1;omega
 obtain⟨ad,cap,rfl⟩:=h.shape;obtain⟨c0,c1,cf⟩:=h.wd.cell;have f1:=cf 1;have hx:=cidx3 b w;rw[hsb,hz]at hx;have hz0':0≤z:=by omega
 have hz32:z<32:=by omega
 have hal1:∀o:Obj,(w.alloc o).cell? ⟨bp,1,none⟩=some (.slice ad l.length cap):=fun o=>(World.cell?_alloc_lt _ _ _ hlt).trans c1
 have HOw:Hid (∀o,((w.alloc o).drew).ownsRow (bp+1) 5 1 (.slice ad l.length cap) l.length (l.map byteV)):=fun o=>h.row.alloc o
 have HBs:Hid (∀o,bp+1≤((w.alloc o).drew).heap.size):=fun o=>by show _≤(w.alloc o).heap.size;simp;omega
 have HSs:Hid (∀o,((w.alloc o).drew).heap.size=w.heap.size+1):=fun o=>by show(w.alloc o).heap.size=_;simp
 have HC:Hid (∀j u,(([92,117,48,48,x1,x2]:List UInt8).map byteV)[j]?=some u→((w.alloc (.cells #[.int .u8 92,.int .u8 117,.int .u8 48,.int .u8 48,.int .u8 (x1.toNat:Int),.int .u8 (x2.toNat:Int)] 5)).drew).cell? ((⟨w.heap.size,0,none⟩:Addr).add j)=some u):=built_cells w [92,117,48,48,x1,x2] 5;have HL:Hid _:=hl;obtain⟨g1,g2,g3⟩:=hex_all b.toNat hb;rw[h1]at g1;rw[h2]at g2;rw[hz]at g3;obtain⟨q1,hq1⟩:∃q1:Int,z/16=q1:=⟨_,rfl⟩;obtain⟨q2,hq2⟩:∃q2:Int,bits BinOp.and IntKind.u8 z 15=q2:=⟨_,rfl⟩;have hq1a:0≤q1:=by omega
 have hq1b:q1<22:=by omega
 have hq2a:0≤q2:=by rw[←hq2,g3];omega
 have hq2b:q2<22:=by rw[←hq2,g3];omega
 have hi1:∀h,(hexS[q1.toNat]'h).toNat=x1.toNat:=fun h=>hex_at (by rw[show q1.toNat=b.toNat/16 by omega];exact g1) h
 have hi2:∀h,(hexS[q2.toNat]'h).toNat=x2.toNat:=fun h=>hex_at (by rw[show q2.toNat=b.toNat%16 by rw[←hq2,g3];omega];exact g2) h
 delta hexS at hi1 hi2
 clear g1 g2 g3;clear hi0 h cf hl hz hb hsb h1 h2;go_enter Tryz.func140,Tryz.ntmps140;go_wp2_with fail
 refine hx.mono ?_;rintro e w1 ⟨rfl,rfl⟩;clear hx;go_wp2_with fail
 go_region_law ((refine stepO rfl (.tmp 26) (.tmp 33) 78 rfl 5 i0 Tryz.underlying78 HI.out hz0 hz1 hz2 (bp+1) _ l.length (l.map byteV) [92,117,48,48,x1,x2] ⟨w1.heap.size,0,none⟩ (w1.heap.size+1) rfl rfl HL.out (Nat.zero_lt_succ _) (by simp) (by exact HOw.out _) (by exact HBs.out _) (by exact HSs.out _) (by exact HC.out) ?_;intro g8 cap8 w8 ho8 hg8 hgg8;have kA:=keepers hg8 hlt HNE.out;have s1:=(kA.2.1 1).trans c1;have t1:=(kA.2.2 1).trans f1;have P8:Hid _:=H.out.put (G:=(w1.alloc (.cells #[.int .u8 92,.int .u8 117,.int .u8 48,.int .u8 48,.int .u8 (x1.toNat:Int),.int .u8 (x2.toNat:Int)] 5)).drew) (by show(w1.alloc _).heap.size=_;simp) (fun k hk=>heap_alloc_old w1 _ hk) rfl rfl rfl ho8 hg8 hgg8;clear kA ho8 hg8 hgg8))
 all_goals
  go_wp2;go_end0
  exact⟨rfl,_,P8.out.1,P8.out.2⟩
end
section
variable (bp:Nat) (vN vO:Value) (l:List UInt8) (w:World)
theorem wb_8(hl:l.length≤1000000000000)(h:WZ bp vN vO l w):Calls Tryz.prog 140 #[.pointer (some ⟨bp,0,none⟩),.int .u8 8] w fun r w'=>WQ bp vN (own vO []) w (l++[92,98]) r w':=by
 obtain⟨i0,hi0,hz0,hz1,hz2⟩:=info_parts u8infoJ;have HI:Hid _:=hi0;have H:Hid (WZ bp vN vO l w):=h;have hlt:=h.wd.lt;have HNE:Hid (some bp≠vO.ownBlock):=fun e=>by have:=(ownBlock_lt h.row e.symm).1;omega
 obtain⟨ad,cap,rfl⟩:=h.shape;obtain⟨c0,c1,cf⟩:=h.wd.cell;have f1:=cf 1;have hx:=cidx3 8 w;rw[show sbX 8=2 by decide +kernel,show((((8:UInt8)).toNat:Nat):Int)=8 from rfl]at hx;have hal1:∀o:Obj,(w.alloc o).cell? ⟨bp,1,none⟩=some (.slice ad l.length cap):=fun o=>(World.cell?_alloc_lt _ _ _ hlt).trans c1
 have HOw:Hid (∀o,((w.alloc o).drew).ownsRow (bp+1) 5 1 (.slice ad l.length cap) l.length (l.map byteV)):=fun o=>h.row.alloc o
 have HBs:Hid (∀o,bp+1≤((w.alloc o).drew).heap.size):=fun o=>by show _≤(w.alloc o).heap.size;simp;omega
 have HSs:Hid (∀o,((w.alloc o).drew).heap.size=w.heap.size+1):=fun o=>by show(w.alloc o).heap.size=_;simp
 have HC:Hid (∀j u,(([92,98]:List UInt8).map byteV)[j]?=some u→((w.alloc (.cells #[.int .u8 92,.int .u8 98] 5)).drew).cell? ((⟨w.heap.size,0,none⟩:Addr).add j)=some u):=built_cells w [92,98] 5;have HL:Hid _:=hl;have hq0:((⟨#[34,92,98,102,110,114,116]⟩:ByteArray)[2]'(by decide)).toNat=98:=by decide +kernel
 clear hi0 h cf hl;go_enter Tryz.func140,Tryz.ntmps140;go_wp2_with fail
 refine hx.mono ?_;rintro e w1 ⟨rfl,rfl⟩;clear hx;go_wp2_with fail
 go_region_law ((refine stepO rfl (.tmp 13) (.tmp 16) 78 rfl 5 i0 Tryz.underlying78 HI.out hz0 hz1 hz2 (bp+1) _ l.length (l.map byteV) [92,98] ⟨w1.heap.size,0,none⟩ (w1.heap.size+1) rfl rfl HL.out (by decide) (by decide) (by exact HOw.out _) (by exact HBs.out _) (by exact HSs.out _) (by exact HC.out) ?_;intro g8 cap8 w8 ho8 hg8 hgg8;have kA:=keepers hg8 hlt HNE.out;have s1:=(kA.2.1 1).trans c1;have t1:=(kA.2.2 1).trans f1;have P8:Hid _:=H.out.put (G:=(w1.alloc (.cells #[.int .u8 92,.int .u8 98] 5)).drew) (by show(w1.alloc _).heap.size=_;simp) (fun k hk=>heap_alloc_old w1 _ hk) rfl rfl rfl ho8 hg8 hgg8;clear kA ho8 hg8 hgg8))
 all_goals
  go_wp2;go_end0
  exact⟨rfl,_,P8.out.1,P8.out.2⟩
theorem wb_9(hl:l.length≤1000000000000)(h:WZ bp vN vO l w):Calls Tryz.prog 140 #[.pointer (some ⟨bp,0,none⟩),.int .u8 9] w fun r w'=>WQ bp vN (own vO []) w (l++[92,116]) r w':=by
 obtain⟨i0,hi0,hz0,hz1,hz2⟩:=info_parts u8infoJ;have HI:Hid _:=hi0;have H:Hid (WZ bp vN vO l w):=h;have hlt:=h.wd.lt;have HNE:Hid (some bp≠vO.ownBlock):=fun e=>by have:=(ownBlock_lt h.row e.symm).1;omega
 obtain⟨ad,cap,rfl⟩:=h.shape;obtain⟨c0,c1,cf⟩:=h.wd.cell;have f1:=cf 1;have hx:=cidx3 9 w;rw[show sbX 9=6 by decide +kernel,show((((9:UInt8)).toNat:Nat):Int)=9 from rfl]at hx;have hal1:∀o:Obj,(w.alloc o).cell? ⟨bp,1,none⟩=some (.slice ad l.length cap):=fun o=>(World.cell?_alloc_lt _ _ _ hlt).trans c1
 have HOw:Hid (∀o,((w.alloc o).drew).ownsRow (bp+1) 5 1 (.slice ad l.length cap) l.length (l.map byteV)):=fun o=>h.row.alloc o
 have HBs:Hid (∀o,bp+1≤((w.alloc o).drew).heap.size):=fun o=>by show _≤(w.alloc o).heap.size;simp;omega
 have HSs:Hid (∀o,((w.alloc o).drew).heap.size=w.heap.size+1):=fun o=>by show(w.alloc o).heap.size=_;simp
 have HC:Hid (∀j u,(([92,116]:List UInt8).map byteV)[j]?=some u→((w.alloc (.cells #[.int .u8 92,.int .u8 116] 5)).drew).cell? ((⟨w.heap.size,0,none⟩:Addr).add j)=some u):=built_cells w [92,116] 5;have HL:Hid _:=hl;have hq0:((⟨#[34,92,98,102,110,114,116]⟩:ByteArray)[6]'(by decide)).toNat=116:=by decide +kernel
 clear hi0 h cf hl;go_enter Tryz.func140,Tryz.ntmps140;go_wp2_with fail
 refine hx.mono ?_;rintro e w1 ⟨rfl,rfl⟩;clear hx;go_wp2_with fail
 go_region_law ((refine stepO rfl (.tmp 13) (.tmp 16) 78 rfl 5 i0 Tryz.underlying78 HI.out hz0 hz1 hz2 (bp+1) _ l.length (l.map byteV) [92,116] ⟨w1.heap.size,0,none⟩ (w1.heap.size+1) rfl rfl HL.out (by decide) (by decide) (by exact HOw.out _) (by exact HBs.out _) (by exact HSs.out _) (by exact HC.out) ?_;intro g8 cap8 w8 ho8 hg8 hgg8;have kA:=keepers hg8 hlt HNE.out;have s1:=(kA.2.1 1).trans c1;have t1:=(kA.2.2 1).trans f1;have P8:Hid _:=H.out.put (G:=(w1.alloc (.cells #[.int .u8 92,.int .u8 116] 5)).drew) (by show(w1.alloc _).heap.size=_;simp) (fun k hk=>heap_alloc_old w1 _ hk) rfl rfl rfl ho8 hg8 hgg8;clear kA ho8 hg8 hgg8))
 all_goals
  go_wp2;go_end0
  exact⟨rfl,_,P8.out.1,P8.out.2⟩
theorem wb_10(hl:l.length≤1000000000000)(h:WZ bp vN vO l w):Calls Tryz.prog 140 #[.pointer (some ⟨bp,0,none⟩),.int .u8 10] w fun r w'=>WQ bp vN (own vO []) w (l++[92,110]) r w':=by
 obtain⟨i0,hi0,hz0,hz1,hz2⟩:=info_parts u8infoJ;have HI:Hid _:=hi0;have H:Hid (WZ bp vN vO l w):=h;have hlt:=h.wd.lt;have HNE:Hid (some bp≠vO.ownBlock):=fun e=>by have:=(ownBlock_lt h.row e.symm).1;omega
 obtain⟨ad,cap,rfl⟩:=h.shape;obtain⟨c0,c1,cf⟩:=h.wd.cell;have f1:=cf 1;have hx:=cidx3 10 w;rw[show sbX 10=4 by decide +kernel,show((((10:UInt8)).toNat:Nat):Int)=10 from rfl]at hx;have hal1:∀o:Obj,(w.alloc o).cell? ⟨bp,1,none⟩=some (.slice ad l.length cap):=fun o=>(World.cell?_alloc_lt _ _ _ hlt).trans c1
 have HOw:Hid (∀o,((w.alloc o).drew).ownsRow (bp+1) 5 1 (.slice ad l.length cap) l.length (l.map byteV)):=fun o=>h.row.alloc o
 have HBs:Hid (∀o,bp+1≤((w.alloc o).drew).heap.size):=fun o=>by show _≤(w.alloc o).heap.size;simp;omega
 have HSs:Hid (∀o,((w.alloc o).drew).heap.size=w.heap.size+1):=fun o=>by show(w.alloc o).heap.size=_;simp
 have HC:Hid (∀j u,(([92,110]:List UInt8).map byteV)[j]?=some u→((w.alloc (.cells #[.int .u8 92,.int .u8 110] 5)).drew).cell? ((⟨w.heap.size,0,none⟩:Addr).add j)=some u):=built_cells w [92,110] 5;have HL:Hid _:=hl;have hq0:((⟨#[34,92,98,102,110,114,116]⟩:ByteArray)[4]'(by decide)).toNat=110:=by decide +kernel
 clear hi0 h cf hl;go_enter Tryz.func140,Tryz.ntmps140;go_wp2_with fail
 refine hx.mono ?_;rintro e w1 ⟨rfl,rfl⟩;clear hx;go_wp2_with fail
 go_region_law ((refine stepO rfl (.tmp 13) (.tmp 16) 78 rfl 5 i0 Tryz.underlying78 HI.out hz0 hz1 hz2 (bp+1) _ l.length (l.map byteV) [92,110] ⟨w1.heap.size,0,none⟩ (w1.heap.size+1) rfl rfl HL.out (by decide) (by decide) (by exact HOw.out _) (by exact HBs.out _) (by exact HSs.out _) (by exact HC.out) ?_;intro g8 cap8 w8 ho8 hg8 hgg8;have kA:=keepers hg8 hlt HNE.out;have s1:=(kA.2.1 1).trans c1;have t1:=(kA.2.2 1).trans f1;have P8:Hid _:=H.out.put (G:=(w1.alloc (.cells #[.int .u8 92,.int .u8 110] 5)).drew) (by show(w1.alloc _).heap.size=_;simp) (fun k hk=>heap_alloc_old w1 _ hk) rfl rfl rfl ho8 hg8 hgg8;clear kA ho8 hg8 hgg8))
 all_goals
  go_wp2;go_end0
  exact⟨rfl,_,P8.out.1,P8.out.2⟩
theorem wb_12(hl:l.length≤1000000000000)(h:WZ bp vN vO l w):Calls Tryz.prog 140 #[.pointer (some ⟨bp,0,none⟩),.int .u8 12] w fun r w'=>WQ bp vN (own vO []) w (l++[92,102]) r w':=by
 obtain⟨i0,hi0,hz0,hz1,hz2⟩:=info_parts u8infoJ;have HI:Hid _:=hi0;have H:Hid (WZ bp vN vO l w):=h;have hlt:=h.wd.lt;have HNE:Hid (some bp≠vO.ownBlock):=fun e=>by have:=(ownBlock_lt h.row e.symm).1;omega
 obtain⟨ad,cap,rfl⟩:=h.shape;obtain⟨c0,c1,cf⟩:=h.wd.cell;have f1:=cf 1;have hx:=cidx3 12 w;rw[show sbX 12=3 by decide +kernel,show((((12:UInt8)).toNat:Nat):Int)=12 from rfl]at hx;have hal1:∀o:Obj,(w.alloc o).cell? ⟨bp,1,none⟩=some (.slice ad l.length cap):=fun o=>(World.cell?_alloc_lt _ _ _ hlt).trans c1
 have HOw:Hid (∀o,((w.alloc o).drew).ownsRow (bp+1) 5 1 (.slice ad l.length cap) l.length (l.map byteV)):=fun o=>h.row.alloc o
 have HBs:Hid (∀o,bp+1≤((w.alloc o).drew).heap.size):=fun o=>by show _≤(w.alloc o).heap.size;simp;omega
 have HSs:Hid (∀o,((w.alloc o).drew).heap.size=w.heap.size+1):=fun o=>by show(w.alloc o).heap.size=_;simp
 have HC:Hid (∀j u,(([92,102]:List UInt8).map byteV)[j]?=some u→((w.alloc (.cells #[.int .u8 92,.int .u8 102] 5)).drew).cell? ((⟨w.heap.size,0,none⟩:Addr).add j)=some u):=built_cells w [92,102] 5;have HL:Hid _:=hl;have hq0:((⟨#[34,92,98,102,110,114,116]⟩:ByteArray)[3]'(by decide)).toNat=102:=by decide +kernel
 clear hi0 h cf hl;go_enter Tryz.func140,Tryz.ntmps140;go_wp2_with fail
 refine hx.mono ?_;rintro e w1 ⟨rfl,rfl⟩;clear hx;go_wp2_with fail
 go_region_law ((refine stepO rfl (.tmp 13) (.tmp 16) 78 rfl 5 i0 Tryz.underlying78 HI.out hz0 hz1 hz2 (bp+1) _ l.length (l.map byteV) [92,102] ⟨w1.heap.size,0,none⟩ (w1.heap.size+1) rfl rfl HL.out (by decide) (by decide) (by exact HOw.out _) (by exact HBs.out _) (by exact HSs.out _) (by exact HC.out) ?_;intro g8 cap8 w8 ho8 hg8 hgg8;have kA:=keepers hg8 hlt HNE.out;have s1:=(kA.2.1 1).trans c1;have t1:=(kA.2.2 1).trans f1;have P8:Hid _:=H.out.put (G:=(w1.alloc (.cells #[.int .u8 92,.int .u8 102] 5)).drew) (by show(w1.alloc _).heap.size=_;simp) (fun k hk=>heap_alloc_old w1 _ hk) rfl rfl rfl ho8 hg8 hgg8;clear kA ho8 hg8 hgg8))
 all_goals
  go_wp2;go_end0
  exact⟨rfl,_,P8.out.1,P8.out.2⟩
theorem wb_13(hl:l.length≤1000000000000)(h:WZ bp vN vO l w):Calls Tryz.prog 140 #[.pointer (some ⟨bp,0,none⟩),.int .u8 13] w fun r w'=>WQ bp vN (own vO []) w (l++[92,114]) r w':=by
 obtain⟨i0,hi0,hz0,hz1,hz2⟩:=info_parts u8infoJ;have HI:Hid _:=hi0;have H:Hid (WZ bp vN vO l w):=h;have hlt:=h.wd.lt;have HNE:Hid (some bp≠vO.ownBlock):=fun e=>by have:=(ownBlock_lt h.row e.symm).1;omega
 obtain⟨ad,cap,rfl⟩:=h.shape;obtain⟨c0,c1,cf⟩:=h.wd.cell;have f1:=cf 1;have hx:=cidx3 13 w;rw[show sbX 13=5 by decide +kernel,show((((13:UInt8)).toNat:Nat):Int)=13 from rfl]at hx;have hal1:∀o:Obj,(w.alloc o).cell? ⟨bp,1,none⟩=some (.slice ad l.length cap):=fun o=>(World.cell?_alloc_lt _ _ _ hlt).trans c1
 have HOw:Hid (∀o,((w.alloc o).drew).ownsRow (bp+1) 5 1 (.slice ad l.length cap) l.length (l.map byteV)):=fun o=>h.row.alloc o
 have HBs:Hid (∀o,bp+1≤((w.alloc o).drew).heap.size):=fun o=>by show _≤(w.alloc o).heap.size;simp;omega
 have HSs:Hid (∀o,((w.alloc o).drew).heap.size=w.heap.size+1):=fun o=>by show(w.alloc o).heap.size=_;simp
 have HC:Hid (∀j u,(([92,114]:List UInt8).map byteV)[j]?=some u→((w.alloc (.cells #[.int .u8 92,.int .u8 114] 5)).drew).cell? ((⟨w.heap.size,0,none⟩:Addr).add j)=some u):=built_cells w [92,114] 5;have HL:Hid _:=hl;have hq0:((⟨#[34,92,98,102,110,114,116]⟩:ByteArray)[5]'(by decide)).toNat=114:=by decide +kernel
 clear hi0 h cf hl;go_enter Tryz.func140,Tryz.ntmps140;go_wp2_with fail
 refine hx.mono ?_;rintro e w1 ⟨rfl,rfl⟩;clear hx;go_wp2_with fail
 go_region_law ((refine stepO rfl (.tmp 13) (.tmp 16) 78 rfl 5 i0 Tryz.underlying78 HI.out hz0 hz1 hz2 (bp+1) _ l.length (l.map byteV) [92,114] ⟨w1.heap.size,0,none⟩ (w1.heap.size+1) rfl rfl HL.out (by decide) (by decide) (by exact HOw.out _) (by exact HBs.out _) (by exact HSs.out _) (by exact HC.out) ?_;intro g8 cap8 w8 ho8 hg8 hgg8;have kA:=keepers hg8 hlt HNE.out;have s1:=(kA.2.1 1).trans c1;have t1:=(kA.2.2 1).trans f1;have P8:Hid _:=H.out.put (G:=(w1.alloc (.cells #[.int .u8 92,.int .u8 114] 5)).drew) (by show(w1.alloc _).heap.size=_;simp) (fun k hk=>heap_alloc_old w1 _ hk) rfl rfl rfl ho8 hg8 hgg8;clear kA ho8 hg8 hgg8))
 all_goals
  go_wp2;go_end0
  exact⟨rfl,_,P8.out.1,P8.out.2⟩
theorem wb_34(hl:l.length≤1000000000000)(h:WZ bp vN vO l w):Calls Tryz.prog 140 #[.pointer (some ⟨bp,0,none⟩),.int .u8 34] w fun r w'=>WQ bp vN (own vO []) w (l++[92,34]) r w':=by
 obtain⟨i0,hi0,hz0,hz1,hz2⟩:=info_parts u8infoJ;have HI:Hid _:=hi0;have H:Hid (WZ bp vN vO l w):=h;have hlt:=h.wd.lt;have HNE:Hid (some bp≠vO.ownBlock):=fun e=>by have:=(ownBlock_lt h.row e.symm).1;omega
 obtain⟨ad,cap,rfl⟩:=h.shape;obtain⟨c0,c1,cf⟩:=h.wd.cell;have f1:=cf 1;have hx:=cidx3 34 w;rw[show sbX 34=0 by decide +kernel,show((((34:UInt8)).toNat:Nat):Int)=34 from rfl]at hx;have hal1:∀o:Obj,(w.alloc o).cell? ⟨bp,1,none⟩=some (.slice ad l.length cap):=fun o=>(World.cell?_alloc_lt _ _ _ hlt).trans c1
 have HOw:Hid (∀o,((w.alloc o).drew).ownsRow (bp+1) 5 1 (.slice ad l.length cap) l.length (l.map byteV)):=fun o=>h.row.alloc o
 have HBs:Hid (∀o,bp+1≤((w.alloc o).drew).heap.size):=fun o=>by show _≤(w.alloc o).heap.size;simp;omega
 have HSs:Hid (∀o,((w.alloc o).drew).heap.size=w.heap.size+1):=fun o=>by show(w.alloc o).heap.size=_;simp
 have HC:Hid (∀j u,(([92,34]:List UInt8).map byteV)[j]?=some u→((w.alloc (.cells #[.int .u8 92,.int .u8 34] 5)).drew).cell? ((⟨w.heap.size,0,none⟩:Addr).add j)=some u):=built_cells w [92,34] 5;have HL:Hid _:=hl;have hq0:((⟨#[34,92,98,102,110,114,116]⟩:ByteArray)[0]'(by decide)).toNat=34:=by decide +kernel
 clear hi0 h cf hl;go_enter Tryz.func140,Tryz.ntmps140;go_wp2_with fail
 refine hx.mono ?_;rintro e w1 ⟨rfl,rfl⟩;clear hx;go_wp2_with fail
 go_region_law ((refine stepO rfl (.tmp 13) (.tmp 16) 78 rfl 5 i0 Tryz.underlying78 HI.out hz0 hz1 hz2 (bp+1) _ l.length (l.map byteV) [92,34] ⟨w1.heap.size,0,none⟩ (w1.heap.size+1) rfl rfl HL.out (by decide) (by decide) (by exact HOw.out _) (by exact HBs.out _) (by exact HSs.out _) (by exact HC.out) ?_;intro g8 cap8 w8 ho8 hg8 hgg8;have kA:=keepers hg8 hlt HNE.out;have s1:=(kA.2.1 1).trans c1;have t1:=(kA.2.2 1).trans f1;have P8:Hid _:=H.out.put (G:=(w1.alloc (.cells #[.int .u8 92,.int .u8 34] 5)).drew) (by show(w1.alloc _).heap.size=_;simp) (fun k hk=>heap_alloc_old w1 _ hk) rfl rfl rfl ho8 hg8 hgg8;clear kA ho8 hg8 hgg8))
 all_goals
  go_wp2;go_end0
  exact⟨rfl,_,P8.out.1,P8.out.2⟩
theorem wb_92(hl:l.length≤1000000000000)(h:WZ bp vN vO l w):Calls Tryz.prog 140 #[.pointer (some ⟨bp,0,none⟩),.int .u8 92] w fun r w'=>WQ bp vN (own vO []) w (l++[92,92]) r w':=by
 obtain⟨i0,hi0,hz0,hz1,hz2⟩:=info_parts u8infoJ;have HI:Hid _:=hi0;have H:Hid (WZ bp vN vO l w):=h;have hlt:=h.wd.lt;have HNE:Hid (some bp≠vO.ownBlock):=fun e=>by have:=(ownBlock_lt h.row e.symm).1;omega
 obtain⟨ad,cap,rfl⟩:=h.shape;obtain⟨c0,c1,cf⟩:=h.wd.cell;have f1:=cf 1;have hx:=cidx3 92 w;rw[show sbX 92=1 by decide +kernel,show((((92:UInt8)).toNat:Nat):Int)=92 from rfl]at hx;have hal1:∀o:Obj,(w.alloc o).cell? ⟨bp,1,none⟩=some (.slice ad l.length cap):=fun o=>(World.cell?_alloc_lt _ _ _ hlt).trans c1
 have HOw:Hid (∀o,((w.alloc o).drew).ownsRow (bp+1) 5 1 (.slice ad l.length cap) l.length (l.map byteV)):=fun o=>h.row.alloc o
 have HBs:Hid (∀o,bp+1≤((w.alloc o).drew).heap.size):=fun o=>by show _≤(w.alloc o).heap.size;simp;omega
 have HSs:Hid (∀o,((w.alloc o).drew).heap.size=w.heap.size+1):=fun o=>by show(w.alloc o).heap.size=_;simp
 have HC:Hid (∀j u,(([92,92]:List UInt8).map byteV)[j]?=some u→((w.alloc (.cells #[.int .u8 92,.int .u8 92] 5)).drew).cell? ((⟨w.heap.size,0,none⟩:Addr).add j)=some u):=built_cells w [92,92] 5;have HL:Hid _:=hl;have hq0:((⟨#[34,92,98,102,110,114,116]⟩:ByteArray)[1]'(by decide)).toNat=92:=by decide +kernel
 clear hi0 h cf hl;go_enter Tryz.func140,Tryz.ntmps140;go_wp2_with fail
 refine hx.mono ?_;rintro e w1 ⟨rfl,rfl⟩;clear hx;go_wp2_with fail
 go_region_law ((refine stepO rfl (.tmp 13) (.tmp 16) 78 rfl 5 i0 Tryz.underlying78 HI.out hz0 hz1 hz2 (bp+1) _ l.length (l.map byteV) [92,92] ⟨w1.heap.size,0,none⟩ (w1.heap.size+1) rfl rfl HL.out (by decide) (by decide) (by exact HOw.out _) (by exact HBs.out _) (by exact HSs.out _) (by exact HC.out) ?_;intro g8 cap8 w8 ho8 hg8 hgg8;have kA:=keepers hg8 hlt HNE.out;have s1:=(kA.2.1 1).trans c1;have t1:=(kA.2.2 1).trans f1;have P8:Hid _:=H.out.put (G:=(w1.alloc (.cells #[.int .u8 92,.int .u8 92] 5)).drew) (by show(w1.alloc _).heap.size=_;simp) (fun k hk=>heap_alloc_old w1 _ hk) rfl rfl rfl ho8 hg8 hgg8;clear kA ho8 hg8 hgg8))
 all_goals
  go_wp2;go_end0
  exact⟨rfl,_,P8.out.1,P8.out.2⟩
end
section
variable (bp:Nat) (vN vO:Value) (l:List UInt8) (w:World)
theorem sb_plain:∀n,n<256→32≤n→n≠34→n≠92→sbX (UInt8.ofNat n)= -1∧sgnL (UInt8.ofNat n)=[UInt8.ofNat n]:=by decide +kernel
theorem sb_hex0:∀n,n<32→(n=8∨n=9∨n=10∨n=12∨n=13)∨(sbX (UInt8.ofNat n)= -1∧sgnL (UInt8.ofNat n)=[92,117,48,48,lowC (n/16),lowC (n%16)]):=by decide +kernel
theorem sb_hex(n:Nat)(h:n<32)(h8:n≠8)(h9:n≠9)(h10:n≠10)(h12:n≠12)(h13:n≠13):sbX (UInt8.ofNat n)= -1∧sgnL (UInt8.ofNat n)=[92,117,48,48,lowC (n/16),lowC (n%16)]:=by
 rcases sb_hex0 n h with h|h
 ·omega
 ·exact h
theorem wbyte(b:UInt8)(hl:l.length≤1000000000000)(h:WZ bp vN vO l w):Calls Tryz.prog 140 #[.pointer (some ⟨bp,0,none⟩),.int .u8 (b.toNat:Int)] w fun r w'=>WQ bp vN (own vO []) w (l++sgnL b) r w':=by
 by_cases e8:b=8
 ·subst e8;exact wb_8 bp vN vO l w hl h
 by_cases e9:b=9
 ·subst e9;exact wb_9 bp vN vO l w hl h
 by_cases e10:b=10
 ·subst e10;exact wb_10 bp vN vO l w hl h
 by_cases e12:b=12
 ·subst e12;exact wb_12 bp vN vO l w hl h
 by_cases e13:b=13
 ·subst e13;exact wb_13 bp vN vO l w hl h
 by_cases e34:b=34
 ·subst e34;exact wb_34 bp vN vO l w hl h
 by_cases e92:b=92
 ·subst e92;exact wb_92 bp vN vO l w hl h
 have hne:∀n:Nat,b≠UInt8.ofNat n→b.toNat≠n:=fun n hb e=>hb (by rw[←e,UInt8.ofNat_toNat])
 by_cases h32:b.toNat<32
 ·obtain⟨h1,h2⟩:=sb_hex b.toNat h32 (hne 8 e8) (hne 9 e9) (hne 10 e10) (hne 12 e12) (hne 13 e13)
  rw[UInt8.ofNat_toNat]at h1 h2;rw[h2];exact wbyte_hex bp vN vO l w b _ _ _ rfl h32 h1 rfl rfl hl h
 ·obtain⟨h1,h2⟩:=sb_plain b.toNat b.toNat_lt (by omega) (hne 34 e34) (hne 92 e92)
  rw[UInt8.ofNat_toNat]at h1 h2;rw[h2];exact wbyte_plain bp vN vO l b w hl h h1 h32
end
section
variable (bp:Nat) (vN vO:Value) (l:List UInt8) (w:World)
theorem wstring(s:ByteArray)(hs:s.size≤100000000)(hl:l.length≤10000000000)(h:WZ bp vN vO l w):Calls Tryz.prog 111 #[.pointer (some ⟨bp,0,none⟩),.string s] w fun r w'=>WQ bp vN (own vO []) w (l++strT s.data.toList) r w':=by
 obtain⟨i0,hi0,hz0,hz1,hz2⟩:=info_parts u8infoJ;have HI:Hid _:=hi0;have H:Hid (WZ bp vN vO l w):=h;have hlt:=h.wd.lt;have HNE:Hid (some bp≠vO.ownBlock):=fun e=>by have:=(ownBlock_lt h.row e.symm).1;omega
 obtain⟨ad,cap,rfl⟩:=h.shape;obtain⟨c0,c1,cf⟩:=h.wd.cell;have f1:=cf 1;clear hi0 h cf;go_enter Tryz.func111,Tryz.ntmps111;go_wp2_with (refine wp_appO rfl (.tmp 9) (.tmp 10) 78 rfl 5 i0 Tryz.underlying78 HI.out hz0 hz1 hz2 (bp+1) _ l.length (l.map byteV) [34] w rfl H.out.row (by omega) (by omega) (by decide) (by decide) rfl ?_;intro g8 cap8 w8 ho8 hg8 hgg8;have kA:=keepersA hg8 hlt HNE.out;have s1:=(kA.2.1 1).trans c1;have t1:=(kA.2.2 1).trans f1;have P8:Hid _:=H.out.put (by simp) (fun k hk=>heap_alloc_old _ _ hk) rfl rfl rfl ho8 hg8 hgg8;clear kA ho8 hg8 hgg8)
 have P9:Hid (∃v,WZ bp vN v (l++34::sgnsL (s.data.toList.take 0)) (w8.setCell ⟨bp,1,none⟩ (.slice (some ⟨g8,0,none⟩) (l.length+1) cap8))∧Chg bp (own (.slice ad l.length cap) []) w (own v []) (w8.setCell ⟨bp,1,none⟩ (.slice (some ⟨g8,0,none⟩) (l.length+1) cap8))):=⟨_,P8.out.1,P8.out.2⟩;clear P8 s1 t1;generalize w8.setCell ⟨bp,1,none⟩ (.slice (some ⟨g8,0,none⟩) (l.length+1) cap8)=W at P9 ⊢;clear c0 c1 f1 hlt HNE;go_loopw [16] (fun iv wr=>∃(j:Nat) (v:Value),j≤s.size∧iv=.int .i64 (j:Int)∧WZ bp vN v (l++34::sgnsL (s.data.toList.take j)) wr∧Chg bp (own (.slice ad l.length cap) []) w (own v []) wr) (fun iv _=>s.size-(intOf iv).toNat)
 case atStart=>obtain⟨v,a,b⟩:=P9.out;exact⟨0,v,by omega,rfl,a,b⟩
 case round=>
  clear P9;obtain⟨j,v,hj,rfl,hZ,hC⟩:=hrel;have hlen:(l++34::sgnsL (s.data.toList.take j)).length≤20000000000:=by
   have h1:=sgnsL_len (s.data.toList.take j);have h2:(s.data.toList.take j).length≤s.size:=by rw[List.length_take];simp;omega
   rw[List.length_append,List.length_cons];omega
  have HZ:Hid _:=hZ;have HC:Hid _:=hC;by_cases hlt:j<s.size
  ·have k1:(j:Int)<(s.size:Int):=by omega
   have hwb:=wbyte bp vN v (l++34::sgnsL (s.data.toList.take j)) wr s[j] (by omega) hZ;have HT:Hid (s.data.toList.take (j+1)=s.data.toList.take j++[s[j]]):=by
    show _=_
    have h':j<s.data.toList.length:=by simpa using hlt
    rw[List.take_add_one,List.getElem?_eq_getElem h'];rfl
   have hlen':Hid _:=hlen;clear hZ hC hlen;go_wp2_with fail
   refine hwb.mono ?_;rintro r w2 ⟨rfl,v2,z2,ch2⟩;have Z2:Hid _:=And.intro z2 (HC.out.trans ch2);clear hwb z2 ch2;go_wp2_with fail
   go_roundw
   case rel=>
    refine⟨j+1,v2,by omega,by go_num,?_,Z2.out.2⟩;rw[HT.out,sgnsL_append];have:=Z2.out.1;rw[List.append_assoc,List.cons_append]at this;simpa [sgnsL]using this
   case measure=>simp[intOf];omega
  ·obtain rfl:j=s.size:=by omega
   have k1:¬(s.size:Int)<(s.size:Int):=by omega
   have hlt2:=hZ.wd.lt;have HNE:Hid (some bp≠v.ownBlock):=fun e=>by have:=(ownBlock_lt hZ.row e.symm).1;omega
   have HE:Hid (l++strT s.data.toList=(l++34::sgnsL (s.data.toList.take s.size))++[34]):=by
    show _=_
    rw[List.take_of_length_le (by simp),strT];simp
   obtain⟨ad2,cap2,rfl⟩:=hZ.shape;obtain⟨c0,c1,cf⟩:=hZ.wd.cell;have f1:=cf 1;generalize l++34::sgnsL (s.data.toList.take s.size)=l2 at *;clear hZ hC cf;go_wp2_with (refine wp_appO rfl (.tmp 29) (.tmp 30) 78 rfl 5 i0 Tryz.underlying78 HI.out hz0 hz1 hz2 (bp+1) _ l2.length (l2.map byteV) [34] wr rfl HZ.out.row (by omega) (by omega) (by decide) (by decide) rfl ?_;intro g9 cap9 w9 ho8 hg8 hgg8;have kA:=keepersA hg8 hlt2 HNE.out;have s1:=(kA.2.1 1).trans c1;have t1:=(kA.2.2 1).trans f1;have P8:Hid _:=HZ.out.put (by simp) (fun k hk=>heap_alloc_old _ _ hk) rfl rfl rfl ho8 hg8 hgg8;clear kA ho8 hg8 hgg8)
   go_wp2;go_end0
   rw[HE.out];exact⟨rfl,_,P8.out.1,HC.out.trans P8.out.2⟩
end
end Go.Proofs.YtbbopknnoamkbaaGreatDoor
