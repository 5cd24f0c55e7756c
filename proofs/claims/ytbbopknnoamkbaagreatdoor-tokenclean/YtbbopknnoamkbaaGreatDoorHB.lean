import Derived.Test.YtbbopknnoamkbaaGreatDoorH7
import Derived.Test.YtbbopknnoamkbaaGreatDoorH8
import Derived.Test.YtbbopknnoamkbaaGreatDoorHA
import Derived.Test.YtbbopknnoamkbaaGreatDoorH1
import Derived.Test.YtbbopknnoamkbaaGreatDoorJPureP
set_option maxHeartbeats 1000000
set_option maxRecDepth 100000
namespace Go.Proofs.YtbbopknnoamkbaaGreatDoor.Dg
set_option maxRecDepth 4000
open Go.RowKit
set_option linter.unusedVariables false
def kI32:Array Value:=(K32.map fun k=>Value.int .i64 (eS (ex k))).toArray
def kI64:Array Value:=(K64.map fun k=>Value.int .i64 (eS k)).toArray
def byA32:Array Value:= #[.int .i64 7,.int .i64 18,.int .i64 3,.int .i64 17,.int .i64 19,.int .i64 10,.int .i64 6,.int .i64 11,.int .i64 25,.int .i64 2,.int .i64 13,.int .i64 22]
def byA64:Array Value:= #[.int .i64 1,.int .i64 8,.int .i64 7,.int .i64 19,.int .i64 61,.int .i64 6,.int .i64 14,.int .i64 18,.int .i64 41,.int .i64 28,.int .i64 34,.int .i64 39]
def wayZ:Array Value:= #[.int .i64 0,.int .i64 0,.slice none 0 0,.slice none 0 0,.slice none 0 0]
def wayA(bits n b hg kb:Nat):Array Value:= #[.int .i64 bits,.int .i64 n,.slice (some ⟨b,0,none⟩) 12 12,.slice (some ⟨hg,0,none⟩) 8 8,.slice (some ⟨kb,0,none⟩) n n]
theorem zeroWay(w:World):Sem.run Tryz.prog (zeroValue 166) w=.ok (.agg wayZ) w:=by kernel_rfl
theorem way_info(x n b hg kb:Nat):(Tryz.prog.info? 166).map (·.size)=some (wayA x n b hg kb).size:=by
 rw[show(wayA x n b hg kb).size=5 from rfl];kernel_rfl
theorem way_one(x n b hg kb:Nat):(wayA x n b hg kb).all (·.oneCell')=true:=by simp[wayA,Value.oneCell']
theorem up{w w':World}{g:Nat}{r:Obj}(hb:Below w.heap.size w w')(h:w.heap[g]?=some r):w'.heap[g]?=some r:=(hb.block g (Array.getElem?_eq_some_iff.1 h).1).trans h
structure Rows32 (w:World) (b hg kb:Nat) (s:St 32):Prop where
 by_:w.heap[b]?=some (.cells byA32 3 (0,0))
 h:w.heap[hg]?=some (.cells (ist32 s) 3 (0,0))
 k:w.heap[kb]?=some (.cells kI32 3 (0,0))
structure Rows64 (w:World) (b hg kb:Nat) (s:St 64):Prop where
 by_:w.heap[b]?=some (.cells byA64 3 (0,0))
 h:w.heap[hg]?=some (.cells (ist64 s) 3 (0,0))
 k:w.heap[kb]?=some (.cells kI64 3 (0,0))
theorem rows_ne{w:World}{i j:Nat}{c d:Array Value}{fr fs:Nat×Nat}(h1:w.heap[i]?=some (.cells c 166 fr))(h2:w.heap[j]?=some (.cells d 3 fs)):j≠i:=by
 rintro rfl;rw[h1]at h2;injection h2 with h2;injection h2 with _ h2 _;revert h2;decide
theorem rows32_set{w:World}{z b hg kb:Nat}{s:St 32}{c d:Array Value}{fr:Nat×Nat}(h:Rows32 w b hg kb s)(h0:w.heap[z]?=some (.cells c 166 fr)):Rows32 (w.setRow z d) b hg kb s:=
 ⟨by rw[setRow_other _ _ _ _ (rows_ne h0 h.by_)];exact h.by_,by rw[setRow_other _ _ _ _ (rows_ne h0 h.h)];exact h.h,by rw[setRow_other _ _ _ _ (rows_ne h0 h.k)];exact h.k⟩
theorem rows64_set{w:World}{z b hg kb:Nat}{s:St 64}{c d:Array Value}{fr:Nat×Nat}(h:Rows64 w b hg kb s)(h0:w.heap[z]?=some (.cells c 166 fr)):Rows64 (w.setRow z d) b hg kb s:=
 ⟨by rw[setRow_other _ _ _ _ (rows_ne h0 h.by_)];exact h.by_,by rw[setRow_other _ _ _ _ (rows_ne h0 h.h)];exact h.h,by rw[setRow_other _ _ _ _ (rows_ne h0 h.k)];exact h.k⟩
theorem rows64_up{w w':World}{b hg kb:Nat}{s:St 64}(h:Rows64 w b hg kb s)(hb:Below w.heap.size w w'):Rows64 w' b hg kb s:=⟨up hb h.by_,up hb h.h,up hb h.k⟩
theorem rows64_setCell{w:World}{z o b hg kb:Nat}{s:St 64}{c:Array Value}{v:Value}{fr:Nat×Nat}(h:Rows64 w b hg kb s)(h0:w.heap[z]?=some (.cells c 166 fr)):Rows64 (w.setCell ⟨z,o,none⟩ v) b hg kb s:=
 ⟨by rw[heap_setCell_other _ _ _ _ (rows_ne h0 h.by_)];exact h.by_,by rw[heap_setCell_other _ _ _ _ (rows_ne h0 h.h)];exact h.h,by rw[heap_setCell_other _ _ _ _ (rows_ne h0 h.k)];exact h.k⟩
theorem rst256(w:World):Calls Tryz.prog 165 #[] w fun e w'=>e=.returned (.slice (some ⟨w.heap.size,0,none⟩) 8 8)∧w'=w.alloc (.cells (ist32 s256) 3):=by
 go_enter Tryz.func165,Tryz.ntmps165;go_wp2_with (first|(refine wp_built rfl 40 8 _ rfl (ist32 s256) 3 ?hr ?_;(case hr=>kernel_rfl)))
 go_ret;exact⟨rfl,rfl⟩
theorem rst512(w:World):Calls Tryz.prog 167 #[] w fun e w'=>e=.returned (.slice (some ⟨w.heap.size,0,none⟩) 8 8)∧w'=w.alloc (.cells (ist64 s512) 3):=by
 go_enter Tryz.func167,Tryz.ntmps167;go_wp2_with (first|(refine wp_built rfl 40 8 _ rfl (ist64 s512) 3 ?hr ?_;(case hr=>kernel_rfl)))
 go_ret;exact⟨rfl,rfl⟩
theorem rst384(w:World):Calls Tryz.prog 169 #[] w fun e w'=>e=.returned (.slice (some ⟨w.heap.size,0,none⟩) 8 8)∧w'=w.alloc (.cells (ist64 s384) 3):=by
 go_enter Tryz.func169,Tryz.ntmps169;go_wp2_with (first|(refine wp_built rfl 40 8 _ rfl (ist64 s384) 3 ?hr ?_;(case hr=>kernel_rfl)))
 go_ret;exact⟨rfl,rfl⟩
theorem rk256(w:World):Calls Tryz.prog 166 #[] w fun e w'=>e=.returned (.slice (some ⟨w.heap.size,0,none⟩) 64 64)∧w'=w.alloc (.cells kI32 3):=by
 go_enter Tryz.func166,Tryz.ntmps166;go_wp2_with (first|(refine wp_built rfl 40 64 _ rfl kI32 3 ?hr ?_;(case hr=>kernel_rfl)))
 go_ret;exact⟨rfl,rfl⟩
theorem rk512(w:World):Calls Tryz.prog 168 #[] w fun e w'=>e=.returned (.slice (some ⟨w.heap.size,0,none⟩) 80 80)∧w'=w.alloc (.cells kI64 3):=by
 go_enter Tryz.func168,Tryz.ntmps168;go_wp2_with (first|(refine wp_built rfl 40 80 _ rfl kI64 3 ?hr ?_;(case hr=>kernel_rfl)))
 go_ret;exact⟨rfl,rfl⟩
theorem way256(w:World):Calls Tryz.prog 130 #[.int .i64 256] w fun e w'=>∃b hg kb,e=.returned (.agg (wayA 32 64 b hg kb))∧Rows32 w' b hg kb s256∧Below w.heap.size w w':=by
 have hz:=zeroWay;go_enter Tryz.func130,Tryz.ntmps130;go_wp2_with (first|(refine wp_built rfl 40 12 _ rfl byA32 3 ?hr ?_;(case hr=>kernel_rfl)))
 have z0:=heap_alloc2_old w (.cells wayZ 166) (.cells byA32 3);have z1:=heap_alloc2_new w (.cells wayZ 166) (.cells byA32 3);have hB:Below w.heap.size w ((w.alloc (.cells wayZ 166)).alloc (.cells byA32 3)):=bal (bal (brf w) _) _;generalize hW:(w.alloc (.cells wayZ 166)).alloc (.cells byA32 3)=W1 at z0 z1 hB;clear hW;refine(rst256 W1).mono ?_;rintro e1 w1 ⟨rfl,hw1⟩;have hb1:Below W1.heap.size W1 w1:=by rw[hw1];exact bal (brf _) _
 have z2:w1.heap[W1.heap.size]?=some (.cells (ist32 s256) 3 (0,0)):=by rw[hw1];exact heap_alloc_new _ _
 have y0:=up hb1 z0;have y1:=up hb1 z1;have hB1:=hB.trans (hb1.mono hB.size);generalize W1.heap.size=hg at z2;clear hw1 hb1 z0 z1 hB;have Y0:Hid _:=y0;have Y1:Hid _:=y1;have Y2:Hid _:=z2;have HB1:Hid _:=hB1;clear y0 y1 z2 hB1 W1;go_wp2_with fail
 refine(rk256 w1).mono ?_;rintro e2 w2 ⟨rfl,hw2⟩;have hb2:Below w1.heap.size w1 w2:=by rw[hw2];exact bal (brf _) _
 have x3:w2.heap[w1.heap.size]?=some (.cells kI32 3 (0,0)):=by rw[hw2];exact heap_alloc_new _ _
 have x0:=up hb2 Y0.out;have x1:=up hb2 Y1.out;have x2:=up hb2 Y2.out;have hB2:=HB1.out.trans (hb2.mono HB1.out.size);generalize w1.heap.size=kb at x3;clear hw2 hb2 Y0 Y1 Y2 HB1 w1;have X0:Hid _:=x0;have X1:Hid _:=x1;have X2:Hid _:=x2;have X3:Hid _:=x3;have HB2:Hid _:=hB2;clear x0 x1 x2 x3 hB2;obtain⟨b,hb⟩:∃b,b=w.heap.size+1:=⟨_,rfl⟩;rw[←hb]at X1;have hbw:w.heap.size≠b:=by omega
 rw[←hb];clear hb;go_wp2_with (first|(refine wp_build rfl 166 _ rfl (.agg (wayA 32 64 b hg kb)) ?hr ?_;(case hr=>kernel_rfl))|(refine wpList_store_row rfl 166 _ _ rfl w.heap.size _ rfl rfl _ _ X0.out (way_info _ _ _ _ _) rfl (way_one _ _ _ _ _) ?_))
 refine bodyPost_ret (v:=.agg (wayA 32 64 b hg kb)) (results_cell_row rfl _ _ w.heap.size _ _ _ _ rfl (setRow_heap _ _ _ _ _ _ X0.out) Tryz.underlying166 rfl (way_info _ _ _ _ _)) rfl ⟨b,hg,kb,rfl,rows32_set ⟨X1.out,X2.out,X3.out⟩ X0.out,below_setRow HB2.out (Nat.le_refl _) _⟩
theorem way512(w:World):Calls Tryz.prog 130 #[.int .i64 512] w fun e w'=>∃b hg kb,e=.returned (.agg (wayA 64 80 b hg kb))∧Rows64 w' b hg kb s512∧Below w.heap.size w w':=by
 have hz:=zeroWay;go_enter Tryz.func130,Tryz.ntmps130;go_wp2_with (first|(refine wp_built rfl 40 12 _ rfl byA64 3 ?hr ?_;(case hr=>kernel_rfl)))
 have z0:=heap_alloc2_old w (.cells wayZ 166) (.cells byA64 3);have z1:=heap_alloc2_new w (.cells wayZ 166) (.cells byA64 3);have hB:Below w.heap.size w ((w.alloc (.cells wayZ 166)).alloc (.cells byA64 3)):=bal (bal (brf w) _) _;generalize hW:(w.alloc (.cells wayZ 166)).alloc (.cells byA64 3)=W1 at z0 z1 hB;clear hW;refine(rst512 W1).mono ?_;rintro e1 w1 ⟨rfl,hw1⟩;have hb1:Below W1.heap.size W1 w1:=by rw[hw1];exact bal (brf _) _
 have z2:w1.heap[W1.heap.size]?=some (.cells (ist64 s512) 3 (0,0)):=by rw[hw1];exact heap_alloc_new _ _
 have y0:=up hb1 z0;have y1:=up hb1 z1;have hB1:=hB.trans (hb1.mono hB.size);generalize W1.heap.size=hg at z2;clear hw1 hb1 z0 z1 hB;have Y0:Hid _:=y0;have Y1:Hid _:=y1;have Y2:Hid _:=z2;have HB1:Hid _:=hB1;clear y0 y1 z2 hB1 W1;go_wp2_with fail
 refine(rk512 w1).mono ?_;rintro e2 w2 ⟨rfl,hw2⟩;have hb2:Below w1.heap.size w1 w2:=by rw[hw2];exact bal (brf _) _
 have x3:w2.heap[w1.heap.size]?=some (.cells kI64 3 (0,0)):=by rw[hw2];exact heap_alloc_new _ _
 have x0:=up hb2 Y0.out;have x1:=up hb2 Y1.out;have x2:=up hb2 Y2.out;have hB2:=HB1.out.trans (hb2.mono HB1.out.size);generalize w1.heap.size=kb at x3;clear hw2 hb2 Y0 Y1 Y2 HB1 w1;have X0:Hid _:=x0;have X1:Hid _:=x1;have X2:Hid _:=x2;have X3:Hid _:=x3;have HB2:Hid _:=hB2;clear x0 x1 x2 x3 hB2;obtain⟨b,hb⟩:∃b,b=w.heap.size+1:=⟨_,rfl⟩;rw[←hb]at X1;have hbw:w.heap.size≠b:=by omega
 rw[←hb];clear hb;go_wp2_with (first|(refine wp_build rfl 166 _ rfl (.agg (wayA 64 80 b hg kb)) ?hr ?_;(case hr=>kernel_rfl))|(refine wpList_store_row rfl 166 (.tmp 3) (.tmp 13) rfl w2.heap.size _ rfl rfl _ _ (heap_alloc_new _ _) (way_info _ _ _ _ _) rfl (way_one _ _ _ _ _) ?_;rw[World.setRow_alloc_new])|(refine wpList_load_row rfl 166 (.tmp 3) rfl w2.heap.size rfl _ _ _ _ (heap_alloc_new _ _) Tryz.underlying166 rfl (way_info 64 80 b hg kb) ?_)|(refine wpList_store_row rfl 166 (.tmp 2) (.tmp 18) rfl w.heap.size _ rfl rfl _ _ (up (bal (brf _) _) X0.out) (way_info _ _ _ _ _) rfl (way_one _ _ _ _ _) ?_))
 refine bodyPost_ret (v:=.agg (wayA 64 80 b hg kb)) (results_cell_row rfl _ _ w.heap.size _ _ _ _ rfl (setRow_heap _ _ _ _ _ _ (up (bal (brf _) _) X0.out)) Tryz.underlying166 rfl (way_info _ _ _ _ _)) rfl ⟨b,hg,kb,rfl,rows64_set (rows64_up ⟨X1.out,X2.out,X3.out⟩ (bal (brf _) _)) (up (bal (brf _) _) X0.out),below_setRow (bal HB2.out _) (Nat.le_refl _) _⟩
theorem way384(w:World):Calls Tryz.prog 130 #[.int .i64 384] w fun e w'=>∃b hg kb,e=.returned (.agg (wayA 64 80 b hg kb))∧Rows64 w' b hg kb s384∧Below w.heap.size w w':=by
 have hz:=zeroWay;go_enter Tryz.func130,Tryz.ntmps130;go_wp2_with (first|(refine wp_built rfl 40 12 _ rfl byA64 3 ?hr ?_;(case hr=>kernel_rfl)))
 have z0:=heap_alloc2_old w (.cells wayZ 166) (.cells byA64 3);have z1:=heap_alloc2_new w (.cells wayZ 166) (.cells byA64 3);have hB:Below w.heap.size w ((w.alloc (.cells wayZ 166)).alloc (.cells byA64 3)):=bal (bal (brf w) _) _;generalize hW:(w.alloc (.cells wayZ 166)).alloc (.cells byA64 3)=W1 at z0 z1 hB;clear hW;refine(rst512 W1).mono ?_;rintro e1 w1 ⟨rfl,hw1⟩;have hb1:Below W1.heap.size W1 w1:=by rw[hw1];exact bal (brf _) _
 have z2:w1.heap[W1.heap.size]?=some (.cells (ist64 s512) 3 (0,0)):=by rw[hw1];exact heap_alloc_new _ _
 have y0:=up hb1 z0;have y1:=up hb1 z1;have hB1:=hB.trans (hb1.mono hB.size);generalize W1.heap.size=hg at z2;clear hw1 hb1 z0 z1 hB;have Y0:Hid _:=y0;have Y1:Hid _:=y1;have Y2:Hid _:=z2;have HB1:Hid _:=hB1;clear y0 y1 z2 hB1 W1;go_wp2_with fail
 refine(rk512 w1).mono ?_;rintro e2 w2 ⟨rfl,hw2⟩;have hb2:Below w1.heap.size w1 w2:=by rw[hw2];exact bal (brf _) _
 have x3:w2.heap[w1.heap.size]?=some (.cells kI64 3 (0,0)):=by rw[hw2];exact heap_alloc_new _ _
 have x0:=up hb2 Y0.out;have x1:=up hb2 Y1.out;have x2:=up hb2 Y2.out;have hB2:=HB1.out.trans (hb2.mono HB1.out.size);generalize w1.heap.size=kb at x3;clear hw2 hb2 Y0 Y1 Y2 HB1 w1;have X0:Hid _:=x0;have X1:Hid _:=x1;have X2:Hid _:=x2;have X3:Hid _:=x3;have HB2:Hid _:=hB2;clear x0 x1 x2 x3 hB2;obtain⟨b,hb⟩:∃b,b=w.heap.size+1:=⟨_,rfl⟩;rw[←hb]at X1;have hbw:w.heap.size≠b:=by omega
 rw[←hb];clear hb;go_wp2_with (first|(refine wp_build rfl 166 _ rfl (.agg (wayA 64 80 b hg kb)) ?hr ?_;(case hr=>kernel_rfl))|(refine wpList_store_row rfl 166 (.tmp 3) (.tmp 13) rfl w2.heap.size _ rfl rfl _ _ (heap_alloc_new _ _) (way_info _ _ _ _ _) rfl (way_one _ _ _ _ _) ?_;rw[World.setRow_alloc_new]))
 have r5:=heap_alloc_new w2 (.cells (wayA 64 80 b hg kb) 166);have hb5:Below w2.heap.size w2 (w2.alloc (.cells (wayA 64 80 b hg kb) 166)):=bal (brf _) _;generalize hW:w2.alloc (.cells (wayA 64 80 b hg kb) 166)=W5 at r5 hb5;clear hW;refine(rst384 W5).mono ?_;rintro e6 w6 ⟨rfl,hw6⟩;have hb6:Below W5.heap.size W5 w6:=by rw[hw6];exact bal (brf _) _
 have x7:w6.heap[W5.heap.size]?=some (.cells (ist64 s384) 3 (0,0)):=by rw[hw6];exact heap_alloc_new _ _
 have hR:Rows64 w6 b W5.heap.size kb s384:=⟨up hb6 (up hb5 X1.out),x7,up hb6 (up hb5 X3.out)⟩;have h0:=up hb6 (up hb5 X0.out);have h5:=up hb6 r5;have hB6:=HB2.out.trans ((hb5.trans (hb6.mono hb5.size)).mono HB2.out.size);have hle:w.heap.size<w2.heap.size:=(Array.getElem?_eq_some_iff.1 X0.out).1;generalize W5.heap.size=h2 at hR;generalize w2.heap.size=g at hle h5;have HR:Hid _:=hR;have H0:Hid _:=h0;have H5:Hid _:=h5;have HB6:Hid _:=hB6;have c3:w6.cell? ⟨g,3,none⟩=some (.slice (some ⟨hg,0,none⟩) 8 8):=(cell_of_row _ _ _ _ _ _ h5).trans rfl;have cf:w6.frozen? ⟨g,3,none⟩=false:=frozen_of_row _ _ _ _ _ h5;clear hw6 hb6 x7 hR h0 h5 hB6 r5 hb5 X0 X1 X2 X3 HB2 hbw;have hs1:(w6.setCell ⟨g,3,none⟩ (.slice (some ⟨h2,0,none⟩) 8 8)).heap[g]?=some (.cells (wayA 64 80 b h2 kb) 166 (0,0)):=(heap_setCell_same _ _ _ _ _ _ H5.out).trans rfl;have hs2:(w6.setCell ⟨g,3,none⟩ (.slice (some ⟨h2,0,none⟩) 8 8)).heap[w.heap.size]?=some (.cells wayZ 166 (0,0)):=by rw[heap_setCell_other _ _ _ _ (Nat.ne_of_lt hle)];exact H0.out
 have HS1:Hid _:=hs1;have HS2:Hid _:=hs2;clear hs1 hs2;go_wp2_with (first|(refine wpList_load_row rfl 166 (.tmp 3) rfl g rfl _ _ _ _ HS1.out Tryz.underlying166 rfl (way_info 64 80 b h2 kb) ?_)|(refine wpList_store_row rfl 166 (.tmp 2) (.tmp 18) rfl w.heap.size _ rfl rfl _ _ HS2.out (way_info _ _ _ _ _) rfl (way_one _ _ _ _ _) ?_))
 refine bodyPost_ret (v:=.agg (wayA 64 80 b h2 kb)) (results_cell_row rfl _ _ w.heap.size _ _ _ _ rfl (setRow_heap _ _ _ _ _ _ HS2.out) Tryz.underlying166 rfl (way_info _ _ _ _ _)) rfl ⟨b,h2,kb,rfl,rows64_set (rows64_setCell HR.out H5.out) HS2.out,below_setRow (HB6.out.setCell (Nat.le_of_lt hle) _) (Nat.le_refl _) _⟩
theorem byte_sar(x:BitVec 64)(k:Nat)(h:k≤56):eS x/2^k%256=((byteOf (x>>>k)).toNat:Int):=by
 rw[sarS];have h2:(x.sshiftRight k).setWidth 8=(x>>>k).setWidth 8:=by
  apply BitVec.eq_of_getLsbD_eq;intro i hi;simp only[BitVec.getLsbD_setWidth,BitVec.getLsbD_sshiftRight,BitVec.getLsbD_ushiftRight];have h3:k+i<64:=by omega
  have h4:i<64:=by omega
  simp[h3,h4,hi]
 have h5:∀y:BitVec 64,eS y%256=(((y.setWidth 8).toNat:Nat):Int):=by
  intro y;have hy:=y.isLt;unfold eS;rw[BitVec.toInt_eq_toNat_cond,BitVec.toNat_setWidth];split<;>omega
 rw[h5,h2];unfold byteOf;simp
theorem str1(W:World)(c:UInt8):Sem.run Tryz.prog (convert 78 9 (.slice (some ⟨W.heap.size,0,none⟩) 1 1)) (W.alloc (.cells #[.int .u8 (c.toNat:Int)] 5))=.ok (.string ⟨#[c]⟩) (W.alloc (.cells #[.int .u8 (c.toNat:Int)] 5)):=by
 refine run_convert_bytes_back _ 78 9 5 ⟨W.heap.size,0,none⟩ 1 [c] Tryz.underlying78 Tryz.underlying5 Tryz.underlying9 ?_;intro j hj;obtain rfl:j=0:=by simpa using hj
 show(W.alloc _).cell? ⟨W.heap.size,0,none⟩=_
 rw[cell_of_row _ _ _ _ _ _ (heap_alloc_new _ _)];rfl
theorem beTo_far(n:Nat)(x:BitVec 64)(m:Nat)(h:8≤n-1-m):byteOf (x>>>(8*(n-1-m)))=0:=by
 have e:x>>>(8*(n-1-m))=0:=by
  apply BitVec.eq_of_toNat_eq;rw[BitVec.toNat_ushiftRight,Nat.shiftRight_eq_div_pow];have h1:=x.isLt;have h2:2^64≤2^(8*(n-1-m)):=Nat.pow_le_pow_right (by omega) (by omega);exact Nat.div_eq_of_lt (by omega)
 rw[e];rfl
theorem beTo_ex(c:Nat)(x:BitVec 32)(k:Nat):beTo c (ex x) k=beTo c x k:=by
 induction k with
 | zero=>rfl
 | succ k ih=>
   have hx:(ex x).toNat=x.toNat:=by unfold ex;rw[BitVec.toNat_setWidth];have:=x.isLt;omega
   have e:∀j:Nat,byteOf (ex x>>>j)=byteOf (x>>>j):=by
    intro j;unfold byteOf;rw[BitVec.toNat_ushiftRight,BitVec.toNat_ushiftRight,hx]
   rw[beTo,beTo,ih,e]
theorem str_app(l k:List UInt8):(⟨l.toArray⟩++⟨k.toArray⟩:ByteArray)=⟨(l++k).toArray⟩:=Go.WideShapes.bytes_inj (by simp)
theorem rbytesOf(x:BitVec 64)(n:Nat)(hn:n≤16)(w:World):Calls Tryz.prog 133 #[.int .i64 (eS x),.int .i64 (n:Int)] w fun e w'=>e=.returned (.string ⟨(beTo n x n).toArray⟩)∧Below w.heap.size w w':=by
 go_enter Tryz.func133,Tryz.ntmps133;go_wp2_with fail
 go_loopw [5,6] (fun v i wr=>∃m:Nat,m≤n∧i=.int .i64 ((n:Int)-1-m)∧v=.string ⟨(beTo n x m).toArray⟩∧Below w.heap.size w wr) (fun _ i _=>(intOf i+1).toNat)
 case atStart=>exact⟨0,by omega,by simp,rfl,brf _⟩
 case round=>
  obtain⟨m,hm,rfl,rfl,hb⟩:=hrel;by_cases hlt:m<n
  ·have hi0:(0:Int)≤(n:Int)-1-m:=by omega
   have hbl:(beTo n x m).length+1≤9223372036854775807:=by rw[beTo_length];omega
   have HB:Hid _:=hb;clear hb;by_cases h8:(n:Int)-1-m<8
   ·have hs1:=str1 wr (byteOf (x>>>(8*(n-1-m))))
    rw[←byte_sar x _ (by omega)]at hs1;go_wp2_with fail
    go_roundw
    case rel=>first|exact⟨m+1,by omega,by go_num,by rw[beTo,←str_app],bal HB.out _⟩|((repeat apply Exists.intro);refine⟨⟨m+1,by omega,by go_num,by rw[beTo,←str_app],bal HB.out _⟩,rfl⟩)
    case measure=>simp[intOf];omega
   ·have hs1:=str1 wr 0
    rw[show(((0:UInt8).toNat:Nat):Int)=0 from rfl]at hs1;go_wp2_with fail
    go_roundw
    case rel=>first|exact⟨m+1,by omega,by go_num,by rw[beTo,beTo_far n x m (by omega),←str_app],bal HB.out _⟩|((repeat apply Exists.intro);refine⟨⟨m+1,by omega,by go_num,by rw[beTo,beTo_far n x m (by omega),←str_app],bal HB.out _⟩,rfl⟩)
    case measure=>simp[intOf];omega
  ·obtain rfl:m=n:=by omega
   go_wp2_with fail
   go_ret;exact⟨rfl,hb⟩
theorem bits8_32(n:Nat)(h:n≤140737488355328):eS (BitVec.ofNat 64 (n*8))=8*(n:Int):=by
 unfold eS;rw[BitVec.toInt_eq_toNat_cond,BitVec.toNat_ofNat];split<;>omega
def padTo32(l:List UInt8)(k:Nat):List UInt8:=l++[128]++List.replicate k 0
theorem padTo32_length(l:List UInt8)(k:Nat):(padTo32 l k).length=l.length+1+k:=by simp[padTo32];omega
theorem padTo32_succ(l:List UInt8)(k:Nat):padTo32 l (k+1)=padTo32 l k++[0]:=by simp[padTo32,List.replicate_succ']
theorem rpadded32(d:ByteArray)(w:World)(hd:d.size≤140737488355328):Calls Tryz.prog 131 #[.string d,.int .i64 64] w fun e w'=>e=.returned (.string ⟨(endL 64 8 d.data.toList d.size).toArray⟩)∧Below w.heap.size w w':=by
 have hl:d.size+1≤9223372036854775807:=by omega
 have hp:padZ 64 8 d.size<64:=Nat.mod_lt _ (by omega);have HP:Hid (padZ 64 8 d.size<64):=hp;clear hp;go_enter Tryz.func131,Tryz.ntmps131;go_wp2_with fail
 go_loopw [5] (fun v wr=>∃k:Nat,k≤padZ 64 8 d.size∧v=.string ⟨(padTo32 d.data.toList k).toArray⟩∧wr=w) (fun v _=>9223372036854775807-(match v with| .string s=>s.size|_=>0))
 case atStart=>exact⟨0,by omega,congrArg Value.string (Go.WideShapes.bytes_inj (by simp[padTo32])),rfl⟩
 case round=>
  obtain⟨k,hk,rfl,hw⟩:=hrel;subst hw;have hL:(padTo32 d.data.toList k).length=d.size+1+k:=padTo32_length _ _;generalize hQ:padTo32 d.data.toList k=L at hL;have HQ:Hid _:=hQ;clear hQ;have hll:L.length+1≤9223372036854775807:=by have:=HP.out;omega
  by_cases hlt:k<padZ 64 8 d.size
  ·have hne:¬((L.length:Int)%64=56):=by
    have:=padZ_miss 64 8 d.size k (by omega) (by omega) (by omega) hlt;omega
   go_wp2_with fail
   have ea:(⟨L.toArray⟩++⟨#[0]⟩:ByteArray)=⟨(padTo32 d.data.toList (k+1)).toArray⟩:=by rw[padTo32_succ,HQ.out];exact str_app L [0]
   refine⟨⟨k+1,by omega,by rw[ea],trivial⟩,?_⟩;show 9223372036854775807-(⟨L.toArray⟩++⟨#[0]⟩:ByteArray).size<9223372036854775807-(⟨L.toArray⟩:ByteArray).size
   have e1:(⟨L.toArray⟩++⟨#[0]⟩:ByteArray).size=L.length+1:=by rw[show(⟨L.toArray⟩++⟨#[0]⟩:ByteArray)=_ from str_app L [0]];show(L++[0]).toArray.size=_;simp
   have e2:(⟨L.toArray⟩:ByteArray).size=L.length:=by show L.toArray.size=_;simp
   rw[e1,e2];omega
  ·obtain rfl:k=padZ 64 8 d.size:=by omega
   have hne:(L.length:Int)%64=56:=by
    have:=padZ_hit 64 8 d.size (by omega) (by omega) (by omega);omega
   go_wp2_with fail
   have hc:=rbytesOf (BitVec.ofNat 64 (d.size*8)) 8 (by omega) wr;rw[bits8_32 _ hd]at hc;refine Calls.mono hc ?_;rintro e1 w1 ⟨rfl,hb1⟩;generalize hT:beTo 8 (BitVec.ofNat 64 (d.size*8)) 8=T;have hTl:T.length=8:=by rw[←hT];exact beTo_length _ _ _
   have HT:Hid _:=hT;clear hT hc;have hl2:L.length+T.length≤9223372036854775807:=by have:=HP.out;omega
   go_wp2_with fail
   go_ret;refine⟨?_,hb1⟩;rw[str_app,endL,HT.out,←HQ.out];rfl
theorem bits8_64(n:Nat)(h:n≤140737488355328):eS (BitVec.ofNat 64 (n*8))=8*(n:Int):=by
 unfold eS;rw[BitVec.toInt_eq_toNat_cond,BitVec.toNat_ofNat];split<;>omega
def padTo64(l:List UInt8)(k:Nat):List UInt8:=l++[128]++List.replicate k 0
theorem padTo64_length(l:List UInt8)(k:Nat):(padTo64 l k).length=l.length+1+k:=by simp[padTo64];omega
theorem padTo64_succ(l:List UInt8)(k:Nat):padTo64 l (k+1)=padTo64 l k++[0]:=by simp[padTo64,List.replicate_succ']
theorem rpadded64(d:ByteArray)(w:World)(hd:d.size≤140737488355328):Calls Tryz.prog 131 #[.string d,.int .i64 128] w fun e w'=>e=.returned (.string ⟨(endL 128 16 d.data.toList d.size).toArray⟩)∧Below w.heap.size w w':=by
 have hl:d.size+1≤9223372036854775807:=by omega
 have hp:padZ 128 16 d.size<128:=Nat.mod_lt _ (by omega);have HP:Hid (padZ 128 16 d.size<128):=hp;clear hp;go_enter Tryz.func131,Tryz.ntmps131;go_wp2_with fail
 go_loopw [5] (fun v wr=>∃k:Nat,k≤padZ 128 16 d.size∧v=.string ⟨(padTo64 d.data.toList k).toArray⟩∧wr=w) (fun v _=>9223372036854775807-(match v with| .string s=>s.size|_=>0))
 case atStart=>exact⟨0,by omega,congrArg Value.string (Go.WideShapes.bytes_inj (by simp[padTo64])),rfl⟩
 case round=>
  obtain⟨k,hk,rfl,hw⟩:=hrel;subst hw;have hL:(padTo64 d.data.toList k).length=d.size+1+k:=padTo64_length _ _;generalize hQ:padTo64 d.data.toList k=L at hL;have HQ:Hid _:=hQ;clear hQ;have hll:L.length+1≤9223372036854775807:=by have:=HP.out;omega
  by_cases hlt:k<padZ 128 16 d.size
  ·have hne:¬((L.length:Int)%128=112):=by
    have:=padZ_miss 128 16 d.size k (by omega) (by omega) (by omega) hlt;omega
   go_wp2_with fail
   have ea:(⟨L.toArray⟩++⟨#[0]⟩:ByteArray)=⟨(padTo64 d.data.toList (k+1)).toArray⟩:=by rw[padTo64_succ,HQ.out];exact str_app L [0]
   refine⟨⟨k+1,by omega,by rw[ea],trivial⟩,?_⟩;show 9223372036854775807-(⟨L.toArray⟩++⟨#[0]⟩:ByteArray).size<9223372036854775807-(⟨L.toArray⟩:ByteArray).size
   have e1:(⟨L.toArray⟩++⟨#[0]⟩:ByteArray).size=L.length+1:=by rw[show(⟨L.toArray⟩++⟨#[0]⟩:ByteArray)=_ from str_app L [0]];show(L++[0]).toArray.size=_;simp
   have e2:(⟨L.toArray⟩:ByteArray).size=L.length:=by show L.toArray.size=_;simp
   rw[e1,e2];omega
  ·obtain rfl:k=padZ 128 16 d.size:=by omega
   have hne:(L.length:Int)%128=112:=by
    have:=padZ_hit 128 16 d.size (by omega) (by omega) (by omega);omega
   go_wp2_with fail
   have hc:=rbytesOf (BitVec.ofNat 64 (d.size*8)) 16 (by omega) wr;rw[bits8_64 _ hd]at hc;refine Calls.mono hc ?_;rintro e1 w1 ⟨rfl,hb1⟩;generalize hT:beTo 16 (BitVec.ofNat 64 (d.size*8)) 16=T;have hTl:T.length=16:=by rw[←hT];exact beTo_length _ _ _
   have HT:Hid _:=hT;clear hT hc;have hl2:L.length+T.length≤9223372036854775807:=by have:=HP.out;omega
   go_wp2_with fail
   go_ret;refine⟨?_,hb1⟩;rw[str_app,endL,HT.out,←HQ.out];rfl
theorem mk32{w:World}{bp kb:Nat}{s:St 32}{t e:TypeId}(h:w.heap[bp]?=some (.cells (planA32 kb s) t (0,0)))(hk:w.heap[kb]?=some (.cells keysA32 e (0,0))):Plan32 w32 w bp kb∧w.cell? ⟨bp,1,none⟩=some (.int .u32 (eW s.a))∧w.cell? ⟨bp,2,none⟩=some (.int .u32 (eW s.b))∧w.cell? ⟨bp,3,none⟩=some (.int .u32 (eW s.c))∧w.cell? ⟨bp,4,none⟩=some (.int .u32 (eW s.d))∧w.cell? ⟨bp,5,none⟩=some (.int .u32 (eW s.e))∧w.cell? ⟨bp,6,none⟩=some (.int .u32 (eW s.f))∧w.cell? ⟨bp,7,none⟩=some (.int .u32 (eW s.g))∧w.cell? ⟨bp,8,none⟩=some (.int .u32 (eW s.h)):=by
 have c:=fun j=>cell_of_row w bp j _ _ _ h
 refine⟨⟨(c 0).trans rfl,(c 9).trans rfl,(c 10).trans rfl,(c 11).trans rfl,(c 12).trans rfl,(c 13).trans rfl,(c 14).trans rfl,(c 15).trans rfl,(c 16).trans rfl,(c 17).trans rfl,(c 18).trans rfl,(c 19).trans rfl,(c 20).trans rfl,(c 21).trans rfl,?_,rfl,⟨rfl,rfl,rfl⟩,⟨rfl,rfl,rfl⟩,⟨rfl,rfl,rfl⟩,⟨rfl,rfl,rfl⟩⟩,(c 1).trans rfl,(c 2).trans rfl,(c 3).trans rfl,(c 4).trans rfl,(c 5).trans rfl,(c 6).trans rfl,(c 7).trans rfl,(c 8).trans rfl⟩;intro i hi;rw[cell_of_row w kb i _ _ _ hk];have hl:i<K32.length:=hi;show((K32.map fun k=>Value.int .u32 (eW k)).toArray)[i]?=some (.int .u32 (eW (K32.getD i 0)))
 simp[List.getElem?_eq_getElem hl]
theorem mk64{w:World}{bp kb:Nat}{s:St 64}{t e:TypeId}(h:w.heap[bp]?=some (.cells (planA64 kb s) t (0,0)))(hk:w.heap[kb]?=some (.cells keysA64 e (0,0))):Plan64 w64 w bp kb∧w.cell? ⟨bp,1,none⟩=some (.int .u64 (eW s.a))∧w.cell? ⟨bp,2,none⟩=some (.int .u64 (eW s.b))∧w.cell? ⟨bp,3,none⟩=some (.int .u64 (eW s.c))∧w.cell? ⟨bp,4,none⟩=some (.int .u64 (eW s.d))∧w.cell? ⟨bp,5,none⟩=some (.int .u64 (eW s.e))∧w.cell? ⟨bp,6,none⟩=some (.int .u64 (eW s.f))∧w.cell? ⟨bp,7,none⟩=some (.int .u64 (eW s.g))∧w.cell? ⟨bp,8,none⟩=some (.int .u64 (eW s.h)):=by
 have c:=fun j=>cell_of_row w bp j _ _ _ h
 refine⟨⟨(c 0).trans rfl,(c 9).trans rfl,(c 10).trans rfl,(c 11).trans rfl,(c 12).trans rfl,(c 13).trans rfl,(c 14).trans rfl,(c 15).trans rfl,(c 16).trans rfl,(c 17).trans rfl,(c 18).trans rfl,(c 19).trans rfl,(c 20).trans rfl,(c 21).trans rfl,?_,rfl,⟨rfl,rfl,rfl⟩,⟨rfl,rfl,rfl⟩,⟨rfl,rfl,rfl⟩,⟨rfl,rfl,rfl⟩⟩,(c 1).trans rfl,(c 2).trans rfl,(c 3).trans rfl,(c 4).trans rfl,(c 5).trans rfl,(c 6).trans rfl,(c 7).trans rfl,(c 8).trans rfl⟩;intro i hi;rw[cell_of_row w kb i _ _ _ hk];have hl:i<K64.length:=hi;show((K64.map fun k=>Value.int .u64 (eW k)).toArray)[i]?=some (.int .u64 (eW (K64.getD i 0)))
 simp[List.getElem?_eq_getElem hl]
def isAlg(a:Int):Bool:=a==256||a==384||a==512
def sizeL(a:Int):Int:=if a=256 then 32 else if a=384 then 48 else if a=512 then 64 else 0
theorem size_any(a:Int)(w:World):Calls Tryz.prog 87 #[.int .i64 a] w fun e w'=>e=.returned (.int .i64 (sizeL a))∧w'=w:=by
 by_cases h1:a=256
 ·subst h1
  go_enter Tryz.func87,Tryz.ntmps87;go_wp2;go_ret;exact⟨rfl,rfl⟩
 by_cases h2:a=384
 ·subst h2
  go_enter Tryz.func87,Tryz.ntmps87;go_wp2;go_ret;exact⟨rfl,rfl⟩
 by_cases h3:a=512
 ·subst h3
  go_enter Tryz.func87,Tryz.ntmps87;go_wp2;go_ret;exact⟨rfl,rfl⟩
 ·have e1:(a==256)=false:=by simp[h1]
  have e2:(a==384)=false:=by simp[h2]
  have e3:(a==512)=false:=by simp[h3]
  have HS:Hid (sizeL a=0):=by show sizeL a=0;simp[sizeL,h1,h2,h3]
  clear h1 h2 h3;go_enter Tryz.func87,Tryz.ntmps87;go_wp2;go_ret;exact⟨by rw[HS.out];rfl,rfl⟩
def codeSum(a:Int)(l:List UInt8):List UInt8:=
 if a=256 then writeTo32 (sumS32 w32 s256 l) 8 else if a=384 then(writeTo64 (sumS64 w64 s384 l) 8).take 48 else if a=512 then writeTo64 (sumS64 w64 s512 l) 8 else []
theorem bun32{w w1:World}{kb:Nat}{k:Array Value}{t e:TypeId}(S:St 32)(hk:w1.heap[kb]?=some (.cells k e (0,0)))(hb:Below w.heap.size w w1):∃W2,w1.alloc (.cells (planA32 kb S) t)=W2∧W2.heap[w1.heap.size]?=some (.cells (planA32 kb S) t (0,0))∧W2.heap[kb]?=some (.cells k e (0,0))∧Below w.heap.size w W2:=
 ⟨_,rfl,heap_alloc_new _ _,by rw[heap_alloc_old _ _ (Array.getElem?_eq_some_iff.1 hk).1];exact hk,bal hb _⟩
theorem bun64{w w1:World}{kb:Nat}{k:Array Value}{t e:TypeId}(S:St 64)(hk:w1.heap[kb]?=some (.cells k e (0,0)))(hb:Below w.heap.size w w1):∃W2,w1.alloc (.cells (planA64 kb S) t)=W2∧W2.heap[w1.heap.size]?=some (.cells (planA64 kb S) t (0,0))∧W2.heap[kb]?=some (.cells k e (0,0))∧Below w.heap.size w W2:=
 ⟨_,rfl,heap_alloc_new _ _,by rw[heap_alloc_old _ _ (Array.getElem?_eq_some_iff.1 hk).1];exact hk,bal hb _⟩
theorem sum_256(d:ByteArray)(w:World)(hd:d.size≤140737488355328):Calls Tryz.prog 89 #[.int .i64 256,.string d] w fun e w'=>e=.returned (.string ⟨(writeTo32 (sumS32 w32 s256 d.data.toList) 8).toArray⟩)∧Below w.heap.size w w':=by
 have hz:=zeroP32;go_enter Tryz.func89,Tryz.ntmps89;go_wp2_with fail
 refine(plan256 w).mono ?_;rintro e1 w1 ⟨rfl,hb1,hk1⟩;generalize hS:s256=S;have HS:Hid (s256=S):=hS;clear hS;generalize hkb:w.heap.size+1=kb at hk1;clear hkb;have HK:Hid _:=hk1;have HB:Hid _:=hb1;clear hk1 hb1;go_wp2_with (first|(refine wpList_store_row rfl 156 (.tmp 5) (.tmp 11) rfl w1.heap.size _ rfl rfl _ _ (heap_alloc_new _ _) (planA32_info _ _) rfl (planA32_one _ _) ?_;rw[World.setRow_alloc_new];obtain⟨W2,hW,hW2,hWk,hWb⟩:=bun32 (t:=156) S HK.out HB.out;rw[hW];have HW2:Hid _:=hW2;have HWk:Hid _:=hWk;have HWb:Hid _:=hWb;clear hW hW2 hWk hWb))
 obtain⟨hp,b1,b2,b3,b4,b5,b6,b7,b8⟩:=mk32 HW2.out HWk.out;refine(sum32 w1.heap.size kb S d W2 w32 hd hp b1 b2 b3 b4 b5 b6 b7 b8).mono ?_;rintro e2 w2 ⟨rfl,hb2⟩;have hB2:Below w.heap.size w w2:=HWb.out.trans (hb2.mono HWb.out.size);go_wp2_with fail
 go_ret;refine⟨?_,hB2⟩;rw[HS.out];rfl
theorem sum_512(d:ByteArray)(w:World)(hd:d.size≤140737488355328):Calls Tryz.prog 89 #[.int .i64 512,.string d] w fun e w'=>e=.returned (.string ⟨(writeTo64 (sumS64 w64 s512 d.data.toList) 8).toArray⟩)∧Below w.heap.size w w':=by
 have hz:=zeroP64;go_enter Tryz.func89,Tryz.ntmps89;go_wp2_with fail
 refine(plan512 w).mono ?_;rintro e1 w1 ⟨rfl,hb1,hk1⟩;generalize hS:s512=S;have HS:Hid (s512=S):=hS;clear hS;generalize hkb:w.heap.size+1=kb at hk1;clear hkb;have HK:Hid _:=hk1;have HB:Hid _:=hb1;clear hk1 hb1;go_wp2_with (first|(refine wpList_store_row rfl 163 (.tmp 7) (.tmp 23) rfl w1.heap.size _ rfl rfl _ _ (heap_alloc_new _ _) (planA64_info _ _) rfl (planA64_one _ _) ?_;rw[World.setRow_alloc_new];obtain⟨W2,hW,hW2,hWk,hWb⟩:=bun64 (t:=163) S HK.out HB.out;rw[hW];have HW2:Hid _:=hW2;have HWk:Hid _:=hWk;have HWb:Hid _:=hWb;clear hW hW2 hWk hWb))
 obtain⟨hp,b1,b2,b3,b4,b5,b6,b7,b8⟩:=mk64 HW2.out HWk.out;refine(sum64 w1.heap.size kb S d W2 w64 hd hp b1 b2 b3 b4 b5 b6 b7 b8).mono ?_;rintro e2 w2 ⟨rfl,hb2⟩;have hB2:Below w.heap.size w w2:=HWb.out.trans (hb2.mono HWb.out.size);go_wp2_with fail
 go_ret;refine⟨?_,hB2⟩;rw[HS.out];rfl
theorem sum_384(d:ByteArray)(w:World)(hd:d.size≤140737488355328):Calls Tryz.prog 89 #[.int .i64 384,.string d] w fun e w'=>e=.returned (.string ⟨((writeTo64 (sumS64 w64 s384 d.data.toList) 8).take 48).toArray⟩)∧Below w.heap.size w w':=by
 have hz:=zeroP64;go_enter Tryz.func89,Tryz.ntmps89;go_wp2_with fail
 refine(plan384 w).mono ?_;rintro e1 w1 ⟨kb,rfl,hb1,hkw,hk1⟩;generalize hS:s384=S;have HS:Hid (s384=S):=hS;clear hS;have HK:Hid _:=hk1;have HB:Hid _:=hb1;clear hk1 hb1;go_wp2_with (first|(refine wpList_store_row rfl 163 (.tmp 6) (.tmp 16) rfl w1.heap.size _ rfl rfl _ _ (heap_alloc_new _ _) (planA64_info _ _) rfl (planA64_one _ _) ?_;rw[World.setRow_alloc_new];obtain⟨W2,hW,hW2,hWk,hWb⟩:=bun64 (t:=163) S HK.out HB.out;rw[hW];have HW2:Hid _:=hW2;have HWk:Hid _:=hWk;have HWb:Hid _:=hWb;clear hW hW2 hWk hWb))
 obtain⟨hp,b1,b2,b3,b4,b5,b6,b7,b8⟩:=mk64 HW2.out HWk.out;refine(sum64 w1.heap.size kb S d W2 w64 hd hp b1 b2 b3 b4 b5 b6 b7 b8).mono ?_;rintro e2 w2 ⟨rfl,hb2⟩;have hB2:Below w.heap.size w w2:=HWb.out.trans (hb2.mono HWb.out.size);generalize hL:writeTo64 (sumS64 w64 S d.data.toList) 8=L;have HL:Hid (writeTo64 (sumS64 w64 S d.data.toList) 8=L):=hL;have hl:48≤(ByteArray.mk L.toArray).size:=by show 48≤L.toArray.size;rw[←hL];simp[writeTo64_length]
 have hi:(48:Int)≤((ByteArray.mk L.toArray).size:Int):=by omega
 have HLn:=hl;clear hL hl;go_wp2_with (go_at_call 87;refine(size_any 384 _).mono ?_;rintro e3 w3 ⟨rfl,hw3⟩;rw[hw3];clear hw3 w3;rw[show sizeL 384=48 from rfl])
 go_ret;refine⟨?_,hB2⟩;rw[HS.out,HL.out];have hx:(ByteArray.mk L.toArray).extract 0 48=⟨(L.take 48).toArray⟩:=Go.WideShapes.bytes_inj (by rw[extract_list];simp);show Ending.returned (.string ((ByteArray.mk L.toArray).extract 0 48))=_
 rw[hx]
theorem sum_none(a:Int)(d:ByteArray)(w:World)(h1:(a==256)=false)(h2:(a==384)=false)(h3:(a==512)=false):Calls Tryz.prog 89 #[.int .i64 a,.string d] w fun e w'=>e=.returned (.string ⟨#[]⟩)∧w'=w:=by
 go_enter Tryz.func89,Tryz.ntmps89;go_wp2;go_ret;exact⟨rfl,rfl⟩
theorem sum_any(a:Int)(d:ByteArray)(w:World)(hd:d.size≤140737488355328):Calls Tryz.prog 89 #[.int .i64 a,.string d] w fun e w'=>e=.returned (.string ⟨(codeSum a d.data.toList).toArray⟩)∧Below w.heap.size w w':=by
 unfold codeSum;by_cases h1:a=256
 ·subst h1;rw[if_pos rfl];exact sum_256 d w hd
 ·rw[if_neg h1]
  by_cases h2:a=384
  ·subst h2;rw[if_pos rfl];exact sum_384 d w hd
  ·rw[if_neg h2]
   by_cases h3:a=512
   ·subst h3;rw[if_pos rfl];exact sum_512 d w hd
   ·rw[if_neg h3]
    exact(sum_none a d w (by simp[h1]) (by simp[h2]) (by simp[h3])).mono fun e w' ⟨he,hw⟩=>⟨he,by rw[hw];exact brf w⟩
theorem blocksTo_left{n:Nat}(p:Way n)(y z:Nat)(s:St n)(A B:List UInt8)(m:Nat)(hA:A.length=m*z):∀j,j≤m→blocksTo p y z s (A++B) j=blocksTo p y z s A j:=by
 intro j;induction j with
 | zero=>intro _;rfl
 | succ j ih=>
   intro hj;have h1:(j+1)*z≤m*z:=Nat.mul_le_mul_right _ hj;have h2:j*z+z≤A.length:=by rw[hA];rw[Nat.add_mul,Nat.one_mul]at h1;exact h1
   rw[blocksTo,blocksTo,ih (by omega),List.drop_append_of_le_length (by omega),List.take_append_of_le_length (by rw[List.length_drop];omega)]
theorem blocksTo_append{n:Nat}(p:Way n)(y z:Nat)(s:St n)(A B:List UInt8)(m:Nat)(hA:A.length=m*z)(k:Nat):blocksTo p y z s (A++B) (m+k)=blocksTo p y z (blocksTo p y z s A m) B k:=by
 induction k with
 | zero=>exact blocksTo_left p y z s A B m hA m (Nat.le_refl _)
 | succ k ih=>
   rw[←Nat.add_assoc,blocksTo,blocksTo,ih,Nat.add_mul,←hA,List.drop_append];congr 2
   rw[List.drop_of_length_le (by omega),List.nil_append,Nat.add_sub_cancel_left]
theorem endL_split(z c m:Nat)(l:List UInt8)(size:Nat)(hm:m=l.length/z):endL z c l size=l.take (m*z)++endL z c (l.drop (m*z)) size:=by
 have h1:padZ z c l.length=padZ z c (l.drop (m*z)).length:=by
  rw[←padZ_mod z c l.length];congr 1
  rw[List.length_drop,hm,Nat.mul_comm,Nat.mod_eq_sub_mul_div]
 unfold endL;rw[h1,←List.append_assoc,←List.append_assoc,←List.append_assoc,List.take_append_drop]
theorem join_sum{n:Nat}(p:Way n)(y z c:Nat)(hz:0<z)(s:St n)(l:List UInt8)(size:Nat):blocksTo p y z s (endL z c l size) ((endL z c l size).length/z)=blocksTo p y z (blocksTo p y z s (l.take (l.length/z*z)) (l.length/z)) (endL z c (l.drop (l.length/z*z)) size) ((endL z c (l.drop (l.length/z*z)) size).length/z):=by
 have hA:(l.take (l.length/z*z)).length=l.length/z*z:=by
  rw[List.length_take];exact Nat.min_eq_left (Nat.div_mul_le_self _ _)
 have hk:(endL z c l size).length/z=l.length/z+(endL z c (l.drop (l.length/z*z)) size).length/z:=by
  rw[endL_split z c _ l size rfl,List.length_append,hA,Nat.add_comm,Nat.add_mul_div_right _ _ hz,Nat.add_comm]
 rw[hk,endL_split z c _ l size rfl];exact blocksTo_append p y z s _ _ _ hA _
end Go.Proofs.YtbbopknnoamkbaaGreatDoor.Dg
