import Derived.Test.YtbbopknnoamkbaaGreatDoorX1
import Derived.Test.YtbbopknnoamkbaaGreatDoorG1
set_option maxHeartbeats 4000000
set_option maxRecDepth 4000
namespace Go.Proofs.YtbbopknnoamkbaaGreatDoor
open Go.RowKit
set_option linter.unusedVariables false
structure KR (bp:Nat) (O:Nat→Prop) (kv:Value) (ks:List Nat) (w:World):Prop where
 shape:∃ad cap,kv=.slice ad ks.length cap
 at':∀(j k:Nat),ks[j]?=some k→∃g cap,kv=.slice (some ⟨g,0,none⟩) ks.length cap∧g<w.heap.size∧g≠bp∧¬O g∧w.cell? ⟨g,j,none⟩=some (.int .i64 (k:Int))
theorem KR.chg{bp:Nat}{O O':Nat→Prop}{kv:Value}{ks:List Nat}{w w':World}(h:KR bp O kv ks w)(hc:Chg bp O w O' w'):KR bp O' kv ks w':=by
 refine⟨h.shape,fun j k hk=>?_⟩;obtain⟨g,cap,e,h1,h2,h3,h4⟩:=h.at' j k hk;refine⟨g,cap,e,Nat.lt_of_lt_of_le h1 hc.size,h2,fun ho=>?_,?_⟩
 ·rcases hc.own g ho with a|a
  ·exact h3 a
  ·omega
 ·rw[World.cell?_of_block (a:=⟨g,j,none⟩) (hc.block g h1 h2 h3)];exact h4
theorem bodyTo_mono(F:Nat→List UInt8)(ks:List Nat):∀j,j≤ks.length→(bodyTo F ks j).length≤(bodyTo F ks ks.length).length:=by
 have h:∀d j,(bodyTo F ks j).length≤(bodyTo F ks (j+d)).length:=by
  intro d;induction d with
  | zero=>intro j;exact Nat.le_refl _
  | succ d ih=>
    intro j;have:=ih j;rw[←Nat.add_assoc,bodyTo];simp only[List.length_append];omega
 intro j hj;have:=h (ks.length-j) j;rwa [show j+(ks.length-j)=ks.length by omega]at this
section
variable (bp:Nat) (vN vO:Value) (l:List UInt8) (w:World)
theorem wlistN(a0 a1:UInt8)(F:Nat→List UInt8)(ks:List Nat)(kv:Value)(hks:ks.length≤1000000)(hK:KR bp (own vO []) kv ks w)(h:WZ bp vN vO l w)(hl:l.length+(bodyTo F ks ks.length).length+2≤4000000000)(hf:∀k∈ks,∀(v':Value) (l':List UInt8) (w':World),WZ bp vN v' l' w'→Chg bp (own vO []) w (own v' []) w'→l'.length+(F k).length≤4000000000→Calls Tryz.prog 70 #[.pointer (some ⟨bp,0,none⟩),.int .i64 (k:Int)] w' fun r w''=>WQ bp vN (own v' []) w' (l'++F k) r w''):Calls Tryz.prog 112 #[.pointer (some ⟨bp,0,none⟩),.int .u8 (a0.toNat:Int),kv,.func (.func 70) #[.pointer (some ⟨bp,0,none⟩)] #[],.int .u8 (a1.toNat:Int)] w fun r w'=>WQ bp vN (own vO []) w (l++(a0::bodyTo F ks ks.length++[a1])) r w':=by
 obtain⟨i0,hi0,hz0,hz1,hz2⟩:=info_parts u8infoJ;have HI:Hid _:=hi0;have H:Hid (WZ bp vN vO l w):=h;have HK:Hid (KR bp (own vO []) kv ks w):=hK;have HF:Hid _:=bodyTo_mono F ks;have HFF:Hid _:=hf;have hlt:=h.wd.lt;have HNE:Hid (some bp≠vO.ownBlock):=fun e=>by have:=(ownBlock_lt h.row e.symm).1;omega
 obtain⟨ad,cap,rfl⟩:=h.shape;obtain⟨adk,capk,rfl⟩:=hK.shape;obtain⟨c0,c1,cf⟩:=h.wd.cell;have f1:=cf 1;clear hi0 h cf hK hf;go_enter Tryz.func112,Tryz.ntmps112;go_wp2_with (refine wp_appO rfl (.tmp 16) (.tmp 18) 78 rfl 5 i0 Tryz.underlying78 HI.out hz0 hz1 hz2 (bp+1) _ l.length (l.map byteV) [a0] w rfl H.out.row (by omega) (by omega) (Nat.zero_lt_succ _) (by simp) rfl ?_;intro g8 cap8 w8 ho8 hg8 hgg8;have kA:=keepersA hg8 hlt HNE.out;have s1:=(kA.2.1 1).trans c1;have t1:=(kA.2.2 1).trans f1;have P8:Hid _:=H.out.put (by simp) (fun k hk=>heap_alloc_old _ _ hk) rfl rfl rfl ho8 hg8 hgg8;clear kA ho8 hg8 hgg8)
 have P9:Hid (∃v,WZ bp vN v (l++a0::bodyTo F ks 0) (w8.setCell ⟨bp,1,none⟩ (.slice (some ⟨g8,0,none⟩) (l.length+1) cap8))∧Chg bp (own (.slice ad l.length cap) []) w (own v []) (w8.setCell ⟨bp,1,none⟩ (.slice (some ⟨g8,0,none⟩) (l.length+1) cap8))):=⟨_,P8.out.1,P8.out.2⟩;clear P8 s1 t1;generalize w8.setCell ⟨bp,1,none⟩ (.slice (some ⟨g8,0,none⟩) (l.length+1) cap8)=W at P9 ⊢;clear c0 c1 f1 hlt HNE;go_loopw [24] (fun iv wr=>∃(j:Nat) (v:Value),j≤ks.length∧iv=.int .i64 (j:Int)∧WZ bp vN v (l++a0::bodyTo F ks j) wr∧Chg bp (own (.slice ad l.length cap) []) w (own v []) wr) (fun iv _=>ks.length-(intOf iv).toNat)
 case atStart=>obtain⟨v,a,b⟩:=P9.out;exact⟨0,v,by omega,rfl,a,b⟩
 case round=>
  clear P9;obtain⟨j,v,hj,rfl,hZ,hC⟩:=hrel;have hlen:(l++a0::bodyTo F ks j).length≤4000000000:=by
   have h1:=HF.out j hj;rw[List.length_append,List.length_cons];omega
  have HZ:Hid _:=hZ;have HC:Hid _:=hC;have HLEN:Hid _:=hlen;have hlt2:=hZ.wd.lt;have HNE:Hid (some bp≠v.ownBlock):=fun e=>by have:=(ownBlock_lt hZ.row e.symm).1;omega
  by_cases hlt:j<ks.length
  ·have k1:(j:Int)<(ks.length:Int):=by omega
   obtain⟨k,hk⟩:∃k,ks[j]?=some k:=⟨_,List.getElem?_eq_getElem hlt⟩;obtain⟨g,capg,e,g1,g2,g3,g4⟩:=(HK.out.chg hC).at' j k hk;obtain rfl:adk=some ⟨g,0,none⟩:=by injection e
   have hkm:k∈ks:=List.mem_of_getElem? hk;have HB:Hid (bodyTo F ks (j+1)=bodyTo F ks j++(if j=0 then []else [44])++F k):=by
    show _=_
    rw[bodyTo,List.getD_eq_getElem?_getD,hk];rfl
   have HLK:Hid ((l++a0::bodyTo F ks j).length+(if j=0 then 0 else 1)+(F k).length≤4000000000):=by
    show _≤_
    have h1:=HF.out (j+1) hlt;rw[HB.out]at h1;simp only[List.length_append,List.length_cons]at h1 ⊢;by_cases h0:j=0
    ·rw[if_pos h0]at h1 ⊢;simp only[List.length_nil]at h1;omega
    ·rw[if_neg h0]at h1 ⊢;simp only[List.length_cons,List.length_nil]at h1;omega
   have hff:=HFF.out k hkm;have G:Hid _:=And.intro g1 (And.intro g2 g3);clear hk hkm e g1 g2 g3;rcases Nat.eq_zero_or_pos j with hj0|hj0
   ·have hj1:decide (0<j)=false:=by simp;omega
    have hj2:decide ((0:Int)<(j:Int))=false:=by simp;omega
    have hcall:=hff v _ wr hZ hC (by have:=HLK.out;rw[if_pos hj0]at this;exact this);have HJ0:Hid (j=0):=hj0;clear hj0 hZ hC hlen hff;go_wp2_with fail
    refine hcall.mono ?_;rintro r w2 ⟨rfl,v2,z2,ch2⟩;have Z2:Hid _:=And.intro z2 (HC.out.trans ch2);clear hcall z2 ch2;go_wp2_with fail
    go_roundw
    case rel=>
     refine⟨j+1,v2,by omega,by go_num,?_,Z2.out.2⟩;rw[HB.out,if_pos HJ0.out];have:=Z2.out.1;rw[List.append_assoc,List.cons_append]at this;simpa using this
    case measure=>simp[intOf];omega
   ·have hj1:decide (0<j)=true:=by simp;omega
    have hj2:(0:Int)<(j:Int):=by omega
    have HJ0:Hid (¬j=0):=by show ¬j=0;omega
    obtain⟨ad2,cap2,hv2⟩:=hZ.shape;obtain⟨c0,c1,cf⟩:=hZ.wd.cell;have f1:=cf 1;generalize hl2:l++a0::bodyTo F ks j=l2 at *;have HL2:Hid (l++a0::bodyTo F ks j=l2):=hl2;subst hv2;clear hj0 hZ hC cf hl2;go_wp2_with (refine wp_appO rfl (.tmp 35) (.tmp 36) 78 rfl 5 i0 Tryz.underlying78 HI.out hz0 hz1 hz2 (bp+1) _ l2.length (l2.map byteV) [44] wr rfl HZ.out.row (by omega) (by omega) (by decide) (by decide) rfl ?_;intro g9 cap9 w9 ho8 hg8 hgg8;have kA:=keepersA hg8 hlt2 HNE.out;have s1:=(kA.2.1 1).trans c1;have t1:=(kA.2.2 1).trans f1;have P8:Hid _:=HZ.out.put (by simp) (fun k hk=>heap_alloc_old _ _ hk) rfl rfl rfl ho8 hg8 hgg8;clear kA ho8 hg8 hgg8)
    have P10:Hid (WZ bp vN (.slice (some ⟨g9,0,none⟩) (l2.length+1) cap9) (l2++[44]) (w9.setCell ⟨bp,1,none⟩ (.slice (some ⟨g9,0,none⟩) (l2.length+1) cap9))∧Chg bp (own (.slice ad l.length cap) []) w (own (.slice (some ⟨g9,0,none⟩) (l2.length+1) cap9) []) (w9.setCell ⟨bp,1,none⟩ (.slice (some ⟨g9,0,none⟩) (l2.length+1) cap9))):=⟨P8.out.1,HC.out.trans P8.out.2⟩;clear P8 s1 t1 c0 c1 f1 g4;generalize w9.setCell ⟨bp,1,none⟩ (.slice (some ⟨g9,0,none⟩) (l2.length+1) cap9)=w10 at P10 ⊢;have hcall:=hff _ _ w10 P10.out.1 P10.out.2 (by have:=HLK.out;rw[if_neg HJ0.out]at this;rw[List.length_append];exact this);clear hff;go_wp2_with fail
    refine hcall.mono ?_;rintro r w2 ⟨rfl,v2,z2,ch2⟩;have Z2:Hid _:=And.intro z2 (P10.out.2.trans ch2);clear hcall z2 ch2;go_wp2_with fail
    go_roundw
    case rel=>
     refine⟨j+1,v2,by omega,by go_num,?_,Z2.out.2⟩;rw[HB.out,if_neg HJ0.out];have:=Z2.out.1;rw[←HL2.out]at this;simpa using this
    case measure=>simp[intOf];omega
  ·obtain rfl:j=ks.length:=by omega
   have k1:¬(ks.length:Int)<(ks.length:Int):=by omega
   have HE:Hid (l++a0::(bodyTo F ks ks.length++[a1])=(l++a0::bodyTo F ks ks.length)++[a1]):=by
    show _=_
    simp
   obtain⟨ad2,cap2,rfl⟩:=hZ.shape;obtain⟨c0,c1,cf⟩:=hZ.wd.cell;have f1:=cf 1;generalize l++a0::bodyTo F ks ks.length=l2 at *;clear hZ hC cf;go_wp2_with (refine wp_appO rfl (.tmp 48) (.tmp 50) 78 rfl 5 i0 Tryz.underlying78 HI.out hz0 hz1 hz2 (bp+1) _ l2.length (l2.map byteV) [a1] wr rfl HZ.out.row (by omega) (by omega) (Nat.zero_lt_succ _) (by simp) rfl ?_;intro g9 cap9 w9 ho8 hg8 hgg8;have kA:=keepersA hg8 hlt2 HNE.out;have s1:=(kA.2.1 1).trans c1;have t1:=(kA.2.2 1).trans f1;have P8:Hid _:=HZ.out.put (by simp) (fun k hk=>heap_alloc_old _ _ hk) rfl rfl rfl ho8 hg8 hgg8;clear kA ho8 hg8 hgg8)
   go_wp2;go_end0
   rw[HE.out];exact⟨rfl,_,P8.out.1,HC.out.trans P8.out.2⟩
end
section
variable (bp:Nat) (vN vO:Value) (l:List UInt8) (w:World)
theorem wlistM(a0 a1:UInt8)(F:Nat→List UInt8)(ks:List Nat)(kv:Value)(hks:ks.length≤1000000)(hK:KR bp (own vO []) kv ks w)(h:WZ bp vN vO l w)(hl:l.length+(bodyTo F ks ks.length).length+2≤4000000000)(hf:∀k∈ks,∀(v':Value) (l':List UInt8) (w':World),WZ bp vN v' l' w'→Chg bp (own vO []) w (own v' []) w'→l'.length+(F k).length≤4000000000→Calls Tryz.prog 114 #[.pointer (some ⟨bp,0,none⟩),.int .i64 (k:Int)] w' fun r w''=>WQ bp vN (own v' []) w' (l'++F k) r w''):Calls Tryz.prog 112 #[.pointer (some ⟨bp,0,none⟩),.int .u8 (a0.toNat:Int),kv,.func (.func 114) #[.pointer (some ⟨bp,0,none⟩)] #[],.int .u8 (a1.toNat:Int)] w fun r w'=>WQ bp vN (own vO []) w (l++(a0::bodyTo F ks ks.length++[a1])) r w':=by
 obtain⟨i0,hi0,hz0,hz1,hz2⟩:=info_parts u8infoJ;have HI:Hid _:=hi0;have H:Hid (WZ bp vN vO l w):=h;have HK:Hid (KR bp (own vO []) kv ks w):=hK;have HF:Hid _:=bodyTo_mono F ks;have HFF:Hid _:=hf;have hlt:=h.wd.lt;have HNE:Hid (some bp≠vO.ownBlock):=fun e=>by have:=(ownBlock_lt h.row e.symm).1;omega
 obtain⟨ad,cap,rfl⟩:=h.shape;obtain⟨adk,capk,rfl⟩:=hK.shape;obtain⟨c0,c1,cf⟩:=h.wd.cell;have f1:=cf 1;clear hi0 h cf hK hf;go_enter Tryz.func112,Tryz.ntmps112;go_wp2_with (refine wp_appO rfl (.tmp 16) (.tmp 18) 78 rfl 5 i0 Tryz.underlying78 HI.out hz0 hz1 hz2 (bp+1) _ l.length (l.map byteV) [a0] w rfl H.out.row (by omega) (by omega) (Nat.zero_lt_succ _) (by simp) rfl ?_;intro g8 cap8 w8 ho8 hg8 hgg8;have kA:=keepersA hg8 hlt HNE.out;have s1:=(kA.2.1 1).trans c1;have t1:=(kA.2.2 1).trans f1;have P8:Hid _:=H.out.put (by simp) (fun k hk=>heap_alloc_old _ _ hk) rfl rfl rfl ho8 hg8 hgg8;clear kA ho8 hg8 hgg8)
 have P9:Hid (∃v,WZ bp vN v (l++a0::bodyTo F ks 0) (w8.setCell ⟨bp,1,none⟩ (.slice (some ⟨g8,0,none⟩) (l.length+1) cap8))∧Chg bp (own (.slice ad l.length cap) []) w (own v []) (w8.setCell ⟨bp,1,none⟩ (.slice (some ⟨g8,0,none⟩) (l.length+1) cap8))):=⟨_,P8.out.1,P8.out.2⟩;clear P8 s1 t1;generalize w8.setCell ⟨bp,1,none⟩ (.slice (some ⟨g8,0,none⟩) (l.length+1) cap8)=W at P9 ⊢;clear c0 c1 f1 hlt HNE;go_loopw [24] (fun iv wr=>∃(j:Nat) (v:Value),j≤ks.length∧iv=.int .i64 (j:Int)∧WZ bp vN v (l++a0::bodyTo F ks j) wr∧Chg bp (own (.slice ad l.length cap) []) w (own v []) wr) (fun iv _=>ks.length-(intOf iv).toNat)
 case atStart=>obtain⟨v,a,b⟩:=P9.out;exact⟨0,v,by omega,rfl,a,b⟩
 case round=>
  clear P9;obtain⟨j,v,hj,rfl,hZ,hC⟩:=hrel;have hlen:(l++a0::bodyTo F ks j).length≤4000000000:=by
   have h1:=HF.out j hj;rw[List.length_append,List.length_cons];omega
  have HZ:Hid _:=hZ;have HC:Hid _:=hC;have HLEN:Hid _:=hlen;have hlt2:=hZ.wd.lt;have HNE:Hid (some bp≠v.ownBlock):=fun e=>by have:=(ownBlock_lt hZ.row e.symm).1;omega
  by_cases hlt:j<ks.length
  ·have k1:(j:Int)<(ks.length:Int):=by omega
   obtain⟨k,hk⟩:∃k,ks[j]?=some k:=⟨_,List.getElem?_eq_getElem hlt⟩;obtain⟨g,capg,e,g1,g2,g3,g4⟩:=(HK.out.chg hC).at' j k hk;obtain rfl:adk=some ⟨g,0,none⟩:=by injection e
   have hkm:k∈ks:=List.mem_of_getElem? hk;have HB:Hid (bodyTo F ks (j+1)=bodyTo F ks j++(if j=0 then []else [44])++F k):=by
    show _=_
    rw[bodyTo,List.getD_eq_getElem?_getD,hk];rfl
   have HLK:Hid ((l++a0::bodyTo F ks j).length+(if j=0 then 0 else 1)+(F k).length≤4000000000):=by
    show _≤_
    have h1:=HF.out (j+1) hlt;rw[HB.out]at h1;simp only[List.length_append,List.length_cons]at h1 ⊢;by_cases h0:j=0
    ·rw[if_pos h0]at h1 ⊢;simp only[List.length_nil]at h1;omega
    ·rw[if_neg h0]at h1 ⊢;simp only[List.length_cons,List.length_nil]at h1;omega
   have hff:=HFF.out k hkm;have G:Hid _:=And.intro g1 (And.intro g2 g3);clear hk hkm e g1 g2 g3;rcases Nat.eq_zero_or_pos j with hj0|hj0
   ·have hj1:decide (0<j)=false:=by simp;omega
    have hj2:decide ((0:Int)<(j:Int))=false:=by simp;omega
    have hcall:=hff v _ wr hZ hC (by have:=HLK.out;rw[if_pos hj0]at this;exact this);have HJ0:Hid (j=0):=hj0;clear hj0 hZ hC hlen hff;go_wp2_with fail
    refine hcall.mono ?_;rintro r w2 ⟨rfl,v2,z2,ch2⟩;have Z2:Hid _:=And.intro z2 (HC.out.trans ch2);clear hcall z2 ch2;go_wp2_with fail
    go_roundw
    case rel=>
     refine⟨j+1,v2,by omega,by go_num,?_,Z2.out.2⟩;rw[HB.out,if_pos HJ0.out];have:=Z2.out.1;rw[List.append_assoc,List.cons_append]at this;simpa using this
    case measure=>simp[intOf];omega
   ·have hj1:decide (0<j)=true:=by simp;omega
    have hj2:(0:Int)<(j:Int):=by omega
    have HJ0:Hid (¬j=0):=by show ¬j=0;omega
    obtain⟨ad2,cap2,hv2⟩:=hZ.shape;obtain⟨c0,c1,cf⟩:=hZ.wd.cell;have f1:=cf 1;generalize hl2:l++a0::bodyTo F ks j=l2 at *;have HL2:Hid (l++a0::bodyTo F ks j=l2):=hl2;subst hv2;clear hj0 hZ hC cf hl2;go_wp2_with (refine wp_appO rfl (.tmp 35) (.tmp 36) 78 rfl 5 i0 Tryz.underlying78 HI.out hz0 hz1 hz2 (bp+1) _ l2.length (l2.map byteV) [44] wr rfl HZ.out.row (by omega) (by omega) (by decide) (by decide) rfl ?_;intro g9 cap9 w9 ho8 hg8 hgg8;have kA:=keepersA hg8 hlt2 HNE.out;have s1:=(kA.2.1 1).trans c1;have t1:=(kA.2.2 1).trans f1;have P8:Hid _:=HZ.out.put (by simp) (fun k hk=>heap_alloc_old _ _ hk) rfl rfl rfl ho8 hg8 hgg8;clear kA ho8 hg8 hgg8)
    have P10:Hid (WZ bp vN (.slice (some ⟨g9,0,none⟩) (l2.length+1) cap9) (l2++[44]) (w9.setCell ⟨bp,1,none⟩ (.slice (some ⟨g9,0,none⟩) (l2.length+1) cap9))∧Chg bp (own (.slice ad l.length cap) []) w (own (.slice (some ⟨g9,0,none⟩) (l2.length+1) cap9) []) (w9.setCell ⟨bp,1,none⟩ (.slice (some ⟨g9,0,none⟩) (l2.length+1) cap9))):=⟨P8.out.1,HC.out.trans P8.out.2⟩;clear P8 s1 t1 c0 c1 f1 g4;generalize w9.setCell ⟨bp,1,none⟩ (.slice (some ⟨g9,0,none⟩) (l2.length+1) cap9)=w10 at P10 ⊢;have hcall:=hff _ _ w10 P10.out.1 P10.out.2 (by have:=HLK.out;rw[if_neg HJ0.out]at this;rw[List.length_append];exact this);clear hff;go_wp2_with fail
    refine hcall.mono ?_;rintro r w2 ⟨rfl,v2,z2,ch2⟩;have Z2:Hid _:=And.intro z2 (P10.out.2.trans ch2);clear hcall z2 ch2;go_wp2_with fail
    go_roundw
    case rel=>
     refine⟨j+1,v2,by omega,by go_num,?_,Z2.out.2⟩;rw[HB.out,if_neg HJ0.out];have:=Z2.out.1;rw[←HL2.out]at this;simpa using this
    case measure=>simp[intOf];omega
  ·obtain rfl:j=ks.length:=by omega
   have k1:¬(ks.length:Int)<(ks.length:Int):=by omega
   have HE:Hid (l++a0::(bodyTo F ks ks.length++[a1])=(l++a0::bodyTo F ks ks.length)++[a1]):=by
    show _=_
    simp
   obtain⟨ad2,cap2,rfl⟩:=hZ.shape;obtain⟨c0,c1,cf⟩:=hZ.wd.cell;have f1:=cf 1;generalize l++a0::bodyTo F ks ks.length=l2 at *;clear hZ hC cf;go_wp2_with (refine wp_appO rfl (.tmp 48) (.tmp 50) 78 rfl 5 i0 Tryz.underlying78 HI.out hz0 hz1 hz2 (bp+1) _ l2.length (l2.map byteV) [a1] wr rfl HZ.out.row (by omega) (by omega) (Nat.zero_lt_succ _) (by simp) rfl ?_;intro g9 cap9 w9 ho8 hg8 hgg8;have kA:=keepersA hg8 hlt2 HNE.out;have s1:=(kA.2.1 1).trans c1;have t1:=(kA.2.2 1).trans f1;have P8:Hid _:=HZ.out.put (by simp) (fun k hk=>heap_alloc_old _ _ hk) rfl rfl rfl ho8 hg8 hgg8;clear kA ho8 hg8 hgg8)
   go_wp2;go_end0
   rw[HE.out];exact⟨rfl,_,P8.out.1,HC.out.trans P8.out.2⟩
end
structure NR (bp:Nat) (O:Nat→Prop) (v:Value) (L:List Nd) (w:World):Prop where
 at':∀(k:Nat) (n:Nd),L[k]?=some n→∃g cap kv,v=.slice (some ⟨g,0,none⟩) L.length cap∧g<w.heap.size∧g≠bp∧¬O g∧KR bp O kv n.kids w∧w.cell? ⟨g,k*6,none⟩=some (.int .i64 (n.kind:Int))∧w.cell? ⟨g,k*6+1,none⟩=some (.string ⟨n.key.toArray⟩)∧w.cell? ⟨g,k*6+2,none⟩=some (.string ⟨n.text.toArray⟩)∧w.cell? ⟨g,k*6+3,none⟩=some (.int .i64 n.num)∧w.cell? ⟨g,k*6+4,none⟩=some kv∧w.cell? ⟨g,k*6+5,none⟩=some (.int .i64 (n.at':Int))
theorem NR.chg{bp:Nat}{O O':Nat→Prop}{v:Value}{L:List Nd}{w w':World}(h:NR bp O v L w)(hc:Chg bp O w O' w'):NR bp O' v L w':=by
 refine⟨fun k n hn=>?_⟩;obtain⟨g,cap,kv,e,h1,h2,h3,hK,c0,c1,c2,c3,c4,c5⟩:=h.at' k n hn;have hb:=hc.block g h1 h2 h3;have hcell:∀j,w'.cell? ⟨g,j,none⟩=w.cell? ⟨g,j,none⟩:=fun j=>World.cell?_of_block (a:=⟨g,j,none⟩) hb
 refine⟨g,cap,kv,e,Nat.lt_of_lt_of_le h1 hc.size,h2,fun ho=>?_,hK.chg hc,?_,?_,?_,?_,?_,?_⟩
 ·rcases hc.own g ho with a|a
  ·exact h3 a
  ·omega
 ·rw[hcell];exact c0
 ·rw[hcell];exact c1
 ·rw[hcell];exact c2
 ·rw[hcell];exact c3
 ·rw[hcell];exact c4
 ·rw[hcell];exact c5
section
variable (bp:Nat) (vN vO:Value) (l:List UInt8) (w:World)
theorem wmember(L:List Nd)(k:Nat)(n:Nd)(hn:L[k]?=some n)(hkl:k≤1000000000)(G:List UInt8)(hN:NR bp (own vO []) vN L w)(h:WZ bp vN vO l w)(hl:l.length+(strT n.key).length+1+G.length≤4000000000)(hkey:n.key.length≤65536)(hf:∀(v':Value) (l':List UInt8) (w':World),WZ bp vN v' l' w'→Chg bp (own vO []) w (own v' []) w'→l'.length+G.length≤4000000000→Calls Tryz.prog 70 #[.pointer (some ⟨bp,0,none⟩),.int .i64 (k:Int)] w' fun r w''=>WQ bp vN (own v' []) w' (l'++G) r w''):Calls Tryz.prog 114 #[.pointer (some ⟨bp,0,none⟩),.int .i64 (k:Int)] w fun r w'=>WQ bp vN (own vO []) w (l++(strT n.key++58::G)) r w':=by
 obtain⟨i0,hi0,hz0,hz1,hz2⟩:=info_parts u8infoJ;have HI:Hid _:=hi0;have hkL:k<L.length:=(List.getElem?_eq_some_iff.1 hn).1;obtain⟨g,cap,kv,rfl,g1,g2,g3,_,_,b1,_,_,_,_⟩:=hN.at' k n hn;obtain⟨c0,c1,cf⟩:=h.wd.cell;have hst:=wstring bp _ vO l w ⟨n.key.toArray⟩ (by show n.key.toArray.size≤_;simp;omega) (by omega) h;have HSL:Hid ((strT n.key).length≤400000):=by show _≤_;have:=strT_len n.key;omega
 have hk1:(k:Int)<(L.length:Int):=by omega
 have HFF:Hid _:=hf;clear hi0 h cf hf hN hn;go_enter Tryz.func114,Tryz.ntmps114;go_wp2_with fail
 refine hst.mono ?_;rintro r w1 ⟨rfl,v1,z1,ch1⟩;have hE:strT ((⟨n.key.toArray⟩:ByteArray).data.toList)=strT n.key:=by simp
 rw[hE]at z1;clear hst hE c0 c1 b1;have HZ:Hid _:=z1;have HC:Hid _:=ch1;have hlt2:=z1.wd.lt;have HNE:Hid (some bp≠v1.ownBlock):=fun e=>by have:=(ownBlock_lt z1.row e.symm).1;omega
 have hlen:(l++strT n.key).length+1+G.length≤4000000000:=by rw[List.length_append];omega
 obtain⟨ad2,cap2,rfl⟩:=z1.shape;obtain⟨c0,c1,cf⟩:=z1.wd.cell;have f1:=cf 1;have HL2:Hid (l++(strT n.key++58::G)=(l++strT n.key++[58])++G):=by show _=_;simp
 generalize l++strT n.key=l2 at *;clear z1 ch1 cf;go_wp2_with (refine wp_appO rfl (.tmp 18) (.tmp 19) 78 rfl 5 i0 Tryz.underlying78 HI.out hz0 hz1 hz2 (bp+1) _ l2.length (l2.map byteV) [58] w1 rfl HZ.out.row (by omega) (by omega) (by decide) (by decide) rfl ?_;intro g9 cap9 w9 ho8 hg8 hgg8;have kA:=keepersA hg8 hlt2 HNE.out;have s1:=(kA.2.1 1).trans c1;have t1:=(kA.2.2 1).trans f1;have P8:Hid _:=HZ.out.put (by simp) (fun k hk=>heap_alloc_old _ _ hk) rfl rfl rfl ho8 hg8 hgg8;clear kA ho8 hg8 hgg8)
 have P10:Hid (WZ bp (.slice (some ⟨g,0,none⟩) L.length cap) (.slice (some ⟨g9,0,none⟩) (l2.length+1) cap9) (l2++[58]) (w9.setCell ⟨bp,1,none⟩ (.slice (some ⟨g9,0,none⟩) (l2.length+1) cap9))∧Chg bp (own vO []) w (own (.slice (some ⟨g9,0,none⟩) (l2.length+1) cap9) []) (w9.setCell ⟨bp,1,none⟩ (.slice (some ⟨g9,0,none⟩) (l2.length+1) cap9))):=⟨P8.out.1,HC.out.trans P8.out.2⟩;clear P8 s1 t1 c0 c1 f1;generalize w9.setCell ⟨bp,1,none⟩ (.slice (some ⟨g9,0,none⟩) (l2.length+1) cap9)=w10 at P10 ⊢;have hcall:=HFF.out _ _ w10 P10.out.1 P10.out.2 (by rw[List.length_append];exact hlen);go_wp2_with fail
 refine hcall.mono ?_;rintro r w2 ⟨rfl,v2,z2,ch2⟩;have Z2:Hid _:=And.intro z2 (P10.out.2.trans ch2);clear hcall z2 ch2;go_wp2;go_end0
 rw[HL2.out];exact⟨rfl,v2,Z2.out.1,Z2.out.2⟩
end
theorem setCells_grown{g:Nat}{e:TypeId}{fz:Nat×Nat}:∀(vs:List Value) (o:Nat) (w:World) (cur:Array Value),w.heap[g]?=some (.cells cur e fz)→w.grownBy (w.setCells g o vs) (some g):=by
 intro vs;induction vs with
 | nil=>intro o w cur h;exact⟨rfl,rfl,rfl,Nat.le_refl _,fun _ _ _=>rfl⟩
 | cons v r ih=>
   intro o w cur h;have e1:=setCell_eq_setRow w g o cur e fz v h;have h1:(w.setCell ⟨g,o,none⟩ v).heap[g]?=some (.cells (cur.setIfInBounds o v) e fz):=by rw[e1];exact setRow_heap w g _ _ _ _ h
   have h2:=ih (o+1) _ _ h1;have h3:w.grownBy (w.setCell ⟨g,o,none⟩ v) (some g):=by
    rw[e1];exact⟨rfl,rfl,rfl,by simp[World.setRow],fun k _ hk=>setRow_other w g k _ (fun e=>hk (by rw[e]))⟩
   exact⟨h2.os.trans h3.os,h2.tape.trans h3.tape,h2.output.trans h3.output,Nat.le_trans h3.size h2.size,fun k hk hn=>(h2.block k (Nat.lt_of_lt_of_le hk h3.size) hn).trans (h3.block k hk hn)⟩
theorem appG{P:Program}(w:World)(t u ty e:TypeId)(i:TypeInfo)(ht:P.underlying t=some (.slice e))(hu:P.underlying u=some .string)(hi:P.info? e=some i)(hz:i.zero=some (.int .u8 0))(hsize:i.size=1)(hby:i.bytes=1)(B:Nat)(v:Value)(l:List UInt8)(s:ByteArray)(hown:w.ownsRow B e 1 v l.length (l.map byteV))(hB:B≤w.heap.size)(h0:0<s.size)(hlen:l.length+s.size≤140737488355328):∃g cap w',(Builtin.append_ #[t,u] ty #[v,.string s]).run P w=.ok (.slice (some ⟨g,0,none⟩) (l.length+s.size) cap) w'∧w'.ownsRow B e 1 (.slice (some ⟨g,0,none⟩) (l.length+s.size) cap) (l.length+s.size) (l.map byteV++s.data.toList.map byteV)∧w.grownBy w' v.ownBlock∧(v.ownBlock=some g∨g=w.heap.size):=by
 have hsrc:Src P i.size u (.string s) s.size (byteCells s) w:=by rw[hsize];exact Src.ofString w hu s
 have h63:l.length+s.size≤maxLen:=by unfold maxLen;omega
 have hsl:s.data.toList.length=s.size:=by simp
 have hlen2:(l.map byteV++s.data.toList.map byteV).length=(l.length+s.size)*1:=by simp
 rcases hown.2 with⟨rfl,hn⟩|⟨g,cap,cur,rfl,hBg,hg,hlc,hcm,hcs,htk⟩
 ·obtain rfl:l=[]:=List.length_eq_zero_iff.1 hn
  have hr:=run_append_grow_src (P:=P) w t u ty e i (.int .u8 0) ht hi hz none 0 0 [] (by simp[Builtin.firstCells]) (.string s) s.size (byteCells s) hsrc (by omega) (by simp at hlen ⊢;omega) (by rw[hby];exact growslice_fits (by omega) (by simp at hlen ⊢;omega));have hge:=grownCap_ge w (0+s.size) 0 e;have hm:=grownCap_le_maxLen w (0+s.size) 0 e (by simpa using h63);generalize grownCap w (0+s.size) 0 e=c at hr hge hm;refine⟨_,_,_,hr,⟨hlen2,.inr ⟨w.heap.size,c,_,rfl,hB,heap_alloc_new w.drew _,hge,hm,?_,?_⟩⟩,⟨rfl,rfl,rfl,by simp,fun k hk _=>heap_alloc_old w.drew _ hk⟩,.inr rfl⟩
  ·have hz1:(Value.int IntKind.u8 0).cells.size=1:=rfl
   simp only[Array.size_append,List.size_toArray,size_zeroCells,hz1,List.length_append,byteCells_length,List.length_nil];omega
  ·rw[byteCells_eq]
   simp only[Array.toList_append,List.nil_append,List.map_nil];rw[List.take_left' (by simp)]
 ·rw[Nat.mul_one]at htk
  by_cases hroom:l.length+s.size≤cap
  ·have hcc:∀j,j<(byteCells s).length→(w.cell? ⟨g,0+l.length*i.size+j,none⟩).isSome=true:=by
    intro j hj;rw[byteCells_length]at hj;rw[hsize,cell_of_row w g _ cur e (0,0) hg];simp;omega
   have hff:∀j,j<(byteCells s).length→w.frozen? ⟨g,0+l.length*i.size+j,none⟩=false:=by
    intro j hj;rw[byteCells_length]at hj;simp[World.frozen?,hg]
   have hr:=run_append_room_src (P:=P) w t u ty e i ht hi g 0 l.length cap (.string s) s.size (byteCells s) hsrc hroom hcc hff;obtain⟨cur',a1,a2,a3,a4⟩:=setCells_row (byteCells s) (0+l.length*i.size) w cur hg (by rw[byteCells_length,hsize];omega);refine⟨_,_,_,hr,⟨hlen2,.inr ⟨g,cap,cur',rfl,hBg,a1,hroom,hcm,by omega,?_⟩⟩,setCells_grown _ _ w cur hg,.inl rfl⟩;rw[a3,hsize,Nat.zero_add];simp only[Nat.mul_one];rw[htk,byteCells_eq];rw[List.take_left' (by simp)]
  ·have holds:∀j u,(l.map byteV)[j]?=some u→w.cell? ((⟨g,0,none⟩:Addr).add j)=some u:=hown.cells (g:=g) rfl
   have hold:(Builtin.firstCells i.size l.length (.slice (some ⟨g,0,none⟩) l.length cap)).run P w.drew=.ok (l.map byteV).toArray w.drew:=by
    rw[hsize];exact run_firstCells_some (P:=P) w.drew 1 l.length ⟨g,0,none⟩ l.length cap (l.map byteV) (by simp) (by simpa using holds)
   have hr:=run_append_grow_src (P:=P) w t u ty e i (.int .u8 0) ht hi hz (some ⟨g,0,none⟩) l.length cap (l.map byteV) hold (.string s) s.size (byteCells s) hsrc (by omega) (by unfold maxLen at h63;omega) (by rw[hby];exact growslice_fits (by omega) (by omega));have hge:=grownCap_ge w (l.length+s.size) cap e;have hm:=grownCap_le_maxLen w (l.length+s.size) cap e h63;generalize grownCap w (l.length+s.size) cap e=c at hr hge hm;refine⟨_,_,_,hr,⟨hlen2,.inr ⟨w.heap.size,c,_,rfl,hB,heap_alloc_new w.drew _,hge,hm,?_,?_⟩⟩,⟨rfl,rfl,rfl,by simp,fun k hk _=>heap_alloc_old w.drew _ hk⟩,.inr rfl⟩
   ·have hz1:(Value.int IntKind.u8 0).cells.size=1:=rfl
    simp only[Array.size_append,List.size_toArray,size_zeroCells,hz1,List.length_append,byteCells_length,List.length_map];omega
   ·rw[byteCells_eq]
    simp only[Array.toList_append];rw[List.take_left' (by simp)]
theorem wp_appG{P:Program}{ops:Array Oper}{rest:List Oper}{o:Oper}{a:Act}{Q:Exit→Act→World→Prop}{w:World}(hgd:o.guard=none)(x y:Operand)(t u:TypeId)(ho:o.op=.call {callee:=.builtin .append,args:= #[x,y],argTypes:= #[t,u]})
 (e:TypeId) (i:TypeInfo) (ht:P.underlying t=some (.slice e)) (hu:P.underlying u=some .string) (hi:P.info? e=some i) (hz:i.zero=some (.int .u8 0)) (hsize:i.size=1) (hby:i.bytes=1)
 (B:Nat) (v:Value) (l:List UInt8) (s:ByteArray) (hx:a.eval x=v) (hy:a.eval y=.string s) (h0:0<s.size) (hlen:l.length+s.size≤140737488355328) (hown:w.ownsRow B e 1 v l.length (l.map byteV)) (hB:B≤w.heap.size)
 (h:∀g cap w',w'.ownsRow B e 1 (.slice (some ⟨g,0,none⟩) (l.length+s.size) cap) (l.length+s.size) (l.map byteV++s.data.toList.map byteV)→w.grownBy w' v.ownBlock→(v.ownBlock=some g∨g=w.heap.size)→wpList P ops Q rest (a.put o.dst (.slice (some ⟨g,0,none⟩) (l.length+s.size) cap)) w'):wpList P ops Q (o::rest) a w:=by
 refine wpList_plain hgd fun K hK=>?_
 obtain⟨g,cap,w',hr,h2,h3,h4⟩:=appG (P:=P) w t u o.type e i ht hu hi hz hsize hby B v l s hown hB h0 hlen;unfold Oper.wp execOp;simp only[ho,resolve,invoke,builtin,Sem.run_bind,Sem.run_pure,Result.andThen_ok,List.map_toArray,List.map_cons,List.map_nil,hx,hy,hr];exact hK _ _ (h g cap w' h2 h3 h4)
theorem WZ.putG{bp:Nat}{vN vO:Value}{l bs:List UInt8}{w w8:World}(h:WZ bp vN vO l w){g cap:Nat}(ho:w8.ownsRow (bp+1) 5 1 (.slice (some ⟨g,0,none⟩) (l.length+bs.length) cap) (l.length+bs.length) (l.map byteV++bs.map byteV))(hg:w.grownBy w8 vO.ownBlock)(hgg:vO.ownBlock=some g∨w.heap.size≤g):WZ bp vN (.slice (some ⟨g,0,none⟩) (l.length+bs.length) cap) (l++bs) (w8.setCell ⟨bp,1,none⟩ (.slice (some ⟨g,0,none⟩) (l.length+bs.length) cap))∧Chg bp (own vO []) w (own (.slice (some ⟨g,0,none⟩) (l.length+bs.length) cap) []) (w8.setCell ⟨bp,1,none⟩ (.slice (some ⟨g,0,none⟩) (l.length+bs.length) cap)):=by
 have hlt:=h.wd.lt;have hne:some bp≠vO.ownBlock:=fun e=>by have:=(ownBlock_lt h.row e.symm).1;omega
 have hd8:WD bp vN vO w8:=(hg.block bp hlt hne).trans h.wd;have e:=setCell_eq_setRow w8 bp 1 _ _ _ (.slice (some ⟨g,0,none⟩) (l.length+bs.length) cap) hd8;have hgb:bp+1≤g:=(ownBlock_lt ho (g:=g) rfl).1;refine⟨⟨hd8.setO _,?_⟩,?_⟩
 ·rw[List.length_append,List.map_append]
  refine ownsRow_k ho (fun k hk=>?_);simp only[Value.ownBlock,Option.some.injEq]at hk;subst hk;rw[e];exact setRow_other w8 bp _ _ (by omega)
 ·have hs:=hg.size
  rw[e];refine⟨hg.os,hg.tape,hg.output,by simp[World.setRow];omega,fun k hk hb hO=>?_,fun k hk=>?_⟩
  ·rw[setRow_other w8 bp k _ hb]
   exact hg.block k hk (fun e=>hO (.inl e.symm))
  ·rcases hk with hk|⟨kv,hm,_⟩
   ·simp only[Value.ownBlock,Option.some.injEq]at hk
    subst hk;rcases hgg with e|e
    ·exact .inl (.inl e)
    ·exact .inr (by omega)
   ·simp at hm
theorem WZ.alloc{bp:Nat}{vN vO:Value}{l:List UInt8}{w:World}(h:WZ bp vN vO l w)(o:Obj):WZ bp vN vO l (w.alloc o):=⟨h.wd.alloc o,h.row.alloc o⟩
theorem chgW_alloc(bp:Nat)(O:Nat→Prop)(w:World)(o:Obj):Chg bp O w O (w.alloc o):=⟨rfl,rfl,rfl,by simp,fun k hk _ _=>heap_alloc_old _ _ hk,fun _ h=>.inl h⟩
section
variable (bp:Nat) (vN vO:Value) (l:List UInt8) (w:World)
theorem wnode_null(L:List Nd)(k:Nat)(n:Nd)(hn:L[k]?=some n)(hkl:k≤1000000000)(hN:NR bp (own vO []) vN L w)(h:WZ bp vN vO l w)(hl:l.length≤4000000000)(hkd:n.kind=0):Calls Tryz.prog 70 #[.pointer (some ⟨bp,0,none⟩),.int .i64 (k:Int)] w fun r w'=>WQ bp vN (own vO []) w (l++[110,117,108,108]) r w':=by
 obtain⟨i0,hi0,hz0,hz1,hz2⟩:=info_parts u8infoJ;have HI:Hid _:=hi0;have hkL:k<L.length:=(List.getElem?_eq_some_iff.1 hn).1;obtain⟨g,cap,kv,rfl,g1,g2,g3,hK,b0,b1,b2,b3,b4,b5⟩:=hN.at' k n hn;obtain⟨adk,capk,rfl⟩:=hK.shape;rw[hkd]at b0;obtain⟨ad,capo,rfl⟩:=h.shape;have H0:Hid _:=h;obtain⟨c0,c1,cf⟩:=h.wd.cell;have hlt:=h.wd.lt;have hk1:(k:Int)<(L.length:Int):=by omega
 have HNE:Hid (some bp≠(Value.slice ad l.length capo).ownBlock):=fun e=>by have:=(ownBlock_lt h.row e.symm).1;omega
 have HA:Hid (∀o,WZ bp (.slice (some ⟨g,0,none⟩) L.length cap) (.slice ad l.length capo) l (w.alloc o)∧Chg bp (own (.slice ad l.length capo) []) w (own (.slice ad l.length capo) []) (w.alloc o)):=fun o=>⟨h.alloc o,chgW_alloc _ _ _ _⟩
 clear hi0 h cf hN hn hkd hK;go_enter Tryz.func70,Tryz.ntmps70;go_wp2_with (refine wp_appG rfl (.tmp 20) (.const (.string ⟨#[110,117,108,108]⟩)) 78 9 rfl 5 i0 Tryz.underlying78 Tryz.underlying9 HI.out hz0 hz1 hz2 (bp+1) _ l ⟨#[110,117,108,108]⟩ rfl rfl (by decide) (by show l.length+4≤_;omega) (HA.out _).1.row (by simp;omega) ?_;intro g9 cap9 w9 ho8 hg8 hgg8;have hd9:=(hg8.block bp (by simp;omega) HNE.out).trans (HA.out _).1.wd;have s1:=(WD.cell hd9).2.1;have t1:=(WD.cell hd9).2.2 1;have P8:Hid _:=(HA.out _).1.putG (bs:=[110,117,108,108]) ho8 hg8 (hgg8.imp id (fun e=>Nat.le_of_eq e.symm));clear hd9 ho8 hg8 hgg8)
 go_wp2;go_end0
 exact⟨rfl,_,P8.out.1,(HA.out _).2.trans P8.out.2⟩
theorem wnode_str(L:List Nd)(k:Nat)(n:Nd)(hn:L[k]?=some n)(hkl:k≤1000000000)(hN:NR bp (own vO []) vN L w)(h:WZ bp vN vO l w)(hl:l.length≤4000000000)(hkd:n.kind=3)(htx:n.text.length≤65536):Calls Tryz.prog 70 #[.pointer (some ⟨bp,0,none⟩),.int .i64 (k:Int)] w fun r w'=>WQ bp vN (own vO []) w (l++strT n.text) r w':=by
 obtain⟨i0,hi0,hz0,hz1,hz2⟩:=info_parts u8infoJ;have HI:Hid _:=hi0;have hkL:k<L.length:=(List.getElem?_eq_some_iff.1 hn).1;obtain⟨g,cap,kv,rfl,g1,g2,g3,hK,b0,b1,b2,b3,b4,b5⟩:=hN.at' k n hn;obtain⟨adk,capk,rfl⟩:=hK.shape;rw[hkd]at b0;obtain⟨ad,capo,rfl⟩:=h.shape;have H0:Hid _:=h;obtain⟨c0,c1,cf⟩:=h.wd.cell;have hlt:=h.wd.lt;have hk1:(k:Int)<(L.length:Int):=by omega
 have HNE:Hid (some bp≠(Value.slice ad l.length capo).ownBlock):=fun e=>by have:=(ownBlock_lt h.row e.symm).1;omega
 have HA:Hid (∀o,WZ bp (.slice (some ⟨g,0,none⟩) L.length cap) (.slice ad l.length capo) l (w.alloc o)∧Chg bp (own (.slice ad l.length capo) []) w (own (.slice ad l.length capo) []) (w.alloc o)):=fun o=>⟨h.alloc o,chgW_alloc _ _ _ _⟩
 have HS:Hid (∀o,Calls Tryz.prog 111 #[.pointer (some ⟨bp,0,none⟩),.string ⟨n.text.toArray⟩] (w.alloc o) fun r w'=>WQ bp (.slice (some ⟨g,0,none⟩) L.length cap) (own (.slice ad l.length capo) []) (w.alloc o) (l++strT n.text) r w'):=fun o=>by
  have:=wstring bp (.slice (some ⟨g,0,none⟩) L.length cap) (.slice ad l.length capo) l (w.alloc o) ⟨n.text.toArray⟩ (by show n.text.toArray.size≤_;simp;omega) (by omega) (h.alloc o);simpa using this
 clear hi0 h cf hN hn hkd hK;go_enter Tryz.func70,Tryz.ntmps70;go_wp2_with fail
 refine(HS.out _).mono ?_;rintro r w1 ⟨rfl,v1,z1,ch1⟩;have Z1:Hid _:=And.intro z1 ((HA.out _).2.trans ch1);clear z1 ch1;go_wp2;go_end0
 exact⟨rfl,v1,Z1.out.1,Z1.out.2⟩
end
section
variable (bp:Nat) (vN vO:Value) (l:List UInt8) (w:World)
theorem wnode_arr(L:List Nd)(k:Nat)(n:Nd)(hn:L[k]?=some n)(hkl:k≤1000000000)(hN:NR bp (own vO []) vN L w)(h:WZ bp vN vO l w)(F:Nat→List UInt8)(hl:l.length+(bodyTo F n.kids n.kids.length).length+2≤4000000000)(hkd:n.kind=4)(hks:n.kids.length≤1000000)(hf:∀k∈n.kids,∀(v':Value) (l':List UInt8) (w':World),WZ bp vN v' l' w'→Chg bp (own vO []) w (own v' []) w'→l'.length+(F k).length≤4000000000→Calls Tryz.prog 70 #[.pointer (some ⟨bp,0,none⟩),.int .i64 (k:Int)] w' fun r w''=>WQ bp vN (own v' []) w' (l'++F k) r w''):Calls Tryz.prog 70 #[.pointer (some ⟨bp,0,none⟩),.int .i64 (k:Int)] w fun r w'=>WQ bp vN (own vO []) w (l++(91::bodyTo F n.kids n.kids.length++[93])) r w':=by
 obtain⟨i0,hi0,hz0,hz1,hz2⟩:=info_parts u8infoJ;have HI:Hid _:=hi0;have hkL:k<L.length:=(List.getElem?_eq_some_iff.1 hn).1;obtain⟨g,cap,kv,rfl,g1,g2,g3,hK,b0,b1,b2,b3,b4,b5⟩:=hN.at' k n hn;obtain⟨adk,capk,rfl⟩:=hK.shape;rw[hkd]at b0;obtain⟨ad,capo,rfl⟩:=h.shape;have H0:Hid _:=h;obtain⟨c0,c1,cf⟩:=h.wd.cell;have hlt:=h.wd.lt;have hk1:(k:Int)<(L.length:Int):=by omega
 have HNE:Hid (some bp≠(Value.slice ad l.length capo).ownBlock):=fun e=>by have:=(ownBlock_lt h.row e.symm).1;omega
 have HA:Hid (∀o,WZ bp (.slice (some ⟨g,0,none⟩) L.length cap) (.slice ad l.length capo) l (w.alloc o)∧Chg bp (own (.slice ad l.length capo) []) w (own (.slice ad l.length capo) []) (w.alloc o)):=fun o=>⟨h.alloc o,chgW_alloc _ _ _ _⟩
 have HS:Hid (∀o,Calls Tryz.prog 112 #[.pointer (some ⟨bp,0,none⟩),.int .u8 91,.slice adk n.kids.length capk,.func (.func 70) #[.pointer (some ⟨bp,0,none⟩)] #[],.int .u8 93] (w.alloc o) fun r w'=>WQ bp (.slice (some ⟨g,0,none⟩) L.length cap) (own (.slice ad l.length capo) []) (w.alloc o) (l++(91::bodyTo F n.kids n.kids.length++[93])) r w'):=fun o=>
  wlistN bp (.slice (some ⟨g,0,none⟩) L.length cap) (.slice ad l.length capo) l (w.alloc o) 91 93 F n.kids (.slice adk n.kids.length capk) hks (hK.chg (chgW_alloc _ _ _ _)) (h.alloc o) hl (fun k hk v' l' w' hz hc hb=>hf k hk v' l' w' hz ((chgW_alloc _ _ _ _).trans hc) hb)
 clear hi0 h cf hN hn hkd hK hf;go_enter Tryz.func70,Tryz.ntmps70;go_wp2_with fail
 refine(HS.out _).mono ?_;rintro r w1 ⟨rfl,v1,z1,ch1⟩;have Z1:Hid _:=And.intro z1 ((HA.out _).2.trans ch1);clear z1 ch1;go_wp2;go_end0
 exact⟨rfl,v1,Z1.out.1,Z1.out.2⟩
end
end Go.Proofs.YtbbopknnoamkbaaGreatDoor
