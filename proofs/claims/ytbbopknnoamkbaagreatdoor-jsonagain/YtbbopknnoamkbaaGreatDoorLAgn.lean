import Derived.Test.YtbbopknnoamkbaaGreatDoorA5
namespace Go.Proofs.YtbbopknnoamkbaaGreatDoor
open Go.RowKit
set_option linter.unusedVariables false
theorem lalike(x y:Value)(L M:List Nd)(hwL:WFN L)(hwM:WFN M):∀(f:Nat) (t u:JT) (i k:Nat) (key:List UInt8) (w:World),t.size≤f→Sub L i key t→Sub M k key u→Al t u→RR 42 x L w→RR 42 y M w→Calls Tryz.prog 22 #[x,.int .i64 (i:Int),y,.int .i64 (k:Int)] w fun r w'=>r=.returned (.bool true)∧Below w.heap.size w w':=by
 intro f;induction f with
 | zero=>intro t u i k key w h;have:=size_pos t;omega
 | succ f ih=>
   intro t u i k key w hf hL hM hA hx hy;obtain⟨a,b,ha,hb,hp⟩:=alk_pair L M (AlkAt x y w) t u i k key hL hM hA (fun p q key' t' u' s1 s2 a2 hlt w' hb'=>ih t' u' p q key' w' (by omega) s1 s2 a2 (hx.below hb') (hy.below hb'));exact lalike1 x y L M w hx hy hwL hwM i k a b ha hb hp
theorem flat_all(t:JT)(c:Nat):(allK (flat 0 [] t)).count c=if 0<c∧c<(flat 0 [] t).length then 1 else 0:=by
 rw[flat_cnt,flat_length,Nat.zero_add]
theorem NK.low{B:Nat}{tN:TypeId}{v:Value}{kvs:List Value}{ns:List Nd}{w w':World}(h:NK B tN v kvs ns w)(hb:Below w.heap.size w w'):NK B tN v kvs ns w':=
 h.kept fun g hg=>hb.block g (h.own_lt hg).2
set_option maxRecDepth 100000 in
set_option maxHeartbeats 4000000 in
theorem lagain(s:ByteArray)(w:World)(hg:9≤w.heap.size)(hG:GV w)(htab:Lib.TabBelow Tryz.prog w.heap.size w "internal/strconv.uint64pow10" .u64 Lib.pow10Tab)(hs:s.size≤140737488351232):Calls Tryz.prog 4 #[.string s] w fun r w'=>r=.returned (.bool true)∧Below w.heap.size w w':=by
 have hnm:=fun e w'=>lnumN e w'
 have hp:∀(x:ByteArray) (w1:World),Below w.heap.size w w1→Calls Tryz.prog 16 #[.string x] w1 fun r w'=>r=.returned (.tuple #[.string ⟨(prF (readL x.data.toList)).1.toArray⟩,.int .i64 (erR (readL x.data.toList):Int),.int .i64 (plR (readL x.data.toList):Int)])∧Below w1.heap.size w1 w':=fun x w1 b1=>by
  have hz:=b1.size;exact print_num x w1 (by omega) (hG.kept fun k hk=>b1.block k (by omega)) (fun w' hb=>htab w' (b1.trans (hb.mono hz)))
 have hq:∀(x:ByteArray) (w1:World),Below w.heap.size w w1→Calls Tryz.prog 19 #[.string x] w1 fun r w'=>((∃v kvs,r=.returned (.tuple #[v,.int .i64 (erR (readL x.data.toList):Int),.int .i64 (plR (readL x.data.toList):Int)])∧NK (w1.heap.size+1) 42 v kvs (ndR (readL x.data.toList)) w'))∧Below w1.heap.size w1 w':=fun x w1 b1=>by
  have hz:=b1.size;exact parse_num x w1 (by omega) (hG.kept fun k hk=>b1.block k (by omega))
 have hp1:=hp s w (Below.refl _ _);have hq1:=fun w1 b1=>hq s w1 b1
 have hr1:=fun w1=>rread_num s w1 (by omega)
 clear hG htab;cases hR:readL s.data.toList with
 | error q=>
   obtain⟨e,a⟩:=q;rw[hR]at hp1;simp only[hR]at hq1 hr1;have HQ1:=Lib.hid hq1;have HR1:=Lib.hid hr1;clear hq1 hr1 hp hq;simp only[prF,erR,plR]at hp1;go_enter Tryz.func4,Tryz.ntmps4;go_wp2_with fail
   refine hp1.mono ?_;rintro r w1 ⟨rfl,c1⟩;have B1:=Lib.hid c1;clear c1 hp1;go_wp2_with fail
   refine(HQ1.out w1 B1.out).mono ?_;rintro r w2 ⟨⟨v,kvs,rfl,hK⟩,c2⟩;have B2:=Lib.hid (B1.out.trans (c2.mono B1.out.size));obtain⟨ad,cap,rfl⟩:=hK.shape;simp only[ndR,erR,plR,List.length_nil];clear c2 hK;go_wp2_with fail
   refine(HR1.out w2).mono ?_;rintro r w3 ⟨⟨⟨v1,rfl⟩,o1⟩,c3⟩;have B3:=Lib.hid (B2.out.trans (c3.mono B2.out.size));have he:e≠0:=fun h0=>by obtain⟨t,ht⟩:=o1 h0;cases ht
   have k0:((e:Int) != 0)=true:=by simp;omega
   simp only[erR,plR];clear c3 o1;go_wp2_with (go_at_call 18;refine(hnm _ _).mono ?_;rintro e' w' ⟨rfl,hw⟩;have hw2:=hw.symm;subst hw2)
   go_ret;exact⟨rfl,B3.out⟩
 | ok t=>
   obtain⟨hlen,u,hu,hA,hfm,hsz⟩:=readL_again hR;have hts:(fmT t).length≤s.size:=by simpa using hlen
   rw[hR]at hp1;simp only[hR]at hq1 hr1;have hp2:=fun w1 b1=>hp ⟨(fmT t).toArray⟩ w1 b1
   have hq2:=fun w1 b1=>hq ⟨(fmT t).toArray⟩ w1 b1
   simp only[hu]at hp2 hq2;obtain⟨hwL,_⟩:=read_fit hR;obtain⟨hwM,_⟩:=read_fit hu;have hlk:(flat 0 [] u).length=(flat 0 [] t).length:=by rw[flat_length,flat_length,hsz]
   have hl0:0<(flat 0 [] t).length:=by rw[flat_length];exact size_pos t
   have hgr1:=fun x w1 (hx:RR 42 x (flat 0 [] t) w1)=>lgrown x (flat 0 [] t) w1 hx hwL hl0 (flat_all t)
   have hgr2:=fun x w1 (hx:RR 42 x (flat 0 [] u) w1)=>lgrown x (flat 0 [] u) w1 hx hwM (by omega) (flat_all u)
   have hal:=fun x y w1 (hx:RR 42 x (flat 0 [] t) w1) (hy:RR 42 y (flat 0 [] u) w1)=>lalike x y (flat 0 [] t) (flat 0 [] u) hwL hwM t.size t u 0 0 [] w1 (Nat.le_refl _) (sub_self t) (sub_self u) hA hx hy
   have hk1:∀n∈flat 0 [] t,n.kids.length≤1000000000:=fun n hn=>by
    obtain⟨k,hk⟩:=List.getElem?_of_mem hn;have:=hwL.few k n hk;omega
   have hk2:∀n∈flat 0 [] u,n.kids.length≤1000000000:=fun n hn=>by
    obtain⟨k,hk⟩:=List.getElem?_of_mem hn;have:=hwM.few k n hk;omega
   have hszT:(fmT t).length≤65536:=by have:=(readL_fit hR).2.2.2;omega
   rw[prF_form]at hp1;simp only[prF_form,hfm]at hp2;simp only[erR,plR,ndR]at hp1 hq1 hr1 hp2 hq2;have H2:=Lib.hid hq1;have H3:=Lib.hid hr1;have H4:=Lib.hid hp2;have H5:=Lib.hid hq2;have H6:=Lib.hid hgr1;have H7:=Lib.hid hgr2;have H8:=Lib.hid hal;clear hq1 hr1 hp hq hp2 hq2 hgr1 hgr2 hal hR hu hA hfm hsz hwL hwM hlen;generalize hN:flat 0 [] t=N at *;generalize hM:flat 0 [] u=M at *;generalize hF:fmT t=F at *;have kz:¬((s.size:Int)<(F.length:Int)):=by omega
   have HLK:=Lib.hid hlk;clear hN hM hF hlk;go_enter Tryz.func4,Tryz.ntmps4;go_wp2_with fail
   refine hp1.mono ?_;rintro r w1 ⟨rfl,c1⟩;have B1:=Lib.hid c1;clear c1 hp1;go_wp2_with fail
   refine(H2.out w1 B1.out).mono ?_;rintro r w2 ⟨⟨v,kvs,rfl,hK⟩,c2⟩;have B2:=Lib.hid (B1.out.trans (c2.mono B1.out.size));obtain⟨ad,cap,rfl⟩:=hK.shape;have K2:=Lib.hid hK;clear c2 hK H2;go_wp2_with fail
   refine(H3.out w2).mono ?_;rintro r w3 ⟨⟨⟨v1,rfl⟩,_⟩,c3⟩;have B3:=Lib.hid (B2.out.trans (c3.mono B2.out.size));have K3:=Lib.hid (K2.out.low c3);clear c3 H3 K2;go_wp2_with (go_at_call 18;refine(hnm _ _).mono ?_;rintro e' w' ⟨rfl,hw⟩;have hw2:=hw.symm;subst hw2)
   refine(H4.out w3 B3.out).mono ?_;rintro r w4 ⟨rfl,c4⟩;have B4:=Lib.hid (B3.out.trans (c4.mono B3.out.size));have K4:=Lib.hid (K3.out.low c4);clear c4 H4 K3;go_wp2_with fail
   refine(H5.out w4 B4.out).mono ?_;rintro r w5 ⟨⟨v5,kvs5,rfl,hK5⟩,c5⟩;have B5:=Lib.hid (B4.out.trans (c5.mono B4.out.size));have K5:=Lib.hid (K4.out.low c5);obtain⟨ad5,cap5,rfl⟩:=hK5.shape;have M5:=Lib.hid hK5;clear c5 H5 K4 hK5;go_wp2_with (go_at_call 18;refine(hnm _ _).mono ?_;rintro e' w' ⟨rfl,hw⟩;have hw2:=hw.symm;subst hw2)
   refine(H6.out _ w5 (RR.of K5.out hk1)).mono ?_;rintro r w6 ⟨rfl,c6⟩;have B6:=Lib.hid (B5.out.trans (c6.mono B5.out.size));have K6:=Lib.hid (K5.out.low c6);have M6:=Lib.hid (M5.out.low c6);clear c6 H6 K5 M5;go_wp2_with fail
   refine(H7.out _ w6 (RR.of M6.out hk2)).mono ?_;rintro r w7 ⟨rfl,c7⟩;have B7:=Lib.hid (B6.out.trans (c7.mono B6.out.size));have K7:=Lib.hid (K6.out.low c7);have M7:=Lib.hid (M6.out.low c7);clear c7 H7 K6 M6;have hcal:=H8.out _ _ w7 (RR.of K7.out hk1) (RR.of M7.out hk2);rw[HLK.out]at hcal ⊢;go_wp2_with (go_at_call 22;refine hcal.mono ?_;rintro e' w8 ⟨rfl,c8⟩;have B8:=Lib.hid (B7.out.trans (c8.mono B7.out.size));clear c8)
   go_ret;exact⟨rfl,B8.out⟩
end Go.Proofs.YtbbopknnoamkbaaGreatDoor
