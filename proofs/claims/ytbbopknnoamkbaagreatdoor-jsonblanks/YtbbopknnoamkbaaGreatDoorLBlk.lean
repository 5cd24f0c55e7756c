import Derived.Test.YtbbopknnoamkbaaGreatDoorX5
import Derived.Test.YtbbopknnoamkbaaGreatDoorNR3
import Derived.Test.YtbbopknnoamkbaaGreatDoorG0
namespace Go.Proofs.YtbbopknnoamkbaaGreatDoor
open Go.RowKit
set_option linter.unusedVariables false
theorem blk_app{a b:List UInt8}(ha:Blk a)(hb:Blk b):Blk (a++b):=fun c hc=>by
 rcases List.mem_append.1 hc with h|h
 ·exact ha c h
 ·exact hb c h
theorem blk4(r:Nat)(h:r<4):((⟨#[32,10,9,13]⟩:ByteArray).extract r (r+1)).size=1∧Blk ((⟨#[32,10,9,13]⟩:ByteArray).extract r (r+1)).data.toList:=by
 match r,h with
 | 0,_=>exact⟨by decide,fun c hc=>by revert c;decide⟩
 | 1,_=>exact⟨by decide,fun c hc=>by revert c;decide⟩
 | 2,_=>exact⟨by decide,fun c hc=>by revert c;decide⟩
 | 3,_=>exact⟨by decide,fun c hc=>by revert c;decide⟩
structure AtR (v:Value) (L:List Nd) (w:World):Prop where
 at':∀(i:Nat) (n:Nd),L[i]?=some n→∃g cap,v=.slice (some ⟨g,0,none⟩) L.length cap∧g<w.heap.size∧w.cell? ⟨g,i*6,none⟩=some (.int .i64 (n.kind:Int))∧w.cell? ⟨g,i*6+5,none⟩=some (.int .i64 (n.at':Int))
theorem AtR.of{B:Nat}{v:Value}{kvs:List Value}{L:List Nd}{w:World}(h:NK B 42 v kvs L w):AtR v L w:=by
 refine⟨fun i n hn=>?_⟩;have hiL:i<L.length:=(List.getElem?_eq_some_iff.1 hn).1;obtain⟨kv,hkv⟩:∃kv,kvs[i]?=some kv:=⟨_,List.getElem?_eq_getElem (by have:=h.1;omega)⟩;rcases h.2.1.2 with⟨_,b⟩|⟨g,cap,cur,a,b,c,_⟩
 ·omega
 ·have hg:v.ownBlock=some g:=by rw[a];rfl
  exact⟨g,cap,a,(Array.getElem?_eq_some_iff.1 c).1,(h.at hg hn hkv (j:=0) (by omega) rfl).1,(h.at hg hn hkv (j:=5) (by omega) rfl).1⟩
theorem AtR.below{v:Value}{L:List Nd}{w w':World}(h:AtR v L w)(hb:Below w.heap.size w w'):AtR v L w':=by
 refine⟨fun i n hn=>?_⟩;obtain⟨g,cap,e,g1,c0,c5⟩:=h.at' i n hn;have hk:=hb.block g g1;exact⟨g,cap,e,Nat.lt_of_lt_of_le g1 hb.size,(World.cell?_of_block (a:=⟨g,i*6,none⟩) hk).trans c0,(World.cell?_of_block (a:=⟨g,i*6+5,none⟩) hk).trans c5⟩
set_option maxRecDepth 100000 in
set_option maxHeartbeats 4000000 in
theorem lblanks(s:ByteArray)(n:Int)(h0: -9223372036854775808≤n)(h1:n≤9223372036854775807)(w:World)(hg:9≤w.heap.size)(hG:GV w)(htab:Lib.TabBelow Tryz.prog w.heap.size w "internal/strconv.uint64pow10" .u64 Lib.pow10Tab)(hs:s.size≤140737488351232):Calls Tryz.prog 9 #[.string s,.int .i64 n] w fun r w'=>r=.returned (.bool true)∧Below w.heap.size w w':=by
 have hm1:n.tmod 50≤49:=by have:=Int.tmod_lt_of_pos n (show(0:Int)<50 by decide);omega
 have hnm:=fun e w'=>lnumN e w'
 have HG:=Lib.hid hG;have HTAB:=Lib.hid htab;clear hG htab;go_enter Tryz.func9,Tryz.ntmps9;go_wp2;go_loopw [5,6] (fun tv iv wr=>∃(j:Nat) (T:ByteArray),tv=.string T∧iv=.int .i64 (j:Int)∧wr=w∧T.size=j∧j≤49∧Blk T.data.toList) (fun _ iv _=>50-(intOf iv).toNat)
 case atStart=>exact⟨0,⟨#[]⟩,rfl,rfl,rfl,rfl,by omega,fun c hc=>by simp at hc⟩
 case round=>
  obtain⟨j,T,rfl,rfl,rfl,hT,hj,hB⟩:=hrel;have HB:=Lib.hid hB;clear hB;by_cases hlt:(j:Int)<n.tmod 50
  ·go_wp2_with fail
   go_roundw
   case rel=>
    obtain⟨z1,z2⟩:=blk4 (j%4) (by omega);exact⟨j+1,_,rfl,by go_num,(by first|rfl|trivial),by rw[ByteArray.size_append,hT,z1],by omega,by rw[ByteArray.data_append,Array.toList_append];exact blk_app HB.out z2⟩
   case measure=>simp[intOf];omega
  ·subst hT
   have hlenB:T.data.toList.length=T.size:=by simp
   have hlenS:s.data.toList.length=s.size:=by simp
   by_cases hbig:65536<s.size+2*T.size
   ·have i1:(65536:Int)<(s.size:Int)+2*(T.size:Int):=by omega
    clear hlenB hlenS;go_wp2;go_ret;exact⟨rfl,Below.refl _ _⟩
   ·have i1:decide ((65536:Int)<(s.size:Int)+2*(T.size:Int))=false:=by simp;omega
    have hjoin:(T++s).data.toList=T.data.toList++s.data.toList:=by simp
    have hp1:=cparse s wr hg HG.out;have hp2:∀w1,Below wr.heap.size wr w1→Calls Tryz.prog 19 #[.string (T++s)] w1 fun r w'=>PP (w1.heap.size+1) (mvR T.size (readL s.data.toList)) r w'∧Below w1.heap.size w1 w':=fun w1 b1=>by
     have hz:=b1.size;have:=cparse (T++s) w1 (by omega) (HG.out.kept fun k hk=>b1.block k (by omega));rwa [hjoin,readL_ahead _ _ HB.out (by omega),hlenB]at this
    have hrd:=fun w1=>rread s w1 hs
    have hq1:∀w1,Below wr.heap.size wr w1→Calls Tryz.prog 16 #[.string s] w1 fun r w'=>r=.returned (.tuple #[.string ⟨(prF (readL s.data.toList)).1.toArray⟩,.int .i64 ((prF (readL s.data.toList)).2.1:Int),.int .i64 ((prF (readL s.data.toList)).2.2:Int)])∧Below w1.heap.size w1 w':=fun w1 b1=>by
     have hz:=b1.size;exact cprint s w1 (by omega) (HG.out.kept fun k hk=>b1.block k (by omega)) (fun w' hb=>HTAB.out w' (b1.trans (hb.mono hz)))
    have hq2:∀t,readL s.data.toList=.ok t→∀w1,Below wr.heap.size wr w1→Calls Tryz.prog 16 #[.string (T++s++T)] w1 fun r w'=>r=.returned (.tuple #[.string ⟨(prF (.ok t)).1.toArray⟩,.int .i64 0,.int .i64 0])∧Below w1.heap.size w1 w':=fun t ht w1 b1=>by
     have hz:=b1.size;have:=cprint (T++s++T) w1 (by omega) (HG.out.kept fun k hk=>b1.block k (by omega)) (fun w' hb=>HTAB.out w' (b1.trans (hb.mono hz)));have hj2:(T++s++T).data.toList=(T.data.toList++s.data.toList)++T.data.toList:=by simp
     have hr2:readL ((T.data.toList++s.data.toList)++T.data.toList)=.ok (mvT T.size t):=by
      refine readL_behind _ _ _ HB.out (by rw[List.length_append];omega) ?_;rw[readL_ahead _ _ HB.out (by omega),ht,hlenB];rfl
     rw[hj2,hr2,prF_mv]at this;exact this
    have hTs:T.size≤49:=by omega
    clear hjoin hlenB hlenS hbig hm1 HTAB;cases hR:readL s.data.toList with
    | error ea=>
      obtain⟨e,a⟩:=ea;have ha:a≤65536:=(readL_lim _).1 e a hR;rw[hR]at hp1 hp2 hrd;have HP2:=Lib.hid hp2;have HRD:=Lib.hid hrd;clear hq1 hq2 hR hp2 hrd;go_wp2_with fail
      refine hp1.mono ?_;rintro r w1 ⟨⟨rfl,he⟩,c1⟩;have B1:=Lib.hid c1;clear c1 hp1;go_wp2_with fail
      refine(HP2.out w1 B1.out).mono ?_;rintro r w2 ⟨⟨rfl,_⟩,c2⟩;have B2:=Lib.hid (B1.out.trans (c2.mono B1.out.size));clear c2;go_wp2_with fail
      refine(HRD.out w2).mono ?_;rintro r w3 ⟨⟨rfl,_⟩,c3⟩;have B3:=Lib.hid (B2.out.trans (c3.mono B2.out.size));clear c3;have k2:¬((e:Int)=0):=by omega
      have k3:((e:Int) != 0)=true:=by simp;omega
      go_wp2_with (go_at_call 18;refine(hnm _ _).mono ?_;rintro e w' ⟨rfl,rfl⟩)
      go_ret;exact⟨rfl,B3.out⟩
    | ok t=>
      have hNl:(flat 0 [] t).length≤65536:=by rw[flat_length];exact(readL_rok hR).2.2
      have hat0:=(readL_lim _).2 t hR;have hq2':=hq2 t hR;rw[hR]at hp1 hp2 hrd hq1;have hp1':Calls Tryz.prog 19 #[.string s] wr fun r w'=>(∃v kvs,r=.returned (.tuple #[v,.int .i64 0,.int .i64 0])∧NK (wr.heap.size+1) 42 v kvs (flat 0 [] t) w')∧Below wr.heap.size wr w':=hp1
      have hp2':∀w1,Below wr.heap.size wr w1→Calls Tryz.prog 19 #[.string (T++s)] w1 fun r w'=>(∃v kvs,r=.returned (.tuple #[v,.int .i64 0,.int .i64 0])∧NK (w1.heap.size+1) 42 v kvs ((flat 0 [] t).map (mvN T.size)) w')∧Below w1.heap.size w1 w':=fun w1 b1=>by
       refine(hp2 w1 b1).mono ?_;rintro r w' ⟨⟨v,kvs,e,hK⟩,hb⟩;rw[flat_mv]at hK;exact⟨⟨v,kvs,e,hK⟩,hb⟩
      have hrd':∀w1,Calls Tryz.prog 20 #[.string s] w1 fun r w'=>(∃v,r=.returned (.tuple #[v,.int .i64 0,.int .i64 0]))∧Below w1.heap.size w1 w':=fun w1=>by
       refine(hrd w1).mono ?_;rintro r w' ⟨⟨v,e,_⟩,hb⟩;exact⟨⟨v,e⟩,hb⟩
      have hq1':∀w1,Below wr.heap.size wr w1→Calls Tryz.prog 16 #[.string s] w1 fun r w'=>r=.returned (.tuple #[.string ⟨(prF (.ok t)).1.toArray⟩,.int .i64 0,.int .i64 0])∧Below w1.heap.size w1 w':=hq1
      generalize (prF (.ok t)).1=F at hq1' hq2';generalize flat 0 [] t=N at hp1' hp2' hNl hat0;have HAT:=Lib.hid hat0;clear hat0;have HP2:=Lib.hid hp2';have HRD:=Lib.hid hrd';have HQ1:=Lib.hid hq1';have HQ2:=Lib.hid hq2';clear hp1 hp2 hp2' hrd hrd' hq1 hq1' hq2 hq2' hR;go_wp2_with fail
      refine hp1'.mono ?_;rintro r w1 ⟨⟨v,kvs,rfl,hK⟩,c1⟩;obtain⟨ad,cap,rfl⟩:=hK.shape;have B1:=Lib.hid c1;have A1:=Lib.hid (AtR.of hK);clear c1 hp1' hK;go_wp2_with fail
      refine(HP2.out w1 B1.out).mono ?_;rintro r w2 ⟨⟨v,kvs,rfl,hK⟩,c2⟩;obtain⟨ad2,cap2,rfl⟩:=hK.shape;have A2:=Lib.hid (AtR.of hK);have A1':=Lib.hid (A1.out.below c2);have B2:=Lib.hid (B1.out.trans (c2.mono B1.out.size));rw[List.length_map]at A2 ⊢;clear c2 hK A1;go_wp2_with fail
      refine(HRD.out w2).mono ?_;rintro r w3 ⟨⟨v,rfl⟩,c3⟩;have A2':=Lib.hid (A2.out.below c3);have A1'':=Lib.hid (A1'.out.below c3);have B3:=Lib.hid (B2.out.trans (c3.mono B2.out.size));clear c3 A2 A1';go_wp2_with (go_at_call 18;refine(hnm _ _).mono ?_;rintro e w' ⟨rfl,hw⟩;have hw2:=hw.symm;subst hw2)
      obtain⟨W0,hW0⟩:∃W0,W0=wr:=⟨_,rfl⟩;subst hW0;go_loopw [16] (fun iv wx=>∃i:Nat,iv=.int .i64 (i:Int)∧i≤N.length∧Below w3.heap.size w3 wx) (fun iv _=>N.length-(intOf iv).toNat)
      case atStart=>exact⟨0,rfl,Nat.zero_le _,Below.refl _ _⟩
      case round=>
       obtain⟨i,rfl,hi,hbx⟩:=hrel;have BX:=Lib.hid hbx;have a1:=A1''.out.below hbx;have a2:=A2'.out.below hbx;clear hbx;by_cases hin:i<N.length
       ·have k1:(i:Int)<(N.length:Int):=by omega
        obtain⟨nd,hnd⟩:∃nd,N[i]?=some nd:=⟨_,List.getElem?_eq_getElem hin⟩;obtain⟨g,cp,e1,g1,c0,c5⟩:=a1.at' i nd hnd;obtain rfl:ad=some ⟨g,0,none⟩:=by injection e1
        obtain⟨g',cp',e2,g1',d0,d5⟩:=a2.at' i (mvN T.size nd) (by rw[List.getElem?_map,hnd];rfl);obtain rfl:ad2=some ⟨g',0,none⟩:=by injection e2
        have d5':wr.cell? ⟨g',i*6+5,none⟩=some (.int .i64 ((nd.at':Int)+(T.size:Int))):=by rw[d5];simp[mvN]
        have d0':wr.cell? ⟨g',i*6,none⟩=some (.int .i64 (nd.kind:Int)):=d0;have hat:nd.at'≤65536:=HAT.out nd (List.mem_of_getElem? hnd);clear a1 a2 e1 e2 g1 g1' d0 d5 hnd;go_wp2_with fail
        go_quiet (fail);go_wp2_with fail
        go_roundw
        case rel=>exact⟨i+1,by go_num,by omega,BX.out.trans ⟨rfl,rfl,rfl,Nat.le_refl _,fun _ _=>rfl⟩⟩
        case measure=>simp[intOf];omega
       ·obtain rfl:i=N.length:=by omega
        have k1:¬(N.length:Int)<(N.length:Int):=by omega
        clear a1 a2;have b4:Below W0.heap.size W0 wr:=B3.out.trans (BX.out.mono B3.out.size);have B4:=Lib.hid b4;have hq1:=HQ1.out wr b4;clear b4;go_wp2_with fail
        refine hq1.mono ?_;rintro r w5 ⟨rfl,c5⟩;have B5:=Lib.hid (B4.out.trans (c5.mono B4.out.size));have hq2:=HQ2.out w5 B5.out;clear c5 hq1;go_wp2_with fail
        refine hq2.mono ?_;rintro r w6 ⟨rfl,c6⟩;have B6:=Lib.hid (B5.out.trans (c6.mono B5.out.size));clear c6 hq2;go_wp2_with (go_at_call 18;refine(hnm _ _).mono ?_;rintro e w' ⟨rfl,rfl⟩)
        go_ret;exact⟨rfl,B6.out⟩
end Go.Proofs.YtbbopknnoamkbaaGreatDoor
