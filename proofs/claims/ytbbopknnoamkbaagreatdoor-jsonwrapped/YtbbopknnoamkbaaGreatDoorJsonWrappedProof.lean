import Derived.Test.YtbbopknnoamkbaaGreatDoorRows
import Derived.Test.YtbbopknnoamkbaaGreatDoorTie
import Derived.Test.YtbbopknnoamkbaaGreatDoorCards
import Derived.Test.YtbbopknnoamkbaaGreatDoorA4
import Derived.Test.YtbbopknnoamkbaaGreatDoorShelf
import Derived.ProofKit
import Derived.OpenShut
import Derived.ShutString
import Derived.SizedLaws
import Derived.PinnedBridge
import Derived.Lay
import Derived.LaidOnce
import Derived.SevenTiedAt
import Derived.MakeChecks
import Derived.Lib.LaidU8
import Derived.Lib.LaidTab
import Derived.Stop.LaidErr
namespace Go.Proofs.YtbbopknnoamkbaaGreatDoor.jsonWrapped
open Go.ChangeShapes Go.WideShapes Go.ChangeAt Go.RowKit
open Go.ChangeMaps (open_string shut_string)
set_option linter.unusedVariables false
theorem own:ownKnob Tryz.prog.godebug=none:=by kernel_rfl
theorem gv_of{W:World}(hL:laidMet Tryz.prog Rows.jsonWrappedRow.laid W):9≤W.heap.size∧GV W:=by
 have m (n:String) (d:DataW Unit) (h:(n,d)∈Rows.jsonWrappedRow.laid):=Lib.laidMet.reads hL h;refine⟨?_,⟨?_,?_⟩⟩
 ·obtain⟨g,t,cs,fuel,p,h1,h2,h3,h4⟩:=m "math/bits.deBruijn64tab" _ (.tail _ (.head _))
  obtain rfl:=Option.some.inj ((show Tryz.prog.globalNamed "math/bits.deBruijn64tab" =some 8 by kernel_rfl).symm.trans h1);unfold World.var? at h3;rw[show Tryz.prog.globalNamed "math/bits.deBruijn64tab" =some 8 by kernel_rfl]at h3;simp only[Option.bind]at h3;cases hh:W.heap[8]? with
  | none=>simp[hh]at h3
  | some o=>have:=(Array.getElem?_eq_some_iff.1 hh).1;omega
 ·exact utf8Tabs_of_reads (ρ:=Tryz.lays197_ren) {Tryz.lays197 with} ⟨by kernel_rfl,by kernel_rfl,by kernel_rfl,by kernel_rfl,by kernel_rfl,by kernel_rfl,by kernel_rfl⟩
   (Pinned.utf8First_eq▸m "unicode/utf8.first" _ (.tail _ (.tail _ (.tail _ (.tail _ (.tail _ (.tail _ (.head _))))))))
   (show Lib.VarReads Tryz.prog W "unicode/utf8.acceptRanges" Lib.acceptData from(show Rows.laid_unicode_utf8_acceptRanges=Lib.acceptData by kernel_rfl)▸m "unicode/utf8.acceptRanges" _ (.tail _ (.tail _ (.tail _ (.head _)))))
 ·obtain⟨g,t,cs,fuel,p,h1,h2,h3,h4⟩:=m "strconv.ErrRange" _ (.tail _ (.tail _ (.tail _ (.tail _ (.head _)))))
  obtain rfl:=Option.some.inj (gn_range.symm.trans h1);obtain rfl:t=207:=Option.some.inj (h2.symm.trans (show(Tryz.prog.globals[6]?).map (·.type)=some 207 by kernel_rfl));obtain⟨f1,u,v,hcs,hn,h5⟩:=iface_of_trod Tryz.underlying207 h4;refine⟨u,v,?_⟩;rw[h3];cases cs;simp only at hcs;rw[hcs]
theorem gn10:Tryz.prog.globalNamed "internal/strconv.uint64pow10" =some 3:=by kernel_rfl
theorem tab_of{W:World}(hL:laidMet Tryz.prog Rows.jsonWrappedRow.laid W):Lib.TabIs Tryz.prog W "internal/strconv.uint64pow10" .u64 Lib.pow10Tab:=by
 have hm:=Lib.laidMet.reads hL (n:= "internal/strconv.uint64pow10") (d:=Rows.laid_internal_strconv_uint64pow10) (.tail _ (.tail _ (.head _)));have hd:(Rows.laid_internal_strconv_uint64pow10:DataW Unit)=Lib.tabData .u64 Lib.pow10Tab:=by kernel_rfl
 rw[hd]at hm;obtain⟨g,t,cs,fuel,p,h1,h2,h3,h4⟩:=hm;obtain rfl:=Option.some.inj (gn10.symm.trans h1);obtain rfl:t=236:=Option.some.inj (h2.symm.trans (show(Tryz.prog.globals[3]?).map (·.type)=some 236 by kernel_rfl));unfold Lib.TabIs;rw[h3,←Lib.cells_of_tab Tryz.underlying236 Tryz.underlying158 (by kernel_rfl) (by kernel_rfl) h4]
set_option maxRecDepth 100000 in
theorem lifted(os:Os)(started:os.Started)(H:Type)(enc:TypeId×Value→H):ReturnsInHanded {} Tryz.checked os 5 .any (fun w args=>(Rows.jsonWrappedSpec.pre enc Tryz.prog Tryz.f5 [] false w args∧laidMetH Tryz.prog Rows.jsonWrappedRow.laid w)∧sizedMet enc Tryz.prog Tryz.f5 (OpenSpec.ofChange Rows.jsonWrappedSpec) false w args) (Rows.jsonWrappedSpec.post enc Tryz.prog Tryz.f5 false true false false):=by
 refine returnsInHanded_of_change_and (C:=Tryz.checked) (X:=fun w _=>laidMetH Tryz.prog Rows.jsonWrappedRow.laid w) (fun _ _ _ hh h=>h.of_heap hh) own started (by kernel_rfl) Tryz.func5
  (ChangeSpec.witness_shaped (enc:=enc) (C:=Tryz.checked) (os:=os) (X:=fun w _=>laidMetH Tryz.prog Rows.jsonWrappedRow.laid w) false (World.laidAll Tryz.prog os Rows.jsonWrappedRow.laid) #[.string ByteArray.empty,.string ByteArray.empty] 8 (World.laidAll_os _ _ _) (World.shaped_of_ZipB (by kernel_rfl) (by kernel_rfl)) (by kernel_rfl) (by kernel_rfl) (by kernel_rfl) (by rw[MakeChecks.laidMetH_plain _ _ _ (by kernel_rfl)];exact laidMet_laidAll _ (by kernel_rfl) (by kernel_rfl))) ?_
 intro W base args ds gs before hval0 hW _ hsz0 hL _;have hval:∀(j:Nat) t v,Tryz.f5.params[j]?=some t→args[j]?=some v→Value.okWide Tryz.prog W .any base t v:=hval0;have hsz:(DataW.weightsEach Tryz.prog (Tryz.f5.params.toList++Rows.jsonWrappedSpec.plain.varTypes Tryz.prog) (ds++gs)).all (· ≤reachBytes)=true:=hsz0;have hW':=hW;obtain⟨p,q,hA0,hV,rfl,hfz,hnd⟩:=hW;have hA:DataW.TrodAll enc Tryz.prog W 0 (fun _=>true) true Tryz.f5.params.toList args.toList ds p:=hA0;rw[Tryz.params5]at hA hval hsz;obtain⟨v0,vs0,d0,ds0,p0,q0,hargs,rfl,rfl,h0,r0⟩:=trodAll_cons hA;obtain⟨v1,vs1,d1,ds1,p1,q1,rfl,rfl,rfl,h1,r1⟩:=trodAll_cons r0;obtain⟨rfl,rfl,rfl⟩:=trodAll_nil r1;obtain rfl:args= #[v0,v1]:=by cases args;simp_all
 obtain⟨rfl,rfl⟩:=trodVars_none hV;obtain⟨a0,rfl,rfl,rfl,w0⟩:=open_string Tryz.underlying9 (hval 0 9 v0 rfl rfl) h0;obtain⟨a1,rfl,rfl,rfl,w1⟩:=open_string Tryz.underlying9 (hval 1 9 v1 rfl rfl) h1;have z1:a1.size≤140737488351232:=by have:=sized_string hsz (j:=1) (t:=9) rfl rfl;simpa [reachBytes]using this
 have z0:a0.size≤140737488351232:=by have:=sized_string hsz (j:=0) (t:=9) rfl rfl;simpa [reachBytes]using this
 clear hA0 hval0;simp only[List.append_nil]at hW';rw[MakeChecks.laidMetH_plain _ _ _ (by kernel_rfl)]at hL;obtain⟨hg,hG⟩:=gv_of hL;refine(lwrapped a0 a1 W hg hG (Lib.tabBelow_of_tabIs (tab_of hL)) z0 z1).mono fun e W' ⟨he,bel⟩=>?_
 subst he;exact⟨_,rfl,_,_,_,[],[],[],hW',trodAll_mk1 (shut_bool Tryz.underlying4 _),(trodAll_cons_mk (shut_string Tryz.underlying9 w0) (trodAll_cons_mk (shut_string Tryz.underlying9 w1) trodAll_mk0)),rfl,bel.frame _,fun h=>by cases h⟩
theorem over:Rows.jsonWrappedRow.holds Tryz.pinned (OpenSpec.ofChange Rows.jsonWrappedSpec):=
 OpenClaim.holds_of_wide 5 Tryz.f5 rfl rfl rfl rfl rfl rfl rfl ⟨rfl,rfl,rfl,rfl,rfl⟩ rfl rfl rfl rfl rfl (by kernel_rfl) Tryz.func5 (by kernel_rfl)
  (of_decide_eq_true (by kernel_rfl)) (by unfold Func.isWrapper;first|(rw[if_pos (by decide +kernel)];kernel_rfl)|(rw[if_neg (by decide +kernel)];exact⟨rfl,rfl⟩))
  (fun os started H enc _=>lifted os started H enc)
theorem card:Claim7.holds Tryz.pinned (.plain (OpenSpec.ofChange Rows.jsonWrappedSpec)) Rows.jsonWrappedCard:=
 Claim7.holds_tied_plain_at .later [] [.data,.data,.data,.data,.sentinel,.sentinel,.pinned] true (true,"f56201c4b2d5215231d2761e4a9107814429d80fc0cf0a12a8a121e665f209f2") true over (fun _ h=>by cases h) (by kernel_rfl) (fun _ h=>by cases h) jsonWrapped_row_tie rfl ⟨rfl,rfl⟩ (by kernel_rfl) rfl
  (fun f fn hf hfn=>by
    obtain rfl:f=5:=Option.some.inj ((show Tryz.prog.funcNamed "notary/notarylaw.JsonWrapped" =some 5 by kernel_rfl).symm.trans hf)|>.symm;obtain rfl:fn=Tryz.f5:=(Option.some.inj (Tryz.func5.symm.trans hfn)).symm;exact⟨by kernel_rfl,fun j t ht=>by
     rw[Tryz.params5]at ht;have hm:t∈[9,9]:=by simpa using Array.mem_of_getElem? ht
     have hall:([9,9].all fun u=>!Tryz.prog.wantsStandIn u)=true:=by kernel_rfl
     exact(show Tryz.prog.wantsStandIn t=false by simpa using List.all_eq_true.1 hall t hm)⟩)
  (by kernel_rfl)
end Go.Proofs.YtbbopknnoamkbaaGreatDoor.jsonWrapped
namespace Go.Proofs.YtbbopknnoamkbaaGreatDoor
theorem jsonWrapped_holds:Rows.JsonWrappedCardSaid:=jsonWrapped.card
#print axioms jsonWrapped_holds
end Go.Proofs.YtbbopknnoamkbaaGreatDoor
