import Derived.Test.YtaghclgookfmnaaGreatDoorRows
import Derived.Test.YtaghclgookfmnaaGreatDoorTie
import Derived.Test.YtaghclgookfmnaaGreatDoorCards
import Derived.Test.YtaghclgookfmnaaGreatDoorE6
import Derived.Test.YtaghclgookfmnaaGreatDoorShelf
import Derived.ProofKit
import Derived.OpenShut
import Derived.ShutString
import Derived.SizedLaws
import Derived.PinnedBridge
import Derived.Lay
import Derived.LaidOnce
import Derived.SevenTiedAt
import Derived.MakeChecks
import Derived.Lib.LaidU8
import Derived.Stop.LaidErr
namespace Go.Proofs.YtaghclgookfmnaaGreatDoor.claimsReads
open Go.ChangeShapes Go.WideShapes Go.ChangeAt Go.RowKit
open Go.ChangeMaps (open_string shut_string)
set_option linter.unusedVariables false
theorem own:ownKnob Tryz.prog.godebug=none:=by kernel_rfl
theorem gn7:Tryz.prog.globalNamed "math/bits.deBruijn64tab" =some 7:=by kernel_rfl
theorem gv_of{W:World}(hL:laidMet Tryz.prog Rows.claimsReadsRow.laid W):8≤W.heap.size∧GV W:=by
 have m (n:String) (d:DataW Unit) (h:(n,d)∈Rows.claimsReadsRow.laid):=Lib.laidMet.reads hL h;refine⟨?_,⟨?_,?_⟩⟩
 ·obtain⟨g,t,cs,fuel,p,h1,h2,h3,h4⟩:=m "math/bits.deBruijn64tab" _ (.tail _ (.head _))
  obtain rfl:=Option.some.inj (gn7.symm.trans h1);unfold World.var? at h3;rw[gn7]at h3;simp only[Option.bind]at h3;cases hh:W.heap[7]? with
  | none=>simp[hh]at h3
  | some o=>have:=(Array.getElem?_eq_some_iff.1 hh).1;omega
 ·exact utf8Tabs_of_reads (ρ:=Tryz.lays197_ren) {Tryz.lays197 with} ⟨by kernel_rfl,by kernel_rfl,by kernel_rfl,by kernel_rfl,by kernel_rfl,by kernel_rfl,by kernel_rfl⟩
   (Pinned.utf8First_eq▸m "unicode/utf8.first" _ (.tail _ (.tail _ (.tail _ (.tail _ (.tail _ (.tail _ (.head _))))))))
   (show Lib.VarReads Tryz.prog W "unicode/utf8.acceptRanges" Lib.acceptData from(show Rows.laid_unicode_utf8_acceptRanges=Lib.acceptData by kernel_rfl)▸m "unicode/utf8.acceptRanges" _ (.tail _ (.tail _ (.tail _ (.head _)))))
 ·obtain⟨g,t,cs,fuel,p,h1,h2,h3,h4⟩:=m "strconv.ErrRange" _ (.tail _ (.tail _ (.tail _ (.tail _ (.head _)))))
  obtain rfl:=Option.some.inj (gn_range.symm.trans h1);obtain rfl:t=110:=Option.some.inj (h2.symm.trans (show(Tryz.prog.globals[3]?).map (·.type)=some 110 by kernel_rfl));obtain⟨f1,u,v,hcs,hn,h5⟩:=iface_of_trod Tryz.underlying110 h4;refine⟨u,v,?_⟩;rw[h3];cases cs;simp only at hcs;rw[hcs]
set_option maxRecDepth 100000 in
theorem lifted(os:Os)(started:os.Started)(H:Type)(enc:TypeId×Value→H):ReturnsInHanded {} Tryz.checked os 3 .any (fun w args=>(Rows.claimsReadsSpec.pre enc Tryz.prog Tryz.f3 [] false w args∧laidMetH Tryz.prog Rows.claimsReadsRow.laid w)∧sizedMet enc Tryz.prog Tryz.f3 (OpenSpec.ofChange Rows.claimsReadsSpec) false w args) (Rows.claimsReadsSpec.post enc Tryz.prog Tryz.f3 false true false false):=by
 refine returnsInHanded_of_change_and (C:=Tryz.checked) (X:=fun w _=>laidMetH Tryz.prog Rows.claimsReadsRow.laid w) (fun _ _ _ hh h=>h.of_heap hh) own started (by kernel_rfl) Tryz.func3
  (ChangeSpec.witness_shaped (enc:=enc) (C:=Tryz.checked) (os:=os) (X:=fun w _=>laidMetH Tryz.prog Rows.claimsReadsRow.laid w) false (World.laidAll Tryz.prog os Rows.claimsReadsRow.laid) #[.string ByteArray.empty] 8 (World.laidAll_os _ _ _) (World.shaped_of_ZipB (by kernel_rfl) (by kernel_rfl)) (by kernel_rfl) (by kernel_rfl) (by kernel_rfl) (by rw[MakeChecks.laidMetH_plain _ _ _ (by kernel_rfl)];exact laidMet_laidAll _ (by kernel_rfl) (by kernel_rfl))) ?_
 intro W base args ds gs before hval0 hW _ hsz0 hL _;have hval:∀(j:Nat) t v,Tryz.f3.params[j]?=some t→args[j]?=some v→Value.okWide Tryz.prog W .any base t v:=hval0;have hsz:(DataW.weightsEach Tryz.prog (Tryz.f3.params.toList++Rows.claimsReadsSpec.plain.varTypes Tryz.prog) (ds++gs)).all (· ≤reachBytes)=true:=hsz0;have hW':=hW;obtain⟨p,q,hA0,hV,rfl,hfz,hnd⟩:=hW;have hA:DataW.TrodAll enc Tryz.prog W 0 (fun _=>true) true Tryz.f3.params.toList args.toList ds p:=hA0;rw[Tryz.params3]at hA hval hsz;obtain⟨v0,vs0,d0,ds0,p0,q0,hargs,rfl,rfl,h0,r0⟩:=trodAll_cons hA;obtain⟨rfl,rfl,rfl⟩:=trodAll_nil r0;obtain rfl:args= #[v0]:=by cases args;simp_all
 obtain⟨rfl,rfl⟩:=trodVars_none hV;obtain⟨a0,rfl,rfl,rfl,w0⟩:=open_string Tryz.underlying9 (hval 0 9 v0 rfl rfl) h0;have z0:a0.size≤140737488351232:=by have:=sized_string hsz (j:=0) (t:=9) rfl rfl;simpa [reachBytes]using this
 clear hA0 hval0;simp only[List.append_nil]at hW';rw[MakeChecks.laidMetH_plain _ _ _ (by kernel_rfl)]at hL;obtain⟨hg,hG⟩:=gv_of hL;refine(lreadsW a0 W hg hG z0).mono fun e W' ⟨he,bel⟩=>?_
 subst he;exact⟨_,rfl,_,_,_,[],[],[],hW',trodAll_mk1 (shut_bool Tryz.underlying4 _),(trodAll_cons_mk (shut_string Tryz.underlying9 w0) trodAll_mk0),rfl,bel.frame _,fun h=>by cases h⟩
theorem over:Rows.claimsReadsRow.holds Tryz.pinned (OpenSpec.ofChange Rows.claimsReadsSpec):=
 OpenClaim.holds_of_wide 3 Tryz.f3 rfl rfl rfl rfl rfl rfl rfl ⟨rfl,rfl,rfl,rfl,rfl⟩ rfl rfl rfl rfl rfl (by kernel_rfl) Tryz.func3 (by kernel_rfl)
  (of_decide_eq_true (by kernel_rfl)) (by unfold Func.isWrapper;first|(rw[if_pos (by decide +kernel)];kernel_rfl)|(rw[if_neg (by decide +kernel)];exact⟨rfl,rfl⟩))
  (fun os started H enc _=>lifted os started H enc)
theorem card:Claim7.holds Tryz.pinned (.plain (OpenSpec.ofChange Rows.claimsReadsSpec)) Rows.claimsReadsCard:=
 Claim7.holds_tied_plain_at .later [] [.data,.data,.data,.data,.sentinel,.sentinel,.pinned] true (true,"3355acbd7e3bb79021d5311ad12b43ab216b0e40226f638092ce6a15fb13ffc5") true over (fun _ h=>by cases h) (by kernel_rfl) (fun _ h=>by cases h) claimsReads_row_tie rfl ⟨rfl,rfl⟩ (by kernel_rfl) rfl
  (fun f fn hf hfn=>by
    obtain rfl:f=3:=Option.some.inj ((show Tryz.prog.funcNamed "notary/notarylaw.ClaimsReads" =some 3 by kernel_rfl).symm.trans hf)|>.symm;obtain rfl:fn=Tryz.f3:=(Option.some.inj (Tryz.func3.symm.trans hfn)).symm;exact⟨by kernel_rfl,fun j t ht=>by
     rw[Tryz.params3]at ht;have hm:t∈[9]:=by simpa using Array.mem_of_getElem? ht
     have hall:([9].all fun u=>!Tryz.prog.wantsStandIn u)=true:=by kernel_rfl
     exact(show Tryz.prog.wantsStandIn t=false by simpa using List.all_eq_true.1 hall t hm)⟩)
  (by kernel_rfl)
end Go.Proofs.YtaghclgookfmnaaGreatDoor.claimsReads
namespace Go.Proofs.YtaghclgookfmnaaGreatDoor
theorem claimsReads_holds:Rows.ClaimsReadsCardSaid:=claimsReads.card
#print axioms claimsReads_holds
end Go.Proofs.YtaghclgookfmnaaGreatDoor
