import Derived.Test.YtbbopknnoamkbaaGreatDoorRows
import Derived.Test.YtbbopknnoamkbaaGreatDoorTie
import Derived.Test.YtbbopknnoamkbaaGreatDoorCards
import Derived.Test.YtbbopknnoamkbaaGreatDoorLKp
import Derived.Test.YtbbopknnoamkbaaGreatDoorShelf
import Derived.ProofKit
import Derived.OpenShut
import Derived.ShutString
import Derived.SizedLaws
import Derived.PinnedBridge
import Derived.Lay
import Derived.LaidOnce
import Derived.SevenTiedAt
import Derived.MakeChecks
import Derived.Lib.LaidU8
import Derived.Lib.LaidTab
import Derived.Stop.LaidErr
import Derived.Deep.DeepWitnessRowRef
namespace Go.Proofs.YtbbopknnoamkbaaGreatDoor.claimsKeptU
open Go.ChangeShapes Go.WideShapes Go.ChangeAt Go.RowKit
open Go.ChangeMaps (open_string shut_string)
set_option linter.unusedVariables false
theorem own:ownKnob Tryz.prog.godebug=none:=by kernel_rfl
theorem gv_of{W:World}(hL:laidMet Tryz.prog Rows.claimsKeptUptoRow.laid W):9≤W.heap.size∧GV W:=by
 have m (n:String) (d:DataW Unit) (h:(n,d)∈Rows.claimsKeptUptoRow.laid):=Lib.laidMet.reads hL h;refine⟨?_,⟨?_,?_⟩⟩
 ·obtain⟨g,t,cs,fuel,p,h1,h2,h3,h4⟩:=m "math/bits.deBruijn64tab" _ (.tail _ (.head _))
  obtain rfl:=Option.some.inj ((show Tryz.prog.globalNamed "math/bits.deBruijn64tab" =some 8 by kernel_rfl).symm.trans h1);unfold World.var? at h3;rw[show Tryz.prog.globalNamed "math/bits.deBruijn64tab" =some 8 by kernel_rfl]at h3;simp only[Option.bind]at h3;cases hh:W.heap[8]? with
  | none=>simp[hh]at h3
  | some o=>have:=(Array.getElem?_eq_some_iff.1 hh).1;omega
 ·exact utf8Tabs_of_reads (ρ:=Tryz.lays197_ren) {Tryz.lays197 with} ⟨by kernel_rfl,by kernel_rfl,by kernel_rfl,by kernel_rfl,by kernel_rfl,by kernel_rfl,by kernel_rfl⟩
   (Pinned.utf8First_eq▸m "unicode/utf8.first" _ (.tail _ (.tail _ (.tail _ (.tail _ (.tail _ (.tail _ (.head _))))))))
   (show Lib.VarReads Tryz.prog W "unicode/utf8.acceptRanges" Lib.acceptData from(show Rows.laid_unicode_utf8_acceptRanges=Lib.acceptData by kernel_rfl)▸m "unicode/utf8.acceptRanges" _ (.tail _ (.tail _ (.tail _ (.head _)))))
 ·obtain⟨g,t,cs,fuel,p,h1,h2,h3,h4⟩:=m "strconv.ErrRange" _ (.tail _ (.tail _ (.tail _ (.tail _ (.head _)))))
  obtain rfl:=Option.some.inj (gn_range.symm.trans h1);obtain rfl:t=207:=Option.some.inj (h2.symm.trans (show(Tryz.prog.globals[6]?).map (·.type)=some 207 by kernel_rfl));obtain⟨f1,u,v,hcs,hn,h5⟩:=iface_of_trod Tryz.underlying207 h4;refine⟨u,v,?_⟩;rw[h3];cases cs;simp only at hcs;rw[hcs]
theorem gn10:Tryz.prog.globalNamed "internal/strconv.uint64pow10" =some 3:=by kernel_rfl
theorem tab_of{W:World}(hL:laidMet Tryz.prog Rows.claimsKeptUptoRow.laid W):Lib.TabIs Tryz.prog W "internal/strconv.uint64pow10" .u64 Lib.pow10Tab:=by
 have hm:=Lib.laidMet.reads hL (n:= "internal/strconv.uint64pow10") (d:=Rows.laid_internal_strconv_uint64pow10) (.tail _ (.tail _ (.head _)));have hd:(Rows.laid_internal_strconv_uint64pow10:DataW Unit)=Lib.tabData .u64 Lib.pow10Tab:=by kernel_rfl
 rw[hd]at hm;obtain⟨g,t,cs,fuel,p,h1,h2,h3,h4⟩:=hm;obtain rfl:=Option.some.inj (gn10.symm.trans h1);obtain rfl:t=236:=Option.some.inj (h2.symm.trans (show(Tryz.prog.globals[3]?).map (·.type)=some 236 by kernel_rfl));unfold Lib.TabIs;rw[h3,←Lib.cells_of_tab Tryz.underlying236 Tryz.underlying158 (by kernel_rfl) (by kernel_rfl) h4]
theorem short{H:Type}{a0 a1:ByteArray}{a2 a3:Int}(hk:Rows.uptoSmall H [DataW.lit (H:=H) (.string a0.data.toList),DataW.lit (H:=H) (.string a1.data.toList),DataW.lit (H:=H) (.int .i64 a2),DataW.lit (H:=H) (.int .i64 a3)]=true):a0.size+a1.size≤1048576:=by
 have h:Rows.uptoBulkAll [DataW.lit (H:=H) (.string a0.data.toList),DataW.lit (H:=H) (.string a1.data.toList),DataW.lit (H:=H) (.int .i64 a2),DataW.lit (H:=H) (.int .i64 a3)]≤1048576:=of_decide_eq_true hk;simp only[Rows.uptoBulkAll,Rows.uptoBulk]at h;have e0:a0.data.toList.length=a0.size:=by rw[Array.length_toList];rfl
 have e1:a1.data.toList.length=a1.size:=by rw[Array.length_toList];rfl
 omega
theorem wit(os:Os){H:Type}(enc:TypeId×Value→H):(Rows.OpenSpec.upto Rows.claimsKeptSpec).preRow enc Tryz.prog Tryz.f14 Rows.claimsKeptUptoRow.domain false Rows.claimsKeptUptoRow.laid ((World.laidAll Tryz.prog os Rows.claimsKeptUptoRow.laid).forCall (fun _ _=>0) ⟨#[],#[.string ByteArray.empty,.string ByteArray.empty,.int .i64 0,.int .i64 0],[]⟩).memory #[.string ByteArray.empty,.string ByteArray.empty,.int .i64 0,.int .i64 0]:=by
 have hw:(DataW.whole enc Tryz.prog ((World.laidAll Tryz.prog os Rows.claimsKeptUptoRow.laid).forCall (fun _ _=>0) ⟨#[],#[.string ByteArray.empty,.string ByteArray.empty,.int .i64 0,.int .i64 0],[]⟩).memory Tryz.f14.params.toList Rows.claimsKeptSpec.vars false #[Value.string ByteArray.empty,.string ByteArray.empty,.int .i64 0,.int .i64 0].toList 8).map (fun x=>(x.1,x.2.1))=
  some ([.lit (.string []),.lit (.string []),.lit (.int .i64 0),.lit (.int .i64 0)],[]):=by kernel_rfl
 obtain⟨⟨x1,x2,x3⟩,hx,hx1⟩:=Option.map_eq_some_iff.1 hw;simp only[Prod.mk.injEq]at hx1;obtain⟨rfl,rfl⟩:=hx1;exact OpenSpec.preRow_of_cond 8 hx (by kernel_rfl) (fun k hk=>by cases hk;kernel_rfl) (by kernel_rfl) (by rw[MakeChecks.laidMetH_plain _ _ _ (by kernel_rfl)];exact laidMet_laidAll _ (by kernel_rfl) (by kernel_rfl))
set_option maxRecDepth 100000 in
set_option maxHeartbeats 2000000 in
theorem lifted(os:Os)(started:os.Started)(H:Type)(enc:TypeId×Value→H)(F:Stop.Interp):ReturnsInHanded {} Tryz.checked os 14 .any ((Rows.OpenSpec.upto Rows.claimsKeptSpec).preRow enc Tryz.prog Tryz.f14 Rows.claimsKeptUptoRow.domain false Rows.claimsKeptUptoRow.laid) (((Rows.OpenSpec.upto Rows.claimsKeptSpec).at F).post enc Tryz.prog Tryz.f14 false true false false):=by
 refine returnsInHanded_of_row (C:=Tryz.checked) (s:=Rows.OpenSpec.upto Rows.claimsKeptSpec) own started (by kernel_rfl) Tryz.func14
  (witness_row_atRef (enc:=enc) (C:=Tryz.checked) false (World.laidAll Tryz.prog os Rows.claimsKeptUptoRow.laid) #[.string ByteArray.empty,.string ByteArray.empty,.int .i64 0,.int .i64 0] (World.laidAll_os _ _ _) (by kernel_rfl) (by kernel_rfl) (by kernel_rfl) (wit os enc)) ?_
 intro W base args ds gs before hval0 hW _ hcond hsz0 hL _ _;have hval:∀(j:Nat) t v,Tryz.f14.params[j]?=some t→args[j]?=some v→Value.okWide Tryz.prog W .any base t v:=hval0;have hk:=hcond _ rfl;have hW':=hW;obtain⟨p,q,hA0,hV,rfl,hfz,hnd⟩:=hW;have hA:DataW.TrodAll enc Tryz.prog W 0 (fun _=>true) true Tryz.f14.params.toList args.toList ds p:=hA0;rw[Tryz.params14]at hA hval;obtain⟨v0,vs0,d0,ds0,p0,q0,hargs,rfl,rfl,h0,r0⟩:=trodAll_cons hA;obtain⟨v1,vs1,d1,ds1,p1,q1,rfl,rfl,rfl,h1,r1⟩:=trodAll_cons r0;obtain⟨v2,vs2,d2,ds2,p2,q2,rfl,rfl,rfl,h2,r2⟩:=trodAll_cons r1;obtain⟨v3,vs3,d3,ds3,p3,q3,rfl,rfl,rfl,h3,r3⟩:=trodAll_cons r2;obtain⟨rfl,rfl,rfl⟩:=trodAll_nil r3;obtain rfl:args= #[v0,v1,v2,v3]:=by cases args;simp_all
 obtain⟨rfl,rfl⟩:=trodVars_none hV;obtain⟨a0,rfl,rfl,rfl,w0⟩:=open_string Tryz.underlying9 (hval 0 9 v0 rfl rfl) h0;obtain⟨a1,rfl,rfl,rfl,w1⟩:=open_string Tryz.underlying9 (hval 1 9 v1 rfl rfl) h1;obtain⟨a2,rfl,rfl,rfl,w2⟩:=open_int Tryz.underlying3 (hval 2 3 v2 rfl rfl) h2;obtain⟨a3,rfl,rfl,rfl,w3⟩:=open_int Tryz.underlying3 (hval 3 3 v3 rfl rfl) h3;clear hA0 hval0;simp only[List.append_nil]at hW' hk;have hsm:=short hk;have rng:∀n:Int,(Lit.int .i64 n).wf=true→ -9223372036854775808≤n∧n≤9223372036854775807:=fun n h9=>by
  simp[Lit.wf]at h9;have h8:IntKind.i64.min= -9223372036854775808∧IntKind.i64.max=9223372036854775807:=⟨rfl,rfl⟩;omega
 obtain⟨l2,u2⟩:=rng a2 w2;obtain⟨l3,u3⟩:=rng a3 w3;rw[MakeChecks.laidMetH_plain _ _ _ (by kernel_rfl)]at hL;obtain⟨hg,hG⟩:=gv_of hL;have hil:a1.data.toList.length≤1048576:=by rw[Array.length_toList];have:a1.data.size=a1.size:=rfl;omega
 have walk:=lkept a0 a1.data.toList a2 a3 W hg hG (Lib.tabBelow_of_tabIs (tab_of hL)) (by omega) hil l2 u2 l3 u3;have ea:(⟨a1.data.toList.toArray⟩:ByteArray)=a1:=by simp
 rw[ea]at walk;refine walk.mono fun e W' ⟨he,bel⟩=>?_
 subst he;exact⟨_,rfl,_,_,_,[],[],[],hW',trodAll_mk1 (shut_bool Tryz.underlying4 _),(trodAll_cons_mk (shut_string Tryz.underlying9 w0) (trodAll_cons_mk (shut_string Tryz.underlying9 w1) (trodAll_cons_mk (shut_int Tryz.underlying3 w2) (trodAll_cons_mk (shut_int Tryz.underlying3 w3) trodAll_mk0)))),rfl,bel.frame _,fun h=>by cases h⟩
theorem closed:joinedFacts Tryz.pinned.checked.prog 14 Tryz.f14 (Rows.OpenSpec.upto Rows.claimsKeptSpec).bare Rows.claimsKeptUptoRow=true:=by kernel_rfl
theorem over:Rows.ClaimsKeptUptoSaid:=
 OpenClaim.holds_of_cond 14 Tryz.f14 rfl rfl rfl rfl rfl rfl rfl ⟨rfl,rfl,rfl,rfl,rfl⟩ rfl rfl rfl rfl rfl (by kernel_rfl) Tryz.func14 closed
  (of_decide_eq_true (by kernel_rfl)) (by unfold Func.isWrapper;first|(rw[if_pos (by decide +kernel)];kernel_rfl)|(rw[if_neg (by decide +kernel)];exact⟨rfl,rfl⟩))
  (fun os started H enc _ F=>by rw[OpenClaim.pre_eq_preRow];exact lifted os started H enc F)
theorem plain(f:FuncId)(fn:Func)(hf:Tryz.pinned.checked.prog.funcNamed "notary/notarylaw.ClaimsKept" =some f)(hfn:Tryz.pinned.checked.prog.funcs[f]?=some fn):true=Tryz.pinned.checked.prog.looks []∧∀(j:Nat) t,fn.params[j]?=some t→Tryz.pinned.checked.prog.wantsStandIn t=false:=by
 obtain rfl:f=14:=Option.some.inj ((show Tryz.prog.funcNamed "notary/notarylaw.ClaimsKept" =some 14 by kernel_rfl).symm.trans hf)|>.symm;obtain rfl:fn=Tryz.f14:=(Option.some.inj (Tryz.func14.symm.trans hfn)).symm;refine⟨by kernel_rfl,fun j t ht=>?_⟩;rw[Tryz.params14]at ht;have hm:t∈[9,9,3,3]:=by simpa using Array.mem_of_getElem? ht
 have hall:([9,9,3,3].all fun u=>!Tryz.prog.wantsStandIn u)=true:=by kernel_rfl
 exact(show Tryz.prog.wantsStandIn t=false by simpa using List.all_eq_true.1 hall t hm)
theorem card:Rows.ClaimsKeptUptoCardSaid:=
 Claim7.holds_tied_plain_at .later [] _ _ _ _ over (fun _ h=>by cases h) (by kernel_rfl) (fun _ h=>by cases h) claimsKeptUpto_row_tie rfl ⟨rfl,rfl⟩ (by kernel_rfl) rfl plain (by kernel_rfl)
end Go.Proofs.YtbbopknnoamkbaaGreatDoor.claimsKeptU
namespace Go.Proofs.YtbbopknnoamkbaaGreatDoor
theorem claimsKeptUpto_holds:Rows.ClaimsKeptUptoCardSaid:=claimsKeptU.card
#print axioms claimsKeptUpto_holds
end Go.Proofs.YtbbopknnoamkbaaGreatDoor
