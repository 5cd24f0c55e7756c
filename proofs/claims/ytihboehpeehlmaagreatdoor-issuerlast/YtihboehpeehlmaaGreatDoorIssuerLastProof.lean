import Derived.Test.YtihboehpeehlmaaGreatDoorTie
import Derived.Test.YtihboehpeehlmaaGreatDoorCards
import Derived.Test.YtihboehpeehlmaaGreatDoorILs
import Derived.PinnedBridge
import Derived.Lay
import Derived.Stop.LaidErr
namespace Go.Proofs.YtihboehpeehlmaaGreatDoor.issuerLast
open Go.Proofs.Tryz
open Go.ChangeShapes Go.WideShapes Go.ChangeAt Go.RowKit Go.Joins Go.Deep Dg
open Go.ChangeMaps (open_string shut_string)
set_option linter.unusedVariables false
theorem own:ownKnob prog.godebug=none:=by kernel_rfl
theorem Hp{W:Wd}(l:laidMet prog Rows.issuerLastRow.laid W):9<=W.heap.size/\GV W:=by
 have m (n:String) (d:DataW Unit) (h:(n,d)∈Rows.issuerLastRow.laid):=Lib.laidMet.reads l h;refine⟨?_,⟨?_,?_⟩⟩
 ·obtain⟨g,t,f,k,p,b,e,a,i⟩:=m "strconv.ErrRange" _ (.tail _ (.tail _ (.tail _ (.tail _ (.head _)))))
  obtain rfl:=LJ ((show prog.globalNamed "strconv.ErrRange" =some 8 by kernel_rfl).symm.trans b);unfold World.var? at a;rw[show prog.globalNamed "strconv.ErrRange" =some 8 by kernel_rfl]at a;simp only[Option.bind]at a;cases c:W.heap[8]? with
  | none=>simp[c]at a
  | some o=>have:=(go.1 c).1;omega
 ·exact utf8Tabs_of_reads (ρ:=lays197_ren) {lays197 with} ⟨by kernel_rfl,by kernel_rfl,by kernel_rfl,by kernel_rfl,by kernel_rfl,by kernel_rfl,by kernel_rfl⟩
   (Pinned.utf8First_eq▸m "unicode/utf8.first" _ (.tail _ (.tail _ (.tail _ (.tail _ (.tail _ (.tail _ (.tail _ (.head _)))))))))
   (show Lib.VarReads prog W "unicode/utf8.acceptRanges" Lib.acceptData from(show Rows.laid_unicode_utf8_acceptRanges=Lib.acceptData by kernel_rfl)▸m "unicode/utf8.acceptRanges" _ (.tail _ (.tail _ (.tail _ (.head _)))))
 ·obtain⟨g,t,f,k,p,b,e,a,i⟩:=m "strconv.ErrRange" _ (.tail _ (.tail _ (.tail _ (.tail _ (.head _)))))
  obtain rfl:=LJ (tr.symm.trans b);obtain rfl:t=141:=LJ (e.symm.trans (show(prog.globals[8]?).map (·.type)=some 141 by kernel_rfl));obtain⟨q,u,v,j,s,r⟩:=iface_of_trod underlying141 i;refine⟨u,v,?_⟩;rw[a];cases f;simp only at j;rw[j]
theorem Jm:prog.globalNamed "internal/strconv.uint64pow10" =some 3:=by kernel_rfl
theorem Gh{W:Wd}(i:laidMet prog Rows.issuerLastRow.laid W):Lib.TabIs prog W "internal/strconv.uint64pow10" .u64 Lib.pow10Tab:=by
 have a:=Lib.laidMet.reads i (n:= "internal/strconv.uint64pow10") (d:=Rows.laid_internal_strconv_uint64pow10) (.tail _ (.tail _ (.head _)));have f:(Rows.laid_internal_strconv_uint64pow10:DataW Unit)=Lib.tabData .u64 Lib.pow10Tab:=by kernel_rfl
 rw[f]at a;obtain⟨g,t,k,j,p,h,c,b,e⟩:=a;obtain rfl:=LJ (Jm.symm.trans h);obtain rfl:t=213:=LJ (c.symm.trans (show(prog.globals[3]?).map (·.type)=some 213 by kernel_rfl));unfold Lib.TabIs;rw[b,<-Lib.cells_of_tab underlying213 underlying170 (by kernel_rfl) (by kernel_rfl) e]
theorem DO:laidOutB prog=true:=by kernel_rfl
set_option maxRecDepth 100000 in
theorem GJ(os:Os)(ab:os.Started)(H:Type)(enc:TypeId×Va->H):ReturnsInHanded {} checked os 5 .any (fun w a=>(Rows.issuerLastSpec.pre enc prog f5 [] false w a/\laidMetH prog Rows.issuerLastRow.laid w)/\sizedMet enc prog f5 (OpenSpec.ofChange Rows.issuerLastSpec) false w a) (Rows.issuerLastSpec.post enc prog f5 false true false false):=by
 refine returnsInHanded_of_change_and (C:=checked) (X:=fun w _=>laidMetH prog Rows.issuerLastRow.laid w) (fun _ _ _ I h=>h.of_heap I) own ab (by kernel_rfl) func5
  (ChangeSpec.witness_shaped (enc:=enc) (C:=checked) (os:=os) (X:=fun w _=>laidMetH prog Rows.issuerLastRow.laid w) false (World.laidAll prog os Rows.issuerLastRow.laid) #[.string ByteArray.empty,.int .i64 0,.slice none 0 0,.string ByteArray.empty] 8 (World.laidAll_os _ _ _) (World.shaped_of_ZipB (by kernel_rfl) (by kernel_rfl)) (by kernel_rfl) (by kernel_rfl) (by kernel_rfl) (by rw[MakeChecks.laidMetH_plain _ _ _ (by kernel_rfl)];exact laidMet_laidAll _ (by kernel_rfl) (by kernel_rfl))) ?_
 intro W Y a D J ak l r _ Q b _;have f:∀(j:Nat) t v,f5.params[j]?=some t->a[j]?=some v->Value.okWide prog W .any Y t v:=l;have g:(DataW.weightsEach prog (f5.params.toList++Rows.issuerLastSpec.plain.varTypes prog) (D++J)).all (· <=reachBytes)=true:=Q;have V:=r;obtain⟨p,q,u,U,rfl,ai,ag⟩:=r;have i:DataW.TrodAll enc prog W 0 (fun _=>true) true f5.params.toList a.toList D p:=u;rw[params5]at i f g;obtain⟨k,ao,d0,af,p0,q0,ap,rfl,rfl,S,M⟩:=trodAll_cons i;obtain⟨z,ad,d1,al,p1,q1,rfl,rfl,rfl,h1,F⟩:=trodAll_cons M;obtain⟨c,ac,K,am,E,q2,rfl,rfl,rfl,y,Z⟩:=trodAll_cons F;obtain⟨x3,y3,u3,v3,p3,q3,rfl,rfl,rfl,h3,r3⟩:=trodAll_cons Z;obtain⟨rfl,rfl,rfl⟩:=trodAll_nil r3;obtain rfl:a= #[k,z,c,x3]:=by cases a;simp_all
 obtain⟨rfl,rfl⟩:=trodVars_none U;have A:=y;have N:∀x∈E,x.block<W.heap.size:=by obtain⟨m,T⟩:=A;exact DataW.trod_lt m _ _ _ T
 obtain⟨s,rfl,rfl,rfl,w0⟩:=open_string Kl (f 0 9 k rfl rfl) S;obtain⟨a1,rfl,rfl,rfl,R⟩:=open_int M5 (f 1 3 z rfl rfl) h1;obtain⟨a3,rfl,rfl,rfl,w3⟩:=open_string Kl (f 3 9 x3 rfl rfl) h3;obtain⟨aa,hx,hl,G⟩:∃os,OR W c os/\os.length<=2000000000000/\∀o∈os,o.s.size<=140737488351232:=by
  obtain⟨b0,ah,ae,rfl⟩:=okWide_slice underlying22 (f 2 22 c rfl rfl);obtain⟨an,hf⟩:=y;exact Ep (x:=(K,E)) (by simpa [Value.cells]using hf) (fun n P=>by
   have:=List.all_eq_true.1 g n (DataW.weights_mem_each (j:=2) rfl rfl n P);simpa using this)
 have z0:s.size<=140737488351232:=by have:=sized_string g (j:=0) (t:=9) rfl rfl;simpa [reachBytes]using this
 have z3:a3.size<=140737488351232:=by have:=sized_string g (j:=3) (t:=9) rfl rfl;simpa [reachBytes]using this
 clear u l;rw[MakeChecks.laidMetH_plain _ _ _ (by kernel_rfl)]at b;obtain⟨L,hG⟩:=Hp b;have hw:=Ha (Lib.laidMet.reads b (n:= "notary/token.ways") (d:=Rows.laid_notary_token_ways) (.tail _ (.tail _ (.tail _ (.tail _ (.tail _ (.tail _ (.head _))))))));refine(llast s a1 c aa a3 W hx hl z0 z3 G ⟨hw,L,hG,Lib.tabBelow_of_tabIs (Gh b)⟩).mono fun e W' ⟨O,B⟩=>?_
 subst O;exact⟨_,rfl,_,_,_,[],_,[],V,trodAll_mk1 (shut_bool underlying4 _),(trodAll_cons_mk (shut_string Kl w0) (trodAll_cons_mk (shut_int M5 R) (trodAll_cons_mk (Below.trod DO (by kernel_rfl) (of_decide_eq_true (by kernel_rfl)) A B N) (trodAll_cons_mk (shut_string Kl w3) trodAll_mk0)))),rfl,B.frame _,fun h=>by cases h⟩
theorem closed:joinedFacts Tryz.pinned.checked.prog 5 f5 Rows.issuerLastSpec Rows.issuerLastRow=true:=by kernel_rfl
theorem over:Rows.issuerLastRow.holds Tryz.pinned (OpenSpec.ofChange Rows.issuerLastSpec):=
 OpenClaim.holds_of_wide 5 f5 rfl rfl rfl rfl rfl rfl rfl ⟨rfl,rfl,rfl,rfl,rfl⟩ rfl rfl rfl rfl rfl (by kernel_rfl) func5 closed
  (of_decide_eq_true (by kernel_rfl)) (by unfold Func.isWrapper;first|(rw[if_pos (by decide +kernel)];kernel_rfl)|(rw[if_neg (by decide +kernel)];exact⟨rfl,rfl⟩))
  (fun d b H enc _=>GJ d b H enc)
theorem card:Claim7.holds Tryz.pinned (.plain (OpenSpec.ofChange Rows.issuerLastSpec)) Rows.issuerLastCard:=
 Claim7.holds_tied_plain_at .later [] [.data,.data,.data,.data,.sentinel,.sentinel,.data,.pinned] true (true,"dc6df25f8a5aa7a8dd917ffd1058292b47cb2aee663ce5c502354203a0c32a48") true over (fun _ h=>by cases h) (by kernel_rfl) (fun _ h=>by cases h) issuerLast_row_tie rfl ⟨rfl,rfl⟩ (by kernel_rfl) rfl
  (fun f g d c=>by
    obtain rfl:f=5:=LJ ((show prog.funcNamed "notary/notarylaw.IssuerLast" =some 5 by kernel_rfl).symm.trans d)|>.symm;obtain rfl:g=f5:=(LJ (func5.symm.trans c)).symm;exact⟨by kernel_rfl,fun j t a=>by
     rw[params5]at a;have e:t∈[9,3,22,9]:=by simpa using Array.mem_of_getElem? a
     have b:([9,3,22,9].all fun u=>!prog.wantsStandIn u)=true:=by kernel_rfl
     exact(show prog.wantsStandIn t=false by simpa using List.all_eq_true.1 b t e)⟩)
  (by kernel_rfl)
end Go.Proofs.YtihboehpeehlmaaGreatDoor.issuerLast
namespace Go.Proofs.YtihboehpeehlmaaGreatDoor
theorem issuerLast_holds:Rows.IssuerLastCardSaid:=issuerLast.card
#print axioms issuerLast_holds
end Go.Proofs.YtihboehpeehlmaaGreatDoor
