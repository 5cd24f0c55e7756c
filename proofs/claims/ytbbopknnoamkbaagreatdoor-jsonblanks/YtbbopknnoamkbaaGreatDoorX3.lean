import Derived.Test.YtbbopknnoamkbaaGreatDoorX2
import Derived.Shelf.Strconv.AppendIntPublic10
set_option maxHeartbeats 12800000
set_option maxRecDepth 100000
namespace Go.Proofs.YtbbopknnoamkbaaGreatDoor
open Go.RowKit
set_option linter.unusedVariables false
def boolS(b:Bool):ByteArray:=if b then⟨#[116,114,117,101]⟩else⟨#[102,97,108,115,101]⟩
theorem appBoolI(b:Bool)(B:Nat)(v:Value)(l:List UInt8)(w:World)(hown:w.ownsRow B 5 1 v l.length (l.map byteV))(hB:B≤w.heap.size)(hl:l.length≤4000000000):Calls Tryz.prog 138 #[v,.bool b] w fun r w'=>∃g cap,r=.returned (.slice (some ⟨g,0,none⟩) (l.length+(boolS b).size) cap)∧w'.ownsRow B 5 1 (.slice (some ⟨g,0,none⟩) (l.length+(boolS b).size) cap) (l.length+(boolS b).size) (l.map byteV++(boolS b).data.toList.map byteV)∧w.grownBy w' v.ownBlock∧(v.ownBlock=some g∨g=w.heap.size):=by
 obtain⟨i0,hi0,hz0,hz1,hz2⟩:=info_parts u8infoJ;have HI:Hid _:=hi0;have H:Hid _:=hown;obtain⟨ad,cap,rfl⟩:∃ad cap,v=.slice ad l.length cap:=by
  rcases hown.2 with⟨a,b⟩|⟨g,c,cu,a,_⟩
  ·exact⟨none,0,by rw[a,b]⟩
  ·exact⟨_,_,a⟩
 clear hi0 hown;cases b with
 | true=>
   go_enter Tryz.func138,Tryz.ntmps138;go_wp2_with (refine wp_appG rfl (.tmp 6) (.const (.string ⟨#[116,114,117,101]⟩)) 78 9 rfl 5 i0 Tryz.underlying78 Tryz.underlying9 HI.out hz0 hz1 hz2 B _ l ⟨#[116,114,117,101]⟩ rfl rfl (by decide) (by show l.length+4≤_;omega) H.out hB ?_;intro g9 cap9 w9 ho8 hg8 hgg8;have P8:Hid _:=And.intro ho8 (And.intro hg8 hgg8);clear ho8 hg8 hgg8)
   go_wp2;go_ret;exact⟨_,_,rfl,P8.out.1,P8.out.2.1,P8.out.2.2⟩
 | false=>
   go_enter Tryz.func138,Tryz.ntmps138;go_wp2_with (refine wp_appG rfl (.tmp 8) (.const (.string ⟨#[102,97,108,115,101]⟩)) 78 9 rfl 5 i0 Tryz.underlying78 Tryz.underlying9 HI.out hz0 hz1 hz2 B _ l ⟨#[102,97,108,115,101]⟩ rfl rfl (by decide) (by show l.length+5≤_;omega) H.out hB ?_;intro g9 cap9 w9 ho8 hg8 hgg8;have P8:Hid _:=And.intro ho8 (And.intro hg8 hgg8);clear ho8 hg8 hgg8)
   go_wp2;go_ret;exact⟨_,_,rfl,P8.out.1,P8.out.2.1,P8.out.2.2⟩
open Go.Shelf
theorem decN_eq(n:Nat):decN n=Lib.decDigits n:=by
 induction n using Nat.strongRecOn with
 | ind n ih=>
   rw[decN,Lib.decDigits];split
   ·rfl
   ·rw[ih (n/10) (by omega)]
theorem decI_eq(n:Int):decI n=Lib.itoa n:=by
 unfold decI Lib.itoa;split
 ·rw[decN_eq];congr 2;omega
 ·rw[decN_eq]
def AQ(e:TypeId)(B:Nat)(v:Value)(l ds:List UInt8)(w:World)(r:Ending)(w':World):Prop:=
 ∃g cap,r=.returned (.slice (some ⟨g,0,none⟩) (l.length+ds.length) cap)∧w'.ownsRow B e 1 (.slice (some ⟨g,0,none⟩) (l.length+ds.length) cap) (l.length+ds.length) (l.map byteV++ds.map byteV)∧w.grownBy w' v.ownBlock∧(v.ownBlock=some g∨w.heap.size≤g)
theorem grownBy_none{w w' w'':World}{b:Option Nat}(h1:w.grownBy w' none)(h2:w'.grownBy w'' b):w.grownBy w'' b:=
 ⟨h2.os.trans h1.os,h2.tape.trans h1.tape,h2.output.trans h1.output,Nat.le_trans h1.size h2.size,fun k hk hn=>(h2.block k (Nat.lt_of_lt_of_le hk h1.size) hn).trans (h1.block k hk (by simp))⟩
theorem grownBy_grow(w:World)(k:Nat)(os:Array Obj):w.grownBy (Sort.grow (w.drewN k) os) none:=
 ⟨rfl,rfl,rfl,Lib.size_grow w k os,fun j hj _=>by
   show(w.heap++os)[j]?=_
   rw[Array.getElem?_append_left hj]⟩
variable {P:Program} {ρ:Ren}
theorem uintSmall(L:LaysM.n288 P ρ)(B u:Nat)(hu:u<100)(sv:Value)(l:List UInt8)(w:World)(hown:w.ownsRow B (ρ.t 5) 1 sv l.length (l.map byteV))(hBw:B≤w.heap.size)(hlim:l.length≤4000000100):Calls P (ρ.f 288) #[sv,.int .u64 u,.int .i64 10] w fun e w'=>AQ (ρ.t 5) B sv l (Lib.decDigits u) w e w':=by
 have mixed:=L.mixed;have t5:=L.t5;have a5:=L.a5;have z5:=L.z5;have v5:=L.v5;have t37:=L.t37;have u37:=run_underlying L.t37;have a37:=L.a37;have z37:=L.z37;have v37:=L.v37;have t53:=L.t53;have a53:=L.a53;have z53:=L.z53;have v53:=L.v53;have t3:=L.t3;have a3:=L.a3;have z3:=L.z3;have v3:=L.v3;have t4:=L.t4;have a4:=L.a4;have z4:=L.z4;have v4:=L.v4;have t9:=L.t9;have a9:=L.a9;have z9:=L.z9;have v9:=L.v9;have t171:=L.t171;have a171:=L.a171;have z171:=L.z171;have v171:=L.v171;have t0:=L.t0;have a0:=L.a0;have z0:=L.z0;have v0:=L.v0;have t173:=L.t173;have a173:=L.a173;have z173:=L.z173;have v173:=L.v173;have e283:∀args w,(callFunc (ρ.f 283) args).run P w=.ok (.enter (ρ.f 283) args) w:=enters_of L.f283 (by kernel_rfl) rfl;obtain⟨i0,hi,hz0,hz1,hz2⟩:=info_parts L.i5;have hlen:1≤(Lib.decDigits u).length∧(Lib.decDigits u).length≤20:=by
  rw[Lib.decDigits_length];by_cases h10:u<10
  ·rw[Lib.nDigits_small h10];omega
  ·rw[Lib.nDigits_big h10,Lib.nDigits_small (show u/10<10 by omega)];omega
 have hsz:(⟨(Lib.decDigits u).toArray⟩:ByteArray).size=(Lib.decDigits u).length:=by simp[ByteArray.size]
 have H:Hid _:=hown;obtain⟨ad,cap,rfl⟩:∃ad cap,sv=.slice ad l.length cap:=by
  rcases hown.2 with⟨a,b⟩|⟨g,c,cu,a,_⟩
  ·exact⟨none,0,by rw[a,b]⟩
  ·exact⟨_,_,a⟩
 clear hown;go_enter L.f288,Body.n288_ntmps ρ
 go_wp2_with (first
  | (go_at_fn (ρ.f 283);refine(Any.internal_strconv_small {L with} u hu _).mono ?_;rintro e w' ⟨rfl,rfl⟩)
  | (at_builtin;refine wp_appG rfl _ _ (ρ.t 37) (ρ.t 9) rfl (ρ.t 5) i0 L.t37 L.t9 hi hz0 hz1 hz2 B _ l ⟨(Lib.decDigits u).toArray⟩ rfl rfl (by rw[hsz];omega) (by rw[hsz];omega) H.out hBw ?_))
 intro g9 cap9 w9 ho8 hg8 hgg8;try rw[hsz]at ho8
 have P8:Hid (AQ (ρ.t 5) B (.slice ad l.length cap) l (Lib.decDigits u) _ (.returned (.slice (some ⟨g9,0,none⟩) (l.length+(Lib.decDigits u).length) cap9)) w9):=⟨g9,cap9,rfl,ho8,hg8,hgg8.imp id (fun e=>Nat.le_of_eq e.symm)⟩;clear ho8 hg8 hgg8;go_wp2;go_ret;have:=P8.out;first|exact this|(rw[hsz];exact this)
theorem uintBig(L:LaysM.n288 P ρ)(B u:Nat)(hu:100≤u)(hu64:u<18446744073709551616)(sv:Value)(l:List UInt8)(w:World)(hown:w.ownsRow B (ρ.t 5) 1 sv l.length (l.map byteV))(hBw:B≤w.heap.size)(hlim:l.length≤4000000100)(htab:Lib.TabIs P w "internal/strconv.uint64pow10" .u64 Lib.pow10Tab):Calls P (ρ.f 288) #[sv,.int .u64 u,.int .i64 10] w fun e w'=>AQ (ρ.t 5) B sv l (Lib.decDigits u) w e w':=by
 have mixed:=L.mixed;have t5:=L.t5;have a5:=L.a5;have z5:=L.z5;have v5:=L.v5;have t37:=L.t37;have u37:=run_underlying L.t37;have a37:=L.a37;have z37:=L.z37;have v37:=L.v37;have t53:=L.t53;have a53:=L.a53;have z53:=L.z53;have v53:=L.v53;have t3:=L.t3;have a3:=L.a3;have z3:=L.z3;have v3:=L.v3;have t4:=L.t4;have a4:=L.a4;have z4:=L.z4;have v4:=L.v4;have t9:=L.t9;have a9:=L.a9;have z9:=L.z9;have v9:=L.v9;have t171:=L.t171;have a171:=L.a171;have z171:=L.z171;have v171:=L.v171;have t0:=L.t0;have a0:=L.a0;have z0:=L.z0;have v0:=L.v0;have t173:=L.t173;have a173:=L.a173;have z173:=L.z173;have v173:=L.v173;have e284:∀args w,(callFunc (ρ.f 284) args).run P w=.ok (.enter (ρ.f 284) args) w:=enters_of L.f284 (by kernel_rfl) rfl;have e285:∀args w,(callFunc (ρ.f 285) args).run P w=.ok (.enter (ρ.f 285) args) w:=enters_of L.f285 (by kernel_rfl) rfl;obtain⟨i0,hi,hz0,hz1,hz2⟩:=info_parts L.i5;have hu1:1≤u:=by omega
 have hnd20:Lib.nDigits u≤20:=by have:=Lib.numDigits_eq u hu1 hu64;split at this<;>omega
 have hnd1:0<Lib.nDigits u:=by rw[Lib.nDigits_big (by omega)];omega
 have hal:P.arrayLen (ρ.t 171)=24:=by simp[Program.arrayLen,L.t171]
 have hsl:∀W,(Instr.sliceAt (ρ.t 171) (.pointer (some ⟨w.heap.size,0,none⟩)) none (some (.int .i64 (Lib.nDigits u:Int))) none).run P W=.ok (.slice (some ⟨w.heap.size,0,none⟩) (Lib.nDigits u) 24) W:=fun W=>by
  rw[run_sliceAt_array_h W (ρ.t 171) ⟨w.heap.size,0,none⟩ (by simp[Program.arrayLen,Program.elem,L.t171]) .i64 (Lib.nDigits u:Int) (by omega) (by rw[hal];omega)];go_simp
 have hH0:=Lib.holds_zero0 w (ρ.t 171) (Lib.nDigits u) (by omega);have hfmt:=Any.internal_strconv_formatBase10 {L with} w.heap.size 0 24 u (Array.replicate (Lib.nDigits u) 0) (w.alloc (.cells Lib.zeros24 (ρ.t 171))) hH0 (by rw[Array.size_replicate];exact Lib.lt_pow_nDigits u) hu64 (by rw[Array.size_replicate];omega);rw[Array.size_replicate]at hfmt;have HH0:=Lib.hid hH0;have iu:(100:Int)≤(u:Int):=by omega
 clear hH0 hal;have H:Hid _:=hown;obtain⟨ad,cap,rfl⟩:∃ad cap,sv=.slice ad l.length cap:=by
  rcases hown.2 with⟨a,b⟩|⟨g,c,cu,a,_⟩
  ·exact⟨none,0,by rw[a,b]⟩
  ·exact⟨_,_,a⟩
 clear hown;go_enter L.f288,Body.n288_ntmps ρ
 go_wp2_with (first
  | (go_at_fn (ρ.f 284);refine(Any.internal_strconv_numDigits {L with} u hu1 hu64 _ (Lib.tabIs_alloc htab _)).mono ?_;rintro e w' ⟨rfl,rfl⟩))
 go_at_fn (ρ.f 285)
 refine hfmt.mono ?_;rintro e w' ⟨rfl,k,v',dk,rfl,hF⟩;have hcells:∀j u',((Lib.decDigits u).map byteV)[j]?=some u'→((Sort.putRow (fun(b:UInt8)=>Value.int .u8 (b.toNat:Int)) (w.alloc (.cells Lib.zeros24 (ρ.t 171))) w.heap.size 0 dk).drewN k).cell? ((⟨w.heap.size,0,none⟩:Addr).add j)=some u':=by
  intro j u' hj;have hjl:j<(Lib.decDigits u).length:=by
   have h5:=(List.getElem?_eq_some_iff.1 hj).1;rwa [List.length_map]at h5
  have e5:((Lib.decDigits u).map byteV)[j]?=some (Value.int .u8 ((Lib.decDigits u)[j].toNat:Int)):=by simp[byteV,hjl]
  rw[e5]at hj;cases hj;rw[Lib.row_is_numeral hF j hjl,Lib.add_plain,World.cell?_drewN];exact Sort.cell?_putRow (fun(b:UInt8)=>Value.int .u8 (b.toNat:Int)) _ w.heap.size 0 _ dk HH0.out (by rw[hF.size,Array.size_replicate]) j (by rw[hF.size];rw[Lib.decDigits_length]at hjl;exact hjl)
 obtain⟨os,eo⟩:=Lib.fin_at w (.cells Lib.zeros24 (ρ.t 171)) dk k 0;have hown2:((Sort.putRow (fun(b:UInt8)=>Value.int .u8 (b.toNat:Int)) (w.alloc (.cells Lib.zeros24 (ρ.t 171))) w.heap.size 0 dk).drewN k).ownsRow B (ρ.t 5) 1 (.slice ad l.length cap) l.length (l.map byteV):=by rw[eo];exact Lib.ownsRow_grow H.out k os
 have hg2:w.grownBy ((Sort.putRow (fun(b:UInt8)=>Value.int .u8 (b.toNat:Int)) (w.alloc (.cells Lib.zeros24 (ρ.t 171))) w.heap.size 0 dk).drewN k) none:=by rw[eo];exact grownBy_grow w k os
 generalize (Sort.putRow (fun(b:UInt8)=>Value.int .u8 (b.toNat:Int)) (w.alloc (.cells Lib.zeros24 (ρ.t 171))) w.heap.size 0 dk).drewN k=W2 at hcells hown2 hg2 ⊢;clear eo HH0 hfmt;have hsz2:=hg2.size;go_wp2_with (at_builtin;refine wpList_append_lies _ rfl _ _ (ρ.t 37) rfl B (ρ.t 5) i0 (.int .u8 0) 1 1 L.t37 hi hz0 hz1 hz2 rfl (by decide) _ _ _ rfl hown2 ⟨w.heap.size,0,none⟩ (Lib.nDigits u) 24 ((Lib.decDigits u).map byteV) rfl ?c0 hcells ?c2 ?c1 ?c3 ?c4 ?c5 W2.heap.size rfl ?_)
 case c0=>rw[List.length_map,Lib.decDigits_length,Nat.mul_one]
 case c2=>intro u' hu';simp only[List.mem_map]at hu';obtain⟨b,_,rfl⟩:=hu';rfl
 case c1=>exact hnd1
 case c3=>unfold maxLen;omega
 case c4=>omega
 case c5=>omega
 intro g9 cap9 w9 ho9 hg9 hgg9 _;have P8:Hid (AQ (ρ.t 5) B (.slice ad l.length cap) l (Lib.decDigits u) w (.returned (.slice (some ⟨g9,0,none⟩) (l.length+Lib.nDigits u) cap9)) w9):=by
  refine⟨g9,cap9,by rw[Lib.decDigits_length],by rw[Lib.decDigits_length];exact ho9,grownBy_none hg2 hg9,hgg9.imp id (fun e=>by omega)⟩
 clear ho9 hg9 hgg9 hown2 hcells;go_wp2;go_ret;exact P8.out
theorem uintAny(L:LaysM.n288 P ρ)(B u:Nat)(hu64:u<18446744073709551616)(sv:Value)(l:List UInt8)(w:World)(hown:w.ownsRow B (ρ.t 5) 1 sv l.length (l.map byteV))(hBw:B≤w.heap.size)(hlim:l.length≤4000000100)(htab:Lib.TabIs P w "internal/strconv.uint64pow10" .u64 Lib.pow10Tab):Calls P (ρ.f 288) #[sv,.int .u64 u,.int .i64 10] w fun e w'=>AQ (ρ.t 5) B sv l (Lib.decDigits u) w e w':=by
 by_cases h:u<100
 ·exact uintSmall L B u h sv l w hown hBw hlim
 ·exact uintBig L B u (by omega) hu64 sv l w hown hBw hlim htab
section
variable {P:Program} {ρ:Ren}
theorem AQ.front{e:TypeId}{B g1 cap1:Nat}{sv:Value}{l ds:List UInt8}{b:UInt8}{w w1 w2:World}{r:Ending}(o:Obj)(hg1:(w.alloc o).grownBy w1 sv.ownBlock)(hgg:sv.ownBlock=some g1∨g1=w.heap.size+1)(h:AQ e B (.slice (some ⟨g1,0,none⟩) (l++[b]).length cap1) (l++[b]) ds w1 r w2):AQ e B sv l (b::ds) w r w2:=by
 obtain⟨g,cap,e1,e2,e3,e4⟩:=h;have hl:(l++[b]).length+ds.length=l.length+(b::ds).length:=by simp;omega
 have hm:(l++[b]).map byteV++ds.map byteV=l.map byteV++(b::ds).map byteV:=by simp
 rw[hl]at e1 e2;rw[hm]at e2;have hs1:=hg1.size;have hs3:=e3.size;simp only[World.alloc]at hs1;simp only[Array.size_push]at hs1;refine⟨g,cap,e1,e2,?_,?_⟩
 ·refine⟨e3.os.trans hg1.os,e3.tape.trans hg1.tape,e3.output.trans hg1.output,by omega,fun k hk hn=>?_⟩
  have h1:=hg1.block k (by simp;omega) hn;rw[heap_alloc_old _ _ hk]at h1;refine(e3.block k (by omega) (fun ek=>?_)).trans h1;simp only[Value.ownBlock,Option.some.injEq]at ek;subst ek;rcases hgg with h|h
  ·exact hn h.symm
  ·omega
 ·simp only[Value.ownBlock,Option.some.injEq]at e4
  rcases e4 with rfl|e4
  ·rcases hgg with h|h
   ·exact .inl h
   ·exact .inr (by omega)
  ·exact .inr (by omega)
theorem intAny(L:LaysM.n249 P ρ)(B:Nat)(i:Int)(h0: -9223372036854775808≤i)(h1:i≤9223372036854775807)(sv:Value)(l:List UInt8)(w:World)(hown:w.ownsRow B (ρ.t 5) 1 sv l.length (l.map byteV))(hBw:B≤w.heap.size)(hlim:l.length≤4000000000)(htab:Lib.TabBelow P B w "internal/strconv.uint64pow10" .u64 Lib.pow10Tab):Calls P (ρ.f 249) #[sv,.int .i64 i,.int .i64 10] w fun e w'=>AQ (ρ.t 5) B sv l (Lib.itoa i) w e w':=by
 have mixed:=L.mixed;have t5:=L.t5;have a5:=L.a5;have z5:=L.z5;have v5:=L.v5;have t37:=L.t37;have u37:=run_underlying L.t37;have a37:=L.a37;have z37:=L.z37;have v37:=L.v37;have t2:=L.t2;have a2:=L.a2;have z2:=L.z2;have v2:=L.v2;have t3:=L.t3;have a3:=L.a3;have z3:=L.z3;have v3:=L.v3;have t53:=L.t53;have a53:=L.a53;have z53:=L.z53;have v53:=L.v53;have t4:=L.t4;have a4:=L.a4;have z4:=L.z4;have v4:=L.v4;have e288:∀args w,(callFunc (ρ.f 288) args).run P w=.ok (.enter (ρ.f 288) args) w:=enters_of L.f288 (by kernel_rfl) rfl;obtain⟨i0,hi,hz0,hz1,hz2⟩:=info_parts L.i5;have H:Hid (w.ownsRow B (ρ.t 5) 1 sv l.length (l.map byteV)):=hown;have HO:Hid (∀o,(w.alloc o).ownsRow B (ρ.t 5) 1 sv l.length (l.map byteV)):=fun o=>hown.alloc o
 have HLT:Hid (∀k,sv.ownBlock=some k→B≤k):=fun k hk=>(ownBlock_lt hown hk).1
 obtain⟨ad,cap,rfl⟩:∃ad cap,sv=.slice ad l.length cap:=by
  rcases hown.2 with⟨a,b⟩|⟨g,c,cu,a,_⟩
  ·exact⟨none,0,by rw[a,b]⟩
  ·exact⟨_,_,a⟩
 clear hown;by_cases hneg:i<0
 ·obtain⟨u,rfl⟩:∃u:Nat,i= -(u:Int):=⟨i.natAbs,by omega⟩
  have hu1:1≤u:=by omega
  have hu64:u<18446744073709551616:=by omega
  have hwr:IntKind.u64.wrap (-IntKind.u64.wrap (-(u:Int)))=(u:Int):=by rw[IntKind.wrap_u64,IntKind.wrap_u64];omega
  rw[Lib.itoa_neg u hu1];go_enter L.f249,Body.n249_ntmps ρ;go_wp2_with (at_builtin;refine wpList_append_lies _ rfl _ _ (ρ.t 37) rfl B (ρ.t 5) i0 (.int .u8 0) 1 1 L.t37 hi hz0 hz1 hz2 rfl (by decide) _ l.length (l.map byteV) rfl (HO.out _) ⟨w.heap.size,0,none⟩ 1 1 [Value.int .u8 45] rfl rfl (by intro j u' hj;match j,hj with|0,hj=>simp at hj;subst hj;simp[Addr.add]) (by intro u' hu';simp at hu';subst hu';rfl) (by decide) (by unfold maxLen;omega) (by omega) (by simp;omega) (w.heap.size+1) (by simp) ?_)
  intro g1 cap1 w1 ho1 hg1 hgg1 _;have ho1':w1.ownsRow B (ρ.t 5) 1 (.slice (some ⟨g1,0,none⟩) (l++[45]).length cap1) (l++[45]).length ((l++[45]).map byteV):=by
   have e45:(l++[45]).map byteV=l.map byteV++[Value.int .u8 45]:=by simp[byteV]
   rw[e45,List.length_append];exact ho1
  have hb1:Below B w w1:=((Below.refl B w).alloc hBw _).grown hg1 (by simp;omega) HLT.out;have hc:=uintAny {L with} B u hu64 _ (l++[45]) w1 ho1' (by have:=hb1.size;omega) (by simp;omega) (htab w1 hb1);have HF:Hid (∀{r:Ending} {w2:World},AQ (ρ.t 5) B (.slice (some ⟨g1,0,none⟩) (l++[45]).length cap1) (l++[45]) (Lib.decDigits u) w1 r w2→AQ (ρ.t 5) B (.slice ad l.length cap) l (45::Lib.decDigits u) w r w2):=fun h=>AQ.front _ hg1 hgg1 h
  have hll:(l++[45]).length=l.length+1:=by simp
  rw[hll]at hc HF;clear ho1 ho1' hg1 hgg1 hb1;go_wp2_with (go_at_fn (ρ.f 288);refine hc.mono ?_;rintro e w2 hq;have HQ:=Lib.hid (HF.out hq);obtain⟨g2,cap2,rfl,_,_,_⟩:=hq)
  go_wp2;go_ret;have h9:=HQ.out;rw[List.length_append]at h9;exact h9
 ·obtain⟨u,rfl⟩:∃u:Nat,i=u:=⟨i.toNat,by omega⟩
  have hu64:u<18446744073709551616:=by omega
  rw[Lib.itoa_nonneg];have hc:=uintAny {L with} B u hu64 _ l w H.out hBw (by omega) htab.here;go_enter L.f249,Body.n249_ntmps ρ;go_wp2_with (go_at_fn (ρ.f 288);refine hc.mono ?_;rintro e w2 hq;have HQ:=Lib.hid hq;obtain⟨g2,cap2,rfl,_,_,_⟩:=hq)
  go_wp2;first|go_ret|go_ret2
  exact HQ.out
theorem intPub(L:LaysM.n176 P ρ)(B:Nat)(i:Int)(h0: -9223372036854775808≤i)(h1:i≤9223372036854775807)(sv:Value)(l:List UInt8)(w:World)(hown:w.ownsRow B (ρ.t 5) 1 sv l.length (l.map byteV))(hBw:B≤w.heap.size)(hlim:l.length≤4000000000)(htab:Lib.TabBelow P B w "internal/strconv.uint64pow10" .u64 Lib.pow10Tab):Calls P (ρ.f 176) #[sv,.int .i64 i,.int .i64 10] w fun e w'=>AQ (ρ.t 5) B sv l (Lib.itoa i) w e w':=by
 have mixed:=L.mixed;have t5:=L.t5;have a5:=L.a5;have z5:=L.z5;have v5:=L.v5;have t37:=L.t37;have u37:=run_underlying L.t37;have a37:=L.a37;have z37:=L.z37;have v37:=L.v37;have t2:=L.t2;have a2:=L.a2;have z2:=L.z2;have v2:=L.v2;have t3:=L.t3;have a3:=L.a3;have z3:=L.z3;have v3:=L.v3;have e249:∀args w,(callFunc (ρ.f 249) args).run P w=.ok (.enter (ρ.f 249) args) w:=enters_of L.f249 (by kernel_rfl) rfl;have hc:=intAny {L with} B i h0 h1 sv l w hown hBw hlim htab;clear hown;go_enter L.f176,Body.n176_ntmps ρ;go_wp2_with (go_at_fn (ρ.f 249);refine hc.mono ?_;rintro e w2 hq;have HQ:=Lib.hid hq;obtain⟨g2,cap2,rfl,_,_,_⟩:=hq)
 go_wp2;go_ret;exact HQ.out
end
theorem appInt(B:Nat)(i:Int)(h0: -9223372036854775808≤i)(h1:i≤9223372036854775807)(sv:Value)(l:List UInt8)(w:World)(hown:w.ownsRow B 5 1 sv l.length (l.map byteV))(hBw:B≤w.heap.size)(hlim:l.length≤4000000000)(htab:Lib.TabBelow Tryz.prog B w "internal/strconv.uint64pow10" .u64 Lib.pow10Tab):Calls Tryz.prog 110 #[sv,.int .i64 i,.int .i64 10] w fun e w'=>AQ 5 B sv l (decI i) w e w':=by
 rw[decI_eq];exact intPub Tryz.laysM176 B i h0 h1 sv l w hown hBw hlim htab
theorem appBool(b:Bool)(B:Nat)(v:Value)(l:List UInt8)(w:World)(hown:w.ownsRow B 5 1 v l.length (l.map byteV))(hB:B≤w.heap.size)(hl:l.length≤4000000000):Calls Tryz.prog 109 #[v,.bool b] w fun r w'=>AQ 5 B v l (boolS b).data.toList w r w':=by
 have hc:Calls Tryz.prog 138 #[v,.bool b] w fun r w'=>AQ 5 B v l (boolS b).data.toList w r w':=by
  refine(appBoolI b B v l w hown hB hl).mono ?_;rintro r w' ⟨g,cap,e1,e2,e3,e4⟩;exact⟨g,cap,e1,e2,e3,e4.imp id (fun e=>Nat.le_of_eq e.symm)⟩
 clear hown;go_enter Tryz.func109,Tryz.ntmps109;go_wp2_with (go_at_call 138;refine hc.mono ?_;rintro e w2 hq;have HQ:=Lib.hid hq;obtain⟨g2,cap2,rfl,_,_,_⟩:=hq)
 go_wp2;go_ret;exact HQ.out
theorem AQ.put{bp:Nat}{vN vO:Value}{l ds:List UInt8}{w w8:World}{r:Ending}(h:WZ bp vN vO l w)(hq:AQ 5 (bp+1) vO l ds w r w8):∃g9 n9 c9,r=.returned (.slice (some ⟨g9,0,none⟩) n9 c9)∧w8.cell? ⟨bp,1,none⟩=some vO∧w8.frozen? ⟨bp,1,none⟩=false∧WZ bp vN (.slice (some ⟨g9,0,none⟩) n9 c9) (l++ds) (w8.setCell ⟨bp,1,none⟩ (.slice (some ⟨g9,0,none⟩) n9 c9))∧Chg bp (own vO []) w (own (.slice (some ⟨g9,0,none⟩) n9 c9) []) (w8.setCell ⟨bp,1,none⟩ (.slice (some ⟨g9,0,none⟩) n9 c9)):=by
 obtain⟨g,cap,rfl,ho,hg,hgg⟩:=hq;have hne:some bp≠vO.ownBlock:=fun e=>by have:=(ownBlock_lt h.row e.symm).1;omega
 have hd8:WD bp vN vO w8:=(hg.block bp h.wd.lt hne).trans h.wd;have P:=h.putG ho hg hgg;exact⟨_,_,_,rfl,hd8.cell.2.1,hd8.cell.2.2 1,P.1,P.2⟩
section
variable (bp:Nat) (vN vO:Value) (l:List UInt8) (w:World)
theorem WZ.drew{bp:Nat}{vN vO:Value}{l:List UInt8}{w:World}(h:WZ bp vN vO l w):WZ bp vN vO l w.drew:=⟨h.wd,h.row⟩
theorem chg_drew{bp:Nat}{O O':Nat→Prop}{w w1:World}(h:Chg bp O w.drew O' w1):Chg bp O w O' w1:=⟨h.os,h.tape,h.output,h.size,h.block,h.own⟩
theorem wnode_truth(L:List Nd)(k:Nat)(n:Nd)(hn:L[k]?=some n)(hkl:k≤1000000000)(hN:NR bp (own vO []) vN L w)(h:WZ bp vN vO l w)(hl:l.length≤4000000000)(hkd:n.kind=1):Calls Tryz.prog 70 #[.pointer (some ⟨bp,0,none⟩),.int .i64 (k:Int)] w fun r w'=>WQ bp vN (own vO []) w (l++(if n.num=1 then [116,114,117,101]else [102,97,108,115,101])) r w':=by
 have hkL:k<L.length:=(List.getElem?_eq_some_iff.1 hn).1;obtain⟨g,cap,kv,rfl,g1,g2,g3,hK,b0,b1,b2,b3,b4,b5⟩:=hN.at' k n hn;obtain⟨adk,capk,rfl⟩:=hK.shape;rw[hkd]at b0;obtain⟨ad,capo,rfl⟩:=h.shape;obtain⟨c0,c1,cf⟩:=h.wd.cell;have hlt:=h.wd.lt;have hk1:(k:Int)<(L.length:Int):=by omega
 have hbs:(boolS (decide (n.num=1))).data.toList=(if n.num=1 then [116,114,117,101]else [102,97,108,115,101]):=by
  by_cases hq:n.num=1<;>simp[hq,boolS]
 generalize (if n.num=1 then [116,114,117,101]else [102,97,108,115,101]:List UInt8)=T at *;have HA:Hid (∀o,Calls Tryz.prog 109 #[.slice ad l.length capo,.bool (decide (n.num=1))] (w.alloc o).drew fun r w8=>∃g9 n9 c9,r=.returned (.slice (some ⟨g9,0,none⟩) n9 c9)∧w8.cell? ⟨bp,1,none⟩=some (.slice ad l.length capo)∧w8.frozen? ⟨bp,1,none⟩=false∧WQ bp (.slice (some ⟨g,0,none⟩) L.length cap) (own (.slice ad l.length capo) []) w (l++T) (.returned (.tuple #[])) (w8.setCell ⟨bp,1,none⟩ (.slice (some ⟨g9,0,none⟩) n9 c9))):=fun o=>by
  refine(appBool _ (bp+1) _ l (w.alloc o).drew (h.alloc o).drew.row (by simp;omega) hl).mono ?_;intro r w8 hq;obtain⟨g9,n9,c9,e1,e2,e3,e4,e5⟩:=AQ.put (h.alloc o).drew hq;rw[hbs]at e4;exact⟨g9,n9,c9,e1,e2,e3,rfl,_,e4,(chgW_alloc _ _ _ o).trans (chg_drew e5)⟩
 clear h cf hN hn hkd hK;go_enter Tryz.func70,Tryz.ntmps70;go_wp2_with fail
 go_region_with (go_at_call 109;refine(HA.out _).mono ?_;rintro e w8 ⟨g9,n9,c9,rfl,s1,t1,hq⟩;have HQ:=Lib.hid hq;clear hq)
 all_goals
  go_wp2;go_end0
  exact HQ.out
theorem wnode_int(L:List Nd)(k:Nat)(n:Nd)(hn:L[k]?=some n)(hkl:k≤1000000000)(hN:NR bp (own vO []) vN L w)(h:WZ bp vN vO l w)(hl:l.length≤4000000000)(hkd:n.kind=2)(h0: -9223372036854775808≤n.num)(h1:n.num≤9223372036854775807)(htab:Lib.TabBelow Tryz.prog bp w "internal/strconv.uint64pow10" .u64 Lib.pow10Tab):Calls Tryz.prog 70 #[.pointer (some ⟨bp,0,none⟩),.int .i64 (k:Int)] w fun r w'=>WQ bp vN (own vO []) w (l++decI n.num) r w':=by
 have hkL:k<L.length:=(List.getElem?_eq_some_iff.1 hn).1;obtain⟨g,cap,kv,rfl,g1,g2,g3,hK,b0,b1,b2,b3,b4,b5⟩:=hN.at' k n hn;obtain⟨adk,capk,rfl⟩:=hK.shape;rw[hkd]at b0;obtain⟨ad,capo,rfl⟩:=h.shape;obtain⟨c0,c1,cf⟩:=h.wd.cell;have hlt:=h.wd.lt;have hk1:(k:Int)<(L.length:Int):=by omega
 have HA:Hid (∀o,Calls Tryz.prog 110 #[.slice ad l.length capo,.int .i64 n.num,.int .i64 10] (w.alloc o).drew fun r w8=>∃g9 n9 c9,r=.returned (.slice (some ⟨g9,0,none⟩) n9 c9)∧w8.cell? ⟨bp,1,none⟩=some (.slice ad l.length capo)∧w8.frozen? ⟨bp,1,none⟩=false∧WQ bp (.slice (some ⟨g,0,none⟩) L.length cap) (own (.slice ad l.length capo) []) w (l++decI n.num) (.returned (.tuple #[])) (w8.setCell ⟨bp,1,none⟩ (.slice (some ⟨g9,0,none⟩) n9 c9))):=fun o=>by
  refine(appInt (bp+1) n.num h0 h1 _ l (w.alloc o).drew (h.alloc o).drew.row (by simp;omega) hl ?_).mono ?_
  ·intro w' hb
   refine htab w' ⟨hb.os,hb.tape,hb.output,by have:=hb.size;simp at this;omega,fun j hj=>?_⟩;have:=hb.block j (by omega);rw[heap_drew,heap_alloc_old _ _ (by omega)]at this;exact this
  intro r w8 hq;obtain⟨g9,n9,c9,e1,e2,e3,e4,e5⟩:=AQ.put (h.alloc o).drew hq;exact⟨g9,n9,c9,e1,e2,e3,rfl,_,e4,(chgW_alloc _ _ _ o).trans (chg_drew e5)⟩
 clear h cf hN hn hkd hK htab;go_enter Tryz.func70,Tryz.ntmps70;go_wp2_with fail
 go_region_with (go_at_call 110;refine(HA.out _).mono ?_;rintro e w8 ⟨g9,n9,c9,rfl,s1,t1,hq⟩;have HQ:=Lib.hid hq;clear hq)
 all_goals
  go_wp2;go_end0
  exact HQ.out
end
end Go.Proofs.YtbbopknnoamkbaaGreatDoor
