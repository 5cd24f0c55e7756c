import Derived.Test.YtaghclgookfmnaaGreatDoorCObject
namespace Go.Proofs.YtaghclgookfmnaaGreatDoor
open Go.RowKit
set_option linter.unusedVariables false
theorem apiinfo:(Tryz.prog.info? 58).map (fun i=>(i.zero,i.size,i.bytes))=some (some (.agg #[.int .i64 0,.string ⟨#[]⟩,.string ⟨#[]⟩,.int .i64 0,.slice none 0 0,.int .i64 0]),6,80):=by kernel_rfl
section
variable (bp:Nat) (s:ByteArray) (i:Nat) (ns:List Nd) (key:List UInt8) (dp:Nat) (vL:Value) (kvs:List Value) (w:World)
set_option maxRecDepth 4000 in
set_option maxHeartbeats 2000000 in
theorem cvalue(d:Nat)(hv:dp<32→∃d',d=d'+1∧CVal d' (dp+1))(hd:dp=32→d=0)(hdp:dp≤32)(hs:s.size≤65536)(hbp:8≤bp)(h:CN bp s i ns dp vL kvs w)(hG:GV w)(hi:i≤s.size)(hl:ns.length≤i)(hw:WFk ns):Calls Tryz.prog 43 #[.pointer (some ⟨bp,0,none⟩),.string ⟨key.toArray⟩] w fun r w'=>VQ bp s i ns key dp (own vL kvs) w (.int .i64 (ns.length:Int)) r w' (valL d (sfx s i) i):=by
 obtain⟨i0,hi0,hz0,hz1,hz2⟩:=info_parts apiinfo;have HI:Hid _:=hi0;obtain⟨ad,cap,rfl⟩:=h.nk.shape;have hlt:=h.cd.lt;obtain⟨c0,c1,c2,c3,cf⟩:=h.cd.cell;have f2:=cf 2;have H0:Hid (CN bp s i ns dp (.slice ad ns.length cap) kvs w):=h;clear hi0;go_enter Tryz.func43,Tryz.ntmps43;go_upto_region 3 with fail
 go_cut [] (fun wx=>∃g6 cap6 kv6,CN bp s i (ns++[blank key i]) dp (.slice (some ⟨g6,0,none⟩) (ns.length+1) cap6) kv6 wx∧Chg bp (own (.slice ad ns.length cap) kvs) w (own (.slice (some ⟨g6,0,none⟩) (ns.length+1) cap6) kv6) wx)
 case first=>
  have HK2:Hid (w.ownsRow (bp+1) 58 6 (.slice ad ns.length cap) ns.length (rowN ns kvs)):=h.nk.2.1;have hfz1:∀o:Obj,(w.alloc o).frozen? ⟨bp,2,none⟩=false:=fun o=>(h.cd.alloc o).cell.2.2.2.2 2
  have hfz2:∀o:Obj,(w.alloc o).drew.frozen? ⟨bp,2,none⟩=false:=fun o=>(h.cd.alloc o).cell.2.2.2.2 2
  have HOw:Hid (∀o,((w.alloc o).drew).ownsRow (bp+1) 58 6 (.slice ad ns.length cap) ns.length (rowN ns kvs)):=fun o=>HK2.out.alloc o
  have HBs:Hid (∀o,bp+1≤((w.alloc o).drew).heap.size):=fun o=>by show _≤(w.alloc o).heap.size;simp;omega
  have HSs:Hid (∀o,((w.alloc o).drew).heap.size=w.heap.size+1):=fun o=>by show(w.alloc o).heap.size=_;simp
  have HOne:Hid (∀j u,(ndCells (blank key i) (.slice none 0 0))[j]?=some u→((w.alloc (.cells #[.int .i64 0,.string ⟨key.toArray⟩,.string ⟨#[]⟩,.int .i64 0,.slice none 0 0,.int .i64 (i:Int)] 58)).drew).cell? ((⟨w.heap.size,0,none⟩:Addr).add j)=some u):=by
   intro j u hu;have hadd:(⟨w.heap.size,0,none⟩:Addr).add j=⟨w.heap.size,j,none⟩:=by unfold Addr.add;split<;>simp_all
   rw[hadd];show(w.alloc _).cell? _=_
   rw[cell_of_row _ _ j _ _ _ (heap_alloc_new w _)];simpa [ndCells,blank]using hu
  have HL:Hid (ns.length+1≤maxLen):=by show ns.length+1≤maxLen;unfold maxLen;omega
  have HL2:Hid ((ns.length+1)*80≤140737488355328):=by show(ns.length+1)*80≤140737488355328;omega
  have HNE:Hid (some bp≠(Value.slice ad ns.length cap).ownBlock):=by
   intro e;have:=(ownBlock_lt HK2.out e.symm).1;omega
  have hal1:∀o:Obj,(w.alloc o).cell? ⟨bp,1,none⟩=some (.int .i64 (i:Int)):=fun o=>(World.cell?_alloc_lt _ _ _ hlt).trans c1
  have hal2:∀o:Obj,(w.alloc o).cell? ⟨bp,2,none⟩=some (.slice ad ns.length cap):=fun o=>(World.cell?_alloc_lt _ _ _ hlt).trans c2
  clear h;go_region_law ((refine step_append_lies _ rfl (.tmp 15) (.tmp 23) 34 rfl (bp+1) 58 i0 _ 6 80 Tryz.underlying34 HI.out hz0 hz1 hz2 rfl (by decide) _ ns.length (rowN ns kvs) rfl (by exact HOw.out _) ⟨w.heap.size,0,none⟩ 1 1 (ndCells (blank key i) (.slice none 0 0)) rfl rfl (by exact HOne.out) (by intro u hu;simp[ndCells]at hu;rcases hu with rfl|rfl|rfl|rfl|rfl|rfl<;>rfl) (by decide) HL.out HL2.out (by exact HBs.out _) (w.heap.size+1) (by exact HSs.out _) ?_;intro g6 cap6 w6 ho6 hg6 hgg6 _;have kA:=keepers hg6 hlt HNE.out;have s2:=(kA.2.1 2).trans c2;have s2f:=(kA.2.2 2).trans f2;have HR6:Hid (CD bp s i (.slice ad ns.length cap) dp w6):=kA.1.trans H0.out.cd;clear kA;have W6:Hid (w6.ownsRow (bp+1) 58 6 (.slice (some ⟨g6,0,none⟩) (ns.length+1) cap6) (ns.length+1) (rowN ns kvs++ndCells (blank key i) (.slice none 0 0))):=ho6;have G6:Hid (((w.alloc (.cells #[.int .i64 0,.string ⟨key.toArray⟩,.string ⟨#[]⟩,.int .i64 0,.slice none 0 0,.int .i64 (i:Int)] 58)).drew).grownBy w6 (Value.slice ad ns.length cap).ownBlock):=hg6;have GG6:Hid ((Value.slice ad ns.length cap).ownBlock=some g6∨g6=w.heap.size+1):=hgg6;clear ho6 hg6 hgg6))
  all_goals
   have h7:=HR6.out.setL (.slice (some ⟨g6,0,none⟩) (ns.length+1) cap6);have o7:Onl bp w6 (w6.setCell ⟨bp,2,none⟩ (.slice (some ⟨g6,0,none⟩) (ns.length+1) cap6)):=Onl.setCell (onl_refl bp w6) _ HR6.out;have hkp:∀g,g<w.heap.size→some g≠(Value.slice ad ns.length cap).ownBlock→w6.heap[g]?=w.heap[g]?:=fun g hg hne=>(keepers G6.out hg hne).1
   obtain⟨k1,k2,k3,k4⟩:=H0.out.nk;have hN7:NK (bp+1) 58 (.slice (some ⟨g6,0,none⟩) (ns.length+1) cap6) (kvs++[.slice none 0 0]) (ns++[blank key i]) (w6.setCell ⟨bp,2,none⟩ (.slice (some ⟨g6,0,none⟩) (ns.length+1) cap6)):=(NK.push k1 k2 k3 k4 W6.out hkp (by decide) rfl).onl o7 (by omega);have a2:(w.alloc (.cells #[.int .i64 0,.string ⟨key.toArray⟩,.string ⟨#[]⟩,.int .i64 0,.slice none 0 0,.int .i64 (i:Int)] 58)).heap.size≤w6.heap.size:=G6.out.size;have hC7:Chg bp (own (.slice ad ns.length cap) kvs) w (own (.slice (some ⟨g6,0,none⟩) (ns.length+1) cap6) (kvs++[.slice none 0 0])) (w6.setCell ⟨bp,2,none⟩ (.slice (some ⟨g6,0,none⟩) (ns.length+1) cap6)):=by
    refine⟨o7.os.trans G6.out.os,o7.tape.trans G6.out.tape,o7.output.trans G6.out.output,by have:=o7.size;simp at a2;omega,fun k hk hb hO=>?_,fun k hk=>?_⟩
    ·rw[o7.block k (by simp at a2;omega) (fun e=>by injection e with e;exact hb e)]
     exact hkp k hk (fun e=>hO (.inl e.symm))
    ·rcases hk with hk|⟨kv,hm,hk⟩
     ·simp[Value.ownBlock]at hk
      subst hk;rcases GG6.out with e|e
      ·exact .inl (.inl e)
      ·exact .inr (by omega)
     ·rw[List.mem_append]at hm
      rcases hm with hm|hm
      ·exact .inl (.inr ⟨kv,hm,hk⟩)
      ·simp at hm;subst hm;simp[Value.ownBlock]at hk
   have HF:Hid _:=And.intro (CN.mk h7 hN7) hC7;clear h7 o7 hkp hN7 hC7 a2 k1 k2 k3 k4;go_wp2_with fail
   go_meet
   case rel=>exact⟨g6,cap6,_,HF.out⟩
 case rest=>
  have hab:=H0.out.above;clear c0 c1 c2 c3 cf f2 h H0;obtain⟨g,cap6,kv6,hN,hC⟩:=hcut;have hGc:GV wc:=hG.chg hC hbp hlt hab;have hltc:=hN.cd.lt;have HC:Hid (Chg bp (own (.slice ad ns.length cap) kvs) w (own (.slice (some ⟨g,0,none⟩) (ns.length+1) cap6) kv6) wc):=hC;have hpk:=cpeek bp s i _ dp wc hN.cd hi;clear hab hC HI hz0 hz1 hz2 hG;go_wp2_with fail
  refine hpk.mono ?_;rintro r w2 ⟨rfl,h2,o2⟩;have hN2:CN bp s i (ns++[blank key i]) dp (.slice (some ⟨g,0,none⟩) (ns.length+1) cap6) kv6 w2:=hN.onl h2 o2;have hG2:GV w2:=hGc.onl o2 hbp hltc;have HC2:Hid (Chg bp (own (.slice ad ns.length cap) kvs) w (own (.slice (some ⟨g,0,none⟩) (ns.length+1) cap6) kv6) w2):=HC.out.trans (o2.chg _);clear hpk o2 hN hGc HC;by_cases h123:(sfx s i).head?=some 123
  ·have hb:(((pk (sfx s i)).toNat:Int)==123)=true:=by rw[pk_head h123];rfl
   have hcl:=cobject bp s i ns key dp g cap6 kv6 w2 d hv hd hdp hs hbp hN2 hG2 h123 hl hw;have HV:Hid (valL d (sfx s i) i=valL d (sfx s i) i):=rfl;clear h123 hv hd;cases hQ:valL d (sfx s i) i with
   | error q=>
     obtain⟨e,a⟩:=q;rw[hQ]at hcl;have HQ:Hid (valL d (sfx s i) i=.error (e,a)):=by rw[←hQ];exact HV.out
     clear hQ;go_wp2_with fail
     refine hcl.mono ?_;rintro r w3 ⟨h0,rfl,h3⟩;have H3:Hid (0<e∧Chg bp (own (.slice ad ns.length cap) kvs) w (fun _=>False) w3):=⟨h0,HC2.out.trans h3⟩;clear hcl h0 h3;go_wp2;refine⟨rfl,?_⟩;rw[HQ.out];exact⟨H3.out.1,rfl,H3.out.2⟩
   | ok q=>
     obtain⟨t,n⟩:=q;rw[hQ]at hcl;have HQ:Hid (valL d (sfx s i) i=.ok (t,n)):=by rw[←hQ];exact HV.out
     clear hQ;go_wp2_with fail
     refine hcl.mono ?_;rintro r w3 ⟨rfl,v3,k3,hN3,hC3⟩;have H3:Hid (CN bp s (i+n) (ns++flat ns.length key t) dp v3 k3 w3∧Chg bp (own (.slice ad ns.length cap) kvs) w (own v3 k3) w3):=⟨hN3,HC2.out.trans hC3⟩;clear hcl hN3 hC3;go_wp2;go_ret;rw[HQ.out];exact⟨rfl,v3,k3,H3.out.1,H3.out.2⟩
  ·have hb:(((pk (sfx s i)).toNat:Int)==123)=false:=by
    rw[beq_eq_false_iff_ne];intro e;exact pk_ne (by decide) h123 (UInt8.toNat_inj.1 (by simpa using by omega))
   by_cases h91:(sfx s i).head?=some 91
   ·have hb2:(((pk (sfx s i)).toNat:Int)==91)=true:=by rw[pk_head h91];rfl
    have hcl:=carray bp s i ns key dp g cap6 kv6 w2 d hv hd hdp hs hbp hN2 hG2 h91 hl hw;have HV:Hid (valL d (sfx s i) i=valL d (sfx s i) i):=rfl;clear h123 h91 hv hd;cases hQ:valL d (sfx s i) i with
    | error q=>
      obtain⟨e,a⟩:=q;rw[hQ]at hcl;have HQ:Hid (valL d (sfx s i) i=.error (e,a)):=by rw[←hQ];exact HV.out
      clear hQ;go_wp2_with fail
      refine hcl.mono ?_;rintro r w3 ⟨h0,rfl,h3⟩;have H3:Hid (0<e∧Chg bp (own (.slice ad ns.length cap) kvs) w (fun _=>False) w3):=⟨h0,HC2.out.trans h3⟩;clear hcl h0 h3;go_wp2;refine⟨rfl,?_⟩;rw[HQ.out];exact⟨H3.out.1,rfl,H3.out.2⟩
    | ok q=>
      obtain⟨t,n⟩:=q;rw[hQ]at hcl;have HQ:Hid (valL d (sfx s i) i=.ok (t,n)):=by rw[←hQ];exact HV.out
      clear hQ;go_wp2_with fail
      refine hcl.mono ?_;rintro r w3 ⟨rfl,v3,k3,hN3,hC3⟩;have H3:Hid (CN bp s (i+n) (ns++flat ns.length key t) dp v3 k3 w3∧Chg bp (own (.slice ad ns.length cap) kvs) w (own v3 k3) w3):=⟨hN3,HC2.out.trans hC3⟩;clear hcl hN3 hC3;go_wp2;go_ret;rw[HQ.out];exact⟨rfl,v3,k3,H3.out.1,H3.out.2⟩
   ·have hb2:(((pk (sfx s i)).toNat:Int)==91)=false:=by
     rw[beq_eq_false_iff_ne];intro e;exact pk_ne (by decide) h91 (UInt8.toNat_inj.1 (by simpa using by omega))
    have hcl:=cplain bp s i ns key dp g cap6 kv6 w2 hs hbp hN2 hG2 hi;have HV:Hid (valL d (sfx s i) i=plainL (sfx s i) i):=valL_plain d _ _ h91 h123;obtain⟨c0,c1,c2,c3,cf⟩:=hN2.cd.cell;have hnl:(ns.length:Int)<(ns.length:Int)+1:=by omega
    clear h123 h91 hv hd;cases hQ:plainL (sfx s i) i with
    | error q=>
      obtain⟨e,a⟩:=q;rw[hQ]at hcl;have HQ:Hid (valL d (sfx s i) i=.error (e,a)):=by rw[←hQ];exact HV.out
      clear hQ;go_wp2_with fail
      refine hcl.mono ?_;rintro r w3 ⟨h0,rfl,h3⟩;have H3:Hid (0<e∧Chg bp (own (.slice ad ns.length cap) kvs) w (fun _=>False) w3):=⟨h0,HC2.out.trans h3⟩;clear hcl h0 h3;go_wp2;refine⟨rfl,?_⟩;rw[HQ.out];exact⟨H3.out.1,rfl,H3.out.2⟩
    | ok q=>
      obtain⟨t,n⟩:=q;rw[hQ]at hcl;have HQ:Hid (valL d (sfx s i) i=.ok (t,n)):=by rw[←hQ];exact HV.out
      clear hQ;go_wp2_with fail
      refine hcl.mono ?_;rintro r w3 ⟨rfl,v3,k3,hN3,hC3⟩;have H3:Hid (CN bp s (i+n) (ns++flat ns.length key t) dp v3 k3 w3∧Chg bp (own (.slice ad ns.length cap) kvs) w (own v3 k3) w3):=⟨hN3,HC2.out.trans hC3⟩;clear hcl hN3 hC3;go_wp2;go_ret;rw[HQ.out];exact⟨rfl,v3,k3,H3.out.1,H3.out.2⟩
end
theorem cval:∀(d dp:Nat),d+dp=32→CVal d dp:=by
 intro d;induction d with
 | zero=>
   intro dp hdp bp s i ns key vL kvs w hs hbp h hG hi hl hw;exact cvalue bp s i ns key dp vL kvs w 0 (fun h=>by omega) (fun _=>rfl) (by omega) hs hbp h hG hi hl hw
 | succ d ih=>
   intro dp hdp bp s i ns key vL kvs w hs hbp h hG hi hl hw;exact cvalue bp s i ns key dp vL kvs w (d+1) (fun _=>⟨d,rfl,ih (dp+1) (by omega)⟩) (fun h=>by omega) (by omega) hs hbp h hG hi hl hw
end Go.Proofs.YtaghclgookfmnaaGreatDoor
