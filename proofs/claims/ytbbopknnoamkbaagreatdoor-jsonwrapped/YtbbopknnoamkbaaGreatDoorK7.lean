import Derived.Test.YtbbopknnoamkbaaGreatDoorK6
set_option maxHeartbeats 2000000
namespace Go.Proofs.YtbbopknnoamkbaaGreatDoor
open Go.RowKit
set_option linter.unusedVariables false
theorem apiinfo:(Tryz.prog.info? 42).map (fun i=>(i.zero,i.size,i.bytes))=some (some (.agg #[.int .i64 0,.string ⟨#[]⟩,.string ⟨#[]⟩,.int .i64 0,.slice none 0 0,.int .i64 0]),6,80):=by kernel_rfl
section
variable (bp:Nat) (s:ByteArray) (i:Nat) (ns:List Nd) (key:List UInt8) (dp:Nat) (vL:Value) (kvs:List Value) (w:World)
set_option maxRecDepth 4000 in
theorem cvalue(d:Nat)(hv:dp<32→∃d',d=d'+1∧CVal d' (dp+1))(hd:dp=32→d=0)(hdp:dp≤32)(hs:s.size≤65536)(hbp:9≤bp)(h:CN bp s i ns dp vL kvs w)(hG:GV w)(hi:i≤s.size)(hl:ns.length≤i)(hw:WFk ns):Calls Tryz.prog 74 #[.pointer (some ⟨bp,0,none⟩),.string ⟨key.toArray⟩] w fun r w'=>VQ bp s i ns key dp (own vL kvs) w (.int .i64 (ns.length:Int)) r w' (valL d (sfx s i) i):=by
 obtain⟨i0,hi0,hz0,hz1,hz2⟩:=info_parts apiinfo;have HI:Hid _:=hi0;obtain⟨ad,cap,rfl⟩:=h.nk.shape;have hlt:=h.cd.lt;obtain⟨c0,c1,c2,c3,cf⟩:=h.cd.cell;have f2:=cf 2;have H0:Hid (CN bp s i ns dp (.slice ad ns.length cap) kvs w):=h;clear hi0;go_enter Tryz.func74,Tryz.ntmps74;go_upto_region 3 with fail
 go_cut [] (fun wx=>∃g6 cap6 kv6,CN bp s i (ns++[blank key i]) dp (.slice (some ⟨g6,0,none⟩) (ns.length+1) cap6) kv6 wx∧Chg bp (own (.slice ad ns.length cap) kvs) w (own (.slice (some ⟨g6,0,none⟩) (ns.length+1) cap6) kv6) wx)
 case first=>
  have HK2:Hid (w.ownsRow (bp+1) 42 6 (.slice ad ns.length cap) ns.length (rowN ns kvs)):=h.nk.2.1;have hfz1:∀o:Obj,(w.alloc o).frozen? ⟨bp,2,none⟩=false:=fun o=>(h.cd.alloc o).cell.2.2.2.2 2
  have hfz2:∀o:Obj,(w.alloc o).drew.frozen? ⟨bp,2,none⟩=false:=fun o=>(h.cd.alloc o).cell.2.2.2.2 2
  have HOw:Hid (∀o,((w.alloc o).drew).ownsRow (bp+1) 42 6 (.slice ad ns.length cap) ns.length (rowN ns kvs)):=fun o=>HK2.out.alloc o
  have HBs:Hid (∀o,bp+1≤((w.alloc o).drew).heap.size):=fun o=>by show _≤(w.alloc o).heap.size;simp;omega
  have HSs:Hid (∀o,((w.alloc o).drew).heap.size=w.heap.size+1):=fun o=>by show(w.alloc o).heap.size=_;simp
  have HOne:Hid (∀j u,(ndCells (blank key i) (.slice none 0 0))[j]?=some u→((w.alloc (.cells #[.int .i64 0,.string ⟨key.toArray⟩,.string ⟨#[]⟩,.int .i64 0,.slice none 0 0,.int .i64 (i:Int)] 42)).drew).cell? ((⟨w.heap.size,0,none⟩:Addr).add j)=some u):=by
   intro j u hu;have hadd:(⟨w.heap.size,0,none⟩:Addr).add j=⟨w.heap.size,j,none⟩:=by unfold Addr.add;split<;>simp_all
   rw[hadd];show(w.alloc _).cell? _=_
   rw[cell_of_row _ _ j _ _ _ (heap_alloc_new w _)];simpa [ndCells,blank]using hu
  have HL:Hid (ns.length+1≤maxLen):=by show ns.length+1≤maxLen;unfold maxLen;omega
  have HL2:Hid ((ns.length+1)*80≤140737488355328):=by show(ns.length+1)*80≤140737488355328;omega
  have HNE:Hid (some bp≠(Value.slice ad ns.length cap).ownBlock):=by
   intro e;have:=(ownBlock_lt HK2.out e.symm).1;omega
  have hal1:∀o:Obj,(w.alloc o).cell? ⟨bp,1,none⟩=some (.int .i64 (i:Int)):=fun o=>(World.cell?_alloc_lt _ _ _ hlt).trans c1
  have hal2:∀o:Obj,(w.alloc o).cell? ⟨bp,2,none⟩=some (.slice ad ns.length cap):=fun o=>(World.cell?_alloc_lt _ _ _ hlt).trans c2
  clear h;go_region_law ((refine step_append_lies _ rfl (.tmp 15) (.tmp 23) 29 rfl (bp+1) 42 i0 _ 6 80 Tryz.underlying29 HI.out hz0 hz1 hz2 rfl (by decide) _ ns.length (rowN ns kvs) rfl (by exact HOw.out _) ⟨w.heap.size,0,none⟩ 1 1 (ndCells (blank key i) (.slice none 0 0)) rfl rfl (by exact HOne.out) (by intro u hu;simp[ndCells]at hu;rcases hu with rfl|rfl|rfl|rfl|rfl|rfl<;>rfl) (by decide) HL.out HL2.out (by exact HBs.out _) (w.heap.size+1) (by exact HSs.out _) ?_;intro g6 cap6 w6 ho6 hg6 hgg6 _;have kA:=keepers hg6 hlt HNE.out;have s2:=(kA.2.1 2).trans c2;have s2f:=(kA.2.2 2).trans f2;have HR6:Hid (CD bp s i (.slice ad ns.length cap) dp w6):=kA.1.trans H0.out.cd;clear kA;have W6:Hid (w6.ownsRow (bp+1) 42 6 (.slice (some ⟨g6,0,none⟩) (ns.length+1) cap6) (ns.length+1) (rowN ns kvs++ndCells (blank key i) (.slice none 0 0))):=ho6;have G6:Hid (((w.alloc (.cells #[.int .i64 0,.string ⟨key.toArray⟩,.string ⟨#[]⟩,.int .i64 0,.slice none 0 0,.int .i64 (i:Int)] 42)).drew).grownBy w6 (Value.slice ad ns.length cap).ownBlock):=hg6;have GG6:Hid ((Value.slice ad ns.length cap).ownBlock=some g6∨g6=w.heap.size+1):=hgg6;clear ho6 hg6 hgg6))
  all_goals
   have h7:=HR6.out.setL (.slice (some ⟨g6,0,none⟩) (ns.length+1) cap6);have o7:Onl bp w6 (w6.setCell ⟨bp,2,none⟩ (.slice (some ⟨g6,0,none⟩) (ns.length+1) cap6)):=Onl.setCell (onl_refl bp w6) _ HR6.out;have hkp:∀g,g<w.heap.size→some g≠(Value.slice ad ns.length cap).ownBlock→w6.heap[g]?=w.heap[g]?:=fun g hg hne=>(keepers G6.out hg hne).1
   obtain⟨k1,k2,k3,k4⟩:=H0.out.nk;have hN7:NK (bp+1) 42 (.slice (some ⟨g6,0,none⟩) (ns.length+1) cap6) (kvs++[.slice none 0 0]) (ns++[blank key i]) (w6.setCell ⟨bp,2,none⟩ (.slice (some ⟨g6,0,none⟩) (ns.length+1) cap6)):=(NK.push k1 k2 k3 k4 W6.out hkp (by decide) rfl).onl o7 (by omega);have a2:(w.alloc (.cells #[.int .i64 0,.string ⟨key.toArray⟩,.string ⟨#[]⟩,.int .i64 0,.slice none 0 0,.int .i64 (i:Int)] 42)).heap.size≤w6.heap.size:=G6.out.size;have hC7:Chg bp (own (.slice ad ns.length cap) kvs) w (own (.slice (some ⟨g6,0,none⟩) (ns.length+1) cap6) (kvs++[.slice none 0 0])) (w6.setCell ⟨bp,2,none⟩ (.slice (some ⟨g6,0,none⟩) (ns.length+1) cap6)):=by
    refine⟨o7.os.trans G6.out.os,o7.tape.trans G6.out.tape,o7.output.trans G6.out.output,by have:=o7.size;simp at a2;omega,fun k hk hb hO=>?_,fun k hk=>?_⟩
    ·rw[o7.block k (by simp at a2;omega) (fun e=>by injection e with e;exact hb e)]
     exact hkp k hk (fun e=>hO (.inl e.symm))
    ·rcases hk with hk|⟨kv,hm,hk⟩
     ·simp[Value.ownBlock]at hk
      subst hk;rcases GG6.out with e|e
      ·exact .inl (.inl e)
      ·exact .inr (by omega)
     ·rw[List.mem_append]at hm
      rcases hm with hm|hm
      ·exact .inl (.inr ⟨kv,hm,hk⟩)
      ·simp at hm;subst hm;simp[Value.ownBlock]at hk
   have HF:Hid _:=And.intro (CN.mk h7 hN7) hC7;clear h7 o7 hkp hN7 hC7 a2 k1 k2 k3 k4;go_wp2_with fail
   go_meet
   case rel=>exact⟨g6,cap6,_,HF.out⟩
 case rest=>
  have hab:=H0.out.above;clear c0 c1 c2 c3 cf f2 h H0;obtain⟨g,cap6,kv6,hN,hC⟩:=hcut;have hGc:GV wc:=hG.chg hC hbp hlt hab;have hltc:=hN.cd.lt;have HC:Hid (Chg bp (own (.slice ad ns.length cap) kvs) w (own (.slice (some ⟨g,0,none⟩) (ns.length+1) cap6) kv6) wc):=hC;have hpk:=cpeek bp s i _ dp wc hN.cd hi;clear hab hC HI hz0 hz1 hz2 hG;go_wp2_with fail
  refine hpk.mono ?_;rintro r w2 ⟨rfl,h2,o2⟩;have hN2:CN bp s i (ns++[blank key i]) dp (.slice (some ⟨g,0,none⟩) (ns.length+1) cap6) kv6 w2:=hN.onl h2 o2;have hG2:GV w2:=hGc.onl o2 hbp hltc;have HC2:Hid (Chg bp (own (.slice ad ns.length cap) kvs) w (own (.slice (some ⟨g,0,none⟩) (ns.length+1) cap6) kv6) w2):=HC.out.trans (o2.chg _);clear hpk o2 hN hGc HC;by_cases h123:(sfx s i).head?=some 123
  ·have hb:(((pk (sfx s i)).toNat:Int)==123)=true:=by rw[pk_head h123];rfl
   have hcl:=cobject bp s i ns key dp g cap6 kv6 w2 d hv hd hdp hs hbp hN2 hG2 h123 hl hw;have HV:Hid (valL d (sfx s i) i=valL d (sfx s i) i):=rfl;clear h123 hv hd;cases hQ:valL d (sfx s i) i with
   | error q=>
     obtain⟨e,a⟩:=q;rw[hQ]at hcl;have HQ:Hid (valL d (sfx s i) i=.error (e,a)):=by rw[←hQ];exact HV.out
     clear hQ;go_wp2_with fail
     refine hcl.mono ?_;rintro r w3 ⟨h0,rfl,h3⟩;have H3:Hid (0<e∧Chg bp (own (.slice ad ns.length cap) kvs) w (fun _=>False) w3):=⟨h0,HC2.out.trans h3⟩;clear hcl h0 h3;go_wp2;refine⟨rfl,?_⟩;rw[HQ.out];exact⟨H3.out.1,rfl,H3.out.2⟩
   | ok q=>
     obtain⟨t,n⟩:=q;rw[hQ]at hcl;have HQ:Hid (valL d (sfx s i) i=.ok (t,n)):=by rw[←hQ];exact HV.out
     clear hQ;go_wp2_with fail
     refine hcl.mono ?_;rintro r w3 ⟨rfl,v3,k3,hN3,hC3⟩;have H3:Hid (CN bp s (i+n) (ns++flat ns.length key t) dp v3 k3 w3∧Chg bp (own (.slice ad ns.length cap) kvs) w (own v3 k3) w3):=⟨hN3,HC2.out.trans hC3⟩;clear hcl hN3 hC3;go_wp2;go_ret;rw[HQ.out];exact⟨rfl,v3,k3,H3.out.1,H3.out.2⟩
  ·have hb:(((pk (sfx s i)).toNat:Int)==123)=false:=by
    rw[beq_eq_false_iff_ne];intro e;exact pk_ne (by decide) h123 (UInt8.toNat_inj.1 (by simpa using by omega))
   by_cases h91:(sfx s i).head?=some 91
   ·have hb2:(((pk (sfx s i)).toNat:Int)==91)=true:=by rw[pk_head h91];rfl
    have hcl:=carray bp s i ns key dp g cap6 kv6 w2 d hv hd hdp hs hbp hN2 hG2 h91 hl hw;have HV:Hid (valL d (sfx s i) i=valL d (sfx s i) i):=rfl;clear h123 h91 hv hd;cases hQ:valL d (sfx s i) i with
    | error q=>
      obtain⟨e,a⟩:=q;rw[hQ]at hcl;have HQ:Hid (valL d (sfx s i) i=.error (e,a)):=by rw[←hQ];exact HV.out
      clear hQ;go_wp2_with fail
      refine hcl.mono ?_;rintro r w3 ⟨h0,rfl,h3⟩;have H3:Hid (0<e∧Chg bp (own (.slice ad ns.length cap) kvs) w (fun _=>False) w3):=⟨h0,HC2.out.trans h3⟩;clear hcl h0 h3;go_wp2;refine⟨rfl,?_⟩;rw[HQ.out];exact⟨H3.out.1,rfl,H3.out.2⟩
    | ok q=>
      obtain⟨t,n⟩:=q;rw[hQ]at hcl;have HQ:Hid (valL d (sfx s i) i=.ok (t,n)):=by rw[←hQ];exact HV.out
      clear hQ;go_wp2_with fail
      refine hcl.mono ?_;rintro r w3 ⟨rfl,v3,k3,hN3,hC3⟩;have H3:Hid (CN bp s (i+n) (ns++flat ns.length key t) dp v3 k3 w3∧Chg bp (own (.slice ad ns.length cap) kvs) w (own v3 k3) w3):=⟨hN3,HC2.out.trans hC3⟩;clear hcl hN3 hC3;go_wp2;go_ret;rw[HQ.out];exact⟨rfl,v3,k3,H3.out.1,H3.out.2⟩
   ·have hb2:(((pk (sfx s i)).toNat:Int)==91)=false:=by
     rw[beq_eq_false_iff_ne];intro e;exact pk_ne (by decide) h91 (UInt8.toNat_inj.1 (by simpa using by omega))
    have hcl:=cplain bp s i ns key dp g cap6 kv6 w2 hs hbp hN2 hG2 hi;have HV:Hid (valL d (sfx s i) i=plainL (sfx s i) i):=valL_plain d _ _ h91 h123;obtain⟨c0,c1,c2,c3,cf⟩:=hN2.cd.cell;have hnl:(ns.length:Int)<(ns.length:Int)+1:=by omega
    clear h123 h91 hv hd;cases hQ:plainL (sfx s i) i with
    | error q=>
      obtain⟨e,a⟩:=q;rw[hQ]at hcl;have HQ:Hid (valL d (sfx s i) i=.error (e,a)):=by rw[←hQ];exact HV.out
      clear hQ;go_wp2_with fail
      refine hcl.mono ?_;rintro r w3 ⟨h0,rfl,h3⟩;have H3:Hid (0<e∧Chg bp (own (.slice ad ns.length cap) kvs) w (fun _=>False) w3):=⟨h0,HC2.out.trans h3⟩;clear hcl h0 h3;go_wp2;refine⟨rfl,?_⟩;rw[HQ.out];exact⟨H3.out.1,rfl,H3.out.2⟩
    | ok q=>
      obtain⟨t,n⟩:=q;rw[hQ]at hcl;have HQ:Hid (valL d (sfx s i) i=.ok (t,n)):=by rw[←hQ];exact HV.out
      clear hQ;go_wp2_with fail
      refine hcl.mono ?_;rintro r w3 ⟨rfl,v3,k3,hN3,hC3⟩;have H3:Hid (CN bp s (i+n) (ns++flat ns.length key t) dp v3 k3 w3∧Chg bp (own (.slice ad ns.length cap) kvs) w (own v3 k3) w3):=⟨hN3,HC2.out.trans hC3⟩;clear hcl hN3 hC3;go_wp2;go_ret;rw[HQ.out];exact⟨rfl,v3,k3,H3.out.1,H3.out.2⟩
end
theorem cval:∀(d dp:Nat),d+dp=32→CVal d dp:=by
 intro d;induction d with
 | zero=>
   intro dp hdp bp s i ns key vL kvs w hs hbp h hG hi hl hw;exact cvalue bp s i ns key dp vL kvs w 0 (fun h=>by omega) (fun _=>rfl) (by omega) hs hbp h hG hi hl hw
 | succ d ih=>
   intro dp hdp bp s i ns key vL kvs w hs hbp h hG hi hl hw;exact cvalue bp s i ns key dp vL kvs w (d+1) (fun _=>⟨d,rfl,ih (dp+1) (by omega)⟩) (fun h=>by omega) (by omega) hs hbp h hG hi hl hw
def noV:Value:=.slice none 0 0
theorem own_nil(k:Nat):¬own noV [] k:=by rintro(h|⟨kv,hm,_⟩);cases h;cases hm
def XQ(bp:Nat)(s:ByteArray)(w:World)(r:Ending)(w':World):Except (Nat×Nat) JT→Prop
 | .ok t=>r=.returned (.tuple #[])∧∃vL kvs j,CN bp s j (flat 0 [] t) 0 vL kvs w'∧Chg bp (own noV []) w (own vL kvs) w'
 | .error (e,a)=>0<e∧r=.panicked (flt e a)∧Chg bp (own noV []) w (fun _=>False) w'
section
variable (bp:Nat) (s:ByteArray) (w:World)
theorem ctext(hs:s.size≤65536)(hbp:9≤bp)(h:CD bp s 0 noV 0 w)(hG:GV w):Calls Tryz.prog 40 #[.pointer (some ⟨bp,0,none⟩)] w fun r w'=>XQ bp s w r w' (readL s.data.toList):=by
 have hbl:=cblanks bp s 0 noV 0 w (by omega) h (by omega);have hb0:=nb_leS s 0 (by omega);rw[Nat.zero_add]at hbl hb0;have hlt:=h.lt;generalize ha:nb (sfx s 0)=a at hbl hb0;have HE:Hid _:=readL_eq s hs a ha;have hN0:CN bp s 0 [] 0 noV [] w:=⟨h,NK.nil _ _ _⟩;clear ha;go_enter Tryz.func40,Tryz.ntmps40;go_wp2_with fail
 refine hbl.mono ?_;rintro r w1 ⟨rfl,h1,o1⟩;have hN1:CN bp s a [] 0 noV [] w1:=hN0.onl h1 o1;have hG1:GV w1:=hG.onl o1 hbp hlt;have O1:Hid (Onl bp w w1):=o1;have hvl:=cval 32 0 rfl bp s a [] [] noV [] w1 hs hbp hN1 hG1 hb0 (by simp) (by intro n hn;cases hn);rw[show([]:List UInt8).toArray= #[]from rfl]at hvl;clear hbl o1 hN0 hG;cases hV:valL 32 (sfx s a) a with
 | error q=>
   obtain⟨e,c⟩:=q;rw[hV]at hvl;have HE2:Hid (readL s.data.toList=.error (e,c)):=by have:=HE.out;rw[hV]at this;exact this
   clear hV HE;go_wp2_with fail
   refine hvl.mono ?_;rintro r w2 ⟨h0,rfl,h2⟩;have H2:Hid (0<e∧Chg bp (own noV []) w (fun _=>False) w2):=⟨h0,(O1.out.chg _).trans h2⟩;clear hvl h0 h2;go_wp2;refine⟨rfl,?_⟩;rw[HE2.out];exact⟨H2.out.1,rfl,H2.out.2⟩
 | ok q=>
   obtain⟨t,n⟩:=q;rw[hV]at hvl;have han:=valL_len s 32 a a t n hV hb0;have HE2:Hid (readL s.data.toList=if a+n+nb (sfx s (a+n))<s.size then .error (2,a+n+nb (sfx s (a+n)))else .ok t):=by have:=HE.out;rw[hV]at this;exact this
   clear hV HE;go_wp2_with fail
   refine hvl.mono ?_;rintro r w2 ⟨rfl,v2,k2,hN2,hC2⟩;have HC2:Hid (Chg bp (own noV []) w (own v2 k2) w2):=(O1.out.chg _).trans hC2;have hbl2:=cblanks bp s (a+n) v2 0 w2 (by omega) hN2.cd han;have hb2:=nb_leS s (a+n) han;generalize a+n+nb (sfx s (a+n))=b at hbl2 hb2 HE2;clear hvl hC2 O1;go_wp2_with fail
   refine hbl2.mono ?_;rintro r w3 ⟨rfl,h3,o3⟩;have hN3:CN bp s b ([]++flat 0 [] t) 0 v2 k2 w3:=hN2.onl h3 o3;have HC3:Hid (Chg bp (own noV []) w (own v2 k2) w3):=HC2.out.trans (o3.chg _);have HN3:Hid _:=hN3;clear hbl2 o3 HC2 hN2 hN3;obtain⟨c0,c1,c2,c3,cf⟩:=h3.cell;by_cases hbs:b<s.size
   ·have hb':(b:Int)<(s.size:Int):=by omega
    have HE3:Hid (readL s.data.toList=.error (2,b)):=by have:=HE2.out;rw[if_pos hbs]at this;exact this
    clear HE2 hbs;go_wp2_with fail
    go_quiet (fail);have h4:=h3.drewN nq;have HC4:Hid (Chg bp (own noV []) w (own v2 k2) (w3.drewN nq)):=HC3.out.trans (((onl_refl bp w3).drewN nq).chg _);generalize w3.drewN nq=w4 at h4 HC4;clear c0 c1 c2 c3 cf nq h3;have hff:=cfail bp s b v2 0 w4 h4;go_wp2_with fail
    refine hff.mono ?_;rintro r w5 ⟨rfl,rfl⟩;clear hff;go_wp2;refine⟨rfl,?_⟩;rw[HE3.out];exact⟨by omega,rfl,HC4.out.drop⟩
   ·have hb':¬(b:Int)<(s.size:Int):=by omega
    have HE3:Hid (readL s.data.toList=.ok t):=by have:=HE2.out;rw[if_neg hbs]at this;exact this
    clear HE2 hbs;go_wp2_with fail
    go_quiet (fail);have h4:=h3.drewN nq;have HC4:Hid (Chg bp (own noV []) w (own v2 k2) (w3.drewN nq)∧NK (bp+1) 42 v2 k2 (flat 0 [] t) (w3.drewN nq)):=⟨HC3.out.trans (((onl_refl bp w3).drewN nq).chg _),HN3.out.nk.onl ((onl_refl bp w3).drewN nq) (by omega)⟩;generalize w3.drewN nq=w4 at h4 HC4;clear c0 c1 c2 c3 cf nq h3;go_wp2;go_end0
    rw[HE3.out];exact⟨rfl,v2,k2,b,⟨h4,HC4.out.2⟩,HC4.out.1⟩
end
def PP(B:Nat)(R:Except (Nat×Nat) JT)(r:Ending)(w':World):Prop:=
 match R with
 | .ok t=>∃v kvs,r=.returned (.tuple #[v,.int .i64 0,.int .i64 0])∧NK B 42 v kvs (flat 0 [] t) w'
 | .error (e,a)=>r=.returned (.tuple #[.slice none 0 0,.int .i64 (e:Int),.int .i64 (a:Int)])∧0<e
theorem cparse(s:ByteArray)(w:World)(hg:9≤w.heap.size)(hG:GV w):Calls Tryz.prog 19 #[.string s] w fun r w'=>PP (w.heap.size+1) (readL s.data.toList) r w'∧Below w.heap.size w w':=by
 have hmf:∀(fn:Fn) (first cap:Array Value) (w:World),(Instr.makeFunc fn first cap).run Tryz.prog w=.ok (.func fn first cap) w:=fun _ _ _ _=>rfl
 by_cases hs:s.size≤65536
 ·have hs':decide ((65536:Int)<(s.size:Int))=false:=by simp;omega
  have HS:Hid (s.size≤65536):=hs;clear hs;generalize hW:w.alloc (.cells #[.string s,.int .i64 0,.slice none 0 0,.int .i64 0] 68)=W;have r0:CD w.heap.size s 0 noV 0 W:=by subst hW;exact heap_alloc_new w _
  have hsz:W.heap.size=w.heap.size+1:=by subst hW;simp
  have hB0:Below w.heap.size w W:=by subst hW;exact bal (brf w) _
  generalize hbp:w.heap.size=bp at *;have hGW:GV W:=hG.kept fun k hk=>hB0.block k (by omega)
  have r1:CD bp s 0 noV 0 (W.alloc (.cells #[.int .i64 0,.int .i64 0] 70)):=r0.alloc _;have hG1:GV (W.alloc (.cells #[.int .i64 0,.int .i64 0] 70)):=hGW.kept fun k hk=>heap_alloc_old _ _ (by omega)
  have htx:=ctext bp s (W.alloc (.cells #[.int .i64 0,.int .i64 0] 70)) HS.out hg r1 hG1;have hfl:∀{O':Nat→Prop} {w2:World},Chg bp (own noV []) (W.alloc (.cells #[.int .i64 0,.int .i64 0] 70)) O' w2→w2.heap[W.heap.size]?=some (.cells #[.int .i64 0,.int .i64 0] 70 (0,0)):=fun hc=>by
   rw[hc.block W.heap.size (by simp) (by omega) (own_nil _)];exact heap_alloc_new W _
  have hlow:∀{O':Nat→Prop} {w2 w3:World},Chg bp (own noV []) (W.alloc (.cells #[.int .i64 0,.int .i64 0] 70)) O' w2→Onl W.heap.size w2 w3→Below bp w w3:=fun {O' w2 w3} hc o3=>by
   have a1:=hc.size;simp at a1;refine⟨o3.os.trans (hc.os.trans hB0.os),o3.tape.trans (hc.tape.trans hB0.tape),o3.output.trans (hc.output.trans hB0.output),by have:=o3.size;omega,fun k hk=>?_⟩;rw[o3.block k (by omega) (fun e=>by injection e with e;omega),hc.block k (by simp;omega) (by omega) (own_nil _),heap_alloc_old _ _ (by omega)];exact hB0.block k hk
  have HX:Hid _:=And.intro hsz hB0;cases hQ:readL s.data.toList with
  | error q=>
    obtain⟨e,a⟩:=q;rw[hQ]at htx
    have hca:=ccatch_text_bad bp W e (fun a' w2=>a'=a∧0<e∧Chg bp (own noV []) (W.alloc (.cells #[.int .i64 0,.int .i64 0] 70)) (fun _=>False) w2)
     (htx.mono (by rintro r w2 ⟨h0,rfl,h2⟩;exact⟨a,rfl,hfl h2,rfl,h0,h2⟩))
    have hca2:=hca.mono (R':=fun r w3=>r=.returned (fv e a)∧0<e∧Below bp w w3) (by
     rintro r w3 ⟨a',rfl,w2,⟨rfl,h0,h2⟩,o3⟩;exact⟨rfl,h0,hlow h2 o3⟩)
    clear hca htx hfl hlow r0 r1 hG1 hGW hB0 hsz;have HQ:Hid _:=hQ;clear hQ;go_enter Tryz.func19,Tryz.ntmps19;go_wp2_with fail
    refine hca2.mono ?_;rintro r w3 ⟨rfl,h0,h3⟩;have H3:Hid (0<e∧Below bp w w3):=⟨h0,h3⟩;have he:((e:Int)==0)=false:=by rw[beq_eq_false_iff_ne];omega
    have hz3:bp≤w3.heap.size:=by have:=h3.size;rw[hbp]at this;exact this
    unfold fv;clear hca2 h0 h3;go_wp2_with fail
    go_quiet (fail);go_wp2;refine bodyPost_ret (results_tmp3 rfl _ _ _) rfl ?_;refine⟨⟨rfl,H3.out.1⟩,?_⟩;have hb:=H3.out.2;refine⟨hb.os,hb.tape,hb.output,?_,?_⟩
    ·have:=hb.size;simp[World.drewN]at *;omega
    ·intro k hk
     refine Eq.trans ?_ (hb.block k hk);exact heap_alloc_old w3 _ (by omega)
  | ok t=>
    rw[hQ]at htx
    have hca:=ccatch_text_ok bp W (fun w2=>∃vL kvs j,CN bp s j (flat 0 [] t) 0 vL kvs w2∧Chg bp (own noV []) (W.alloc (.cells #[.int .i64 0,.int .i64 0] 70)) (own vL kvs) w2)
     (htx.mono (by rintro r w2 ⟨rfl,vL,kvs,j,hN,hC⟩;exact⟨rfl,hfl hC,vL,kvs,j,hN,hC⟩))
    have hca2:=hca.mono (R':=fun r w3=>r=.returned (fv 0 0)∧∃vL kvs j,CN bp s j (flat 0 [] t) 0 vL kvs w3∧Below bp w w3) (by
     rintro r w3 ⟨rfl,w2,⟨vL,kvs,j,hN,hC⟩,o3⟩;refine⟨rfl,vL,kvs,j,⟨?_,?_⟩,hlow hC o3⟩
     ·exact(o3.block bp hN.cd.lt (fun e=>by injection e with e;omega)).trans hN.cd
     ·refine hN.nk.kept fun g hg=>o3.block g (hN.nk.own_lt hg).2 (fun e=>?_)
      injection e with e;rcases hC.own g hg with h1|h1
      ·exact own_nil _ h1
      ·simp at h1;omega)
    clear hca htx hfl hlow r0 r1 hG1 hGW hB0 hsz;have HQ:Hid _:=hQ;clear hQ;go_enter Tryz.func19,Tryz.ntmps19;go_wp2_with fail
    refine hca2.mono ?_;rintro r w3 ⟨rfl,vL,kvs,j,hN,h3⟩;have H3:Hid (NK (bp+1) 42 vL kvs (flat 0 [] t) w3∧Below bp w w3):=⟨hN.nk,h3⟩;have hz3:bp<w3.heap.size:=hN.cd.lt;obtain⟨c0,c1,c2,c3,cf⟩:=hN.cd.cell;unfold fv;clear hca2 hN h3 c0 c1 c3 cf;go_wp2;refine bodyPost_ret (results_tmp3 rfl _ _ _) rfl ?_;refine⟨⟨vL,kvs,rfl,H3.out.1.alloc _⟩,?_⟩;have hb:=H3.out.2;refine⟨hb.os,hb.tape,hb.output,?_,?_⟩
    ·have:=hb.size;simp at *;omega
    ·intro k hk
     refine Eq.trans ?_ (hb.block k hk);exact heap_alloc_old w3 _ (by omega)
 ·have hs':(65536:Int)<(s.size:Int):=by omega
  have HQ:Hid (readL s.data.toList=.error (1,0)):=by
   show readL s.data.toList=.error (1,0)
   rw[readL,if_pos (by simp;omega)]
  clear hs;go_enter Tryz.func19,Tryz.ntmps19;go_wp2;refine bodyPost_ret (results_tmp3 rfl _ _ _) rfl ?_;rw[HQ.out];exact⟨⟨rfl,by omega⟩,Below.refl _ _⟩
end Go.Proofs.YtbbopknnoamkbaaGreatDoor
