import Derived.Test.YtaghclgookfmnaaGreatDoorCValue
set_option maxHeartbeats 2000000
namespace Go.Proofs.YtaghclgookfmnaaGreatDoor
open Go.RowKit
set_option linter.unusedVariables false
def noV:Value:=.slice none 0 0
theorem own_nil(k:Nat):¬own noV [] k:=by rintro(h|⟨kv,hm,_⟩);cases h;cases hm
def XQ(bp:Nat)(s:ByteArray)(w:World)(r:Ending)(w':World):Except (Nat×Nat) JT→Prop
 | .ok t=>r=.returned (.tuple #[])∧∃vL kvs j,CN bp s j (flat 0 [] t) 0 vL kvs w'∧Chg bp (own noV []) w (own vL kvs) w'
 | .error (e,a)=>0<e∧r=.panicked (flt e a)∧Chg bp (own noV []) w (fun _=>False) w'
section
variable (bp:Nat) (s:ByteArray) (w:World)
theorem ctext(hs:s.size≤65536)(hbp:8≤bp)(h:CD bp s 0 noV 0 w)(hG:GV w):Calls Tryz.prog 30 #[.pointer (some ⟨bp,0,none⟩)] w fun r w'=>XQ bp s w r w' (readL s.data.toList):=by
 have hbl:=cblanks bp s 0 noV 0 w (by omega) h (by omega);have hb0:=nb_leS s 0 (by omega);rw[Nat.zero_add]at hbl hb0;have hlt:=h.lt;generalize ha:nb (sfx s 0)=a at hbl hb0;have HE:Hid _:=readL_eq s hs a ha;have hN0:CN bp s 0 [] 0 noV [] w:=⟨h,NK.nil _ _ _⟩;clear ha;go_enter Tryz.func30,Tryz.ntmps30;go_wp2_with fail
 refine hbl.mono ?_;rintro r w1 ⟨rfl,h1,o1⟩;have hN1:CN bp s a [] 0 noV [] w1:=hN0.onl h1 o1;have hG1:GV w1:=hG.onl o1 hbp hlt;have O1:Hid (Onl bp w w1):=o1;have hvl:=cval 32 0 rfl bp s a [] [] noV [] w1 hs hbp hN1 hG1 hb0 (by simp) (by intro n hn;cases hn);rw[show([]:List UInt8).toArray= #[]from rfl]at hvl;clear hbl o1 hN0 hG;cases hV:valL 32 (sfx s a) a with
 | error q=>
   obtain⟨e,c⟩:=q;rw[hV]at hvl;have HE2:Hid (readL s.data.toList=.error (e,c)):=by have:=HE.out;rw[hV]at this;exact this
   clear hV HE;go_wp2_with fail
   refine hvl.mono ?_;rintro r w2 ⟨h0,rfl,h2⟩;have H2:Hid (0<e∧Chg bp (own noV []) w (fun _=>False) w2):=⟨h0,(O1.out.chg _).trans h2⟩;clear hvl h0 h2;go_wp2;refine⟨rfl,?_⟩;rw[HE2.out];exact⟨H2.out.1,rfl,H2.out.2⟩
 | ok q=>
   obtain⟨t,n⟩:=q;rw[hV]at hvl;have han:=valL_len s 32 a a t n hV hb0;have HE2:Hid (readL s.data.toList=if a+n+nb (sfx s (a+n))<s.size then .error (2,a+n+nb (sfx s (a+n)))else .ok t):=by have:=HE.out;rw[hV]at this;exact this
   clear hV HE;go_wp2_with fail
   refine hvl.mono ?_;rintro r w2 ⟨rfl,v2,k2,hN2,hC2⟩;have HC2:Hid (Chg bp (own noV []) w (own v2 k2) w2):=(O1.out.chg _).trans hC2;have hbl2:=cblanks bp s (a+n) v2 0 w2 (by omega) hN2.cd han;have hb2:=nb_leS s (a+n) han;generalize a+n+nb (sfx s (a+n))=b at hbl2 hb2 HE2;clear hvl hC2 O1;go_wp2_with fail
   refine hbl2.mono ?_;rintro r w3 ⟨rfl,h3,o3⟩;have hN3:CN bp s b ([]++flat 0 [] t) 0 v2 k2 w3:=hN2.onl h3 o3;have HC3:Hid (Chg bp (own noV []) w (own v2 k2) w3):=HC2.out.trans (o3.chg _);have HN3:Hid _:=hN3;clear hbl2 o3 HC2 hN2 hN3;obtain⟨c0,c1,c2,c3,cf⟩:=h3.cell;by_cases hbs:b<s.size
   ·have hb':(b:Int)<(s.size:Int):=by omega
    have HE3:Hid (readL s.data.toList=.error (2,b)):=by have:=HE2.out;rw[if_pos hbs]at this;exact this
    clear HE2 hbs;go_wp2_with fail
    go_quiet (fail);have h4:=h3.drewN nq;have HC4:Hid (Chg bp (own noV []) w (own v2 k2) (w3.drewN nq)):=HC3.out.trans (((onl_refl bp w3).drewN nq).chg _);generalize w3.drewN nq=w4 at h4 HC4;clear c0 c1 c2 c3 cf nq h3;have hff:=cfail bp s b v2 0 w4 h4;go_wp2_with fail
    refine hff.mono ?_;rintro r w5 ⟨rfl,rfl⟩;clear hff;go_wp2;refine⟨rfl,?_⟩;rw[HE3.out];exact⟨by omega,rfl,HC4.out.drop⟩
   ·have hb':¬(b:Int)<(s.size:Int):=by omega
    have HE3:Hid (readL s.data.toList=.ok t):=by have:=HE2.out;rw[if_neg hbs]at this;exact this
    clear HE2 hbs;go_wp2_with fail
    go_quiet (fail);have h4:=h3.drewN nq;have HC4:Hid (Chg bp (own noV []) w (own v2 k2) (w3.drewN nq)∧NK (bp+1) 58 v2 k2 (flat 0 [] t) (w3.drewN nq)):=⟨HC3.out.trans (((onl_refl bp w3).drewN nq).chg _),HN3.out.nk.onl ((onl_refl bp w3).drewN nq) (by omega)⟩;generalize w3.drewN nq=w4 at h4 HC4;clear c0 c1 c2 c3 cf nq h3;go_wp2;go_end0
    rw[HE3.out];exact⟨rfl,v2,k2,b,⟨h4,HC4.out.2⟩,HC4.out.1⟩
end
def PP(B:Nat)(R:Except (Nat×Nat) JT)(r:Ending)(w':World):Prop:=
 match R with
 | .ok t=>∃v kvs,r=.returned (.tuple #[v,.int .i64 0,.int .i64 0])∧NK B 58 v kvs (flat 0 [] t) w'
 | .error (e,a)=>r=.returned (.tuple #[.slice none 0 0,.int .i64 (e:Int),.int .i64 (a:Int)])∧0<e
theorem cparse(s:ByteArray)(w:World)(hg:8≤w.heap.size)(hG:GV w):Calls Tryz.prog 16 #[.string s] w fun r w'=>PP (w.heap.size+1) (readL s.data.toList) r w'∧Below w.heap.size w w':=by
 have hmf:∀(fn:Fn) (first cap:Array Value) (w:World),(Instr.makeFunc fn first cap).run Tryz.prog w=.ok (.func fn first cap) w:=fun _ _ _ _=>rfl
 by_cases hs:s.size≤65536
 ·have hs':decide ((65536:Int)<(s.size:Int))=false:=by simp;omega
  have HS:Hid (s.size≤65536):=hs;clear hs;generalize hW:w.alloc (.cells #[.string s,.int .i64 0,.slice none 0 0,.int .i64 0] 75)=W;have r0:CD w.heap.size s 0 noV 0 W:=by subst hW;exact heap_alloc_new w _
  have hsz:W.heap.size=w.heap.size+1:=by subst hW;simp
  have hB0:Below w.heap.size w W:=by subst hW;exact bal (brf w) _
  generalize hbp:w.heap.size=bp at *;have hGW:GV W:=hG.kept fun k hk=>hB0.block k (by omega)
  have r1:CD bp s 0 noV 0 (W.alloc (.cells #[.int .i64 0,.int .i64 0] 77)):=r0.alloc _;have hG1:GV (W.alloc (.cells #[.int .i64 0,.int .i64 0] 77)):=hGW.kept fun k hk=>heap_alloc_old _ _ (by omega)
  have htx:=ctext bp s (W.alloc (.cells #[.int .i64 0,.int .i64 0] 77)) HS.out hg r1 hG1;have hfl:∀{O':Nat→Prop} {w2:World},Chg bp (own noV []) (W.alloc (.cells #[.int .i64 0,.int .i64 0] 77)) O' w2→w2.heap[W.heap.size]?=some (.cells #[.int .i64 0,.int .i64 0] 77 (0,0)):=fun hc=>by
   rw[hc.block W.heap.size (by simp) (by omega) (own_nil _)];exact heap_alloc_new W _
  have hlow:∀{O':Nat→Prop} {w2 w3:World},Chg bp (own noV []) (W.alloc (.cells #[.int .i64 0,.int .i64 0] 77)) O' w2→Onl W.heap.size w2 w3→Below bp w w3:=fun {O' w2 w3} hc o3=>by
   have a1:=hc.size;simp at a1;refine⟨o3.os.trans (hc.os.trans hB0.os),o3.tape.trans (hc.tape.trans hB0.tape),o3.output.trans (hc.output.trans hB0.output),by have:=o3.size;omega,fun k hk=>?_⟩;rw[o3.block k (by omega) (fun e=>by injection e with e;omega),hc.block k (by simp;omega) (by omega) (own_nil _),heap_alloc_old _ _ (by omega)];exact hB0.block k hk
  have HX:Hid _:=And.intro hsz hB0;cases hQ:readL s.data.toList with
  | error q=>
    obtain⟨e,a⟩:=q;rw[hQ]at htx
    have hca:=ccatch_text_bad bp W e (fun a' w2=>a'=a∧0<e∧Chg bp (own noV []) (W.alloc (.cells #[.int .i64 0,.int .i64 0] 77)) (fun _=>False) w2)
     (htx.mono (by rintro r w2 ⟨h0,rfl,h2⟩;exact⟨a,rfl,hfl h2,rfl,h0,h2⟩))
    have hca2:=hca.mono (R':=fun r w3=>r=.returned (fv e a)∧0<e∧Below bp w w3) (by
     rintro r w3 ⟨a',rfl,w2,⟨rfl,h0,h2⟩,o3⟩;exact⟨rfl,h0,hlow h2 o3⟩)
    clear hca htx hfl hlow r0 r1 hG1 hGW hB0 hsz;have HQ:Hid _:=hQ;clear hQ;go_enter Tryz.func16,Tryz.ntmps16;go_wp2_with fail
    refine hca2.mono ?_;rintro r w3 ⟨rfl,h0,h3⟩;have H3:Hid (0<e∧Below bp w w3):=⟨h0,h3⟩;have he:((e:Int)==0)=false:=by rw[beq_eq_false_iff_ne];omega
    have hz3:bp≤w3.heap.size:=by have:=h3.size;rw[hbp]at this;exact this
    unfold fv;clear hca2 h0 h3;go_wp2_with fail
    go_quiet (fail);go_wp2;refine bodyPost_ret (results_tmp3 rfl _ _ _) rfl ?_;refine⟨⟨rfl,H3.out.1⟩,?_⟩;have hb:=H3.out.2;refine⟨hb.os,hb.tape,hb.output,?_,?_⟩
    ·have:=hb.size;simp[World.drewN]at *;omega
    ·intro k hk
     refine Eq.trans ?_ (hb.block k hk);exact heap_alloc_old w3 _ (by omega)
  | ok t=>
    rw[hQ]at htx
    have hca:=ccatch_text_ok bp W (fun w2=>∃vL kvs j,CN bp s j (flat 0 [] t) 0 vL kvs w2∧Chg bp (own noV []) (W.alloc (.cells #[.int .i64 0,.int .i64 0] 77)) (own vL kvs) w2)
     (htx.mono (by rintro r w2 ⟨rfl,vL,kvs,j,hN,hC⟩;exact⟨rfl,hfl hC,vL,kvs,j,hN,hC⟩))
    have hca2:=hca.mono (R':=fun r w3=>r=.returned (fv 0 0)∧∃vL kvs j,CN bp s j (flat 0 [] t) 0 vL kvs w3∧Below bp w w3) (by
     rintro r w3 ⟨rfl,w2,⟨vL,kvs,j,hN,hC⟩,o3⟩;refine⟨rfl,vL,kvs,j,⟨?_,?_⟩,hlow hC o3⟩
     ·exact(o3.block bp hN.cd.lt (fun e=>by injection e with e;omega)).trans hN.cd
     ·refine hN.nk.kept fun g hg=>o3.block g (hN.nk.own_lt hg).2 (fun e=>?_)
      injection e with e;rcases hC.own g hg with h1|h1
      ·exact own_nil _ h1
      ·simp at h1;omega)
    clear hca htx hfl hlow r0 r1 hG1 hGW hB0 hsz;have HQ:Hid _:=hQ;clear hQ;go_enter Tryz.func16,Tryz.ntmps16;go_wp2_with fail
    refine hca2.mono ?_;rintro r w3 ⟨rfl,vL,kvs,j,hN,h3⟩;have H3:Hid (NK (bp+1) 58 vL kvs (flat 0 [] t) w3∧Below bp w w3):=⟨hN.nk,h3⟩;have hz3:bp<w3.heap.size:=hN.cd.lt;obtain⟨c0,c1,c2,c3,cf⟩:=hN.cd.cell;unfold fv;clear hca2 hN h3 c0 c1 c3 cf;go_wp2;refine bodyPost_ret (results_tmp3 rfl _ _ _) rfl ?_;refine⟨⟨vL,kvs,rfl,H3.out.1.alloc _⟩,?_⟩;have hb:=H3.out.2;refine⟨hb.os,hb.tape,hb.output,?_,?_⟩
    ·have:=hb.size;simp at *;omega
    ·intro k hk
     refine Eq.trans ?_ (hb.block k hk);exact heap_alloc_old w3 _ (by omega)
 ·have hs':(65536:Int)<(s.size:Int):=by omega
  have HQ:Hid (readL s.data.toList=.error (1,0)):=by
   show readL s.data.toList=.error (1,0)
   rw[readL,if_pos (by simp;omega)]
  clear hs;go_enter Tryz.func16,Tryz.ntmps16;go_wp2;refine bodyPost_ret (results_tmp3 rfl _ _ _) rfl ?_;rw[HQ.out];exact⟨⟨rfl,by omega⟩,Below.refl _ _⟩
end Go.Proofs.YtaghclgookfmnaaGreatDoor
