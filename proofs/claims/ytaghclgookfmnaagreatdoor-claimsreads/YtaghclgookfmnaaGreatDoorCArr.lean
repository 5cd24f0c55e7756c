import Derived.Test.YtaghclgookfmnaaGreatDoorCKid
import Derived.Test.YtaghclgookfmnaaGreatDoorCLen
set_option maxHeartbeats 4000000
namespace Go.Proofs.YtaghclgookfmnaaGreatDoor
open Go.RowKit
set_option linter.unusedVariables false
structure BoxA (b0 b1 bp u:Nat) (O:Nat→Prop) (w:World):Prop where
 h0:w.heap[b0]?=some (.cells #[.pointer (some ⟨bp,0,none⟩)] 71 (0,0))
 h1:w.heap[b1]?=some (.cells #[.int .i64 (u:Int)] 3 (0,0))
 n0:b0≠bp∧¬O b0
 n1:b1≠bp∧¬O b1
theorem BoxA.chg{b0 b1 bp u:Nat}{O O':Nat→Prop}{w w':World}(h:BoxA b0 b1 bp u O w)(hc:Chg bp O w O' w'):BoxA b0 b1 bp u O' w':=by
 have l0:b0<w.heap.size:=(Array.getElem?_eq_some_iff.1 h.h0).1;have l1:b1<w.heap.size:=(Array.getElem?_eq_some_iff.1 h.h1).1;refine⟨(hc.block b0 l0 h.n0.1 h.n0.2).trans h.h0,(hc.block b1 l1 h.n1.1 h.n1.2).trans h.h1,⟨h.n0.1,fun h'=>?_⟩,⟨h.n1.1,fun h'=>?_⟩⟩
 ·rcases hc.own b0 h' with h1|h1
  ·exact h.n0.2 h1
  ·omega
 ·rcases hc.own b1 h' with h2|h2
  ·exact h.n1.2 h2
  ·omega
section
variable (bp:Nat) (s:ByteArray) (i:Nat) (ns:List Nd) (u:Nat) (dp:Nat) (vL:Value) (kvs:List Value) (w:World) (b0 b1:Nat)
theorem carr1(d:Nat)(hv:CVal d dp)(hs:s.size≤65536)(hbp:8≤bp)(h:CN bp s i ns dp vL kvs w)(hG:GV w)(hi:i≤s.size)(hl:ns.length≤i)(hw:WFk ns)(hu:u<ns.length)(hB:BoxA b0 b1 bp u (own vL kvs) w):Calls Tryz.prog 63 #[.pointer (some ⟨b0,0,none⟩),.pointer (some ⟨b1,0,none⟩)] w fun r w'=>KQ bp s i ns u [] dp (own vL kvs) w r w' (valL d (sfx s i) i):=by
 have hk:=ckid bp s i ns u [] dp vL kvs w d hv hs hbp h hG hi hl hw hu;have c0:w.cell? ⟨b0,0,none⟩=some (.pointer (some ⟨bp,0,none⟩)):=by rw[cell_of_row w b0 0 _ _ _ hB.h0];rfl
 have c1:w.cell? ⟨b1,0,none⟩=some (.int .i64 (u:Int)):=by rw[cell_of_row w b1 0 _ _ _ hB.h1];rfl
 cases hR:valL d (sfx s i) i with
 | error q=>
   obtain⟨e,a⟩:=q;rw[hR]at hk;clear hR hv;go_enter Tryz.func63,Tryz.ntmps63;go_wp2_with fail
   refine hk.mono ?_;rintro r w1 ⟨h0,rfl,h1⟩;have H1:Hid _:=And.intro h0 h1;clear hk h0 h1;go_wp2;exact⟨rfl,H1.out.1,rfl,H1.out.2⟩
 | ok q=>
   obtain⟨t,n⟩:=q;rw[hR]at hk;clear hR hv;go_enter Tryz.func63,Tryz.ntmps63;go_wp2_with fail
   refine hk.mono ?_;rintro r w1 ⟨rfl,h1⟩;have H1:Hid _:=h1;clear hk h1;go_wp2;go_end0
   exact⟨rfl,H1.out⟩
def LA(d:Nat)(w0:World)(O0:Nat→Prop)(i0:Nat)(key:List UInt8)(ms:List Nd)(wr:World):Prop:=
 ∃q p ts f vR kR,i0<q∧q+nb (sfx s q)=p∧p≤s.size∧(sfx s q).length<f∧CN bp s p (arrN ms none key i0 ts) dp vR kR wr∧(arrN ms none key i0 ts).length≤q∧WFk (arrN ms none key i0 ts)∧arrL (valL d) (sfx s i0) i0=finA ts i0 q (arrF (valL d) f (sfx s q) q)∧GV wr∧Chg bp O0 w0 (own vR kR) wr∧BoxA b0 b1 bp ms.length (own vR kR) wr
def arrFv:Value:=.func (.func 63) #[] #[.pointer (some ⟨b0,0,none⟩),.pointer (some ⟨b1,0,none⟩)]
def IQ(O:Nat→Prop)(w0:World)(i0:Nat)(key:List UInt8)(ms:List Nd)(r:Ending)(w':World):JR JT→Prop
 | .ok (t,n)=>r=.returned (.tuple #[])∧∃vL' kvs',CN bp s (i0+n) (ms++flat ms.length key t) dp vL' kvs' w'∧Chg bp O w0 (own vL' kvs') w'
 | .error (e,a)=>0<e∧r=.panicked (flt e a)∧Chg bp O w0 (fun _=>False) w'
set_option maxRecDepth 4000 in
theorem citemsA(d:Nat)(hv:CVal d dp)(hs:s.size≤65536)(hbp:8≤bp)(w0:World)(O0:Nat→Prop)(i0:Nat)(key:List UInt8)(ms:List Nd)(hLA:LA bp s dp b0 b1 d w0 O0 i0 key ms w):Calls Tryz.prog 72 #[.pointer (some ⟨bp,0,none⟩),.int .u8 93,arrFv b0 b1] w fun r w'=>IQ bp s dp O0 w0 i0 key ms r w' (arrL (valL d) (sfx s i0) i0):=by
 unfold arrFv;have HLA:Hid _:=hLA;clear hLA;go_enter Tryz.func72,Tryz.ntmps72;go_wp2_with fail
 go_loopw [6] (fun _ wr=>LA bp s dp b0 b1 d w0 O0 i0 key ms wr) (fun _ wr=>s.size+1-posOf (wr.cell? ⟨bp,1,none⟩))
 case atStart=>exact HLA.out
 case round=>
  clear HLA;obtain⟨q,p,ts,f,vR,kR,hiq,hp,hps,hf,hN,hlen,hwf,hfin,hGr,hC,hB⟩:=hrel;have HM:Hid (posOf (wr.cell? ⟨bp,1,none⟩)=p):=cpos_rd hN.cd;have hgt:ms.length<(arrN ms none key i0 ts).length:=by rw[arrN_length];omega
  have hca:=carr1 bp s p (arrN ms none key i0 ts) ms.length dp vR kR wr b0 b1 d hv hs hbp hN hGr hps (by omega) hwf hgt hB;obtain⟨f,rfl⟩:∃g,f=g+1:=⟨f-1,by omega⟩;have HP:Hid (q+nb (sfx s q)=p):=hp;have HF:Hid (arrL (valL d) (sfx s i0) i0=finA ts i0 q (arrF (valL d) (f+1) (sfx s q) q)):=hfin;have HC:Hid (Chg bp O0 w0 (own vR kR) wr):=hC;have HB:Hid _:=hB;have HX:Hid (i0<q∧q≤p∧(arrN ms none key i0 ts).length≤q∧WFk (arrN ms none key i0 ts)∧(sfx s q).length<f+1):=⟨hiq,by omega,hlen,hwf,hf⟩;have HG:Hid (GV wr∧CN bp s p (arrN ms none key i0 ts) dp vR kR wr):=⟨hGr,hN⟩;have hlt:=hN.cd.lt;clear hfin hC hB hiq hlen hwf hf hp hGr hN hgt hv;cases hR:valL d (sfx s p) p with
  | error x=>
    obtain⟨e,a⟩:=x;rw[hR]at hca;have HR:Hid (arrL (valL d) (sfx s i0) i0=.error (e,a)):=by
     show arrL (valL d) (sfx s i0) i0=.error (e,a)
     rw[HF.out,arrF_er (valL d) s q f (e,a) (by rw[HP.out];exact hR)];rfl
    clear hR;go_wp2_with fail
    refine hca.mono ?_;rintro r w1 ⟨h0,rfl,h1⟩;have H1:Hid (0<e∧Chg bp O0 w0 (fun _=>False) w1):=⟨h0,HC.out.trans h1⟩;clear hca h0 h1;go_wp2;refine⟨rfl,?_⟩;rw[HR.out];exact⟨H1.out.1,rfl,H1.out.2⟩
  | ok x=>
    obtain⟨t,n⟩:=x;rw[hR]at hca;have HV:Hid (valL d (sfx s p) p=.ok (t,n)):=hR;clear hR;go_wp2_with fail
    refine hca.mono ?_;rintro r w1 ⟨rfl,v1,k1,hN1,hC1⟩;have hBB:BoxA b0 b1 bp ms.length (own v1 k1) w1:=HB.out.chg hC1;have hG1:GV w1:=HG.out.1.chg hC1 hbp hlt HG.out.2.above;have hC2:=HC.out.trans hC1;rw[arrN_add]at hN1;have hpn:p+n≤s.size:=valL_len s d p p t n HV.out hps;have hsz:t.size≤n:=valL_size d _ _ _ _ HV.out;have HN1:Hid (CN bp s (p+n) (arrN ms none key i0 (ts++[t])) dp v1 k1 w1):=hN1;have H1:Hid (BoxA b0 b1 bp ms.length (own v1 k1) w1∧GV w1∧Chg bp O0 w0 (own v1 k1) w1):=⟨hBB,hG1,hC2⟩;have hbl:=cblanks bp s (p+n) v1 dp w1 (by omega) hN1.cd hpn;have hb3:=nb_leS s (p+n) hpn;generalize hp3:p+n+nb (sfx s (p+n))=p3 at hbl hb3;have HP3:Hid (p+n+nb (sfx s (p+n))=p3):=hp3;have HSZ:Hid (t.size≤n∧p+n≤p3):=⟨hsz,by omega⟩;clear hBB hG1 hC2 hN1 hca hC1 hp3 hsz hpn;go_wp2_with fail
    refine hbl.mono ?_;rintro r w2 ⟨rfl,h2,o2⟩;have HN2:Hid (CN bp s p3 (arrN ms none key i0 (ts++[t])) dp v1 k1 w2):=HN1.out.onl h2 o2;have H2:Hid (BoxA b0 b1 bp ms.length (own v1 k1) w2∧GV w2∧Chg bp O0 w0 (own v1 k1) w2):=⟨H1.out.1.chg (o2.chg _),H1.out.2.1.onl o2 hbp HN1.out.cd.lt,H1.out.2.2.trans (o2.chg _)⟩;clear hbl o2 HN1 H1;by_cases h93:(sfx s p3).head?=some 93
    ·have ht:=ctake_yes bp s p3 v1 dp 93 w2 (by omega) h2 h93
     rw[show((93:UInt8).toNat:Int)=93 from rfl]at ht;have HR:Hid (arrL (valL d) (sfx s i0) i0=.ok (.arr (ts++[t]) i0,p3-i0+1)):=by
      show arrL (valL d) (sfx s i0) i0=_
      have hx:=HX.out;have hz:=HSZ.out;rw[HF.out,arrF_last (valL d) s q f p p3 n t HP.out HV.out HP3.out (by rw[h93];decide),finA_last ts t i0 q p3 (by omega) (by omega),if_pos h93]
     clear h93;go_wp2_with fail
     refine ht.mono ?_;rintro r w3 ⟨rfl,h3,o3⟩;have HN3:Hid (CN bp s (p3+1) (arrN ms none key i0 (ts++[t])) dp v1 k1 w3):=HN2.out.onl h3 o3;have H3:Hid (Chg bp O0 w0 (own v1 k1) w3):=H2.out.2.2.trans (o3.chg _);clear ht o3;go_wp2;refine bodyPost_ret (results_none rfl _ _ _) rfl ?_;rw[HR.out];refine⟨rfl,v1,k1,?_,H3.out⟩;rw[show i0+(p3-i0+1)=p3+1 by have:=HX.out;have:=HSZ.out;omega];exact HN3.out
    ·have ht:=ctake_no bp s p3 v1 dp 93 w2 h2 hb3 (by decide) h93
     rw[show((93:UInt8).toNat:Int)=93 from rfl]at ht;go_wp2_with fail
     refine ht.mono ?_;rintro r w3 ⟨rfl,h3,o3⟩;have HN3:Hid (CN bp s p3 (arrN ms none key i0 (ts++[t])) dp v1 k1 w3):=HN2.out.onl h3 o3;have H3:Hid (BoxA b0 b1 bp ms.length (own v1 k1) w3∧GV w3∧Chg bp O0 w0 (own v1 k1) w3):=⟨H2.out.1.chg (o3.chg _),H2.out.2.1.onl o3 hbp h2.lt,H2.out.2.2.trans (o3.chg _)⟩;clear ht o3 H2 HN2 h2;by_cases h44:(sfx s p3).head?=some 44
     ·have hn:=cneed_yes bp s p3 v1 dp 44 w3 (by omega) h3 h44
      rw[show((44:UInt8).toNat:Int)=44 from rfl]at hn;have h44l:=head_lt h44;have hbl:=fun w' h'=>cblanks bp s (p3+1) v1 dp w' (by omega) h' (by omega)
      have HR:Hid (arrL (valL d) (sfx s i0) i0=finA (ts++[t]) i0 (p3+1) (arrF (valL d) f (sfx s (p3+1)) (p3+1))):=by
       show arrL (valL d) (sfx s i0) i0=_
       have hx:=HX.out;have hz:=HSZ.out;rw[HF.out,arrF_more (valL d) s q f p p3 n t HP.out HV.out HP3.out h44,finA_more ts t i0 q (p3+1) (by omega) (by omega)]
      have hp4:=nb_leS s (p3+1) (by omega);clear h93 h44;go_wp2_with fail
      refine hn.mono ?_;rintro r w4 ⟨rfl,h4,o4⟩;have HN4:Hid (CN bp s (p3+1) (arrN ms none key i0 (ts++[t])) dp v1 k1 w4):=HN3.out.onl h4 o4;have H4:Hid (BoxA b0 b1 bp ms.length (own v1 k1) w4∧GV w4∧Chg bp O0 w0 (own v1 k1) w4):=⟨H3.out.1.chg (o4.chg _),H3.out.2.1.onl o4 hbp h3.lt,H3.out.2.2.trans (o4.chg _)⟩;clear hn o4 H3 HN3 h3;go_wp2_with fail
      refine(hbl w4 h4).mono ?_;rintro r w5 ⟨rfl,h5,o5⟩;have HN5:Hid (CN bp s (p3+1+nb (sfx s (p3+1))) (arrN ms none key i0 (ts++[t])) dp v1 k1 w5):=HN4.out.onl h5 o5;have H5:Hid (BoxA b0 b1 bp ms.length (own v1 k1) w5∧GV w5∧Chg bp O0 w0 (own v1 k1) w5):=⟨H4.out.1.chg (o5.chg _),H4.out.2.1.onl o5 hbp h4.lt,H4.out.2.2.trans (o5.chg _)⟩;clear hbl o5 H4 HN4 h4;go_wp2;have hx:=HX.out;have hz:=HSZ.out;refine⟨⟨p3+1,_,ts++[t],f,v1,k1,by omega,rfl,hp4,?_,HN5.out,?_,?_,HR.out,H5.out.2.1,H5.out.2.2,H5.out.1⟩,?_⟩
      ·have:=hx.2.2.2.2;rw[sfx_length]at this ⊢;omega
      ·have e1:=hx.2.2.1
       rw[arrN_length]at e1 ⊢;rw[sizeL_append];omega
      ·rw[←arrN_add];exact flat_wf hx.2.2.2.1 (some ms.length) [] t
      ·rw[HM.out,cpos_rd h5];omega
     ·have hn:=cneed_no bp s p3 v1 dp 44 w3 h3 hb3 (by decide) h44
      rw[show((44:UInt8).toNat:Int)=44 from rfl]at hn;have HR:Hid (arrL (valL d) (sfx s i0) i0=.error (2,p3)):=by
       show arrL (valL d) (sfx s i0) i0=_
       have hx:=HX.out;have hz:=HSZ.out;rw[HF.out,arrF_last (valL d) s q f p p3 n t HP.out HV.out HP3.out h44,finA_last ts t i0 q p3 (by omega) (by omega),if_neg h93]
      clear h93 h44;go_wp2_with fail
      refine hn.mono ?_;rintro r w4 ⟨rfl,h4,o4⟩;have H4:Hid (Chg bp O0 w0 (own v1 k1) w4):=H3.out.2.2.trans (o4.chg _);clear hn o4;go_wp2;refine⟨rfl,?_⟩;rw[HR.out];exact⟨by omega,rfl,H4.out.drop⟩
end
end Go.Proofs.YtaghclgookfmnaaGreatDoor
