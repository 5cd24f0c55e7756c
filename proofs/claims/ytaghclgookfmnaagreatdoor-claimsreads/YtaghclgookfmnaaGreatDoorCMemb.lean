import Derived.Test.YtaghclgookfmnaaGreatDoorCName
import Derived.Test.YtaghclgookfmnaaGreatDoorJPureP
namespace Go.Proofs.YtaghclgookfmnaaGreatDoor
open Go.RowKit
set_option linter.unusedVariables false
structure Chm (bp bm:Nat) (O:Nat→Prop) (w:World) (O':Nat→Prop) (w':World):Prop where
 os:w'.os=w.os
 tape:w'.tape=w.tape
 output:w'.output=w.output
 size:w.heap.size≤w'.heap.size
 block:∀k,k<w.heap.size→k≠bp→k≠bm→¬O k→w'.heap[k]?=w.heap[k]?
 own:∀k,O' k→O k∨w.heap.size≤k
theorem Chg.chm{bp bm:Nat}{O O':Nat→Prop}{w w':World}(h:Chg bp O w O' w'):Chm bp bm O w O' w':=⟨h.os,h.tape,h.output,h.size,fun k hk h1 _ h2=>h.block k hk h1 h2,h.own⟩
theorem Onl2.chm{bp bm:Nat}{w w':World}(h:Onl2 bp bm w w')(O:Nat→Prop):Chm bp bm O w O w':=⟨h.os,h.tape,h.output,h.size,fun k hk h1 h2 _=>h.block k hk h1 h2,fun _ h=>.inl h⟩
theorem Chm.trans{bp bm:Nat}{O O1 O2:Nat→Prop}{a b c:World}(h:Chm bp bm O a O1 b)(g:Chm bp bm O1 b O2 c):Chm bp bm O a O2 c:=by
 refine⟨g.os.trans h.os,g.tape.trans h.tape,g.output.trans h.output,Nat.le_trans h.size g.size,fun k hk hb hm hO=>?_,fun k hk=>?_⟩
 ·refine(g.block k (Nat.lt_of_lt_of_le hk h.size) hb hm (fun h1=>?_)).trans (h.block k hk hb hm hO)
  rcases h.own k h1 with h2|h2
  ·exact hO h2
  ·omega
 ·rcases g.own k hk with h1|h1
  ·exact h.own k h1
  ·exact .inr (Nat.le_trans h.size h1)
theorem Chg.chm_trans{bp bm:Nat}{O O1 O2:Nat→Prop}{a b c:World}(h:Chg bp O a O1 b)(g:Chm bp bm O1 b O2 c)(hm:a.heap.size≤bm):Chg bp O a O2 c:=by
 have:=(h.chm (bm:=bm)).trans g;exact⟨this.os,this.tape,this.output,this.size,fun k hk h1 h2=>this.block k hk h1 (by omega) h2,this.own⟩
theorem Chm.drop{bp bm:Nat}{O O':Nat→Prop}{w w':World}(h:Chm bp bm O w O' w'):Chm bp bm O w (fun _=>False) w':=⟨h.os,h.tape,h.output,h.size,h.block,fun _ h=>h.elim⟩
structure BoxO (b0 bM b1 bp bm u:Nat) (O:Nat→Prop) (w:World):Prop where
 h0:w.heap[b0]?=some (.cells #[.pointer (some ⟨bp,0,none⟩)] 71 (0,0))
 hM:w.heap[bM]?=some (.cells #[.map (some bm)] 99 (0,0))
 h1:w.heap[b1]?=some (.cells #[.int .i64 (u:Int)] 3 (0,0))
 n0:b0≠bp∧b0≠bm∧¬O b0
 nM:bM≠bp∧bM≠bm∧¬O bM
 n1:b1≠bp∧b1≠bm∧¬O b1
 nm:bm≠bp∧¬O bm∧bm<w.heap.size
theorem BoxO.chm{b0 bM b1 bp bm u:Nat}{O O':Nat→Prop}{w w':World}(h:BoxO b0 bM b1 bp bm u O w)(hc:Chm bp bm O w O' w'):BoxO b0 bM b1 bp bm u O' w':=by
 have l0:b0<w.heap.size:=(Array.getElem?_eq_some_iff.1 h.h0).1;have lM:bM<w.heap.size:=(Array.getElem?_eq_some_iff.1 h.hM).1;have l1:b1<w.heap.size:=(Array.getElem?_eq_some_iff.1 h.h1).1;have key:∀b,b<w.heap.size→¬O b→¬O' b:=fun b hb hO h'=>by
  rcases hc.own b h' with h1|h1
  ·exact hO h1
  ·omega
 exact⟨(hc.block b0 l0 h.n0.1 h.n0.2.1 h.n0.2.2).trans h.h0,(hc.block bM lM h.nM.1 h.nM.2.1 h.nM.2.2).trans h.hM,(hc.block b1 l1 h.n1.1 h.n1.2.1 h.n1.2.2).trans h.h1,⟨h.n0.1,h.n0.2.1,key b0 l0 h.n0.2.2⟩,⟨h.nM.1,h.nM.2.1,key bM lM h.nM.2.2⟩,⟨h.n1.1,h.n1.2.1,key b1 l1 h.n1.2.2⟩,⟨h.nm.1,key bm h.nm.2.2 h.nm.2.1,Nat.lt_of_lt_of_le h.nm.2.2 hc.size⟩⟩
theorem NM.chg{bp bm:Nat}{O O':Nat→Prop}{ks:List (List UInt8)}{w w':World}(h:NM bm ks w)(hc:Chg bp O w O' w')(hb:bm≠bp)(hO:¬O bm):NM bm ks w':=h.kept (hc.block bm h.lt hb hO)
theorem GV.chm{bp bm:Nat}{w w':World}{O O':Nat→Prop}(h:GV w)(hc:Chm bp bm O w O' w')(hb:8≤bp)(hl:bp<w.heap.size)(hO:∀k,O k→bp<k)(hm:8≤bm):GV w':=
 h.kept fun k hk=>hc.block k (by omega) (by omega) (by omega) (fun h=>by have:=hO k h;omega)
def memL(v:List UInt8→Nat→JR JT)(ks:List (List UInt8))(s:ByteArray)(p:Nat):JR (List UInt8×JT):=
 match quotL (sfx s p)with
 | .error o=>.error (2,p+o)
 | .ok (name,m)=>
   if name∈ks then .error (4,p)
   else if(sfx s (p+m+nb (sfx s (p+m)))).head?=some 58 then
    (match v (sfx s (p+m+nb (sfx s (p+m))+1+nb (sfx s (p+m+nb (sfx s (p+m))+1)))) (p+m+nb (sfx s (p+m))+1+nb (sfx s (p+m+nb (sfx s (p+m))+1)))with
      | .error e=>.error e
      | .ok (t,n)=>.ok ((name,t),p+m+nb (sfx s (p+m))+1+nb (sfx s (p+m+nb (sfx s (p+m))+1))+n-p))
   else .error (2,p+m+nb (sfx s (p+m)))
section
variable (bp:Nat) (s:ByteArray) (i:Nat) (ns:List Nd) (u:Nat) (dp:Nat) (vL:Value) (kvs:List Value) (w:World) (b0 bM b1 bm:Nat) (ks:List (List UInt8))
def OQ(O:Nat→Prop)(r:Ending)(w':World):JR (List UInt8×JT)→Prop
 | .ok (x,n)=>r=.returned (.tuple #[])∧∃vL' kvs',CN bp s (i+n) (addKid ns (some u) ns.length++flat ns.length x.1 x.2) dp vL' kvs' w'∧NM bm (ks++[x.1]) w'∧Chm bp bm O w (own vL' kvs') w'
 | .error (e,a)=>0<e∧r=.panicked (flt e a)∧Chm bp bm O w (fun _=>False) w'
theorem OQ_e{O:Nat→Prop}{r:Ending}{w':World}{R:JR (List UInt8×JT)}{e a:Nat}(h:R=.error (e,a))(he:0<e)(hr:r=.panicked (flt e a))(hc:Chm bp bm O w (fun _=>False) w'):OQ bp s i ns u dp w bm ks O r w' R:=by
 rw[h];exact⟨he,hr,hc⟩
set_option maxRecDepth 4000 in
set_option maxHeartbeats 4000000 in
theorem cmemb(d:Nat)(hv:CVal d dp)(hs:s.size≤65536)(hbp:8≤bp)(h:CN bp s i ns dp vL kvs w)(hG:GV w)(hi:i≤s.size)(hl:ns.length≤i)(hw:WFk ns)(hu:u<ns.length)(hB:BoxO b0 bM b1 bp bm u (own vL kvs) w)(hM:NM bm ks w)(hkl:ks.length≤70000)(hgm:8≤bm):Calls Tryz.prog 59 #[.pointer (some ⟨b0,0,none⟩),.pointer (some ⟨bM,0,none⟩),.pointer (some ⟨b1,0,none⟩)] w fun r w'=>OQ bp s i ns u dp w bm ks (own vL kvs) r w' (memL (valL d) ks s i):=by
 have hn:=cname bp s i vL dp bm ks w hs hbp h.cd hG hi hM hB.nm.1 hkl;have c0:w.cell? ⟨b0,0,none⟩=some (.pointer (some ⟨bp,0,none⟩)):=by rw[cell_of_row w b0 0 _ _ _ hB.h0];rfl
 have cM:w.cell? ⟨bM,0,none⟩=some (.map (some bm)):=by rw[cell_of_row w bM 0 _ _ _ hB.hM];rfl
 have hlt:=h.cd.lt;cases hQ:quotL (sfx s i)with
 | error o=>
   rw[hQ]at hn;have HR:Hid (memL (valL d) ks s i=.error (2,i+o)):=by show memL (valL d) ks s i=_;rw[memL,hQ]
   clear hQ hv;go_enter Tryz.func59,Tryz.ntmps59;go_wp2_with fail
   refine hn.mono ?_;rintro r w1 ⟨rfl,o1⟩;have O1:Hid _:=o1;clear o1 hn;go_wp2;exact⟨rfl,OQ_e bp s i ns u dp w bm ks HR.out (by omega) rfl (O1.out.chm _).drop⟩
 | ok q=>
   obtain⟨name,m⟩:=q;rw[hQ]at hn;have hml:=quotL_len hQ;have hm1:=quotL_pos hQ;by_cases hk:name∈ks
   ·have HR:Hid (memL (valL d) ks s i=.error (4,i)):=by show memL (valL d) ks s i=_;rw[memL,hQ];simp[hk]
    have hn2:=hn.mono (R':=fun r w'=>r=.panicked (flt 4 i)∧Onl2 bp bm w w') (fun r w' hh=>hh.1 hk);clear hQ hv hn;go_enter Tryz.func59,Tryz.ntmps59;go_wp2_with fail
    refine hn2.mono ?_;rintro r w1 ⟨rfl,o1⟩;have O1:Hid _:=o1;clear o1 hn2;go_wp2;exact⟨rfl,OQ_e bp s i ns u dp w bm ks HR.out (by omega) rfl (O1.out.chm _).drop⟩
   ·have hn2:=hn.mono (R':=fun r w'=>r=.returned (.string ⟨name.toArray⟩)∧CD bp s (i+m) vL dp w'∧NM bm (ks++[name]) w'∧Onl2 bp bm w w') (fun r w' hh=>hh.2 hk)
    clear hn;have hb3:=nb_leS s (i+m) hml;have hbl:=fun w' h'=>cblanks bp s (i+m) vL dp w' (by omega) h' hml
    generalize hp3:i+m+nb (sfx s (i+m))=p3 at hbl hb3
    have HR0:Hid (memL (valL d) ks s i=if(sfx s p3).head?=some 58 then
     (match valL d (sfx s (p3+1+nb (sfx s (p3+1)))) (p3+1+nb (sfx s (p3+1)))with
       | .error e=>.error e
       | .ok (t,n)=>.ok ((name,t),p3+1+nb (sfx s (p3+1))+n-i))
     else .error (2,p3)):=by
     show memL (valL d) ks s i=_
     rw[memL,hQ];simp only[hk,if_false,hp3]
    have HP3:Hid (i+m≤p3):=by show i+m≤p3;omega
    clear hQ hp3;go_enter Tryz.func59,Tryz.ntmps59;go_wp2_with fail
    refine hn2.mono ?_;rintro r w1 ⟨rfl,h1,hM1,o1⟩;have hC1:=o1.chm (own vL kvs);have hB1:=hB.chm hC1;have hN1:NK (bp+1) 58 vL kvs ns w1:=h.nk.kept fun g hg=>o1.block g (h.nk.own_lt hg).2 (by have:=(h.nk.own_lt hg).1;omega) (fun e=>hB.nm.2.1 (e▸hg))
    have hG1:GV w1:=hG.chm hC1 hbp hlt h.above hgm;have d0:w1.cell? ⟨b0,0,none⟩=some (.pointer (some ⟨bp,0,none⟩)):=by rw[cell_of_row w1 b0 0 _ _ _ hB1.h0];rfl
    have H1:Hid (Chm bp bm (own vL kvs) w (own vL kvs) w1∧BoxO b0 bM b1 bp bm u (own vL kvs) w1∧NK (bp+1) 58 vL kvs ns w1∧GV w1∧NM bm (ks++[name]) w1):=⟨hC1,hB1,hN1,hG1,hM1⟩;clear c0 cM hn2 o1 hC1 hB1 hN1 hG1 hM1;go_wp2_with fail
    refine(hbl w1 h1).mono ?_;rintro r w2 ⟨rfl,h2,o2⟩;have H2:Hid (Chm bp bm (own vL kvs) w (own vL kvs) w2∧BoxO b0 bM b1 bp bm u (own vL kvs) w2∧NK (bp+1) 58 vL kvs ns w2∧GV w2∧NM bm (ks++[name]) w2):=by
     obtain⟨a1,a2,a3,a4,a5⟩:=H1.out;exact⟨a1.trans (o2.chg _).chm,a2.chm (o2.chg _).chm,a3.onl o2 (by omega),a4.onl o2 hbp h1.lt,a5.chg (o2.chg (own vL kvs)) a2.nm.1 a2.nm.2.1⟩
    have e0:w2.cell? ⟨b0,0,none⟩=some (.pointer (some ⟨bp,0,none⟩)):=by rw[cell_of_row w2 b0 0 _ _ _ H2.out.2.1.h0];rfl
    clear hbl o2 H1 d0 h1;by_cases h58:(sfx s p3).head?=some 58
    ·have h58l:=head_lt h58
     have hne:=cneed_yes bp s p3 vL dp 58 w2 (by omega) h2 h58;rw[show((58:UInt8).toNat:Int)=58 from rfl]at hne;have hb4:=nb_leS s (p3+1) (by omega);have hbl:=fun w' h'=>cblanks bp s (p3+1) vL dp w' (by omega) h' (by omega)
     have HR1:=HR0.out;rw[if_pos h58]at HR1;generalize hp4:p3+1+nb (sfx s (p3+1))=p4 at hbl hb4 HR1;have HR:Hid _:=HR1;have HP4:Hid (p3+1≤p4):=by show p3+1≤p4;omega
     clear h58 HR1 HR0 hp4;go_wp2_with fail
     refine hne.mono ?_;rintro r w3 ⟨rfl,h3,o3⟩;have H3:Hid (Chm bp bm (own vL kvs) w (own vL kvs) w3∧BoxO b0 bM b1 bp bm u (own vL kvs) w3∧NK (bp+1) 58 vL kvs ns w3∧GV w3∧NM bm (ks++[name]) w3):=by
      obtain⟨a1,a2,a3,a4,a5⟩:=H2.out;exact⟨a1.trans (o3.chg _).chm,a2.chm (o3.chg _).chm,a3.onl o3 (by omega),a4.onl o3 hbp h2.lt,a5.chg (o3.chg (own vL kvs)) a2.nm.1 a2.nm.2.1⟩
     have f0:w3.cell? ⟨b0,0,none⟩=some (.pointer (some ⟨bp,0,none⟩)):=by rw[cell_of_row w3 b0 0 _ _ _ H3.out.2.1.h0];rfl
     clear hne o3 H2 e0 h2;go_wp2_with fail
     refine(hbl w3 h3).mono ?_;rintro r w4 ⟨rfl,h4,o4⟩;have H4:Hid (Chm bp bm (own vL kvs) w (own vL kvs) w4∧BoxO b0 bM b1 bp bm u (own vL kvs) w4∧NK (bp+1) 58 vL kvs ns w4∧GV w4∧NM bm (ks++[name]) w4):=by
      obtain⟨a1,a2,a3,a4,a5⟩:=H3.out;exact⟨a1.trans (o4.chg _).chm,a2.chm (o4.chg _).chm,a3.onl o4 (by omega),a4.onl o4 hbp h3.lt,a5.chg (o4.chg (own vL kvs)) a2.nm.1 a2.nm.2.1⟩
     have g0:w4.cell? ⟨b0,0,none⟩=some (.pointer (some ⟨bp,0,none⟩)):=by rw[cell_of_row w4 b0 0 _ _ _ H4.out.2.1.h0];rfl
     have g1:w4.cell? ⟨b1,0,none⟩=some (.int .i64 (u:Int)):=by rw[cell_of_row w4 b1 0 _ _ _ H4.out.2.1.h1];rfl
     clear hbl o4 H3 f0 h3;have hkd:=ckid bp s p4 ns u name dp vL kvs w4 d hv hs hbp ⟨h4,H4.out.2.2.1⟩ H4.out.2.2.2.1 hb4 (by have:=HP3.out;have:=HP4.out;omega) hw hu;clear hv;cases hV:valL d (sfx s p4) p4 with
     | error x=>
       obtain⟨e,a⟩:=x;rw[hV]at hkd;have HR2:Hid (memL (valL d) ks s i=.error (e,a)):=by have:=HR.out;rw[hV]at this;exact this
       clear hV HR;go_wp2_with fail
       refine hkd.mono ?_;rintro r w5 ⟨h0,rfl,h5⟩;have H5:Hid (0<e∧Chm bp bm (own vL kvs) w (fun _=>False) w5):=⟨h0,H4.out.1.trans h5.chm⟩;clear hkd h0 h5;go_wp2;exact⟨rfl,OQ_e bp s i ns u dp w bm ks HR2.out H5.out.1 rfl H5.out.2⟩
     | ok x=>
       obtain⟨t,n⟩:=x;rw[hV]at hkd;have HR2:Hid (memL (valL d) ks s i=.ok ((name,t),p4+n-i)):=by have:=HR.out;rw[hV]at this;exact this
       clear hV HR;go_wp2_with fail
       refine hkd.mono ?_;rintro r w5 ⟨rfl,v5,k5,hN5,hC5⟩;have H5:Hid (CN bp s (p4+n) (addKid ns (some u) ns.length++flat ns.length name t) dp v5 k5 w5∧NM bm (ks++[name]) w5∧Chm bp bm (own vL kvs) w (own v5 k5) w5):=by
        obtain⟨a1,a2,a3,a4,a5⟩:=H4.out;exact⟨hN5,a5.chg hC5 a2.nm.1 a2.nm.2.1,a1.trans hC5.chm⟩
       clear hkd hN5 hC5;go_wp2;go_end0
       rw[HR2.out];refine⟨rfl,v5,k5,?_,H5.out.2.1,H5.out.2.2⟩;rw[show i+(p4+n-i)=p4+n by have:=HP3.out;have:=HP4.out;omega];exact H5.out.1
    ·have hne:=cneed_no bp s p3 vL dp 58 w2 h2 hb3 (by decide) h58
     rw[show((58:UInt8).toNat:Int)=58 from rfl]at hne;have HR:Hid (memL (valL d) ks s i=.error (2,p3)):=by have:=HR0.out;rw[if_neg h58]at this;exact this
     clear h58 hv HR0;go_wp2_with fail
     refine hne.mono ?_;rintro r w3 ⟨rfl,h3,o3⟩;have H3:Hid (Chm bp bm (own vL kvs) w (own vL kvs) w3):=H2.out.1.trans (o3.chg _).chm;clear hne o3;go_wp2;exact⟨rfl,OQ_e bp s i ns u dp w bm ks HR.out (by omega) rfl H3.out.drop⟩
end
end Go.Proofs.YtaghclgookfmnaaGreatDoor
