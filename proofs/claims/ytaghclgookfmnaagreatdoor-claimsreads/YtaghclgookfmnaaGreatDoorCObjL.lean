import Derived.Test.YtaghclgookfmnaaGreatDoorCMemb
import Derived.Test.YtaghclgookfmnaaGreatDoorCList
namespace Go.Proofs.YtaghclgookfmnaaGreatDoor
open Go.RowKit
set_option linter.unusedVariables false
theorem memL_ok{d:Nat}{ks:List (List UInt8)}{s:ByteArray}{p n:Nat}{name:List UInt8}{t:JT}(h:memL (valL d) ks s p=.ok ((name,t),n)):p+n≤s.size∧t.size+1≤n∧name∉ks:=by
 unfold memL at h;split at h
 ·cases h
 ·next nm m hq=>
  have hl:=quotL_len hq;have hp1:=quotL_pos hq;split at h
  ·cases h
  ·next hk=>
   split at h
   ·next hc=>
    have hcl:=head_lt hc;split at h
    ·cases h
    ·next t' n' hv=>
     have hb:=nb_leS s (p+m+nb (sfx s (p+m))+1) (by omega);have h1:=valL_len s d _ _ _ _ hv hb;have h2:=valL_size d _ _ _ _ hv;injection h with h;injection h with h3 h4;injection h3 with h5 h6;subst h5;subst h6;exact⟨by omega,by omega,hk⟩
   ·cases h
theorem objF_memE{d:Nat}{s:ByteArray}{q p f e a:Nat}{ks:List (List UInt8)}(hp:q+nb (sfx s q)=p)(h:memL (valL d) ks s p=.error (e,a)):objF (valL d) (f+1) ks (sfx s q) q=.error (e,a)∧0<e∨objF (valL d) (f+1) ks (sfx s q) q=.error (e,a):=by
 right;unfold memL at h;split at h
 ·next o hq=>injection h with h;rw[←h];exact objF_quot (valL d) s q f p o ks hp hq
 ·next nm m hq=>
  split at h
  ·next hk=>injection h with h;rw[←h];exact objF_twice (valL d) s q f p m ks nm hp hq hk
  ·next hk=>
   split at h
   ·next hc=>
    split at h
    ·next e' hv=>injection h with h;rw[objF_val (valL d) s q f p _ _ m ks nm hp hq hk rfl hc rfl,hv,h]
    ·cases h
   ·next hc=>injection h with h;rw[←h];exact objF_colon (valL d) s q f p _ m ks nm hp hq hk rfl hc
theorem objF_memO{d:Nat}{s:ByteArray}{q p f n:Nat}{ks:List (List UInt8)}{name:List UInt8}{t:JT}(hp:q+nb (sfx s q)=p)(h:memL (valL d) ks s p=.ok ((name,t),n))(p5:Nat)(h5:p+n+nb (sfx s (p+n))=p5):objF (valL d) (f+1) ks (sfx s q) q=match sfx s p5 with
 | c::_=>
   if c=44 then(match objF (valL d) f (ks++[name]) (sfx s (p5+1)) (p5+1)with| .error e=>.error e| .ok (ms,k)=>.ok ((name,t)::ms,p5+1-q+k))
   else if c=125 then .ok ([(name,t)],p5+1-q)else .error (2,p5)
 | []=>.error (2,p5):=by
 unfold memL at h;split at h
 ·cases h
 ·next nm m hq=>
  have hp1:=quotL_pos hq;split at h
  ·cases h
  ·next hk=>
   split at h
   ·next hc=>
    split at h
    ·cases h
    ·next t' n' hv=>
     injection h with h;injection h with h3 h4;injection h3 with h6 h7;subst h6;subst h7;rw[objF_val (valL d) s q f p _ _ m ks nm hp hq hk rfl hc rfl,hv];have e1:p+m+nb (sfx s (p+m))+1+nb (sfx s (p+m+nb (sfx s (p+m))+1))+n'=p+n:=by omega
     simp only[e1,h5];rfl
   ·cases h
theorem objF_more2{d:Nat}{s:ByteArray}{q p f n p5:Nat}{ks:List (List UInt8)}{name:List UInt8}{t:JT}(hp:q+nb (sfx s q)=p)(h:memL (valL d) ks s p=.ok ((name,t),n))(h5:p+n+nb (sfx s (p+n))=p5)(hc:(sfx s p5).head?=some 44):objF (valL d) (f+1) ks (sfx s q) q=match objF (valL d) f (ks++[name]) (sfx s (p5+1)) (p5+1)with| .error e=>.error e| .ok (ms,k)=>.ok ((name,t)::ms,p5+1-q+k):=by
 rw[objF_memO hp h p5 h5];match hs:sfx s p5 with
 | []=>rw[hs]at hc;cases hc
 | c::r=>
   rw[hs]at hc;have hc:c=44:=by simpa using hc
   simp only[hc,if_true]
theorem objF_last2{d:Nat}{s:ByteArray}{q p f n p5:Nat}{ks:List (List UInt8)}{name:List UInt8}{t:JT}(hp:q+nb (sfx s q)=p)(h:memL (valL d) ks s p=.ok ((name,t),n))(h5:p+n+nb (sfx s (p+n))=p5)(hc:(sfx s p5).head?≠some 44):objF (valL d) (f+1) ks (sfx s q) q=if(sfx s p5).head?=some 125 then .ok ([(name,t)],p5+1-q)else .error (2,p5):=by
 rw[objF_memO hp h p5 h5];match hs:sfx s p5 with
 | []=>simp
 | c::r=>
   rw[hs]at hc;have hc:c≠44:=by simpa using hc
   simp[hc]
theorem finO_last(ms:List (List UInt8×JT))(x:List UInt8×JT)(i p p3:Nat)(h:i≤p)(hq:p≤p3)(c:Prop) [Decidable c]:finO ms i p (if c then .ok ([x],p3+1-p)else .error (2,p3))=if c then .ok (.obj (ms++[x]) i,p3-i+1)else .error (2,p3):=by
 split
 ·simp[finO];omega
 ·rfl
theorem len_sizeM(ms:List (List UInt8×JT)):ms.length≤sizeM ms:=by
 induction ms with
 | nil=>simp
 | cons a r ih=>obtain⟨k,t⟩:=a;have:=size_pos t;simp only[List.length_cons,sizeM];omega
section
variable (bp:Nat) (s:ByteArray) (dp:Nat) (w:World) (b0 bM b1 bm:Nat)
def LO(d:Nat)(w0:World)(O0:Nat→Prop)(i0:Nat)(key:List UInt8)(ns:List Nd)(wr:World):Prop:=
 ∃q p ms f vR kR,i0<q∧q+nb (sfx s q)=p∧p≤s.size∧(sfx s q).length<f∧CN bp s p (objN ns none key i0 ms) dp vR kR wr∧(objN ns none key i0 ms).length≤q∧WFk (objN ns none key i0 ms)∧objL (valL d) (sfx s i0) i0=finO ms i0 q (objF (valL d) f (ms.map (·.1)) (sfx s q) q)∧GV wr∧Chg bp O0 w0 (own vR kR) wr∧BoxO b0 bM b1 bp bm ns.length (own vR kR) wr∧NM bm (ms.map (·.1)) wr
def objFv:Value:=.func (.func 59) #[] #[.pointer (some ⟨b0,0,none⟩),.pointer (some ⟨bM,0,none⟩),.pointer (some ⟨b1,0,none⟩)]
set_option maxRecDepth 4000 in
set_option maxHeartbeats 4000000 in
theorem citemsO(d:Nat)(hv:CVal d dp)(hs:s.size≤65536)(hbp:8≤bp)(hgm:8≤bm)(w0:World)(h0m:w0.heap.size≤bm)(O0:Nat→Prop)(i0:Nat)(key:List UInt8)(ns:List Nd)(hLO:LO bp s dp b0 bM b1 bm d w0 O0 i0 key ns w):Calls Tryz.prog 72 #[.pointer (some ⟨bp,0,none⟩),.int .u8 125,objFv b0 bM b1] w fun r w'=>IQ bp s dp O0 w0 i0 key ns r w' (objL (valL d) (sfx s i0) i0):=by
 unfold objFv;have HLO:Hid _:=hLO;clear hLO;go_enter Tryz.func72,Tryz.ntmps72;go_wp2_with fail
 go_loopw [6] (fun _ wr=>LO bp s dp b0 bM b1 bm d w0 O0 i0 key ns wr) (fun _ wr=>s.size+1-posOf (wr.cell? ⟨bp,1,none⟩))
 case atStart=>exact HLO.out
 case round=>
  clear HLO;obtain⟨q,p,ms,f,vR,kR,hiq,hp,hps,hf,hN,hlen,hwf,hfin,hGr,hC,hB,hM⟩:=hrel;have HM:Hid (posOf (wr.cell? ⟨bp,1,none⟩)=p):=cpos_rd hN.cd;have hgt:ns.length<(objN ns none key i0 ms).length:=by rw[objN_length];omega
  have hkl:(ms.map (·.1)).length≤70000:=by rw[List.length_map];have:=len_sizeM ms;rw[objN_length]at hlen;omega
  have hca:=cmemb bp s p (objN ns none key i0 ms) ns.length dp vR kR wr b0 bM b1 bm (ms.map (·.1)) d hv hs hbp hN hGr hps (by omega) hwf hgt hB hM hkl hgm;obtain⟨f,rfl⟩:∃g,f=g+1:=⟨f-1,by omega⟩;have HP:Hid (q+nb (sfx s q)=p):=hp;have HF:Hid (objL (valL d) (sfx s i0) i0=finO ms i0 q (objF (valL d) (f+1) (ms.map (·.1)) (sfx s q) q)):=hfin;have HC:Hid (Chg bp O0 w0 (own vR kR) wr):=hC;have HB:Hid _:=hB;have HX:Hid (i0<q∧q≤p∧(objN ns none key i0 ms).length≤q∧WFk (objN ns none key i0 ms)∧(sfx s q).length<f+1):=⟨hiq,by omega,hlen,hwf,hf⟩;have HG:Hid (GV wr∧CN bp s p (objN ns none key i0 ms) dp vR kR wr):=⟨hGr,hN⟩;have hlt:=hN.cd.lt;clear hfin hC hB hiq hlen hwf hf hp hGr hN hgt hv hM hkl;cases hR:memL (valL d) (ms.map (·.1)) s p with
  | error x=>
    obtain⟨e,a⟩:=x;rw[hR]at hca;have HR:Hid (objL (valL d) (sfx s i0) i0=.error (e,a)):=by
     show objL (valL d) (sfx s i0) i0=.error (e,a)
     rcases objF_memE (f:=f) HP.out hR with h|h
     ·rw[HF.out,h.1];rfl
     ·rw[HF.out,h];rfl
    clear hR;go_wp2_with fail
    refine hca.mono ?_;rintro r w1 ⟨h0,rfl,h1⟩;have H1:Hid (0<e∧Chg bp O0 w0 (fun _=>False) w1):=⟨h0,HC.out.chm_trans h1 h0m⟩;clear hca h0 h1;go_wp2;refine⟨rfl,?_⟩;rw[HR.out];exact⟨H1.out.1,rfl,H1.out.2⟩
  | ok x=>
    obtain⟨⟨name,t⟩,n⟩:=x;rw[hR]at hca;have HV:Hid (memL (valL d) (ms.map (·.1)) s p=.ok ((name,t),n)):=hR;obtain⟨hpn,hsz,_⟩:=memL_ok hR;clear hR;go_wp2_with fail
    refine hca.mono ?_;rintro r w1 ⟨rfl,v1,k1,hN1,hM1,hC1⟩;have hBB:BoxO b0 bM b1 bp bm ns.length (own v1 k1) w1:=HB.out.chm hC1;have hG1:GV w1:=HG.out.1.chm hC1 hbp hlt HG.out.2.above hgm;have hC2:=HC.out.chm_trans hC1 h0m;rw[objN_add]at hN1;have HN1:Hid (CN bp s (p+n) (objN ns none key i0 (ms++[(name,t)])) dp v1 k1 w1):=hN1;have H1:Hid (BoxO b0 bM b1 bp bm ns.length (own v1 k1) w1∧GV w1∧Chg bp O0 w0 (own v1 k1) w1∧NM bm (ms.map (·.1)++[name]) w1):=⟨hBB,hG1,hC2,hM1⟩;have hbl:=cblanks bp s (p+n) v1 dp w1 (by omega) hN1.cd hpn;have hb3:=nb_leS s (p+n) hpn;generalize hp3:p+n+nb (sfx s (p+n))=p3 at hbl hb3;have HP3:Hid (p+n+nb (sfx s (p+n))=p3):=hp3;have HSZ:Hid (t.size≤n∧p+n≤p3):=⟨by omega,by omega⟩;clear hBB hG1 hC2 hN1 hca hC1 hp3 hsz hpn hM1;go_wp2_with fail
    refine hbl.mono ?_;rintro r w2 ⟨rfl,h2,o2⟩;have HN2:Hid (CN bp s p3 (objN ns none key i0 (ms++[(name,t)])) dp v1 k1 w2):=HN1.out.onl h2 o2;have H2:Hid (BoxO b0 bM b1 bp bm ns.length (own v1 k1) w2∧GV w2∧Chg bp O0 w0 (own v1 k1) w2∧NM bm (ms.map (·.1)++[name]) w2):=⟨H1.out.1.chm (o2.chg _).chm,H1.out.2.1.onl o2 hbp HN1.out.cd.lt,H1.out.2.2.1.trans (o2.chg _),H1.out.2.2.2.chg (o2.chg (own v1 k1)) H1.out.1.nm.1 H1.out.1.nm.2.1⟩;clear hbl o2 HN1 H1;by_cases h93:(sfx s p3).head?=some 125
    ·have ht:=ctake_yes bp s p3 v1 dp 125 w2 (by omega) h2 h93
     rw[show((125:UInt8).toNat:Int)=125 from rfl]at ht;have HR:Hid (objL (valL d) (sfx s i0) i0=.ok (.obj (ms++[(name,t)]) i0,p3-i0+1)):=by
      show objL (valL d) (sfx s i0) i0=_
      have hx:=HX.out;have hz:=HSZ.out;rw[HF.out,objF_last2 HP.out HV.out HP3.out (by rw[h93];decide),finO_last ms (name,t) i0 q p3 (by omega) (by omega),if_pos h93]
     clear h93;go_wp2_with fail
     refine ht.mono ?_;rintro r w3 ⟨rfl,h3,o3⟩;have HN3:Hid (CN bp s (p3+1) (objN ns none key i0 (ms++[(name,t)])) dp v1 k1 w3):=HN2.out.onl h3 o3;have H3:Hid (Chg bp O0 w0 (own v1 k1) w3):=H2.out.2.2.1.trans (o3.chg _);clear ht o3;go_wp2;refine bodyPost_ret (results_none rfl _ _ _) rfl ?_;rw[HR.out];refine⟨rfl,v1,k1,?_,H3.out⟩;rw[show i0+(p3-i0+1)=p3+1 by have:=HX.out;have:=HSZ.out;omega];exact HN3.out
    ·have ht:=ctake_no bp s p3 v1 dp 125 w2 h2 hb3 (by decide) h93
     rw[show((125:UInt8).toNat:Int)=125 from rfl]at ht;go_wp2_with fail
     refine ht.mono ?_;rintro r w3 ⟨rfl,h3,o3⟩;have HN3:Hid (CN bp s p3 (objN ns none key i0 (ms++[(name,t)])) dp v1 k1 w3):=HN2.out.onl h3 o3;have H3:Hid (BoxO b0 bM b1 bp bm ns.length (own v1 k1) w3∧GV w3∧Chg bp O0 w0 (own v1 k1) w3∧NM bm (ms.map (·.1)++[name]) w3):=⟨H2.out.1.chm (o3.chg _).chm,H2.out.2.1.onl o3 hbp h2.lt,H2.out.2.2.1.trans (o3.chg _),H2.out.2.2.2.chg (o3.chg (own v1 k1)) H2.out.1.nm.1 H2.out.1.nm.2.1⟩;clear ht o3 H2 HN2 h2;by_cases h44:(sfx s p3).head?=some 44
     ·have hn:=cneed_yes bp s p3 v1 dp 44 w3 (by omega) h3 h44
      rw[show((44:UInt8).toNat:Int)=44 from rfl]at hn;have h44l:=head_lt h44;have hbl:=fun w' h'=>cblanks bp s (p3+1) v1 dp w' (by omega) h' (by omega)
      have HR:Hid (objL (valL d) (sfx s i0) i0=finO (ms++[(name,t)]) i0 (p3+1) (objF (valL d) f (ms.map (·.1)++[name]) (sfx s (p3+1)) (p3+1))):=by
       show objL (valL d) (sfx s i0) i0=_
       have hx:=HX.out;have hz:=HSZ.out;rw[HF.out,objF_more2 HP.out HV.out HP3.out h44];exact finO_more ms (name,t) i0 q (p3+1) (by omega) (by omega) _
      have hp4:=nb_leS s (p3+1) (by omega);clear h93 h44;go_wp2_with fail
      refine hn.mono ?_;rintro r w4 ⟨rfl,h4,o4⟩;have HN4:Hid (CN bp s (p3+1) (objN ns none key i0 (ms++[(name,t)])) dp v1 k1 w4):=HN3.out.onl h4 o4;have H4:Hid (BoxO b0 bM b1 bp bm ns.length (own v1 k1) w4∧GV w4∧Chg bp O0 w0 (own v1 k1) w4∧NM bm (ms.map (·.1)++[name]) w4):=⟨H3.out.1.chm (o4.chg _).chm,H3.out.2.1.onl o4 hbp h3.lt,H3.out.2.2.1.trans (o4.chg _),H3.out.2.2.2.chg (o4.chg (own v1 k1)) H3.out.1.nm.1 H3.out.1.nm.2.1⟩;clear hn o4 H3 HN3 h3;go_wp2_with fail
      refine(hbl w4 h4).mono ?_;rintro r w5 ⟨rfl,h5,o5⟩;have HN5:Hid (CN bp s (p3+1+nb (sfx s (p3+1))) (objN ns none key i0 (ms++[(name,t)])) dp v1 k1 w5):=HN4.out.onl h5 o5;have H5:Hid (BoxO b0 bM b1 bp bm ns.length (own v1 k1) w5∧GV w5∧Chg bp O0 w0 (own v1 k1) w5∧NM bm (ms.map (·.1)++[name]) w5):=⟨H4.out.1.chm (o5.chg _).chm,H4.out.2.1.onl o5 hbp h4.lt,H4.out.2.2.1.trans (o5.chg _),H4.out.2.2.2.chg (o5.chg (own v1 k1)) H4.out.1.nm.1 H4.out.1.nm.2.1⟩;clear hbl o5 H4 HN4 h4;go_wp2;have hx:=HX.out;have hz:=HSZ.out;have hmap:(ms++[(name,t)]).map (·.1)=ms.map (·.1)++[name]:=by simp
      refine⟨⟨p3+1,_,ms++[(name,t)],f,v1,k1,by omega,rfl,hp4,?_,HN5.out,?_,?_,?_,H5.out.2.1,H5.out.2.2.1,H5.out.1,?_⟩,?_⟩
      ·have:=hx.2.2.2.2;rw[sfx_length]at this ⊢;omega
      ·have e1:=hx.2.2.1
       rw[objN_length]at e1 ⊢;rw[sizeM_append];omega
      ·rw[←objN_add];exact flat_wf hx.2.2.2.1 (some ns.length) name t
      ·rw[hmap];exact HR.out
      ·rw[hmap];exact H5.out.2.2.2
      ·rw[HM.out,cpos_rd h5];omega
     ·have hn:=cneed_no bp s p3 v1 dp 44 w3 h3 hb3 (by decide) h44
      rw[show((44:UInt8).toNat:Int)=44 from rfl]at hn;have HR:Hid (objL (valL d) (sfx s i0) i0=.error (2,p3)):=by
       show objL (valL d) (sfx s i0) i0=_
       have hx:=HX.out;have hz:=HSZ.out;rw[HF.out,objF_last2 HP.out HV.out HP3.out h44,finO_last ms (name,t) i0 q p3 (by omega) (by omega),if_neg h93]
      clear h93 h44;go_wp2_with fail
      refine hn.mono ?_;rintro r w4 ⟨rfl,h4,o4⟩;have H4:Hid (Chg bp O0 w0 (own v1 k1) w4):=H3.out.2.2.1.trans (o4.chg _);clear hn o4;go_wp2;refine⟨rfl,?_⟩;rw[HR.out];exact⟨by omega,rfl,H4.out.drop⟩
end
end Go.Proofs.YtaghclgookfmnaaGreatDoor
