import Derived.Test.YtbbopknnoamkbaaGreatDoorK5
import Derived.Maps.OwnSet
import Derived.StringKeys
import Derived.Test.YtbbopknnoamkbaaGreatDoorJPureP
set_option maxHeartbeats 4000000
set_option maxRecDepth 4000
namespace Go.Proofs.YtbbopknnoamkbaaGreatDoor
open Go.RowKit Go.Maps
set_option linter.unusedVariables false
theorem slaw:Keyed Tryz.prog 9:=string_keyed Tryz.underlying9
theorem zeroU(w:World):(zeroValue 202).run Tryz.prog w=.ok (.agg #[]) w:=by kernel_rfl
def NM(bm:Nat)(ks:List (List UInt8))(w:World):Prop:=w.ownsMap Tryz.prog 9 (unitElem (H:=Unit)) bm ks.length (setOf (.agg []) (ks.map Lit.string))
theorem keylit(a:List UInt8):WideAt.IsKeyLit (.string a):=by simp[WideAt.IsKeyLit]
theorem same_string(a b:List UInt8):(Lit.string a).sameKey (.string b)=decide (a=b):=by
 rw[Bool.eq_iff_iff,decide_eq_true_iff];constructor
 ·intro h;have:=WideAt.sameKey_eq h;injection this
 ·rintro rfl;simp[Lit.sameKey]
theorem has_names(ks:List (List UInt8))(name:List UInt8):Maps.has (setOf (H:=Unit) (.agg []) (ks.map Lit.string)) (.string name)=decide (name∈ks):=by
 rw[has_setOf _ _ _ (by intro x hx;simp at hx;obtain⟨a,_,rfl⟩:=hx;exact keylit a)];rw[List.any_map,Bool.eq_iff_iff,decide_eq_true_iff,List.any_eq_true];constructor
 ·rintro⟨a,ha,h⟩
  simp only[Function.comp,same_string,decide_eq_true_iff]at h;exact h▸ha
 ·intro h;exact⟨name,h,by simp[same_string]⟩
theorem NM.kept{bm:Nat}{ks:List (List UInt8)}{w w':World}(h:NM bm ks w)(hk:w'.heap[bm]?=w.heap[bm]?):NM bm ks w':=by
 obtain⟨es,clock,a,b,c,d⟩:=h;exact⟨es,clock,hk.trans a,b,c,d⟩
theorem NM.lt{bm:Nat}{ks:List (List UInt8)}{w:World}(h:NM bm ks w):bm<w.heap.size:=World.ownsMap.lt h
theorem Onl2.trans{bp a:Nat}{x y z:World}(h:Onl2 bp a x y)(g:Onl2 bp a y z):Onl2 bp a x z:=
 ⟨g.os.trans h.os,g.tape.trans h.tape,g.output.trans h.output,Nat.le_trans h.size g.size,fun k hk h1 h2=>(g.block k (Nat.lt_of_lt_of_le hk h.size) h1 h2).trans (h.block k hk h1 h2)⟩
theorem strF_name:∀(f:Nat) (l t:List UInt8) (n:Nat),strF f l=.ok (t,n)→t.length≤n:=by
 intro f;induction f with
 | zero=>intro l t n h;simp[strF]at h
 | succ f ih=>
   intro l t n h;match l with
   | []=>simp[strF]at h
   | c::r=>
     have sh:∀(a:List UInt8) (k:Nat) (X:Except Nat (List UInt8×Nat)),a.length≤k→(∀t n,X=.ok (t,n)→t.length≤n)→shiftS a k X=.ok (t,n)→t.length≤n:=by
      intro a k X ha hX hx;cases X with
      | error o=>simp[shiftS]at hx
      | ok q=>obtain⟨t',n'⟩:=q;have:=hX t' n' rfl;simp[shiftS]at hx;obtain⟨rfl,rfl⟩:=hx;simp;omega
     rw[strF]at h;split at h
     ·injection h with h;injection h with h1 h2;subst h1;simp
     ·split at h
      ·cases h
      ·split at h
       ·split at h
        ·cases h
        ·next hE=>exact sh _ _ _ (escL_ok hE).1 (fun t n=>ih _ t n) h
       ·split at h
        ·cases h
        ·exact sh _ _ _ (by simp;omega) (fun t n=>ih _ t n) h
theorem quotL_name{l t:List UInt8}{n:Nat}(h:quotL l=.ok (t,n)):t.length≤n:=by
 unfold quotL at h;split at h
 ·split at h
  ·split at h
   ·next hS=>have:=strF_name _ _ _ _ hS;injection h with h;injection h with h1 h2;subst h1;omega
   ·cases h
  ·cases h
 ·cases h
section
variable (bp:Nat) (s:ByteArray) (i:Nat) (vL:Value) (dp bm:Nat) (ks:List (List UInt8)) (w:World)
def MQ(R:Except Nat (List UInt8×Nat))(r:Ending)(w':World):Prop:=
 match R with
 | .error o=>r=.panicked (flt 2 (i+o))∧Onl2 bp bm w w'
 | .ok (name,m)=>(name∈ks→r=.panicked (flt 4 i)∧Onl2 bp bm w w')∧(name∉ks→r=.returned (.string ⟨name.toArray⟩)∧CD bp s (i+m) vL dp w'∧NM bm (ks++[name]) w'∧Onl2 bp bm w w')
theorem cname(hs:s.size≤65536)(hbp:9≤bp)(h:CD bp s i vL dp w)(hG:GV w)(hi:i≤s.size)(hM:NM bm ks w)(hbm:bm≠bp)(hkl:ks.length≤70000):Calls Tryz.prog 147 #[.pointer (some ⟨bp,0,none⟩),.map (some bm)] w fun r w'=>MQ bp s i vL dp bm ks w (quotL (sfx s i)) r w':=by
 have hq:=cquot bp s i vL dp w (by omega) hbp h hG hi;obtain⟨c0,c1,c2,c3,cf⟩:=h.cell;have hbl:=hM.lt;cases hQ:quotL (sfx s i)with
 | error o=>
   rw[hQ]at hq;clear hQ;go_enter Tryz.func147,Tryz.ntmps147;go_wp2_with fail
   refine hq.mono ?_;rintro r w1 ⟨⟨rfl,j,h1⟩,o1⟩;have O1:Hid (Onl bp w w1):=o1;clear o1 hq;go_wp2;exact⟨rfl,rfl,O1.out.two⟩
 | ok q=>
   obtain⟨name,m⟩:=q;rw[hQ]at hq;have hml:=quotL_len hQ;have hnm:name.length≤65536:=by have:=quotL_name hQ;omega
   clear hQ;have hkey:keyOf Tryz.prog 9 (.string ⟨name.toArray⟩)=some (.string name):=by
    have:=WideMaps.keyOf_string_mk (P:=Tryz.prog) (s:=⟨name.toArray⟩) Tryz.underlying9 (by unfold maxLen;show name.toArray.size≤_;simp;omega);simpa using this
   by_cases hk:name∈ks
   ·have hhas:Maps.has (setOf (H:=Unit) (.agg []) (ks.map Lit.string)) (.string name)=true:=by rw[has_names];simpa using hk
    have hth:∀w',Calls Tryz.prog 121 #[.int .i64 4,.int .i64 (i:Int)] w' fun r w''=>r=.panicked (flt 4 i)∧w''=w':=fun w'=>cthrow 4 i w'
    go_enter Tryz.func147,Tryz.ntmps147;go_wp2_with fail
    refine hq.mono ?_;rintro r w1 ⟨⟨rfl,h1⟩,o1⟩;have O1:Hid (Onl bp w w1):=o1;have hM1:NM bm ks w1:=hM.kept (o1.block bm hbl (fun e=>by injection e with e;exact hbm e));have hM1':w1.ownsMap Tryz.prog 9 (unitElem (H:=Unit)) bm ks.length (setOf (.agg []) (ks.map Lit.string)):=hM1;clear o1 hq;go_wp2_with (at_lookup;refine wpList_lookup_own_unit _ rfl _ _ 181 rfl 9 202 slaw Tryz.underlying181 (zeroU _) bm ks.length _ rfl hM1' _ _ rfl hkey ?_;rw[hhas])
    refine(hth _).mono ?_;rintro r w2 ⟨rfl,rfl⟩;clear hth;go_wp2;refine⟨rfl,fun _=>⟨rfl,(Onl.alloc O1.out _).two⟩,fun hk'=>absurd hk hk'⟩
   ·have hhas:Maps.has (setOf (H:=Unit) (.agg []) (ks.map Lit.string)) (.string name)=false:=by rw[has_names];simpa using hk
    go_enter Tryz.func147,Tryz.ntmps147;go_wp2_with fail
    refine hq.mono ?_;rintro r w1 ⟨⟨rfl,h1⟩,o1⟩;have O1:Hid (Onl bp w w1):=o1;have hM1:NM bm ks w1:=hM.kept (o1.block bm hbl (fun e=>by injection e with e;exact hbm e));have hM1':w1.ownsMap Tryz.prog 9 (unitElem (H:=Unit)) bm ks.length (setOf (.agg []) (ks.map Lit.string)):=hM1;have hN1:Hid (ks.length<maxLen):=by show ks.length<maxLen;unfold maxLen;omega
    clear o1 hq;go_wp2_with (first|(at_lookup;refine wpList_lookup_own_unit _ rfl _ _ 181 rfl 9 202 slaw Tryz.underlying181 (zeroU _) bm ks.length _ rfl hM1' _ _ rfl hkey ?_;rw[hhas])|(at_mapUpdate;refine wpList_mapUpdate_own _ rfl _ _ _ 181 rfl 9 202 slaw Tryz.underlying181 (unitElem (H:=Unit)) bm ks.length _ rfl (World.ownsMap.alloc hM1' _) hN1.out _ _ _ rfl rfl hkey _ [] unitElem_mk ?_;intro w2 hM2 hg2;have HM2:Hid _:=hM2;have G2:Hid _:=hg2;clear hM2 hg2))
    go_wp2;go_ret;have hg:=G2.out;refine⟨fun hk'=>absurd hk' hk,fun _=>⟨rfl,?_,?_,?_⟩⟩
    ·unfold CD
     rw[hg.block bp (by simp;have:=h1.lt;omega) (fun e=>by injection e with e;exact hbm e.symm),heap_alloc_old _ _ h1.lt];exact h1
    ·have:=HM2.out
     rw[←setOf_snoc]at this;show World.ownsMap _ _ _ _ _ _ _
     rw[List.length_append,List.map_append];exact this
    ·have o:=O1.out
     refine⟨hg.os.trans o.os,hg.tape.trans o.tape,hg.output.trans o.output,by have:=hg.size;have:=o.size;simp at *;omega,fun k hk' h1' h2'=>?_⟩;rw[hg.block k (by simp;have:=o.size;omega) (fun e=>by injection e with e;exact h2' e),heap_alloc_old _ _ (by have:=o.size;omega)];exact o.block k hk' (fun e=>by injection e with e;exact h1' e)
end
structure Chm (bp bm:Nat) (O:Nat→Prop) (w:World) (O':Nat→Prop) (w':World):Prop where
 os:w'.os=w.os
 tape:w'.tape=w.tape
 output:w'.output=w.output
 size:w.heap.size≤w'.heap.size
 block:∀k,k<w.heap.size→k≠bp→k≠bm→¬O k→w'.heap[k]?=w.heap[k]?
 own:∀k,O' k→O k∨w.heap.size≤k
theorem Chg.chm{bp bm:Nat}{O O':Nat→Prop}{w w':World}(h:Chg bp O w O' w'):Chm bp bm O w O' w':=⟨h.os,h.tape,h.output,h.size,fun k hk h1 _ h2=>h.block k hk h1 h2,h.own⟩
theorem Onl2.chm{bp bm:Nat}{w w':World}(h:Onl2 bp bm w w')(O:Nat→Prop):Chm bp bm O w O w':=⟨h.os,h.tape,h.output,h.size,fun k hk h1 h2 _=>h.block k hk h1 h2,fun _ h=>.inl h⟩
theorem Chm.trans{bp bm:Nat}{O O1 O2:Nat→Prop}{a b c:World}(h:Chm bp bm O a O1 b)(g:Chm bp bm O1 b O2 c):Chm bp bm O a O2 c:=by
 refine⟨g.os.trans h.os,g.tape.trans h.tape,g.output.trans h.output,Nat.le_trans h.size g.size,fun k hk hb hm hO=>?_,fun k hk=>?_⟩
 ·refine(g.block k (Nat.lt_of_lt_of_le hk h.size) hb hm (fun h1=>?_)).trans (h.block k hk hb hm hO)
  rcases h.own k h1 with h2|h2
  ·exact hO h2
  ·omega
 ·rcases g.own k hk with h1|h1
  ·exact h.own k h1
  ·exact .inr (Nat.le_trans h.size h1)
theorem Chg.chm_trans{bp bm:Nat}{O O1 O2:Nat→Prop}{a b c:World}(h:Chg bp O a O1 b)(g:Chm bp bm O1 b O2 c)(hm:a.heap.size≤bm):Chg bp O a O2 c:=by
 have:=(h.chm (bm:=bm)).trans g;exact⟨this.os,this.tape,this.output,this.size,fun k hk h1 h2=>this.block k hk h1 (by omega) h2,this.own⟩
theorem Chm.drop{bp bm:Nat}{O O':Nat→Prop}{w w':World}(h:Chm bp bm O w O' w'):Chm bp bm O w (fun _=>False) w':=⟨h.os,h.tape,h.output,h.size,h.block,fun _ h=>h.elim⟩
structure BoxO (b0 bM b1 bp bm u:Nat) (O:Nat→Prop) (w:World):Prop where
 h0:w.heap[b0]?=some (.cells #[.pointer (some ⟨bp,0,none⟩)] 64 (0,0))
 hM:w.heap[bM]?=some (.cells #[.map (some bm)] 181 (0,0))
 h1:w.heap[b1]?=some (.cells #[.int .i64 (u:Int)] 3 (0,0))
 n0:b0≠bp∧b0≠bm∧¬O b0
 nM:bM≠bp∧bM≠bm∧¬O bM
 n1:b1≠bp∧b1≠bm∧¬O b1
 nm:bm≠bp∧¬O bm∧bm<w.heap.size
theorem BoxO.chm{b0 bM b1 bp bm u:Nat}{O O':Nat→Prop}{w w':World}(h:BoxO b0 bM b1 bp bm u O w)(hc:Chm bp bm O w O' w'):BoxO b0 bM b1 bp bm u O' w':=by
 have l0:b0<w.heap.size:=(Array.getElem?_eq_some_iff.1 h.h0).1;have lM:bM<w.heap.size:=(Array.getElem?_eq_some_iff.1 h.hM).1;have l1:b1<w.heap.size:=(Array.getElem?_eq_some_iff.1 h.h1).1;have key:∀b,b<w.heap.size→¬O b→¬O' b:=fun b hb hO h'=>by
  rcases hc.own b h' with h1|h1
  ·exact hO h1
  ·omega
 exact⟨(hc.block b0 l0 h.n0.1 h.n0.2.1 h.n0.2.2).trans h.h0,(hc.block bM lM h.nM.1 h.nM.2.1 h.nM.2.2).trans h.hM,(hc.block b1 l1 h.n1.1 h.n1.2.1 h.n1.2.2).trans h.h1,⟨h.n0.1,h.n0.2.1,key b0 l0 h.n0.2.2⟩,⟨h.nM.1,h.nM.2.1,key bM lM h.nM.2.2⟩,⟨h.n1.1,h.n1.2.1,key b1 l1 h.n1.2.2⟩,⟨h.nm.1,key bm h.nm.2.2 h.nm.2.1,Nat.lt_of_lt_of_le h.nm.2.2 hc.size⟩⟩
theorem NM.chg{bp bm:Nat}{O O':Nat→Prop}{ks:List (List UInt8)}{w w':World}(h:NM bm ks w)(hc:Chg bp O w O' w')(hb:bm≠bp)(hO:¬O bm):NM bm ks w':=h.kept (hc.block bm h.lt hb hO)
theorem GV.chm{bp bm:Nat}{w w':World}{O O':Nat→Prop}(h:GV w)(hc:Chm bp bm O w O' w')(hb:9≤bp)(hl:bp<w.heap.size)(hO:∀k,O k→bp<k)(hm:9≤bm):GV w':=
 h.kept fun k hk=>hc.block k (by omega) (by omega) (by omega) (fun h=>by have:=hO k h;omega)
def memL(v:List UInt8→Nat→JR JT)(ks:List (List UInt8))(s:ByteArray)(p:Nat):JR (List UInt8×JT):=
 match quotL (sfx s p)with
 | .error o=>.error (2,p+o)
 | .ok (name,m)=>
   if name∈ks then .error (4,p)
   else if(sfx s (p+m+nb (sfx s (p+m)))).head?=some 58 then
    (match v (sfx s (p+m+nb (sfx s (p+m))+1+nb (sfx s (p+m+nb (sfx s (p+m))+1)))) (p+m+nb (sfx s (p+m))+1+nb (sfx s (p+m+nb (sfx s (p+m))+1)))with
      | .error e=>.error e
      | .ok (t,n)=>.ok ((name,t),p+m+nb (sfx s (p+m))+1+nb (sfx s (p+m+nb (sfx s (p+m))+1))+n-p))
   else .error (2,p+m+nb (sfx s (p+m)))
section
variable (bp:Nat) (s:ByteArray) (i:Nat) (ns:List Nd) (u:Nat) (dp:Nat) (vL:Value) (kvs:List Value) (w:World) (b0 bM b1 bm:Nat) (ks:List (List UInt8))
def OQ(O:Nat→Prop)(r:Ending)(w':World):JR (List UInt8×JT)→Prop
 | .ok (x,n)=>r=.returned (.tuple #[])∧∃vL' kvs',CN bp s (i+n) (addKid ns (some u) ns.length++flat ns.length x.1 x.2) dp vL' kvs' w'∧NM bm (ks++[x.1]) w'∧Chm bp bm O w (own vL' kvs') w'
 | .error (e,a)=>0<e∧r=.panicked (flt e a)∧Chm bp bm O w (fun _=>False) w'
theorem OQ_e{O:Nat→Prop}{r:Ending}{w':World}{R:JR (List UInt8×JT)}{e a:Nat}(h:R=.error (e,a))(he:0<e)(hr:r=.panicked (flt e a))(hc:Chm bp bm O w (fun _=>False) w'):OQ bp s i ns u dp w bm ks O r w' R:=by
 rw[h];exact⟨he,hr,hc⟩
theorem cmemb(d:Nat)(hv:CVal d dp)(hs:s.size≤65536)(hbp:9≤bp)(h:CN bp s i ns dp vL kvs w)(hG:GV w)(hi:i≤s.size)(hl:ns.length≤i)(hw:WFk ns)(hu:u<ns.length)(hB:BoxO b0 bM b1 bp bm u (own vL kvs) w)(hM:NM bm ks w)(hkl:ks.length≤70000)(hgm:9≤bm):Calls Tryz.prog 146 #[.pointer (some ⟨b0,0,none⟩),.pointer (some ⟨bM,0,none⟩),.pointer (some ⟨b1,0,none⟩)] w fun r w'=>OQ bp s i ns u dp w bm ks (own vL kvs) r w' (memL (valL d) ks s i):=by
 have hn:=cname bp s i vL dp bm ks w hs hbp h.cd hG hi hM hB.nm.1 hkl;have c0:w.cell? ⟨b0,0,none⟩=some (.pointer (some ⟨bp,0,none⟩)):=by rw[cell_of_row w b0 0 _ _ _ hB.h0];rfl
 have cM:w.cell? ⟨bM,0,none⟩=some (.map (some bm)):=by rw[cell_of_row w bM 0 _ _ _ hB.hM];rfl
 have hlt:=h.cd.lt;cases hQ:quotL (sfx s i)with
 | error o=>
   rw[hQ]at hn;have HR:Hid (memL (valL d) ks s i=.error (2,i+o)):=by show memL (valL d) ks s i=_;rw[memL,hQ]
   clear hQ hv;go_enter Tryz.func146,Tryz.ntmps146;go_wp2_with fail
   refine hn.mono ?_;rintro r w1 ⟨rfl,o1⟩;have O1:Hid _:=o1;clear o1 hn;go_wp2;exact⟨rfl,OQ_e bp s i ns u dp w bm ks HR.out (by omega) rfl (O1.out.chm _).drop⟩
 | ok q=>
   obtain⟨name,m⟩:=q;rw[hQ]at hn;have hml:=quotL_len hQ;have hm1:=quotL_pos hQ;by_cases hk:name∈ks
   ·have HR:Hid (memL (valL d) ks s i=.error (4,i)):=by show memL (valL d) ks s i=_;rw[memL,hQ];simp[hk]
    have hn2:=hn.mono (R':=fun r w'=>r=.panicked (flt 4 i)∧Onl2 bp bm w w') (fun r w' hh=>hh.1 hk);clear hQ hv hn;go_enter Tryz.func146,Tryz.ntmps146;go_wp2_with fail
    refine hn2.mono ?_;rintro r w1 ⟨rfl,o1⟩;have O1:Hid _:=o1;clear o1 hn2;go_wp2;exact⟨rfl,OQ_e bp s i ns u dp w bm ks HR.out (by omega) rfl (O1.out.chm _).drop⟩
   ·have hn2:=hn.mono (R':=fun r w'=>r=.returned (.string ⟨name.toArray⟩)∧CD bp s (i+m) vL dp w'∧NM bm (ks++[name]) w'∧Onl2 bp bm w w') (fun r w' hh=>hh.2 hk)
    clear hn;have hb3:=nb_leS s (i+m) hml;have hbl:=fun w' h'=>cblanks bp s (i+m) vL dp w' (by omega) h' hml
    generalize hp3:i+m+nb (sfx s (i+m))=p3 at hbl hb3
    have HR0:Hid (memL (valL d) ks s i=if(sfx s p3).head?=some 58 then
     (match valL d (sfx s (p3+1+nb (sfx s (p3+1)))) (p3+1+nb (sfx s (p3+1)))with
       | .error e=>.error e
       | .ok (t,n)=>.ok ((name,t),p3+1+nb (sfx s (p3+1))+n-i))
     else .error (2,p3)):=by
     show memL (valL d) ks s i=_
     rw[memL,hQ];simp only[hk,if_false,hp3]
    have HP3:Hid (i+m≤p3):=by show i+m≤p3;omega
    clear hQ hp3;go_enter Tryz.func146,Tryz.ntmps146;go_wp2_with fail
    refine hn2.mono ?_;rintro r w1 ⟨rfl,h1,hM1,o1⟩;have hC1:=o1.chm (own vL kvs);have hB1:=hB.chm hC1;have hN1:NK (bp+1) 42 vL kvs ns w1:=h.nk.kept fun g hg=>o1.block g (h.nk.own_lt hg).2 (by have:=(h.nk.own_lt hg).1;omega) (fun e=>hB.nm.2.1 (e▸hg))
    have hG1:GV w1:=hG.chm hC1 hbp hlt h.above hgm;have d0:w1.cell? ⟨b0,0,none⟩=some (.pointer (some ⟨bp,0,none⟩)):=by rw[cell_of_row w1 b0 0 _ _ _ hB1.h0];rfl
    have H1:Hid (Chm bp bm (own vL kvs) w (own vL kvs) w1∧BoxO b0 bM b1 bp bm u (own vL kvs) w1∧NK (bp+1) 42 vL kvs ns w1∧GV w1∧NM bm (ks++[name]) w1):=⟨hC1,hB1,hN1,hG1,hM1⟩;clear c0 cM hn2 o1 hC1 hB1 hN1 hG1 hM1;go_wp2_with fail
    refine(hbl w1 h1).mono ?_;rintro r w2 ⟨rfl,h2,o2⟩;have H2:Hid (Chm bp bm (own vL kvs) w (own vL kvs) w2∧BoxO b0 bM b1 bp bm u (own vL kvs) w2∧NK (bp+1) 42 vL kvs ns w2∧GV w2∧NM bm (ks++[name]) w2):=by
     obtain⟨a1,a2,a3,a4,a5⟩:=H1.out;exact⟨a1.trans (o2.chg _).chm,a2.chm (o2.chg _).chm,a3.onl o2 (by omega),a4.onl o2 hbp h1.lt,a5.chg (o2.chg (own vL kvs)) a2.nm.1 a2.nm.2.1⟩
    have e0:w2.cell? ⟨b0,0,none⟩=some (.pointer (some ⟨bp,0,none⟩)):=by rw[cell_of_row w2 b0 0 _ _ _ H2.out.2.1.h0];rfl
    clear hbl o2 H1 d0 h1;by_cases h58:(sfx s p3).head?=some 58
    ·have h58l:=head_lt h58
     have hne:=cneed_yes bp s p3 vL dp 58 w2 (by omega) h2 h58;rw[show((58:UInt8).toNat:Int)=58 from rfl]at hne;have hb4:=nb_leS s (p3+1) (by omega);have hbl:=fun w' h'=>cblanks bp s (p3+1) vL dp w' (by omega) h' (by omega)
     have HR1:=HR0.out;rw[if_pos h58]at HR1;generalize hp4:p3+1+nb (sfx s (p3+1))=p4 at hbl hb4 HR1;have HR:Hid _:=HR1;have HP4:Hid (p3+1≤p4):=by show p3+1≤p4;omega
     clear h58 HR1 HR0 hp4;go_wp2_with fail
     refine hne.mono ?_;rintro r w3 ⟨rfl,h3,o3⟩;have H3:Hid (Chm bp bm (own vL kvs) w (own vL kvs) w3∧BoxO b0 bM b1 bp bm u (own vL kvs) w3∧NK (bp+1) 42 vL kvs ns w3∧GV w3∧NM bm (ks++[name]) w3):=by
      obtain⟨a1,a2,a3,a4,a5⟩:=H2.out;exact⟨a1.trans (o3.chg _).chm,a2.chm (o3.chg _).chm,a3.onl o3 (by omega),a4.onl o3 hbp h2.lt,a5.chg (o3.chg (own vL kvs)) a2.nm.1 a2.nm.2.1⟩
     have f0:w3.cell? ⟨b0,0,none⟩=some (.pointer (some ⟨bp,0,none⟩)):=by rw[cell_of_row w3 b0 0 _ _ _ H3.out.2.1.h0];rfl
     clear hne o3 H2 e0 h2;go_wp2_with fail
     refine(hbl w3 h3).mono ?_;rintro r w4 ⟨rfl,h4,o4⟩;have H4:Hid (Chm bp bm (own vL kvs) w (own vL kvs) w4∧BoxO b0 bM b1 bp bm u (own vL kvs) w4∧NK (bp+1) 42 vL kvs ns w4∧GV w4∧NM bm (ks++[name]) w4):=by
      obtain⟨a1,a2,a3,a4,a5⟩:=H3.out;exact⟨a1.trans (o4.chg _).chm,a2.chm (o4.chg _).chm,a3.onl o4 (by omega),a4.onl o4 hbp h3.lt,a5.chg (o4.chg (own vL kvs)) a2.nm.1 a2.nm.2.1⟩
     have g0:w4.cell? ⟨b0,0,none⟩=some (.pointer (some ⟨bp,0,none⟩)):=by rw[cell_of_row w4 b0 0 _ _ _ H4.out.2.1.h0];rfl
     have g1:w4.cell? ⟨b1,0,none⟩=some (.int .i64 (u:Int)):=by rw[cell_of_row w4 b1 0 _ _ _ H4.out.2.1.h1];rfl
     clear hbl o4 H3 f0 h3;have hkd:=ckid bp s p4 ns u name dp vL kvs w4 d hv hs hbp ⟨h4,H4.out.2.2.1⟩ H4.out.2.2.2.1 hb4 (by have:=HP3.out;have:=HP4.out;omega) hw hu;clear hv;cases hV:valL d (sfx s p4) p4 with
     | error x=>
       obtain⟨e,a⟩:=x;rw[hV]at hkd;have HR2:Hid (memL (valL d) ks s i=.error (e,a)):=by have:=HR.out;rw[hV]at this;exact this
       clear hV HR;go_wp2_with fail
       refine hkd.mono ?_;rintro r w5 ⟨h0,rfl,h5⟩;have H5:Hid (0<e∧Chm bp bm (own vL kvs) w (fun _=>False) w5):=⟨h0,H4.out.1.trans h5.chm⟩;clear hkd h0 h5;go_wp2;exact⟨rfl,OQ_e bp s i ns u dp w bm ks HR2.out H5.out.1 rfl H5.out.2⟩
     | ok x=>
       obtain⟨t,n⟩:=x;rw[hV]at hkd;have HR2:Hid (memL (valL d) ks s i=.ok ((name,t),p4+n-i)):=by have:=HR.out;rw[hV]at this;exact this
       clear hV HR;go_wp2_with fail
       refine hkd.mono ?_;rintro r w5 ⟨rfl,v5,k5,hN5,hC5⟩;have H5:Hid (CN bp s (p4+n) (addKid ns (some u) ns.length++flat ns.length name t) dp v5 k5 w5∧NM bm (ks++[name]) w5∧Chm bp bm (own vL kvs) w (own v5 k5) w5):=by
        obtain⟨a1,a2,a3,a4,a5⟩:=H4.out;exact⟨hN5,a5.chg hC5 a2.nm.1 a2.nm.2.1,a1.trans hC5.chm⟩
       clear hkd hN5 hC5;go_wp2;go_end0
       rw[HR2.out];refine⟨rfl,v5,k5,?_,H5.out.2.1,H5.out.2.2⟩;rw[show i+(p4+n-i)=p4+n by have:=HP3.out;have:=HP4.out;omega];exact H5.out.1
    ·have hne:=cneed_no bp s p3 vL dp 58 w2 h2 hb3 (by decide) h58
     rw[show((58:UInt8).toNat:Int)=58 from rfl]at hne;have HR:Hid (memL (valL d) ks s i=.error (2,p3)):=by have:=HR0.out;rw[if_neg h58]at this;exact this
     clear h58 hv HR0;go_wp2_with fail
     refine hne.mono ?_;rintro r w3 ⟨rfl,h3,o3⟩;have H3:Hid (Chm bp bm (own vL kvs) w (own vL kvs) w3):=H2.out.1.trans (o3.chg _).chm;clear hne o3;go_wp2;exact⟨rfl,OQ_e bp s i ns u dp w bm ks HR.out (by omega) rfl H3.out.drop⟩
end
theorem memL_ok{d:Nat}{ks:List (List UInt8)}{s:ByteArray}{p n:Nat}{name:List UInt8}{t:JT}(h:memL (valL d) ks s p=.ok ((name,t),n)):p+n≤s.size∧t.size+1≤n∧name∉ks:=by
 unfold memL at h;split at h
 ·cases h
 ·next nm m hq=>
  have hl:=quotL_len hq;have hp1:=quotL_pos hq;split at h
  ·cases h
  ·next hk=>
   split at h
   ·next hc=>
    have hcl:=head_lt hc;split at h
    ·cases h
    ·next t' n' hv=>
     have hb:=nb_leS s (p+m+nb (sfx s (p+m))+1) (by omega);have h1:=valL_len s d _ _ _ _ hv hb;have h2:=valL_size d _ _ _ _ hv;injection h with h;injection h with h3 h4;injection h3 with h5 h6;subst h5;subst h6;exact⟨by omega,by omega,hk⟩
   ·cases h
theorem objF_memE{d:Nat}{s:ByteArray}{q p f e a:Nat}{ks:List (List UInt8)}(hp:q+nb (sfx s q)=p)(h:memL (valL d) ks s p=.error (e,a)):objF (valL d) (f+1) ks (sfx s q) q=.error (e,a)∧0<e∨objF (valL d) (f+1) ks (sfx s q) q=.error (e,a):=by
 right;unfold memL at h;split at h
 ·next o hq=>injection h with h;rw[←h];exact objF_quot (valL d) s q f p o ks hp hq
 ·next nm m hq=>
  split at h
  ·next hk=>injection h with h;rw[←h];exact objF_twice (valL d) s q f p m ks nm hp hq hk
  ·next hk=>
   split at h
   ·next hc=>
    split at h
    ·next e' hv=>injection h with h;rw[objF_val (valL d) s q f p _ _ m ks nm hp hq hk rfl hc rfl,hv,h]
    ·cases h
   ·next hc=>injection h with h;rw[←h];exact objF_colon (valL d) s q f p _ m ks nm hp hq hk rfl hc
theorem objF_memO{d:Nat}{s:ByteArray}{q p f n:Nat}{ks:List (List UInt8)}{name:List UInt8}{t:JT}(hp:q+nb (sfx s q)=p)(h:memL (valL d) ks s p=.ok ((name,t),n))(p5:Nat)(h5:p+n+nb (sfx s (p+n))=p5):objF (valL d) (f+1) ks (sfx s q) q=match sfx s p5 with
 | c::_=>
   if c=44 then(match objF (valL d) f (ks++[name]) (sfx s (p5+1)) (p5+1)with| .error e=>.error e| .ok (ms,k)=>.ok ((name,t)::ms,p5+1-q+k))
   else if c=125 then .ok ([(name,t)],p5+1-q)else .error (2,p5)
 | []=>.error (2,p5):=by
 unfold memL at h;split at h
 ·cases h
 ·next nm m hq=>
  have hp1:=quotL_pos hq;split at h
  ·cases h
  ·next hk=>
   split at h
   ·next hc=>
    split at h
    ·cases h
    ·next t' n' hv=>
     injection h with h;injection h with h3 h4;injection h3 with h6 h7;subst h6;subst h7;rw[objF_val (valL d) s q f p _ _ m ks nm hp hq hk rfl hc rfl,hv];have e1:p+m+nb (sfx s (p+m))+1+nb (sfx s (p+m+nb (sfx s (p+m))+1))+n'=p+n:=by omega
     simp only[e1,h5];rfl
   ·cases h
theorem objF_more2{d:Nat}{s:ByteArray}{q p f n p5:Nat}{ks:List (List UInt8)}{name:List UInt8}{t:JT}(hp:q+nb (sfx s q)=p)(h:memL (valL d) ks s p=.ok ((name,t),n))(h5:p+n+nb (sfx s (p+n))=p5)(hc:(sfx s p5).head?=some 44):objF (valL d) (f+1) ks (sfx s q) q=match objF (valL d) f (ks++[name]) (sfx s (p5+1)) (p5+1)with| .error e=>.error e| .ok (ms,k)=>.ok ((name,t)::ms,p5+1-q+k):=by
 rw[objF_memO hp h p5 h5];match hs:sfx s p5 with
 | []=>rw[hs]at hc;cases hc
 | c::r=>
   rw[hs]at hc;have hc:c=44:=by simpa using hc
   simp only[hc,if_true]
theorem objF_last2{d:Nat}{s:ByteArray}{q p f n p5:Nat}{ks:List (List UInt8)}{name:List UInt8}{t:JT}(hp:q+nb (sfx s q)=p)(h:memL (valL d) ks s p=.ok ((name,t),n))(h5:p+n+nb (sfx s (p+n))=p5)(hc:(sfx s p5).head?≠some 44):objF (valL d) (f+1) ks (sfx s q) q=if(sfx s p5).head?=some 125 then .ok ([(name,t)],p5+1-q)else .error (2,p5):=by
 rw[objF_memO hp h p5 h5];match hs:sfx s p5 with
 | []=>simp
 | c::r=>
   rw[hs]at hc;have hc:c≠44:=by simpa using hc
   simp[hc]
theorem finO_last(ms:List (List UInt8×JT))(x:List UInt8×JT)(i p p3:Nat)(h:i≤p)(hq:p≤p3)(c:Prop) [Decidable c]:finO ms i p (if c then .ok ([x],p3+1-p)else .error (2,p3))=if c then .ok (.obj (ms++[x]) i,p3-i+1)else .error (2,p3):=by
 split
 ·simp[finO];omega
 ·rfl
theorem len_sizeM(ms:List (List UInt8×JT)):ms.length≤sizeM ms:=by
 induction ms with
 | nil=>simp
 | cons a r ih=>obtain⟨k,t⟩:=a;have:=size_pos t;simp only[List.length_cons,sizeM];omega
section
variable (bp:Nat) (s:ByteArray) (dp:Nat) (w:World) (b0 bM b1 bm:Nat)
def LO(d:Nat)(w0:World)(O0:Nat→Prop)(i0:Nat)(key:List UInt8)(ns:List Nd)(wr:World):Prop:=
 ∃q p ms f vR kR,i0<q∧q+nb (sfx s q)=p∧p≤s.size∧(sfx s q).length<f∧CN bp s p (objN ns none key i0 ms) dp vR kR wr∧(objN ns none key i0 ms).length≤q∧WFk (objN ns none key i0 ms)∧objL (valL d) (sfx s i0) i0=finO ms i0 q (objF (valL d) f (ms.map (·.1)) (sfx s q) q)∧GV wr∧Chg bp O0 w0 (own vR kR) wr∧BoxO b0 bM b1 bp bm ns.length (own vR kR) wr∧NM bm (ms.map (·.1)) wr
def objFv:Value:=.func (.func 146) #[] #[.pointer (some ⟨b0,0,none⟩),.pointer (some ⟨bM,0,none⟩),.pointer (some ⟨b1,0,none⟩)]
theorem citemsO(d:Nat)(hv:CVal d dp)(hs:s.size≤65536)(hbp:9≤bp)(hgm:9≤bm)(w0:World)(h0m:w0.heap.size≤bm)(O0:Nat→Prop)(i0:Nat)(key:List UInt8)(ns:List Nd)(hLO:LO bp s dp b0 bM b1 bm d w0 O0 i0 key ns w):Calls Tryz.prog 181 #[.pointer (some ⟨bp,0,none⟩),.int .u8 125,objFv b0 bM b1] w fun r w'=>IQ bp s dp O0 w0 i0 key ns r w' (objL (valL d) (sfx s i0) i0):=by
 unfold objFv;have HLO:Hid _:=hLO;clear hLO;go_enter Tryz.func181,Tryz.ntmps181;go_wp2_with fail
 go_loopw [6] (fun _ wr=>LO bp s dp b0 bM b1 bm d w0 O0 i0 key ns wr) (fun _ wr=>s.size+1-posOf (wr.cell? ⟨bp,1,none⟩))
 case atStart=>exact HLO.out
 case round=>
  clear HLO;obtain⟨q,p,ms,f,vR,kR,hiq,hp,hps,hf,hN,hlen,hwf,hfin,hGr,hC,hB,hM⟩:=hrel;have HM:Hid (posOf (wr.cell? ⟨bp,1,none⟩)=p):=cpos_rd hN.cd;have hgt:ns.length<(objN ns none key i0 ms).length:=by rw[objN_length];omega
  have hkl:(ms.map (·.1)).length≤70000:=by rw[List.length_map];have:=len_sizeM ms;rw[objN_length]at hlen;omega
  have hca:=cmemb bp s p (objN ns none key i0 ms) ns.length dp vR kR wr b0 bM b1 bm (ms.map (·.1)) d hv hs hbp hN hGr hps (by omega) hwf hgt hB hM hkl hgm;obtain⟨f,rfl⟩:∃g,f=g+1:=⟨f-1,by omega⟩;have HP:Hid (q+nb (sfx s q)=p):=hp;have HF:Hid (objL (valL d) (sfx s i0) i0=finO ms i0 q (objF (valL d) (f+1) (ms.map (·.1)) (sfx s q) q)):=hfin;have HC:Hid (Chg bp O0 w0 (own vR kR) wr):=hC;have HB:Hid _:=hB;have HX:Hid (i0<q∧q≤p∧(objN ns none key i0 ms).length≤q∧WFk (objN ns none key i0 ms)∧(sfx s q).length<f+1):=⟨hiq,by omega,hlen,hwf,hf⟩;have HG:Hid (GV wr∧CN bp s p (objN ns none key i0 ms) dp vR kR wr):=⟨hGr,hN⟩;have hlt:=hN.cd.lt;clear hfin hC hB hiq hlen hwf hf hp hGr hN hgt hv hM hkl;cases hR:memL (valL d) (ms.map (·.1)) s p with
  | error x=>
    obtain⟨e,a⟩:=x;rw[hR]at hca;have HR:Hid (objL (valL d) (sfx s i0) i0=.error (e,a)):=by
     show objL (valL d) (sfx s i0) i0=.error (e,a)
     rcases objF_memE (f:=f) HP.out hR with h|h
     ·rw[HF.out,h.1];rfl
     ·rw[HF.out,h];rfl
    clear hR;go_wp2_with fail
    refine hca.mono ?_;rintro r w1 ⟨h0,rfl,h1⟩;have H1:Hid (0<e∧Chg bp O0 w0 (fun _=>False) w1):=⟨h0,HC.out.chm_trans h1 h0m⟩;clear hca h0 h1;go_wp2;refine⟨rfl,?_⟩;rw[HR.out];exact⟨H1.out.1,rfl,H1.out.2⟩
  | ok x=>
    obtain⟨⟨name,t⟩,n⟩:=x;rw[hR]at hca;have HV:Hid (memL (valL d) (ms.map (·.1)) s p=.ok ((name,t),n)):=hR;obtain⟨hpn,hsz,_⟩:=memL_ok hR;clear hR;go_wp2_with fail
    refine hca.mono ?_;rintro r w1 ⟨rfl,v1,k1,hN1,hM1,hC1⟩;have hBB:BoxO b0 bM b1 bp bm ns.length (own v1 k1) w1:=HB.out.chm hC1;have hG1:GV w1:=HG.out.1.chm hC1 hbp hlt HG.out.2.above hgm;have hC2:=HC.out.chm_trans hC1 h0m;rw[objN_add]at hN1;have HN1:Hid (CN bp s (p+n) (objN ns none key i0 (ms++[(name,t)])) dp v1 k1 w1):=hN1;have H1:Hid (BoxO b0 bM b1 bp bm ns.length (own v1 k1) w1∧GV w1∧Chg bp O0 w0 (own v1 k1) w1∧NM bm (ms.map (·.1)++[name]) w1):=⟨hBB,hG1,hC2,hM1⟩;have hbl:=cblanks bp s (p+n) v1 dp w1 (by omega) hN1.cd hpn;have hb3:=nb_leS s (p+n) hpn;generalize hp3:p+n+nb (sfx s (p+n))=p3 at hbl hb3;have HP3:Hid (p+n+nb (sfx s (p+n))=p3):=hp3;have HSZ:Hid (t.size≤n∧p+n≤p3):=⟨by omega,by omega⟩;clear hBB hG1 hC2 hN1 hca hC1 hp3 hsz hpn hM1;go_wp2_with fail
    refine hbl.mono ?_;rintro r w2 ⟨rfl,h2,o2⟩;have HN2:Hid (CN bp s p3 (objN ns none key i0 (ms++[(name,t)])) dp v1 k1 w2):=HN1.out.onl h2 o2;have H2:Hid (BoxO b0 bM b1 bp bm ns.length (own v1 k1) w2∧GV w2∧Chg bp O0 w0 (own v1 k1) w2∧NM bm (ms.map (·.1)++[name]) w2):=⟨H1.out.1.chm (o2.chg _).chm,H1.out.2.1.onl o2 hbp HN1.out.cd.lt,H1.out.2.2.1.trans (o2.chg _),H1.out.2.2.2.chg (o2.chg (own v1 k1)) H1.out.1.nm.1 H1.out.1.nm.2.1⟩;clear hbl o2 HN1 H1;by_cases h93:(sfx s p3).head?=some 125
    ·have ht:=ctake_yes bp s p3 v1 dp 125 w2 (by omega) h2 h93
     rw[show((125:UInt8).toNat:Int)=125 from rfl]at ht;have HR:Hid (objL (valL d) (sfx s i0) i0=.ok (.obj (ms++[(name,t)]) i0,p3-i0+1)):=by
      show objL (valL d) (sfx s i0) i0=_
      have hx:=HX.out;have hz:=HSZ.out;rw[HF.out,objF_last2 HP.out HV.out HP3.out (by rw[h93];decide),finO_last ms (name,t) i0 q p3 (by omega) (by omega),if_pos h93]
     clear h93;go_wp2_with fail
     refine ht.mono ?_;rintro r w3 ⟨rfl,h3,o3⟩;have HN3:Hid (CN bp s (p3+1) (objN ns none key i0 (ms++[(name,t)])) dp v1 k1 w3):=HN2.out.onl h3 o3;have H3:Hid (Chg bp O0 w0 (own v1 k1) w3):=H2.out.2.2.1.trans (o3.chg _);clear ht o3;go_wp2;refine bodyPost_ret (results_none rfl _ _ _) rfl ?_;rw[HR.out];refine⟨rfl,v1,k1,?_,H3.out⟩;rw[show i0+(p3-i0+1)=p3+1 by have:=HX.out;have:=HSZ.out;omega];exact HN3.out
    ·have ht:=ctake_no bp s p3 v1 dp 125 w2 h2 hb3 (by decide) h93
     rw[show((125:UInt8).toNat:Int)=125 from rfl]at ht;go_wp2_with fail
     refine ht.mono ?_;rintro r w3 ⟨rfl,h3,o3⟩;have HN3:Hid (CN bp s p3 (objN ns none key i0 (ms++[(name,t)])) dp v1 k1 w3):=HN2.out.onl h3 o3;have H3:Hid (BoxO b0 bM b1 bp bm ns.length (own v1 k1) w3∧GV w3∧Chg bp O0 w0 (own v1 k1) w3∧NM bm (ms.map (·.1)++[name]) w3):=⟨H2.out.1.chm (o3.chg _).chm,H2.out.2.1.onl o3 hbp h2.lt,H2.out.2.2.1.trans (o3.chg _),H2.out.2.2.2.chg (o3.chg (own v1 k1)) H2.out.1.nm.1 H2.out.1.nm.2.1⟩;clear ht o3 H2 HN2 h2;by_cases h44:(sfx s p3).head?=some 44
     ·have hn:=cneed_yes bp s p3 v1 dp 44 w3 (by omega) h3 h44
      rw[show((44:UInt8).toNat:Int)=44 from rfl]at hn;have h44l:=head_lt h44;have hbl:=fun w' h'=>cblanks bp s (p3+1) v1 dp w' (by omega) h' (by omega)
      have HR:Hid (objL (valL d) (sfx s i0) i0=finO (ms++[(name,t)]) i0 (p3+1) (objF (valL d) f (ms.map (·.1)++[name]) (sfx s (p3+1)) (p3+1))):=by
       show objL (valL d) (sfx s i0) i0=_
       have hx:=HX.out;have hz:=HSZ.out;rw[HF.out,objF_more2 HP.out HV.out HP3.out h44];exact finO_more ms (name,t) i0 q (p3+1) (by omega) (by omega) _
      have hp4:=nb_leS s (p3+1) (by omega);clear h93 h44;go_wp2_with fail
      refine hn.mono ?_;rintro r w4 ⟨rfl,h4,o4⟩;have HN4:Hid (CN bp s (p3+1) (objN ns none key i0 (ms++[(name,t)])) dp v1 k1 w4):=HN3.out.onl h4 o4;have H4:Hid (BoxO b0 bM b1 bp bm ns.length (own v1 k1) w4∧GV w4∧Chg bp O0 w0 (own v1 k1) w4∧NM bm (ms.map (·.1)++[name]) w4):=⟨H3.out.1.chm (o4.chg _).chm,H3.out.2.1.onl o4 hbp h3.lt,H3.out.2.2.1.trans (o4.chg _),H3.out.2.2.2.chg (o4.chg (own v1 k1)) H3.out.1.nm.1 H3.out.1.nm.2.1⟩;clear hn o4 H3 HN3 h3;go_wp2_with fail
      refine(hbl w4 h4).mono ?_;rintro r w5 ⟨rfl,h5,o5⟩;have HN5:Hid (CN bp s (p3+1+nb (sfx s (p3+1))) (objN ns none key i0 (ms++[(name,t)])) dp v1 k1 w5):=HN4.out.onl h5 o5;have H5:Hid (BoxO b0 bM b1 bp bm ns.length (own v1 k1) w5∧GV w5∧Chg bp O0 w0 (own v1 k1) w5∧NM bm (ms.map (·.1)++[name]) w5):=⟨H4.out.1.chm (o5.chg _).chm,H4.out.2.1.onl o5 hbp h4.lt,H4.out.2.2.1.trans (o5.chg _),H4.out.2.2.2.chg (o5.chg (own v1 k1)) H4.out.1.nm.1 H4.out.1.nm.2.1⟩;clear hbl o5 H4 HN4 h4;go_wp2;have hx:=HX.out;have hz:=HSZ.out;have hmap:(ms++[(name,t)]).map (·.1)=ms.map (·.1)++[name]:=by simp
      refine⟨⟨p3+1,_,ms++[(name,t)],f,v1,k1,by omega,rfl,hp4,?_,HN5.out,?_,?_,?_,H5.out.2.1,H5.out.2.2.1,H5.out.1,?_⟩,?_⟩
      ·have:=hx.2.2.2.2;rw[sfx_length]at this ⊢;omega
      ·have e1:=hx.2.2.1
       rw[objN_length]at e1 ⊢;rw[sizeM_append];omega
      ·rw[←objN_add];exact flat_wf hx.2.2.2.1 (some ns.length) name t
      ·rw[hmap];exact HR.out
      ·rw[hmap];exact H5.out.2.2.2
      ·rw[HM.out,cpos_rd h5];omega
     ·have hn:=cneed_no bp s p3 v1 dp 44 w3 h3 hb3 (by decide) h44
      rw[show((44:UInt8).toNat:Int)=44 from rfl]at hn;have HR:Hid (objL (valL d) (sfx s i0) i0=.error (2,p3)):=by
       show objL (valL d) (sfx s i0) i0=_
       have hx:=HX.out;have hz:=HSZ.out;rw[HF.out,objF_last2 HP.out HV.out HP3.out h44,finO_last ms (name,t) i0 q p3 (by omega) (by omega),if_neg h93]
      clear h93 h44;go_wp2_with fail
      refine hn.mono ?_;rintro r w4 ⟨rfl,h4,o4⟩;have H4:Hid (Chg bp O0 w0 (own v1 k1) w4):=H3.out.2.2.1.trans (o4.chg _);clear hn o4;go_wp2;refine⟨rfl,?_⟩;rw[HR.out];exact⟨by omega,rfl,H4.out.drop⟩
end
section
variable (bp:Nat) (s:ByteArray) (i:Nat) (key:List UInt8) (ms:List Nd) (dp:Nat) (vL:Value) (kvs:List Value) (w:World) (b0 bM b1 bm:Nat)
theorem clistO_deep(h:CN bp s i (objN ms none key i []) dp vL kvs w)(hd:dp=32):Calls Tryz.prog 145 #[.pointer (some ⟨bp,0,none⟩),.int .u8 125,objFv b0 bM b1] w fun r w'=>r=.panicked (flt 5 i)∧w'=w:=by
 unfold objFv;obtain⟨c0,c1,c2,c3,cf⟩:=h.cd.cell;have hb:=deep32 hd;have hth:∀w',Calls Tryz.prog 121 #[.int .i64 5,.int .i64 (i:Int)] w' fun r w''=>r=.panicked (flt 5 i)∧w''=w':=fun w'=>cthrow 5 i w'
 clear hd;go_enter Tryz.func145,Tryz.ntmps145;go_wp2_with fail
 refine(hth w).mono ?_;rintro r w1 ⟨rfl,rfl⟩;clear hth;go_wp2;exact⟨rfl,rfl,rfl⟩
theorem clistO(w0:World)(O0:Nat→Prop)(d:Nat)(hv:CVal d (dp+1))(hs:s.size≤65536)(hbp:9≤bp)(h:CN bp s i (objN ms none key i []) dp vL kvs w)(hG:GV w)(hi:i<s.size)(hl:ms.length≤i)(hw:WFk ms)(hd:dp<32)(hB:BoxO b0 bM b1 bp bm ms.length (own vL kvs) w)(hM:NM bm [] w)(hgm:9≤bm)(h0m:w0.heap.size≤bm)(hC0:Chg bp O0 w0 (own vL kvs) w):Calls Tryz.prog 145 #[.pointer (some ⟨bp,0,none⟩),.int .u8 125,objFv b0 bM b1] w fun r w'=>IQ bp s dp O0 w0 i key ms r w' (objL (valL d) (sfx s i) i):=by
 have hlt:=h.cd.lt;obtain⟨c0,c1,c2,c3,cf⟩:=h.cd.cell;have f1:=cf 1;have f3:=cf 3;have hb:((dp:Int)==32)=false:=by rw[beq_eq_false_iff_ne];omega
 have hdb:(dp:Int)<32:=by omega
 have hib:(i:Int)≤65536:=by omega
 have hA:Hid (CD bp s (i+1) vL (dp+1) ((w.setCell ⟨bp,3,none⟩ (.int .i64 ((dp:Int)+1))).setCell ⟨bp,1,none⟩ (.int .i64 ((i:Int)+1)))∧Onl bp w ((w.setCell ⟨bp,3,none⟩ (.int .i64 ((dp:Int)+1))).setCell ⟨bp,1,none⟩ (.int .i64 ((i:Int)+1)))):=⟨(h.cd.setD (dp+1)).setI (i+1),Onl.setCell (Onl.setCell (onl_refl bp w) _ h.cd) _ (h.cd.setD (dp+1))⟩;have HC0:Hid (Chg bp O0 w0 (own vL kvs) w):=hC0;have H0:Hid (CN bp s i (objN ms none key i []) dp vL kvs w):=h;unfold objFv;go_enter Tryz.func145,Tryz.ntmps145;go_wp2_with fail
 generalize (w.setCell ⟨bp,3,none⟩ (.int .i64 ((dp:Int)+1))).setCell ⟨bp,1,none⟩ (.int .i64 ((i:Int)+1))=w1 at hA;have h1:=hA.out.1;have O1:Hid (Onl bp w w1):=hA.out.2;clear hA c0 c1 c2 c3 cf f1 f3 h;have hbl:=cblanks bp s (i+1) vL (dp+1) w1 (by omega) h1 (by omega);have hb3:=nb_leS s (i+1) (by omega);have hz:=nb_skipS s (i+1) _ rfl;generalize hp:i+1+nb (sfx s (i+1))=p at hbl hb3 hz;have HP:Hid (i+1+nb (sfx s (i+1))=p):=hp;have HPL:Hid (i+1≤p):=by show i+1≤p;omega
 clear hp;refine hbl.mono ?_;rintro r w2 ⟨rfl,h2,o2⟩;have O2:Hid (Onl bp w w2):=O1.out.trans o2;clear hbl o2 O1 h1;by_cases h125:(sfx s p).head?=some 125
 ·have ht:=ctake_yes bp s p vL (dp+1) 125 w2 (by omega) h2 h125
  rw[show((125:UInt8).toNat:Int)=125 from rfl]at ht;have HR:Hid (objL (valL d) (sfx s i) i=.ok (.obj [] i,p-i+1)):=by
   show objL (valL d) (sfx s i) i=_
   rw[objL_eq (valL d) s i p HP.out,if_pos h125]
  clear h125 hv;go_wp2_with fail
  refine ht.mono ?_;rintro r w3 ⟨rfl,h3,o3⟩;have O3:Hid (Onl bp w w3):=O2.out.trans o3;clear ht o3 O2;obtain⟨c0,c1,c2,c3,cf⟩:=h3.cell;have f3:=cf 3;go_wp2;go_end0
  rw[HR.out];have h4:CD bp s (p+1) vL dp (w3.setCell ⟨bp,3,none⟩ (.int .i64 (dp:Int))):=h3.setD dp;have o4:=Onl.setCell (k:=3) O3.out (.int .i64 (dp:Int)) h3;refine⟨rfl,vL,kvs,?_,HC0.out.trans (o4.chg _)⟩;rw[show i+(p-i+1)=p+1 by have:=HPL.out;omega];exact H0.out.onl h4 o4
 ·have ht:=ctake_no bp s p vL (dp+1) 125 w2 h2 hb3 (by decide) h125
  rw[show((125:UInt8).toNat:Int)=125 from rfl]at ht;have HR:Hid (objL (valL d) (sfx s i) i=finO [] i p (objF (valL d) ((sfx s i).length+1) [] (sfx s p) p)):=by
   show objL (valL d) (sfx s i) i=_
   rw[objL_eq (valL d) s i p HP.out,if_neg h125]
  clear h125;go_wp2_with fail
  refine ht.mono ?_;rintro r w3 ⟨rfl,h3,o3⟩;have O3:Hid (Onl bp w w3):=O2.out.trans o3;clear ht o3 O2;have hLO:LO bp s (dp+1) b0 bM b1 bm d w0 O0 i key ms w3:=by
   have hp:=HPL.out;refine⟨p,p,[],(sfx s i).length+1,vL,kvs,by omega,by rw[hz];rfl,hb3,?_,⟨h3,H0.out.nk.onl O3.out (by omega)⟩,?_,?_,HR.out,hG.onl O3.out hbp hlt,HC0.out.trans (O3.out.chg _),hB.chm (O3.out.chg _).chm,hM.chg (O3.out.chg (own vL kvs)) hB.nm.1 hB.nm.2.1⟩
   ·rw[sfx_length,sfx_length];omega
   ·rw[objN_length];simp[sizeM];omega
   ·exact flat_wf hw none key (.obj [] i)
  have hit:=citemsO bp s (dp+1) w3 b0 bM b1 bm d hv hs hbp hgm w0 h0m O0 i key ms hLO;unfold objFv at hit;clear hLO hv;cases hQ:objL (valL d) (sfx s i) i with
  | error q=>
    obtain⟨e,a⟩:=q;rw[hQ]at hit;have HQ:Hid _:=hQ;clear hQ HR;go_wp2_with fail
    refine hit.mono ?_;rintro r w4 ⟨h0,rfl,h4⟩;have H4:Hid _:=And.intro h0 h4;clear h0 h4 hit;go_wp2;refine⟨rfl,?_⟩;rw[HQ.out];exact⟨H4.out.1,rfl,H4.out.2⟩
  | ok q=>
    obtain⟨t,n⟩:=q;rw[hQ]at hit;have HQ:Hid _:=hQ;clear hQ HR;go_wp2_with fail
    refine hit.mono ?_;rintro r w4 ⟨rfl,v4,k4,hN4,hC4⟩;have H4:Hid _:=And.intro hN4 hC4;obtain⟨c0,c1,c2,c3,cf⟩:=hN4.cd.cell;have f3:=cf 3;clear hit hN4 hC4;go_wp2;go_end0
    have h5:CD bp s (i+n) v4 dp (w4.setCell ⟨bp,3,none⟩ (.int .i64 (dp:Int))):=H4.out.1.cd.setD dp;have o5:=Onl.setCell (k:=3) (onl_refl bp w4) (.int .i64 (dp:Int)) H4.out.1.cd;rw[HQ.out];exact⟨rfl,v4,k4,⟨h5,H4.out.1.nk.onl o5 (by omega)⟩,H4.out.2.trans (o5.chg _)⟩
end
section
variable (bp:Nat) (s:ByteArray) (i:Nat) (ns:List Nd) (key:List UInt8) (dp g cap:Nat) (kvs:List Value) (w:World)
theorem cobject(d:Nat)(hv:dp<32→∃d',d=d'+1∧CVal d' (dp+1))(hd:dp=32→d=0)(hdp:dp≤32)(hs:s.size≤65536)(hbp:9≤bp)(h:CN bp s i (ns++[blank key i]) dp (.slice (some ⟨g,0,none⟩) (ns.length+1) cap) kvs w)(hG:GV w)(hc:(sfx s i).head?=some 123)(hl:ns.length≤i)(hw:WFk ns):Calls Tryz.prog 118 #[.pointer (some ⟨bp,0,none⟩),.int .i64 (ns.length:Int)] w fun r w'=>
 VQ bp s i ns key dp (own (.slice (some ⟨g,0,none⟩) (ns.length+1) cap) kvs) w (.tuple #[]) r w' (valL d (sfx s i) i):=by
 have hmm:=@run_makeMap Tryz.prog;have hmf:∀(fn:Fn) (first cap:Array Value) (w:World),(Instr.makeFunc fn first cap).run Tryz.prog w=.ok (.func fn first cap) w:=fun _ _ _ _=>rfl
 have hi:=head_lt hc;have hsi:s[i]=123:=by rw[sfx_cons s i hi]at hc;simpa using hc
 have hlt:=h.cd.lt;have hkl:kvs.length=ns.length+1:=by have:=h.nk.1;simpa using this
 obtain⟨kv,hkv⟩:∃kv,kvs[ns.length]?=some kv:=⟨_,List.getElem?_eq_getElem (by omega)⟩;obtain⟨_,hgl,cur,hgc⟩:=ownBlock_lt h.nk.2.1 (g:=g) rfl;generalize hW:(w.alloc (.cells #[.pointer (some ⟨bp,0,none⟩)] 64)).alloc (.cells #[.int .i64 (ns.length:Int)] 3)=W;have hsz:W.heap.size=w.heap.size+2:=by subst hW;simp
 have hNW:CN bp s i (ns++[blank key i]) dp (.slice (some ⟨g,0,none⟩) (ns.length+1) cap) kvs W:=by subst hW;exact(h.alloc _).alloc _
 have hCW:Chg bp (own (.slice (some ⟨g,0,none⟩) (ns.length+1) cap) kvs) w (own (.slice (some ⟨g,0,none⟩) (ns.length+1) cap) kvs) W:=by subst hW;exact(chg_alloc bp _ w _).trans (chg_alloc bp _ _ _)
 have hBW:BoxA w.heap.size (w.heap.size+1) bp ns.length (own (.slice (some ⟨g,0,none⟩) (ns.length+1) cap) kvs) W:=by
  refine⟨?_,?_,⟨by omega,fun h'=>?_⟩,⟨by omega,fun h'=>?_⟩⟩
  ·subst hW;rw[heap_alloc_old _ _ (by simp),heap_alloc_new]
  ·subst hW;have:=heap_alloc_new (w.alloc (.cells #[.pointer (some ⟨bp,0,none⟩)] 64)) (.cells #[.int .i64 (ns.length:Int)] 3);simpa using this
  ·have:=(h.nk.own_lt h').2;omega
  ·have:=(h.nk.own_lt h').2;omega
 obtain⟨p0,pf0⟩:=hNW.nk.at (g:=g) rfl (u:=ns.length) (j:=0) (n:=blank key i) (x:=.int .i64 0) (by simp) hkv (by omega) rfl;rw[Nat.add_zero]at p0 pf0;have hput:=hNW.put (gL:=g) rfl (fun n=>{n with kind:=5}) 0 (.int .i64 5) (fun n kv=>rfl) (fun n=>rfl) (by omega) ns.length (by simp);rw[modify_last,Nat.add_zero]at hput;have hN4:CN bp s i (objN ns none key i []) dp (.slice (some ⟨g,0,none⟩) (ns.length+1) cap) kvs (W.setCell ⟨g,ns.length*6,none⟩ (.int .i64 5)):=hput.1;have hC4:=hCW.trans hput.2;have hB4:=hBW.chg hput.2;have hG4:GV (W.setCell ⟨g,ns.length*6,none⟩ (.int .i64 5)):=hG.chg hC4 hbp hlt h.above;have H4:Hid _:=And.intro hN4 (And.intro hC4 (And.intro hB4 hG4));obtain⟨c0,c1,c2,c3,cf⟩:=hNW.cd.cell;have x0:W.cell? ⟨w.heap.size,0,none⟩=some (.pointer (some ⟨bp,0,none⟩)):=by rw[cell_of_row W _ 0 _ _ _ hBW.h0];rfl
 have x1:W.cell? ⟨w.heap.size+1,0,none⟩=some (.int .i64 (ns.length:Int)):=by rw[cell_of_row W _ 0 _ _ _ hBW.h1];rfl
 have nb0:¬g=w.heap.size:=by omega
 have HW:Hid _:=hW;clear hN4 hC4 hB4 hG4 hput hBW hNW hCW hkv hgc;have hnl:(ns.length:Int)<(ns.length:Int)+1:=by omega
 go_enter Tryz.func118,Tryz.ntmps118;go_wp2_with fail
 go_region
 have h4:Hid (CN bp s i (objN ns none key i []) dp (.slice (some ⟨g,0,none⟩) (ns.length+1) cap) kvs (W.setCell ⟨g,ns.length*6,none⟩ (.int .i64 5)).drew∧Chg bp (own (.slice (some ⟨g,0,none⟩) (ns.length+1) cap) kvs) w (own (.slice (some ⟨g,0,none⟩) (ns.length+1) cap) kvs) (W.setCell ⟨g,ns.length*6,none⟩ (.int .i64 5)).drew∧BoxA w.heap.size (w.heap.size+1) bp ns.length (own (.slice (some ⟨g,0,none⟩) (ns.length+1) cap) kvs) (W.setCell ⟨g,ns.length*6,none⟩ (.int .i64 5)).drew∧GV (W.setCell ⟨g,ns.length*6,none⟩ (.int .i64 5)).drew):=⟨H4.out.1.drew,H4.out.2.1.drew,H4.out.2.2.1.drew,H4.out.2.2.2.drew⟩;clear p0 pf0 c0 c1 c2 c3 cf x0 x1 HW H4 hsz;generalize (W.setCell ⟨g,ns.length*6,none⟩ (.int .i64 5)).drew=w4 at h4;clear hW;obtain⟨hN4,hC4,hB4,hG4⟩:=h4.out;have hbs:w.heap.size+2≤w4.heap.size:=by have:=(Array.getElem?_eq_some_iff.1 hB4.h1).1;omega
 generalize hW6:(w4.alloc (.map #[] 0)).alloc (.cells #[.map (some w4.heap.size)] 181)=W6;have hsz6:W6.heap.size=w4.heap.size+2:=by subst hW6;simp
 have hN6:CN bp s i (objN ns none key i []) dp (.slice (some ⟨g,0,none⟩) (ns.length+1) cap) kvs W6:=by subst hW6;exact(hN4.alloc _).alloc _
 have hC6:Chg bp (own (.slice (some ⟨g,0,none⟩) (ns.length+1) cap) kvs) w (own (.slice (some ⟨g,0,none⟩) (ns.length+1) cap) kvs) W6:=by subst hW6;exact hC4.trans ((chg_alloc bp _ w4 _).trans (chg_alloc bp _ _ _))
 have hG6:GV W6:=hG.chg hC6 hbp hlt h.above;have hM6:NM w4.heap.size [] W6:=by
  subst hW6;exact World.ownsMap.alloc (World.ownsMap_made w4 Tryz.prog 9 (unitElem (H:=Unit))) _
 have hm6:W6.heap[w4.heap.size+1]?=some (.cells #[.map (some w4.heap.size)] 181 (0,0)):=by
  subst hW6;have:=heap_alloc_new (w4.alloc (.map #[] 0)) (.cells #[.map (some w4.heap.size)] 181);simpa using this
 have hold:∀k,k<w4.heap.size→W6.heap[k]?=w4.heap[k]?:=by
  intro k hk;subst hW6;rw[heap_alloc_old _ _ (by simp;omega),heap_alloc_old _ _ hk]
 have hB6:BoxO w.heap.size (w4.heap.size+1) (w.heap.size+1) bp w4.heap.size ns.length (own (.slice (some ⟨g,0,none⟩) (ns.length+1) cap) kvs) W6:=by
  refine⟨(hold _ (by omega)).trans hB4.h0,hm6,(hold _ (by omega)).trans hB4.h1,⟨hB4.n0.1,by omega,hB4.n0.2⟩,⟨by omega,by omega,fun h'=>?_⟩,⟨hB4.n1.1,by omega,hB4.n1.2⟩,⟨by omega,fun h'=>?_,by omega⟩⟩
  ·have:=(hN4.nk.own_lt h').2;omega
  ·have:=(hN4.nk.own_lt h').2;omega
 have y0:W6.cell? ⟨w.heap.size,0,none⟩=some (.pointer (some ⟨bp,0,none⟩)):=by rw[cell_of_row W6 _ 0 _ _ _ hB6.h0];rfl
 have H6:Hid _:=And.intro hN6 (And.intro hC6 (And.intro hG6 (And.intro hM6 hB6)));have hgm:9≤w4.heap.size:=by omega
 have h0m:w.heap.size≤w4.heap.size:=by omega
 clear hN4 hC4 hB4 hG4 hsz6 hN6 hC6 hG6 hM6 hm6 hold hB6 h4;have HV:Hid (valL d (sfx s i) i=objV d (sfx s i) i):=valL_obj d _ _ hc;by_cases hd32:dp=32
 ·have hd0:=hd hd32
  have HV2:Hid (valL d (sfx s i) i=.error (5,i)):=by have:=HV.out;rw[hd0]at this ⊢;exact this
  have hli:=clistO_deep bp s i key ns dp _ kvs W6 w.heap.size (w4.heap.size+1) (w.heap.size+1) H6.out.1 hd32;unfold objFv at hli;clear hv hd hd0 HV hd32;go_wp2_with fail
  refine hli.mono ?_;rintro r w5 ⟨rfl,rfl⟩;clear hli;go_wp2;refine⟨rfl,?_⟩;rw[HV2.out];exact⟨by omega,rfl,H6.out.2.1.drop⟩
 ·obtain⟨d',rfl,hv'⟩:=hv (by omega)
  have HV2:Hid (valL (d'+1) (sfx s i) i=objL (valL d') (sfx s i) i):=HV.out;have hli:=clistO bp s i key ns dp _ kvs W6 w.heap.size (w4.heap.size+1) (w.heap.size+1) w4.heap.size w (own (.slice (some ⟨g,0,none⟩) (ns.length+1) cap) kvs) d' hv' hs hbp H6.out.1 H6.out.2.2.1 hi hl hw (by omega) H6.out.2.2.2.2 H6.out.2.2.2.1 hgm h0m H6.out.2.1;unfold objFv at hli;clear hv hd HV hv' hd32;cases hQ:objL (valL d') (sfx s i) i with
  | error q=>
    obtain⟨e,a⟩:=q;rw[hQ]at hli;have HQ:Hid (valL (d'+1) (sfx s i) i=.error (e,a)):=by rw[←hQ];exact HV2.out
    clear hQ;go_wp2_with fail
    refine hli.mono ?_;rintro r w5 ⟨h0,rfl,h5⟩;have H5:Hid _:=And.intro h0 h5;clear hli h0 h5;go_wp2;refine⟨rfl,?_⟩;rw[HQ.out];exact⟨H5.out.1,rfl,H5.out.2⟩
  | ok q=>
    obtain⟨t,n⟩:=q;rw[hQ]at hli;have HQ:Hid (valL (d'+1) (sfx s i) i=.ok (t,n)):=by rw[←hQ];exact HV2.out
    clear hQ;go_wp2_with fail
    refine hli.mono ?_;rintro r w5 ⟨rfl,v5,k5,hN5,hC5⟩;have H5:Hid _:=And.intro hN5 hC5;clear hli hN5 hC5;go_wp2;go_end0
    rw[HQ.out];exact⟨rfl,v5,k5,H5.out.1,H5.out.2⟩
end
end Go.Proofs.YtbbopknnoamkbaaGreatDoor
