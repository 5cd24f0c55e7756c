import Derived.Test.YtaghclgookfmnaaGreatDoorCPut
import Derived.Test.YtaghclgookfmnaaGreatDoorCInt
namespace Go.Proofs.YtaghclgookfmnaaGreatDoor
open Go.RowKit
set_option linter.unusedVariables false
theorem modify_last(ns:List Nd)(x:Nd)(f:Nd→Nd):(ns++[x]).modify ns.length f=ns++[f x]:=modify_mid ns x [] f ns.length rfl
theorem int_err{l:List UInt8}{e o:Nat}(h:intL l=.error (e,o)):0<e:=by
 unfold intL at h;dsimp only at h;repeat' split at h
 all_goals first|(injection h with h;injection h with h _;omega)|cases h
theorem word_err{l:List UInt8}{i e o:Nat}(h:wordL l i=.error (e,o)):0<e:=by
 unfold wordL at h;dsimp only at h;split at h
 ·cases h
 ·split at h
  ·cases h
  ·split at h
   ·cases h
   ·injection h with h;injection h with h _;omega
theorem word_flat{l:List UInt8}{i n:Nat}{t:JT}(h:wordL l i=.ok (t,n))(b:Nat)(key:List UInt8):flat b key t=[⟨knd t,key,[],num' t,[],i⟩]:=by
 unfold wordL at h;dsimp only at h;split at h
 ·injection h with h;injection h with h _;subst h;rfl
 ·split at h
  ·injection h with h;injection h with h _;subst h;rfl
  ·split at h
   ·injection h with h;injection h with h _;subst h;rfl
   ·cases h
section
variable (bp:Nat) (s:ByteArray) (i:Nat) (ns:List Nd) (key:List UInt8) (dp g cap:Nat) (kvs:List Value) (w:World)
def blank(key:List UInt8)(i:Nat):Nd:=⟨0,key,[],0,[],i⟩
theorem plain_fin{t:JT}{n:Nat}{w1:World}{val:Value}{j:Nat}{K:Nat}{f:Nd→Nd}(h:CN bp s (i+n) (ns++[blank key i]) dp (.slice (some ⟨g,0,none⟩) (ns.length+1) cap) kvs w1)(hc:Chg bp (own (.slice (some ⟨g,0,none⟩) (ns.length+1) cap) kvs) w (own (.slice (some ⟨g,0,none⟩) (ns.length+1) cap) kvs) w1)(hf:∀n kv,ndCells (f n) kv=(ndCells n kv).set j val)(hfk:∀n,(f n).kids=n.kids)(hj:j<6)(ht:flat ns.length key t=[f {(blank key i)with kind:=K}]):
 VQ bp s i ns key dp (own (.slice (some ⟨g,0,none⟩) (ns.length+1) cap) kvs) w (.tuple #[]) (.returned (.tuple #[])) ((w1.setCell ⟨g,ns.length*6+0,none⟩ (.int .i64 (K:Int))).setCell ⟨g,ns.length*6+j,none⟩ val) (.ok (t,n)):=by
 obtain⟨a1,a2⟩:=h.put (gL:=g) rfl (fun n=>{n with kind:=K}) 0 (.int .i64 (K:Int)) (fun n kv=>rfl) (fun n=>rfl) (by omega) ns.length (by simp);obtain⟨b1,b2⟩:=a1.put (gL:=g) rfl f j val hf hfk hj ns.length (by simp);rw[modify_last,modify_last,←ht]at b1;exact⟨rfl,.slice (some ⟨g,0,none⟩) (ns.length+1) cap,kvs,b1,(hc.trans a2).trans b2⟩
set_option maxHeartbeats 4000000 in
theorem cplain(hs:s.size≤65536)(hbp:8≤bp)(h:CN bp s i (ns++[blank key i]) dp (.slice (some ⟨g,0,none⟩) (ns.length+1) cap) kvs w)(hG:GV w)(hi:i≤s.size):Calls Tryz.prog 53 #[.pointer (some ⟨bp,0,none⟩),.pointer (some ⟨g,ns.length*6,none⟩)] w fun r w'=>
 VQ bp s i ns key dp (own (.slice (some ⟨g,0,none⟩) (ns.length+1) cap) kvs) w (.tuple #[]) r w' (plainL (sfx s i) i):=by
 have hpk:=cpeek bp s i _ dp w h.cd hi;have hkl:kvs.length=ns.length+1:=by have:=h.nk.1;simpa using this
 obtain⟨kv,hkv⟩:∃kv,kvs[ns.length]?=some kv:=⟨_,List.getElem?_eq_getElem (by omega)⟩;have hcell:∀w',NK (bp+1) 58 (.slice (some ⟨g,0,none⟩) (ns.length+1) cap) kvs (ns++[blank key i]) w'→∀k x,k<6→(ndCells (blank key i) kv)[k]?=some x→w'.cell? ⟨g,ns.length*6+k,none⟩=some x∧w'.frozen? ⟨g,ns.length*6+k,none⟩=false:=fun w' hw k x hk hx=>hw.at (g:=g) rfl (u:=ns.length) (by simp) hkv hk hx
 have hlt:=h.cd.lt;have hgb:bp<g:=(h.above g (.inl rfl));by_cases h34:(sfx s i).head?=some 34
 ·have his:=head_lt h34
  have hb:(((pk (sfx s i)).toNat:Int)==34)=true:=by rw[pk_head h34];rfl
  have hc34:s[i]=34:=by rw[sfx_cons s i his]at h34;simpa using h34
  have hR:plainL (sfx s i) i=(match quotL (sfx s i)with| .error o=>.error (2,i+o)| .ok (t,n)=>.ok (.str t i,n)):=by
   rw[sfx_cons s i his,plainL,if_pos hc34];rfl
  have hq:=fun w' h' g'=>cquot bp s i (.slice (some ⟨g,0,none⟩) (ns.length+1) cap) dp w' (by omega) hbp h' g' hi
  clear h34 hc34;cases hQ:quotL (sfx s i)with
  | error o=>
    rw[hQ]at hq hR;have HR:Hid (plainL (sfx s i) i=.error (2,i+o)):=hR;clear hR hQ;go_enter Tryz.func53,Tryz.ntmps53;go_wp2_with fail
    refine hpk.mono ?_;rintro e w1 ⟨rfl,h1,o1⟩;have g1:GV w1:=hG.onl o1 hbp hlt;have O1:Hid (Onl bp w w1):=o1;clear o1 hpk;go_wp2_with fail
    refine(hq w1 h1 g1).mono ?_;rintro e w2 ⟨⟨rfl,j,h2⟩,o2⟩;have O2:Hid (Onl bp w w2):=O1.out.trans o2;clear o2 hq O1;go_wp2;refine⟨rfl,?_⟩;rw[HR.out];exact⟨by omega,rfl,(O2.out.chg _).drop⟩
  | ok q=>
    obtain⟨tt,n⟩:=q;rw[hQ]at hq hR;have HR:Hid (plainL (sfx s i) i=.ok (.str tt i,n)):=hR;clear hR hQ;go_enter Tryz.func53,Tryz.ntmps53;go_wp2_with fail
    refine hpk.mono ?_;rintro e w1 ⟨rfl,h1,o1⟩;have g1:GV w1:=hG.onl o1 hbp hlt;have O1:Hid (Onl bp w w1):=o1;clear o1 hpk;go_wp2_with fail
    refine(hq w1 h1 g1).mono ?_;rintro e w2 ⟨⟨rfl,h2⟩,o2⟩;have O2:Hid (Onl bp w w2):=O1.out.trans o2;have N2:Hid (CN bp s (i+n) (ns++[blank key i]) dp (.slice (some ⟨g,0,none⟩) (ns.length+1) cap) kvs w2):=h.onl h2 O2.out;clear o2 hq O1;obtain⟨c0,f0⟩:=hcell w2 N2.out.nk 0 _ (by omega) rfl;obtain⟨c2,f2⟩:=hcell w2 N2.out.nk 2 _ (by omega) rfl;rw[Nat.add_zero]at c0 f0;go_wp2;go_end0
    rw[HR.out];exact plain_fin bp s i ns key dp g cap kvs w (K:=3) (f:=fun n=>{n with text:=tt}) N2.out (O2.out.chg _) (fun n kv=>rfl) (fun n=>rfl) (by omega) rfl
 ·have hb34:(((pk (sfx s i)).toNat:Int)==34)=false:=by
   rw[beq_eq_false_iff_ne];intro e;exact pk_ne (by decide) h34 (UInt8.toNat_inj.1 (by simpa using by omega))
  by_cases h45:(sfx s i).head?=some 45
  ·have his:=head_lt h45
   have hb45:(((pk (sfx s i)).toNat:Int)==45)=true:=by rw[pk_head h45];rfl
   have hc45:s[i]=45:=by rw[sfx_cons s i his]at h45;simpa using h45
   have hR:plainL (sfx s i) i=(match intL (sfx s i)with| .error (e,o)=>.error (e,i+o)| .ok (n,k)=>.ok (.int n i,k)):=by
    rw[sfx_cons s i his,plainL,if_neg (by rw[hc45];decide),if_pos (.inl hc45)];rfl
   have hq:=fun w' h' g'=>cint bp s i (.slice (some ⟨g,0,none⟩) (ns.length+1) cap) dp w' (by omega) hbp h' g' his
   clear h34 h45 hc45;cases hQ:intL (sfx s i)with
   | error q=>
     obtain⟨e,o⟩:=q;rw[hQ]at hq hR;have HR:Hid (plainL (sfx s i) i=.error (e,i+o)):=hR;have he:0<e:=int_err hQ;clear hR hQ;go_enter Tryz.func53,Tryz.ntmps53;go_wp2_with fail
     refine hpk.mono ?_;rintro e w1 ⟨rfl,h1,o1⟩;have g1:GV w1:=hG.onl o1 hbp hlt;have O1:Hid (Onl bp w w1):=o1;clear o1 hpk;go_wp2_with fail
     refine(hq _ h1 g1).mono ?_;rintro r w2 ⟨⟨rfl,j,h2⟩,o2⟩;have O2:Hid (Onl bp w w2):=O1.out.trans o2;clear o2 hq O1;go_wp2;refine⟨rfl,?_⟩;rw[HR.out];exact⟨he,rfl,(O2.out.chg _).drop⟩
   | ok q=>
     obtain⟨m,n⟩:=q;rw[hQ]at hq hR;have HR:Hid (plainL (sfx s i) i=.ok (.int m i,n)):=hR;clear hR hQ;go_enter Tryz.func53,Tryz.ntmps53;go_wp2_with fail
     refine hpk.mono ?_;rintro e w1 ⟨rfl,h1,o1⟩;have g1:GV w1:=hG.onl o1 hbp hlt;have O1:Hid (Onl bp w w1):=o1;clear o1 hpk;go_wp2_with fail
     refine(hq _ h1 g1).mono ?_;rintro r w2 ⟨⟨rfl,h2⟩,o2⟩;have O2:Hid (Onl bp w w2):=O1.out.trans o2;have N2:Hid (CN bp s (i+n) (ns++[blank key i]) dp (.slice (some ⟨g,0,none⟩) (ns.length+1) cap) kvs w2):=h.onl h2 O2.out;clear o2 hq O1;obtain⟨c0,f0⟩:=hcell w2 N2.out.nk 0 _ (by omega) rfl;obtain⟨c2,f2⟩:=hcell w2 N2.out.nk 3 _ (by omega) rfl;rw[Nat.add_zero]at c0 f0;go_wp2;go_end0
     rw[HR.out];exact plain_fin bp s i ns key dp g cap kvs w (K:=2) (f:=fun n=>{n with num:=m}) N2.out (O2.out.chg _) (fun n kv=>rfl) (fun n=>rfl) (by omega) rfl
  ·have hb45:(((pk (sfx s i)).toNat:Int)==45)=false:=by
    rw[beq_eq_false_iff_ne];intro e;exact pk_ne (by decide) h45 (UInt8.toNat_inj.1 (by simpa using by omega))
   have hdg:=fun w'=>kdigit (pk (sfx s i)) w'
   by_cases hD:isD (pk (sfx s i))=true
   ·have his:i<s.size:=by
     by_cases his:i<s.size
     ·exact his
     ·rw[sfx_nil s i (by omega)]at hD;exact absurd hD (by decide)
    rw[hD]at hdg;have hR:plainL (sfx s i) i=(match intL (sfx s i)with| .error (e,o)=>.error (e,i+o)| .ok (n,k)=>.ok (.int n i,k)):=by
     rw[sfx_cons s i his]at h34 hD ⊢;rw[plainL,if_neg (by simpa using h34),if_pos (.inr hD)];rfl
    have hq:=fun w' h' g'=>cint bp s i (.slice (some ⟨g,0,none⟩) (ns.length+1) cap) dp w' (by omega) hbp h' g' his
    clear h34 h45 hD;cases hQ:intL (sfx s i)with
    | error q=>
      obtain⟨e,o⟩:=q;rw[hQ]at hq hR;have HR:Hid (plainL (sfx s i) i=.error (e,i+o)):=hR;have he:0<e:=int_err hQ;clear hR hQ;go_enter Tryz.func53,Tryz.ntmps53;go_wp2_with fail
      refine hpk.mono ?_;rintro e w1 ⟨rfl,h1,o1⟩;have g1:GV w1:=hG.onl o1 hbp hlt;have O1:Hid (Onl bp w w1):=o1;clear o1 hpk;go_wp2_with fail
      refine(hdg _).mono ?_;rintro e w1b ⟨rfl,rfl⟩;clear hdg;go_wp2_with fail
      refine(hq _ h1 g1).mono ?_;rintro r w2 ⟨⟨rfl,j,h2⟩,o2⟩;have O2:Hid (Onl bp w w2):=O1.out.trans o2;clear o2 hq O1;go_wp2;refine⟨rfl,?_⟩;rw[HR.out];exact⟨he,rfl,(O2.out.chg _).drop⟩
    | ok q=>
      obtain⟨m,n⟩:=q;rw[hQ]at hq hR;have HR:Hid (plainL (sfx s i) i=.ok (.int m i,n)):=hR;clear hR hQ;go_enter Tryz.func53,Tryz.ntmps53;go_wp2_with fail
      refine hpk.mono ?_;rintro e w1 ⟨rfl,h1,o1⟩;have g1:GV w1:=hG.onl o1 hbp hlt;have O1:Hid (Onl bp w w1):=o1;clear o1 hpk;go_wp2_with fail
      refine(hdg _).mono ?_;rintro e w1b ⟨rfl,rfl⟩;clear hdg;go_wp2_with fail
      refine(hq _ h1 g1).mono ?_;rintro r w2 ⟨⟨rfl,h2⟩,o2⟩;have O2:Hid (Onl bp w w2):=O1.out.trans o2;have N2:Hid (CN bp s (i+n) (ns++[blank key i]) dp (.slice (some ⟨g,0,none⟩) (ns.length+1) cap) kvs w2):=h.onl h2 O2.out;clear o2 hq O1;obtain⟨c0,f0⟩:=hcell w2 N2.out.nk 0 _ (by omega) rfl;obtain⟨c2,f2⟩:=hcell w2 N2.out.nk 3 _ (by omega) rfl;rw[Nat.add_zero]at c0 f0;go_wp2;go_end0
      rw[HR.out];exact plain_fin bp s i ns key dp g cap kvs w (K:=2) (f:=fun n=>{n with num:=m}) N2.out (O2.out.chg _) (fun n kv=>rfl) (fun n=>rfl) (by omega) rfl
   ·have hD':isD (pk (sfx s i))=false:=by simpa using hD
    rw[hD']at hdg;by_cases hT:(sfx s i).head?=some 116∨(sfx s i).head?=some 102∨(sfx s i).head?=some 110
    ·have his:i<s.size:=by rcases hT with h|h|h<;>exact head_lt h
     have hR:plainL (sfx s i) i=wordL (sfx s i) i:=by
      rw[sfx_cons s i his]at h34 h45 hT hD ⊢;have n34:s[i]≠34:=by simpa using h34
      have n45:s[i]≠45:=by simpa using h45
      have nD:¬isD s[i]=true:=hD;have nT:s[i]=116∨s[i]=102∨s[i]=110:=by simpa using hT
      rw[plainL,if_neg n34,if_neg (by rintro(h|h);exact n45 h;exact nD h),if_pos nT]
     have hq:=fun w' h'=>cword bp s i (.slice (some ⟨g,0,none⟩) (ns.length+1) cap) dp w' (by omega) h' hi
     have hk3:Hid ((((pk (sfx s i)).toNat:Int)==116)=true∨((((pk (sfx s i)).toNat:Int)==116)=false∧(((pk (sfx s i)).toNat:Int)==102)=true)∨((((pk (sfx s i)).toNat:Int)==116)=false∧(((pk (sfx s i)).toNat:Int)==102)=false∧(((pk (sfx s i)).toNat:Int)==110)=true)):=by
      rcases hT with h|h|h
      ·exact .inl (by rw[pk_head h];rfl)
      ·exact .inr (.inl ⟨by rw[pk_head h];rfl,by rw[pk_head h];rfl⟩)
      ·exact .inr (.inr ⟨by rw[pk_head h];rfl,by rw[pk_head h];rfl,by rw[pk_head h];rfl⟩)
     clear h34 h45 hT hD hD';cases hQ:wordL (sfx s i) i with
     | error q=>
       obtain⟨e,a⟩:=q;rw[hQ]at hq hR;have HR:Hid (plainL (sfx s i) i=.error (e,a)):=hR;have he:0<e:=word_err hQ;clear hR hQ;rcases hk3.out with k1|⟨k1,k2⟩|⟨k1,k2,k3⟩
       all_goals
        go_enter Tryz.func53,Tryz.ntmps53;go_wp2_with fail
        refine hpk.mono ?_;rintro e w1 ⟨rfl,h1,o1⟩;have g1:GV w1:=hG.onl o1 hbp hlt;have O1:Hid (Onl bp w w1):=o1;clear o1 hpk;go_wp2_with fail
        refine(hdg _).mono ?_;rintro e w1b ⟨rfl,rfl⟩;clear hdg;go_wp2_with fail
        refine(hq _ h1).mono ?_;rintro r w2 ⟨⟨rfl,j,h2⟩,o2⟩;have O2:Hid (Onl bp w w2):=O1.out.trans o2;clear o2 hq O1;go_wp2;refine⟨rfl,?_⟩;rw[HR.out];exact⟨he,rfl,(O2.out.chg _).drop⟩
     | ok q=>
       obtain⟨t,n⟩:=q;rw[hQ]at hq hR;have HR:Hid (plainL (sfx s i) i=.ok (t,n)):=hR;have HW:Hid (flat ns.length key t=[⟨knd t,key,[],num' t,[],i⟩]):=word_flat hQ ns.length key;clear hR hQ;rcases hk3.out with k1|⟨k1,k2⟩|⟨k1,k2,k3⟩
       all_goals
        go_enter Tryz.func53,Tryz.ntmps53;go_wp2_with fail
        refine hpk.mono ?_;rintro e w1 ⟨rfl,h1,o1⟩;have g1:GV w1:=hG.onl o1 hbp hlt;have O1:Hid (Onl bp w w1):=o1;clear o1 hpk;go_wp2_with fail
        refine(hdg _).mono ?_;rintro e w1b ⟨rfl,rfl⟩;clear hdg;go_wp2_with fail
        refine(hq _ h1).mono ?_;rintro r w2 ⟨⟨rfl,h2⟩,o2⟩;have O2:Hid (Onl bp w w2):=O1.out.trans o2;have N2:Hid (CN bp s (i+n) (ns++[blank key i]) dp (.slice (some ⟨g,0,none⟩) (ns.length+1) cap) kvs w2):=h.onl h2 O2.out;clear o2 hq O1;obtain⟨c0,f0⟩:=hcell w2 N2.out.nk 0 _ (by omega) rfl;obtain⟨c2,f2⟩:=hcell w2 N2.out.nk 3 _ (by omega) rfl;rw[Nat.add_zero]at c0 f0;go_wp2;go_end0
        rw[HR.out];exact plain_fin bp s i ns key dp g cap kvs w (K:=knd t) (f:=fun n=>{n with num:=num' t}) N2.out (O2.out.chg _) (fun n kv=>rfl) (fun n=>rfl) (by omega) HW.out
    ·have hR:plainL (sfx s i) i=.error (2,i):=by
      by_cases his:i<s.size
      ·rw[sfx_cons s i his]at h34 h45 hT hD ⊢
       have n34:s[i]≠34:=by simpa using h34
       have n45:s[i]≠45:=by simpa using h45
       have nD:¬isD s[i]=true:=hD;have nT:¬(s[i]=116∨s[i]=102∨s[i]=110):=by simpa using hT
       rw[plainL,if_neg n34,if_neg (by rintro(h|h);exact n45 h;exact nD h),if_neg nT]
      ·rw[sfx_nil s i (by omega)];rfl
     have HR:Hid _:=hR;have ne:∀(c:UInt8) (k:Int),(c.toNat:Int)=k→c≠0→(sfx s i).head?≠some c→(((pk (sfx s i)).toNat:Int)==k)=false:=by
      intro c k hk h0 hh;rw[beq_eq_false_iff_ne,←hk];intro e;exact pk_ne h0 hh (UInt8.toNat_inj.1 (by exact_mod_cast e))
     have k1:=ne 116 116 rfl (by decide) (fun h=>hT (.inl h));have k2:=ne 102 102 rfl (by decide) (fun h=>hT (.inr (.inl h)));have k3:=ne 110 110 rfl (by decide) (fun h=>hT (.inr (.inr h)));have hff:=fun w' h'=>cfail bp s i (.slice (some ⟨g,0,none⟩) (ns.length+1) cap) dp w' h'
     clear h34 h45 hT hD hD' hR ne;go_enter Tryz.func53,Tryz.ntmps53;go_wp2_with fail
     refine hpk.mono ?_;rintro e w1 ⟨rfl,h1,o1⟩;have g1:GV w1:=hG.onl o1 hbp hlt;have O1:Hid (Onl bp w w1):=o1;clear o1 hpk;go_wp2_with fail
     refine(hdg _).mono ?_;rintro e w1b ⟨rfl,rfl⟩;clear hdg;go_wp2_with fail
     refine(hff _ h1).mono ?_;rintro r w2 ⟨rfl,rfl⟩;clear hff;go_wp2;refine⟨rfl,?_⟩;rw[HR.out];exact⟨by omega,rfl,(O1.out.chg _).drop⟩
end
end Go.Proofs.YtaghclgookfmnaaGreatDoor
