import Derived.Test.YtaghclgookfmnaaGreatDoorCNum
namespace Go.Proofs.YtaghclgookfmnaaGreatDoor
open Go.RowKit
set_option linter.unusedVariables false
section
variable (bp:Nat) (s:ByteArray) (i:Nat) (vL:Value) (dp:Nat) (w:World)
def CI(R:Except (Nat×Nat) (Int×Nat))(r:Ending)(w':World):Prop:=
 match R with
 | .ok (n,k)=>r=.returned (.int .i64 n)∧CD bp s (i+k) vL dp w'
 | .error (e,o)=>r=.panicked (flt e (i+o))∧∃j,CD bp s j vL dp w'
theorem cpi_ok(Z:ByteArray)(hZ:Z.size≤140737488340000)(h:CD bp s i vL dp w)(v:Int)(hv:Lib.parseIntB 64 Z.data.toList=.ok v):Calls Tryz.prog 76 #[.string Z,.int .i64 10,.int .i64 64] w fun e w'=>e=.returned (.tuple #[.int .i64 v,.nilIface])∧CD bp s i vL dp w'∧Onl bp w w':=by
 refine(Tryz.strconv_ParseInt_10_at64_ok Z (by omega) v hv w).mono ?_;rintro e w' ⟨rfl,hw⟩;have hb:Below w.heap.size w w':=by
  rcases hw with rfl|⟨t,rfl⟩
  ·exact Below.refl _ _
  ·exact Lib.bytesWorld_below _ _ _
 exact⟨rfl,(hb.block bp h.lt).trans h,onl_below hb⟩
theorem cpi_range(Z:ByteArray)(hZ:Z.size≤140737488340000)(h:CD bp s i vL dp w)(hG:GV w)(hv:Lib.parseIntB 64 Z.data.toList=.range):Calls Tryz.prog 76 #[.string Z,.int .i64 10,.int .i64 64] w fun e w'=>∃N n,e=.returned (.tuple #[.int .i64 n,.iface 126 (.pointer (some ⟨N,0,none⟩))])∧CD bp s i vL dp w'∧Onl bp w w':=by
 obtain⟨tp,p,hvar⟩:=hG.rng;refine(Tryz.strconv_ParseInt_10_at64_range_var Z (by omega) hv tp p w hvar).mono ?_;rintro e w' ⟨N,rfl,_,_,hb⟩;exact⟨N,_,rfl,(hb.block bp h.lt).trans h,onl_below hb⟩
set_option maxHeartbeats 4000000 in
theorem cint_core(hs:s.size≤140737488340000)(hbp:8≤bp)(h:CD bp s i vL dp w)(hG:GV w)(m k T:Nat)(V:Int)(tk:Bool)(hm:i+m+k≤s.size)(hk:k=nd (sfx s (i+m)))(ht:Calls Tryz.prog 71 #[.pointer (some ⟨bp,0,none⟩),.int .u8 45] w fun r w'=>r=.returned (.bool tk)∧CD bp s (i+m) vL dp w'∧Onl bp w w')(hIL:intL (sfx s i)=if k=0∨(1<k∧(sfx s (i+m)).head?=some 48)then .error (2,m)else if maxI<T then .error (3,0)else .ok (V,m+k))(hV:T≤maxI→ -9007199254740991≤V∧V≤9007199254740991)(hPI:¬k=0→PI T V (Lib.parseIntB 64 (s.extract i (i+m+k)).data.toList)):Calls Tryz.prog 66 #[.pointer (some ⟨bp,0,none⟩)] w fun r w'=>CI bp s i vL dp (intL (sfx s i)) r w'∧Onl bp w w':=by
 obtain⟨D,hD⟩:∃D,s.extract (i+m) (i+m+k)=D:=⟨_,rfl⟩;have hDs:D.size=k:=by rw[←hD];simp;omega
 have hta:=fun w' h'=>ctakeAll_digit bp s (i+m) vL dp w' (by omega) h' (by omega)
 rw[run_nd,←hk,hD]at hta;have hD0:∀hh:0<D.size,(sfx s (i+m)).head?=some (D[0]'hh):=by
  intro hh;have hlt:i+m<s.size:=by omega
  rw[sfx_cons s (i+m) hlt];subst hD;simp[ByteArray.getElem_extract]
 obtain⟨c0,c1,c2,c3,cf⟩:=h.cell;have HIL:Hid _:=hIL;have HK:Hid _:=hk;clear hIL hk;by_cases hk0:k=0
 ·have eL:D.toList.length=D.size:=by rw[ByteArray.toList_eq];simp
  have hDl:D.toList=[]:=List.length_eq_zero_iff.1 (by omega);have eD:(D.toList==[])=true:=by rw[hDl];rfl
  have eD2:D.toList.isEmpty=true:=by rw[hDl];rfl
  have hR:Hid (intL (sfx s i)=.error (2,m)):=by
   have:=HIL.out;rw[if_pos (.inl hk0)]at this;exact this
  clear hD hD0 hDl eL HIL hPI;have hff:=fun w' h'=>cfail bp s (i+m+k) vL dp w' h'
  go_enter Tryz.func66,Tryz.ntmps66;go_wp2_with fail
  refine ht.mono ?_;rintro e w1 ⟨rfl,g1,o1⟩;have O1:Hid (Onl bp w w1):=o1;clear o1 ht c0 c1 c2 c3 cf;obtain⟨c0,c1,c2,c3,cf⟩:=g1.cell;go_wp2_with fail
  refine(hta w1 g1).mono ?_;rintro e w2 ⟨rfl,g2,o2⟩;have O2:Hid (Onl bp w w2):=O1.out.trans o2;clear o2 hta O1;go_wp2_with fail
  refine(hff w2 g2).mono ?_;rintro e w3 ⟨rfl,rfl⟩;clear hff;go_wp2;refine⟨rfl,?_,O2.out⟩;rw[hR.out];exact⟨rfl,_,g2⟩
 ·have eD:(D.toList==[])=false:=by
   rw[beq_eq_false_iff_ne];intro e;have:D.toList.length=D.size:=by rw[ByteArray.toList_eq];simp
   rw[e]at this;simp at this;omega
  have eD2:D.toList.isEmpty=false:=by
   cases hx:D.toList with
   | nil=>rw[hx]at eD;cases eD
   | cons _ _=>rfl
  have hDp:0<D.size:=by omega
  have hhead:=hD0 hDp;have hDi:(0:Int)<(D.size:Int):=by omega
  have hsz:(D.size:Int)=(k:Int):=by omega
  clear hD0 hD;by_cases hz:1<k∧(sfx s (i+m)).head?=some 48
  ·have h48:((D[0].toNat:Int)==48)=true:=by
    have:=hz.2;rw[hhead]at this;injection this with this;rw[this];rfl
   have h1k:(1:Int)<(D.size:Int):=by omega
   have hR:Hid (intL (sfx s i)=.error (2,m)):=by
    have:=HIL.out;rw[if_pos (.inr hz)]at this;exact this
   have hth:∀w',Calls Tryz.prog 54 #[.int .i64 2,.int .i64 ((i+m:Nat):Int)] w' fun r w''=>r=.panicked (flt 2 (i+m))∧w''=w':=fun w'=>cthrow 2 (i+m) w'
   rw[show((i+m:Nat):Int)=(i:Int)+(m:Int)by omega]at hth;clear HIL hPI hz hhead hsz hDs;go_enter Tryz.func66,Tryz.ntmps66;go_wp2_with fail
   refine ht.mono ?_;rintro e w1 ⟨rfl,g1,o1⟩;have O1:Hid (Onl bp w w1):=o1;clear o1 ht c0 c1 c2 c3 cf;obtain⟨c0,c1,c2,c3,cf⟩:=g1.cell;go_wp2_with fail
   refine(hta w1 g1).mono ?_;rintro e w2 ⟨rfl,g2,o2⟩;have O2:Hid (Onl bp w w2):=O1.out.trans o2;clear o2 hta O1;go_wp2_with fail
   refine(hth w2).mono ?_;rintro e w3 ⟨rfl,rfl⟩;clear hth;go_wp2;refine⟨rfl,?_,O2.out⟩;rw[hR.out];exact⟨rfl,_,g2⟩
  ·have hR0:intL (sfx s i)=if maxI<T then .error (3,0)else .ok (V,m+k):=by
    have:=HIL.out;rw[if_neg (by rintro(h|h);exact hk0 h;exact hz h)]at this;exact this
   have hpi:=hPI hk0;clear HIL hPI;obtain⟨Z,hZ⟩:∃Z,s.extract i (i+m+k)=Z:=⟨_,rfl⟩;have hZs:Z.size≤140737488340000:=by rw[←hZ];simp;omega
   rw[hZ]at hpi;have hb1:(i:Int)≤(i:Int)+(m:Int)+(k:Int):=by omega
   have hb2:(i:Int)+(m:Int)+(k:Int)≤(s.size:Int):=by omega
   have htn:((i:Int)+(m:Int)+(k:Int)).toNat=i+m+k:=by omega
   have hth:∀w',Calls Tryz.prog 54 #[.int .i64 3,.int .i64 (i:Int)] w' fun r w''=>r=.panicked (flt 3 i)∧w''=w':=fun w'=>cthrow 3 i w'
   have h48:¬(1:Int)<(D.size:Int)∨((1:Int)<(D.size:Int)∧((D[0].toNat:Int)==48)=false):=by
    by_cases h1:1<k
    ·refine .inr ⟨by omega,?_⟩
     rw[beq_eq_false_iff_ne];intro e;refine hz ⟨h1,?_⟩;rw[hhead];congr 1;exact UInt8.toNat_inj.1 (by simpa using by omega)
    ·exact .inl (by omega)
   clear hz hhead hsz hDs HK;have hVb:T≤maxI→ -9007199254740991≤V∧V≤9007199254740991:=hV;clear hV;rcases hpi with⟨hT,hP⟩|⟨hT,hP|⟨v,hP,hv⟩⟩
   ·have hR:Hid (intL (sfx s i)=.ok (V,m+k)):=by rw[if_neg (by omega)]at hR0;exact hR0
    have hpc:=fun w' h'=>cpi_ok bp s (i+m+k) vL dp w' Z hZs h' V hP
    rw[←hZ]at hpc;obtain⟨v1,v2⟩:=hVb hT;clear hR0 hP hth hZ hZs;go_enter Tryz.func66,Tryz.ntmps66;go_wp2_with fail
    refine ht.mono ?_;rintro e w1 ⟨rfl,g1,o1⟩;have O1:Hid (Onl bp w w1):=o1;clear o1 ht c0 c1 c2 c3 cf;obtain⟨c0,c1,c2,c3,cf⟩:=g1.cell;go_wp2_with fail
    refine(hta w1 g1).mono ?_;rintro e w2 ⟨rfl,g2,o2⟩;have O2:Hid (Onl bp w w2):=O1.out.trans o2;have hG2:GV w2:=hG.onl O2.out hbp h.lt;have hG3:GV w2.drew:=hG2.kept (fun _ _=>rfl);have g2':CD bp s (i+m+k) vL dp w2.drew:=g2;clear o2 hta O1 c0 c1 c2 c3 cf;obtain⟨c0,c1,c2,c3,cf⟩:=g2.cell;rw[show((i+m+k:Nat):Int)=(i:Int)+(m:Int)+(k:Int)by omega]at c1;rcases h48 with h48|⟨h1k,h48⟩
    all_goals
     go_wp2_with fail
     go_region_with (go_at_call 76;refine(hpc _ g2').mono ?_;rintro e w3 ⟨rfl,g3,o3⟩;have O3:Hid (Onl bp w w3):=Onl.trans (Onl.trans O2.out ((onl_refl bp w2).drewN 1)) o3;have G3:Hid (CD bp s (i+m+k) vL dp w3):=g3;clear o3 g3)
     all_goals
      go_wp2;go_ret;refine⟨?_,O3.out⟩;rw[hR.out];exact⟨rfl,by rw[←Nat.add_assoc];exact G3.out⟩
   ·have hR:Hid (intL (sfx s i)=.error (3,0)):=by rw[if_pos hT]at hR0;exact hR0
    have hpc:=fun w' h' g'=>cpi_range bp s (i+m+k) vL dp w' Z hZs h' g' hP
    rw[←hZ]at hpc;clear hR0 hP hZ hZs hVb;go_enter Tryz.func66,Tryz.ntmps66;go_wp2_with fail
    refine ht.mono ?_;rintro e w1 ⟨rfl,g1,o1⟩;have O1:Hid (Onl bp w w1):=o1;clear o1 ht c0 c1 c2 c3 cf;obtain⟨c0,c1,c2,c3,cf⟩:=g1.cell;go_wp2_with fail
    refine(hta w1 g1).mono ?_;rintro e w2 ⟨rfl,g2,o2⟩;have O2:Hid (Onl bp w w2):=O1.out.trans o2;have hG2:GV w2:=hG.onl O2.out hbp h.lt;have hG3:GV w2.drew:=hG2.kept (fun _ _=>rfl);have g2':CD bp s (i+m+k) vL dp w2.drew:=g2;clear o2 hta O1 c0 c1 c2 c3 cf;obtain⟨c0,c1,c2,c3,cf⟩:=g2.cell;rw[show((i+m+k:Nat):Int)=(i:Int)+(m:Int)+(k:Int)by omega]at c1;rcases h48 with h48|⟨h1k,h48⟩
    all_goals
     go_wp2_with fail
     go_region_with (go_at_call 76;refine(hpc _ g2' hG3).mono ?_;rintro e w3 ⟨N,n,rfl,g3,o3⟩;have O3:Hid (Onl bp w w3):=Onl.trans (Onl.trans O2.out ((onl_refl bp w2).drewN 1)) o3;have G3:Hid (CD bp s (i+m+k) vL dp w3):=g3;clear o3 g3)
     all_goals
      go_wp2_with fail
      refine(hth w3).mono ?_;rintro e w4 ⟨rfl,rfl⟩;clear hth;go_wp2;refine⟨rfl,?_,O3.out⟩;rw[hR.out];exact⟨rfl,_,G3.out⟩
   ·have hR:Hid (intL (sfx s i)=.error (3,0)):=by rw[if_pos hT]at hR0;exact hR0
    have hpc:=fun w' h'=>cpi_ok bp s (i+m+k) vL dp w' Z hZs h' v hP
    rw[←hZ]at hpc;clear hR0 hP hZ hZs hVb;rcases hv with hv|hv
    ·go_enter Tryz.func66,Tryz.ntmps66
     go_wp2_with fail
     refine ht.mono ?_;rintro e w1 ⟨rfl,g1,o1⟩;have O1:Hid (Onl bp w w1):=o1;clear o1 ht c0 c1 c2 c3 cf;obtain⟨c0,c1,c2,c3,cf⟩:=g1.cell;go_wp2_with fail
     refine(hta w1 g1).mono ?_;rintro e w2 ⟨rfl,g2,o2⟩;have O2:Hid (Onl bp w w2):=O1.out.trans o2;have hG2:GV w2:=hG.onl O2.out hbp h.lt;have hG3:GV w2.drew:=hG2.kept (fun _ _=>rfl);have g2':CD bp s (i+m+k) vL dp w2.drew:=g2;clear o2 hta O1 c0 c1 c2 c3 cf;obtain⟨c0,c1,c2,c3,cf⟩:=g2.cell;rw[show((i+m+k:Nat):Int)=(i:Int)+(m:Int)+(k:Int)by omega]at c1;rcases h48 with h48|⟨h1k,h48⟩
     all_goals
      go_wp2_with fail
      go_region_with (go_at_call 76;refine(hpc _ g2').mono ?_;rintro e w3 ⟨rfl,g3,o3⟩;have O3:Hid (Onl bp w w3):=Onl.trans (Onl.trans O2.out ((onl_refl bp w2).drewN 1)) o3;have G3:Hid (CD bp s (i+m+k) vL dp w3):=g3;clear o3 g3)
      all_goals
       go_wp2_with fail
       refine(hth w3).mono ?_;rintro e w4 ⟨rfl,rfl⟩;clear hth;go_wp2;refine⟨rfl,?_,O3.out⟩;rw[hR.out];exact⟨rfl,_,G3.out⟩
    ·have hv3:¬v< -9007199254740991:=by omega
     go_enter Tryz.func66,Tryz.ntmps66;go_wp2_with fail
     refine ht.mono ?_;rintro e w1 ⟨rfl,g1,o1⟩;have O1:Hid (Onl bp w w1):=o1;clear o1 ht c0 c1 c2 c3 cf;obtain⟨c0,c1,c2,c3,cf⟩:=g1.cell;go_wp2_with fail
     refine(hta w1 g1).mono ?_;rintro e w2 ⟨rfl,g2,o2⟩;have O2:Hid (Onl bp w w2):=O1.out.trans o2;have hG2:GV w2:=hG.onl O2.out hbp h.lt;have hG3:GV w2.drew:=hG2.kept (fun _ _=>rfl);have g2':CD bp s (i+m+k) vL dp w2.drew:=g2;clear o2 hta O1 c0 c1 c2 c3 cf;obtain⟨c0,c1,c2,c3,cf⟩:=g2.cell;rw[show((i+m+k:Nat):Int)=(i:Int)+(m:Int)+(k:Int)by omega]at c1;rcases h48 with h48|⟨h1k,h48⟩
     all_goals
      go_wp2_with fail
      go_region_with (go_at_call 76;refine(hpc _ g2').mono ?_;rintro e w3 ⟨rfl,g3,o3⟩;have O3:Hid (Onl bp w w3):=Onl.trans (Onl.trans O2.out ((onl_refl bp w2).drewN 1)) o3;have G3:Hid (CD bp s (i+m+k) vL dp w3):=g3;clear o3 g3)
      all_goals
       go_wp2_with fail
       refine(hth w3).mono ?_;rintro e w4 ⟨rfl,rfl⟩;clear hth;go_wp2;refine⟨rfl,?_,O3.out⟩;rw[hR.out];exact⟨rfl,_,G3.out⟩
theorem ext_take(s:ByteArray)(a b:Nat)(h:a≤b):(s.extract a b).data.toList=(sfx s a).take (b-a):=by rw[extract_list];rfl
theorem cint(hs:s.size≤140737488340000)(hbp:8≤bp)(h:CD bp s i vL dp w)(hG:GV w)(hi:i<s.size):Calls Tryz.prog 66 #[.pointer (some ⟨bp,0,none⟩)] w fun r w'=>CI bp s i vL dp (intL (sfx s i)) r w'∧Onl bp w w':=by
 by_cases hm:(sfx s i).head?=some 45
 ·have hc:s[i]=45:=by rw[sfx_cons s i hi]at hm;simpa using hm
  have hcons:sfx s i=45::sfx s (i+1):=by rw[sfx_cons s i hi,hc]
  have ht:=ctake_yes bp s i vL dp 45 w (by omega) h hm;rw[show((45:UInt8).toNat:Int)=45 from rfl]at ht;have hk:=nd_le (sfx s (i+1));rw[sfx_length]at hk;refine cint_core bp s i vL dp w hs hbp h hG 1 (nd (sfx s (i+1))) (accN 0 ((sfx s (i+1)).take (nd (sfx s (i+1))))) (-(accN 0 ((sfx s (i+1)).take (nd (sfx s (i+1)))):Int)) true (by omega) rfl ht (intL_minus hcons) (by unfold maxI;omega) ?_;intro hk0;rw[ext_take s i _ (by omega),hcons,show i+1+nd (sfx s (i+1))-i=nd (sfx s (i+1))+1 by omega,List.take_succ_cons];refine pi_minus _ ?_ (nd_all _);intro e;have:=congrArg List.length e;rw[List.length_take,sfx_length]at this;simp at this;omega
 ·have ht:=ctake_no bp s i vL dp 45 w h (by omega) (by decide) hm
  rw[show((45:UInt8).toNat:Int)=45 from rfl]at ht;have hk:=nd_le (sfx s i);rw[sfx_length]at hk;refine cint_core bp s i vL dp w hs hbp h hG 0 (nd (sfx s i)) (accN 0 ((sfx s i).take (nd (sfx s i)))) (accN 0 ((sfx s i).take (nd (sfx s i))):Int) false (by omega) rfl ht (intL_plain hm) (by unfold maxI;omega) ?_;intro hk0;rw[ext_take s i _ (by omega),show i+0+nd (sfx s i)-i=nd (sfx s i)by omega];refine pi_plain _ ?_ (nd_all _);intro e;have:=congrArg List.length e;rw[List.length_take,sfx_length]at this;simp at this;omega
end
end Go.Proofs.YtaghclgookfmnaaGreatDoor
