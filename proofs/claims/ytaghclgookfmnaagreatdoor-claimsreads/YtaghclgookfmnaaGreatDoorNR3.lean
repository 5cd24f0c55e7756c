import Derived.Test.YtaghclgookfmnaaGreatDoorNR2
import Derived.WalkSpells
set_option maxHeartbeats 1000000
set_option maxRecDepth 4000
namespace Go.Proofs.YtaghclgookfmnaaGreatDoor
open Go.RowKit
set_option linter.unusedVariables false
section
variable (bp:Nat) (s:ByteArray) (i:Nat) (ns:List Nd) (up:Option Nat) (key:List UInt8) (at0 dp:Nat) (w:World)
theorem rval_minus(hs:s.size≤65536)(h:RN bp s i ns 0 at0 dp w)(hi:i<s.size)(hc:s[i]=45)(hl:ns.length≤1000000)(hw:WFk ns)(hup:∀u,up=some u→u<ns.length)(d:Nat):Calls Tryz.prog 26 #[.pointer (some ⟨bp,0,none⟩),.int .i64 (upV up),.string ⟨key.toArray⟩] w fun r w'=>r=.returned (.tuple #[])∧VP bp s i ns up key at0 dp (valL d (sfx s i) i) w'∧Below bp w w':=by
 obtain⟨vL,h1,h2⟩:=h;have hR:valL d (sfx s i) i=(match intL (sfx s i)with| .error (e,o)=>.error (e,i+o)| .ok (n,k)=>.ok (.int n i,k)):=by
  rw[sfx_cons s i hi,valL_cons,if_neg (by rw[hc];decide),if_pos (by left;exact hc)];rfl
 have HR:Hid _:=hR;have hq:=fun w' (h':RD bp s i vL 0 at0 dp w')=>rinteger bp s i vL at0 dp w' (by omega) h' hi
 have hi':(i:Int)<(s.size:Int):=by omega
 have hif:decide ((s.size:Int)≤(i:Int))=false:=by simp;omega
 have hcb:((s[i].toNat:Int)==45)=true:=by rw[hc];rfl
 clear hR;have hlt:=h1.lt;have HN:Hid (Nodes (bp+1) 51 vL ns w):=h2;clear h2;obtain⟨c0,c1,c2,c3,c4,c5,cf⟩:=h1.cell;go_enter Tryz.func26,Tryz.ntmps26;go_wp2_with fail
 go_quiet (fail);have h3:=h1.drewN nq;have O3:Hid (Onl bp w (w.drewN nq)):=Onl.drewN (onl_refl bp w) nq;generalize w.drewN nq=w3 at h3 O3;clear c0 c1 c2 c3 c4 c5 cf nq h1;obtain⟨c0,c1,c2,c3,c4,c5,cf⟩:=h3.cell;go_wp2_with fail
 go_quiet (fail);have h4:=h3.drewN nq;have O4:Hid (Onl bp w (w3.drewN nq)):=Onl.drewN O3.out nq;generalize w3.drewN nq=w4 at h4 O4;clear c0 c1 c2 c3 c4 c5 cf nq h3 O3 w3;cases hQ:intL (sfx s i)with
 | ok q=>
   obtain⟨m,n⟩:=q;rw[hQ]at hq;have HR2:Hid (valL d (sfx s i) i=.ok (.int m i,n)):=by have:=HR.out;rw[hQ]at this;exact this
   clear hQ HR;go_wp2_with fail
   refine(hq _ h4).mono ?_;rintro e w5 ⟨⟨rfl,h5⟩,o5⟩;have O5:Hid (Onl bp w w5):=Onl.trans O4.out o5;have hN5:Nodes (bp+1) 51 vL ns w5:=HN.out.onl O5.out (by omega);have ha:=radd bp s (i+n) 0 at0 dp ns up ⟨2,key,[],m,[],i⟩ w5 ⟨vL,h5,hN5⟩ rfl hl hw hup;unfold ndV at ha;clear o5 hq h4 O4 h5 hN5 hl hup;go_wp2_with fail
   refine ha.mono ?_;rintro e w6 ⟨rfl,h6,hb6⟩;have H6:Hid _:=h6;have B6:Hid (Below bp w w6):=(onl_bel O5.out hlt).trans hb6;clear h6 hb6 ha;go_wp2;go_end0
   refine⟨rfl,?_,B6.out⟩;rw[HR2.out];exact H6.out
 | error q=>
   obtain⟨er,o⟩:=q;rw[hQ]at hq;have HE:Hid (0<er):=intL_err hQ;have HR2:Hid (valL d (sfx s i) i=.error (er,i+o)):=by have:=HR.out;rw[hQ]at this;exact this
   clear hQ HR;go_wp2_with fail
   refine(hq _ h4).mono ?_;rintro e w5 ⟨⟨⟨m,rfl⟩,j,h5⟩,o5⟩;have O5:Hid (Onl bp w w5):=Onl.trans O4.out o5;have hN5:Nodes (bp+1) 51 vL ns w5:=HN.out.onl O5.out (by omega);have ha:=radd bp s j er (i+o) dp ns up ⟨2,key,[],m,[],i⟩ w5 ⟨vL,h5,hN5⟩ rfl hl hw hup;unfold ndV at ha;clear o5 hq h4 O4 h5 hN5 hl hup;go_wp2_with fail
   refine ha.mono ?_;rintro e w6 ⟨rfl,⟨v6,h6,_⟩,hb6⟩;have H6:Hid _:=h6;have B6:Hid (Below bp w w6):=(onl_bel O5.out hlt).trans hb6;clear h6 hb6 ha;go_wp2;go_end0
   refine⟨rfl,?_,B6.out⟩;rw[HR2.out];exact⟨HE.out,_,_,H6.out⟩
theorem rval_digit(hs:s.size≤65536)(h:RN bp s i ns 0 at0 dp w)(hi:i<s.size)(hc:s[i]≠45)(hd:isD s[i]=true)(hl:ns.length≤1000000)(hw:WFk ns)(hup:∀u,up=some u→u<ns.length)(d:Nat):Calls Tryz.prog 26 #[.pointer (some ⟨bp,0,none⟩),.int .i64 (upV up),.string ⟨key.toArray⟩] w fun r w'=>r=.returned (.tuple #[])∧VP bp s i ns up key at0 dp (valL d (sfx s i) i) w'∧Below bp w w':=by
 obtain⟨vL,h1,h2⟩:=h;obtain⟨hd1,hd2⟩:=(isD_iff _).1 hd;have h34:s[i]≠34:=fun e=>by rw[e]at hd1;revert hd1;decide
 have hR:valL d (sfx s i) i=(match intL (sfx s i)with| .error (e,o)=>.error (e,i+o)| .ok (n,k)=>.ok (.int n i,k)):=by
  rw[sfx_cons s i hi,valL_cons,if_neg h34,if_pos (by right;exact hd)];rfl
 have HR:Hid _:=hR;have hq:=fun w' (h':RD bp s i vL 0 at0 dp w')=>rinteger bp s i vL at0 dp w' (by omega) h' hi
 have hdg:=rdigit s[i];rw[hd]at hdg;have hi':(i:Int)<(s.size:Int):=by omega
 have hif:decide ((s.size:Int)≤(i:Int))=false:=by simp;omega
 have n34:((s[i].toNat:Int)==34)=false:=u8_ne (k:=34) (by omega) h34;have n45:((s[i].toNat:Int)==45)=false:=u8_ne (k:=45) (by omega) hc;have HNN:Hid _:=And.intro n34 n45;clear hR hd hd1 hd2 n34 n45 h34 hc;have hlt:=h1.lt;have HN:Hid (Nodes (bp+1) 51 vL ns w):=h2;clear h2;obtain⟨c0,c1,c2,c3,c4,c5,cf⟩:=h1.cell;go_enter Tryz.func26,Tryz.ntmps26;go_wp2_with fail
 go_quiet (fail);have h3:=h1.drewN nq;have O3:Hid (Onl bp w (w.drewN nq)):=Onl.drewN (onl_refl bp w) nq;generalize w.drewN nq=w3 at h3 O3;clear c0 c1 c2 c3 c4 c5 cf nq h1;obtain⟨c0,c1,c2,c3,c4,c5,cf⟩:=h3.cell;go_wp2_with fail
 go_quiet (fail);have h4:=h3.drewN nq;have O4:Hid (Onl bp w (w3.drewN nq)):=Onl.drewN O3.out nq;generalize w3.drewN nq=w4 at h4 O4;clear c0 c1 c2 c3 c4 c5 cf nq h3 O3 w3;obtain⟨n34,n45⟩:=HNN.out;go_wp2_with fail
 refine(hdg _).mono ?_;rintro e w4' ⟨rfl,hw4⟩;rw[hw4];clear hw4 w4';clear n34 n45 hdg;cases hQ:intL (sfx s i)with
 | ok q=>
   obtain⟨m,n⟩:=q;rw[hQ]at hq;have HR2:Hid (valL d (sfx s i) i=.ok (.int m i,n)):=by have:=HR.out;rw[hQ]at this;exact this
   clear hQ HR;go_wp2_with fail
   refine(hq _ h4).mono ?_;rintro e w5 ⟨⟨rfl,h5⟩,o5⟩;have O5:Hid (Onl bp w w5):=Onl.trans O4.out o5;have hN5:Nodes (bp+1) 51 vL ns w5:=HN.out.onl O5.out (by omega);have ha:=radd bp s (i+n) 0 at0 dp ns up ⟨2,key,[],m,[],i⟩ w5 ⟨vL,h5,hN5⟩ rfl hl hw hup;unfold ndV at ha;clear o5 hq h4 O4 h5 hN5 hl hup;go_wp2_with fail
   refine ha.mono ?_;rintro e w6 ⟨rfl,h6,hb6⟩;have H6:Hid _:=h6;have B6:Hid (Below bp w w6):=(onl_bel O5.out hlt).trans hb6;clear h6 hb6 ha;go_wp2;go_end0
   refine⟨rfl,?_,B6.out⟩;rw[HR2.out];exact H6.out
 | error q=>
   obtain⟨er,o⟩:=q;rw[hQ]at hq;have HE:Hid (0<er):=intL_err hQ;have HR2:Hid (valL d (sfx s i) i=.error (er,i+o)):=by have:=HR.out;rw[hQ]at this;exact this
   clear hQ HR;go_wp2_with fail
   refine(hq _ h4).mono ?_;rintro e w5 ⟨⟨⟨m,rfl⟩,j,h5⟩,o5⟩;have O5:Hid (Onl bp w w5):=Onl.trans O4.out o5;have hN5:Nodes (bp+1) 51 vL ns w5:=HN.out.onl O5.out (by omega);have ha:=radd bp s j er (i+o) dp ns up ⟨2,key,[],m,[],i⟩ w5 ⟨vL,h5,hN5⟩ rfl hl hw hup;unfold ndV at ha;clear o5 hq h4 O4 h5 hN5 hl hup;go_wp2_with fail
   refine ha.mono ?_;rintro e w6 ⟨rfl,⟨v6,h6,_⟩,hb6⟩;have H6:Hid _:=h6;have B6:Hid (Below bp w w6):=(onl_bel O5.out hlt).trans hb6;clear h6 hb6 ha;go_wp2;go_end0
   refine⟨rfl,?_,B6.out⟩;rw[HR2.out];exact⟨HE.out,_,_,H6.out⟩
theorem rval_end(hs:s.size≤65536)(h:RN bp s i ns 0 at0 dp w)(hi:s.size≤i)(d:Nat):Calls Tryz.prog 26 #[.pointer (some ⟨bp,0,none⟩),.int .i64 (upV up),.string ⟨key.toArray⟩] w fun r w'=>r=.returned (.tuple #[])∧VP bp s i ns up key at0 dp (valL d (sfx s i) i) w'∧Below bp w w':=by
 obtain⟨vL,h1,h2⟩:=h;have HR:Hid (valL d (sfx s i) i=.error (2,i)):=by rw[sfx_nil s i hi];exact valL_nil d i
 have hi':(s.size:Int)≤(i:Int):=by omega
 have hlt:=h1.lt;have HN:Hid (Nodes (bp+1) 51 vL ns w):=h2;clear h2;obtain⟨c0,c1,c2,c3,c4,c5,cf⟩:=h1.cell;go_enter Tryz.func26,Tryz.ntmps26;go_wp2_with fail
 go_quiet (fail);have h3:=h1.drewN nq;have O3:Hid (Onl bp w (w.drewN nq)):=Onl.drewN (onl_refl bp w) nq;generalize w.drewN nq=w3 at h3 O3;clear c0 c1 c2 c3 c4 c5 cf nq h1;obtain⟨c0,c1,c2,c3,c4,c5,cf⟩:=h3.cell;have hfa:Calls Tryz.prog 27 #[.pointer (some ⟨bp,0,none⟩),.int .i64 2,.int .i64 (i:Int)] w3 fun r w'=>r=.returned (.tuple #[])∧RD bp s i vL 2 i dp w'∧Onl bp w3 w':=rfail0 bp s i vL at0 dp 2 i _ h3
 go_wp2_with fail
 refine hfa.mono ?_;rintro e w7 ⟨rfl,h7,o7⟩;have H7:Hid (RD bp s i vL 2 i dp w7):=h7;have O7:Hid (Onl bp w w7):=Onl.trans O3.out o7;clear o7 hfa;clear c0 c1 c2 c3 c4 c5 cf;obtain⟨c0,c1,c2,c3,c4,c5,cf⟩:=h7.cell;go_wp2;refine bodyPost_ret (results_none rfl _ _ _) rfl ?_;refine⟨rfl,?_,onl_bel O7.out hlt⟩;rw[HR.out];exact⟨by omega,_,_,H7.out⟩
theorem rval_other(hs:s.size≤65536)(h:RN bp s i ns 0 at0 dp w)(hi:i<s.size)(h34:s[i]≠34)(h45:s[i]≠45)(hd:isD s[i]=false)(h116:s[i]≠116)(h102:s[i]≠102)(h110:s[i]≠110)(h91:s[i]≠91)(h123:s[i]≠123)(d:Nat):Calls Tryz.prog 26 #[.pointer (some ⟨bp,0,none⟩),.int .i64 (upV up),.string ⟨key.toArray⟩] w fun r w'=>r=.returned (.tuple #[])∧VP bp s i ns up key at0 dp (valL d (sfx s i) i) w'∧Below bp w w':=by
 obtain⟨vL,h1,h2⟩:=h;have HR:Hid (valL d (sfx s i) i=.error (2,i)):=by
  show valL d (sfx s i) i=.error (2,i)
  rw[sfx_cons s i hi,valL_cons,if_neg h34,if_neg (by simp[h45,hd]),if_neg (by simp[h116,h102,h110]),if_neg (by simp[h91,h123])];all_goals rfl
 have hdg:=rdigit s[i];rw[hd]at hdg;have hi':(i:Int)<(s.size:Int):=by omega
 have hif:decide ((s.size:Int)≤(i:Int))=false:=by simp;omega
 have n34:((s[i].toNat:Int)==34)=false:=u8_ne (k:=34) (by omega) h34;have n45:((s[i].toNat:Int)==45)=false:=u8_ne (k:=45) (by omega) h45;have n116:((s[i].toNat:Int)==116)=false:=u8_ne (k:=116) (by omega) h116;have n102:((s[i].toNat:Int)==102)=false:=u8_ne (k:=102) (by omega) h102;have n110:((s[i].toNat:Int)==110)=false:=u8_ne (k:=110) (by omega) h110;have n91:((s[i].toNat:Int)==91)=false:=u8_ne (k:=91) (by omega) h91;have n123:((s[i].toNat:Int)==123)=false:=u8_ne (k:=123) (by omega) h123;have HNN:Hid _:=And.intro n34 (And.intro n45 (And.intro n116 (And.intro n102 (And.intro n110 (And.intro n91 n123)))));clear n34 n45 n116 n102 n110 n91 n123 h34 h45 h116 h102 h110 h91 h123 hd;have hlt:=h1.lt;have HN:Hid (Nodes (bp+1) 51 vL ns w):=h2;clear h2;obtain⟨c0,c1,c2,c3,c4,c5,cf⟩:=h1.cell;go_enter Tryz.func26,Tryz.ntmps26;go_wp2_with fail
 go_quiet (fail);have h3:=h1.drewN nq;have O3:Hid (Onl bp w (w.drewN nq)):=Onl.drewN (onl_refl bp w) nq;generalize w.drewN nq=w3 at h3 O3;clear c0 c1 c2 c3 c4 c5 cf nq h1;obtain⟨c0,c1,c2,c3,c4,c5,cf⟩:=h3.cell;go_wp2_with fail
 go_quiet (fail);have h4:=h3.drewN nq;have O4:Hid (Onl bp w (w3.drewN nq)):=Onl.drewN O3.out nq;generalize w3.drewN nq=w4 at h4 O4;clear c0 c1 c2 c3 c4 c5 cf nq h3 O3 w3;obtain⟨c0,c1,c2,c3,c4,c5,cf⟩:=h4.cell;obtain⟨n34,n45,n116,n102,n110,n91,n123⟩:=HNN.out;go_wp2_with fail
 refine(hdg _).mono ?_;rintro e w4' ⟨rfl,hw4⟩;rw[hw4];clear hw4 w4';have hfa:Calls Tryz.prog 27 #[.pointer (some ⟨bp,0,none⟩),.int .i64 2,.int .i64 (i:Int)] w4 fun r w'=>r=.returned (.tuple #[])∧RD bp s i vL 2 i dp w'∧Onl bp w4 w':=rfail0 bp s i vL at0 dp 2 i _ h4
 go_wp2_with fail
 refine hfa.mono ?_;rintro e w7 ⟨rfl,h7,o7⟩;have H7:Hid (RD bp s i vL 2 i dp w7):=h7;have O7:Hid (Onl bp w w7):=Onl.trans O4.out o7;clear o7 hfa;clear c0 c1 c2 c3 c4 c5 cf n34 n45 n116 n102 n110 n91 n123;go_wp2;go_end0
 refine⟨rfl,?_,onl_bel O7.out hlt⟩;rw[HR.out];exact⟨by omega,_,_,H7.out⟩
theorem rval_deep(hs:s.size≤65536)(h:RN bp s i ns 0 at0 32 w)(hi:i<s.size)(hc:s[i]=91∨s[i]=123):Calls Tryz.prog 26 #[.pointer (some ⟨bp,0,none⟩),.int .i64 (upV up),.string ⟨key.toArray⟩] w fun r w'=>r=.returned (.tuple #[])∧VP bp s i ns up key at0 32 (valL 0 (sfx s i) i) w'∧Below bp w w':=by
 obtain⟨vL,h1,h2⟩:=h;have hd:isD s[i]=false:=by rcases hc with e|e<;>rw[e]<;>rfl
 have HR:Hid (valL 0 (sfx s i) i=.error (5,i)):=by
  show valL 0 (sfx s i) i=.error (5,i)
  rw[sfx_cons s i hi,valL_cons,if_neg (by rcases hc with e|e<;>rw[e]<;>decide),if_neg (by rw[hd];rcases hc with e|e<;>rw[e]<;>decide),if_neg (by rcases hc with e|e<;>rw[e]<;>decide),if_pos hc];all_goals rfl
 have hi':(i:Int)<(s.size:Int):=by omega
 have hif:decide ((s.size:Int)≤(i:Int))=false:=by simp;omega
 have hlt:=h1.lt;rcases hc with hc|hc
 ·have hcb:((s[i].toNat:Int)==91)=true:=by rw[hc];rfl
  have hdg:∀w,Calls Tryz.prog 36 #[.int .u8 91] w fun e w'=>e=.returned (.bool false)∧w'=w:=rdigit 91
  have HN:Hid (Nodes (bp+1) 51 vL ns w):=h2;clear h2;obtain⟨c0,c1,c2,c3,c4,c5,cf⟩:=h1.cell;go_enter Tryz.func26,Tryz.ntmps26;go_wp2_with fail
  go_quiet (fail);have h3:=h1.drewN nq;have O3:Hid (Onl bp w (w.drewN nq)):=Onl.drewN (onl_refl bp w) nq;generalize w.drewN nq=w3 at h3 O3;clear c0 c1 c2 c3 c4 c5 cf nq h1;obtain⟨c0,c1,c2,c3,c4,c5,cf⟩:=h3.cell;go_wp2_with fail
  go_quiet (fail);have h4:=h3.drewN nq;have O4:Hid (Onl bp w (w3.drewN nq)):=Onl.drewN O3.out nq;generalize w3.drewN nq=w4 at h4 O4;clear c0 c1 c2 c3 c4 c5 cf nq h3 O3 w3;obtain⟨c0,c1,c2,c3,c4,c5,cf⟩:=h4.cell;go_wp2_with fail
  refine(hdg _).mono ?_;rintro e w4' ⟨rfl,hw4⟩;rw[hw4];clear hw4 w4';have hfa:Calls Tryz.prog 27 #[.pointer (some ⟨bp,0,none⟩),.int .i64 5,.int .i64 (i:Int)] w4 fun r w'=>r=.returned (.tuple #[])∧RD bp s i vL 5 i 32 w'∧Onl bp w4 w':=rfail0 bp s i vL at0 32 5 i _ h4
  go_wp2_with fail
  refine hfa.mono ?_;rintro e w7 ⟨rfl,h7,o7⟩;have H7:Hid (RD bp s i vL 5 i 32 w7):=h7;have O7:Hid (Onl bp w w7):=Onl.trans O4.out o7;clear o7 hfa;go_wp2;refine bodyPost_ret (results_none rfl _ _ _) rfl ?_;refine⟨rfl,?_,onl_bel O7.out hlt⟩;rw[HR.out];exact⟨by omega,_,_,H7.out⟩
 ·have hcb:((s[i].toNat:Int)==123)=true:=by rw[hc];rfl
  have hdg:∀w,Calls Tryz.prog 36 #[.int .u8 123] w fun e w'=>e=.returned (.bool false)∧w'=w:=rdigit 123
  have HN:Hid (Nodes (bp+1) 51 vL ns w):=h2;clear h2;obtain⟨c0,c1,c2,c3,c4,c5,cf⟩:=h1.cell;go_enter Tryz.func26,Tryz.ntmps26;go_wp2_with fail
  go_quiet (fail);have h3:=h1.drewN nq;have O3:Hid (Onl bp w (w.drewN nq)):=Onl.drewN (onl_refl bp w) nq;generalize w.drewN nq=w3 at h3 O3;clear c0 c1 c2 c3 c4 c5 cf nq h1;obtain⟨c0,c1,c2,c3,c4,c5,cf⟩:=h3.cell;go_wp2_with fail
  go_quiet (fail);have h4:=h3.drewN nq;have O4:Hid (Onl bp w (w3.drewN nq)):=Onl.drewN O3.out nq;generalize w3.drewN nq=w4 at h4 O4;clear c0 c1 c2 c3 c4 c5 cf nq h3 O3 w3;obtain⟨c0,c1,c2,c3,c4,c5,cf⟩:=h4.cell;go_wp2_with fail
  refine(hdg _).mono ?_;rintro e w4' ⟨rfl,hw4⟩;rw[hw4];clear hw4 w4';have hfa:Calls Tryz.prog 27 #[.pointer (some ⟨bp,0,none⟩),.int .i64 5,.int .i64 (i:Int)] w4 fun r w'=>r=.returned (.tuple #[])∧RD bp s i vL 5 i 32 w'∧Onl bp w4 w':=rfail0 bp s i vL at0 32 5 i _ h4
  go_wp2_with fail
  refine hfa.mono ?_;rintro e w7 ⟨rfl,h7,o7⟩;have H7:Hid (RD bp s i vL 5 i 32 w7):=h7;have O7:Hid (Onl bp w w7):=Onl.trans O4.out o7;clear o7 hfa;go_wp2;refine bodyPost_ret (results_none rfl _ _ _) rfl ?_;refine⟨rfl,?_,onl_bel O7.out hlt⟩;rw[HR.out];exact⟨by omega,_,_,H7.out⟩
end
theorem RD.setNew{bp:Nat}{s:ByteArray}{i:Nat}{vL:Value}{er at' dp b:Nat}{w:World}{cur:Array Value}{t:TypeId}{fz:Nat×Nat}(h:RD bp s i vL er at' dp w)(hc:w.heap[b]?=some (.cells cur t fz))(hb:bp<b)(k:Nat)(v:Value):RD bp s i vL er at' dp (w.setCell ⟨b,k,none⟩ v):=by
 rw[setCell_eq_setRow w b k _ _ _ _ hc];exact(setRow_other w b bp _ (by omega)).trans h
section
variable (bp:Nat) (s:ByteArray) (i:Nat) (ns:List Nd) (up:Option Nat) (key:List UInt8) (at0 dp:Nat) (w:World)
theorem rword(hs:s.size≤65536)(h:RN bp s i ns 0 at0 dp w)(hi:i<s.size)(hl:ns.length≤1000000)(hw:WFk ns)(hup:∀u,up=some u→u<ns.length)(E:Nat)(hE:i+nl (sfx s i)=E):Calls Tryz.prog 38 #[.pointer (some ⟨bp,0,none⟩),.int .i64 (upV up),.string ⟨key.toArray⟩] w fun r w'=>r=.returned (.tuple #[])∧VP bp s i ns up key at0 dp (wordL (sfx s i) i) w'∧Below bp w w':=by
 obtain⟨vL,h1,h2⟩:=h;have hlt:=h1.lt;have HN:Hid (Nodes (bp+1) 51 vL ns w):=h2;have H1:Hid (RD bp s i vL 0 at0 dp w):=h1;have HE:Hid (i+nl (sfx s i)=E):=hE;clear h2 hE;obtain⟨c0,c1,c2,c3,c4,c5,cf⟩:=h1.cell;go_enter Tryz.func38,Tryz.ntmps38;go_wp2_with fail
 go_loopw [12] (fun v wr=>∃p,i≤p∧p≤s.size∧p+nl (sfx s p)=E∧RD bp s p vL 0 at0 dp wr∧Onl bp w wr) (fun _ wr=>s.size-posOf (wr.cell? ⟨bp,1,none⟩))
 case atStart=>exact⟨i,Nat.le_refl _,by omega,HE.out,H1.out,onl_refl bp w⟩
 case round=>
  clear H1 c0 c1 c2 c3 c4 c5 cf h1;have HE0:=HE;clear HE;obtain⟨p,hip,hps,hE,hrd,ho⟩:=hrel;have HO:Hid (Onl bp w wr):=ho;have HM:Hid (posOf (wr.cell? ⟨bp,1,none⟩)=p):=pos_rd hrd;obtain⟨c0,c1,c2,c3,c4,c5,cf⟩:=hrd.cell;have hpb:(p:Int)≤65536:=by omega
  clear ho;by_cases hL:p<s.size∧∃h:p<s.size,isL s[p]=true
  ·obtain⟨hp,_,hL⟩:=hL
   obtain⟨a1,a2⟩:=(isL_iff _).1 hL;have HE:Hid (p+1+nl (sfx s (p+1))=E):=by rw[nl_cons s p hp hL]at hE;show p+1+nl (sfx s (p+1))=E;omega
   have HB:Hid (i≤p∧p<s.size):=⟨hip,hp⟩;have hp1:(p:Int)<(s.size:Int):=by omega
   have b1:(97:Int)≤(s[p].toNat:Int):=by omega
   have b2:(s[p].toNat:Int)≤122:=by omega
   clear hE hL hip hps a1 a2;go_wp2_with fail
   go_quiet (fail);have h3:=hrd.drewN nq;have O3:Hid (Onl bp w (wr.drewN nq)):=Onl.drewN HO.out nq;generalize wr.drewN nq=w3 at h3 O3;clear c0 c1 c2 c3 c4 c5 cf hrd HO nq;obtain⟨c0,c1,c2,c3,c4,c5,cf⟩:=h3.cell;have f1:=cf 1;go_wp2_with fail
   obtain⟨q1,q2⟩:=HB.out;refine⟨⟨p+1,by omega,by omega,HE.out,h3.setI (p+1),Onl.setCell O3.out _ h3⟩,?_⟩;rw[HM.out,pos_set h3 p];omega
  ·have hz:nl (sfx s p)=0:=by
    by_cases hp:p<s.size
    ·exact nl_stop s p hp (by cases e:isL s[p];rfl;exact absurd ⟨hp,hp,e⟩ hL)
    ·exact nl_end s p (by omega)
   have hpE:p=E:=by omega
   subst hpE;have HB:Hid (i≤p∧p≤s.size):=⟨hip,hps⟩;have hcase:(decide ((p:Int)<(s.size:Int))=false∧decide (p<s.size)=false)∨∃hp:p<s.size,(p:Int)<(s.size:Int)∧(decide ((97:Int)≤(s[p].toNat:Int))=false∨((97:Int)≤(s[p].toNat:Int)∧decide ((s[p].toNat:Int)≤122)=false)):=by
    by_cases hp:p<s.size
    ·right
     refine⟨hp,by omega,?_⟩;have hn:¬(97≤s[p].toNat∧s[p].toNat≤122):=fun e=>hL ⟨hp,hp,(isL_iff _).2 e⟩
     by_cases h97:97≤s[p].toNat
     ·right;exact⟨by omega,by simp;omega⟩
     ·left;simp;omega
    ·left;exact⟨by simp;omega,by simp;omega⟩
   have hip':(i:Int)≤(p:Int):=by omega
   have hps':(p:Int)≤(s.size:Int):=by omega
   clear hE hL hz hip hps;rcases hcase with⟨e1,e0⟩|⟨hp,e1,e2|⟨e2,e3⟩⟩
   ·go_wp2_with fail
    go_quiet (fail);have h3:=hrd.drewN nq;have O3:Hid (Onl bp w (wr.drewN nq)):=Onl.drewN HO.out nq;generalize wr.drewN nq=w3 at h3 O3;clear c0 c1 c2 c3 c4 c5 cf hrd HO nq;obtain⟨c0,c1,c2,c3,c4,c5,cf⟩:=h3.cell;go_wp2_with fail
    have hA:=h3.alloc (.cells #[.int .i64 1,.string ⟨key.toArray⟩,.string ⟨#[]⟩,.int .i64 0,.slice none 0 0,.int .i64 (i:Int)] 51);have hbx:=heap_alloc_new w3 (.cells #[.int .i64 1,.string ⟨key.toArray⟩,.string ⟨#[]⟩,.int .i64 0,.slice none 0 0,.int .i64 (i:Int)] 51 (0,0));have OA:Hid (Onl bp w (w3.alloc (.cells #[.int .i64 1,.string ⟨key.toArray⟩,.string ⟨#[]⟩,.int .i64 0,.slice none 0 0,.int .i64 (i:Int)] 51))):=Onl.alloc O3.out _;have hbl:bp<w3.heap.size:=h3.lt;have hb3:w.heap.size≤w3.heap.size:=O3.out.size;generalize w3.alloc (.cells #[.int .i64 1,.string ⟨key.toArray⟩,.string ⟨#[]⟩,.int .i64 0,.slice none 0 0,.int .i64 (i:Int)] 51)=wA at hA hbx OA;generalize hB3:w3.heap.size=b3 at hbx hbl hb3;clear c0 c1 c2 c3 c4 c5 cf h3 O3 hB3 w3 e1 e0;obtain⟨c0,c1,c2,c3,c4,c5,cf⟩:=hA.cell;go_quiet (fail);have h4:=hA.drewN nq;have O4:Hid (Onl bp w (wA.drewN nq)):=Onl.drewN OA.out nq;have hx4:(wA.drewN nq).heap[b3]?=some (.cells #[.int .i64 1,.string ⟨key.toArray⟩,.string ⟨#[]⟩,.int .i64 0,.slice none 0 0,.int .i64 (i:Int)] 51 (0,0)):=hbx;generalize wA.drewN nq=w4 at h4 O4 hx4;clear c0 c1 c2 c3 c4 c5 cf hA OA hbx nq wA;obtain⟨c0,c1,c2,c3,c4,c5,cf⟩:=h4.cell;have x0:=cell_of_row w4 b3 0 _ _ _ hx4;have x1:=cell_of_row w4 b3 1 _ _ _ hx4;have x2:=cell_of_row w4 b3 2 _ _ _ hx4;have x3:=cell_of_row w4 b3 3 _ _ _ hx4;have x4:=cell_of_row w4 b3 4 _ _ _ hx4;have x5:=cell_of_row w4 b3 5 _ _ _ hx4;have xf:∀k,w4.frozen? ⟨b3,k,none⟩=false:=fun k=>by simp[World.frozen?,hx4]
    simp only[List.getElem?_toArray,List.getElem?_cons_zero,List.getElem?_cons_succ]at x0 x1 x2 x3 x4 x5;by_cases hT:(s.extract i p).toList=[116,114,117,101]
    ·have eT:((s.extract i p).toList==[116,114,117,101])=true:=by rw[hT];rfl
     have HW:Hid (wordL (sfx s i) i=.ok (.truth true i,4)∧p-i=4):=word_T HE0.out HB.out hT;clear hT;have f3:=xf 3;have HF5:Hid (RD bp s p vL 0 at0 dp (w4.setCell ⟨b3,3,none⟩ (.int .i64 1))∧Onl bp w (w4.setCell ⟨b3,3,none⟩ (.int .i64 1))∧(w4.setCell ⟨b3,3,none⟩ (.int .i64 1)).heap[b3]?=some (.cells #[.int .i64 1,.string ⟨key.toArray⟩,.string ⟨#[]⟩,.int .i64 1,.slice none 0 0,.int .i64 (i:Int)] 51 (0,0))):=⟨RD.setNew h4 hx4 (by omega) 3 _,Onl.setNew O4.out hx4 hb3 3 _,by rw[setCell_eq_setRow w4 b3 3 _ _ _ _ hx4];exact setRow_heap w4 b3 _ _ _ _ hx4⟩;go_upto_region 11 with fail
     generalize w4.setCell ⟨b3,3,none⟩ (.int .i64 1)=w5 at HF5;obtain⟨h5,o5,y5⟩:=HF5.out;have z0:=cell_of_row w5 b3 0 _ _ _ y5;have z1:=cell_of_row w5 b3 1 _ _ _ y5;have z2:=cell_of_row w5 b3 2 _ _ _ y5;have z3:=cell_of_row w5 b3 3 _ _ _ y5;have z4:=cell_of_row w5 b3 4 _ _ _ y5;have z5:=cell_of_row w5 b3 5 _ _ _ y5;simp only[List.getElem?_toArray,List.getElem?_cons_zero,List.getElem?_cons_succ]at z0 z1 z2 z3 z4 z5;have ha:=radd bp s p 0 at0 dp ns up ⟨1,key,[],1,[],i⟩ w5 ⟨vL,h5,HN.out.onl o5 (by omega)⟩ rfl hl hw hup;unfold ndV at ha;have O5:Hid (Onl bp w w5):=o5;clear h5 o5 y5 c0 c1 c2 c3 c4 c5 cf x0 x1 x2 x3 x4 x5 xf h4 O4 hx4;go_wp2_with fail
     refine ha.mono ?_;rintro e w6 ⟨rfl,h6,hb6⟩;have H6:Hid (RN bp s p (addKid ns up ns.length++[⟨1,key,[],1,[],i⟩]) 0 at0 dp w6):=h6;have B6:Hid (Below bp w w6):=(onl_bel O5.out hlt).trans hb6;clear h6 hb6 ha;go_wp2;go_end0
     refine⟨rfl,?_,B6.out⟩;rw[HW.out.1];show RN bp s (i+4) _ 0 at0 dp w6
     rw[show i+4=p by have:=HW.out.2;omega];exact H6.out
    ·have eT:((s.extract i p).toList==[116,114,117,101])=false:=by rw[beq_eq_false_iff_ne];exact hT
     by_cases hF:(s.extract i p).toList=[102,97,108,115,101]
     ·have eF:((s.extract i p).toList==[102,97,108,115,101])=true:=by rw[hF];rfl
      have HW:Hid (wordL (sfx s i) i=.ok (.truth false i,5)∧p-i=5):=word_F HE0.out HB.out hF;clear hT hF;have HF5:Hid (RD bp s p vL 0 at0 dp w4∧Onl bp w w4∧w4.heap[b3]?=some (.cells #[.int .i64 1,.string ⟨key.toArray⟩,.string ⟨#[]⟩,.int .i64 0,.slice none 0 0,.int .i64 (i:Int)] 51 (0,0))):=⟨h4,O4.out,hx4⟩;go_upto_region 11 with fail
      obtain⟨h5,o5,y5⟩:=HF5.out;have ha:=radd bp s p 0 at0 dp ns up ⟨1,key,[],0,[],i⟩ w4 ⟨vL,h5,HN.out.onl o5 (by omega)⟩ rfl hl hw hup;unfold ndV at ha;have O5:Hid (Onl bp w w4):=o5;clear h5 o5 y5 c0 c1 c2 c3 c4 c5 cf xf h4 O4 hx4;go_wp2_with fail
      refine ha.mono ?_;rintro e w6 ⟨rfl,h6,hb6⟩;have H6:Hid (RN bp s p (addKid ns up ns.length++[⟨1,key,[],0,[],i⟩]) 0 at0 dp w6):=h6;have B6:Hid (Below bp w w6):=(onl_bel O5.out hlt).trans hb6;clear h6 hb6 ha;go_wp2;go_end0
      refine⟨rfl,?_,B6.out⟩;rw[HW.out.1];show RN bp s (i+5) _ 0 at0 dp w6
      rw[show i+5=p by have:=HW.out.2;omega];exact H6.out
     ·have eF:((s.extract i p).toList==[102,97,108,115,101])=false:=by rw[beq_eq_false_iff_ne];exact hF
      by_cases hN:(s.extract i p).toList=[110,117,108,108]
      ·have eN:((s.extract i p).toList==[110,117,108,108])=true:=by rw[hN];rfl
       have HW:Hid (wordL (sfx s i) i=.ok (.null i,4)∧p-i=4):=word_N HE0.out HB.out hN;clear hT hF hN;have f3:=xf 0;have HF5:Hid (RD bp s p vL 0 at0 dp (w4.setCell ⟨b3,0,none⟩ (.int .i64 0))∧Onl bp w (w4.setCell ⟨b3,0,none⟩ (.int .i64 0))∧(w4.setCell ⟨b3,0,none⟩ (.int .i64 0)).heap[b3]?=some (.cells #[.int .i64 0,.string ⟨key.toArray⟩,.string ⟨#[]⟩,.int .i64 0,.slice none 0 0,.int .i64 (i:Int)] 51 (0,0))):=⟨RD.setNew h4 hx4 (by omega) 0 _,Onl.setNew O4.out hx4 hb3 0 _,by rw[setCell_eq_setRow w4 b3 0 _ _ _ _ hx4];exact setRow_heap w4 b3 _ _ _ _ hx4⟩;go_upto_region 11 with fail
       generalize w4.setCell ⟨b3,0,none⟩ (.int .i64 0)=w5 at HF5;obtain⟨h5,o5,y5⟩:=HF5.out;have z0:=cell_of_row w5 b3 0 _ _ _ y5;have z1:=cell_of_row w5 b3 1 _ _ _ y5;have z2:=cell_of_row w5 b3 2 _ _ _ y5;have z3:=cell_of_row w5 b3 3 _ _ _ y5;have z4:=cell_of_row w5 b3 4 _ _ _ y5;have z5:=cell_of_row w5 b3 5 _ _ _ y5;simp only[List.getElem?_toArray,List.getElem?_cons_zero,List.getElem?_cons_succ]at z0 z1 z2 z3 z4 z5;have ha:=radd bp s p 0 at0 dp ns up ⟨0,key,[],0,[],i⟩ w5 ⟨vL,h5,HN.out.onl o5 (by omega)⟩ rfl hl hw hup;unfold ndV at ha;have O5:Hid (Onl bp w w5):=o5;clear h5 o5 y5 c0 c1 c2 c3 c4 c5 cf x0 x1 x2 x3 x4 x5 xf h4 O4 hx4;go_wp2_with fail
       refine ha.mono ?_;rintro e w6 ⟨rfl,h6,hb6⟩;have H6:Hid (RN bp s p (addKid ns up ns.length++[⟨0,key,[],0,[],i⟩]) 0 at0 dp w6):=h6;have B6:Hid (Below bp w w6):=(onl_bel O5.out hlt).trans hb6;clear h6 hb6 ha;go_wp2;go_end0
       refine⟨rfl,?_,B6.out⟩;rw[HW.out.1];show RN bp s (i+4) _ 0 at0 dp w6
       rw[show i+4=p by have:=HW.out.2;omega];exact H6.out
      ·have eN:((s.extract i p).toList==[110,117,108,108])=false:=by rw[beq_eq_false_iff_ne];exact hN
       have HW:Hid (wordL (sfx s i) i=.error (2,i)):=word_X HE0.out HB.out hT hF hN;clear hT hF hN;have hfa:Calls Tryz.prog 27 #[.pointer (some ⟨bp,0,none⟩),.int .i64 2,.int .i64 (i:Int)] w4 fun r w'=>r=.returned (.tuple #[])∧RD bp s p vL 2 i dp w'∧Onl bp w4 w':=rfail0 bp s p vL at0 dp 2 i _ h4
       go_wp2_with fail
       refine hfa.mono ?_;rintro e w5 ⟨rfl,h5,o5x⟩;have o5:Onl bp w w5:=Onl.trans O4.out o5x;have y5:w5.heap[b3]?=some (.cells #[.int .i64 1,.string ⟨key.toArray⟩,.string ⟨#[]⟩,.int .i64 0,.slice none 0 0,.int .i64 (i:Int)] 51 (0,0)):=(o5x.block b3 (Array.getElem?_eq_some_iff.1 hx4).1 (fun e=>by injection e with e;omega)).trans hx4;clear hfa o5x;have z0:=cell_of_row w5 b3 0 _ _ _ y5;have z1:=cell_of_row w5 b3 1 _ _ _ y5;have z2:=cell_of_row w5 b3 2 _ _ _ y5;have z3:=cell_of_row w5 b3 3 _ _ _ y5;have z4:=cell_of_row w5 b3 4 _ _ _ y5;have z5:=cell_of_row w5 b3 5 _ _ _ y5;simp only[List.getElem?_toArray,List.getElem?_cons_zero,List.getElem?_cons_succ]at z0 z1 z2 z3 z4 z5;have ha:=radd bp s p 2 i dp ns up ⟨1,key,[],0,[],i⟩ w5 ⟨vL,h5,HN.out.onl o5 (by omega)⟩ rfl hl hw hup;unfold ndV at ha;have O5:Hid (Onl bp w w5):=o5;clear h5 o5 y5 c0 c1 c2 c3 c4 c5 cf x0 x1 x2 x3 x4 x5 xf h4 O4 hx4;go_wp2_with fail
       refine ha.mono ?_;rintro e w6 ⟨rfl,h6,hb6⟩;have H6:Hid (RN bp s p (addKid ns up ns.length++[⟨1,key,[],0,[],i⟩]) 2 i dp w6):=h6;have B6:Hid (Below bp w w6):=(onl_bel O5.out hlt).trans hb6;clear h6 hb6 ha;go_wp2;go_end0
       refine⟨rfl,?_,B6.out⟩;rw[HW.out];obtain⟨v6,h6,_⟩:=H6.out;exact⟨by omega,_,_,h6⟩
   ·go_wp2_with fail
    go_quiet (fail);have h3:=hrd.drewN nq;have O3:Hid (Onl bp w (wr.drewN nq)):=Onl.drewN HO.out nq;generalize wr.drewN nq=w3 at h3 O3;clear c0 c1 c2 c3 c4 c5 cf hrd HO nq;obtain⟨c0,c1,c2,c3,c4,c5,cf⟩:=h3.cell;go_wp2_with fail
    have hA:=h3.alloc (.cells #[.int .i64 1,.string ⟨key.toArray⟩,.string ⟨#[]⟩,.int .i64 0,.slice none 0 0,.int .i64 (i:Int)] 51);have hbx:=heap_alloc_new w3 (.cells #[.int .i64 1,.string ⟨key.toArray⟩,.string ⟨#[]⟩,.int .i64 0,.slice none 0 0,.int .i64 (i:Int)] 51 (0,0));have OA:Hid (Onl bp w (w3.alloc (.cells #[.int .i64 1,.string ⟨key.toArray⟩,.string ⟨#[]⟩,.int .i64 0,.slice none 0 0,.int .i64 (i:Int)] 51))):=Onl.alloc O3.out _;have hbl:bp<w3.heap.size:=h3.lt;have hb3:w.heap.size≤w3.heap.size:=O3.out.size;generalize w3.alloc (.cells #[.int .i64 1,.string ⟨key.toArray⟩,.string ⟨#[]⟩,.int .i64 0,.slice none 0 0,.int .i64 (i:Int)] 51)=wA at hA hbx OA;generalize hB3:w3.heap.size=b3 at hbx hbl hb3;clear c0 c1 c2 c3 c4 c5 cf h3 O3 hB3 w3 e2;obtain⟨c0,c1,c2,c3,c4,c5,cf⟩:=hA.cell;go_quiet (fail);have h4:=hA.drewN nq;have O4:Hid (Onl bp w (wA.drewN nq)):=Onl.drewN OA.out nq;have hx4:(wA.drewN nq).heap[b3]?=some (.cells #[.int .i64 1,.string ⟨key.toArray⟩,.string ⟨#[]⟩,.int .i64 0,.slice none 0 0,.int .i64 (i:Int)] 51 (0,0)):=hbx;generalize wA.drewN nq=w4 at h4 O4 hx4;clear c0 c1 c2 c3 c4 c5 cf hA OA hbx nq wA;obtain⟨c0,c1,c2,c3,c4,c5,cf⟩:=h4.cell;have x0:=cell_of_row w4 b3 0 _ _ _ hx4;have x1:=cell_of_row w4 b3 1 _ _ _ hx4;have x2:=cell_of_row w4 b3 2 _ _ _ hx4;have x3:=cell_of_row w4 b3 3 _ _ _ hx4;have x4:=cell_of_row w4 b3 4 _ _ _ hx4;have x5:=cell_of_row w4 b3 5 _ _ _ hx4;have xf:∀k,w4.frozen? ⟨b3,k,none⟩=false:=fun k=>by simp[World.frozen?,hx4]
    simp only[List.getElem?_toArray,List.getElem?_cons_zero,List.getElem?_cons_succ]at x0 x1 x2 x3 x4 x5;by_cases hT:(s.extract i p).toList=[116,114,117,101]
    ·have eT:((s.extract i p).toList==[116,114,117,101])=true:=by rw[hT];rfl
     have HW:Hid (wordL (sfx s i) i=.ok (.truth true i,4)∧p-i=4):=word_T HE0.out HB.out hT;clear hT;have f3:=xf 3;have HF5:Hid (RD bp s p vL 0 at0 dp (w4.setCell ⟨b3,3,none⟩ (.int .i64 1))∧Onl bp w (w4.setCell ⟨b3,3,none⟩ (.int .i64 1))∧(w4.setCell ⟨b3,3,none⟩ (.int .i64 1)).heap[b3]?=some (.cells #[.int .i64 1,.string ⟨key.toArray⟩,.string ⟨#[]⟩,.int .i64 1,.slice none 0 0,.int .i64 (i:Int)] 51 (0,0))):=⟨RD.setNew h4 hx4 (by omega) 3 _,Onl.setNew O4.out hx4 hb3 3 _,by rw[setCell_eq_setRow w4 b3 3 _ _ _ _ hx4];exact setRow_heap w4 b3 _ _ _ _ hx4⟩;go_upto_region 11 with fail
     generalize w4.setCell ⟨b3,3,none⟩ (.int .i64 1)=w5 at HF5;obtain⟨h5,o5,y5⟩:=HF5.out;have z0:=cell_of_row w5 b3 0 _ _ _ y5;have z1:=cell_of_row w5 b3 1 _ _ _ y5;have z2:=cell_of_row w5 b3 2 _ _ _ y5;have z3:=cell_of_row w5 b3 3 _ _ _ y5;have z4:=cell_of_row w5 b3 4 _ _ _ y5;have z5:=cell_of_row w5 b3 5 _ _ _ y5;simp only[List.getElem?_toArray,List.getElem?_cons_zero,List.getElem?_cons_succ]at z0 z1 z2 z3 z4 z5;have ha:=radd bp s p 0 at0 dp ns up ⟨1,key,[],1,[],i⟩ w5 ⟨vL,h5,HN.out.onl o5 (by omega)⟩ rfl hl hw hup;unfold ndV at ha;have O5:Hid (Onl bp w w5):=o5;clear h5 o5 y5 c0 c1 c2 c3 c4 c5 cf x0 x1 x2 x3 x4 x5 xf h4 O4 hx4;go_wp2_with fail
     refine ha.mono ?_;rintro e w6 ⟨rfl,h6,hb6⟩;have H6:Hid (RN bp s p (addKid ns up ns.length++[⟨1,key,[],1,[],i⟩]) 0 at0 dp w6):=h6;have B6:Hid (Below bp w w6):=(onl_bel O5.out hlt).trans hb6;clear h6 hb6 ha;go_wp2;go_end0
     refine⟨rfl,?_,B6.out⟩;rw[HW.out.1];show RN bp s (i+4) _ 0 at0 dp w6
     rw[show i+4=p by have:=HW.out.2;omega];exact H6.out
    ·have eT:((s.extract i p).toList==[116,114,117,101])=false:=by rw[beq_eq_false_iff_ne];exact hT
     by_cases hF:(s.extract i p).toList=[102,97,108,115,101]
     ·have eF:((s.extract i p).toList==[102,97,108,115,101])=true:=by rw[hF];rfl
      have HW:Hid (wordL (sfx s i) i=.ok (.truth false i,5)∧p-i=5):=word_F HE0.out HB.out hF;clear hT hF;have HF5:Hid (RD bp s p vL 0 at0 dp w4∧Onl bp w w4∧w4.heap[b3]?=some (.cells #[.int .i64 1,.string ⟨key.toArray⟩,.string ⟨#[]⟩,.int .i64 0,.slice none 0 0,.int .i64 (i:Int)] 51 (0,0))):=⟨h4,O4.out,hx4⟩;go_upto_region 11 with fail
      obtain⟨h5,o5,y5⟩:=HF5.out;have ha:=radd bp s p 0 at0 dp ns up ⟨1,key,[],0,[],i⟩ w4 ⟨vL,h5,HN.out.onl o5 (by omega)⟩ rfl hl hw hup;unfold ndV at ha;have O5:Hid (Onl bp w w4):=o5;clear h5 o5 y5 c0 c1 c2 c3 c4 c5 cf xf h4 O4 hx4;go_wp2_with fail
      refine ha.mono ?_;rintro e w6 ⟨rfl,h6,hb6⟩;have H6:Hid (RN bp s p (addKid ns up ns.length++[⟨1,key,[],0,[],i⟩]) 0 at0 dp w6):=h6;have B6:Hid (Below bp w w6):=(onl_bel O5.out hlt).trans hb6;clear h6 hb6 ha;go_wp2;go_end0
      refine⟨rfl,?_,B6.out⟩;rw[HW.out.1];show RN bp s (i+5) _ 0 at0 dp w6
      rw[show i+5=p by have:=HW.out.2;omega];exact H6.out
     ·have eF:((s.extract i p).toList==[102,97,108,115,101])=false:=by rw[beq_eq_false_iff_ne];exact hF
      by_cases hN:(s.extract i p).toList=[110,117,108,108]
      ·have eN:((s.extract i p).toList==[110,117,108,108])=true:=by rw[hN];rfl
       have HW:Hid (wordL (sfx s i) i=.ok (.null i,4)∧p-i=4):=word_N HE0.out HB.out hN;clear hT hF hN;have f3:=xf 0;have HF5:Hid (RD bp s p vL 0 at0 dp (w4.setCell ⟨b3,0,none⟩ (.int .i64 0))∧Onl bp w (w4.setCell ⟨b3,0,none⟩ (.int .i64 0))∧(w4.setCell ⟨b3,0,none⟩ (.int .i64 0)).heap[b3]?=some (.cells #[.int .i64 0,.string ⟨key.toArray⟩,.string ⟨#[]⟩,.int .i64 0,.slice none 0 0,.int .i64 (i:Int)] 51 (0,0))):=⟨RD.setNew h4 hx4 (by omega) 0 _,Onl.setNew O4.out hx4 hb3 0 _,by rw[setCell_eq_setRow w4 b3 0 _ _ _ _ hx4];exact setRow_heap w4 b3 _ _ _ _ hx4⟩;go_upto_region 11 with fail
       generalize w4.setCell ⟨b3,0,none⟩ (.int .i64 0)=w5 at HF5;obtain⟨h5,o5,y5⟩:=HF5.out;have z0:=cell_of_row w5 b3 0 _ _ _ y5;have z1:=cell_of_row w5 b3 1 _ _ _ y5;have z2:=cell_of_row w5 b3 2 _ _ _ y5;have z3:=cell_of_row w5 b3 3 _ _ _ y5;have z4:=cell_of_row w5 b3 4 _ _ _ y5;have z5:=cell_of_row w5 b3 5 _ _ _ y5;simp only[List.getElem?_toArray,List.getElem?_cons_zero,List.getElem?_cons_succ]at z0 z1 z2 z3 z4 z5;have ha:=radd bp s p 0 at0 dp ns up ⟨0,key,[],0,[],i⟩ w5 ⟨vL,h5,HN.out.onl o5 (by omega)⟩ rfl hl hw hup;unfold ndV at ha;have O5:Hid (Onl bp w w5):=o5;clear h5 o5 y5 c0 c1 c2 c3 c4 c5 cf x0 x1 x2 x3 x4 x5 xf h4 O4 hx4;go_wp2_with fail
       refine ha.mono ?_;rintro e w6 ⟨rfl,h6,hb6⟩;have H6:Hid (RN bp s p (addKid ns up ns.length++[⟨0,key,[],0,[],i⟩]) 0 at0 dp w6):=h6;have B6:Hid (Below bp w w6):=(onl_bel O5.out hlt).trans hb6;clear h6 hb6 ha;go_wp2;go_end0
       refine⟨rfl,?_,B6.out⟩;rw[HW.out.1];show RN bp s (i+4) _ 0 at0 dp w6
       rw[show i+4=p by have:=HW.out.2;omega];exact H6.out
      ·have eN:((s.extract i p).toList==[110,117,108,108])=false:=by rw[beq_eq_false_iff_ne];exact hN
       have HW:Hid (wordL (sfx s i) i=.error (2,i)):=word_X HE0.out HB.out hT hF hN;clear hT hF hN;have hfa:Calls Tryz.prog 27 #[.pointer (some ⟨bp,0,none⟩),.int .i64 2,.int .i64 (i:Int)] w4 fun r w'=>r=.returned (.tuple #[])∧RD bp s p vL 2 i dp w'∧Onl bp w4 w':=rfail0 bp s p vL at0 dp 2 i _ h4
       go_wp2_with fail
       refine hfa.mono ?_;rintro e w5 ⟨rfl,h5,o5x⟩;have o5:Onl bp w w5:=Onl.trans O4.out o5x;have y5:w5.heap[b3]?=some (.cells #[.int .i64 1,.string ⟨key.toArray⟩,.string ⟨#[]⟩,.int .i64 0,.slice none 0 0,.int .i64 (i:Int)] 51 (0,0)):=(o5x.block b3 (Array.getElem?_eq_some_iff.1 hx4).1 (fun e=>by injection e with e;omega)).trans hx4;clear hfa o5x;have z0:=cell_of_row w5 b3 0 _ _ _ y5;have z1:=cell_of_row w5 b3 1 _ _ _ y5;have z2:=cell_of_row w5 b3 2 _ _ _ y5;have z3:=cell_of_row w5 b3 3 _ _ _ y5;have z4:=cell_of_row w5 b3 4 _ _ _ y5;have z5:=cell_of_row w5 b3 5 _ _ _ y5;simp only[List.getElem?_toArray,List.getElem?_cons_zero,List.getElem?_cons_succ]at z0 z1 z2 z3 z4 z5;have ha:=radd bp s p 2 i dp ns up ⟨1,key,[],0,[],i⟩ w5 ⟨vL,h5,HN.out.onl o5 (by omega)⟩ rfl hl hw hup;unfold ndV at ha;have O5:Hid (Onl bp w w5):=o5;clear h5 o5 y5 c0 c1 c2 c3 c4 c5 cf x0 x1 x2 x3 x4 x5 xf h4 O4 hx4;go_wp2_with fail
       refine ha.mono ?_;rintro e w6 ⟨rfl,h6,hb6⟩;have H6:Hid (RN bp s p (addKid ns up ns.length++[⟨1,key,[],0,[],i⟩]) 2 i dp w6):=h6;have B6:Hid (Below bp w w6):=(onl_bel O5.out hlt).trans hb6;clear h6 hb6 ha;go_wp2;go_end0
       refine⟨rfl,?_,B6.out⟩;rw[HW.out];obtain⟨v6,h6,_⟩:=H6.out;exact⟨by omega,_,_,h6⟩
   ·go_wp2_with fail
    go_quiet (fail);have h3:=hrd.drewN nq;have O3:Hid (Onl bp w (wr.drewN nq)):=Onl.drewN HO.out nq;generalize wr.drewN nq=w3 at h3 O3;clear c0 c1 c2 c3 c4 c5 cf hrd HO nq;obtain⟨c0,c1,c2,c3,c4,c5,cf⟩:=h3.cell;go_wp2_with fail
    have hA:=h3.alloc (.cells #[.int .i64 1,.string ⟨key.toArray⟩,.string ⟨#[]⟩,.int .i64 0,.slice none 0 0,.int .i64 (i:Int)] 51);have hbx:=heap_alloc_new w3 (.cells #[.int .i64 1,.string ⟨key.toArray⟩,.string ⟨#[]⟩,.int .i64 0,.slice none 0 0,.int .i64 (i:Int)] 51 (0,0));have OA:Hid (Onl bp w (w3.alloc (.cells #[.int .i64 1,.string ⟨key.toArray⟩,.string ⟨#[]⟩,.int .i64 0,.slice none 0 0,.int .i64 (i:Int)] 51))):=Onl.alloc O3.out _;have hbl:bp<w3.heap.size:=h3.lt;have hb3:w.heap.size≤w3.heap.size:=O3.out.size;generalize w3.alloc (.cells #[.int .i64 1,.string ⟨key.toArray⟩,.string ⟨#[]⟩,.int .i64 0,.slice none 0 0,.int .i64 (i:Int)] 51)=wA at hA hbx OA;generalize hB3:w3.heap.size=b3 at hbx hbl hb3;clear c0 c1 c2 c3 c4 c5 cf h3 O3 hB3 w3 e2 e3;obtain⟨c0,c1,c2,c3,c4,c5,cf⟩:=hA.cell;go_quiet (fail);have h4:=hA.drewN nq;have O4:Hid (Onl bp w (wA.drewN nq)):=Onl.drewN OA.out nq;have hx4:(wA.drewN nq).heap[b3]?=some (.cells #[.int .i64 1,.string ⟨key.toArray⟩,.string ⟨#[]⟩,.int .i64 0,.slice none 0 0,.int .i64 (i:Int)] 51 (0,0)):=hbx;generalize wA.drewN nq=w4 at h4 O4 hx4;clear c0 c1 c2 c3 c4 c5 cf hA OA hbx nq wA;obtain⟨c0,c1,c2,c3,c4,c5,cf⟩:=h4.cell;have x0:=cell_of_row w4 b3 0 _ _ _ hx4;have x1:=cell_of_row w4 b3 1 _ _ _ hx4;have x2:=cell_of_row w4 b3 2 _ _ _ hx4;have x3:=cell_of_row w4 b3 3 _ _ _ hx4;have x4:=cell_of_row w4 b3 4 _ _ _ hx4;have x5:=cell_of_row w4 b3 5 _ _ _ hx4;have xf:∀k,w4.frozen? ⟨b3,k,none⟩=false:=fun k=>by simp[World.frozen?,hx4]
    simp only[List.getElem?_toArray,List.getElem?_cons_zero,List.getElem?_cons_succ]at x0 x1 x2 x3 x4 x5;by_cases hT:(s.extract i p).toList=[116,114,117,101]
    ·have eT:((s.extract i p).toList==[116,114,117,101])=true:=by rw[hT];rfl
     have HW:Hid (wordL (sfx s i) i=.ok (.truth true i,4)∧p-i=4):=word_T HE0.out HB.out hT;clear hT;have f3:=xf 3;have HF5:Hid (RD bp s p vL 0 at0 dp (w4.setCell ⟨b3,3,none⟩ (.int .i64 1))∧Onl bp w (w4.setCell ⟨b3,3,none⟩ (.int .i64 1))∧(w4.setCell ⟨b3,3,none⟩ (.int .i64 1)).heap[b3]?=some (.cells #[.int .i64 1,.string ⟨key.toArray⟩,.string ⟨#[]⟩,.int .i64 1,.slice none 0 0,.int .i64 (i:Int)] 51 (0,0))):=⟨RD.setNew h4 hx4 (by omega) 3 _,Onl.setNew O4.out hx4 hb3 3 _,by rw[setCell_eq_setRow w4 b3 3 _ _ _ _ hx4];exact setRow_heap w4 b3 _ _ _ _ hx4⟩;go_upto_region 11 with fail
     generalize w4.setCell ⟨b3,3,none⟩ (.int .i64 1)=w5 at HF5;obtain⟨h5,o5,y5⟩:=HF5.out;have z0:=cell_of_row w5 b3 0 _ _ _ y5;have z1:=cell_of_row w5 b3 1 _ _ _ y5;have z2:=cell_of_row w5 b3 2 _ _ _ y5;have z3:=cell_of_row w5 b3 3 _ _ _ y5;have z4:=cell_of_row w5 b3 4 _ _ _ y5;have z5:=cell_of_row w5 b3 5 _ _ _ y5;simp only[List.getElem?_toArray,List.getElem?_cons_zero,List.getElem?_cons_succ]at z0 z1 z2 z3 z4 z5;have ha:=radd bp s p 0 at0 dp ns up ⟨1,key,[],1,[],i⟩ w5 ⟨vL,h5,HN.out.onl o5 (by omega)⟩ rfl hl hw hup;unfold ndV at ha;have O5:Hid (Onl bp w w5):=o5;clear h5 o5 y5 c0 c1 c2 c3 c4 c5 cf x0 x1 x2 x3 x4 x5 xf h4 O4 hx4;go_wp2_with fail
     refine ha.mono ?_;rintro e w6 ⟨rfl,h6,hb6⟩;have H6:Hid (RN bp s p (addKid ns up ns.length++[⟨1,key,[],1,[],i⟩]) 0 at0 dp w6):=h6;have B6:Hid (Below bp w w6):=(onl_bel O5.out hlt).trans hb6;clear h6 hb6 ha;go_wp2;go_end0
     refine⟨rfl,?_,B6.out⟩;rw[HW.out.1];show RN bp s (i+4) _ 0 at0 dp w6
     rw[show i+4=p by have:=HW.out.2;omega];exact H6.out
    ·have eT:((s.extract i p).toList==[116,114,117,101])=false:=by rw[beq_eq_false_iff_ne];exact hT
     by_cases hF:(s.extract i p).toList=[102,97,108,115,101]
     ·have eF:((s.extract i p).toList==[102,97,108,115,101])=true:=by rw[hF];rfl
      have HW:Hid (wordL (sfx s i) i=.ok (.truth false i,5)∧p-i=5):=word_F HE0.out HB.out hF;clear hT hF;have HF5:Hid (RD bp s p vL 0 at0 dp w4∧Onl bp w w4∧w4.heap[b3]?=some (.cells #[.int .i64 1,.string ⟨key.toArray⟩,.string ⟨#[]⟩,.int .i64 0,.slice none 0 0,.int .i64 (i:Int)] 51 (0,0))):=⟨h4,O4.out,hx4⟩;go_upto_region 11 with fail
      obtain⟨h5,o5,y5⟩:=HF5.out;have ha:=radd bp s p 0 at0 dp ns up ⟨1,key,[],0,[],i⟩ w4 ⟨vL,h5,HN.out.onl o5 (by omega)⟩ rfl hl hw hup;unfold ndV at ha;have O5:Hid (Onl bp w w4):=o5;clear h5 o5 y5 c0 c1 c2 c3 c4 c5 cf xf h4 O4 hx4;go_wp2_with fail
      refine ha.mono ?_;rintro e w6 ⟨rfl,h6,hb6⟩;have H6:Hid (RN bp s p (addKid ns up ns.length++[⟨1,key,[],0,[],i⟩]) 0 at0 dp w6):=h6;have B6:Hid (Below bp w w6):=(onl_bel O5.out hlt).trans hb6;clear h6 hb6 ha;go_wp2;go_end0
      refine⟨rfl,?_,B6.out⟩;rw[HW.out.1];show RN bp s (i+5) _ 0 at0 dp w6
      rw[show i+5=p by have:=HW.out.2;omega];exact H6.out
     ·have eF:((s.extract i p).toList==[102,97,108,115,101])=false:=by rw[beq_eq_false_iff_ne];exact hF
      by_cases hN:(s.extract i p).toList=[110,117,108,108]
      ·have eN:((s.extract i p).toList==[110,117,108,108])=true:=by rw[hN];rfl
       have HW:Hid (wordL (sfx s i) i=.ok (.null i,4)∧p-i=4):=word_N HE0.out HB.out hN;clear hT hF hN;have f3:=xf 0;have HF5:Hid (RD bp s p vL 0 at0 dp (w4.setCell ⟨b3,0,none⟩ (.int .i64 0))∧Onl bp w (w4.setCell ⟨b3,0,none⟩ (.int .i64 0))∧(w4.setCell ⟨b3,0,none⟩ (.int .i64 0)).heap[b3]?=some (.cells #[.int .i64 0,.string ⟨key.toArray⟩,.string ⟨#[]⟩,.int .i64 0,.slice none 0 0,.int .i64 (i:Int)] 51 (0,0))):=⟨RD.setNew h4 hx4 (by omega) 0 _,Onl.setNew O4.out hx4 hb3 0 _,by rw[setCell_eq_setRow w4 b3 0 _ _ _ _ hx4];exact setRow_heap w4 b3 _ _ _ _ hx4⟩;go_upto_region 11 with fail
       generalize w4.setCell ⟨b3,0,none⟩ (.int .i64 0)=w5 at HF5;obtain⟨h5,o5,y5⟩:=HF5.out;have z0:=cell_of_row w5 b3 0 _ _ _ y5;have z1:=cell_of_row w5 b3 1 _ _ _ y5;have z2:=cell_of_row w5 b3 2 _ _ _ y5;have z3:=cell_of_row w5 b3 3 _ _ _ y5;have z4:=cell_of_row w5 b3 4 _ _ _ y5;have z5:=cell_of_row w5 b3 5 _ _ _ y5;simp only[List.getElem?_toArray,List.getElem?_cons_zero,List.getElem?_cons_succ]at z0 z1 z2 z3 z4 z5;have ha:=radd bp s p 0 at0 dp ns up ⟨0,key,[],0,[],i⟩ w5 ⟨vL,h5,HN.out.onl o5 (by omega)⟩ rfl hl hw hup;unfold ndV at ha;have O5:Hid (Onl bp w w5):=o5;clear h5 o5 y5 c0 c1 c2 c3 c4 c5 cf x0 x1 x2 x3 x4 x5 xf h4 O4 hx4;go_wp2_with fail
       refine ha.mono ?_;rintro e w6 ⟨rfl,h6,hb6⟩;have H6:Hid (RN bp s p (addKid ns up ns.length++[⟨0,key,[],0,[],i⟩]) 0 at0 dp w6):=h6;have B6:Hid (Below bp w w6):=(onl_bel O5.out hlt).trans hb6;clear h6 hb6 ha;go_wp2;go_end0
       refine⟨rfl,?_,B6.out⟩;rw[HW.out.1];show RN bp s (i+4) _ 0 at0 dp w6
       rw[show i+4=p by have:=HW.out.2;omega];exact H6.out
      ·have eN:((s.extract i p).toList==[110,117,108,108])=false:=by rw[beq_eq_false_iff_ne];exact hN
       have HW:Hid (wordL (sfx s i) i=.error (2,i)):=word_X HE0.out HB.out hT hF hN;clear hT hF hN;have hfa:Calls Tryz.prog 27 #[.pointer (some ⟨bp,0,none⟩),.int .i64 2,.int .i64 (i:Int)] w4 fun r w'=>r=.returned (.tuple #[])∧RD bp s p vL 2 i dp w'∧Onl bp w4 w':=rfail0 bp s p vL at0 dp 2 i _ h4
       go_wp2_with fail
       refine hfa.mono ?_;rintro e w5 ⟨rfl,h5,o5x⟩;have o5:Onl bp w w5:=Onl.trans O4.out o5x;have y5:w5.heap[b3]?=some (.cells #[.int .i64 1,.string ⟨key.toArray⟩,.string ⟨#[]⟩,.int .i64 0,.slice none 0 0,.int .i64 (i:Int)] 51 (0,0)):=(o5x.block b3 (Array.getElem?_eq_some_iff.1 hx4).1 (fun e=>by injection e with e;omega)).trans hx4;clear hfa o5x;have z0:=cell_of_row w5 b3 0 _ _ _ y5;have z1:=cell_of_row w5 b3 1 _ _ _ y5;have z2:=cell_of_row w5 b3 2 _ _ _ y5;have z3:=cell_of_row w5 b3 3 _ _ _ y5;have z4:=cell_of_row w5 b3 4 _ _ _ y5;have z5:=cell_of_row w5 b3 5 _ _ _ y5;simp only[List.getElem?_toArray,List.getElem?_cons_zero,List.getElem?_cons_succ]at z0 z1 z2 z3 z4 z5;have ha:=radd bp s p 2 i dp ns up ⟨1,key,[],0,[],i⟩ w5 ⟨vL,h5,HN.out.onl o5 (by omega)⟩ rfl hl hw hup;unfold ndV at ha;have O5:Hid (Onl bp w w5):=o5;clear h5 o5 y5 c0 c1 c2 c3 c4 c5 cf x0 x1 x2 x3 x4 x5 xf h4 O4 hx4;go_wp2_with fail
       refine ha.mono ?_;rintro e w6 ⟨rfl,h6,hb6⟩;have H6:Hid (RN bp s p (addKid ns up ns.length++[⟨1,key,[],0,[],i⟩]) 2 i dp w6):=h6;have B6:Hid (Below bp w w6):=(onl_bel O5.out hlt).trans hb6;clear h6 hb6 ha;go_wp2;go_end0
       refine⟨rfl,?_,B6.out⟩;rw[HW.out];obtain⟨v6,h6,_⟩:=H6.out;exact⟨by omega,_,_,h6⟩
end
section
variable (bp:Nat) (s:ByteArray) (i:Nat) (ns:List Nd) (up:Option Nat) (key:List UInt8) (at0 dp:Nat) (w:World)
theorem rval_word(hs:s.size≤65536)(h:RN bp s i ns 0 at0 dp w)(hi:i<s.size)(hc:s[i]=116∨s[i]=102∨s[i]=110)(hl:ns.length≤1000000)(hw:WFk ns)(hup:∀u,up=some u→u<ns.length)(d:Nat):Calls Tryz.prog 26 #[.pointer (some ⟨bp,0,none⟩),.int .i64 (upV up),.string ⟨key.toArray⟩] w fun r w'=>r=.returned (.tuple #[])∧VP bp s i ns up key at0 dp (valL d (sfx s i) i) w'∧Below bp w w':=by
 obtain⟨vL,h1,h2⟩:=h;have hd:isD s[i]=false:=by rcases hc with e|e|e<;>rw[e]<;>rfl
 have HR:Hid (valL d (sfx s i) i=wordL (sfx s i) i):=by
  show valL d (sfx s i) i=wordL (sfx s i) i
  rw[sfx_cons s i hi,valL_cons,if_neg (by rcases hc with e|e|e<;>rw[e]<;>decide),if_neg (by rw[hd];rcases hc with e|e|e<;>rw[e]<;>decide),if_pos hc];all_goals rfl
 have hwd:=fun w' (h':RN bp s i ns 0 at0 dp w')=>rword bp s i ns up key at0 dp w' hs h' hi hl hw hup _ rfl
 have hi':(i:Int)<(s.size:Int):=by omega
 have hif:decide ((s.size:Int)≤(i:Int))=false:=by simp;omega
 have hlt:=h1.lt;clear hl hup hd;rcases hc with hc|hc|hc
 ·have hcb:((s[i].toNat:Int)==116)=true:=by rw[hc];rfl
  have hdg:∀w,Calls Tryz.prog 36 #[.int .u8 116] w fun e w'=>e=.returned (.bool false)∧w'=w:=rdigit 116
  have HN:Hid (Nodes (bp+1) 51 vL ns w):=h2;clear h2;obtain⟨c0,c1,c2,c3,c4,c5,cf⟩:=h1.cell;go_enter Tryz.func26,Tryz.ntmps26;go_wp2_with fail
  go_quiet (fail);have h3:=h1.drewN nq;have O3:Hid (Onl bp w (w.drewN nq)):=Onl.drewN (onl_refl bp w) nq;generalize w.drewN nq=w3 at h3 O3;clear c0 c1 c2 c3 c4 c5 cf nq h1;obtain⟨c0,c1,c2,c3,c4,c5,cf⟩:=h3.cell;go_wp2_with fail
  go_quiet (fail);have h4:=h3.drewN nq;have O4:Hid (Onl bp w (w3.drewN nq)):=Onl.drewN O3.out nq;generalize w3.drewN nq=w4 at h4 O4;clear c0 c1 c2 c3 c4 c5 cf nq h3 O3 w3;go_wp2_with fail
  refine(hdg _).mono ?_;rintro e w4' ⟨rfl,hw4⟩;rw[hw4];clear hw4 w4';go_wp2_with fail
  refine(hwd _ ⟨vL,h4,HN.out.onl O4.out (by omega)⟩).mono ?_;rintro e w6 ⟨rfl,h6,hb6⟩;have H6:Hid _:=h6;have B6:Hid (Below bp w w6):=(onl_bel O4.out hlt).trans hb6;clear h6 hb6 hwd h4;go_wp2;go_end0
  refine⟨rfl,?_,B6.out⟩;rw[HR.out];exact H6.out
 ·have hcb:((s[i].toNat:Int)==102)=true:=by rw[hc];rfl
  have hdg:∀w,Calls Tryz.prog 36 #[.int .u8 102] w fun e w'=>e=.returned (.bool false)∧w'=w:=rdigit 102
  have HN:Hid (Nodes (bp+1) 51 vL ns w):=h2;clear h2;obtain⟨c0,c1,c2,c3,c4,c5,cf⟩:=h1.cell;go_enter Tryz.func26,Tryz.ntmps26;go_wp2_with fail
  go_quiet (fail);have h3:=h1.drewN nq;have O3:Hid (Onl bp w (w.drewN nq)):=Onl.drewN (onl_refl bp w) nq;generalize w.drewN nq=w3 at h3 O3;clear c0 c1 c2 c3 c4 c5 cf nq h1;obtain⟨c0,c1,c2,c3,c4,c5,cf⟩:=h3.cell;go_wp2_with fail
  go_quiet (fail);have h4:=h3.drewN nq;have O4:Hid (Onl bp w (w3.drewN nq)):=Onl.drewN O3.out nq;generalize w3.drewN nq=w4 at h4 O4;clear c0 c1 c2 c3 c4 c5 cf nq h3 O3 w3;go_wp2_with fail
  refine(hdg _).mono ?_;rintro e w4' ⟨rfl,hw4⟩;rw[hw4];clear hw4 w4';go_wp2_with fail
  refine(hwd _ ⟨vL,h4,HN.out.onl O4.out (by omega)⟩).mono ?_;rintro e w6 ⟨rfl,h6,hb6⟩;have H6:Hid _:=h6;have B6:Hid (Below bp w w6):=(onl_bel O4.out hlt).trans hb6;clear h6 hb6 hwd h4;go_wp2;go_end0
  refine⟨rfl,?_,B6.out⟩;rw[HR.out];exact H6.out
 ·have hcb:((s[i].toNat:Int)==110)=true:=by rw[hc];rfl
  have hdg:∀w,Calls Tryz.prog 36 #[.int .u8 110] w fun e w'=>e=.returned (.bool false)∧w'=w:=rdigit 110
  have HN:Hid (Nodes (bp+1) 51 vL ns w):=h2;clear h2;obtain⟨c0,c1,c2,c3,c4,c5,cf⟩:=h1.cell;go_enter Tryz.func26,Tryz.ntmps26;go_wp2_with fail
  go_quiet (fail);have h3:=h1.drewN nq;have O3:Hid (Onl bp w (w.drewN nq)):=Onl.drewN (onl_refl bp w) nq;generalize w.drewN nq=w3 at h3 O3;clear c0 c1 c2 c3 c4 c5 cf nq h1;obtain⟨c0,c1,c2,c3,c4,c5,cf⟩:=h3.cell;go_wp2_with fail
  go_quiet (fail);have h4:=h3.drewN nq;have O4:Hid (Onl bp w (w3.drewN nq)):=Onl.drewN O3.out nq;generalize w3.drewN nq=w4 at h4 O4;clear c0 c1 c2 c3 c4 c5 cf nq h3 O3 w3;go_wp2_with fail
  refine(hdg _).mono ?_;rintro e w4' ⟨rfl,hw4⟩;rw[hw4];clear hw4 w4';go_wp2_with fail
  refine(hwd _ ⟨vL,h4,HN.out.onl O4.out (by omega)⟩).mono ?_;rintro e w6 ⟨rfl,h6,hb6⟩;have H6:Hid _:=h6;have B6:Hid (Below bp w w6):=(onl_bel O4.out hlt).trans hb6;clear h6 hb6 hwd h4;go_wp2;go_end0
  refine⟨rfl,?_,B6.out⟩;rw[HR.out];exact H6.out
end
def ValC(d dp:Nat):Prop:=∀(bp:Nat) (s:ByteArray) (i:Nat) (ns:List Nd) (up:Option Nat) (key:List UInt8) (at0:Nat) (w:World),s.size≤65536→RN bp s i ns 0 at0 dp w→ns.length≤i→WFk ns→(∀u,up=some u→u<ns.length)→
 Calls Tryz.prog 26 #[.pointer (some ⟨bp,0,none⟩),.int .i64 (upV up),.string ⟨key.toArray⟩] w fun r w'=>r=.returned (.tuple #[])∧VP bp s i ns up key at0 dp (valL d (sfx s i) i) w'∧Below bp w w'
section
variable (bp:Nat) (s:ByteArray) (i:Nat) (ns:List Nd) (up:Option Nat) (key:List UInt8) (at0 dp:Nat) (w:World)
def AI(d:Nat)(v:Value)(wr:World):Prop:=
 Below bp w wr∧
 ((v=.bool true∧∃p ts f,i<p∧p≤s.size∧(sfx s p).length<f∧RN bp s p (arrN ns up key i ts) 0 at0 dp wr∧(arrN ns up key i ts).length≤p∧WFk (arrN ns up key i ts)∧arrL (valL d) (sfx s i) i=finA ts i p (arrF (valL d) f (sfx s p) p))∨(v=.bool false∧∃p ts,i≤p∧RN bp s p (arrN ns up key i ts) 0 at0 dp wr∧arrL (valL d) (sfx s i) i=if(sfx s p).head?=some 93 then .ok (.arr ts i,p-i+1)else .error (2,p))∨(∃b,v=.bool b∧∃e a j vL,0<e∧RD bp s j vL e a dp wr∧arrL (valL d) (sfx s i) i=.error (e,a)))
theorem AM_er{j er a d:Nat}{vL v:Value}{w':World}(h:RD bp s j vL er a d w')(he:0<er):AM bp s v w'=0:=by
 unfold AM;rw[h.cell.2.2.2.1,if_neg (by simp[posOf];omega)]
theorem AM_ok{j a d:Nat}{vL:Value}{w':World}(h:RD bp s j vL 0 a d w'):AM bp s (.bool true) w'=s.size+2-j+1:=by
 unfold AM;rw[h.cell.2.2.2.1,pos_rd h];simp[posOf,boolOf]
theorem RN.onl{p:Nat}{L:List Nd}{er a:Nat}{wa wb:World}{q:Nat}{vL:Value}(hn:Nodes (bp+1) 51 vL L wa)(hr:RD bp s q vL er a dp wb)(ho:Onl bp wa wb):RN bp s q L er a dp wb:=⟨vL,hr,hn.onl ho (by omega)⟩
theorem rarray(d:Nat)(hv:ValC d dp)(hs:s.size≤65536)(h:RN bp s i ns 0 at0 dp w)(hi:i<s.size)(hc:s[i]=91)(hl:ns.length≤i)(hw:WFk ns)(hup:∀u,up=some u→u<ns.length):Calls Tryz.prog 39 #[.pointer (some ⟨bp,0,none⟩),.int .i64 (upV up),.string ⟨key.toArray⟩] w fun r w'=>r=.returned (.tuple #[])∧VP bp s i ns up key at0 dp (arrL (valL d) (sfx s i) i) w'∧Below bp w w':=by
 obtain⟨vL,h1,h2⟩:=h;have hlt:=h1.lt;have ha:=radd bp s i 0 at0 dp ns up ⟨4,key,[],0,[],i⟩ w ⟨vL,h1,h2⟩ rfl (by omega) hw hup;unfold ndV at ha;obtain⟨c0,c1,c2,c3,c4,c5,cf⟩:=h1.cell;have hh:(sfx s i).head?=some 91:=by rw[sfx_cons s i hi,hc];rfl
 go_enter Tryz.func39,Tryz.ntmps39;go_wp2_with fail
 refine ha.mono ?_;rintro e w1 ⟨rfl,⟨v1,r1,n1⟩,b1⟩;clear ha c0 c1 c2 c3 c4 c5 cf h1 h2;have hm:Calls Tryz.prog 45 #[.pointer (some ⟨bp,0,none⟩),.int .u8 91] w1 fun r w'=>r=.returned (.tuple #[])∧RD bp s (i+1) v1 0 at0 dp w'∧Onl bp w1 w':=rmust_ok bp s i v1 at0 dp 91 w1 (by omega) r1 hh
 have B1:Hid (Below bp w w1):=b1;have N1:Hid (Nodes (bp+1) 51 v1 (addKid ns up ns.length++[⟨4,key,[],0,[],i⟩]) w1):=n1;have hlt1:bp<w1.heap.size:=r1.lt;clear b1 n1;go_wp2_with fail
 refine hm.mono ?_;rintro e w2 ⟨rfl,r2,o2⟩;have O2:Hid (Onl bp w1 w2):=o2;have hbk:=rblanks bp s (i+1) v1 at0 dp w2 (by omega) r2;clear hm o2 r1 r2;go_wp2_with fail
 refine hbk.mono ?_;rintro e w3 ⟨rfl,r3,o3⟩;have O3:Hid (Onl bp w1 w3):=Onl.trans O2.out o3;clear hbk o3 O2;generalize hp:i+1+nb (sfx s (i+1))=p at r3;have HP:Hid (i+1+nb (sfx s (i+1))=p):=hp
 have hr:∀b,isAt 0 (sfx s p) 93=b→Calls Tryz.prog 33 #[.pointer (some ⟨bp,0,none⟩),.int .u8 93] w3 fun r w''=>r=.returned (.bool b)∧RD bp s p v1 0 at0 dp w''∧Onl bp w3 w'':=
  fun b hb=>hb▸(ris bp s p v1 0 at0 dp 93 w3 r3).mono fun e w'' ⟨he,n,hw⟩=>⟨he,hw▸r3.drewN n,hw▸(onl_refl bp w3).drewN n⟩
 generalize hb:isAt 0 (sfx s p) 93=b;have hr1:=hr b hb;have HB:Hid (isAt 0 (sfx s p) 93=b):=hb;clear hr hb hp r3;go_wp2_with fail
 refine hr1.mono ?_;rintro e w4 ⟨rfl,r4,o4⟩;have O4:Hid (Onl bp w1 w4):=Onl.trans O3.out o4;have R4:Hid (RD bp s p v1 0 at0 dp w4):=r4;clear hr1 o4 O3 r4;go_wp2_with fail
 go_loopw [7] (fun v wr=>AI bp s i ns up key at0 dp w d v wr) (fun v wr=>AM bp s v wr)
 case atStart=>
  have hb4:Below bp w w4:=B1.out.trans (onl_bel O4.out hlt1);have hN4:RN bp s p (arrN ns up key i []) 0 at0 dp w4:=⟨v1,R4.out,N1.out.onl O4.out (by omega)⟩;have hpe:=HP.out;have hple:p≤s.size:=by have:=nb_le (sfx s (i+1));rw[sfx_length]at this;omega
  refine⟨hb4,?_⟩;cases b with
  | true=>
    right;left;refine⟨rfl,p,[],by omega,hN4,?_⟩;exact arrL_head (valL d) s i p hpe (by have:=HB.out;simp[isAt]at this;exact this)
  | false=>
    left;have hne:(sfx s p).head?≠some 93:=by have:=HB.out;simp[isAt]at this;exact this
    refine⟨rfl,p,[],(sfx s i).length+1,by omega,hple,?_,hN4,?_,?_,?_⟩
    ·rw[sfx_length,sfx_length];omega
    ·rw[arrN_length];simp[sizeL];omega
    ·exact flat_wf hw up key (.arr [] i)
    ·rw[arrL_eq (valL d) s i p hpe,if_neg hne]
 case round=>
  clear B1 N1 O4 R4 HP HB hlt1;obtain⟨hbel,hcase⟩:=hrel;have HBL:Hid (Below bp w wr):=hbel;clear hbel;rcases hcase with⟨rfl,p,ts,f,hip,hps,hf,⟨vv,hrd,hnn⟩,hlen,hwf,hfin⟩|⟨rfl,p,ts,hip,⟨vv,hrd,hnn⟩,hfin⟩|⟨b,rfl,e,a,j,vv,he,hrd,hfin⟩
  ·have HF:Hid (arrL (valL d) (sfx s i) i=finA ts i p (arrF (valL d) f (sfx s p) p)):=hfin
   have HM:Hid (AM bp s (.bool true) wr=s.size+2-p+1):=AM_ok bp s hrd;have HNN:Hid (Nodes (bp+1) 51 vv (arrN ns up key i ts) wr):=hnn;obtain⟨f,rfl⟩:∃g,f=g+1:=⟨f-1,by omega⟩;have HLN:Hid ((arrN ns up key i ts).length≤p∧WFk (arrN ns up key i ts)∧i<p∧p≤s.size∧(sfx s p).length<f+1):=⟨hlen,hwf,hip,hps,hf⟩;obtain⟨c0,c1,c2,c3,c4,c5,cf⟩:=hrd.cell;have hbk:=rblanks bp s p vv at0 dp wr (by omega) hrd;generalize hp2:p+nb (sfx s p)=p2 at hbk;have HP2:Hid (p+nb (sfx s p)=p2):=hp2;have hltr:=hrd.lt;clear hfin hnn hlen hwf hip hps hf hp2 hrd;go_wp2_with fail
   refine hbk.mono ?_;rintro e w2 ⟨rfl,r2,o2⟩;have N2:=HNN.out.onl o2 (by omega);have hva:=hv bp s p2 (arrN ns up key i ts) (some ns.length) [] at0 w2 hs ⟨vv,r2,N2⟩ (by have:=HLN.out.1;have:=HP2.out;omega) HLN.out.2.1 (fun u hu=>by injection hu with hu;subst hu;rw[arrN_length];omega);have B2:Hid (Below bp w w2):=HBL.out.trans (onl_bel o2 hltr);have hlt2:bp<w2.heap.size:=r2.lt;clear hbk o2 r2 N2 HNN HBL c0 c1 c2 c3 c4 c5 cf hltr;cases hR:valL d (sfx s p2) p2 with
   | error q=>
     obtain⟨e,a⟩:=q;rw[hR]at hva;have HR:Hid (arrF (valL d) (f+1) (sfx s p) p=.error (e,a)):=by
      have h2:=HP2.out;refine arrF_er _ _ _ _ _ ?_;rw[h2];exact hR
     clear hR;go_wp2_with fail
     refine hva.mono ?_;rintro e0 w3 ⟨rfl,⟨he,j,v3,r3⟩,b3⟩;have B3:Hid (Below bp w w3):=B2.out.trans b3;have hlt3:bp<w3.heap.size:=r3.lt;have hbk:=rblanks_er bp s j v3 e a dp w3 r3 he;clear hva b3 B2 r3;go_wp2_with fail
     refine hbk.mono ?_;rintro e0 w4 ⟨rfl,r4,o4⟩;have B4:Hid (Below bp w w4):=B3.out.trans (onl_bel o4 hlt3)
     have hr4:Calls Tryz.prog 33 #[.pointer (some ⟨bp,0,none⟩),.int .u8 44] w4 fun r w''=>r=.returned (.bool false)∧RD bp s j v3 e a dp w''∧Onl bp w4 w'':=
      (ris bp s j v3 e a dp 44 w4 r4).mono fun e2 w'' ⟨he2,n,hw⟩=>⟨by rw[he2,isAt_er he],hw▸r4.drewN n,hw▸(onl_refl bp w4).drewN n⟩
     have hlt4:bp<w4.heap.size:=r4.lt;clear hbk o4 r4 B3;go_wp2_with fail
     refine hr4.mono ?_;rintro e0 w5 ⟨rfl,r5,o5⟩;have R5:Hid (RD bp s j v3 e a dp w5):=r5;have B5:Hid (Below bp w w5):=B4.out.trans (onl_bel o5 hlt4);clear hr4 o5 r5 B4;go_wp2_with fail
     refine⟨⟨B5.out,.inr (.inr ⟨false,rfl,e,a,j,v3,he,R5.out,?_⟩)⟩,?_⟩
     ·rw[HF.out,HR.out];rfl
     ·rw[AM_no,HM.out];omega
   | ok q=>
     obtain⟨tt,n⟩:=q;rw[hR]at hva;have hsz:=valL_size d _ _ _ _ hR;have HR:Hid (valL d (sfx s p2) p2=.ok (tt,n)):=hR;clear hR;go_wp2_with fail
     refine hva.mono ?_;rintro e0 w3 ⟨rfl,⟨v3,r3,n3⟩,b3⟩;rw[arrN_add]at n3;have B3:Hid (Below bp w w3):=B2.out.trans b3;have hlt3:bp<w3.heap.size:=r3.lt;have N3:Hid (Nodes (bp+1) 51 v3 (arrN ns up key i (ts++[tt])) w3):=n3;have hbk:=rblanks bp s (p2+n) v3 at0 dp w3 (by omega) r3;generalize hp3:p2+n+nb (sfx s (p2+n))=p3 at hbk;have HP3:Hid (p2+n+nb (sfx s (p2+n))=p3):=hp3;clear hva b3 B2 r3 n3 hp3;go_wp2_with fail
     refine hbk.mono ?_;rintro e0 w4 ⟨rfl,r4,o4⟩;have B4:Hid (Below bp w w4):=B3.out.trans (onl_bel o4 hlt3);have N4:Hid (Nodes (bp+1) 51 v3 (arrN ns up key i (ts++[tt])) w4):=N3.out.onl o4 (by omega);have hlt4:bp<w4.heap.size:=r4.lt
     have hr:∀b,isAt 0 (sfx s p3) 44=b→Calls Tryz.prog 33 #[.pointer (some ⟨bp,0,none⟩),.int .u8 44] w4 fun r w''=>r=.returned (.bool b)∧RD bp s p3 v3 0 at0 dp w''∧Onl bp w4 w'':=
      fun b hb=>hb▸(ris bp s p3 v3 0 at0 dp 44 w4 r4).mono fun e w'' ⟨he,n,hw⟩=>⟨he,hw▸r4.drewN n,hw▸(onl_refl bp w4).drewN n⟩
     clear hbk o4 B3 N3 r4;by_cases h44:(sfx s p3).head?=some 44
     ·have hr1:=hr true (isAt_yes h44)
      have hp3s:=head_lt h44;have hp3b:(p3:Int)≤65536:=by omega
      have H44:Hid ((sfx s p3).head?=some 44∧p3<s.size):=⟨h44,hp3s⟩;clear hr h44 hp3s;go_wp2_with fail
      refine hr1.mono ?_;rintro e0 w5 ⟨rfl,r5,o5⟩;have B5:Hid (Below bp w w5):=B4.out.trans (onl_bel o5 hlt4);have N5:Hid (Nodes (bp+1) 51 v3 (arrN ns up key i (ts++[tt])) w5):=N4.out.onl o5 (by omega);have hlt5:bp<w5.heap.size:=r5.lt;clear hr1 o5 B4 N4;obtain⟨c0,c1,c2,c3,c4,c5,cf⟩:=r5.cell;have f1:=cf 1;go_wp2_with fail
      have r6:=r5.setI (p3+1);have o6:Onl bp w5 (w5.setCell ⟨bp,1,none⟩ (.int .i64 ((p3+1:Nat):Int))):=Onl.setCell (onl_refl bp w5) _ r5;obtain⟨g1,g2,g3,g4,g5⟩:=HLN.out;have e2:=HP2.out;have e3:=HP3.out;refine⟨⟨B5.out.trans (onl_bel o6 hlt5),.inl ⟨rfl,p3+1,ts++[tt],f,by omega,by have:=H44.out.2;omega,?_,⟨v3,r6,N5.out.onl o6 (by omega)⟩,?_,?_,?_⟩⟩,?_⟩
      ·rw[sfx_length]at g5 ⊢;have:=H44.out.2;omega
      ·rw[arrN_length]at g1 ⊢;rw[sizeL_append];omega
      ·exact flat_wf hw up key (.arr (ts++[tt]) i)
      ·rw[HF.out,arrF_more (valL d) s p f p2 p3 n tt e2 HR.out e3 H44.out.1,finA_more ts tt i p (p3+1) (by omega) (by omega)]
      ·have hAM:AM bp s (.bool true) (w5.setCell ⟨bp,1,none⟩ (.int .i64 ((p3:Int)+1)))=s.size+2-(p3+1)+1:=AM_ok bp s r6
       rw[hAM,HM.out];have:=H44.out.2;omega
     ·have hr1:=hr false (isAt_no h44)
      have H44:Hid ((sfx s p3).head?≠some 44):=h44;clear hr h44;go_wp2_with fail
      refine hr1.mono ?_;rintro e0 w5 ⟨rfl,r5,o5⟩;have B5:Hid (Below bp w w5):=B4.out.trans (onl_bel o5 hlt4);have N5:Hid (Nodes (bp+1) 51 v3 (arrN ns up key i (ts++[tt])) w5):=N4.out.onl o5 (by omega);have R5:Hid (RD bp s p3 v3 0 at0 dp w5):=r5;clear hr1 o5 B4 N4 r5;go_wp2_with fail
      obtain⟨g1,g2,g3,g4,g5⟩:=HLN.out;have e2:=HP2.out;have e3:=HP3.out;refine⟨⟨B5.out,.inr (.inl ⟨rfl,p3,ts++[tt],by omega,⟨v3,R5.out,N5.out⟩,?_⟩)⟩,?_⟩
      ·rw[HF.out,arrF_last (valL d) s p f p2 p3 n tt e2 HR.out e3 H44.out,finA_last ts tt i p p3 (by omega) (by omega)]
      ·rw[AM_no,HM.out];omega
  ·have HF:Hid (arrL (valL d) (sfx s i) i=if(sfx s p).head?=some 93 then .ok (.arr ts i,p-i+1)else .error (2,p)):=hfin
   have HNN:Hid (Nodes (bp+1) 51 vv (arrN ns up key i ts) wr):=hnn;have hltr:=hrd.lt;have HIP:Hid (i≤p):=hip;by_cases h93:(sfx s p).head?=some 93
   ·have hm:Calls Tryz.prog 45 #[.pointer (some ⟨bp,0,none⟩),.int .u8 93] wr fun r w'=>r=.returned (.tuple #[])∧RD bp s (p+1) vv 0 at0 dp w'∧Onl bp wr w':=rmust_ok bp s p vv at0 dp 93 wr (by omega) hrd h93
    have H93:Hid _:=h93;clear hfin hnn h93 hrd hip;go_wp2_with fail
    refine hm.mono ?_;rintro e0 w5 ⟨rfl,r5,o5⟩;have R5:Hid (RD bp s (p+1) vv 0 at0 dp w5):=r5;have N5:Hid (Nodes (bp+1) 51 vv (arrN ns up key i ts) w5):=HNN.out.onl o5 (by omega);have B5:Hid (Below bp w w5):=HBL.out.trans (onl_bel o5 hltr);clear hm o5 r5;go_wp2;go_end0
    refine⟨rfl,?_,B5.out⟩;rw[HF.out,if_pos H93.out];show RN bp s (i+(p-i+1)) _ 0 at0 dp w5
    rw[show i+(p-i+1)=p+1 by have:=HIP.out;omega];exact⟨vv,R5.out,N5.out⟩
   ·have hm:Calls Tryz.prog 45 #[.pointer (some ⟨bp,0,none⟩),.int .u8 93] wr fun r w'=>r=.returned (.tuple #[])∧RD bp s p vv 2 p dp w'∧Onl bp wr w':=rmust_no bp s p vv at0 dp 93 wr hrd h93
    have H93:Hid (¬(sfx s p).head?=some 93):=h93;clear hfin hnn h93 hrd hip;go_wp2_with fail
    refine hm.mono ?_;rintro e0 w5 ⟨rfl,r5,o5⟩;have R5:Hid (RD bp s p vv 2 p dp w5):=r5;have B5:Hid (Below bp w w5):=HBL.out.trans (onl_bel o5 hltr);clear hm o5 r5;go_wp2;go_end0
    refine⟨rfl,?_,B5.out⟩;rw[HF.out,if_neg H93.out];exact⟨by omega,_,_,R5.out⟩
  ·have HF:Hid (arrL (valL d) (sfx s i) i=.error (e,a)):=hfin
   have hm:Calls Tryz.prog 45 #[.pointer (some ⟨bp,0,none⟩),.int .u8 93] wr fun r w'=>r=.returned (.tuple #[])∧∃n,w'=wr.drewN n:=rmust_er bp s j vv e a dp 93 wr hrd he
   have heb:((e:Int)==0)=false:=by simp;omega
   obtain⟨c0,c1,c2,c3,c4,c5,cf⟩:=hrd.cell;have hltr:=hrd.lt;clear hfin;cases b
   all_goals
    go_wp2_with fail
    refine hm.mono ?_;rintro e0 w5 ⟨rfl,n,hw5⟩;rw[hw5];clear hw5 w5;go_wp2;go_end0
    refine⟨rfl,?_,HBL.out.trans (onl_bel ((onl_refl bp wr).drewN n) hltr)⟩;rw[HF.out];exact⟨he,j,vv,hrd⟩
end
theorem rmember(B:Nat)(v:Value)(L:List Nd)(w:World)(hN:Nodes B 51 v L w)(o:Nat)(n:Nd)(hn:L[o]?=some n)(hks:∀k∈n.kids,k<L.length)(hb:L.length≤1000000)(hkb:n.kids.length≤1000000)(name:ByteArray):Calls Tryz.prog 14 #[v,.int .i64 (o:Int),.string name] w fun r w'=>(∃z:Int,r=.returned (.int .i64 z)∧(0≤z↔∃(k:Nat) (n2:Nd),k∈n.kids∧L[k]?=some n2∧(⟨n2.key.toArray⟩:ByteArray)=name))∧w'=w:=by
 have hol:o<L.length:=(List.getElem?_eq_some_iff.1 hn).1;obtain⟨g,cap,rfl⟩:∃g cap,v=.slice (some ⟨g,0,none⟩) L.length cap:=by
  obtain⟨kvs,k1,k2,k3,k4⟩:=hN;rcases k2.2 with⟨_,h⟩|⟨g,c,cu,a,_⟩
  ·omega
  ·exact⟨g,c,a⟩
 obtain⟨q1,q2⟩:=hN.cells;obtain⟨adk,capk,hck,hkid⟩:=q2 o n hn;have ho':(o:Int)<(L.length:Int):=by omega
 have HK:Hid (∀j k,n.kids[j]?=some k→∃gk,adk=some ⟨gk,0,none⟩∧w.cell? ⟨gk,j,none⟩=some (iV k)):=hkid;have HQ1:Hid (∀u n,L[u]?=some n→w.cell? ⟨g,u*6+1,none⟩=some (.string ⟨n.key.toArray⟩)):=q1;have HKS:Hid (∀k∈n.kids,k<L.length):=hks;clear q1 q2 hkid hN hn hks;go_enter Tryz.func14,Tryz.ntmps14;go_wp2_with fail
 go_loopw [7] (fun i wr=>∃j:Nat,j≤n.kids.length∧i=.int .i64 (j:Int)∧wr=w∧∀(j' k:Nat) (n2:Nd),j'<j→n.kids[j']?=some k→L[k]?=some n2→(⟨n2.key.toArray⟩:ByteArray)≠name) (fun i _=>n.kids.length-(intOf i).toNat)
 case atStart=>exact⟨0,by omega,rfl,rfl,fun j' k n2 h=>by omega⟩
 case round=>
  obtain⟨j,hj,rfl,hwr,hno⟩:=hrel;rw[hwr];clear hwr wr;have HNO:Hid (∀(j' k:Nat) (n2:Nd),j'<j→n.kids[j']?=some k→L[k]?=some n2→(⟨n2.key.toArray⟩:ByteArray)≠name):=hno;clear hno;by_cases hlt:j<n.kids.length
  ·have hlt':(j:Int)<(n.kids.length:Int):=by omega
   obtain⟨k,hk⟩:∃k,n.kids[j]?=some k:=⟨_,List.getElem?_eq_getElem hlt⟩;obtain⟨gk,hgk,hcj⟩:=HK.out j k hk;have hkm:k∈n.kids:=List.mem_of_getElem? hk;have hkl:=HKS.out k hkm;obtain⟨n2,hn2⟩:∃n2,L[k]?=some n2:=⟨_,List.getElem?_eq_getElem hkl⟩;have hck2:=HQ1.out k n2 hn2;have hkl':(k:Int)<(L.length:Int):=by omega
   unfold iV at hcj;subst hgk;have HF:Hid (n.kids[j]?=some k∧k∈n.kids∧L[k]?=some n2):=⟨hk,hkm,hn2⟩;clear hk hkm hn2 hkl;by_cases he:(⟨n2.key.toArray⟩:ByteArray)=name
   ·have HE:Hid _:=he
    rw[he]at hck2;clear he;go_wp2;go_ret;exact⟨⟨_,rfl,⟨fun _=>⟨k,n2,HF.out.2.1,HF.out.2.2,HE.out⟩,fun _=>by omega⟩⟩,rfl⟩
   ·have HE:Hid (¬(⟨n2.key.toArray⟩:ByteArray)=name):=he
    generalize hq:(⟨n2.key.toArray⟩:ByteArray)=q at hck2 he HE;have HQ:Hid ((⟨n2.key.toArray⟩:ByteArray)=q):=hq;have hl:(q.toList==name.toList)=false:=by
     rw[beq_eq_false_iff_ne,ByteArray.toList_eq,ByteArray.toList_eq];intro h;exact he (Go.WideShapes.bytes_inj h)
    clear he hq;go_wp2;refine⟨⟨j+1,by omega,by go_num,trivial,?_⟩,by simp[intOf];omega⟩;intro j' k' n3 hj' hk' hn3;by_cases e:j'=j
    ·subst e
     rw[HF.out.1]at hk';injection hk' with hk';subst hk';rw[HF.out.2.2]at hn3;injection hn3 with hn3;subst hn3;rw[HQ.out];exact HE.out
    ·exact HNO.out j' k' n3 (by omega) hk' hn3
  ·have hlt':(n.kids.length:Int)≤(j:Int):=by omega
   go_wp2;go_ret;refine⟨⟨_,rfl,⟨fun h=>by omega,?_⟩⟩,rfl⟩;rintro⟨k,n2,hk,hn2,he⟩;obtain⟨j',hj',hk'⟩:=List.getElem_of_mem hk;exact absurd he (HNO.out j' k n2 (by omega) (by rw[List.getElem?_eq_getElem hj',hk']) hn2)
section
variable (bp:Nat) (s:ByteArray) (i:Nat) (ns:List Nd) (up:Option Nat) (key:List UInt8) (at0 dp:Nat) (w:World)
theorem rval_er(e a d:Nat)(vL:Value)(u:Int)(kb:ByteArray)(h1:RD bp s i vL e a d w)(he:0<e):Calls Tryz.prog 26 #[.pointer (some ⟨bp,0,none⟩),.int .i64 u,.string kb] w fun r w'=>r=.returned (.tuple #[])∧RD bp s i vL e a d w'∧Onl bp w w':=by
 have heb:((e:Int) != 0)=true:=by simp;omega
 obtain⟨c0,c1,c2,c3,c4,c5,cf⟩:=h1.cell;by_cases hi:i<s.size
 ·have hi':(i:Int)<(s.size:Int):=by omega
  have hif:decide ((s.size:Int)≤(i:Int))=false:=by simp;omega
  go_enter Tryz.func26,Tryz.ntmps26;go_wp2_with fail
  go_quiet (fail);have h3:=h1.drewN nq;have O3:Hid (Onl bp w (w.drewN nq)):=Onl.drewN (onl_refl bp w) nq;generalize w.drewN nq=w3 at h3 O3;clear c0 c1 c2 c3 c4 c5 cf nq h1;obtain⟨c0,c1,c2,c3,c4,c5,cf⟩:=h3.cell;go_wp2;refine bodyPost_ret (results_none rfl _ _ _) rfl ?_;exact⟨rfl,h3,O3.out⟩
 ·have hi':(s.size:Int)≤(i:Int):=by omega
  have hi2:s.size≤i:=by omega
  go_enter Tryz.func26,Tryz.ntmps26;go_wp2_with fail
  go_quiet (fail);have h3:=h1.drewN nq;have O3:Hid (Onl bp w (w.drewN nq)):=Onl.drewN (onl_refl bp w) nq;generalize w.drewN nq=w3 at h3 O3;clear c0 c1 c2 c3 c4 c5 cf nq h1;obtain⟨c0,c1,c2,c3,c4,c5,cf⟩:=h3.cell;have hfa:=rfail1 bp s i vL e a d 2 i w3 h3 he;go_wp2_with fail
  refine hfa.mono ?_;rintro e0 w4 ⟨rfl,hw4⟩;rw[hw4];clear hw4 w4 hfa;go_wp2;refine bodyPost_ret (results_none rfl _ _ _) rfl ?_;exact⟨rfl,h3,O3.out⟩
def OI(d:Nat)(v:Value)(wr:World):Prop:=
 Below bp w wr∧
 ((v=.bool true∧∃p ms f,i<p∧p≤s.size∧(sfx s p).length<f∧RN bp s p (objN ns up key i ms) 0 at0 dp wr∧(objN ns up key i ms).length≤p∧objL (valL d) (sfx s i) i=finO ms i p (objF (valL d) f (ms.map (·.1)) (sfx s p) p))∨(v=.bool false∧∃p ms,i≤p∧RN bp s p (objN ns up key i ms) 0 at0 dp wr∧objL (valL d) (sfx s i) i=if(sfx s p).head?=some 125 then .ok (.obj ms i,p-i+1)else .error (2,p))∨(∃b,v=.bool b∧∃e a j vL,0<e∧RD bp s j vL e a dp wr∧objL (valL d) (sfx s i) i=.error (e,a)))
theorem robject(d:Nat)(hv:ValC d dp)(hs:s.size≤65536)(h:RN bp s i ns 0 at0 dp w)(hi:i<s.size)(hc:s[i]=123)(hl:ns.length≤i)(hw:WFk ns)(hup:∀u,up=some u→u<ns.length):Calls Tryz.prog 40 #[.pointer (some ⟨bp,0,none⟩),.int .i64 (upV up),.string ⟨key.toArray⟩] w fun r w'=>r=.returned (.tuple #[])∧VP bp s i ns up key at0 dp (objL (valL d) (sfx s i) i) w'∧Below bp w w':=by
 obtain⟨vL,h1,h2⟩:=h;have hlt:=h1.lt;have ha:=radd bp s i 0 at0 dp ns up ⟨5,key,[],0,[],i⟩ w ⟨vL,h1,h2⟩ rfl (by omega) hw hup;unfold ndV at ha;obtain⟨c0,c1,c2,c3,c4,c5,cf⟩:=h1.cell;have hh:(sfx s i).head?=some 123:=by rw[sfx_cons s i hi,hc];rfl
 go_enter Tryz.func40,Tryz.ntmps40;go_wp2_with fail
 refine ha.mono ?_;rintro e w1 ⟨rfl,⟨v1,r1,n1⟩,b1⟩;clear ha c0 c1 c2 c3 c4 c5 cf h1 h2;have hm:Calls Tryz.prog 45 #[.pointer (some ⟨bp,0,none⟩),.int .u8 123] w1 fun r w'=>r=.returned (.tuple #[])∧RD bp s (i+1) v1 0 at0 dp w'∧Onl bp w1 w':=rmust_ok bp s i v1 at0 dp 123 w1 (by omega) r1 hh
 have B1:Hid (Below bp w w1):=b1;have N1:Hid (Nodes (bp+1) 51 v1 (addKid ns up ns.length++[⟨5,key,[],0,[],i⟩]) w1):=n1;have hlt1:bp<w1.heap.size:=r1.lt;clear b1 n1;go_wp2_with fail
 refine hm.mono ?_;rintro e w2 ⟨rfl,r2,o2⟩;have O2:Hid (Onl bp w1 w2):=o2;have hbk:=rblanks bp s (i+1) v1 at0 dp w2 (by omega) r2;clear hm o2 r1 r2;go_wp2_with fail
 refine hbk.mono ?_;rintro e w3 ⟨rfl,r3,o3⟩;have O3:Hid (Onl bp w1 w3):=Onl.trans O2.out o3;clear hbk o3 O2;generalize hp:i+1+nb (sfx s (i+1))=p at r3;have HP:Hid (i+1+nb (sfx s (i+1))=p):=hp
 have hr:∀b,isAt 0 (sfx s p) 125=b→Calls Tryz.prog 33 #[.pointer (some ⟨bp,0,none⟩),.int .u8 125] w3 fun r w''=>r=.returned (.bool b)∧RD bp s p v1 0 at0 dp w''∧Onl bp w3 w'':=
  fun b hb=>hb▸(ris bp s p v1 0 at0 dp 125 w3 r3).mono fun e w'' ⟨he,n,hw⟩=>⟨he,hw▸r3.drewN n,hw▸(onl_refl bp w3).drewN n⟩
 generalize hb:isAt 0 (sfx s p) 125=b;have hr1:=hr b hb;have HB:Hid (isAt 0 (sfx s p) 125=b):=hb;clear hr hb hp r3;go_wp2_with fail
 refine hr1.mono ?_;rintro e w4 ⟨rfl,r4,o4⟩;have O4:Hid (Onl bp w1 w4):=Onl.trans O3.out o4;have R4:Hid (RD bp s p v1 0 at0 dp w4):=r4;clear hr1 o4 O3 r4;go_wp2_with fail
 go_loopw [7] (fun v wr=>OI bp s i ns up key at0 dp w d v wr) (fun v wr=>AM bp s v wr)
 case atStart=>
  have hb4:Below bp w w4:=B1.out.trans (onl_bel O4.out hlt1);have hN4:RN bp s p (objN ns up key i []) 0 at0 dp w4:=⟨v1,R4.out,N1.out.onl O4.out (by omega)⟩;have hpe:=HP.out;have hple:p≤s.size:=by have:=nb_le (sfx s (i+1));rw[sfx_length]at this;omega
  refine⟨hb4,?_⟩;cases b with
  | true=>
    right;left;refine⟨rfl,p,[],by omega,hN4,?_⟩;exact objL_head (valL d) s i p hpe (by have:=HB.out;simp[isAt]at this;exact this)
  | false=>
    left;have hne:(sfx s p).head?≠some 125:=by have:=HB.out;simp[isAt]at this;exact this
    refine⟨rfl,p,[],(sfx s i).length+1,by omega,hple,?_,hN4,?_,?_⟩
    ·rw[sfx_length,sfx_length];omega
    ·rw[objN_length];simp[sizeM];omega
    ·rw[objL_eq (valL d) s i p hpe,if_neg hne];rfl
 case round=>
  clear B1 N1 O4 R4 HP HB hlt1;obtain⟨hbel,hcase⟩:=hrel;have HBL:Hid (Below bp w wr):=hbel;clear hbel;rcases hcase with⟨rfl,p,ms,f,hip,hps,hf,⟨vv,hrd,hnn⟩,hlen,hfin⟩|⟨rfl,p,ms,hip,⟨vv,hrd,hnn⟩,hfin⟩|⟨b,rfl,e,a,j,vv,he,hrd,hfin⟩
  ·have HF:Hid (objL (valL d) (sfx s i) i=finO ms i p (objF (valL d) f (ms.map (·.1)) (sfx s p) p)):=hfin
   have HM:Hid (AM bp s (.bool true) wr=s.size+2-p+1):=AM_ok bp s hrd;have HNN:Hid (Nodes (bp+1) 51 vv (objN ns up key i ms) wr):=hnn;obtain⟨f,rfl⟩:∃g,f=g+1:=⟨f-1,by omega⟩;have HLN:Hid ((objN ns up key i ms).length≤p∧i<p∧p≤s.size∧(sfx s p).length<f+1):=⟨hlen,hip,hps,hf⟩;obtain⟨c0,c1,c2,c3,c4,c5,cf⟩:=hrd.cell;have hbk:=rblanks bp s p vv at0 dp wr (by omega) hrd;generalize hp2:p+nb (sfx s p)=p2 at hbk;have HP2:Hid (p+nb (sfx s p)=p2):=hp2;have hltr:=hrd.lt;clear hfin hnn hlen hip hps hf hp2 hrd;go_wp2_with fail
   refine hbk.mono ?_;rintro e w1 ⟨rfl,r1,o1⟩;have N1:Hid (Nodes (bp+1) 51 vv (objN ns up key i ms) w1):=HNN.out.onl o1 (by omega);have B1:Hid (Below bp w w1):=HBL.out.trans (onl_bel o1 hltr);have hq:=rquoted bp s p2 vv at0 dp w1 (by omega) r1;clear hbk o1 HNN HBL c0 c1 c2 c3 c4 c5 cf hltr;obtain⟨c0,c1,c2,c3,c4,c5,cf⟩:=r1.cell;cases hQ:quotL (sfx s p2)with
   | error oo=>
     rw[hQ]at hq;have HR:Hid (objF (valL d) (f+1) (ms.map (·.1)) (sfx s p) p=.error (2,p2+oo)):=objF_quot _ _ _ _ _ _ _ HP2.out hQ;clear hQ;go_wp2_with fail
     refine hq.mono ?_;rintro e w2 ⟨⟨⟨tt,rfl⟩,j,r2⟩,o2⟩;have B2:Hid (Below bp w w2):=B1.out.trans (onl_bel o2 r1.lt);clear hq o2 B1 r1 c0 c1 c2 c3 c4 c5 cf;obtain⟨e,he,hee⟩:∃e,0<e∧e=2:=⟨2,by omega,rfl⟩;obtain⟨a,haa⟩:∃a,a=p2+oo:=⟨_,rfl⟩;rw[←hee,←haa]at HR r2;obtain⟨v3,hv3⟩:∃v3,v3=vv:=⟨_,rfl⟩;rw[←hv3]at r2;have heb:((e:Int)==0)=false:=by simp;omega
     obtain⟨c0,c1,c2,c3,c4,c5,cf⟩:=r2.cell;clear hee haa hv3;have hbk2:=rblanks_er bp s j v3 e a dp w2 r2 he;go_wp2_with fail
     refine hbk2.mono ?_;rintro e0 w3 ⟨rfl,r3,o3⟩;have B3:Hid (Below bp w w3):=B2.out.trans (onl_bel o3 r2.lt);clear hbk2 o3 B2 r2;have hmu3:Calls Tryz.prog 45 #[.pointer (some ⟨bp,0,none⟩),.int .u8 58] w3 fun r w'=>r=.returned (.tuple #[])∧RD bp s j v3 e a dp w'∧Onl bp w3 w':=(rmust_er bp s j v3 e a dp 58 w3 r3 he).mono fun e2 w'' ⟨he2,n,hw⟩=>⟨he2,hw▸r3.drewN n,hw▸(onl_refl bp w3).drewN n⟩
     go_wp2_with fail
     refine hmu3.mono ?_;rintro e0 w4 ⟨rfl,r4,o4⟩;have B4:Hid (Below bp w w4):=B3.out.trans (onl_bel o4 r3.lt);clear hmu3 o4 B3 r3;have hbk4:=rblanks_er bp s j v3 e a dp w4 r4 he;go_wp2_with fail
     refine hbk4.mono ?_;rintro e0 w5 ⟨rfl,r5,o5⟩;have B5:Hid (Below bp w w5):=B4.out.trans (onl_bel o5 r4.lt);clear hbk4 o5 B4 r4;have hva5:=rval_er bp s j w5 e a dp v3 (ns.length:Int) tt r5 he;go_wp2_with fail
     refine hva5.mono ?_;rintro e0 w6 ⟨rfl,r6,o6⟩;have B6:Hid (Below bp w w6):=B5.out.trans (onl_bel o6 r5.lt);clear hva5 o6 B5 r5;have hbk6:=rblanks_er bp s j v3 e a dp w6 r6 he;go_wp2_with fail
     refine hbk6.mono ?_;rintro e0 w7 ⟨rfl,r7,o7⟩;have B7:Hid (Below bp w w7):=B6.out.trans (onl_bel o7 r6.lt);clear hbk6 o7 B6 r6
     have hr7:Calls Tryz.prog 33 #[.pointer (some ⟨bp,0,none⟩),.int .u8 44] w7 fun r w''=>r=.returned (.bool false)∧RD bp s j v3 e a dp w''∧Onl bp w7 w'':=
      (ris bp s j v3 e a dp 44 w7 r7).mono fun e2 w'' ⟨he2,n,hw⟩=>⟨by rw[he2,isAt_er he],hw▸r7.drewN n,hw▸(onl_refl bp w7).drewN n⟩
     go_wp2_with fail
     refine hr7.mono ?_;rintro e0 w8 ⟨rfl,r8,o8⟩;have R8:Hid (RD bp s j v3 e a dp w8):=r8;have B8:Hid (Below bp w w8):=B7.out.trans (onl_bel o8 r7.lt);clear hr7 o8 r8 B7 r7;go_wp2_with fail
     refine⟨⟨B8.out,.inr (.inr ⟨false,rfl,e,a,j,v3,he,R8.out,?_⟩)⟩,?_⟩
     ·rw[HF.out,HR.out];rfl
     ·rw[AM_no,HM.out];omega
   | ok q=>
     obtain⟨name,m⟩:=q;rw[hQ]at hq;have HQ:Hid (quotL (sfx s p2)=.ok (name,m)):=hQ;clear hQ;go_wp2_with fail
     refine hq.mono ?_;rintro e w2 ⟨⟨rfl,r2⟩,o2⟩;have B2:Hid (Below bp w w2):=B1.out.trans (onl_bel o2 r1.lt);have N2:Hid (Nodes (bp+1) 51 vv (objN ns up key i ms) w2):=N1.out.onl o2 (by omega);clear hq o2 B1 N1 r1 c0 c1 c2 c3 c4 c5 cf;obtain⟨c0,c1,c2,c3,c4,c5,cf⟩:=r2.cell;have hmem:=rmember (bp+1) vv (objN ns up key i ms) w2 N2.out ns.length ⟨5,key,[],0,startsM (ns.length+1) ms,i⟩ (objN_self ns up key i ms) (fun k hk=>by have:=startsM_lt _ _ k hk;rw[objN_length];omega) (by have:=HLN.out.1;have:=HLN.out.2.2.1;omega) (by have:=startsM_length (ns.length+1) ms;have:=HLN.out.1;rw[objN_length]at this;have:=HLN.out.2.2.1;simp only;omega) ⟨name.toArray⟩;have hk2:=objN_keys ns up key i ms name;rw[hk2]at hmem;clear hk2;go_wp2_with fail
     refine hmem.mono ?_;rintro e0 w3 ⟨⟨z,rfl,hz⟩,hw3⟩;rw[hw3];clear hw3 w3 hmem;by_cases hin:name∈ms.map (·.1)
     ·have hz0:(0:Int)≤z:=hz.2 hin
      have HR:Hid (objF (valL d) (f+1) (ms.map (·.1)) (sfx s p) p=.error (4,p2)):=objF_twice _ _ _ _ _ _ _ _ HP2.out HQ.out hin;have hfa:Calls Tryz.prog 27 #[.pointer (some ⟨bp,0,none⟩),.int .i64 4,.int .i64 (p2:Int)] w2 fun r w'=>r=.returned (.tuple #[])∧RD bp s (p2+m) vv 4 p2 dp w'∧Onl bp w2 w':=rfail0 bp s (p2+m) vv at0 dp 4 p2 w2 r2
      clear hz hin;go_wp2_with fail
      refine hfa.mono ?_;rintro e0 w3 ⟨rfl,r3,o3⟩;have B3:Hid (Below bp w w3):=B2.out.trans (onl_bel o3 r2.lt);clear hfa o3 B2 r2 c0 c1 c2 c3 c4 c5 cf;obtain⟨e,he,hee⟩:∃e,0<e∧e=4:=⟨4,by omega,rfl⟩;obtain⟨a,haa⟩:∃a,a=p2:=⟨_,rfl⟩;obtain⟨j,hjj⟩:∃j,j=p2+m:=⟨_,rfl⟩;rw[←hee,←hjj]at r3;rw[←hee]at HR;obtain⟨v3,hv3⟩:∃v3,v3=vv:=⟨_,rfl⟩;rw[←hv3]at r3;subst haa;clear hee hjj hv3;have hbk3:=rblanks_er bp s j v3 e a dp w3 r3 he;go_wp2_with fail
      refine hbk3.mono ?_;rintro e0 w4 ⟨rfl,r4,o4⟩;have B4:Hid (Below bp w w4):=B3.out.trans (onl_bel o4 r3.lt);clear hbk3 o4 B3 r3;have hmu4:Calls Tryz.prog 45 #[.pointer (some ⟨bp,0,none⟩),.int .u8 58] w4 fun r w'=>r=.returned (.tuple #[])∧RD bp s j v3 e a dp w'∧Onl bp w4 w':=(rmust_er bp s j v3 e a dp 58 w4 r4 he).mono fun e2 w'' ⟨he2,n,hw⟩=>⟨he2,hw▸r4.drewN n,hw▸(onl_refl bp w4).drewN n⟩
      go_wp2_with fail
      refine hmu4.mono ?_;rintro e0 w5 ⟨rfl,r5,o5⟩;have B5:Hid (Below bp w w5):=B4.out.trans (onl_bel o5 r4.lt);clear hmu4 o5 B4 r4;have hbk5:=rblanks_er bp s j v3 e a dp w5 r5 he;go_wp2_with fail
      refine hbk5.mono ?_;rintro e0 w6 ⟨rfl,r6,o6⟩;have B6:Hid (Below bp w w6):=B5.out.trans (onl_bel o6 r5.lt);clear hbk5 o6 B5 r5;have hva6:=rval_er bp s j w6 e a dp v3 (ns.length:Int) ⟨name.toArray⟩ r6 he;go_wp2_with fail
      refine hva6.mono ?_;rintro e0 w7 ⟨rfl,r7,o7⟩;have B7:Hid (Below bp w w7):=B6.out.trans (onl_bel o7 r6.lt);clear hva6 o7 B6 r6;have hbk7:=rblanks_er bp s j v3 e a dp w7 r7 he;go_wp2_with fail
      refine hbk7.mono ?_;rintro e0 w8 ⟨rfl,r8,o8⟩;have B8:Hid (Below bp w w8):=B7.out.trans (onl_bel o8 r7.lt);clear hbk7 o8 B7 r7
      have hr8:Calls Tryz.prog 33 #[.pointer (some ⟨bp,0,none⟩),.int .u8 44] w8 fun r w''=>r=.returned (.bool false)∧RD bp s j v3 e a dp w''∧Onl bp w8 w'':=
       (ris bp s j v3 e a dp 44 w8 r8).mono fun e2 w'' ⟨he2,n,hw⟩=>⟨by rw[he2,isAt_er he],hw▸r8.drewN n,hw▸(onl_refl bp w8).drewN n⟩
      go_wp2_with fail
      refine hr8.mono ?_;rintro e0 w9 ⟨rfl,r9,o9⟩;have R9:Hid (RD bp s j v3 e a dp w9):=r9;have B9:Hid (Below bp w w9):=B8.out.trans (onl_bel o9 r8.lt);clear hr8 o9 r9 B8 r8;go_wp2_with fail
      refine⟨⟨B9.out,.inr (.inr ⟨false,rfl,e,a,j,v3,he,R9.out,?_⟩)⟩,?_⟩
      ·rw[HF.out,HR.out];rfl
      ·rw[AM_no,HM.out];omega
     ·have hz0:decide ((0:Int)≤z)=false:=by
       rw[decide_eq_false_iff_not];exact fun h=>hin (hz.1 h)
      have HIN:Hid (name∉ms.map (·.1)):=hin;have hbk:=rblanks bp s (p2+m) vv at0 dp w2 (by omega) r2;generalize hp3:p2+m+nb (sfx s (p2+m))=p3 at hbk;have HP3:Hid (p2+m+nb (sfx s (p2+m))=p3):=hp3;have hlt2:=r2.lt;clear hz hin hp3 r2;go_wp2_with fail
      refine hbk.mono ?_;rintro e0 w3 ⟨rfl,r3,o3⟩;have B3:Hid (Below bp w w3):=B2.out.trans (onl_bel o3 hlt2);have N3:Hid (Nodes (bp+1) 51 vv (objN ns up key i ms) w3):=N2.out.onl o3 (by omega);have hlt3:=r3.lt;clear hbk o3 B2 N2 c0 c1 c2 c3 c4 c5 cf hz0 hlt2;by_cases h58:(sfx s p3).head?=some 58
      ·have hm:Calls Tryz.prog 45 #[.pointer (some ⟨bp,0,none⟩),.int .u8 58] w3 fun r w'=>r=.returned (.tuple #[])∧RD bp s (p3+1) vv 0 at0 dp w'∧Onl bp w3 w':=rmust_ok bp s p3 vv at0 dp 58 w3 (by omega) r3 h58
       have H58:Hid ((sfx s p3).head?=some 58):=h58;clear h58 r3;go_wp2_with fail
       refine hm.mono ?_;rintro e0 w4 ⟨rfl,r4,o4⟩;have B4:Hid (Below bp w w4):=B3.out.trans (onl_bel o4 hlt3);have N4:Hid (Nodes (bp+1) 51 vv (objN ns up key i ms) w4):=N3.out.onl o4 (by omega);have hbk:=rblanks bp s (p3+1) vv at0 dp w4 (by omega) r4;generalize hp4:p3+1+nb (sfx s (p3+1))=p4 at hbk;have HP4:Hid (p3+1+nb (sfx s (p3+1))=p4):=hp4;have hlt4:=r4.lt;clear hm o4 B3 N3 r4 hp4 hlt3;go_wp2_with fail
       refine hbk.mono ?_;rintro e0 w5 ⟨rfl,r5,o5⟩;have B5:Hid (Below bp w w5):=B4.out.trans (onl_bel o5 hlt4);have N5:=N4.out.onl o5 (by omega);have hva:=hv bp s p4 (objN ns up key i ms) (some ns.length) name at0 w5 hs ⟨vv,r5,N5⟩ (by have:=HLN.out.1;have:=HP2.out;have:=HP3.out;have:=HP4.out;omega) (flat_wf hw up key (.obj ms i)) (fun u hu=>by injection hu with hu;subst hu;rw[objN_length];omega);have hval:=objF_val (valL d) s p f p2 p3 p4 m (ms.map (·.1)) name HP2.out HQ.out HIN.out HP3.out H58.out HP4.out;clear hbk o5 B4 N4 r5 N5 hlt4;cases hR:valL d (sfx s p4) p4 with
       | error q=>
         obtain⟨e,a⟩:=q;rw[hR]at hva hval;have HR:Hid (objF (valL d) (f+1) (ms.map (·.1)) (sfx s p) p=.error (e,a)):=hval;clear hR hval;go_wp2_with fail
         refine hva.mono ?_;rintro e0 w6 ⟨rfl,⟨he,j,v3,r6⟩,b6⟩;have B6:Hid (Below bp w w6):=B5.out.trans b6;clear hva b6 B5;have hbk6:=rblanks_er bp s j v3 e a dp w6 r6 he;go_wp2_with fail
         refine hbk6.mono ?_;rintro e0 w7 ⟨rfl,r7,o7⟩;have B7:Hid (Below bp w w7):=B6.out.trans (onl_bel o7 r6.lt);clear hbk6 o7 B6 r6
         have hr7:Calls Tryz.prog 33 #[.pointer (some ⟨bp,0,none⟩),.int .u8 44] w7 fun r w''=>r=.returned (.bool false)∧RD bp s j v3 e a dp w''∧Onl bp w7 w'':=
          (ris bp s j v3 e a dp 44 w7 r7).mono fun e2 w'' ⟨he2,n,hw⟩=>⟨by rw[he2,isAt_er he],hw▸r7.drewN n,hw▸(onl_refl bp w7).drewN n⟩
         go_wp2_with fail
         refine hr7.mono ?_;rintro e0 w8 ⟨rfl,r8,o8⟩;have R8:Hid (RD bp s j v3 e a dp w8):=r8;have B8:Hid (Below bp w w8):=B7.out.trans (onl_bel o8 r7.lt);clear hr7 o8 r8 B7 r7;go_wp2_with fail
         refine⟨⟨B8.out,.inr (.inr ⟨false,rfl,e,a,j,v3,he,R8.out,?_⟩)⟩,?_⟩
         ·rw[HF.out,HR.out];rfl
         ·rw[AM_no,HM.out];omega
       | ok q=>
         obtain⟨tt,n⟩:=q;rw[hR]at hva hval;have hsz:=valL_size d _ _ _ _ hR;have HVA:Hid _:=hval;clear hR hval;go_wp2_with fail
         refine hva.mono ?_;rintro e0 w6 ⟨rfl,⟨v3,r6,n6⟩,b6⟩;rw[objN_add]at n6;have B6:Hid (Below bp w w6):=B5.out.trans b6;have hlt6:=r6.lt;have N6:Hid (Nodes (bp+1) 51 v3 (objN ns up key i (ms++[(name,tt)])) w6):=n6;have hbk:=rblanks bp s (p4+n) v3 at0 dp w6 (by omega) r6;generalize hp5:p4+n+nb (sfx s (p4+n))=p5 at hbk HVA;have HP5:Hid (p4+n+nb (sfx s (p4+n))=p5):=hp5;clear hva b6 B5 r6 n6 hp5;go_wp2_with fail
         refine hbk.mono ?_;rintro e0 w7 ⟨rfl,r7,o7⟩;have B7:Hid (Below bp w w7):=B6.out.trans (onl_bel o7 hlt6);have N7:Hid (Nodes (bp+1) 51 v3 (objN ns up key i (ms++[(name,tt)])) w7):=N6.out.onl o7 (by omega);have hlt7:=r7.lt
         have hr:∀b,isAt 0 (sfx s p5) 44=b→Calls Tryz.prog 33 #[.pointer (some ⟨bp,0,none⟩),.int .u8 44] w7 fun r w''=>r=.returned (.bool b)∧RD bp s p5 v3 0 at0 dp w''∧Onl bp w7 w'':=
          fun b hb=>hb▸(ris bp s p5 v3 0 at0 dp 44 w7 r7).mono fun e w'' ⟨he,n,hw⟩=>⟨he,hw▸r7.drewN n,hw▸(onl_refl bp w7).drewN n⟩
         clear hbk o7 B6 N6 r7;by_cases h44:(sfx s p5).head?=some 44
         ·have hr1:=hr true (isAt_yes h44)
          have hp5s:=head_lt h44;have hp5b:(p5:Int)≤65536:=by omega
          have H44:Hid ((sfx s p5).head?=some 44∧p5<s.size):=⟨h44,hp5s⟩;clear hr h44 hp5s;go_wp2_with fail
          refine hr1.mono ?_;rintro e0 w8 ⟨rfl,r8,o8⟩;have B8:Hid (Below bp w w8):=B7.out.trans (onl_bel o8 hlt7);have N8:Hid (Nodes (bp+1) 51 v3 (objN ns up key i (ms++[(name,tt)])) w8):=N7.out.onl o8 (by omega);have hlt8:=r8.lt;clear hr1 o8 B7 N7;obtain⟨c0,c1,c2,c3,c4,c5,cf⟩:=r8.cell;have f1:=cf 1;go_wp2_with fail
          have r9:=r8.setI (p5+1);have o9:Onl bp w8 (w8.setCell ⟨bp,1,none⟩ (.int .i64 ((p5+1:Nat):Int))):=Onl.setCell (onl_refl bp w8) _ r8;obtain⟨g1,g3,g4,g5⟩:=HLN.out;have e2:=HP2.out;have e3:=HP3.out;have e4:=HP4.out;have e5:=HP5.out;refine⟨⟨B8.out.trans (onl_bel o9 hlt8),.inl ⟨rfl,p5+1,ms++[(name,tt)],f,by omega,by have:=H44.out.2;omega,?_,⟨v3,r9,N8.out.onl o9 (by omega)⟩,?_,?_⟩⟩,?_⟩
          ·rw[sfx_length]at g5 ⊢;have:=H44.out.2;omega
          ·rw[objN_length]at g1 ⊢;rw[sizeM_append];omega
          ·rw[HF.out,HVA.out]
           have hh:=H44.out.1;match hsx:sfx s p5 with
           | []=>rw[hsx]at hh;simp at hh
           | c::r=>
             rw[hsx]at hh;have hh:c=44:=by simpa using hh
             simp only[hh,if_true];rw[List.map_append,List.map_cons,List.map_nil];exact finO_more ms (name,tt) i p (p5+1) (by omega) (by omega) _
          ·have hAM:AM bp s (.bool true) (w8.setCell ⟨bp,1,none⟩ (.int .i64 ((p5:Int)+1)))=s.size+2-(p5+1)+1:=AM_ok bp s r9
           rw[hAM,HM.out];have:=H44.out.2;omega
         ·have hr1:=hr false (isAt_no h44)
          have H44:Hid ((sfx s p5).head?≠some 44):=h44;clear hr h44;go_wp2_with fail
          refine hr1.mono ?_;rintro e0 w8 ⟨rfl,r8,o8⟩;have B8:Hid (Below bp w w8):=B7.out.trans (onl_bel o8 hlt7);have N8:Hid (Nodes (bp+1) 51 v3 (objN ns up key i (ms++[(name,tt)])) w8):=N7.out.onl o8 (by omega);have R8:Hid (RD bp s p5 v3 0 at0 dp w8):=r8;clear hr1 o8 B7 N7 r8;go_wp2_with fail
          obtain⟨g1,g3,g4,g5⟩:=HLN.out;have e2:=HP2.out;have e3:=HP3.out;have e4:=HP4.out;have e5:=HP5.out;refine⟨⟨B8.out,.inr (.inl ⟨rfl,p5,ms++[(name,tt)],by omega,⟨v3,R8.out,N8.out⟩,?_⟩)⟩,?_⟩
          ·rw[HF.out,HVA.out]
           have hh:=H44.out;match hsx:sfx s p5 with
           | []=>simp[finO]
           | c::r=>
             rw[hsx]at hh;have hh:c≠44:=by simpa using hh
             by_cases h125:c=125
             ·simp[h125,finO];omega
             ·simp[hh,h125,finO]
          ·rw[AM_no,HM.out];omega
      ·have hm:Calls Tryz.prog 45 #[.pointer (some ⟨bp,0,none⟩),.int .u8 58] w3 fun r w'=>r=.returned (.tuple #[])∧RD bp s p3 vv 2 p3 dp w'∧Onl bp w3 w':=rmust_no bp s p3 vv at0 dp 58 w3 r3 h58
       have HR:Hid (objF (valL d) (f+1) (ms.map (·.1)) (sfx s p) p=.error (2,p3)):=objF_colon _ _ _ _ _ _ _ _ _ HP2.out HQ.out HIN.out HP3.out h58;clear h58 r3;go_wp2_with fail
       refine hm.mono ?_;rintro e0 w4 ⟨rfl,r4,o4⟩;have B4:Hid (Below bp w w4):=B3.out.trans (onl_bel o4 hlt3);clear hm o4 B3;obtain⟨e,he,hee⟩:∃e,0<e∧e=2:=⟨2,by omega,rfl⟩;obtain⟨a,haa⟩:∃a,a=p3:=⟨_,rfl⟩;obtain⟨j,hjj⟩:∃j,j=p3:=⟨_,rfl⟩;obtain⟨v3,hv3⟩:∃v3,v3=vv:=⟨_,rfl⟩;have r4':RD bp s j v3 e a dp w4:=by rw[hjj,hv3,hee,haa];exact r4
       have HR':Hid (objF (valL d) (f+1) (ms.map (·.1)) (sfx s p) p=.error (e,a)):=by rw[hee,haa];exact HR
       clear r4 HR hee haa hjj hv3;have r4:=r4';have HR:=HR';clear r4' HR';have hbk4:=rblanks_er bp s j v3 e a dp w4 r4 he;go_wp2_with fail
       refine hbk4.mono ?_;rintro e0 w5 ⟨rfl,r5,o5⟩;have B5:Hid (Below bp w w5):=B4.out.trans (onl_bel o5 r4.lt);clear hbk4 o5 B4 r4;have hva5:=rval_er bp s j w5 e a dp v3 (ns.length:Int) ⟨name.toArray⟩ r5 he;go_wp2_with fail
       refine hva5.mono ?_;rintro e0 w6 ⟨rfl,r6,o6⟩;have B6:Hid (Below bp w w6):=B5.out.trans (onl_bel o6 r5.lt);clear hva5 o6 B5 r5;have hbk6:=rblanks_er bp s j v3 e a dp w6 r6 he;go_wp2_with fail
       refine hbk6.mono ?_;rintro e0 w7 ⟨rfl,r7,o7⟩;have B7:Hid (Below bp w w7):=B6.out.trans (onl_bel o7 r6.lt);clear hbk6 o7 B6 r6
       have hr7:Calls Tryz.prog 33 #[.pointer (some ⟨bp,0,none⟩),.int .u8 44] w7 fun r w''=>r=.returned (.bool false)∧RD bp s j v3 e a dp w''∧Onl bp w7 w'':=
        (ris bp s j v3 e a dp 44 w7 r7).mono fun e2 w'' ⟨he2,n,hw⟩=>⟨by rw[he2,isAt_er he],hw▸r7.drewN n,hw▸(onl_refl bp w7).drewN n⟩
       go_wp2_with fail
       refine hr7.mono ?_;rintro e0 w8 ⟨rfl,r8,o8⟩;have R8:Hid (RD bp s j v3 e a dp w8):=r8;have B8:Hid (Below bp w w8):=B7.out.trans (onl_bel o8 r7.lt);clear hr7 o8 r8 B7 r7;go_wp2_with fail
       refine⟨⟨B8.out,.inr (.inr ⟨false,rfl,e,a,j,v3,he,R8.out,?_⟩)⟩,?_⟩
       ·rw[HF.out,HR.out];rfl
       ·rw[AM_no,HM.out];omega
  ·have HF:Hid (objL (valL d) (sfx s i) i=if(sfx s p).head?=some 125 then .ok (.obj ms i,p-i+1)else .error (2,p)):=hfin
   have HNN:Hid (Nodes (bp+1) 51 vv (objN ns up key i ms) wr):=hnn;have hltr:=hrd.lt;have HIP:Hid (i≤p):=hip;by_cases h125:(sfx s p).head?=some 125
   ·have hm:Calls Tryz.prog 45 #[.pointer (some ⟨bp,0,none⟩),.int .u8 125] wr fun r w'=>r=.returned (.tuple #[])∧RD bp s (p+1) vv 0 at0 dp w'∧Onl bp wr w':=rmust_ok bp s p vv at0 dp 125 wr (by omega) hrd h125
    have H125:Hid _:=h125;clear hfin hnn h125 hrd hip;go_wp2_with fail
    refine hm.mono ?_;rintro e0 w5 ⟨rfl,r5,o5⟩;have R5:Hid (RD bp s (p+1) vv 0 at0 dp w5):=r5;have N5:Hid (Nodes (bp+1) 51 vv (objN ns up key i ms) w5):=HNN.out.onl o5 (by omega);have B5:Hid (Below bp w w5):=HBL.out.trans (onl_bel o5 hltr);clear hm o5 r5;go_wp2;go_end0
    refine⟨rfl,?_,B5.out⟩;rw[HF.out,if_pos H125.out];show RN bp s (i+(p-i+1)) _ 0 at0 dp w5
    rw[show i+(p-i+1)=p+1 by have:=HIP.out;omega];exact⟨vv,R5.out,N5.out⟩
   ·have hm:Calls Tryz.prog 45 #[.pointer (some ⟨bp,0,none⟩),.int .u8 125] wr fun r w'=>r=.returned (.tuple #[])∧RD bp s p vv 2 p dp w'∧Onl bp wr w':=rmust_no bp s p vv at0 dp 125 wr hrd h125
    have H125:Hid (¬(sfx s p).head?=some 125):=h125;clear hfin hnn h125 hrd hip;go_wp2_with fail
    refine hm.mono ?_;rintro e0 w5 ⟨rfl,r5,o5⟩;have R5:Hid (RD bp s p vv 2 p dp w5):=r5;have B5:Hid (Below bp w w5):=HBL.out.trans (onl_bel o5 hltr);clear hm o5 r5;go_wp2;go_end0
    refine⟨rfl,?_,B5.out⟩;rw[HF.out,if_neg H125.out];exact⟨by omega,_,_,R5.out⟩
  ·have HF:Hid (objL (valL d) (sfx s i) i=.error (e,a)):=hfin
   have hm:Calls Tryz.prog 45 #[.pointer (some ⟨bp,0,none⟩),.int .u8 125] wr fun r w'=>r=.returned (.tuple #[])∧∃n,w'=wr.drewN n:=rmust_er bp s j vv e a dp 125 wr hrd he
   have heb:((e:Int)==0)=false:=by simp;omega
   obtain⟨c0,c1,c2,c3,c4,c5,cf⟩:=hrd.cell;have hltr:=hrd.lt;clear hfin;cases b
   all_goals
    go_wp2_with fail
    refine hm.mono ?_;rintro e0 w5 ⟨rfl,n,hw5⟩;rw[hw5];clear hw5 w5;go_wp2;go_end0
    refine⟨rfl,?_,HBL.out.trans (onl_bel ((onl_refl bp wr).drewN n) hltr)⟩;rw[HF.out];exact⟨he,j,vv,hrd⟩
end
section
variable (bp:Nat) (s:ByteArray) (i:Nat) (ns:List Nd) (up:Option Nat) (key:List UInt8) (at0 dp:Nat) (w:World)
theorem rval_arr(d:Nat)(hv:ValC d (dp+1))(hdp:dp<32)(hs:s.size≤65536)(h:RN bp s i ns 0 at0 dp w)(hi:i<s.size)(hc:s[i]=91)(hl:ns.length≤i)(hw:WFk ns)(hup:∀u,up=some u→u<ns.length):Calls Tryz.prog 26 #[.pointer (some ⟨bp,0,none⟩),.int .i64 (upV up),.string ⟨key.toArray⟩] w fun r w'=>r=.returned (.tuple #[])∧VP bp s i ns up key at0 dp (valL (d+1) (sfx s i) i) w'∧Below bp w w':=by
 obtain⟨vL,h1,h2⟩:=h;have HR:Hid (valL (d+1) (sfx s i) i=arrL (valL d) (sfx s i) i):=by
  show valL (d+1) (sfx s i) i=arrL (valL d) (sfx s i) i
  rw[sfx_cons s i hi,valL_cons];simp[hc,isD];all_goals rfl
 have har:=fun w' (h':RN bp s i ns 0 at0 (dp+1) w')=>rarray bp s i ns up key at0 (dp+1) w' d hv hs h' hi hc hl hw hup
 have hi':(i:Int)<(s.size:Int):=by omega
 have hif:decide ((s.size:Int)≤(i:Int))=false:=by simp;omega
 have hcb:((s[i].toNat:Int)==91)=true:=by rw[hc];rfl
 have hdg:∀w,Calls Tryz.prog 36 #[.int .u8 91] w fun e w'=>e=.returned (.bool false)∧w'=w:=rdigit 91
 have hdd:decide ((32:Int)≤(dp:Int))=false:=by simp;omega
 have hdb:(dp:Int)≤32:=by omega
 have hlt:=h1.lt;have HN:Hid (Nodes (bp+1) 51 vL ns w):=h2;clear h2 hl hup hdp;obtain⟨c0,c1,c2,c3,c4,c5,cf⟩:=h1.cell;go_enter Tryz.func26,Tryz.ntmps26;go_wp2_with fail
 go_quiet (fail);have h3:=h1.drewN nq;have O3:Hid (Onl bp w (w.drewN nq)):=Onl.drewN (onl_refl bp w) nq;generalize w.drewN nq=w3 at h3 O3;clear c0 c1 c2 c3 c4 c5 cf nq h1;obtain⟨c0,c1,c2,c3,c4,c5,cf⟩:=h3.cell;go_wp2_with fail
 go_quiet (fail);have h4:=h3.drewN nq;have O4:Hid (Onl bp w (w3.drewN nq)):=Onl.drewN O3.out nq;generalize w3.drewN nq=w4 at h4 O4;clear c0 c1 c2 c3 c4 c5 cf nq h3 O3 w3;go_wp2_with fail
 refine(hdg _).mono ?_;rintro e w4' ⟨rfl,hw4⟩;rw[hw4];clear hw4 w4';obtain⟨c0,c1,c2,c3,c4,c5,cf⟩:=h4.cell;have f5:=cf 5;have h5:=h4.setD (dp+1);have o5:Onl bp w (w4.setCell ⟨bp,5,none⟩ (.int .i64 ((dp+1:Nat):Int))):=Onl.setCell O4.out _ h4;have ha:=har _ ⟨vL,h5,HN.out.onl o5 (by omega)⟩;have O5:Hid (Onl bp w (w4.setCell ⟨bp,5,none⟩ (.int .i64 ((dp+1:Nat):Int)))):=o5;rw[show((dp+1:Nat):Int)=(dp:Int)+1 by omega]at ha O5;clear h5 o5 har;go_wp2_with fail
 refine ha.mono ?_;rintro e w6 ⟨rfl,h6,b6⟩;have B6:Hid (Below bp w w6):=(onl_bel O5.out hlt).trans b6;clear ha b6 O5 c0 c1 c2 c3 c4 c5 cf f5 h4 O4;cases hA:arrL (valL d) (sfx s i) i with
 | ok q=>
   obtain⟨t,n⟩:=q;rw[hA]at h6;have HA:Hid _:=hA;clear hA;obtain⟨v6,r6,n6⟩:=h6;obtain⟨c0,c1,c2,c3,c4,c5,cf⟩:=r6.cell;have f5:=cf 5;rw[show((dp+1:Nat):Int)=(dp:Int)+1 by omega]at c5;have h7:=r6.setD dp;have o7:Onl bp w6 (w6.setCell ⟨bp,5,none⟩ (.int .i64 (dp:Int))):=Onl.setCell (onl_refl bp w6) _ r6;have n7:=n6.onl o7 (by omega);have H7:Hid _:=And.intro h7 (And.intro n7 (onl_bel o7 r6.lt));have hsub:(dp:Int)+1-1=(dp:Int):=by omega
   clear h7 o7 n7 n6;go_wp2;go_end0
   refine⟨rfl,?_,B6.out.trans H7.out.2.2⟩;rw[HR.out,HA.out];exact⟨v6,H7.out.1,H7.out.2.1⟩
 | error q=>
   obtain⟨er,a⟩:=q;rw[hA]at h6;have HA:Hid _:=hA;clear hA;obtain⟨he,j,v6,r6⟩:=h6;obtain⟨c0,c1,c2,c3,c4,c5,cf⟩:=r6.cell;have f5:=cf 5;rw[show((dp+1:Nat):Int)=(dp:Int)+1 by omega]at c5;have h7:=r6.setD dp;have o7:Onl bp w6 (w6.setCell ⟨bp,5,none⟩ (.int .i64 (dp:Int))):=Onl.setCell (onl_refl bp w6) _ r6;have H7:Hid _:=And.intro h7 (onl_bel o7 r6.lt);have hsub:(dp:Int)+1-1=(dp:Int):=by omega
   clear h7 o7;go_wp2;go_end0
   refine⟨rfl,?_,B6.out.trans H7.out.2⟩;rw[HR.out,HA.out];exact⟨he,j,v6,H7.out.1⟩
theorem rval_obj(d:Nat)(hv:ValC d (dp+1))(hdp:dp<32)(hs:s.size≤65536)(h:RN bp s i ns 0 at0 dp w)(hi:i<s.size)(hc:s[i]=123)(hl:ns.length≤i)(hw:WFk ns)(hup:∀u,up=some u→u<ns.length):Calls Tryz.prog 26 #[.pointer (some ⟨bp,0,none⟩),.int .i64 (upV up),.string ⟨key.toArray⟩] w fun r w'=>r=.returned (.tuple #[])∧VP bp s i ns up key at0 dp (valL (d+1) (sfx s i) i) w'∧Below bp w w':=by
 obtain⟨vL,h1,h2⟩:=h;have HR:Hid (valL (d+1) (sfx s i) i=objL (valL d) (sfx s i) i):=by
  show valL (d+1) (sfx s i) i=objL (valL d) (sfx s i) i
  rw[sfx_cons s i hi,valL_cons];simp[hc,isD];all_goals rfl
 have har:=fun w' (h':RN bp s i ns 0 at0 (dp+1) w')=>robject bp s i ns up key at0 (dp+1) w' d hv hs h' hi hc hl hw hup
 have hi':(i:Int)<(s.size:Int):=by omega
 have hif:decide ((s.size:Int)≤(i:Int))=false:=by simp;omega
 have hcb:((s[i].toNat:Int)==123)=true:=by rw[hc];rfl
 have hdg:∀w,Calls Tryz.prog 36 #[.int .u8 123] w fun e w'=>e=.returned (.bool false)∧w'=w:=rdigit 123
 have hdd:decide ((32:Int)≤(dp:Int))=false:=by simp;omega
 have hdb:(dp:Int)≤32:=by omega
 have hlt:=h1.lt;have HN:Hid (Nodes (bp+1) 51 vL ns w):=h2;clear h2 hl hup hdp;obtain⟨c0,c1,c2,c3,c4,c5,cf⟩:=h1.cell;go_enter Tryz.func26,Tryz.ntmps26;go_wp2_with fail
 go_quiet (fail);have h3:=h1.drewN nq;have O3:Hid (Onl bp w (w.drewN nq)):=Onl.drewN (onl_refl bp w) nq;generalize w.drewN nq=w3 at h3 O3;clear c0 c1 c2 c3 c4 c5 cf nq h1;obtain⟨c0,c1,c2,c3,c4,c5,cf⟩:=h3.cell;go_wp2_with fail
 go_quiet (fail);have h4:=h3.drewN nq;have O4:Hid (Onl bp w (w3.drewN nq)):=Onl.drewN O3.out nq;generalize w3.drewN nq=w4 at h4 O4;clear c0 c1 c2 c3 c4 c5 cf nq h3 O3 w3;go_wp2_with fail
 refine(hdg _).mono ?_;rintro e w4' ⟨rfl,hw4⟩;rw[hw4];clear hw4 w4';obtain⟨c0,c1,c2,c3,c4,c5,cf⟩:=h4.cell;have f5:=cf 5;have h5:=h4.setD (dp+1);have o5:Onl bp w (w4.setCell ⟨bp,5,none⟩ (.int .i64 ((dp+1:Nat):Int))):=Onl.setCell O4.out _ h4;have ha:=har _ ⟨vL,h5,HN.out.onl o5 (by omega)⟩;have O5:Hid (Onl bp w (w4.setCell ⟨bp,5,none⟩ (.int .i64 ((dp+1:Nat):Int)))):=o5;rw[show((dp+1:Nat):Int)=(dp:Int)+1 by omega]at ha O5;clear h5 o5 har;go_wp2_with fail
 refine ha.mono ?_;rintro e w6 ⟨rfl,h6,b6⟩;have B6:Hid (Below bp w w6):=(onl_bel O5.out hlt).trans b6;clear ha b6 O5 c0 c1 c2 c3 c4 c5 cf f5 h4 O4;cases hA:objL (valL d) (sfx s i) i with
 | ok q=>
   obtain⟨t,n⟩:=q;rw[hA]at h6;have HA:Hid _:=hA;clear hA;obtain⟨v6,r6,n6⟩:=h6;obtain⟨c0,c1,c2,c3,c4,c5,cf⟩:=r6.cell;have f5:=cf 5;rw[show((dp+1:Nat):Int)=(dp:Int)+1 by omega]at c5;have h7:=r6.setD dp;have o7:Onl bp w6 (w6.setCell ⟨bp,5,none⟩ (.int .i64 (dp:Int))):=Onl.setCell (onl_refl bp w6) _ r6;have n7:=n6.onl o7 (by omega);have H7:Hid _:=And.intro h7 (And.intro n7 (onl_bel o7 r6.lt));have hsub:(dp:Int)+1-1=(dp:Int):=by omega
   clear h7 o7 n7 n6;go_wp2;go_end0
   refine⟨rfl,?_,B6.out.trans H7.out.2.2⟩;rw[HR.out,HA.out];exact⟨v6,H7.out.1,H7.out.2.1⟩
 | error q=>
   obtain⟨er,a⟩:=q;rw[hA]at h6;have HA:Hid _:=hA;clear hA;obtain⟨he,j,v6,r6⟩:=h6;obtain⟨c0,c1,c2,c3,c4,c5,cf⟩:=r6.cell;have f5:=cf 5;rw[show((dp+1:Nat):Int)=(dp:Int)+1 by omega]at c5;have h7:=r6.setD dp;have o7:Onl bp w6 (w6.setCell ⟨bp,5,none⟩ (.int .i64 (dp:Int))):=Onl.setCell (onl_refl bp w6) _ r6;have H7:Hid _:=And.intro h7 (onl_bel o7 r6.lt);have hsub:(dp:Int)+1-1=(dp:Int):=by omega
   clear h7 o7;go_wp2;go_end0
   refine⟨rfl,?_,B6.out.trans H7.out.2⟩;rw[HR.out,HA.out];exact⟨he,j,v6,H7.out.1⟩
end
theorem rvalue:∀(d:Nat),d≤32→ValC d (32-d):=by
 intro d;induction d with
 | zero=>
   intro _ bp s i ns up key at0 w hs h hl hw hup;by_cases hi:i<s.size
   ·have hl2:ns.length≤1000000:=by omega
    by_cases h34:s[i]=34
    ·exact rval_str bp s i ns up key at0 32 w hs h hi h34 hl2 hw hup 0
    by_cases h45:s[i]=45
    ·exact rval_minus bp s i ns up key at0 32 w hs h hi h45 hl2 hw hup 0
    cases hd:isD s[i]with
    | true=>exact rval_digit bp s i ns up key at0 32 w hs h hi h45 hd hl2 hw hup 0
    | false=>
      by_cases hwd:s[i]=116∨s[i]=102∨s[i]=110
      ·exact rval_word bp s i ns up key at0 32 w hs h hi hwd hl2 hw hup 0
      by_cases hbr:s[i]=91∨s[i]=123
      ·exact rval_deep bp s i ns up key at0 w hs h hi hbr
      ·exact rval_other bp s i ns up key at0 32 w hs h hi h34 h45 hd (fun e=>hwd (.inl e)) (fun e=>hwd (.inr (.inl e))) (fun e=>hwd (.inr (.inr e))) (fun e=>hbr (.inl e)) (fun e=>hbr (.inr e)) 0
   ·exact rval_end bp s i ns up key at0 32 w hs h (by omega) 0
 | succ d ih=>
   intro hd32 bp s i ns up key at0 w hs h hl hw hup;have hv:ValC d (32-(d+1)+1):=by rw[show 32-(d+1)+1=32-d by omega];exact ih (by omega)
   by_cases hi:i<s.size
   ·have hl2:ns.length≤1000000:=by omega
    by_cases h34:s[i]=34
    ·exact rval_str bp s i ns up key at0 _ w hs h hi h34 hl2 hw hup _
    by_cases h45:s[i]=45
    ·exact rval_minus bp s i ns up key at0 _ w hs h hi h45 hl2 hw hup _
    cases hd:isD s[i]with
    | true=>exact rval_digit bp s i ns up key at0 _ w hs h hi h45 hd hl2 hw hup _
    | false=>
      by_cases hwd:s[i]=116∨s[i]=102∨s[i]=110
      ·exact rval_word bp s i ns up key at0 _ w hs h hi hwd hl2 hw hup _
      by_cases h91:s[i]=91
      ·exact rval_arr bp s i ns up key at0 _ w d hv (by omega) hs h hi h91 hl hw hup
      by_cases h123:s[i]=123
      ·exact rval_obj bp s i ns up key at0 _ w d hv (by omega) hs h hi h123 hl hw hup
      ·exact rval_other bp s i ns up key at0 _ w hs h hi h34 h45 hd (fun e=>hwd (.inl e)) (fun e=>hwd (.inr (.inl e))) (fun e=>hwd (.inr (.inr e))) h91 h123 _
   ·exact rval_end bp s i ns up key at0 _ w hs h (by omega) _
def JP(B:Nat)(R:Except (Nat×Nat) JT)(r:Ending)(w':World):Prop:=
 match R with
 | .ok t=>∃v,r=.returned (.tuple #[v,.int .i64 0,.int .i64 0])∧Nodes B 51 v (flat 0 [] t) w'
 | .error (e,a)=>r=.returned (.tuple #[.slice none 0 0,.int .i64 (e:Int),.int .i64 (a:Int)])∧0<e
theorem rread(s:ByteArray)(w:World)(hs2:s.size≤140737488351232):Calls Tryz.prog 12 #[.string s] w fun r w'=>JP (w.heap.size+1) (readL s.data.toList) r w'∧Below w.heap.size w w':=by
 by_cases hs:s.size≤65536
 ·have hs':decide ((65536:Int)<(s.size:Int))=false:=by simp;omega
  have HS:Hid (s.size≤65536):=hs;clear hs;go_enter Tryz.func12,Tryz.ntmps12;go_wp2_with fail
  have hlt0:w.heap.size<(w.alloc (.cells #[.string s,.int .i64 0,.slice none 0 0,.int .i64 0,.int .i64 0,.int .i64 0] 68)).heap.size:=by simp
  have r0:RD w.heap.size s 0 (.slice none 0 0) 0 0 0 (w.alloc (.cells #[.string s,.int .i64 0,.slice none 0 0,.int .i64 0,.int .i64 0,.int .i64 0] 68)):=heap_alloc_new w _;have B0:Hid (Below w.heap.size w (w.alloc (.cells #[.string s,.int .i64 0,.slice none 0 0,.int .i64 0,.int .i64 0,.int .i64 0] 68))):=bal (brf w) _;generalize w.alloc (.cells #[.string s,.int .i64 0,.slice none 0 0,.int .i64 0,.int .i64 0,.int .i64 0] 68)=w0 at r0 B0 hlt0;generalize hbp:w.heap.size=bp at r0 B0 hlt0;have HBP:Hid (w.heap.size=bp):=hbp;have hbk:=rblanks bp s 0 (.slice none 0 0) 0 0 w0 (by have:=HS.out;omega) r0;rw[Nat.zero_add]at hbk;generalize hp:nb (sfx s 0)=p at hbk;have HRE:Hid _:=readL_eq s HS.out p hp;clear hbp hp;refine hbk.mono ?_;rintro e w1 ⟨rfl,r1,o1⟩;have B1:Hid (Below bp w w1):=B0.out.trans (onl_bel o1 hlt0);have hva:=rvalue 32 (Nat.le_refl _) bp s p [] none [] 0 w1 HS.out ⟨_,r1,Nodes.nil _ _ _⟩ (Nat.zero_le _) (fun n hn=>by simp at hn) (fun u hu=>by cases hu);clear hbk o1 B0 r0 hlt0 r1;cases hR:valL 32 (sfx s p) p with
  | error q=>
    obtain⟨e,a⟩:=q;rw[hR]at hva;have HR:Hid (readL s.data.toList=.error (e,a)):=by have:=HRE.out;rw[hR]at this;exact this
    clear hR HRE;go_wp2_with fail
    refine hva.mono ?_;rintro e0 w2 ⟨rfl,⟨he,j,v2,r2⟩,b2⟩;have B2:Hid (Below bp w w2):=B1.out.trans b2;have hbk:=rblanks_er bp s j v2 e a _ w2 r2 he;have hlt2:=r2.lt;clear hva b2 B1 r2;go_wp2_with fail
    refine hbk.mono ?_;rintro e0 w3 ⟨rfl,r3,o3⟩;have B3:Hid (Below bp w w3):=B2.out.trans (onl_bel o3 hlt2);clear hbk o3 B2;obtain⟨c0,c1,c2,c3,c4,c5,cf⟩:=r3.cell;have heb:((e:Int) != 0)=true:=by simp;omega
    have hfa:=rfail1 bp s j v2 e a _ 2 j w3 r3 he;by_cases hj:j<s.size
    ·have hj':(j:Int)<(s.size:Int):=by omega
     go_wp2_with fail
     refine hfa.mono ?_;rintro e0 w4 ⟨rfl,hw4⟩;rw[hw4];clear hw4 w4 hfa;go_wp2_with fail
     go_quiet (fail);go_wp2;go_ret3
     rw[HR.out];exact⟨⟨rfl,he⟩,by rw[HBP.out];exact bdN B3.out nq⟩
    ·have hj':decide ((j:Int)<(s.size:Int))=false:=by simp;omega
     go_wp2_with fail
     go_quiet (fail);go_wp2;go_ret3
     rw[HR.out];exact⟨⟨rfl,he⟩,by rw[HBP.out];exact bdN B3.out nq⟩
  | ok q=>
    obtain⟨tt,n⟩:=q;rw[hR]at hva;have HR:Hid (readL s.data.toList=if p+n+nb (sfx s (p+n))<s.size then .error (2,p+n+nb (sfx s (p+n)))else .ok tt):=by have:=HRE.out;rw[hR]at this;exact this
    clear hR HRE;go_wp2_with fail
    refine hva.mono ?_;rintro e0 w2 ⟨rfl,⟨v2,r2,n2⟩,b2⟩;have B2:Hid (Below bp w w2):=B1.out.trans b2;have hbk:=rblanks bp s (p+n) v2 0 _ w2 (by have:=HS.out;omega) r2;generalize hp3:p+n+nb (sfx s (p+n))=p3 at hbk HR;have hlt2:=r2.lt;have N2:Hid (Nodes (bp+1) 51 v2 (flat 0 [] tt) w2):=n2;clear hva b2 B1 r2 n2 hp3;go_wp2_with fail
    refine hbk.mono ?_;rintro e0 w3 ⟨rfl,r3,o3⟩;have B3:Hid (Below bp w w3):=B2.out.trans (onl_bel o3 hlt2);have N3:Hid (Nodes (bp+1) 51 v2 (flat 0 [] tt) w3):=N2.out.onl o3 (by omega);clear hbk o3 B2 N2;obtain⟨c0,c1,c2,c3,c4,c5,cf⟩:=r3.cell;by_cases hj:p3<s.size
    ·have hj':(p3:Int)<(s.size:Int):=by omega
     have hfa:Calls Tryz.prog 27 #[.pointer (some ⟨bp,0,none⟩),.int .i64 2,.int .i64 (p3:Int)] w3 fun r w'=>r=.returned (.tuple #[])∧RD bp s p3 v2 2 p3 (32-32) w'∧Onl bp w3 w':=rfail0 bp s p3 v2 0 _ 2 p3 w3 r3
     have HJ:Hid (p3<s.size):=hj;go_wp2_with fail
     refine hfa.mono ?_;rintro e0 w4 ⟨rfl,r4,o4⟩;have B4:Hid (Below bp w w4):=B3.out.trans (onl_bel o4 r3.lt);clear hfa o4 c0 c1 c2 c3 c4 c5 cf r3;obtain⟨c0,c1,c2,c3,c4,c5,cf⟩:=r4.cell;go_wp2_with fail
     go_quiet (fail);go_wp2;go_ret3
     rw[HR.out,if_pos HJ.out];exact⟨⟨rfl,by omega⟩,by rw[HBP.out];exact bdN B4.out nq⟩
    ·have hj':decide ((p3:Int)<(s.size:Int))=false:=by simp;omega
     have HJ:Hid (¬p3<s.size):=hj;go_wp2;go_ret3
     rw[HR.out,if_neg HJ.out];exact⟨⟨v2,rfl,by rw[HBP.out];exact N3.out⟩,by rw[HBP.out];exact B3.out⟩
 ·have hs':(65536:Int)<(s.size:Int):=by omega
  have hR:readL s.data.toList=.error (1,0):=by unfold readL;rw[if_pos (by simp;omega)]
  rw[hR];clear hR hs;go_enter Tryz.func12,Tryz.ntmps12;go_wp2;go_ret3
  exact⟨⟨rfl,by omega⟩,brf _⟩
end Go.Proofs.YtaghclgookfmnaaGreatDoor
