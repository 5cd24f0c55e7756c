import Derived.Test.YtaghclgookfmnaaGreatDoorNR1
import Derived.WalkSpells
set_option maxHeartbeats 1000000
set_option maxRecDepth 4000
namespace Go.Proofs.YtaghclgookfmnaaGreatDoor
open Go.RowKit
set_option linter.unusedVariables false
section
variable (bp:Nat) (s:ByteArray) (i:Nat) (vL:Value) (at0 dp:Nat) (w:World)
def QP(R:Except Nat (List UInt8×Nat))(r:Ending)(w':World):Prop:=
 match R with
 | .ok (t,n)=>r=.returned (.string ⟨t.toArray⟩)∧RD bp s (i+n) vL 0 at0 dp w'
 | .error o=>(∃t,r=.returned (.string t))∧∃j,RD bp s j vL 2 (i+o) dp w'
def QI(v:Value)(wr:World):Prop:=
 Onl bp w wr∧((∃k f acc,(sfx s (i+1+k)).length<f∧i+1+k≤s.size+12∧acc.length≤k∧strL (sfx s (i+1))=shiftS acc k (strF f (sfx s (i+1+k)))∧OwnB w.heap.size 5 v acc wr∧RD bp s (i+1+k) vL 0 at0 dp wr)∨(∃o j acc,strL (sfx s (i+1))=.error o∧OwnB w.heap.size 5 v acc wr∧RD bp s j vL 2 (i+1+o) dp wr))
theorem QM_er{j er a d:Nat}{w':World}(h:RD bp s j vL er a d w')(he:0<er):QM bp s w'=0:=by
 unfold QM;rw[h.cell.2.2.2.1,if_neg (by simp[posOf];omega)]
theorem QM_ok{j a d:Nat}{w':World}(h:RD bp s j vL 0 a d w'):QM bp s w'=s.size+13-j+1:=by
 unfold QM;rw[h.cell.2.2.2.1,pos_rd h];simp[posOf]
theorem RD.belowB{j er a d:Nat}{w' wr:World}(h:RD bp s j vL er a d wr)(hlt:bp<w.heap.size)(hb:Below w.heap.size wr w'):RD bp s j vL er a d w':=by
 unfold RD;rw[hb.block _ hlt];exact h
theorem rquoted(hs:s.size≤140737488340000)(h:RD bp s i vL 0 at0 dp w):Calls Tryz.prog 34 #[.pointer (some ⟨bp,0,none⟩)] w fun r w'=>QP bp s i vL at0 dp (quotL (sfx s i)) r w'∧Onl bp w w':=by
 have hlt:=h.lt;obtain⟨i0,hi0,hz0,hz1,hz2⟩:=info_parts u8infoJ;have HI:Hid _:=hi0;clear hi0;by_cases hq:(sfx s i).head?=some 34
 ·have hi:=head_lt hq
  have hsi:s[i]=34:=by rw[sfx_cons s i hi]at hq;simpa using hq
  have hR:quotL (sfx s i)=(match strL (sfx s (i+1))with| .ok (t,n)=>.ok (t,n+1)| .error o=>.error (o+1)):=by
   rw[sfx_cons s i hi,quotL,if_pos hsi];rfl
  have HR:Hid _:=hR;clear hR;have hm:Calls Tryz.prog 45 #[.pointer (some ⟨bp,0,none⟩),.int .u8 34] w fun r w'=>r=.returned (.tuple #[])∧RD bp s (i+1) vL 0 at0 dp w'∧Onl bp w w':=rmust_ok bp s i vL at0 dp 34 w (by omega) h hq
  clear hq hsi;go_enter Tryz.func34,Tryz.ntmps34;go_wp2_with fail
  refine hm.mono ?_;rintro e w1 ⟨rfl,h1,o1⟩;have H1:Hid (RD bp s (i+1) vL 0 at0 dp w1):=h1;have O1:Hid (Onl bp w w1):=o1;clear h1 o1 hm;go_wp2_with fail
  go_loopw [3] (fun v wr=>QI bp s i vL at0 dp w v wr) (fun _ wr=>QM bp s wr)
  case atStart=>
   refine⟨O1.out,.inl ⟨0,(sfx s (i+1)).length+1,[],by simp,by omega,by simp,?_,.inl ⟨rfl,rfl⟩,H1.out⟩⟩;show strL (sfx s (i+1))=shiftS [] 0 (strF ((sfx s (i+1)).length+1) (sfx s (i+1)))
   unfold strL;cases strF ((sfx s (i+1)).length+1) (sfx s (i+1))with
   | ok p=>obtain⟨a,b⟩:=p;simp[shiftS]
   | error o=>simp[shiftS]
  case round=>
   clear H1 O1;obtain⟨ho,hcase⟩:=hrel;have HO:Hid (Onl bp w wr):=ho;clear ho;rcases hcase with⟨k,f,acc,hf,hk,hal,he,hown,hrd⟩|⟨o,j,acc,he,hown,hrd⟩
   ·generalize hp:i+1+k=p at hf hk he hrd
    have HP:Hid (i+1+k=p):=hp;have HE:Hid (strL (sfx s (i+1))=shiftS acc k (strF f (sfx s p))):=he;have HW:Hid (OwnB w.heap.size 5 u3 acc wr):=hown;have HM:Hid (QM bp s wr=s.size+13-p+1):=by
     show QM bp s wr=_
     unfold QM;rw[hrd.cell.2.2.2.1,pos_rd hrd];simp[posOf]
    obtain⟨f,rfl⟩:∃g,f=g+1:=⟨f-1,by omega⟩
    have hr:∀b,isAt 0 (sfx s p) 34=b→Calls Tryz.prog 33 #[.pointer (some ⟨bp,0,none⟩),.int .u8 34] wr fun r w''=>r=.returned (.bool b)∧RD bp s p vL 0 at0 dp w''∧Onl bp wr w'':=
     fun b hb=>hb▸(ris bp s p vL 0 at0 dp 34 wr hrd).mono fun e w'' ⟨he,n,hw⟩=>⟨he,hw▸hrd.drewN n,hw▸(onl_refl bp wr).drewN n⟩
    obtain⟨c0,c1,c2,c3,c4,c5,cf⟩:=hrd.cell;have hacc:acc.length≤140737488340020:=by omega
    have HA:Hid (acc.length≤140737488340020):=hacc;clear hp he hown hacc;by_cases h34:(sfx s p).head?=some 34
    ·have hr1:=hr true (isAt_yes h34)
     have hF:strF (f+1) (sfx s p)=.ok ([],1):=by
      have hps:=head_lt h34;rw[sfx_cons s p hps]at h34 ⊢;have h34:s[p]=34:=by simpa using h34
      rw[strF];simp[h34]
     have HF:Hid _:=hF;have hmu:∀w',RD bp s p vL 0 at0 dp w'→Calls Tryz.prog 45 #[.pointer (some ⟨bp,0,none⟩),.int .u8 34] w' fun r w''=>r=.returned (.tuple #[])∧RD bp s (p+1) vL 0 at0 dp w''∧Onl bp w' w'':=fun w' h'=>rmust_ok bp s p vL at0 dp 34 w' (by omega) h' h34
     clear h34 hF hr hf hk;go_wp2_with fail
     refine hr1.mono ?_;rintro e w2 ⟨rfl,h2,o2⟩;have H2:Hid (RD bp s p vL 0 at0 dp w2):=h2;have O2:Hid (Onl bp w w2):=Onl.trans HO.out o2;have W2:Hid (OwnB w.heap.size 5 u3 acc w2):=OwnB.onl bp HW.out o2 hlt;clear h2 o2 hr1 c0 c1 c2 c3 c4 c5 cf hrd HO HW;go_wp2_with fail
     refine(hmu _ H2.out).mono ?_;rintro e w3 ⟨rfl,h3,o3⟩;have H3:Hid (RD bp s (p+1) vL 0 at0 dp w3):=h3;have O3:Hid (Onl bp w w3):=Onl.trans O2.out o3;have hs3:=(OwnB.onl bp W2.out o3 hlt).str (P:=Tryz.prog) (t:=87) (d:=9) Tryz.underlying87 Tryz.underlying5 Tryz.underlying9;clear h3 o3 hmu H2 O2 W2;go_wp2;go_ret;refine⟨?_,O3.out⟩;have e1:=HE.out;rw[HF.out]at e1;have e2:shiftS acc k (.ok ([],1))=.ok (acc,k+1):=by simp[shiftS]
     rw[HR.out,e1,e2];refine⟨rfl,?_⟩;have:i+(k+1+1)=p+1:=by have:=HP.out;omega
     rw[this];exact H3.out
    ·have hr1:=hr false (isAt_no h34)
     clear hr;by_cases hps:p<s.size
     ·have hcons:=sfx_cons s p hps
      have hne34:s[p]≠34:=by rw[hcons]at h34;simpa using h34
      have hp1:(p:Int)<(s.size:Int):=by omega
      have hp2:decide ((s.size:Int)≤(p:Int))=false:=by simp;omega
      clear h34;by_cases h32:s[p].toNat<32
      ·have hF:strF (f+1) (sfx s p)=.error 0:=by rw[hcons,strF];simp[hne34,h32]
       have HF:Hid _:=hF;have hlt32:(s[p].toNat:Int)<32:=by omega
       clear hF hcons hne34 h32 hf hk;go_wp2_with fail
       refine hr1.mono ?_;rintro e w2 ⟨rfl,h2,o2⟩;have O2:Hid (Onl bp w w2):=Onl.trans HO.out o2;have W2:Hid (OwnB w.heap.size 5 u3 acc w2):=OwnB.onl bp HW.out o2 hlt;clear o2 hr1 c0 c1 c2 c3 c4 c5 cf hrd HO HW;obtain⟨c0,c1,c2,c3,c4,c5,cf⟩:=h2.cell;go_wp2_with fail
       go_quiet (fail);have h3:=h2.drewN nq;have O3:Hid (Onl bp w (w2.drewN nq)):=Onl.drewN O2.out nq;have W3:Hid (OwnB w.heap.size 5 u3 acc (w2.drewN nq)):=W2.out;generalize w2.drewN nq=w3 at h3 O3 W3;clear c0 c1 c2 c3 c4 c5 cf h2 O2 W2 nq w2;obtain⟨c0,c1,c2,c3,c4,c5,cf⟩:=h3.cell;have hfa:=rfail0 bp s p vL at0 dp 2 p _ h3;go_wp2_with fail
       refine hfa.mono ?_;rintro e w7 ⟨rfl,h7,o7⟩;have H7:Hid (RD bp s p vL 2 p dp w7):=h7;have O7:Hid (Onl bp w w7):=Onl.trans O3.out o7;clear h7 o7 hfa;go_wp2;go_ret;refine⟨?_,O7.out⟩;have e1:=HE.out;rw[HF.out]at e1;rw[HR.out,e1];refine⟨⟨_,rfl⟩,p,?_⟩;have:i+(k+0+1)=p:=by have:=HP.out;omega
       rw[this];exact H7.out
      ·have hge32:decide ((s[p].toNat:Int)<32)=false:=by simp;omega
       by_cases h92:s[p]=92
       ·have h92b:((s[p].toNat:Int)==92)=true:=by rw[h92];rfl
        have hesc:=fun w' (h':RD bp s p vL 0 at0 dp w')=>rescape bp s p vL at0 dp w' (by omega) h' hps
        have hFF:strF (f+1) (sfx s p)=(match escL (sfx s p)with| .error o=>.error o| .ok (t,n)=>shiftS t n (strF f ((sfx s p).drop n))):=by
         rw[hcons,strF];simp[h92];rfl
        cases hE2:escL (sfx s p)with
        | error o=>
          rw[hE2]at hFF;have HF:Hid (strF (f+1) (sfx s p)=.error o):=hFF;have hes:=fun w' h'=>(hesc w' h').2 o hE2
          clear hFF hesc hE2 hcons hne34 h32 h92 hf hk;go_wp2_with fail
          refine hr1.mono ?_;rintro e w2 ⟨rfl,h2,o2⟩;have O2:Hid (Onl bp w w2):=Onl.trans HO.out o2;have W2:Hid (OwnB w.heap.size 5 u3 acc w2):=OwnB.onl bp HW.out o2 hlt;clear o2 hr1 c0 c1 c2 c3 c4 c5 cf hrd HO HW;obtain⟨c0,c1,c2,c3,c4,c5,cf⟩:=h2.cell;go_wp2_with fail
          go_quiet (fail);have h3:=h2.drewN nq;have O3:Hid (Onl bp w (w2.drewN nq)):=Onl.drewN O2.out nq;have W3:Hid (OwnB w.heap.size 5 u3 acc (w2.drewN nq)):=W2.out;generalize w2.drewN nq=w3 at h3 O3 W3;clear c0 c1 c2 c3 c4 c5 cf h2 O2 W2 nq w2;obtain⟨c0,c1,c2,c3,c4,c5,cf⟩:=h3.cell;go_wp2_with fail
          go_quiet (fail);have h4:=h3.drewN nq;have O4:Hid (Onl bp w (w3.drewN nq)):=Onl.drewN O3.out nq;have W4:Hid (OwnB w.heap.size 5 u3 acc (w3.drewN nq)):=W3.out;generalize w3.drewN nq=w4 at h4 O4 W4;clear c0 c1 c2 c3 c4 c5 cf h3 O3 W3 nq w3;obtain⟨c0,c1,c2,c3,c4,c5,cf⟩:=h4.cell;go_wp2_with fail
          refine(hes _ h4).mono ?_;rintro e w5 ⟨rfl,⟨j,h5⟩,o5⟩;have H5:Hid (RD bp s j vL 2 (p+o) dp w5):=h5;have O5:Hid (Onl bp w w5):=Onl.trans O4.out o5;have W5:Hid (OwnB w.heap.size 5 u3 acc w5):=OwnB.onl bp W4.out o5 hlt;have hz5:=O5.out.size;clear h5 o5 hes c0 c1 c2 c3 c4 c5 cf h4 O4 W4 hge32 h92b hp2 hal;go_wp2_with (refine wp_appS rfl (.tmp 58) (.tmp 59) 87 9 rfl 5 i0 Tryz.underlying87 Tryz.underlying9 HI.out hz0 hz1 hz2 w.heap.size _ acc ⟨#[]⟩ rfl rfl (by show acc.length+0≤140737488355328;have:=HA.out;omega) W5.out hz5 ?_;intro v6 w6 ho6 hb6;have W6:Hid _:=ho6;clear ho6)
          have h7:=RD.belowB bp s vL w H5.out hlt hb6;refine⟨⟨onl_belowB bp w O5.out hb6,.inr ⟨k+o,j,_,?_,W6.out,?_⟩⟩,?_⟩
          ·rw[HE.out,HF.out];rfl
          ·rw[show i+1+(k+o)=p+o by have:=HP.out;omega];exact h7
          ·rw[QM_er bp s vL h7 (by omega),HM.out];omega
        | ok q=>
          obtain⟨tt,n⟩:=q;obtain⟨hb1,hb2,hb3⟩:=escL_ok hE2;rw[hE2]at hFF;have HF:Hid (strF (f+1) (sfx s p)=shiftS tt n (strF f ((sfx s p).drop n))):=hFF;have hes:=fun w' h'=>(hesc w' h').1 tt n hE2
          have HL:Hid ((sfx s p).length<f+1):=hf;have HB:Hid (tt.length≤n∧2≤n∧n≤12):=⟨hb1,hb2,hb3⟩;clear hFF hesc hE2 hcons hne34 h32 h92 hf hk hb1 hb2 hb3;go_wp2_with fail
          refine hr1.mono ?_;rintro e w2 ⟨rfl,h2,o2⟩;have O2:Hid (Onl bp w w2):=Onl.trans HO.out o2;have W2:Hid (OwnB w.heap.size 5 u3 acc w2):=OwnB.onl bp HW.out o2 hlt;clear o2 hr1 c0 c1 c2 c3 c4 c5 cf hrd HO HW;obtain⟨c0,c1,c2,c3,c4,c5,cf⟩:=h2.cell;go_wp2_with fail
          go_quiet (fail);have h3:=h2.drewN nq;have O3:Hid (Onl bp w (w2.drewN nq)):=Onl.drewN O2.out nq;have W3:Hid (OwnB w.heap.size 5 u3 acc (w2.drewN nq)):=W2.out;generalize w2.drewN nq=w3 at h3 O3 W3;clear c0 c1 c2 c3 c4 c5 cf h2 O2 W2 nq w2;obtain⟨c0,c1,c2,c3,c4,c5,cf⟩:=h3.cell;go_wp2_with fail
          go_quiet (fail);have h4:=h3.drewN nq;have O4:Hid (Onl bp w (w3.drewN nq)):=Onl.drewN O3.out nq;have W4:Hid (OwnB w.heap.size 5 u3 acc (w3.drewN nq)):=W3.out;generalize w3.drewN nq=w4 at h4 O4 W4;clear c0 c1 c2 c3 c4 c5 cf h3 O3 W3 nq w3;obtain⟨c0,c1,c2,c3,c4,c5,cf⟩:=h4.cell;go_wp2_with fail
          refine(hes _ h4).mono ?_;rintro e w5 ⟨rfl,h5,o5⟩;have H5:Hid (RD bp s (p+n) vL 0 at0 dp w5):=h5;have O5:Hid (Onl bp w w5):=Onl.trans O4.out o5;have W5:Hid (OwnB w.heap.size 5 u3 acc w5):=OwnB.onl bp W4.out o5 hlt;have hz5:=O5.out.size;clear h5 o5 hes c0 c1 c2 c3 c4 c5 cf h4 O4 W4 hge32 h92b hp2;go_wp2_with (refine wp_appS rfl (.tmp 58) (.tmp 59) 87 9 rfl 5 i0 Tryz.underlying87 Tryz.underlying9 HI.out hz0 hz1 hz2 w.heap.size _ acc ⟨tt.toArray⟩ rfl rfl (by show acc.length+tt.length≤140737488355328;have:=HA.out;have:=HB.out;omega) W5.out hz5 ?_;intro v6 w6 ho6 hb6;have W6:Hid (OwnB w.heap.size 5 v6 (acc++tt) w6):=ho6;clear ho6)
          have h7:=RD.belowB bp s vL w H5.out hlt hb6;obtain⟨hb1,hb2,hb3⟩:=HB.out;refine⟨⟨onl_belowB bp w O5.out hb6,.inl ⟨k+n,f,acc++tt,?_,?_,?_,?_,W6.out,?_⟩⟩,?_⟩
          ·rw[show i+1+(k+n)=p+n by have:=HP.out;omega];have:=HL.out;rw[sfx_length]at this ⊢;omega
          ·have:=HP.out;omega
          ·rw[List.length_append];omega
          ·rw[HE.out,HF.out,shiftS_shiftS,sfx_drop,show i+1+(k+n)=p+n by have:=HP.out;omega]
          ·rw[show i+1+(k+n)=p+n by have:=HP.out;omega];exact h7
          ·rw[QM_ok bp s vL h7,HM.out];omega
       ·have h92b:((s[p].toNat:Int)==92)=false:=u8_ne (k:=92) (by omega) h92
        have hsq:=fun w'=>rsequence s p w' hps (by omega)
        by_cases hz:seqLen (sfx s p)=0
        ·have hF:strF (f+1) (sfx s p)=.error 0:=by
          have hz':=hz;rw[hcons]at hz' ⊢;rw[strF];simp[hne34,h32,h92,hz']
         have HF:Hid _:=hF;rw[hz]at hsq;clear hF hcons hne34 h32 h92 hf hk hz;go_wp2_with fail
         refine hr1.mono ?_;rintro e w2 ⟨rfl,h2,o2⟩;have O2:Hid (Onl bp w w2):=Onl.trans HO.out o2;have W2:Hid (OwnB w.heap.size 5 u3 acc w2):=OwnB.onl bp HW.out o2 hlt;clear o2 hr1 c0 c1 c2 c3 c4 c5 cf hrd HO HW;obtain⟨c0,c1,c2,c3,c4,c5,cf⟩:=h2.cell;go_wp2_with fail
         go_quiet (fail);have h3:=h2.drewN nq;have O3:Hid (Onl bp w (w2.drewN nq)):=Onl.drewN O2.out nq;have W3:Hid (OwnB w.heap.size 5 u3 acc (w2.drewN nq)):=W2.out;generalize w2.drewN nq=w3 at h3 O3 W3;clear c0 c1 c2 c3 c4 c5 cf h2 O2 W2 nq w2;obtain⟨c0,c1,c2,c3,c4,c5,cf⟩:=h3.cell;go_wp2_with fail
         go_quiet (fail);have h4:=h3.drewN nq;have O4:Hid (Onl bp w (w3.drewN nq)):=Onl.drewN O3.out nq;have W4:Hid (OwnB w.heap.size 5 u3 acc (w3.drewN nq)):=W3.out;generalize w3.drewN nq=w4 at h4 O4 W4;clear c0 c1 c2 c3 c4 c5 cf h3 O3 W3 nq w3;obtain⟨c0,c1,c2,c3,c4,c5,cf⟩:=h4.cell;go_wp2_with fail
         go_quiet ((go_at_call 47;exact Calls.quiet_of_same (hsq _)));have h5:=h4.drewN nq;have O5:Hid (Onl bp w (w4.drewN nq)):=Onl.drewN O4.out nq;have W5:Hid (OwnB w.heap.size 5 u3 acc (w4.drewN nq)):=W4.out;generalize w4.drewN nq=w5 at h5 O5 W5;clear c0 c1 c2 c3 c4 c5 cf h4 O4 W4 nq w4 hsq;obtain⟨c0,c1,c2,c3,c4,c5,cf⟩:=h5.cell;have hfa:=rfail0 bp s p vL at0 dp 2 p _ h5;go_wp2_with fail
         refine hfa.mono ?_;rintro e w7 ⟨rfl,h7,o7⟩;have H7:Hid (RD bp s p vL 2 p dp w7):=h7;have O7:Hid (Onl bp w w7):=Onl.trans O5.out o7;clear h7 o7 hfa;go_wp2;go_ret;refine⟨?_,O7.out⟩;have e1:=HE.out;rw[HF.out]at e1;rw[HR.out,e1];refine⟨⟨_,rfl⟩,p,?_⟩;have:i+(k+0+1)=p:=by have:=HP.out;omega
         rw[this];exact H7.out
        ·have hF:strF (f+1) (sfx s p)=shiftS ((sfx s p).take (seqLen (sfx s p))) (seqLen (sfx s p)) (strF f ((sfx s p).drop (seqLen (sfx s p)))):=by
          have hz':=hz;rw[hcons]at hz' ⊢;rw[strF];simp[hne34,h32,h92,hz']
         have hl4:=seqLen_le4 (sfx s p);have hll:=seqLen_len (sfx s p);rw[sfx_length]at hll;generalize seqLen (sfx s p)=n at hz hF hl4 hll hsq;have HF:Hid _:=hF;have HL:Hid ((sfx s p).length<f+1):=hf;have HB:Hid (n≠0∧n≤4∧n≤s.size-p):=⟨hz,hl4,hll⟩;have hn0:((n:Int)==0)=false:=by simp;omega
         have hpn:(p:Int)+(n:Int)≤(s.size:Int):=by omega
         have hpn2:p+n≤s.size:=by omega
         clear hF hcons hne34 h32 h92 hf hk hz hl4 hll;go_wp2_with fail
         refine hr1.mono ?_;rintro e w2 ⟨rfl,h2,o2⟩;have O2:Hid (Onl bp w w2):=Onl.trans HO.out o2;have W2:Hid (OwnB w.heap.size 5 u3 acc w2):=OwnB.onl bp HW.out o2 hlt;clear o2 hr1 c0 c1 c2 c3 c4 c5 cf hrd HO HW;obtain⟨c0,c1,c2,c3,c4,c5,cf⟩:=h2.cell;go_wp2_with fail
         go_quiet (fail);have h3:=h2.drewN nq;have O3:Hid (Onl bp w (w2.drewN nq)):=Onl.drewN O2.out nq;have W3:Hid (OwnB w.heap.size 5 u3 acc (w2.drewN nq)):=W2.out;generalize w2.drewN nq=w3 at h3 O3 W3;clear c0 c1 c2 c3 c4 c5 cf h2 O2 W2 nq w2;obtain⟨c0,c1,c2,c3,c4,c5,cf⟩:=h3.cell;go_wp2_with fail
         go_quiet (fail);have h4:=h3.drewN nq;have O4:Hid (Onl bp w (w3.drewN nq)):=Onl.drewN O3.out nq;have W4:Hid (OwnB w.heap.size 5 u3 acc (w3.drewN nq)):=W3.out;generalize w3.drewN nq=w4 at h4 O4 W4;clear c0 c1 c2 c3 c4 c5 cf h3 O3 W3 nq w3;obtain⟨c0,c1,c2,c3,c4,c5,cf⟩:=h4.cell;go_wp2_with fail
         go_quiet ((go_at_call 47;exact Calls.quiet_of_same (hsq _)));have h5:=h4.drewN nq;have O5:Hid (Onl bp w (w4.drewN nq)):=Onl.drewN O4.out nq;have W5:Hid (OwnB w.heap.size 5 u3 acc (w4.drewN nq)):=W4.out;generalize w4.drewN nq=w5 at h5 O5 W5;clear c0 c1 c2 c3 c4 c5 cf h4 O4 W4 nq w4 hsq;obtain⟨c0,c1,c2,c3,c4,c5,cf⟩:=h5.cell;have f1:=cf 1;have hz5:=O5.out.size;clear hge32 h92b hp2;go_wp2_with fail
         have HC:Hid (w5.cell? ⟨bp,0,none⟩=some (.string s)∧w5.cell? ⟨bp,1,none⟩=some (.int .i64 (p:Int))):=⟨c0,c1⟩;have H5:Hid (RD bp s p vL 0 at0 dp w5):=h5;have HZ5:Hid (w.heap.size≤w5.heap.size):=hz5;clear h5 hz5;obtain⟨q,hq⟩:∃q:Nat,p+n=q:=⟨_,rfl⟩;have hq1:IntKind.i64.wrap ((p:Int)+(n:Int))=(q:Int):=by rw[i64w _ (by omega)];omega
         have hq2:(p:Int)≤(q:Int):=by omega
         have hq3:(q:Int)≤(s.size:Int):=by omega
         have HQ:Hid (p+n=q):=hq;clear hq hpn hpn2;go_region_held3 (fun w'=>w'.cell? ⟨bp,0,none⟩=some (.string s)∧w'.cell? ⟨bp,1,none⟩=some (.int .i64 (p:Int))) (go_keep) (first|(refine stepS rfl (.tmp 78) (.tmp 93) 87 9 rfl 5 i0 Tryz.underlying87 Tryz.underlying9 HI.out hz0 hz1 hz2 w.heap.size _ acc (s.extract p q) rfl rfl (by have:=HA.out;have:=HB.out;have:=HQ.out;simp;omega) W5.out HZ5.out ?_;intro v6 w6 ho6 hb6;have s0:=(hb6.cell (p:=⟨bp,0,none⟩) hlt).trans HC.out.1;have s1:=(hb6.cell (p:=⟨bp,1,none⟩) hlt).trans HC.out.2;have W6:Hid _:=ho6;have HB6:Hid _:=hb6;clear ho6 hb6))
         have h7:=RD.belowB bp s vL w (wr:=w5.drew) H5.out hlt HB6.out;have O6:Hid (Onl bp w w6):=onl_belowB bp w (wr:=w5.drew) (Onl.drewN O5.out 1) HB6.out;clear s0 s1 c0 c1 c2 c3 c4 c5 cf f1 HC O5 W5 HZ5;obtain⟨c0,c1,c2,c3,c4,c5,cf⟩:=h7.cell;have f1:=cf 1;have hq4:(p:Int)+(n:Int)=(q:Int):=by have:=HQ.out;omega
         clear hq1;go_wp2_with fail
         have h8:=h7.setI q;have o8:Onl bp w6 (w6.setCell ⟨bp,1,none⟩ (.int .i64 (q:Int))):=Onl.setCell (onl_refl bp w6) _ h7;have hqp:=HQ.out;obtain⟨hb1,hb2,hb3⟩:=HB.out;refine⟨⟨Onl.trans O6.out o8,.inl ⟨k+n,f,acc++(sfx s p).take n,?_,?_,?_,?_,?_,?_⟩⟩,?_⟩
         ·rw[show i+1+(k+n)=p+n by have:=HP.out;omega];have:=HL.out;rw[sfx_length]at this ⊢;omega
         ·have:=HP.out;omega
         ·rw[List.length_append,List.length_take];omega
         ·rw[HE.out,HF.out,shiftS_shiftS,sfx_drop,show i+1+(k+n)=p+n by have:=HP.out;omega]
         ·have hx:=OwnB.onl bp W6.out o8 hlt
          rw[extract_list,show q-p=n by omega]at hx;exact hx
         ·rw[show i+1+(k+n)=q by have:=HP.out;omega];exact h8
         ·rw[QM_ok bp s vL h8,HM.out];omega
     ·have hF:strF (f+1) (sfx s p)=.error 0:=by rw[sfx_nil s p (by omega)];rfl
      have HF:Hid _:=hF;have hp2:(s.size:Int)≤(p:Int):=by omega
      have hp3:s.size≤p:=by omega
      clear hF hf hk hps h34;go_wp2_with fail
      refine hr1.mono ?_;rintro e w2 ⟨rfl,h2,o2⟩;have O2:Hid (Onl bp w w2):=Onl.trans HO.out o2;have W2:Hid (OwnB w.heap.size 5 u3 acc w2):=OwnB.onl bp HW.out o2 hlt;clear o2 hr1 c0 c1 c2 c3 c4 c5 cf hrd HO HW;obtain⟨c0,c1,c2,c3,c4,c5,cf⟩:=h2.cell;go_wp2_with fail
      go_quiet (fail);have h3:=h2.drewN nq;have O3:Hid (Onl bp w (w2.drewN nq)):=Onl.drewN O2.out nq;have W3:Hid (OwnB w.heap.size 5 u3 acc (w2.drewN nq)):=W2.out;generalize w2.drewN nq=w3 at h3 O3 W3;clear c0 c1 c2 c3 c4 c5 cf h2 O2 W2 nq w2;obtain⟨c0,c1,c2,c3,c4,c5,cf⟩:=h3.cell;have hfa:=rfail0 bp s p vL at0 dp 2 p _ h3;go_wp2_with fail
      refine hfa.mono ?_;rintro e w7 ⟨rfl,h7,o7⟩;have H7:Hid (RD bp s p vL 2 p dp w7):=h7;have O7:Hid (Onl bp w w7):=Onl.trans O3.out o7;clear h7 o7 hfa;go_wp2;go_ret;refine⟨?_,O7.out⟩;have e1:=HE.out;rw[HF.out]at e1;rw[HR.out,e1];refine⟨⟨_,rfl⟩,p,?_⟩;have:i+(k+0+1)=p:=by have:=HP.out;omega
      rw[this];exact H7.out
   ·have HE:Hid (strL (sfx s (i+1))=.error o):=he
    obtain⟨c0,c1,c2,c3,c4,c5,cf⟩:=hrd.cell;have hmu:Calls Tryz.prog 45 #[.pointer (some ⟨bp,0,none⟩),.int .u8 34] wr fun r w''=>r=.returned (.tuple #[])∧∃n,w''=wr.drewN n:=rmust_er bp s j vL 2 (i+1+o) dp 34 wr hrd (by omega)
    clear he;go_wp2_with fail
    refine hmu.mono ?_;rintro e w3 ⟨rfl,n,hw3⟩;rw[hw3];clear hw3 w3;have hs3:=OwnB.str (P:=Tryz.prog) (t:=87) (d:=9) (w:=wr.drewN n) Tryz.underlying87 Tryz.underlying5 Tryz.underlying9 (show OwnB w.heap.size 5 u3 acc (wr.drewN n)from hown);go_wp2;go_ret;refine⟨?_,Onl.drewN HO.out n⟩;rw[HR.out,HE.out];refine⟨⟨_,rfl⟩,j,?_⟩;rw[show i+(o+1)=i+1+o by omega];exact hrd
 ·have hR:quotL (sfx s i)=.error 0:=by
   match hsx:sfx s i with
   | []=>rfl
   | c::r=>rw[hsx]at hq;rw[quotL,if_neg (by simpa using hq)]
  rw[hR];have hm:Calls Tryz.prog 45 #[.pointer (some ⟨bp,0,none⟩),.int .u8 34] w fun r w'=>r=.returned (.tuple #[])∧RD bp s i vL 2 i dp w'∧Onl bp w w':=rmust_no bp s i vL at0 dp 34 w h hq
  clear hq hR;go_enter Tryz.func34,Tryz.ntmps34;go_wp2_with fail
  refine hm.mono ?_;rintro e w1 ⟨rfl,h1,o1⟩;have O1:Hid (Onl bp w w1):=o1;clear o1 hm;obtain⟨c0,c1,c2,c3,c4,c5,cf⟩:=h1.cell;have hmu:Calls Tryz.prog 45 #[.pointer (some ⟨bp,0,none⟩),.int .u8 34] w1 fun r w''=>r=.returned (.tuple #[])∧∃n,w''=w1.drewN n:=rmust_er bp s i vL 2 i dp 34 w1 h1 (by omega)
  go_wp2_with fail
  refine wp_loop_once ?_;go_wp2_with fail
  refine hmu.mono ?_;rintro e w3 ⟨rfl,n,hw3⟩;rw[hw3];clear hw3 w3;have hs3:=OwnB.str (P:=Tryz.prog) (B:=0) (t:=87) (d:=9) (w:=w1.drewN n) Tryz.underlying87 Tryz.underlying5 Tryz.underlying9 (v:=.slice none 0 0) (l:=[]) (.inl ⟨rfl,rfl⟩);go_wp2;go_ret;exact⟨⟨⟨_,rfl⟩,i,h1⟩,Onl.drewN O1.out n⟩
end
section
variable (bp:Nat) (s:ByteArray) (i:Nat) (vL:Value) (at0 dp:Nat) (w:World)
def IP(R:Except (Nat×Nat) (Int×Nat))(r:Ending)(w':World):Prop:=
 match R with
 | .ok (n,k)=>r=.returned (.int .i64 n)∧RD bp s (i+k) vL 0 at0 dp w'
 | .error (e,o)=>(∃n,r=.returned (.int .i64 n))∧∃j,RD bp s j vL e (i+o) dp w'
def II(fr E T:Nat)(v:Value)(wr:World):Prop:=
 ∃p X:Nat,fr≤p∧p≤s.size∧p+nd (sfx s p)=E∧accN X ((sfx s p).take (nd (sfx s p)))=T∧X≤90071992547409919∧v=.int .i64 (X:Int)∧RD bp s p vL 0 at0 dp wr∧Onl bp w wr
theorem rint0(hs:s.size≤140737488340000)(h:RD bp s i vL 0 at0 dp w)(hi:i<s.size)(hm:s[i]≠45)(fr E T:Nat)(hfr:i=fr)(hE:fr+nd (sfx s fr)=E)(hT:accN 0 ((sfx s fr).take (nd (sfx s fr)))=T):Calls Tryz.prog 37 #[.pointer (some ⟨bp,0,none⟩)] w fun r w'=>IP bp s i vL at0 dp (intL (sfx s i)) r w'∧Onl bp w w':=by
 have hr:Calls Tryz.prog 33 #[.pointer (some ⟨bp,0,none⟩),.int .u8 45] w fun r w''=>r=.returned (.bool false)∧RD bp s fr vL 0 at0 dp w''∧Onl bp w w'':=by
  have hb:isAt 0 (sfx s i) 45=false:=isAt_no (by rw[sfx_cons s i hi];simpa using hm);rw[←hfr];exact hb▸(ris bp s i vL 0 at0 dp 45 w h).mono fun e w'' ⟨he,n,hw⟩=>⟨he,hw▸h.drewN n,hw▸(onl_refl bp w).drewN n⟩
 have HFR:Hid ((fr+nd (sfx s fr)=E∧accN 0 ((sfx s fr).take (nd (sfx s fr)))=T)∧fr≤s.size):=⟨⟨hE,hT⟩,by omega⟩;obtain⟨c0,c1,c2,c3,c4,c5,cf⟩:=h.cell;have HI:Hid (i+0=fr):=hfr;have HIL:Hid (intL (sfx s i)=if E-fr=0∨(1<E-fr∧(sfx s fr).head?=some 48)then .error (2,0)else if maxI<T then .error (3,0)else .ok ((T:Int),0+(E-fr))):=by
  have hk:E-fr=nd (sfx s fr):=by omega
  rw[hk,←hT,←hfr];exact intL_plain (by rw[sfx_cons s i hi];simpa using hm)
 clear hE hT hfr;go_enter Tryz.func37,Tryz.ntmps37;go_wp2_with fail
 refine hr.mono ?_;rintro e w2 ⟨rfl,h2,o2⟩;have H2:Hid (RD bp s fr vL 0 at0 dp w2):=h2;have O2:Hid (Onl bp w w2):=o2;clear c0 c1 c2 c3 c4 c5 cf h hr o2;obtain⟨c0,c1,c2,c3,c4,c5,cf⟩:=h2.cell;go_wp2_with fail
 clear c0 c1 c2 c3 c4 c5 cf h2;go_loopw [6] (fun v wr=>II bp s vL at0 dp w fr E T v wr) (fun _ wr=>s.size-posOf (wr.cell? ⟨bp,1,none⟩))
 case atStart=>exact⟨fr,0,Nat.le_refl _,HFR.out.2,HFR.out.1.1,HFR.out.1.2,by omega,rfl,H2.out,O2.out⟩
 case round=>
  clear H2 O2;obtain⟨p,X,hfp,hps,hE,hT,hX,rfl,hrd,ho⟩:=hrel;have HO:Hid (Onl bp w wr):=ho;have HM:Hid (posOf (wr.cell? ⟨bp,1,none⟩)=p):=pos_rd hrd;obtain⟨c0,c1,c2,c3,c4,c5,cf⟩:=hrd.cell;clear ho;by_cases hlt2:p<s.size
  ·have hp1:(p:Int)<(s.size:Int):=by omega
   have hdg:=rdigit s[p];cases hd:isD s[p]with
   | true=>
     rw[hd]at hdg;obtain⟨hd1,hd2⟩:=(isD_iff _).1 hd;have HE:Hid (p+1+nd (sfx s (p+1))=E):=by rw[nd_cons s p hlt2 hd]at hE;show p+1+nd (sfx s (p+1))=E;omega
     have HT:Hid (accN (if X≤maxI then 10*X+(s[p].toNat-48)else X) ((sfx s (p+1)).take (nd (sfx s (p+1))))=T):=by rw[acc_cons s p X hlt2 hd]at hT;exact hT
     clear hE hT hd;have HB:Hid (fr≤p∧p<s.size∧48≤s[p].toNat∧s[p].toNat≤57):=⟨hfp,hlt2,hd1,hd2⟩;have hd1':(48:Int)≤(s[p].toNat:Int):=by omega
     have hd2':(s[p].toNat:Int)≤57:=by omega
     have hpb:(p:Int)≤140737488340000:=by omega
     have hX':(X:Int)≤90071992547409919:=by omega
     by_cases hmx:X≤maxI
     ·have HX:Hid (X≤maxI):=hmx
      have hmx':(X:Int)≤9007199254740991:=by unfold maxI at hmx;omega
      clear hmx hX hfp hps hd1 hd2;go_wp2_with fail
      go_quiet ((go_at_call 36;exact Calls.quiet_of_same (hdg _)));have h3:=hrd.drewN nq;have O3:Hid (Onl bp w (wr.drewN nq)):=Onl.drewN HO.out nq;generalize wr.drewN nq=w3 at h3 O3;clear c0 c1 c2 c3 c4 c5 cf hrd HO nq hdg;obtain⟨c0,c1,c2,c3,c4,c5,cf⟩:=h3.cell;go_wp2_with fail
      go_quiet (fail);have h4:=h3.drewN nq;have O4:Hid (Onl bp w (w3.drewN nq)):=Onl.drewN O3.out nq;generalize w3.drewN nq=w4 at h4 O4;clear c0 c1 c2 c3 c4 c5 cf h3 O3 nq w3;obtain⟨c0,c1,c2,c3,c4,c5,cf⟩:=h4.cell;have f1:=cf 1;go_wp2_with fail
      have h5:=h4.setI (p+1);obtain⟨b1,b2,b3,b4⟩:=HB.out;refine⟨⟨p+1,10*X+(s[p].toNat-48),by omega,by omega,HE.out,?_,by omega,congrArg (Value.int .i64) (by omega),h5,Onl.setCell O4.out _ h4⟩,?_⟩
      ·have:=HT.out;rw[if_pos HX.out]at this;exact this
      ·rw[HM.out,pos_set h4 p];omega
     ·have HX:Hid (¬X≤maxI):=hmx
      have hmx':(9007199254740991:Int)<(X:Int):=by unfold maxI at hmx;omega
      have HXb:Hid (X≤90071992547409919):=hX;clear hmx hX hfp hps hd1 hd2;go_wp2_with fail
      go_quiet ((go_at_call 36;exact Calls.quiet_of_same (hdg _)));have h3:=hrd.drewN nq;have O3:Hid (Onl bp w (wr.drewN nq)):=Onl.drewN HO.out nq;generalize wr.drewN nq=w3 at h3 O3;clear c0 c1 c2 c3 c4 c5 cf hrd HO nq hdg;obtain⟨c0,c1,c2,c3,c4,c5,cf⟩:=h3.cell;have f1:=cf 1;go_wp2_with fail
      have h5:=h3.setI (p+1);obtain⟨b1,b2,b3,b4⟩:=HB.out;refine⟨⟨p+1,X,by omega,by omega,HE.out,?_,HXb.out,rfl,h5,Onl.setCell O3.out _ h3⟩,?_⟩
      ·have:=HT.out;rw[if_neg HX.out]at this;exact this
      ·rw[HM.out,pos_set h3 p];omega
   | false=>
     rw[hd]at hdg;have hz:=nd_stop s p hlt2 hd;rw[hz]at hE hT;have hE:p=E:=by omega
     have hT:X=T:=hT;subst hE;subst hT;clear hd hz;have hfb:(fr:Int)≤140737488340000:=by have:=HFR.out.2;omega
     have hpb:(p:Int)≤140737488340000:=by omega
     have hXb:(X:Int)≤90071992547409919:=by omega
     by_cases hA:p=fr
     ·have hX0:X=0:=by
       obtain⟨⟨e1,e2⟩,e3⟩:=HFR.out;have hz:nd (sfx s fr)=0:=by omega
       rw[hz]at e2;exact e2.symm
      have HR:Hid (intL (sfx s i)=.error (2,0)):=by
       have:=HIL.out;rw[if_pos (by left;omega)]at this;exact this
      have hAi:((p:Int)==(fr:Int))=true:=by simp;omega
      subst hX0;clear hfp hps hX HIL HFR hA hXb;go_wp2_with fail
      go_quiet ((go_at_call 36;exact Calls.quiet_of_same (hdg _)));have h3:=hrd.drewN nq;have O3:Hid (Onl bp w (wr.drewN nq)):=Onl.drewN HO.out nq;generalize wr.drewN nq=w3 at h3 O3;clear c0 c1 c2 c3 c4 c5 cf hrd HO nq;obtain⟨c0,c1,c2,c3,c4,c5,cf⟩:=h3.cell;have hfa:=rfail0 bp s p vL at0 dp 2 fr _ h3;go_wp2_with fail
      refine hfa.mono ?_;rintro e w7 ⟨rfl,h7,o7⟩;have H7:Hid (RD bp s p vL 2 fr dp w7):=h7;have O7:Hid (Onl bp w w7):=Onl.trans O3.out o7;clear o7 hfa;go_wp2;go_ret;refine⟨?_,O7.out⟩;rw[HR.out];exact⟨⟨_,rfl⟩,p,by rw[HI.out];exact H7.out⟩
     ·have hAi:((p:Int)==(fr:Int))=false:=by simp;omega
      have hfs:fr<s.size:=by omega
      have hfs':(fr:Int)<(s.size:Int):=by omega
      by_cases hB:fr+1<p∧s[fr]=48
      ·have HR:Hid (intL (sfx s i)=.error (2,0)):=by
        have:=HIL.out;rw[if_pos (by right;exact⟨by omega,by rw[sfx_cons s fr hfs,hB.2];rfl⟩)]at this;exact this
       have hB1:(1:Int)<(p:Int)-(fr:Int):=by omega
       have hB2:((s[fr].toNat:Int)==48)=true:=by rw[hB.2];rfl
       by_cases hmx:X≤maxI
       ·have hmx':decide ((9007199254740991:Int)<(X:Int))=false:=by unfold maxI at hmx;simp;omega
        clear hfp hps hX HIL HFR hA hmx hB;go_wp2_with fail
        go_quiet ((go_at_call 36;exact Calls.quiet_of_same (hdg _)));have h3:=hrd.drewN nq;have O3:Hid (Onl bp w (wr.drewN nq)):=Onl.drewN HO.out nq;generalize wr.drewN nq=w3 at h3 O3;clear c0 c1 c2 c3 c4 c5 cf hrd HO nq;obtain⟨c0,c1,c2,c3,c4,c5,cf⟩:=h3.cell;have hfa:=rfail0 bp s p vL at0 dp 2 fr _ h3;go_wp2_with fail
        refine hfa.mono ?_;rintro e w7 ⟨rfl,h7,o7⟩;have H7:Hid (RD bp s p vL 2 fr dp w7):=h7;have O7:Hid (Onl bp w w7):=Onl.trans O3.out o7;clear o7 hfa;go_wp2;go_ret;refine⟨?_,O7.out⟩;rw[HR.out];exact⟨⟨_,rfl⟩,p,by rw[HI.out];exact H7.out⟩
       ·have hmx':(9007199254740991:Int)<(X:Int):=by unfold maxI at hmx;omega
        clear hfp hps hX HIL HFR hA hmx hB;go_wp2_with fail
        go_quiet ((go_at_call 36;exact Calls.quiet_of_same (hdg _)));have h3:=hrd.drewN nq;have O3:Hid (Onl bp w (wr.drewN nq)):=Onl.drewN HO.out nq;generalize wr.drewN nq=w3 at h3 O3;clear c0 c1 c2 c3 c4 c5 cf hrd HO nq;obtain⟨c0,c1,c2,c3,c4,c5,cf⟩:=h3.cell;have hfa:=rfail0 bp s p vL at0 dp 2 fr _ h3;go_wp2_with fail
        refine hfa.mono ?_;rintro e w7 ⟨rfl,h7,o7⟩;have H7:Hid (RD bp s p vL 2 fr dp w7):=h7;have O7:Hid (Onl bp w w7):=Onl.trans O3.out o7;clear o7 hfa;have hf2:Calls Tryz.prog 27 #[.pointer (some ⟨bp,0,none⟩),.int .i64 3,.int .i64 (i:Int)] w7 fun r w'=>r=.returned (.tuple #[])∧w'=w7:=rfail1 bp s p vL 2 fr dp 3 i w7 h7 (by omega)
        go_wp2_with fail
        refine hf2.mono ?_;rintro e w8 ⟨rfl,hw8⟩;rw[hw8];clear hw8 w8 hf2;go_wp2;go_ret;refine⟨?_,O7.out⟩;rw[HR.out];exact⟨⟨_,rfl⟩,p,by rw[HI.out];exact H7.out⟩
      ·have HNB:Hid (¬(p-fr=0∨(1<p-fr∧(sfx s fr).head?=some 48))):=by
        show ¬(p-fr=0∨(1<p-fr∧(sfx s fr).head?=some 48))
        rintro(h|⟨h,h'⟩)
        ·omega
        ·rw[sfx_cons s fr hfs]at h'
         exact hB ⟨by omega,by simpa using h'⟩
       have hBB:(decide ((1:Int)<(p:Int)-(fr:Int))=false)∨((1:Int)<(p:Int)-(fr:Int)∧((s[fr].toNat:Int)==48)=false):=by
        by_cases h1:fr+1<p
        ·right;exact⟨by omega,u8_ne (k:=48) (by omega) (fun e=>hB ⟨h1,e⟩)⟩
        ·left;simp;omega
       by_cases hmx:X≤maxI
       ·have HR:Hid (intL (sfx s i)=.ok ((X:Int),0+(p-fr))):=by
         have:=HIL.out;rw[if_neg HNB.out,if_neg (by omega)]at this;exact this
        have hmx':decide ((9007199254740991:Int)<(X:Int))=false:=by unfold maxI at hmx;simp;omega
        have HPF:Hid (fr≤p):=hfp;clear hfp hps hX HIL HFR hA hmx hB HNB;rcases hBB with hB1|⟨hB1,hB2⟩
        ·go_wp2_with fail
         go_quiet ((go_at_call 36;exact Calls.quiet_of_same (hdg _)));have h3:=hrd.drewN nq;have O3:Hid (Onl bp w (wr.drewN nq)):=Onl.drewN HO.out nq;generalize wr.drewN nq=w3 at h3 O3;clear c0 c1 c2 c3 c4 c5 cf hrd HO nq;obtain⟨c0,c1,c2,c3,c4,c5,cf⟩:=h3.cell;go_wp2;go_ret;refine⟨?_,O3.out⟩;rw[HR.out];refine⟨rfl,?_⟩;rw[show i+(0+(p-fr))=p by have:=HI.out;have:=HPF.out;omega];exact h3
        ·go_wp2_with fail
         go_quiet ((go_at_call 36;exact Calls.quiet_of_same (hdg _)));have h3:=hrd.drewN nq;have O3:Hid (Onl bp w (wr.drewN nq)):=Onl.drewN HO.out nq;generalize wr.drewN nq=w3 at h3 O3;clear c0 c1 c2 c3 c4 c5 cf hrd HO nq;obtain⟨c0,c1,c2,c3,c4,c5,cf⟩:=h3.cell;go_wp2;go_ret;refine⟨?_,O3.out⟩;rw[HR.out];refine⟨rfl,?_⟩;rw[show i+(0+(p-fr))=p by have:=HI.out;have:=HPF.out;omega];exact h3
       ·have HR:Hid (intL (sfx s i)=.error (3,0)):=by
         have:=HIL.out;rw[if_neg HNB.out,if_pos (by omega)]at this;exact this
        have hmx':(9007199254740991:Int)<(X:Int):=by unfold maxI at hmx;omega
        clear hfp hps hX HIL HFR hA hmx hB HNB;rcases hBB with hB1|⟨hB1,hB2⟩
        ·go_wp2_with fail
         go_quiet ((go_at_call 36;exact Calls.quiet_of_same (hdg _)));have h3:=hrd.drewN nq;have O3:Hid (Onl bp w (wr.drewN nq)):=Onl.drewN HO.out nq;generalize wr.drewN nq=w3 at h3 O3;clear c0 c1 c2 c3 c4 c5 cf hrd HO nq;obtain⟨c0,c1,c2,c3,c4,c5,cf⟩:=h3.cell;have hfa:Calls Tryz.prog 27 #[.pointer (some ⟨bp,0,none⟩),.int .i64 3,.int .i64 (i:Int)] w3 fun r w'=>r=.returned (.tuple #[])∧RD bp s p vL 3 i dp w'∧Onl bp w3 w':=rfail0 bp s p vL at0 dp 3 i _ h3
         go_wp2_with fail
         refine hfa.mono ?_;rintro e w7 ⟨rfl,h7,o7⟩;have H7:Hid (RD bp s p vL 3 i dp w7):=h7;have O7:Hid (Onl bp w w7):=Onl.trans O3.out o7;clear h7 o7 hfa;go_wp2;go_ret;refine⟨?_,O7.out⟩;rw[HR.out];exact⟨⟨_,rfl⟩,p,H7.out⟩
        ·go_wp2_with fail
         go_quiet ((go_at_call 36;exact Calls.quiet_of_same (hdg _)));have h3:=hrd.drewN nq;have O3:Hid (Onl bp w (wr.drewN nq)):=Onl.drewN HO.out nq;generalize wr.drewN nq=w3 at h3 O3;clear c0 c1 c2 c3 c4 c5 cf hrd HO nq;obtain⟨c0,c1,c2,c3,c4,c5,cf⟩:=h3.cell;have hfa:Calls Tryz.prog 27 #[.pointer (some ⟨bp,0,none⟩),.int .i64 3,.int .i64 (i:Int)] w3 fun r w'=>r=.returned (.tuple #[])∧RD bp s p vL 3 i dp w'∧Onl bp w3 w':=rfail0 bp s p vL at0 dp 3 i _ h3
         go_wp2_with fail
         refine hfa.mono ?_;rintro e w7 ⟨rfl,h7,o7⟩;have H7:Hid (RD bp s p vL 3 i dp w7):=h7;have O7:Hid (Onl bp w w7):=Onl.trans O3.out o7;clear h7 o7 hfa;go_wp2;go_ret;refine⟨?_,O7.out⟩;rw[HR.out];exact⟨⟨_,rfl⟩,p,H7.out⟩
  ·have hz:=nd_end s p (by omega)
   rw[hz]at hE hT;have hE:p=E:=by omega
   have hT:X=T:=hT;subst hE;subst hT;have hp1:(s.size:Int)≤(p:Int):=by omega
   have hp3:s.size≤p:=by omega
   clear hz;have hfb:(fr:Int)≤140737488340000:=by have:=HFR.out.2;omega
   have hpb:(p:Int)≤140737488340000:=by omega
   have hXb:(X:Int)≤90071992547409919:=by omega
   by_cases hA:p=fr
   ·have hX0:X=0:=by
     obtain⟨⟨e1,e2⟩,e3⟩:=HFR.out;have hz:nd (sfx s fr)=0:=by omega
     rw[hz]at e2;exact e2.symm
    have HR:Hid (intL (sfx s i)=.error (2,0)):=by
     have:=HIL.out;rw[if_pos (by left;omega)]at this;exact this
    have hAi:((p:Int)==(fr:Int))=true:=by simp;omega
    subst hX0;clear hfp hps hX HIL HFR hA hXb;go_wp2_with fail
    go_quiet (fail);have h3:=hrd.drewN nq;have O3:Hid (Onl bp w (wr.drewN nq)):=Onl.drewN HO.out nq;generalize wr.drewN nq=w3 at h3 O3;clear c0 c1 c2 c3 c4 c5 cf hrd HO nq;obtain⟨c0,c1,c2,c3,c4,c5,cf⟩:=h3.cell;have hfa:=rfail0 bp s p vL at0 dp 2 fr _ h3;go_wp2_with fail
    refine hfa.mono ?_;rintro e w7 ⟨rfl,h7,o7⟩;have H7:Hid (RD bp s p vL 2 fr dp w7):=h7;have O7:Hid (Onl bp w w7):=Onl.trans O3.out o7;clear o7 hfa;go_wp2;go_ret;refine⟨?_,O7.out⟩;rw[HR.out];exact⟨⟨_,rfl⟩,p,by rw[HI.out];exact H7.out⟩
   ·have hAi:((p:Int)==(fr:Int))=false:=by simp;omega
    have hfs:fr<s.size:=by omega
    have hfs':(fr:Int)<(s.size:Int):=by omega
    by_cases hB:fr+1<p∧s[fr]=48
    ·have HR:Hid (intL (sfx s i)=.error (2,0)):=by
      have:=HIL.out;rw[if_pos (by right;exact⟨by omega,by rw[sfx_cons s fr hfs,hB.2];rfl⟩)]at this;exact this
     have hB1:(1:Int)<(p:Int)-(fr:Int):=by omega
     have hB2:((s[fr].toNat:Int)==48)=true:=by rw[hB.2];rfl
     by_cases hmx:X≤maxI
     ·have hmx':decide ((9007199254740991:Int)<(X:Int))=false:=by unfold maxI at hmx;simp;omega
      clear hfp hps hX HIL HFR hA hmx hB;go_wp2_with fail
      go_quiet (fail);have h3:=hrd.drewN nq;have O3:Hid (Onl bp w (wr.drewN nq)):=Onl.drewN HO.out nq;generalize wr.drewN nq=w3 at h3 O3;clear c0 c1 c2 c3 c4 c5 cf hrd HO nq;obtain⟨c0,c1,c2,c3,c4,c5,cf⟩:=h3.cell;have hfa:=rfail0 bp s p vL at0 dp 2 fr _ h3;go_wp2_with fail
      refine hfa.mono ?_;rintro e w7 ⟨rfl,h7,o7⟩;have H7:Hid (RD bp s p vL 2 fr dp w7):=h7;have O7:Hid (Onl bp w w7):=Onl.trans O3.out o7;clear o7 hfa;go_wp2;go_ret;refine⟨?_,O7.out⟩;rw[HR.out];exact⟨⟨_,rfl⟩,p,by rw[HI.out];exact H7.out⟩
     ·have hmx':(9007199254740991:Int)<(X:Int):=by unfold maxI at hmx;omega
      clear hfp hps hX HIL HFR hA hmx hB;go_wp2_with fail
      go_quiet (fail);have h3:=hrd.drewN nq;have O3:Hid (Onl bp w (wr.drewN nq)):=Onl.drewN HO.out nq;generalize wr.drewN nq=w3 at h3 O3;clear c0 c1 c2 c3 c4 c5 cf hrd HO nq;obtain⟨c0,c1,c2,c3,c4,c5,cf⟩:=h3.cell;have hfa:=rfail0 bp s p vL at0 dp 2 fr _ h3;go_wp2_with fail
      refine hfa.mono ?_;rintro e w7 ⟨rfl,h7,o7⟩;have H7:Hid (RD bp s p vL 2 fr dp w7):=h7;have O7:Hid (Onl bp w w7):=Onl.trans O3.out o7;clear o7 hfa;have hf2:Calls Tryz.prog 27 #[.pointer (some ⟨bp,0,none⟩),.int .i64 3,.int .i64 (i:Int)] w7 fun r w'=>r=.returned (.tuple #[])∧w'=w7:=rfail1 bp s p vL 2 fr dp 3 i w7 h7 (by omega)
      go_wp2_with fail
      refine hf2.mono ?_;rintro e w8 ⟨rfl,hw8⟩;rw[hw8];clear hw8 w8 hf2;go_wp2;go_ret;refine⟨?_,O7.out⟩;rw[HR.out];exact⟨⟨_,rfl⟩,p,by rw[HI.out];exact H7.out⟩
    ·have HNB:Hid (¬(p-fr=0∨(1<p-fr∧(sfx s fr).head?=some 48))):=by
      show ¬(p-fr=0∨(1<p-fr∧(sfx s fr).head?=some 48))
      rintro(h|⟨h,h'⟩)
      ·omega
      ·rw[sfx_cons s fr hfs]at h'
       exact hB ⟨by omega,by simpa using h'⟩
     have hBB:(decide ((1:Int)<(p:Int)-(fr:Int))=false)∨((1:Int)<(p:Int)-(fr:Int)∧((s[fr].toNat:Int)==48)=false):=by
      by_cases h1:fr+1<p
      ·right;exact⟨by omega,u8_ne (k:=48) (by omega) (fun e=>hB ⟨h1,e⟩)⟩
      ·left;simp;omega
     by_cases hmx:X≤maxI
     ·have HR:Hid (intL (sfx s i)=.ok ((X:Int),0+(p-fr))):=by
       have:=HIL.out;rw[if_neg HNB.out,if_neg (by omega)]at this;exact this
      have hmx':decide ((9007199254740991:Int)<(X:Int))=false:=by unfold maxI at hmx;simp;omega
      have HPF:Hid (fr≤p):=hfp;clear hfp hps hX HIL HFR hA hmx hB HNB;rcases hBB with hB1|⟨hB1,hB2⟩
      ·go_wp2_with fail
       go_quiet (fail);have h3:=hrd.drewN nq;have O3:Hid (Onl bp w (wr.drewN nq)):=Onl.drewN HO.out nq;generalize wr.drewN nq=w3 at h3 O3;clear c0 c1 c2 c3 c4 c5 cf hrd HO nq;obtain⟨c0,c1,c2,c3,c4,c5,cf⟩:=h3.cell;go_wp2;go_ret;refine⟨?_,O3.out⟩;rw[HR.out];refine⟨rfl,?_⟩;rw[show i+(0+(p-fr))=p by have:=HI.out;have:=HPF.out;omega];exact h3
      ·go_wp2_with fail
       go_quiet (fail);have h3:=hrd.drewN nq;have O3:Hid (Onl bp w (wr.drewN nq)):=Onl.drewN HO.out nq;generalize wr.drewN nq=w3 at h3 O3;clear c0 c1 c2 c3 c4 c5 cf hrd HO nq;obtain⟨c0,c1,c2,c3,c4,c5,cf⟩:=h3.cell;go_wp2;go_ret;refine⟨?_,O3.out⟩;rw[HR.out];refine⟨rfl,?_⟩;rw[show i+(0+(p-fr))=p by have:=HI.out;have:=HPF.out;omega];exact h3
     ·have HR:Hid (intL (sfx s i)=.error (3,0)):=by
       have:=HIL.out;rw[if_neg HNB.out,if_pos (by omega)]at this;exact this
      have hmx':(9007199254740991:Int)<(X:Int):=by unfold maxI at hmx;omega
      clear hfp hps hX HIL HFR hA hmx hB HNB;rcases hBB with hB1|⟨hB1,hB2⟩
      ·go_wp2_with fail
       go_quiet (fail);have h3:=hrd.drewN nq;have O3:Hid (Onl bp w (wr.drewN nq)):=Onl.drewN HO.out nq;generalize wr.drewN nq=w3 at h3 O3;clear c0 c1 c2 c3 c4 c5 cf hrd HO nq;obtain⟨c0,c1,c2,c3,c4,c5,cf⟩:=h3.cell;have hfa:Calls Tryz.prog 27 #[.pointer (some ⟨bp,0,none⟩),.int .i64 3,.int .i64 (i:Int)] w3 fun r w'=>r=.returned (.tuple #[])∧RD bp s p vL 3 i dp w'∧Onl bp w3 w':=rfail0 bp s p vL at0 dp 3 i _ h3
       go_wp2_with fail
       refine hfa.mono ?_;rintro e w7 ⟨rfl,h7,o7⟩;have H7:Hid (RD bp s p vL 3 i dp w7):=h7;have O7:Hid (Onl bp w w7):=Onl.trans O3.out o7;clear h7 o7 hfa;go_wp2;go_ret;refine⟨?_,O7.out⟩;rw[HR.out];exact⟨⟨_,rfl⟩,p,H7.out⟩
      ·go_wp2_with fail
       go_quiet (fail);have h3:=hrd.drewN nq;have O3:Hid (Onl bp w (wr.drewN nq)):=Onl.drewN HO.out nq;generalize wr.drewN nq=w3 at h3 O3;clear c0 c1 c2 c3 c4 c5 cf hrd HO nq;obtain⟨c0,c1,c2,c3,c4,c5,cf⟩:=h3.cell;have hfa:Calls Tryz.prog 27 #[.pointer (some ⟨bp,0,none⟩),.int .i64 3,.int .i64 (i:Int)] w3 fun r w'=>r=.returned (.tuple #[])∧RD bp s p vL 3 i dp w'∧Onl bp w3 w':=rfail0 bp s p vL at0 dp 3 i _ h3
       go_wp2_with fail
       refine hfa.mono ?_;rintro e w7 ⟨rfl,h7,o7⟩;have H7:Hid (RD bp s p vL 3 i dp w7):=h7;have O7:Hid (Onl bp w w7):=Onl.trans O3.out o7;clear h7 o7 hfa;go_wp2;go_ret;refine⟨?_,O7.out⟩;rw[HR.out];exact⟨⟨_,rfl⟩,p,H7.out⟩
end
section
variable (bp:Nat) (s:ByteArray) (i:Nat) (vL:Value) (at0 dp:Nat) (w:World)
theorem rint1(hs:s.size≤140737488340000)(h:RD bp s i vL 0 at0 dp w)(hi:i<s.size)(hm:s[i]=45)(fr E T:Nat)(hfr:i+1=fr)(hE:fr+nd (sfx s fr)=E)(hT:accN 0 ((sfx s fr).take (nd (sfx s fr)))=T):Calls Tryz.prog 37 #[.pointer (some ⟨bp,0,none⟩)] w fun r w'=>IP bp s i vL at0 dp (intL (sfx s i)) r w'∧Onl bp w w':=by
 have hr:Calls Tryz.prog 33 #[.pointer (some ⟨bp,0,none⟩),.int .u8 45] w fun r w''=>r=.returned (.bool true)∧RD bp s i vL 0 at0 dp w''∧Onl bp w w'':=by
  have hb:isAt 0 (sfx s i) 45=true:=isAt_yes (by rw[sfx_cons s i hi,hm];rfl);exact hb▸(ris bp s i vL 0 at0 dp 45 w h).mono fun e w'' ⟨he,n,hw⟩=>⟨he,hw▸h.drewN n,hw▸(onl_refl bp w).drewN n⟩
 have HFR:Hid ((fr+nd (sfx s fr)=E∧accN 0 ((sfx s fr).take (nd (sfx s fr)))=T)∧fr≤s.size):=⟨⟨hE,hT⟩,by omega⟩;obtain⟨c0,c1,c2,c3,c4,c5,cf⟩:=h.cell;have HI:Hid (i+1=fr):=hfr;have HIL:Hid (intL (sfx s i)=if E-fr=0∨(1<E-fr∧(sfx s fr).head?=some 48)then .error (2,1)else if maxI<T then .error (3,0)else .ok (-(T:Int),1+(E-fr))):=by
  have hk:E-fr=nd (sfx s fr):=by omega
  rw[hk,←hT,←hfr];exact intL_minus (by rw[sfx_cons s i hi,hm])
 have hfi:(i:Int)+1=(fr:Int):=by omega
 have hib:(i:Int)≤140737488340000:=by omega
 clear hE hT hfr;go_enter Tryz.func37,Tryz.ntmps37;go_wp2_with fail
 refine hr.mono ?_;rintro e w2 ⟨rfl,h2,o2⟩;have O1:Hid (Onl bp w w2):=o2;clear c0 c1 c2 c3 c4 c5 cf h hr o2;obtain⟨c0,c1,c2,c3,c4,c5,cf⟩:=h2.cell;have f1:=cf 1;have h2b:=h2.setI fr;have o2b:Onl bp w (w2.setCell ⟨bp,1,none⟩ (.int .i64 (fr:Int))):=Onl.setCell O1.out _ h2;have c1b:=h2b.cell.2.1;go_wp2_with fail
 generalize w2.setCell ⟨bp,1,none⟩ (.int .i64 (fr:Int))=w2b at h2b o2b c1b;have H2:Hid (RD bp s fr vL 0 at0 dp w2b):=h2b;have O2:Hid (Onl bp w w2b):=o2b;clear c0 c1 c2 c3 c4 c5 cf h2 h2b o2b c1b O1 f1 hfi;go_loopw [6] (fun v wr=>II bp s vL at0 dp w fr E T v wr) (fun _ wr=>s.size-posOf (wr.cell? ⟨bp,1,none⟩))
 case atStart=>exact⟨fr,0,Nat.le_refl _,HFR.out.2,HFR.out.1.1,HFR.out.1.2,by omega,rfl,H2.out,O2.out⟩
 case round=>
  clear H2 O2;obtain⟨p,X,hfp,hps,hE,hT,hX,rfl,hrd,ho⟩:=hrel;have HO:Hid (Onl bp w wr):=ho;have HM:Hid (posOf (wr.cell? ⟨bp,1,none⟩)=p):=pos_rd hrd;obtain⟨c0,c1,c2,c3,c4,c5,cf⟩:=hrd.cell;clear ho;by_cases hlt2:p<s.size
  ·have hp1:(p:Int)<(s.size:Int):=by omega
   have hdg:=rdigit s[p];cases hd:isD s[p]with
   | true=>
     rw[hd]at hdg;obtain⟨hd1,hd2⟩:=(isD_iff _).1 hd;have HE:Hid (p+1+nd (sfx s (p+1))=E):=by rw[nd_cons s p hlt2 hd]at hE;show p+1+nd (sfx s (p+1))=E;omega
     have HT:Hid (accN (if X≤maxI then 10*X+(s[p].toNat-48)else X) ((sfx s (p+1)).take (nd (sfx s (p+1))))=T):=by rw[acc_cons s p X hlt2 hd]at hT;exact hT
     clear hE hT hd;have HB:Hid (fr≤p∧p<s.size∧48≤s[p].toNat∧s[p].toNat≤57):=⟨hfp,hlt2,hd1,hd2⟩;have hd1':(48:Int)≤(s[p].toNat:Int):=by omega
     have hd2':(s[p].toNat:Int)≤57:=by omega
     have hpb:(p:Int)≤140737488340000:=by omega
     have hX':(X:Int)≤90071992547409919:=by omega
     by_cases hmx:X≤maxI
     ·have HX:Hid (X≤maxI):=hmx
      have hmx':(X:Int)≤9007199254740991:=by unfold maxI at hmx;omega
      clear hmx hX hfp hps hd1 hd2;go_wp2_with fail
      go_quiet ((go_at_call 36;exact Calls.quiet_of_same (hdg _)));have h3:=hrd.drewN nq;have O3:Hid (Onl bp w (wr.drewN nq)):=Onl.drewN HO.out nq;generalize wr.drewN nq=w3 at h3 O3;clear c0 c1 c2 c3 c4 c5 cf hrd HO nq hdg;obtain⟨c0,c1,c2,c3,c4,c5,cf⟩:=h3.cell;go_wp2_with fail
      go_quiet (fail);have h4:=h3.drewN nq;have O4:Hid (Onl bp w (w3.drewN nq)):=Onl.drewN O3.out nq;generalize w3.drewN nq=w4 at h4 O4;clear c0 c1 c2 c3 c4 c5 cf h3 O3 nq w3;obtain⟨c0,c1,c2,c3,c4,c5,cf⟩:=h4.cell;have f1:=cf 1;go_wp2_with fail
      have h5:=h4.setI (p+1);obtain⟨b1,b2,b3,b4⟩:=HB.out;refine⟨⟨p+1,10*X+(s[p].toNat-48),by omega,by omega,HE.out,?_,by omega,congrArg (Value.int .i64) (by omega),h5,Onl.setCell O4.out _ h4⟩,?_⟩
      ·have:=HT.out;rw[if_pos HX.out]at this;exact this
      ·rw[HM.out,pos_set h4 p];omega
     ·have HX:Hid (¬X≤maxI):=hmx
      have hmx':(9007199254740991:Int)<(X:Int):=by unfold maxI at hmx;omega
      have HXb:Hid (X≤90071992547409919):=hX;clear hmx hX hfp hps hd1 hd2;go_wp2_with fail
      go_quiet ((go_at_call 36;exact Calls.quiet_of_same (hdg _)));have h3:=hrd.drewN nq;have O3:Hid (Onl bp w (wr.drewN nq)):=Onl.drewN HO.out nq;generalize wr.drewN nq=w3 at h3 O3;clear c0 c1 c2 c3 c4 c5 cf hrd HO nq hdg;obtain⟨c0,c1,c2,c3,c4,c5,cf⟩:=h3.cell;have f1:=cf 1;go_wp2_with fail
      have h5:=h3.setI (p+1);obtain⟨b1,b2,b3,b4⟩:=HB.out;refine⟨⟨p+1,X,by omega,by omega,HE.out,?_,HXb.out,rfl,h5,Onl.setCell O3.out _ h3⟩,?_⟩
      ·have:=HT.out;rw[if_neg HX.out]at this;exact this
      ·rw[HM.out,pos_set h3 p];omega
   | false=>
     rw[hd]at hdg;have hz:=nd_stop s p hlt2 hd;rw[hz]at hE hT;have hE:p=E:=by omega
     have hT:X=T:=hT;subst hE;subst hT;clear hd hz;have hfb:(fr:Int)≤140737488340000:=by have:=HFR.out.2;omega
     have hpb:(p:Int)≤140737488340000:=by omega
     have hXb:(X:Int)≤90071992547409919:=by omega
     by_cases hA:p=fr
     ·have hX0:X=0:=by
       obtain⟨⟨e1,e2⟩,e3⟩:=HFR.out;have hz:nd (sfx s fr)=0:=by omega
       rw[hz]at e2;exact e2.symm
      have HR:Hid (intL (sfx s i)=.error (2,1)):=by
       have:=HIL.out;rw[if_pos (by left;omega)]at this;exact this
      have hAi:((p:Int)==(fr:Int))=true:=by simp;omega
      subst hX0;clear hfp hps hX HIL HFR hA hXb;go_wp2_with fail
      go_quiet ((go_at_call 36;exact Calls.quiet_of_same (hdg _)));have h3:=hrd.drewN nq;have O3:Hid (Onl bp w (wr.drewN nq)):=Onl.drewN HO.out nq;generalize wr.drewN nq=w3 at h3 O3;clear c0 c1 c2 c3 c4 c5 cf hrd HO nq;obtain⟨c0,c1,c2,c3,c4,c5,cf⟩:=h3.cell;have hfa:=rfail0 bp s p vL at0 dp 2 fr _ h3;go_wp2_with fail
      refine hfa.mono ?_;rintro e w7 ⟨rfl,h7,o7⟩;have H7:Hid (RD bp s p vL 2 fr dp w7):=h7;have O7:Hid (Onl bp w w7):=Onl.trans O3.out o7;clear o7 hfa;go_wp2;go_ret;refine⟨?_,O7.out⟩;rw[HR.out];exact⟨⟨_,rfl⟩,p,by rw[HI.out];exact H7.out⟩
     ·have hAi:((p:Int)==(fr:Int))=false:=by simp;omega
      have hfs:fr<s.size:=by omega
      have hfs':(fr:Int)<(s.size:Int):=by omega
      by_cases hB:fr+1<p∧s[fr]=48
      ·have HR:Hid (intL (sfx s i)=.error (2,1)):=by
        have:=HIL.out;rw[if_pos (by right;exact⟨by omega,by rw[sfx_cons s fr hfs,hB.2];rfl⟩)]at this;exact this
       have hB1:(1:Int)<(p:Int)-(fr:Int):=by omega
       have hB2:((s[fr].toNat:Int)==48)=true:=by rw[hB.2];rfl
       by_cases hmx:X≤maxI
       ·have hmx':decide ((9007199254740991:Int)<(X:Int))=false:=by unfold maxI at hmx;simp;omega
        clear hfp hps hX HIL HFR hA hmx hB;go_wp2_with fail
        go_quiet ((go_at_call 36;exact Calls.quiet_of_same (hdg _)));have h3:=hrd.drewN nq;have O3:Hid (Onl bp w (wr.drewN nq)):=Onl.drewN HO.out nq;generalize wr.drewN nq=w3 at h3 O3;clear c0 c1 c2 c3 c4 c5 cf hrd HO nq;obtain⟨c0,c1,c2,c3,c4,c5,cf⟩:=h3.cell;have hfa:=rfail0 bp s p vL at0 dp 2 fr _ h3;go_wp2_with fail
        refine hfa.mono ?_;rintro e w7 ⟨rfl,h7,o7⟩;have H7:Hid (RD bp s p vL 2 fr dp w7):=h7;have O7:Hid (Onl bp w w7):=Onl.trans O3.out o7;clear o7 hfa;go_wp2;go_ret;refine⟨?_,O7.out⟩;rw[HR.out];exact⟨⟨_,rfl⟩,p,by rw[HI.out];exact H7.out⟩
       ·have hmx':(9007199254740991:Int)<(X:Int):=by unfold maxI at hmx;omega
        clear hfp hps hX HIL HFR hA hmx hB;go_wp2_with fail
        go_quiet ((go_at_call 36;exact Calls.quiet_of_same (hdg _)));have h3:=hrd.drewN nq;have O3:Hid (Onl bp w (wr.drewN nq)):=Onl.drewN HO.out nq;generalize wr.drewN nq=w3 at h3 O3;clear c0 c1 c2 c3 c4 c5 cf hrd HO nq;obtain⟨c0,c1,c2,c3,c4,c5,cf⟩:=h3.cell;have hfa:=rfail0 bp s p vL at0 dp 2 fr _ h3;go_wp2_with fail
        refine hfa.mono ?_;rintro e w7 ⟨rfl,h7,o7⟩;have H7:Hid (RD bp s p vL 2 fr dp w7):=h7;have O7:Hid (Onl bp w w7):=Onl.trans O3.out o7;clear o7 hfa;have hf2:Calls Tryz.prog 27 #[.pointer (some ⟨bp,0,none⟩),.int .i64 3,.int .i64 (i:Int)] w7 fun r w'=>r=.returned (.tuple #[])∧w'=w7:=rfail1 bp s p vL 2 fr dp 3 i w7 h7 (by omega)
        go_wp2_with fail
        refine hf2.mono ?_;rintro e w8 ⟨rfl,hw8⟩;rw[hw8];clear hw8 w8 hf2;go_wp2;go_ret;refine⟨?_,O7.out⟩;rw[HR.out];exact⟨⟨_,rfl⟩,p,by rw[HI.out];exact H7.out⟩
      ·have HNB:Hid (¬(p-fr=0∨(1<p-fr∧(sfx s fr).head?=some 48))):=by
        show ¬(p-fr=0∨(1<p-fr∧(sfx s fr).head?=some 48))
        rintro(h|⟨h,h'⟩)
        ·omega
        ·rw[sfx_cons s fr hfs]at h'
         exact hB ⟨by omega,by simpa using h'⟩
       have hBB:(decide ((1:Int)<(p:Int)-(fr:Int))=false)∨((1:Int)<(p:Int)-(fr:Int)∧((s[fr].toNat:Int)==48)=false):=by
        by_cases h1:fr+1<p
        ·right;exact⟨by omega,u8_ne (k:=48) (by omega) (fun e=>hB ⟨h1,e⟩)⟩
        ·left;simp;omega
       by_cases hmx:X≤maxI
       ·have HR:Hid (intL (sfx s i)=.ok (-(X:Int),1+(p-fr))):=by
         have:=HIL.out;rw[if_neg HNB.out,if_neg (by omega)]at this;exact this
        have hmx':decide ((9007199254740991:Int)<(X:Int))=false:=by unfold maxI at hmx;simp;omega
        have HPF:Hid (fr≤p):=hfp;clear hfp hps hX HIL HFR hA hmx hB HNB;rcases hBB with hB1|⟨hB1,hB2⟩
        ·go_wp2_with fail
         go_quiet ((go_at_call 36;exact Calls.quiet_of_same (hdg _)));have h3:=hrd.drewN nq;have O3:Hid (Onl bp w (wr.drewN nq)):=Onl.drewN HO.out nq;generalize wr.drewN nq=w3 at h3 O3;clear c0 c1 c2 c3 c4 c5 cf hrd HO nq;obtain⟨c0,c1,c2,c3,c4,c5,cf⟩:=h3.cell;go_wp2;go_ret;refine⟨?_,O3.out⟩;rw[HR.out];refine⟨rfl,?_⟩;rw[show i+(1+(p-fr))=p by have:=HI.out;have:=HPF.out;omega];exact h3
        ·go_wp2_with fail
         go_quiet ((go_at_call 36;exact Calls.quiet_of_same (hdg _)));have h3:=hrd.drewN nq;have O3:Hid (Onl bp w (wr.drewN nq)):=Onl.drewN HO.out nq;generalize wr.drewN nq=w3 at h3 O3;clear c0 c1 c2 c3 c4 c5 cf hrd HO nq;obtain⟨c0,c1,c2,c3,c4,c5,cf⟩:=h3.cell;go_wp2;go_ret;refine⟨?_,O3.out⟩;rw[HR.out];refine⟨rfl,?_⟩;rw[show i+(1+(p-fr))=p by have:=HI.out;have:=HPF.out;omega];exact h3
       ·have HR:Hid (intL (sfx s i)=.error (3,0)):=by
         have:=HIL.out;rw[if_neg HNB.out,if_pos (by omega)]at this;exact this
        have hmx':(9007199254740991:Int)<(X:Int):=by unfold maxI at hmx;omega
        clear hfp hps hX HIL HFR hA hmx hB HNB;rcases hBB with hB1|⟨hB1,hB2⟩
        ·go_wp2_with fail
         go_quiet ((go_at_call 36;exact Calls.quiet_of_same (hdg _)));have h3:=hrd.drewN nq;have O3:Hid (Onl bp w (wr.drewN nq)):=Onl.drewN HO.out nq;generalize wr.drewN nq=w3 at h3 O3;clear c0 c1 c2 c3 c4 c5 cf hrd HO nq;obtain⟨c0,c1,c2,c3,c4,c5,cf⟩:=h3.cell;have hfa:Calls Tryz.prog 27 #[.pointer (some ⟨bp,0,none⟩),.int .i64 3,.int .i64 (i:Int)] w3 fun r w'=>r=.returned (.tuple #[])∧RD bp s p vL 3 i dp w'∧Onl bp w3 w':=rfail0 bp s p vL at0 dp 3 i _ h3
         go_wp2_with fail
         refine hfa.mono ?_;rintro e w7 ⟨rfl,h7,o7⟩;have H7:Hid (RD bp s p vL 3 i dp w7):=h7;have O7:Hid (Onl bp w w7):=Onl.trans O3.out o7;clear h7 o7 hfa;go_wp2;go_ret;refine⟨?_,O7.out⟩;rw[HR.out];exact⟨⟨_,rfl⟩,p,H7.out⟩
        ·go_wp2_with fail
         go_quiet ((go_at_call 36;exact Calls.quiet_of_same (hdg _)));have h3:=hrd.drewN nq;have O3:Hid (Onl bp w (wr.drewN nq)):=Onl.drewN HO.out nq;generalize wr.drewN nq=w3 at h3 O3;clear c0 c1 c2 c3 c4 c5 cf hrd HO nq;obtain⟨c0,c1,c2,c3,c4,c5,cf⟩:=h3.cell;have hfa:Calls Tryz.prog 27 #[.pointer (some ⟨bp,0,none⟩),.int .i64 3,.int .i64 (i:Int)] w3 fun r w'=>r=.returned (.tuple #[])∧RD bp s p vL 3 i dp w'∧Onl bp w3 w':=rfail0 bp s p vL at0 dp 3 i _ h3
         go_wp2_with fail
         refine hfa.mono ?_;rintro e w7 ⟨rfl,h7,o7⟩;have H7:Hid (RD bp s p vL 3 i dp w7):=h7;have O7:Hid (Onl bp w w7):=Onl.trans O3.out o7;clear h7 o7 hfa;go_wp2;go_ret;refine⟨?_,O7.out⟩;rw[HR.out];exact⟨⟨_,rfl⟩,p,H7.out⟩
  ·have hz:=nd_end s p (by omega)
   rw[hz]at hE hT;have hE:p=E:=by omega
   have hT:X=T:=hT;subst hE;subst hT;have hp1:(s.size:Int)≤(p:Int):=by omega
   have hp3:s.size≤p:=by omega
   clear hz;have hfb:(fr:Int)≤140737488340000:=by have:=HFR.out.2;omega
   have hpb:(p:Int)≤140737488340000:=by omega
   have hXb:(X:Int)≤90071992547409919:=by omega
   by_cases hA:p=fr
   ·have hX0:X=0:=by
     obtain⟨⟨e1,e2⟩,e3⟩:=HFR.out;have hz:nd (sfx s fr)=0:=by omega
     rw[hz]at e2;exact e2.symm
    have HR:Hid (intL (sfx s i)=.error (2,1)):=by
     have:=HIL.out;rw[if_pos (by left;omega)]at this;exact this
    have hAi:((p:Int)==(fr:Int))=true:=by simp;omega
    subst hX0;clear hfp hps hX HIL HFR hA hXb;go_wp2_with fail
    go_quiet (fail);have h3:=hrd.drewN nq;have O3:Hid (Onl bp w (wr.drewN nq)):=Onl.drewN HO.out nq;generalize wr.drewN nq=w3 at h3 O3;clear c0 c1 c2 c3 c4 c5 cf hrd HO nq;obtain⟨c0,c1,c2,c3,c4,c5,cf⟩:=h3.cell;have hfa:=rfail0 bp s p vL at0 dp 2 fr _ h3;go_wp2_with fail
    refine hfa.mono ?_;rintro e w7 ⟨rfl,h7,o7⟩;have H7:Hid (RD bp s p vL 2 fr dp w7):=h7;have O7:Hid (Onl bp w w7):=Onl.trans O3.out o7;clear o7 hfa;go_wp2;go_ret;refine⟨?_,O7.out⟩;rw[HR.out];exact⟨⟨_,rfl⟩,p,by rw[HI.out];exact H7.out⟩
   ·have hAi:((p:Int)==(fr:Int))=false:=by simp;omega
    have hfs:fr<s.size:=by omega
    have hfs':(fr:Int)<(s.size:Int):=by omega
    by_cases hB:fr+1<p∧s[fr]=48
    ·have HR:Hid (intL (sfx s i)=.error (2,1)):=by
      have:=HIL.out;rw[if_pos (by right;exact⟨by omega,by rw[sfx_cons s fr hfs,hB.2];rfl⟩)]at this;exact this
     have hB1:(1:Int)<(p:Int)-(fr:Int):=by omega
     have hB2:((s[fr].toNat:Int)==48)=true:=by rw[hB.2];rfl
     by_cases hmx:X≤maxI
     ·have hmx':decide ((9007199254740991:Int)<(X:Int))=false:=by unfold maxI at hmx;simp;omega
      clear hfp hps hX HIL HFR hA hmx hB;go_wp2_with fail
      go_quiet (fail);have h3:=hrd.drewN nq;have O3:Hid (Onl bp w (wr.drewN nq)):=Onl.drewN HO.out nq;generalize wr.drewN nq=w3 at h3 O3;clear c0 c1 c2 c3 c4 c5 cf hrd HO nq;obtain⟨c0,c1,c2,c3,c4,c5,cf⟩:=h3.cell;have hfa:=rfail0 bp s p vL at0 dp 2 fr _ h3;go_wp2_with fail
      refine hfa.mono ?_;rintro e w7 ⟨rfl,h7,o7⟩;have H7:Hid (RD bp s p vL 2 fr dp w7):=h7;have O7:Hid (Onl bp w w7):=Onl.trans O3.out o7;clear o7 hfa;go_wp2;go_ret;refine⟨?_,O7.out⟩;rw[HR.out];exact⟨⟨_,rfl⟩,p,by rw[HI.out];exact H7.out⟩
     ·have hmx':(9007199254740991:Int)<(X:Int):=by unfold maxI at hmx;omega
      clear hfp hps hX HIL HFR hA hmx hB;go_wp2_with fail
      go_quiet (fail);have h3:=hrd.drewN nq;have O3:Hid (Onl bp w (wr.drewN nq)):=Onl.drewN HO.out nq;generalize wr.drewN nq=w3 at h3 O3;clear c0 c1 c2 c3 c4 c5 cf hrd HO nq;obtain⟨c0,c1,c2,c3,c4,c5,cf⟩:=h3.cell;have hfa:=rfail0 bp s p vL at0 dp 2 fr _ h3;go_wp2_with fail
      refine hfa.mono ?_;rintro e w7 ⟨rfl,h7,o7⟩;have H7:Hid (RD bp s p vL 2 fr dp w7):=h7;have O7:Hid (Onl bp w w7):=Onl.trans O3.out o7;clear o7 hfa;have hf2:Calls Tryz.prog 27 #[.pointer (some ⟨bp,0,none⟩),.int .i64 3,.int .i64 (i:Int)] w7 fun r w'=>r=.returned (.tuple #[])∧w'=w7:=rfail1 bp s p vL 2 fr dp 3 i w7 h7 (by omega)
      go_wp2_with fail
      refine hf2.mono ?_;rintro e w8 ⟨rfl,hw8⟩;rw[hw8];clear hw8 w8 hf2;go_wp2;go_ret;refine⟨?_,O7.out⟩;rw[HR.out];exact⟨⟨_,rfl⟩,p,by rw[HI.out];exact H7.out⟩
    ·have HNB:Hid (¬(p-fr=0∨(1<p-fr∧(sfx s fr).head?=some 48))):=by
      show ¬(p-fr=0∨(1<p-fr∧(sfx s fr).head?=some 48))
      rintro(h|⟨h,h'⟩)
      ·omega
      ·rw[sfx_cons s fr hfs]at h'
       exact hB ⟨by omega,by simpa using h'⟩
     have hBB:(decide ((1:Int)<(p:Int)-(fr:Int))=false)∨((1:Int)<(p:Int)-(fr:Int)∧((s[fr].toNat:Int)==48)=false):=by
      by_cases h1:fr+1<p
      ·right;exact⟨by omega,u8_ne (k:=48) (by omega) (fun e=>hB ⟨h1,e⟩)⟩
      ·left;simp;omega
     by_cases hmx:X≤maxI
     ·have HR:Hid (intL (sfx s i)=.ok (-(X:Int),1+(p-fr))):=by
       have:=HIL.out;rw[if_neg HNB.out,if_neg (by omega)]at this;exact this
      have hmx':decide ((9007199254740991:Int)<(X:Int))=false:=by unfold maxI at hmx;simp;omega
      have HPF:Hid (fr≤p):=hfp;clear hfp hps hX HIL HFR hA hmx hB HNB;rcases hBB with hB1|⟨hB1,hB2⟩
      ·go_wp2_with fail
       go_quiet (fail);have h3:=hrd.drewN nq;have O3:Hid (Onl bp w (wr.drewN nq)):=Onl.drewN HO.out nq;generalize wr.drewN nq=w3 at h3 O3;clear c0 c1 c2 c3 c4 c5 cf hrd HO nq;obtain⟨c0,c1,c2,c3,c4,c5,cf⟩:=h3.cell;go_wp2;go_ret;refine⟨?_,O3.out⟩;rw[HR.out];refine⟨rfl,?_⟩;rw[show i+(1+(p-fr))=p by have:=HI.out;have:=HPF.out;omega];exact h3
      ·go_wp2_with fail
       go_quiet (fail);have h3:=hrd.drewN nq;have O3:Hid (Onl bp w (wr.drewN nq)):=Onl.drewN HO.out nq;generalize wr.drewN nq=w3 at h3 O3;clear c0 c1 c2 c3 c4 c5 cf hrd HO nq;obtain⟨c0,c1,c2,c3,c4,c5,cf⟩:=h3.cell;go_wp2;go_ret;refine⟨?_,O3.out⟩;rw[HR.out];refine⟨rfl,?_⟩;rw[show i+(1+(p-fr))=p by have:=HI.out;have:=HPF.out;omega];exact h3
     ·have HR:Hid (intL (sfx s i)=.error (3,0)):=by
       have:=HIL.out;rw[if_neg HNB.out,if_pos (by omega)]at this;exact this
      have hmx':(9007199254740991:Int)<(X:Int):=by unfold maxI at hmx;omega
      clear hfp hps hX HIL HFR hA hmx hB HNB;rcases hBB with hB1|⟨hB1,hB2⟩
      ·go_wp2_with fail
       go_quiet (fail);have h3:=hrd.drewN nq;have O3:Hid (Onl bp w (wr.drewN nq)):=Onl.drewN HO.out nq;generalize wr.drewN nq=w3 at h3 O3;clear c0 c1 c2 c3 c4 c5 cf hrd HO nq;obtain⟨c0,c1,c2,c3,c4,c5,cf⟩:=h3.cell;have hfa:Calls Tryz.prog 27 #[.pointer (some ⟨bp,0,none⟩),.int .i64 3,.int .i64 (i:Int)] w3 fun r w'=>r=.returned (.tuple #[])∧RD bp s p vL 3 i dp w'∧Onl bp w3 w':=rfail0 bp s p vL at0 dp 3 i _ h3
       go_wp2_with fail
       refine hfa.mono ?_;rintro e w7 ⟨rfl,h7,o7⟩;have H7:Hid (RD bp s p vL 3 i dp w7):=h7;have O7:Hid (Onl bp w w7):=Onl.trans O3.out o7;clear h7 o7 hfa;go_wp2;go_ret;refine⟨?_,O7.out⟩;rw[HR.out];exact⟨⟨_,rfl⟩,p,H7.out⟩
      ·go_wp2_with fail
       go_quiet (fail);have h3:=hrd.drewN nq;have O3:Hid (Onl bp w (wr.drewN nq)):=Onl.drewN HO.out nq;generalize wr.drewN nq=w3 at h3 O3;clear c0 c1 c2 c3 c4 c5 cf hrd HO nq;obtain⟨c0,c1,c2,c3,c4,c5,cf⟩:=h3.cell;have hfa:Calls Tryz.prog 27 #[.pointer (some ⟨bp,0,none⟩),.int .i64 3,.int .i64 (i:Int)] w3 fun r w'=>r=.returned (.tuple #[])∧RD bp s p vL 3 i dp w'∧Onl bp w3 w':=rfail0 bp s p vL at0 dp 3 i _ h3
       go_wp2_with fail
       refine hfa.mono ?_;rintro e w7 ⟨rfl,h7,o7⟩;have H7:Hid (RD bp s p vL 3 i dp w7):=h7;have O7:Hid (Onl bp w w7):=Onl.trans O3.out o7;clear h7 o7 hfa;go_wp2;go_ret;refine⟨?_,O7.out⟩;rw[HR.out];exact⟨⟨_,rfl⟩,p,H7.out⟩
theorem rinteger(hs:s.size≤140737488340000)(h:RD bp s i vL 0 at0 dp w)(hi:i<s.size):Calls Tryz.prog 37 #[.pointer (some ⟨bp,0,none⟩)] w fun r w'=>IP bp s i vL at0 dp (intL (sfx s i)) r w'∧Onl bp w w':=by
 by_cases hm:s[i]=45
 ·exact rint1 bp s i vL at0 dp w hs h hi hm (i+1) _ _ rfl rfl rfl
 ·exact rint0 bp s i vL at0 dp w hs h hi hm i _ _ rfl rfl rfl
end
theorem ndinfo:(Tryz.prog.info? 51).map (fun i=>(i.zero,i.size,i.bytes))=some (some (.agg #[.int .i64 0,.string ⟨#[]⟩,.string ⟨#[]⟩,.int .i64 0,.slice none 0 0,.int .i64 0]),6,80):=by kernel_rfl
theorem radd0(bp:Nat)(s:ByteArray)(i:Nat)(ad:Option Addr)(cap:Nat)(er at0 dp:Nat)(ns:List Nd)(nd:Nd)(w:World)(h:RD bp s i (.slice ad ns.length cap) er at0 dp w)(hN:Nodes (bp+1) 51 (.slice ad ns.length cap) ns w)(hk:nd.kids=[])(hl:ns.length≤900000000):Calls Tryz.prog 35 #[.pointer (some ⟨bp,0,none⟩),.int .i64 (-1),ndV nd] w fun r w'=>r=.returned (.int .i64 (ns.length:Int))∧(∃v',RD bp s i v' er at0 dp w'∧Nodes (bp+1) 51 v' (ns++[nd]) w')∧Below bp w w':=by
 obtain⟨i0,hi0,hz0,hz1,hz2⟩:=info_parts ndinfo;have HI:Hid _:=hi0;obtain⟨kvs,k1,k2,k3,k4⟩:=hN;have hlt:=h.lt;have hW:RD bp s i (.slice ad ns.length cap) er at0 dp (w.alloc (.cells #[.int .i64 (nd.kind:Int),.string ⟨nd.key.toArray⟩,.string ⟨nd.text.toArray⟩,.int .i64 nd.num,.slice none 0 0,.int .i64 (nd.at':Int)] 51)):=h.alloc _;obtain⟨c0,c1,c2,c3,c4,c5,cf⟩:=hW.cell;have f2:=cf 2;have HK1:Hid _:=k1;have HK2:Hid (w.ownsRow (bp+1) 51 6 (.slice ad ns.length cap) ns.length (rowN ns kvs)):=k2;have HK3:Hid (∀(k:Nat) (n:Nd) (kv:Value),ns[k]?=some n→kvs[k]?=some kv→w.ownsRow (bp+1) 3 1 kv n.kids.length (n.kids.map iV)):=k3;have HK4:Hid _:=k4;clear hi0 k1 k2 k3 k4;unfold ndV;go_enter Tryz.func35,Tryz.ntmps35;go_wp2_with fail
 have hbx:∀k u,[Value.int .i64 (nd.kind:Int),.string ⟨nd.key.toArray⟩,.string ⟨nd.text.toArray⟩,.int .i64 nd.num,.slice none 0 0,.int .i64 (nd.at':Int)][k]?=some u→(w.alloc (.cells #[.int .i64 (nd.kind:Int),.string ⟨nd.key.toArray⟩,.string ⟨nd.text.toArray⟩,.int .i64 nd.num,.slice none 0 0,.int .i64 (nd.at':Int)] 51)).cell? ⟨w.heap.size,k,none⟩=some u:=by
  intro k u hu;rw[cell_of_row _ _ k _ _ _ (heap_alloc_new w _)];simpa using hu
 have b0:=hbx 0 _ rfl;have b1:=hbx 1 _ rfl;have b2:=hbx 2 _ rfl;have b3:=hbx 3 _ rfl;have b4:=hbx 4 _ rfl;have b5:=hbx 5 _ rfl;have hbB:Below w.heap.size w (w.alloc (.cells #[.int .i64 (nd.kind:Int),.string ⟨nd.key.toArray⟩,.string ⟨nd.text.toArray⟩,.int .i64 nd.num,.slice none 0 0,.int .i64 (nd.at':Int)] 51)):=bal (brf w) _;have hsz:(w.alloc (.cells #[.int .i64 (nd.kind:Int),.string ⟨nd.key.toArray⟩,.string ⟨nd.text.toArray⟩,.int .i64 nd.num,.slice none 0 0,.int .i64 (nd.at':Int)] 51)).heap.size=w.heap.size+1:=by simp
 clear hbx;generalize w.alloc (.cells #[.int .i64 (nd.kind:Int),.string ⟨nd.key.toArray⟩,.string ⟨nd.text.toArray⟩,.int .i64 nd.num,.slice none 0 0,.int .i64 (nd.at':Int)] 51)=wb at *;have HBB:Hid (Below w.heap.size w wb):=hbB;have HSZ:Hid (wb.heap.size=w.heap.size+1):=hsz;have HW:Hid (RD bp s i (.slice ad ns.length cap) er at0 dp wb):=hW;have HKb:Hid (wb.ownsRow (bp+1) 51 6 (.slice ad ns.length cap) ns.length (rowN ns kvs)):=ownsRow_sub HK2.out (fun g _ hg=>hbB.block g hg);clear hbB hsz hW c0 c1 c3 c4 c5 cf;have hltb:bp<wb.heap.size:=HW.out.lt;have hfz1:∀o:Obj,(wb.alloc o).frozen? ⟨bp,2,none⟩=false:=fun o=>(HW.out.alloc o).cell.2.2.2.2.2.2 2
 have hfz2:∀o:Obj,(wb.alloc o).drew.frozen? ⟨bp,2,none⟩=false:=fun o=>(HW.out.alloc o).cell.2.2.2.2.2.2 2
 have HOw:Hid (∀o,((wb.alloc o).drew).ownsRow (bp+1) 51 6 (.slice ad ns.length cap) ns.length (rowN ns kvs)):=fun o=>HKb.out.alloc o
 have HBs:Hid (∀o,bp+1≤((wb.alloc o).drew).heap.size):=fun o=>by show _≤(wb.alloc o).heap.size;simp;omega
 have HOne:Hid (∀j u,(ndCells nd (.slice none 0 0))[j]?=some u→((wb.alloc (.cells #[.int .i64 (nd.kind:Int),.string ⟨nd.key.toArray⟩,.string ⟨nd.text.toArray⟩,.int .i64 nd.num,.slice none 0 0,.int .i64 (nd.at':Int)] 51)).drew).cell? ((⟨wb.heap.size,0,none⟩:Addr).add j)=some u):=by
  intro j u hu;have hadd:(⟨wb.heap.size,0,none⟩:Addr).add j=⟨wb.heap.size,j,none⟩:=by unfold Addr.add;split<;>simp_all
  rw[hadd];show(wb.alloc _).cell? _=_
  rw[cell_of_row _ _ j _ _ _ (heap_alloc_new wb _)];simpa [ndCells]using hu
 have HL:Hid (ns.length+1≤1000000000):=by show ns.length+1≤1000000000;omega
 have HLB:Hid (∀g c,(Value.slice ad ns.length cap).ownBlock=some g→g=c→bp+1≤c∧c<w.heap.size):=by
  intro g c hg hc;subst hc;rcases HK2.out.2 with⟨e,_⟩|⟨g',cap',cur,e,hb,hh,_⟩
  ·rw[e]at hg;simp[Value.ownBlock]at hg
  ·rw[e]at hg;simp[Value.ownBlock]at hg;subst hg;exact⟨hb,(Array.getElem?_eq_some_iff.1 hh).1⟩
 have HNE:Hid (some bp≠(Value.slice ad ns.length cap).ownBlock∧some w.heap.size≠(Value.slice ad ns.length cap).ownBlock∧w.heap.size<wb.heap.size):=by
  refine⟨fun e=>?_,fun e=>?_,by have:=HSZ.out;omega⟩
  ·have:=HLB.out bp bp e.symm rfl;omega
  ·have:=HLB.out w.heap.size _ e.symm rfl;omega
 have HS:Hid (∀o k,((wb.alloc o).drew).cell? ⟨bp,k,none⟩=wb.cell? ⟨bp,k,none⟩):=fun o k=>World.cell?_alloc_lt _ _ _ hltb
 have hal2:∀o:Obj,(wb.alloc o).cell? ⟨bp,2,none⟩=some (.slice ad ns.length cap):=fun o=>(World.cell?_alloc_lt _ _ _ hltb).trans c2
 go_region_law ((refine stepN rfl (.tmp 17) (.tmp 19) 46 rfl 51 i0 _ 6 80 Tryz.underlying46 HI.out hz0 hz1 hz2 rfl (by decide) (bp+1) _ ns.length (rowN ns kvs) (ndCells nd (.slice none 0 0)) ⟨wb.heap.size,0,none⟩ rfl rfl rfl (by intro u hu;simp[ndCells]at hu;rcases hu with rfl|rfl|rfl|rfl|rfl|rfl<;>rfl) HL.out (by omega) (by exact HOw.out _) (by exact HBs.out _) (by exact HOne.out) ?_;intro v6 w6 ho6 hg6;obtain⟨g6,cap6,rfl⟩:=ownsRow_shape ho6;have kA:=keepers hg6 hltb HNE.out.1;have kB:=keepers hg6 HNE.out.2.2 HNE.out.2.1;have s2:=(kA.2.1 2).trans c2;have s2f:=(kA.2.2 2).trans f2;have t0:=(kB.2.1 0).trans b0;have t1:=(kB.2.1 1).trans b1;have t2:=(kB.2.1 2).trans b2;have t3:=(kB.2.1 3).trans b3;have t4:=(kB.2.1 4).trans b4;have t5:=(kB.2.1 5).trans b5;have HR6:Hid (RD bp s i (.slice ad ns.length cap) er at0 dp w6):=kA.1.trans HW.out;clear kA kB;have W6:Hid _:=ho6;have G6:Hid _:=hg6;clear ho6 hg6))
 all_goals
  have h7:=HR6.out.setL (.slice (some ⟨g6,0,none⟩) (ns.length+1) cap6);have o7:Onl bp w6 (w6.setCell ⟨bp,2,none⟩ (.slice (some ⟨g6,0,none⟩) (ns.length+1) cap6)):=Onl.setCell (onl_refl bp w6) _ HR6.out;have hkp:∀g,g<w.heap.size→some g≠(Value.slice ad ns.length cap).ownBlock→w6.heap[g]?=w.heap[g]?:=fun g hg hne=>(keepers G6.out (by have:=HSZ.out;omega) hne).1.trans (HBB.out.block g hg)
  have hN7:Nodes (bp+1) 51 (.slice (some ⟨g6,0,none⟩) (ns.length+1) cap6) (ns++[nd]) (w6.setCell ⟨bp,2,none⟩ (.slice (some ⟨g6,0,none⟩) (ns.length+1) cap6)):=(Nodes.push HK1.out HK2.out HK3.out HK4.out W6.out hkp (by decide) hk).onl o7 (by omega);have hbl:Below bp w (w6.setCell ⟨bp,2,none⟩ (.slice (some ⟨g6,0,none⟩) (ns.length+1) cap6)):=by
   refine⟨o7.os.trans (G6.out.os.trans HBB.out.os),o7.tape.trans (G6.out.tape.trans HBB.out.tape),o7.output.trans (G6.out.output.trans HBB.out.output),?_,?_⟩
   ·have a1:=o7.size
    have a2:(wb.alloc _).heap.size≤w6.heap.size:=G6.out.size;have a3:=HSZ.out;simp at a2;omega
   ·intro k hk7
    have a2:(wb.alloc _).heap.size≤w6.heap.size:=G6.out.size;have a3:=HSZ.out;refine(o7.block k (by simp at a2;omega) (fun e=>by injection e with e;omega)).trans (hkp k (by omega) ?_);intro e;have:=HLB.out k k e.symm rfl;omega
  have H7:Hid _:=h7;have N7:Hid _:=hN7;have B7:Hid _:=hbl;clear h7 o7 hkp hN7 hbl HOw HBs HOne HL HLB HNE HS hal2 hfz1 hfz2 s2 s2f t0 t1 t2 t3 t4 t5 b0 b1 b2 b3 b4 b5 HR6 W6 G6 HKb HBB;generalize w6.setCell ⟨bp,2,none⟩ (.slice (some ⟨g6,0,none⟩) (ns.length+1) cap6)=w7 at H7 N7 B7;go_wp2;go_ret;exact⟨rfl,⟨_,H7.out,N7.out⟩,B7.out⟩
theorem radd1(bp:Nat)(s:ByteArray)(i:Nat)(ad:Option Addr)(cap:Nat)(er at0 dp:Nat)(ns:List Nd)(nd:Nd)(w:World)(h:RD bp s i (.slice ad ns.length cap) er at0 dp w)(hN:Nodes (bp+1) 51 (.slice ad ns.length cap) ns w)(hk:nd.kids=[])(hl:ns.length≤900000000)(u:Nat)(hu:u<ns.length)(hkl:∀n∈ns,n.kids.length≤900000000):Calls Tryz.prog 35 #[.pointer (some ⟨bp,0,none⟩),.int .i64 (u:Int),ndV nd] w fun r w'=>r=.returned (.int .i64 (ns.length:Int))∧(∃v',RD bp s i v' er at0 dp w'∧Nodes (bp+1) 51 v' (addKid ns (some u) ns.length++[nd]) w')∧Below bp w w':=by
 obtain⟨i0,hi0,hz0,hz1,hz2⟩:=info_parts ndinfo;have HI:Hid _:=hi0;obtain⟨kvs,k1,k2,k3,k4⟩:=hN;have hlt:=h.lt;have hW:RD bp s i (.slice ad ns.length cap) er at0 dp (w.alloc (.cells #[.int .i64 (nd.kind:Int),.string ⟨nd.key.toArray⟩,.string ⟨nd.text.toArray⟩,.int .i64 nd.num,.slice none 0 0,.int .i64 (nd.at':Int)] 51)):=h.alloc _;obtain⟨c0,c1,c2,c3,c4,c5,cf⟩:=hW.cell;have f2:=cf 2;have HK1:Hid _:=k1;have HK2:Hid (w.ownsRow (bp+1) 51 6 (.slice ad ns.length cap) ns.length (rowN ns kvs)):=k2;have HK3:Hid (∀(k:Nat) (n:Nd) (kv:Value),ns[k]?=some n→kvs[k]?=some kv→w.ownsRow (bp+1) 3 1 kv n.kids.length (n.kids.map iV)):=k3;have HK4:Hid _:=k4;clear hi0 k1 k2 k3 k4;unfold ndV;go_enter Tryz.func35,Tryz.ntmps35;go_upto_region 2 with fail
 go_cut [] (fun wx=>∃g6 cap6,RD bp s i (.slice (some ⟨g6,0,none⟩) (ns.length+1) cap6) er at0 dp wx∧Nodes (bp+1) 51 (.slice (some ⟨g6,0,none⟩) (ns.length+1) cap6) (ns++[nd]) wx∧Below bp w wx)
 case first=>
  have hbx:∀k u,[Value.int .i64 (nd.kind:Int),.string ⟨nd.key.toArray⟩,.string ⟨nd.text.toArray⟩,.int .i64 nd.num,.slice none 0 0,.int .i64 (nd.at':Int)][k]?=some u→(w.alloc (.cells #[.int .i64 (nd.kind:Int),.string ⟨nd.key.toArray⟩,.string ⟨nd.text.toArray⟩,.int .i64 nd.num,.slice none 0 0,.int .i64 (nd.at':Int)] 51)).cell? ⟨w.heap.size,k,none⟩=some u:=by
   intro k u hu;rw[cell_of_row _ _ k _ _ _ (heap_alloc_new w _)];simpa using hu
  have b0:=hbx 0 _ rfl;have b1:=hbx 1 _ rfl;have b2:=hbx 2 _ rfl;have b3:=hbx 3 _ rfl;have b4:=hbx 4 _ rfl;have b5:=hbx 5 _ rfl;have hbB:Below w.heap.size w (w.alloc (.cells #[.int .i64 (nd.kind:Int),.string ⟨nd.key.toArray⟩,.string ⟨nd.text.toArray⟩,.int .i64 nd.num,.slice none 0 0,.int .i64 (nd.at':Int)] 51)):=bal (brf w) _;have hsz:(w.alloc (.cells #[.int .i64 (nd.kind:Int),.string ⟨nd.key.toArray⟩,.string ⟨nd.text.toArray⟩,.int .i64 nd.num,.slice none 0 0,.int .i64 (nd.at':Int)] 51)).heap.size=w.heap.size+1:=by simp
  clear hbx;generalize w.alloc (.cells #[.int .i64 (nd.kind:Int),.string ⟨nd.key.toArray⟩,.string ⟨nd.text.toArray⟩,.int .i64 nd.num,.slice none 0 0,.int .i64 (nd.at':Int)] 51)=wb at *;have HBB:Hid (Below w.heap.size w wb):=hbB;have HSZ:Hid (wb.heap.size=w.heap.size+1):=hsz;have HW:Hid (RD bp s i (.slice ad ns.length cap) er at0 dp wb):=hW;have HKb:Hid (wb.ownsRow (bp+1) 51 6 (.slice ad ns.length cap) ns.length (rowN ns kvs)):=ownsRow_sub HK2.out (fun g _ hg=>hbB.block g hg);clear hbB hsz hW c0 c1 c3 c4 c5 cf;have hltb:bp<wb.heap.size:=HW.out.lt;have hfz1:∀o:Obj,(wb.alloc o).frozen? ⟨bp,2,none⟩=false:=fun o=>(HW.out.alloc o).cell.2.2.2.2.2.2 2
  have hfz2:∀o:Obj,(wb.alloc o).drew.frozen? ⟨bp,2,none⟩=false:=fun o=>(HW.out.alloc o).cell.2.2.2.2.2.2 2
  have HOw:Hid (∀o,((wb.alloc o).drew).ownsRow (bp+1) 51 6 (.slice ad ns.length cap) ns.length (rowN ns kvs)):=fun o=>HKb.out.alloc o
  have HBs:Hid (∀o,bp+1≤((wb.alloc o).drew).heap.size):=fun o=>by show _≤(wb.alloc o).heap.size;simp;omega
  have HOne:Hid (∀j u,(ndCells nd (.slice none 0 0))[j]?=some u→((wb.alloc (.cells #[.int .i64 (nd.kind:Int),.string ⟨nd.key.toArray⟩,.string ⟨nd.text.toArray⟩,.int .i64 nd.num,.slice none 0 0,.int .i64 (nd.at':Int)] 51)).drew).cell? ((⟨wb.heap.size,0,none⟩:Addr).add j)=some u):=by
   intro j u hu;have hadd:(⟨wb.heap.size,0,none⟩:Addr).add j=⟨wb.heap.size,j,none⟩:=by unfold Addr.add;split<;>simp_all
   rw[hadd];show(wb.alloc _).cell? _=_
   rw[cell_of_row _ _ j _ _ _ (heap_alloc_new wb _)];simpa [ndCells]using hu
  have HL:Hid (ns.length+1≤1000000000):=by show ns.length+1≤1000000000;omega
  have HLB:Hid (∀g c,(Value.slice ad ns.length cap).ownBlock=some g→g=c→bp+1≤c∧c<w.heap.size):=by
   intro g c hg hc;subst hc;rcases HK2.out.2 with⟨e,_⟩|⟨g',cap',cur,e,hb,hh,_⟩
   ·rw[e]at hg;simp[Value.ownBlock]at hg
   ·rw[e]at hg;simp[Value.ownBlock]at hg;subst hg;exact⟨hb,(Array.getElem?_eq_some_iff.1 hh).1⟩
  have HNE:Hid (some bp≠(Value.slice ad ns.length cap).ownBlock∧some w.heap.size≠(Value.slice ad ns.length cap).ownBlock∧w.heap.size<wb.heap.size):=by
   refine⟨fun e=>?_,fun e=>?_,by have:=HSZ.out;omega⟩
   ·have:=HLB.out bp bp e.symm rfl;omega
   ·have:=HLB.out w.heap.size _ e.symm rfl;omega
  have HS:Hid (∀o k,((wb.alloc o).drew).cell? ⟨bp,k,none⟩=wb.cell? ⟨bp,k,none⟩):=fun o k=>World.cell?_alloc_lt _ _ _ hltb
  have hal2:∀o:Obj,(wb.alloc o).cell? ⟨bp,2,none⟩=some (.slice ad ns.length cap):=fun o=>(World.cell?_alloc_lt _ _ _ hltb).trans c2
  go_region_law ((refine stepN rfl (.tmp 17) (.tmp 19) 46 rfl 51 i0 _ 6 80 Tryz.underlying46 HI.out hz0 hz1 hz2 rfl (by decide) (bp+1) _ ns.length (rowN ns kvs) (ndCells nd (.slice none 0 0)) ⟨wb.heap.size,0,none⟩ rfl rfl rfl (by intro u hu;simp[ndCells]at hu;rcases hu with rfl|rfl|rfl|rfl|rfl|rfl<;>rfl) HL.out (by omega) (by exact HOw.out _) (by exact HBs.out _) (by exact HOne.out) ?_;intro v6 w6 ho6 hg6;obtain⟨g6,cap6,rfl⟩:=ownsRow_shape ho6;have kA:=keepers hg6 hltb HNE.out.1;have kB:=keepers hg6 HNE.out.2.2 HNE.out.2.1;have s2:=(kA.2.1 2).trans c2;have s2f:=(kA.2.2 2).trans f2;have t0:=(kB.2.1 0).trans b0;have t1:=(kB.2.1 1).trans b1;have t2:=(kB.2.1 2).trans b2;have t3:=(kB.2.1 3).trans b3;have t4:=(kB.2.1 4).trans b4;have t5:=(kB.2.1 5).trans b5;have HR6:Hid (RD bp s i (.slice ad ns.length cap) er at0 dp w6):=kA.1.trans HW.out;clear kA kB;have W6:Hid _:=ho6;have G6:Hid _:=hg6;clear ho6 hg6))
  all_goals
   have h7:=HR6.out.setL (.slice (some ⟨g6,0,none⟩) (ns.length+1) cap6);have o7:Onl bp w6 (w6.setCell ⟨bp,2,none⟩ (.slice (some ⟨g6,0,none⟩) (ns.length+1) cap6)):=Onl.setCell (onl_refl bp w6) _ HR6.out;have hkp:∀g,g<w.heap.size→some g≠(Value.slice ad ns.length cap).ownBlock→w6.heap[g]?=w.heap[g]?:=fun g hg hne=>(keepers G6.out (by have:=HSZ.out;omega) hne).1.trans (HBB.out.block g hg)
   have hN7:Nodes (bp+1) 51 (.slice (some ⟨g6,0,none⟩) (ns.length+1) cap6) (ns++[nd]) (w6.setCell ⟨bp,2,none⟩ (.slice (some ⟨g6,0,none⟩) (ns.length+1) cap6)):=(Nodes.push HK1.out HK2.out HK3.out HK4.out W6.out hkp (by decide) hk).onl o7 (by omega);have hbl:Below bp w (w6.setCell ⟨bp,2,none⟩ (.slice (some ⟨g6,0,none⟩) (ns.length+1) cap6)):=by
    refine⟨o7.os.trans (G6.out.os.trans HBB.out.os),o7.tape.trans (G6.out.tape.trans HBB.out.tape),o7.output.trans (G6.out.output.trans HBB.out.output),?_,?_⟩
    ·have a1:=o7.size
     have a2:(wb.alloc _).heap.size≤w6.heap.size:=G6.out.size;have a3:=HSZ.out;simp at a2;omega
    ·intro k hk7
     have a2:(wb.alloc _).heap.size≤w6.heap.size:=G6.out.size;have a3:=HSZ.out;refine(o7.block k (by simp at a2;omega) (fun e=>by injection e with e;omega)).trans (hkp k (by omega) ?_);intro e;have:=HLB.out k k e.symm rfl;omega
   have HF:Hid _:=And.intro h7 (And.intro hN7 hbl);clear h7 o7 hkp hN7 hbl;go_wp2_with fail
   go_meet
   case rel=>exact⟨g6,cap6,HF.out⟩
 case rest=>
  obtain⟨g6,cap6,h7,hN7,hb7⟩:=hcut;obtain⟨c0,c1,c2,c3,c4,c5,cf⟩:=h7.cell;obtain⟨kv7,q1,q2,q3,q4⟩:=hN7;have hu2:u<(ns++[nd]).length:=by simp;omega
  obtain⟨n,hn⟩:∃n,(ns++[nd])[u]?=some n:=⟨_,List.getElem?_eq_getElem hu2⟩;obtain⟨kv,hkv⟩:∃kv,kv7[u]?=some kv:=⟨_,List.getElem?_eq_getElem (by omega)⟩;have hrow:=q3 u n kv hn hkv;obtain⟨adk,capk,hkf⟩:∃adk capk,kv=.slice adk n.kids.length capk:=by
   rcases hrow.2 with⟨a,b⟩|⟨g,c,cu,a,_⟩
   ·exact⟨none,0,by rw[a,b]⟩
   ·exact⟨_,_,a⟩
  subst hkf;have hcu:wc.cell? ⟨g6,u*6+4,none⟩=some (.slice adk n.kids.length capk):=by
   have:=q2.cells (g:=g6) rfl (u*6+4) _ (rowN_get _ _ u _ q1 hkv);have hadd:(⟨g6,0,none⟩:Addr).add (u*6+4)=⟨g6,u*6+4,none⟩:=by unfold Addr.add;split<;>simp_all
   rwa [hadd]at this
  have hgl:g6<wc.heap.size∧bp+1≤g6:=by have:=ownBlock_lt q2 (g:=g6) rfl;exact⟨this.2.1,this.1⟩
  have hfu:wc.frozen? ⟨g6,u*6+4,none⟩=false:=by
   obtain⟨_,_,cur,hc⟩:=ownBlock_lt q2 (g:=g6) rfl;simp[World.frozen?,hc]
  have HQ1:Hid _:=q1;have HQ2:Hid (wc.ownsRow (bp+1) 51 6 (.slice (some ⟨g6,0,none⟩) (ns.length+1) cap6) (ns++[nd]).length (rowN (ns++[nd]) kv7)):=q2;have HQ3:Hid _:=q3;have HQ4:Hid _:=q4;have HN:Hid _:=hn;have HKV:Hid _:=hkv;have HRO:Hid (wc.ownsRow (bp+1) 3 1 (.slice adk n.kids.length capk) n.kids.length (n.kids.map iV)):=hrow;have HRD:Hid (RD bp s i (.slice (some ⟨g6,0,none⟩) (ns.length+1) cap6) er at0 dp wc):=h7;have HB7:Hid (Below bp w wc):=hb7;have HGL:Hid (g6<wc.heap.size):=hgl.1;have hu1:(u:Int)<(ns.length:Int)+1:=by omega
  have hu0:decide ((0:Int)≤(u:Int))=true:=by simp
  clear q1 q2 q3 q4 hn hkv hrow hb7 hu2 HK1 HK2 HK3 HK4 h hk hlt HI;obtain⟨i1,hi1,hy0,hy1,hy2⟩:=info_parts intinfo;have HI1:Hid _:=hi1;have hltb:bp<wc.heap.size:=HRD.out.lt;have hal2:∀o:Obj,(wc.alloc o).cell? ⟨bp,2,none⟩=some (.slice (some ⟨g6,0,none⟩) (ns.length+1) cap6):=fun o=>(World.cell?_alloc_lt _ _ _ hltb).trans c2
  have hal3:∀o:Obj,(wc.alloc o).cell? ⟨g6,u*6+4,none⟩=some (.slice adk n.kids.length capk):=fun o=>(World.cell?_alloc_lt _ _ _ hgl.1).trans hcu
  have HOw:Hid (∀o,((wc.alloc o).drew).ownsRow (bp+1) 3 1 (.slice adk n.kids.length capk) n.kids.length (n.kids.map iV)):=fun o=>HRO.out.alloc o
  have HBs:Hid (∀o,bp+1≤((wc.alloc o).drew).heap.size):=fun o=>by show _≤(wc.alloc o).heap.size;simp;omega
  have HSs:Hid (∀o,((wc.alloc o).drew).heap.size=wc.heap.size+1):=fun o=>by show(wc.alloc o).heap.size=_;simp
  have HOne:Hid (∀j v,[iV ns.length][j]?=some v→((wc.alloc (.cells #[.int .i64 (ns.length:Int)] 3)).drew).cell? ((⟨wc.heap.size,0,none⟩:Addr).add j)=some v):=one_cell wc (iV ns.length) 3;have HL:Hid (n.kids.length+1≤1000000000):=by
   show n.kids.length+1≤1000000000
   have hmem:n∈ns:=by
    have hn2:=HN.out;rw[List.getElem?_append_left hu]at hn2;exact List.mem_of_getElem? hn2
   have:=hkl n hmem;omega
  have HNE:Hid (some bp≠(Value.slice adk n.kids.length capk).ownBlock∧some g6≠(Value.slice adk n.kids.length capk).ownBlock):=by
   refine⟨fun e=>?_,fun e=>?_⟩
   ·have:=(ownBlock_lt HRO.out e.symm).1;omega
   ·exact blocks_ne (by decide) HQ2.out HRO.out (g:=g6) rfl e.symm
  clear hi1 hgl;go_wp2_with fail
  go_region_law ((refine stepK rfl (.tmp 37) (.tmp 39) 49 rfl 3 i1 Tryz.underlying49 HI1.out hy0 hy1 hy2 (bp+1) _ n.kids.length (n.kids.map iV) ns.length ⟨wc.heap.size,0,none⟩ (wc.heap.size+1) rfl rfl HL.out (by exact HOw.out _) (by exact HBs.out _) (by exact HSs.out _) (by exact HOne.out) ?_;intro g8 cap8 w8 ho8 hg8 hgg8;have kA:=keepers hg8 hltb HNE.out.1;have kB:=keepers hg8 HGL.out HNE.out.2;have s2:=(kA.2.1 2).trans c2;have t0:=(kB.2.1 (u*6+4)).trans hcu;have t1:=(kB.2.2 (u*6+4)).trans hfu;have HR8:Hid (RD bp s i (.slice (some ⟨g6,0,none⟩) (ns.length+1) cap6) er at0 dp w8):=kA.1.trans HRD.out;clear kA kB;have W8:Hid (w8.ownsRow (bp+1) 3 1 (.slice (some ⟨g8,0,none⟩) (n.kids.length+1) cap8) (n.kids.length+1) (n.kids.map iV++[iV ns.length])):=ho8;have G8:Hid (((wc.alloc (.cells #[.int .i64 (ns.length:Int)] 3)).drew).grownBy w8 (Value.slice adk n.kids.length capk).ownBlock):=hg8;have GG8:Hid ((Value.slice adk n.kids.length capk).ownBlock=some g8∨g8=wc.heap.size+1):=hgg8;clear ho8 hg8 hgg8))
  all_goals
   have hk9:=Nodes.kid HQ1.out HQ2.out HQ3.out HQ4.out u ns.length g8 cap8 g6 n _ HN.out HKV.out W8.out (fun g' hg' hne=>(keepers G8.out hg' hne).1) (GG8.out.elim .inl fun e=>.inr (by omega)) rfl (by decide);rw[modify_app ns nd u _ hu]at hk9;have hcL:=(keepers G8.out HGL.out HNE.out.2).1;obtain⟨_,_,cur,hcc⟩:=ownBlock_lt HQ2.out (g:=g6) rfl;have hw9:=setCell_eq_setRow w8 g6 (u*6+4) cur _ _ (.slice (some ⟨g8,0,none⟩) (n.kids.length+1) cap8) (hcL.trans hcc);have hg6b:bp+1≤g6:=(ownBlock_lt HQ2.out (g:=g6) rfl).1;have h9:RD bp s i (.slice (some ⟨g6,0,none⟩) (ns.length+1) cap6) er at0 dp (w8.setCell ⟨g6,u*6+4,none⟩ (.slice (some ⟨g8,0,none⟩) (n.kids.length+1) cap8)):=by
    rw[hw9];exact(setRow_other w8 g6 bp _ (by omega)).trans HR8.out
   have hb9:Below bp w (w8.setCell ⟨g6,u*6+4,none⟩ (.slice (some ⟨g8,0,none⟩) (n.kids.length+1) cap8)):=by
    rw[hw9];refine below_setRow (HB7.out.trans ?_) (by omega) _;have a2:(wc.alloc (.cells #[.int .i64 (ns.length:Int)] 3)).heap.size≤w8.heap.size:=G8.out.size;refine⟨G8.out.os,G8.out.tape,G8.out.output,by simp at a2;omega,fun k hk=>(keepers G8.out (by omega) (fun e=>?_)).1⟩;have:=(ownBlock_lt HRO.out e.symm).1;omega
   have H9:Hid _:=And.intro h9 (And.intro hk9 hb9);clear hk9 hcL hcc hw9 hg6b h9 hb9 s2 t0 t1 W8 G8 GG8 HR8 HOw HBs HSs HOne HL HNE hal2 hal3 hcu hfu c0 c1 c2 c3 c4 c5 cf;generalize w8.setCell ⟨g6,u*6+4,none⟩ (.slice (some ⟨g8,0,none⟩) (n.kids.length+1) cap8)=w9 at H9;go_wp2;go_ret;exact⟨rfl,⟨_,H9.out.1,H9.out.2.1⟩,H9.out.2.2⟩
def RN(bp:Nat)(s:ByteArray)(i:Nat)(ns:List Nd)(er at' dp:Nat)(w:World):Prop:=∃vL,RD bp s i vL er at' dp w∧Nodes (bp+1) 51 vL ns w
section
variable {bp:Nat} {s:ByteArray} {i:Nat} {ns:List Nd} {er at' dp:Nat} {w w':World}
end
theorem radd(bp:Nat)(s:ByteArray)(i:Nat)(er at0 dp:Nat)(ns:List Nd)(up:Option Nat)(nd:Nd)(w:World)(h:RN bp s i ns er at0 dp w)(hk:nd.kids=[])(hl:ns.length≤1000000)(hw:WFk ns)(hup:∀u,up=some u→u<ns.length):Calls Tryz.prog 35 #[.pointer (some ⟨bp,0,none⟩),.int .i64 (upV up),ndV nd] w fun r w'=>r=.returned (.int .i64 (ns.length:Int))∧RN bp s i (addKid ns up ns.length++[nd]) er at0 dp w'∧Below bp w w':=by
 obtain⟨vL,h1,h2⟩:=h;obtain⟨ad,cap,rfl⟩:=h2.shape;cases up with
 | none=>exact radd0 bp s i ad cap er at0 dp ns nd w h1 h2 hk (by omega)
 | some u=>exact radd1 bp s i ad cap er at0 dp ns nd w h1 h2 hk (by omega) u (hup u rfl) (fun n hn=>by have:=hw n hn;omega)
def VP(bp:Nat)(s:ByteArray)(i:Nat)(ns:List Nd)(up:Option Nat)(key:List UInt8)(at0 dp:Nat)(R:JR JT)(w':World):Prop:=
 match R with
 | .ok (t,n)=>RN bp s (i+n) (addKid ns up ns.length++flat ns.length key t) 0 at0 dp w'
 | .error (e,a)=>0<e∧∃j vL,RD bp s j vL e a dp w'
section
variable (bp:Nat) (s:ByteArray) (i:Nat) (ns:List Nd) (up:Option Nat) (key:List UInt8) (at0 dp:Nat) (w:World)
theorem rval_str(hs:s.size≤65536)(h:RN bp s i ns 0 at0 dp w)(hi:i<s.size)(hc:s[i]=34)(hl:ns.length≤1000000)(hw:WFk ns)(hup:∀u,up=some u→u<ns.length)(d:Nat):Calls Tryz.prog 26 #[.pointer (some ⟨bp,0,none⟩),.int .i64 (upV up),.string ⟨key.toArray⟩] w fun r w'=>r=.returned (.tuple #[])∧VP bp s i ns up key at0 dp (valL d (sfx s i) i) w'∧Below bp w w':=by
 obtain⟨vL,h1,h2⟩:=h;have hR:valL d (sfx s i) i=(match quotL (sfx s i)with| .error o=>.error (2,i+o)| .ok (t,n)=>.ok (.str t i,n)):=by
  rw[sfx_cons s i hi,valL_cons,if_pos hc];all_goals rfl
 have HR:Hid _:=hR;have hq:=fun w' (h':RD bp s i vL 0 at0 dp w')=>rquoted bp s i vL at0 dp w' (by omega) h'
 have hi':(i:Int)<(s.size:Int):=by omega
 have hif:decide ((s.size:Int)≤(i:Int))=false:=by simp;omega
 have hcb:((s[i].toNat:Int)==34)=true:=by rw[hc];rfl
 have hlt:=h1.lt;have HN:Hid (Nodes (bp+1) 51 vL ns w):=h2;clear hR h2;obtain⟨c0,c1,c2,c3,c4,c5,cf⟩:=h1.cell;go_enter Tryz.func26,Tryz.ntmps26;go_wp2_with fail
 go_quiet (fail);have h3:=h1.drewN nq;have O3:Hid (Onl bp w (w.drewN nq)):=Onl.drewN (onl_refl bp w) nq;generalize w.drewN nq=w3 at h3 O3;clear c0 c1 c2 c3 c4 c5 cf nq h1;obtain⟨c0,c1,c2,c3,c4,c5,cf⟩:=h3.cell;go_wp2_with fail
 go_quiet (fail);have h4:=h3.drewN nq;have O4:Hid (Onl bp w (w3.drewN nq)):=Onl.drewN O3.out nq;generalize w3.drewN nq=w4 at h4 O4;clear c0 c1 c2 c3 c4 c5 cf nq h3 O3 w3;cases hQ:quotL (sfx s i)with
 | ok q=>
   obtain⟨tt,n⟩:=q;rw[hQ]at hq;have HR2:Hid (valL d (sfx s i) i=.ok (.str tt i,n)):=by have:=HR.out;rw[hQ]at this;exact this
   clear hQ HR;go_wp2_with fail
   refine(hq _ h4).mono ?_;rintro e w5 ⟨⟨rfl,h5⟩,o5⟩;have O5:Hid (Onl bp w w5):=Onl.trans O4.out o5;have hN5:Nodes (bp+1) 51 vL ns w5:=HN.out.onl O5.out (by omega);have ha:=radd bp s (i+n) 0 at0 dp ns up ⟨3,key,tt,0,[],i⟩ w5 ⟨vL,h5,hN5⟩ rfl hl hw hup;unfold ndV at ha;clear o5 hq h4 O4 h5 hN5 hl hup;go_wp2_with fail
   refine ha.mono ?_;rintro e w6 ⟨rfl,h6,hb6⟩;have H6:Hid _:=h6;have B6:Hid (Below bp w w6):=(onl_bel O5.out hlt).trans hb6;clear h6 hb6 ha;go_wp2;go_end0
   refine⟨rfl,?_,B6.out⟩;rw[HR2.out];exact H6.out
 | error o=>
   rw[hQ]at hq;have HR2:Hid (valL d (sfx s i) i=.error (2,i+o)):=by have:=HR.out;rw[hQ]at this;exact this
   clear hQ HR;go_wp2_with fail
   refine(hq _ h4).mono ?_;rintro e w5 ⟨⟨⟨tt,rfl⟩,j,h5⟩,o5⟩;have O5:Hid (Onl bp w w5):=Onl.trans O4.out o5;have hN5:Nodes (bp+1) 51 vL ns w5:=HN.out.onl O5.out (by omega);have ha:=radd bp s j 2 (i+o) dp ns up ⟨3,key,tt.data.toList,0,[],i⟩ w5 ⟨vL,h5,hN5⟩ rfl hl hw hup;unfold ndV at ha;dsimp only at ha;rw[str_back]at ha;clear o5 hq h4 O4 h5 hN5 hl hup;go_wp2_with fail
   refine ha.mono ?_;rintro e w6 ⟨rfl,⟨v6,h6,_⟩,hb6⟩;have H6:Hid _:=h6;have B6:Hid (Below bp w w6):=(onl_bel O5.out hlt).trans hb6;clear h6 hb6 ha;go_wp2;go_end0
   refine⟨rfl,?_,B6.out⟩;rw[HR2.out];exact⟨by omega,_,_,H6.out⟩
end
end Go.Proofs.YtaghclgookfmnaaGreatDoor
