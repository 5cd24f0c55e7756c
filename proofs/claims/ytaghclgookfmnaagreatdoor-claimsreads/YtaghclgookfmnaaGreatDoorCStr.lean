import Derived.Test.YtaghclgookfmnaaGreatDoorCBuf
namespace Go.Proofs.YtaghclgookfmnaaGreatDoor
open Go.RowKit
set_option linter.unusedVariables false
theorem lowL_len{s:ByteArray}{j m:Nat}(h:lowL (sfx s j)=some m):j+6≤s.size:=by
 by_cases h1:(sfx s j).head?=some 92
 ·by_cases h2:(sfx s (j+1)).head?=some 117
  ·rw[lowL_yes h1 h2]at h
   cases hq:four4 (sfx s (j+2))with
   | mk q o=>
     rw[hq]at h;cases q with
     | none=>cases h
     | some n=>have:=four_len hq;omega
  ·rw[lowL_no2 h2]at h;cases h
 ·rw[lowL_no1 h1]at h;cases h
theorem escR_ok{s:ByteArray}{p q k:Nat}(h:escR (sfx s p)=.ok (q,k)):p+k≤s.size∧2≤k∧k≤12∧(q<55296∨57343<q)∧q≤1114111:=by
 by_cases h1:p+1<s.size
 ·rw[sfx_two h1,escR_cons]at h
  by_cases hc:s[p+1]=117
  ·rw[if_pos hc]at h
   cases hq:four4 (sfx s (p+2))with
   | mk x o=>
     rw[hq]at h;cases x with
     | none=>cases h
     | some n=>
       have hl:=four_len hq;have hn:=four4_n hq;simp only at h;rw[sfx_drop]at h;cases hr:runeC n (sfx s (p+2+4))with
       | none=>rw[hr]at h;cases h
       | some y=>
         obtain⟨a,b⟩:=y;rw[hr]at h;injection h with h;injection h with h1 h2;subst h1;subst h2;unfold runeC at hr;split at hr
         ·injection hr with hr;injection hr with h1 h2;subst h1;subst h2;omega
         ·split at hr
          ·cases hr
          ·next m hm=>
           have hm2:=lowL_len hm;have hm3:=lowL_n hm;split at hr
           ·cases hr
           ·injection hr with hr;injection hr with h1 h2;subst h1;subst h2;omega
  ·rw[if_neg hc]at h
   cases he:esc1 s[p+1]with
   | none=>rw[he]at h;cases h
   | some b=>
     rw[he]at h;have:=esc1_lt he;injection h with h;injection h with h1 h2;subst h1;subst h2;omega
 ·by_cases h0:p<s.size
  ·rw[sfx_cons s p h0,sfx_nil s (p+1) (by omega)]at h;cases h
  ·rw[sfx_nil s p (by omega)]at h;cases h
section
variable (bp:Nat) (s:ByteArray) (i:Nat) (vL:Value) (dp:Nat) (w:World)
def CQ(R:Except Nat (List UInt8×Nat))(r:Ending)(w':World):Prop:=
 match R with
 | .ok (t,n)=>r=.returned (.string ⟨t.toArray⟩)∧CD bp s (i+n) vL dp w'
 | .error o=>r=.panicked (flt 2 (i+o))∧∃j,CD bp s j vL dp w'
theorem CD.belowB{j:Nat}{w' wr:World}(h:CD bp s j vL dp wr)(hlt:bp<w.heap.size)(hb:Below w.heap.size wr w'):CD bp s j vL dp w':=by
 unfold CD;rw[hb.block _ hlt];exact h
set_option maxRecDepth 4000 in
set_option maxHeartbeats 1000000 in
theorem cquot(hs:s.size≤140737488340000)(hbp:8≤bp)(h:CD bp s i vL dp w)(hG:GV w)(hi:i≤s.size):Calls Tryz.prog 64 #[.pointer (some ⟨bp,0,none⟩)] w fun r w'=>CQ bp s i vL dp (quotL (sfx s i)) r w'∧Onl bp w w':=by
 have hlt:=h.lt;obtain⟨i0,hi0,hz0,hz1,hz2⟩:=info_parts u8infoJ;have HI:Hid _:=hi0;clear hi0;by_cases hq:(sfx s i).head?=some 34
 ·have hi:=head_lt hq
  have hsi:s[i]=34:=by rw[sfx_cons s i hi]at hq;simpa using hq
  have hR:quotL (sfx s i)=(match strL (sfx s (i+1))with| .ok (t,n)=>.ok (t,n+1)| .error o=>.error (o+1)):=by
   rw[sfx_cons s i hi,quotL,if_pos hsi];rfl
  have HR:Hid _:=hR;clear hR;have hm:=cneed_yes bp s i vL dp 34 w (by omega) h hq;rw[show((34:UInt8).toNat:Int)=34 from rfl]at hm;clear hq hsi;go_enter Tryz.func64,Tryz.ntmps64;go_wp2_with fail
  refine hm.mono ?_;rintro e w1 ⟨rfl,h1,o1⟩;have H1:Hid (CD bp s (i+1) vL dp w1):=h1;have O1:Hid (Onl bp w w1):=o1;clear h1 o1 hm;go_wp2_with fail
  go_loopw [3] (fun v wr=>∃k f acc,(sfx s (i+1+k)).length<f∧i+1+k≤s.size∧acc.length≤k∧strL (sfx s (i+1))=shiftS acc k (strF f (sfx s (i+1+k)))∧OwnZ w.heap.size 5 v acc wr∧CD bp s (i+1+k) vL dp wr∧Onl bp w wr) (fun _ wr=>s.size+1-posOf (wr.cell? ⟨bp,1,none⟩))
  case atStart=>
   refine⟨0,(sfx s (i+1)).length+1,[],by simp,by omega,by simp,?_,.inl ⟨rfl,rfl⟩,H1.out,O1.out⟩;show strL (sfx s (i+1))=shiftS [] 0 (strF ((sfx s (i+1)).length+1) (sfx s (i+1)))
   unfold strL;cases strF ((sfx s (i+1)).length+1) (sfx s (i+1))with
   | ok p=>obtain⟨a,b⟩:=p;simp[shiftS]
   | error o=>simp[shiftS]
  case round=>
   clear H1 O1;obtain⟨k,f,acc,hf,hk,hal,he,hown,hrd,ho⟩:=hrel;have HO:Hid (Onl bp w wr):=ho;have hGr:GV wr:=hG.onl ho hbp hlt;clear ho;generalize hp:i+1+k=p at hf hk he hrd;have HP:Hid (i+1+k=p):=hp;have HE:Hid (strL (sfx s (i+1))=shiftS acc k (strF f (sfx s p))):=he;have HW:Hid (OwnZ w.heap.size 5 u3 acc wr):=hown;have HM:Hid (posOf (wr.cell? ⟨bp,1,none⟩)=p):=cpos_rd hrd;obtain⟨f,rfl⟩:∃g,f=g+1:=⟨f-1,by omega⟩;have hacc:acc.length≤140737488340020:=by omega
   have HA:Hid (acc.length≤140737488340020):=hacc;clear hp he hown hacc;by_cases h34:(sfx s p).head?=some 34
   ·have ht:=ctake_yes bp s p vL dp 34 wr (by omega) hrd h34
    rw[show((34:UInt8).toNat:Int)=34 from rfl]at ht;have hF:strF (f+1) (sfx s p)=.ok ([],1):=by
     have hps:=head_lt h34;rw[sfx_cons s p hps]at h34 ⊢;have h34:s[p]=34:=by simpa using h34
     rw[strF];simp[h34]
    have HF:Hid _:=hF;clear h34 hF hf hk;go_wp2_with fail
    refine ht.mono ?_;rintro e w3 ⟨rfl,h3,o3⟩;have H3:Hid (CD bp s (p+1) vL dp w3):=h3;have O3:Hid (Onl bp w w3):=Onl.trans HO.out o3;have hs3:=(HW.out.onl o3 hlt).b.str (P:=Tryz.prog) (t:=87) (d:=9) Tryz.underlying87 Tryz.underlying5 Tryz.underlying9;clear h3 o3 ht HO HW;go_wp2;go_ret;refine⟨?_,O3.out⟩;have e1:=HE.out;rw[HF.out]at e1;have e2:shiftS acc k (.ok ([],1))=.ok (acc,k+1):=by simp[shiftS]
    rw[HR.out,e1,e2];refine⟨rfl,?_⟩;have:i+(k+1+1)=p+1:=by have:=HP.out;omega
    rw[this];exact H3.out
   ·have ht:=ctake_no bp s p vL dp 34 wr hrd hk (by decide) h34
    rw[show((34:UInt8).toNat:Int)=34 from rfl]at ht;have hpk:=fun w' h'=>cpeek bp s p vL dp w' h' hk
    by_cases h92:(sfx s p).head?=some 92
    ·have hps:=head_lt h92
     have hs92:s[p]=92:=by rw[sfx_cons s p hps]at h92;simpa using h92
     have hb92:(((pk (sfx s p)).toNat:Int)==92)=true:=by rw[pk_head h92];rfl
     have hes:=fun w' h'=>cesc bp s p vL dp w' (by omega) h' h92
     have hFF:strF (f+1) (sfx s p)=(match escL (sfx s p)with| .error o=>.error o| .ok (t,n)=>shiftS t n (strF f ((sfx s p).drop n))):=by
      rw[sfx_cons s p hps,strF];simp[hs92];rfl
     rw[escL_R]at hFF;cases hE2:escR (sfx s p)with
     | error o=>
       rw[hE2]at hFF hes;have HF:Hid (strF (f+1) (sfx s p)=.error o):=hFF;clear hFF hE2 hs92 h34 h92 hf hk;go_wp2_with fail
       refine ht.mono ?_;rintro e w2 ⟨rfl,h2,o2⟩;have O2:Hid (Onl bp w w2):=Onl.trans HO.out o2;clear o2 ht HO;go_wp2_with fail
       refine(hpk w2 h2).mono ?_;rintro e w3 ⟨rfl,h3,o3⟩;have O3:Hid (Onl bp w w3):=Onl.trans O2.out o3;clear o3 hpk O2;go_wp2_with fail
       refine(hes w3 h3).mono ?_;rintro e w4 ⟨⟨rfl,j,h4⟩,o4⟩;have O4:Hid (Onl bp w w4):=Onl.trans O3.out o4;clear o4 hes O3;go_wp2;refine⟨rfl,?_,O4.out⟩;have e1:=HE.out;rw[HF.out]at e1;rw[HR.out,e1];refine⟨?_,j,h4⟩;rw[show i+(k+o+1)=p+o by have:=HP.out;omega]
     | ok q=>
       obtain⟨q,n⟩:=q;obtain⟨hb1,hb2,hb3,hb4⟩:=escR_ok hE2;rw[hE2]at hFF hes;have HF:Hid (strF (f+1) (sfx s p)=shiftS (wr8 q) n (strF f ((sfx s p).drop n))):=hFF;have HL:Hid ((sfx s p).length<f+1):=hf;have HB:Hid (p+n≤s.size∧2≤n∧n≤12):=⟨hb1,hb2,hb3⟩;have HB2:Hid ((wr8 q).length≤n):=by
        have e:=escL_R (sfx s p);rw[hE2]at e;exact(escL_ok e).1
       have HQ:Hid ((q<55296∨57343<q)∧q≤1114111):=hb4;clear hFF hE2 hs92 h34 h92 hf hk hb1 hb2 hb3 hb4;go_wp2_with fail
       refine ht.mono ?_;rintro e w2 ⟨rfl,h2,o2⟩;have O2:Hid (Onl bp w w2):=Onl.trans HO.out o2;have W2:Hid (OwnZ w.heap.size 5 u3 acc w2):=HW.out.onl o2 hlt;clear o2 ht HO HW;go_wp2_with fail
       refine(hpk w2 h2).mono ?_;rintro e w3 ⟨rfl,h3,o3⟩;have O3:Hid (Onl bp w w3):=Onl.trans O2.out o3;have W3:Hid (OwnZ w.heap.size 5 u3 acc w3):=W2.out.onl o3 hlt;clear o3 hpk O2 W2;go_wp2_with fail
       refine(hes w3 h3).mono ?_;rintro e w4 ⟨⟨rfl,h4⟩,o4⟩;have O4:Hid (Onl bp w w4):=Onl.trans O3.out o4;have W4:Hid (OwnZ w.heap.size 5 u3 acc w4):=W3.out.onl o4 hlt;have hz4:=O4.out.size;clear o4 hes O3 W3;have hap:=cappR w.heap.size u3 acc q HQ.out w4 W4.out (by have:=HA.out;omega) hz4;go_wp2_with fail
       refine hap.mono ?_;rintro e w5 ⟨v5,rfl,h5,b5⟩;have W5:Hid _:=h5;have H5:Hid (CD bp s (p+n) vL dp w5):=CD.belowB bp s vL dp w h4 hlt b5;have O5:Hid (Onl bp w w5):=onl_belowB bp w O4.out b5;clear h5 b5 hap h4;go_wp2;refine⟨⟨k+n,f,acc++wr8 q,?_,?_,?_,?_,W5.out,?_,O5.out⟩,?_⟩
       ·have:=HL.out;have:=HB.out;have:=HP.out;rw[sfx_length]at *;omega
       ·have:=HB.out;have:=HP.out;omega
       ·have:=HB2.out;simp;omega
       ·rw[HE.out,HF.out,shiftS_shiftS,sfx_drop,show i+1+(k+n)=p+n by have:=HP.out;omega]
       ·rw[show i+1+(k+n)=p+n by have:=HP.out;omega];exact H5.out
       ·rw[HM.out,cpos_rd H5.out];have:=HB.out;omega
    ·have hb92:(((pk (sfx s p)).toNat:Int)==92)=false:=by
      rw[beq_eq_false_iff_ne];intro e;exact pk_ne (by decide) h92 (UInt8.toNat_inj.1 (by simpa using by omega))
     by_cases hbad:(pk (sfx s p)).toNat<32∨seqLen (sfx s p)=0
     ·have hch:=fun w' h' g'=>cchar_bad bp s p vL dp w' (by omega) hbp h' g' hk hbad
      have HF:Hid (strF (f+1) (sfx s p)=.error 0):=by
       show strF (f+1) (sfx s p)=.error 0
       by_cases hps:p<s.size
       ·have hc:=sfx_cons s p hps
        rw[hc]at h34 h92 hbad ⊢;have n34:s[p]≠34:=by simpa using h34
        have n92:s[p]≠92:=by simpa using h92
        rw[strF];simp only[n34,n92,if_false];rcases hbad with hb|hb
        ·rw[if_pos (show s[p].toNat<32 from hb)]
        ·simp[hb]
       ·rw[sfx_nil s p (by omega)];rfl
      clear h34 h92 hbad hf hk;go_wp2_with fail
      refine ht.mono ?_;rintro e w2 ⟨rfl,h2,o2⟩;have O2:Hid (Onl bp w w2):=Onl.trans HO.out o2;have g2:GV w2:=hGr.onl o2 hbp hrd.lt;clear o2 ht HO;go_wp2_with fail
      refine(hpk w2 h2).mono ?_;rintro e w3 ⟨rfl,h3,o3⟩;have O3:Hid (Onl bp w w3):=Onl.trans O2.out o3;have g3:GV w3:=g2.onl o3 hbp h2.lt;clear o3 hpk O2;go_wp2_with fail
      refine(hch w3 h3 g3).mono ?_;rintro e w4 ⟨rfl,h4,o4⟩;have O4:Hid (Onl bp w w4):=Onl.trans O3.out o4;clear o4 hch O3;go_wp2;refine⟨rfl,?_,O4.out⟩;have e1:=HE.out;rw[HF.out]at e1;rw[HR.out,e1];refine⟨?_,p,h4⟩;rw[show i+(k+0+1)=p by have:=HP.out;omega]
     ·have hn32:¬(pk (sfx s p)).toNat<32:=fun h=>hbad (.inl h)
      have hq0:seqLen (sfx s p)≠0:=fun h=>hbad (.inr h)
      have hch:=fun w' h' g'=>cchar_ok bp s p vL dp w' (by omega) hbp h' g' hn32 hq0
      have hps:p<s.size:=by
       by_cases hps:p<s.size
       ·exact hps
       ·rw[sfx_nil s p (by omega)]at hn32;exact absurd (by decide) hn32
      have hle:p+seqLen (sfx s p)≤s.size:=by rcases seqLen_le s p with h|h;exact h;exact absurd h hq0
      have HF:Hid (strF (f+1) (sfx s p)=shiftS ((sfx s p).take (seqLen (sfx s p))) (seqLen (sfx s p)) (strF f ((sfx s p).drop (seqLen (sfx s p))))):=by
       show strF (f+1) (sfx s p)=_
       have hc:=sfx_cons s p hps;rw[hc]at h34 h92 hn32 hq0 ⊢;have n34:s[p]≠34:=by simpa using h34
       have n92:s[p]≠92:=by simpa using h92
       have n32:¬s[p].toNat<32:=hn32;rw[strF];simp only[n34,n92,n32,if_false,hq0]
      have HT:Hid ((s.extract p (p+seqLen (sfx s p))).data.toList=(sfx s p).take (seqLen (sfx s p))):=by
       show(s.extract p (p+seqLen (sfx s p))).data.toList=_
       rw[extract_list,show p+seqLen (sfx s p)-p=seqLen (sfx s p)by omega];rfl
      have HZ:Hid ((s.extract p (p+seqLen (sfx s p))).size≤4):=by
       show(s.extract p (p+seqLen (sfx s p))).size≤4
       have:=seqLen_le4 (sfx s p);simp;omega
      have HL:Hid ((sfx s p).length<f+1):=hf;have HS0:Hid (0<seqLen (sfx s p)):=Nat.pos_of_ne_zero hq0;have HLE:Hid (p+seqLen (sfx s p)≤s.size):=hle;clear h34 h92 hbad hf hk hn32 hq0 hle hps;generalize seqLen (sfx s p)=n at hch HF HT HZ HS0 HLE;go_wp2_with fail
      refine ht.mono ?_;rintro e w2 ⟨rfl,h2,o2⟩;have O2:Hid (Onl bp w w2):=Onl.trans HO.out o2;have g2:GV w2:=hGr.onl o2 hbp hrd.lt;have W2:Hid (OwnZ w.heap.size 5 u3 acc w2):=HW.out.onl o2 hlt;clear o2 ht HO HW;go_wp2_with fail
      refine(hpk w2 h2).mono ?_;rintro e w3 ⟨rfl,h3,o3⟩;have O3:Hid (Onl bp w w3):=Onl.trans O2.out o3;have g3:GV w3:=g2.onl o3 hbp h2.lt;have W3:Hid (OwnZ w.heap.size 5 u3 acc w3):=W2.out.onl o3 hlt;clear o3 hpk O2 W2;go_wp2_with fail
      refine(hch w3 h3 g3).mono ?_;rintro e w4 ⟨rfl,h4,o4⟩;have O4:Hid (Onl bp w w4):=Onl.trans O3.out o4;have W4:Hid (OwnZ w.heap.size 5 u3 acc w4):=W3.out.onl o4 hlt;have hz4:=O4.out.size;have H4:Hid (CD bp s (p+n) vL dp w4):=h4;clear o4 hch O3 W3 h4 g3 g2 h3 h2 hGr hrd hG;go_wp2_with (refine wp_appZ rfl (.tmp 22) (.tmp 24) 87 9 rfl 5 i0 Tryz.underlying87 Tryz.underlying9 HI.out hz0 hz1 hz2 w.heap.size _ acc (s.extract p (p+n)) rfl rfl (by have:=HA.out;have:=HZ.out;omega) W4.out hz4 ?_;intro v6 w6 ho6 hb6;have W6:Hid _:=ho6;clear ho6)
      have h7:=CD.belowB bp s vL dp w H4.out hlt hb6;refine⟨⟨k+n,f,acc++(s.extract p (p+n)).data.toList,?_,?_,?_,?_,W6.out,?_,onl_belowB bp w O4.out hb6⟩,?_⟩
      ·have:=HL.out;have:=HS0.out;have:=HP.out;have:=HLE.out;rw[sfx_length]at *;omega
      ·have:=HLE.out;have:=HP.out;omega
      ·rw[HT.out];simp;omega
      ·rw[HE.out,HF.out,shiftS_shiftS,sfx_drop,HT.out,show i+1+(k+n)=p+n by have:=HP.out;omega]
      ·rw[show i+1+(k+n)=p+n by have:=HP.out;omega];exact h7
      ·rw[HM.out,cpos_rd h7];have:=HS0.out;have:=HLE.out;omega
 ·have hm:=cneed_no bp s i vL dp 34 w h hi (by decide) hq
  rw[show((34:UInt8).toNat:Int)=34 from rfl]at hm;have HR:Hid (quotL (sfx s i)=.error 0):=by
   show quotL (sfx s i)=.error 0
   by_cases hi2:i<s.size
   ·rw[sfx_cons s i hi2]at hq ⊢
    have n34:s[i]≠34:=by simpa using hq
    rw[quotL,if_neg n34]
   ·rw[sfx_nil s i (by omega)];rfl
  clear hq;go_enter Tryz.func64,Tryz.ntmps64;go_wp2_with fail
  refine hm.mono ?_;rintro e w1 ⟨rfl,h1,o1⟩;have O1:Hid (Onl bp w w1):=o1;clear o1 hm;go_wp2;refine⟨rfl,?_,O1.out⟩;rw[HR.out];exact⟨rfl,i,h1⟩
end
end Go.Proofs.YtaghclgookfmnaaGreatDoor
