import Derived.Test.YtaghclgookfmnaaGreatDoorCRune
namespace Go.Proofs.YtaghclgookfmnaaGreatDoor
open Go.RowKit
set_option linter.unusedVariables false
def escR(l:List UInt8):Except Nat (Nat×Nat):=
 match l with
 | _::c::r=>
   if c=117 then(match four4 r with
    | (none,o)=>.error (2+o)
    | (some n,_)=>match runeC n (r.drop 4)with|none=>.error 0|some (q,k)=>.ok (q,k))
   else match esc1 c with
    | some b=>.ok (b.toNat,2)
    | none=>.error 1
 | _=>.error 1
def mapE:Except Nat (Nat×Nat)→Except Nat (List UInt8×Nat)
 | .ok (q,k)=>.ok (wr8 q,k)
 | .error o=>.error o
theorem esc1_117:esc1 117=none:=by decide
theorem esc1_lt{c b:UInt8}(h:esc1 c=some b):b.toNat<128:=by
 unfold esc1 at h;repeat' split at h
 all_goals first|(injection h with h;subst h)|cases h
 ·next hc=>rcases hc with rfl|rfl|rfl<;>decide
 all_goals decide
theorem escL_cons2(a c:UInt8)(r:List UInt8):escL (a::c::r)=match esc1 c with
 | some b=>.ok ([b],2)
 | none=>if c=117 then(match four4 r with|(none,o)=>.error (2+o)|(some n,_)=>pairL n (r.drop 4))else .error 1:=rfl
theorem escR_cons(a c:UInt8)(r:List UInt8):escR (a::c::r)=if c=117 then(match four4 r with
 | (none,o)=>.error (2+o)
 | (some n,_)=>match runeC n (r.drop 4)with|none=>.error 0|some (q,k)=>.ok (q,k))
 else match esc1 c with
  | some b=>.ok (b.toNat,2)
  | none=>.error 1:=rfl
theorem escL_R(l:List UInt8):escL l=mapE (escR l):=by
 match l with
 | []=>rfl
 | [_]=>rfl
 | a::c::r=>
   rw[escL_cons2,escR_cons];by_cases hc:c=117
   ·subst hc
    rw[esc1_117,if_pos rfl];simp only[if_true];cases hq:four4 r with
    | mk q o=>
      cases q with
      | none=>rfl
      | some n=>
        simp only;unfold pairL runeC;by_cases hn:n<55296∨57343<n
        ·rw[if_pos hn,if_pos hn];rfl
        ·rw[if_neg hn,if_neg hn]
         cases hl:lowL (List.drop 4 r)with
         | none=>rfl
         | some m=>
           simp only;by_cases h5:56320≤n
           ·rw[if_pos h5,if_pos h5];rfl
           ·rw[if_neg h5,if_neg h5];rfl
   ·rw[if_neg hc,if_neg hc]
    cases he:esc1 c with
    | none=>rfl
    | some b=>
      have hb:=esc1_lt he;simp only[mapE];rw[wr8,if_pos hb];simp
def shS:ByteArray:=⟨#[34,92,98,102,110,114,116]⟩
def shX(c:UInt8):Int:=Lib.indexByte shS.data.toList c
def shOk(c:UInt8):Bool:=decide (c=47)||match esc1 c with
 | none=>decide (shX c= -1)
 | some b=>decide (0≤shX c)&&decide (shX c<7)&&decide ((#[34,92,8,12,10,13,9]:Array UInt8)[(shX c).toNat]?=some b)
theorem shOk_all:∀n,n<256→shOk (UInt8.ofNat n)=true:=by decide +kernel
theorem shOk_c(c:UInt8):shOk c=true:=by have:=shOk_all c.toNat c.toNat_lt;rwa [UInt8.ofNat_toNat]at this
theorem shX_none{c:UInt8}(hc:c≠47)(h:esc1 c=none):shX c= -1:=by have:=shOk_c c;rw[shOk,h]at this;simpa [hc]using this
theorem shX_some{c b:UInt8}(hc:c≠47)(h:esc1 c=some b):∃k:Nat,shX c=(k:Int)∧k<7∧(#[34,92,8,12,10,13,9]:Array UInt8)[k]?=some b:=by
 have:=shOk_c c;rw[shOk,h]at this;simp only[hc,decide_false,Bool.false_or,Bool.and_eq_true,decide_eq_true_eq]at this;exact⟨(shX c).toNat,by omega,by omega,this.2⟩
theorem cidx2(c:UInt8)(w:World):Calls Tryz.prog 80 #[.string ⟨#[34,92,98,102,110,114,116]⟩,.int .u8 (c.toNat:Int)] w fun e w'=>e=.returned (.int .i64 (shX c))∧w'=w:=by
 have h:=Tryz.strings_IndexByte shS (c.toNat:Int) w;rw[show((c.toNat:Int).toNat.toUInt8)=c by simp]at h;exact h
def EP(bp:Nat)(s:ByteArray)(i:Nat)(vL:Value)(dp:Nat)(r:Ending)(w':World):Except Nat (Nat×Nat)→Prop
 | .ok (q,k)=>r=.returned (.int .i32 (q:Int))∧CD bp s (i+k) vL dp w'
 | .error o=>r=.panicked (flt 2 (i+o))∧∃j,CD bp s j vL dp w'
theorem sfx_two{s:ByteArray}{i:Nat}(h:i+1<s.size):sfx s i=s[i]::s[i+1]::sfx s (i+2):=by rw[sfx_cons s i (by omega),sfx_cons s (i+1) h]
section
variable (bp:Nat) (s:ByteArray) (i:Nat) (vL:Value) (dp:Nat) (w:World)
set_option maxHeartbeats 1000000 in
theorem cesc(hs:s.size≤140737488355328)(h:CD bp s i vL dp w)(h1:(sfx s i).head?=some 92):Calls Tryz.prog 74 #[.pointer (some ⟨bp,0,none⟩)] w fun r w'=>EP bp s i vL dp r w' (escR (sfx s i))∧Onl bp w w':=by
 have hi:=head_lt h1;have hn:=cneed_yes bp s i vL dp 92 w hs h h1;rw[show((92:UInt8).toNat:Int)=92 from rfl]at hn;clear h1;by_cases hu:(sfx s (i+1)).head?=some 117
 ·have hi1:=head_lt hu
  have hc:s[i+1]=117:=by rw[sfx_cons s (i+1) hi1]at hu;simpa using hu
  have ht:=fun w' h'=>ctake_yes bp s (i+1) vL dp 117 w' hs h' hu
  rw[show((117:UInt8).toNat:Int)=117 from rfl]at ht;have hr:=fun w' h'=>crune bp s (i+2) vL dp w' hs h' (by omega) (by omega)
  have HE:Hid (escR (sfx s i)=(match four4 (sfx s (i+2))with
   | (none,o)=>.error (2+o)
   | (some n,_)=>match runeC n (sfx s (i+2+4))with|none=>.error 0|some (q,k)=>.ok (q,k))):=by
   show escR (sfx s i)=_
   rw[sfx_two hi1,escR,if_pos hc,sfx_drop]
  clear hu hc;go_enter Tryz.func74,Tryz.ntmps74;go_wp2_with fail
  refine hn.mono ?_;rintro e w1 ⟨rfl,g1,o1⟩;have O1:Hid (Onl bp w w1):=o1;clear o1 hn;go_wp2_with fail
  refine(ht w1 g1).mono ?_;rintro e w2 ⟨rfl,g2,o2⟩;have O2:Hid (Onl bp w w2):=O1.out.trans o2;clear o2 O1 ht;cases hq:four4 (sfx s (i+2))with
  | mk q o=>
    rw[hq]at hr;cases q with
    | none=>
      have HE2:Hid (escR (sfx s i)=.error (2+o)):=by have:=HE.out;rw[hq]at this;exact this
      clear hq HE;go_wp2_with fail
      refine(hr w2 g2).mono ?_;rintro e w3 ⟨⟨rfl,j,g3⟩,o3⟩;have O3:Hid (Onl bp w w3):=O2.out.trans o3;clear o3 O2 hr;go_wp2;refine⟨rfl,?_,O3.out⟩;rw[HE2.out];exact⟨by rw[Nat.add_assoc],j,g3⟩
    | some n=>
      cases hR:runeC n (sfx s (i+2+4))with
      | none=>
        have HE2:Hid (escR (sfx s i)=.error 0):=by have:=HE.out;rw[hq]at this;simp only[hR]at this;exact this
        have hr2:=fun w' h'=>(hr w' h').mono (R':=fun r w''=>r=.panicked (flt 2 i)∧(∃j,CD bp s j vL dp w'')∧Onl bp w' w'') (by
         rintro r w'' ⟨hU,o⟩;simp only[UP,hR]at hU;exact⟨hU.1,hU.2,o⟩)
        clear hq HE hR hr;go_wp2_with fail
        refine(hr2 w2 g2).mono ?_;rintro e w3 ⟨rfl,⟨j,g3⟩,o3⟩;have O3:Hid (Onl bp w w3):=O2.out.trans o3;clear o3 O2 hr2;go_wp2;refine⟨rfl,?_,O3.out⟩;rw[HE2.out];exact⟨rfl,j,g3⟩
      | some x=>
        obtain⟨q,k⟩:=x;have HE2:Hid (escR (sfx s i)=.ok (q,k)):=by have:=HE.out;rw[hq]at this;simp only[hR]at this;exact this
        have hr2:=fun w' h'=>(hr w' h').mono (R':=fun r w''=>r=.returned (.int .i32 (q:Int))∧CD bp s (i+k) vL dp w''∧Onl bp w' w'') (by
         rintro r w'' ⟨hU,o⟩;simp only[UP,hR]at hU;rw[show i+2+k-2=i+k by omega]at hU;exact⟨hU.1,hU.2,o⟩)
        clear hq HE hR hr;go_wp2_with fail
        refine(hr2 w2 g2).mono ?_;rintro e w3 ⟨rfl,g3,o3⟩;have O3:Hid (Onl bp w w3):=O2.out.trans o3;clear o3 O2 hr2;go_wp2;go_ret;refine⟨?_,O3.out⟩;rw[HE2.out];exact⟨rfl,g3⟩
 ·have ht:=fun w' h'=>ctake_no bp s (i+1) vL dp 117 w' h' (by omega) (by decide) hu
  rw[show((117:UInt8).toNat:Int)=117 from rfl]at ht;by_cases hsl:(sfx s (i+1)).head?=some 47
  ·have hi1:=head_lt hsl
   have hc:s[i+1]=47:=by rw[sfx_cons s (i+1) hi1]at hsl;simpa using hsl
   have ht2:=fun w' h'=>ctake_yes bp s (i+1) vL dp 47 w' hs h' hsl
   rw[show((47:UInt8).toNat:Int)=47 from rfl]at ht2;have HE:Hid (escR (sfx s i)=.ok (47,2)):=by
    show escR (sfx s i)=_
    rw[sfx_two hi1,escR,hc,if_neg (by decide)];rfl
   clear hu hsl hc;go_enter Tryz.func74,Tryz.ntmps74;go_wp2_with fail
   refine hn.mono ?_;rintro e w1 ⟨rfl,g1,o1⟩;have O1:Hid (Onl bp w w1):=o1;clear o1 hn;go_wp2_with fail
   refine(ht w1 g1).mono ?_;rintro e w2 ⟨rfl,g2,o2⟩;have O2:Hid (Onl bp w w2):=O1.out.trans o2;clear o2 O1 ht;go_wp2_with fail
   refine(ht2 w2 g2).mono ?_;rintro e w3 ⟨rfl,g3,o3⟩;have O3:Hid (Onl bp w w3):=O2.out.trans o3;clear o3 O2 ht2;go_wp2;go_ret;refine⟨?_,O3.out⟩;rw[HE.out];exact⟨rfl,g3⟩
  ·have ht2:=fun w' h'=>ctake_no bp s (i+1) vL dp 47 w' h' (by omega) (by decide) hsl
   rw[show((47:UInt8).toNat:Int)=47 from rfl]at ht2;have hp:=fun w' h'=>cpeek bp s (i+1) vL dp w' h' (by omega)
   have hx:=fun w'=>cidx2 (pk (sfx s (i+1))) w'
   have n47:pk (sfx s (i+1))≠47:=pk_ne (by decide) hsl;have n117:pk (sfx s (i+1))≠117:=pk_ne (by decide) hu;cases he:esc1 (pk (sfx s (i+1)))with
   | none=>
     rw[shX_none n47 he]at hx;have HE:Hid (escR (sfx s i)=.error 1):=by
      show escR (sfx s i)=_
      by_cases hi1:i+1<s.size
      ·rw[sfx_cons s (i+1) hi1]at he n117
       rw[sfx_two hi1,escR,if_neg (by exact n117)];rw[show pk (s[i+1]::sfx s (i+1+1))=s[i+1]from rfl]at he;rw[he]
      ·rw[sfx_cons s i hi,sfx_nil s (i+1) (by omega)];rfl
     clear he n47 n117 hu hsl;go_enter Tryz.func74,Tryz.ntmps74;go_wp2_with fail
     refine hn.mono ?_;rintro e w1 ⟨rfl,g1,o1⟩;have O1:Hid (Onl bp w w1):=o1;clear o1 hn;go_wp2_with fail
     refine(ht w1 g1).mono ?_;rintro e w2 ⟨rfl,g2,o2⟩;have O2:Hid (Onl bp w w2):=O1.out.trans o2;clear o2 O1 ht;go_wp2_with fail
     refine(ht2 w2 g2).mono ?_;rintro e w3 ⟨rfl,g3,o3⟩;have O3:Hid (Onl bp w w3):=O2.out.trans o3;clear o3 O2 ht2;go_wp2_with fail
     refine(hp w3 g3).mono ?_;rintro e w4 ⟨rfl,g4,o4⟩;have O4:Hid (Onl bp w w4):=O3.out.trans o4;clear o4 O3 hp;go_wp2_with fail
     refine(hx w4).mono ?_;rintro e w5 ⟨rfl,rfl⟩;clear hx;have hf:=cfail bp s (i+1) vL dp w5 g4;go_wp2_with fail
     refine hf.mono ?_;rintro e w6 ⟨rfl,rfl⟩;clear hf;go_wp2;refine⟨rfl,?_,O4.out⟩;rw[HE.out];exact⟨rfl,_,g4⟩
   | some b=>
     obtain⟨k,hk,hk7,hkb⟩:=shX_some n47 he;rw[hk]at hx;have hi1:i+1<s.size:=by
      by_cases hi1:i+1<s.size
      ·exact hi1
      ·rw[sfx_nil s (i+1) (by omega)]at he;cases he
     have HE:Hid (escR (sfx s i)=.ok (b.toNat,2)):=by
      show escR (sfx s i)=_
      rw[sfx_cons s (i+1) hi1]at he n117;rw[sfx_two hi1,escR,if_neg (by exact n117)];rw[show pk (s[i+1]::sfx s (i+1+1))=s[i+1]from rfl]at he;rw[he]
     clear he n47 n117 hu hsl hk;have hk7':(k:Int)<7:=by omega
     have hi1b:(i:Int)+1≤140737488355328:=by omega
     go_enter Tryz.func74,Tryz.ntmps74;go_wp2_with fail
     refine hn.mono ?_;rintro e w1 ⟨rfl,g1,o1⟩;have O1:Hid (Onl bp w w1):=o1;clear o1 hn;go_wp2_with fail
     refine(ht w1 g1).mono ?_;rintro e w2 ⟨rfl,g2,o2⟩;have O2:Hid (Onl bp w w2):=O1.out.trans o2;clear o2 O1 ht;go_wp2_with fail
     refine(ht2 w2 g2).mono ?_;rintro e w3 ⟨rfl,g3,o3⟩;have O3:Hid (Onl bp w w3):=O2.out.trans o3;clear o3 O2 ht2;go_wp2_with fail
     refine(hp w3 g3).mono ?_;rintro e w4 ⟨rfl,g4,o4⟩;have O4:Hid (Onl bp w w4):=O3.out.trans o4;clear o4 O3 hp;go_wp2_with fail
     refine(hx w4).mono ?_;rintro e w5 ⟨rfl,rfl⟩;clear hx;obtain⟨c0,c1,c2,c3,cf⟩:=g4.cell;have f1:=cf 1;have hk8:k=0∨k=1∨k=2∨k=3∨k=4∨k=5∨k=6:=by omega
     clear hk7 hk7';rcases hk8 with rfl|rfl|rfl|rfl|rfl|rfl|rfl
     all_goals
      injection hkb with hkb;have HB:Hid _:=hkb;clear hkb;go_wp2;go_ret;refine⟨?_,Onl.setCell O4.out _ g4⟩;rw[HE.out];refine⟨?_,g4.setI (i+2)⟩;rw[←HB.out];exact congrArg (fun z=>Ending.returned (Value.int .i32 z)) (by decide +kernel)
end
end Go.Proofs.YtaghclgookfmnaaGreatDoor
