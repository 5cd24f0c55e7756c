import Derived.Test.YtbbopknnoamkbaaGreatDoorK1
set_option maxHeartbeats 4000000
set_option maxRecDepth 100000
namespace Go.Proofs.YtbbopknnoamkbaaGreatDoor
open Go.RowKit
set_option linter.unusedVariables false
def runeC(n:Nat)(r:List UInt8):Option (Nat×Nat):=
 if n<55296∨57343<n then some (n,6)
 else match lowL r with
  | none=>none
  | some m=>if 56320≤n then none else some (65536+1024*(n-55296)+(m-56320),12)
def UP(bp:Nat)(s:ByteArray)(i:Nat)(vL:Value)(dp:Nat)(r:Ending)(w':World):Option Nat×Nat→Prop
 | (none,o)=>r=.panicked (flt 2 (i+o))∧∃j,CD bp s j vL dp w'
 | (some n,_)=>match runeC n (sfx s (i+4))with
   | none=>r=.panicked (flt 2 (i-2))∧∃j,CD bp s j vL dp w'
   | some (q,k)=>r=.returned (.int .i32 (q:Int))∧CD bp s (i+k-2) vL dp w'
theorem UP_yes{bp:Nat}{s:ByteArray}{i:Nat}{vL:Value}{dp:Nat}{r:Ending}{w':World}{n o q k:Nat}(h:runeC n (sfx s (i+4))=some (q,k))(hr:r=.returned (.int .i32 (q:Int)))(g:CD bp s (i+k-2) vL dp w'):UP bp s i vL dp r w' (some n,o):=by
 simp only[UP];rw[h];exact⟨hr,g⟩
theorem UP_no{bp:Nat}{s:ByteArray}{i:Nat}{vL:Value}{dp:Nat}{r:Ending}{w':World}{n o j:Nat}(h:runeC n (sfx s (i+4))=none)(hr:r=.panicked (flt 2 (i-2)))(g:CD bp s j vL dp w'):UP bp s i vL dp r w' (some n,o):=by
 simp only[UP];rw[h];exact⟨hr,j,g⟩
theorem lowL_n{l:List UInt8}{m:Nat}(h:lowL l=some m):56320≤m∧m≤57343:=by
 unfold lowL at h;split at h
 ·split at h
  ·split at h
   ·split at h
    ·next hh=>injection h with h;subst h;exact hh
    ·cases h
   ·cases h
  ·cases h
 ·cases h
theorem four_len{s:ByteArray}{i n o:Nat}(h:four4 (sfx s i)=(some n,o)):i+4≤s.size:=by
 have key:∀(k N i o n o':Nat),fourG k N (sfx s i) o=(some n,o')→i≤s.size→i+k≤s.size:=by
  intro k;induction k with
  | zero=>intro N i o n o' _ hi;omega
  | succ k ih=>
    intro N i o n o' h hi;cases hq:hexv (pk (sfx s i))with
    | none=>rw[cfourG_none hq]at h;injection h with h1 _;cases h1
    | some d=>
      obtain⟨h1,h2⟩:=cfourG_some (k:=k) (n:=N) (o:=o) hq;rw[h2]at h;have:=ih _ _ _ _ _ h (by omega);omega
 by_cases hi:i≤s.size
 ·exact key 4 0 i 0 n o h hi
 ·rw[sfx_nil s i (by omega)]at h;cases h
section
variable (bp:Nat) (s:ByteArray) (i:Nat) (vL:Value) (dp:Nat) (w:World)
theorem crune(hs:s.size≤140737488355328)(h:CD bp s i vL dp w)(hi:i≤s.size)(hi2:2≤i):Calls Tryz.prog 211 #[.pointer (some ⟨bp,0,none⟩)] w fun r w'=>UP bp s i vL dp r w' (four4 (sfx s i))∧Onl bp w w':=by
 have hmf:∀(fn:Fn) (first cap:Array Value) (w:World),(Instr.makeFunc fn first cap).run Tryz.prog w=.ok (.func fn first cap) w:=fun _ _ _ _=>rfl
 have hf:=cfour bp s i vL dp w hs h hi;cases hq:four4 (sfx s i)with
 | mk q o=>
   rw[hq]at hf;cases q with
   | none=>
     clear hq;go_enter Tryz.func211,Tryz.ntmps211;go_wp2_with fail
     refine hf.mono ?_;rintro e w1 ⟨⟨rfl,g1⟩,o1⟩;have O1:Hid (Onl bp w w1):=o1;clear o1 hf;go_wp2;exact⟨rfl,⟨rfl,_,g1⟩,O1.out⟩
   | some n=>
     have hn:=four4_n hq;have hl:=four_len hq;have hhi:=fun w'=>chi n w'
     have hlo:=fun w'=>clo n w'
     clear hq;cases hb:isHi n with
     | true=>
       rw[hb]at hhi;have hb2:55296≤n∧n<56320:=by simpa [isHi]using hb
       have ht:=fun w' h'=>ctry bp s (i+4) vL dp w' hs h' (by omega)
       unfold secF at ht;cases hL:lowL (sfx s (i+4))with
       | some m=>
         rw[hL]at ht;have hm:=lowL_n hL;have HL:Hid (runeC n (sfx s (i+4))=some (65536+1024*(n-55296)+(m-56320),12)):=by
          show runeC n (sfx s (i+4))=_
          rw[runeC,if_neg (by omega),hL];simp only;rw[if_neg (by omega)]
         clear hL hlo hb;have n1:(55296:Int)≤(n:Int):=by omega
         have n2:(n:Int)<56320:=by omega
         have m1:(56320:Int)≤(m:Int):=by omega
         have m2:(m:Int)≤57343:=by omega
         go_enter Tryz.func211,Tryz.ntmps211;go_wp2_with fail
         refine hf.mono ?_;rintro e w1 ⟨⟨rfl,g1⟩,o1⟩;have O1:Hid (Onl bp w w1):=o1;clear o1 hf;go_wp2_with fail
         refine(hhi _).mono ?_;rintro e w2 ⟨rfl,rfl⟩;go_wp2_with fail
         refine(ht _ g1).mono ?_;rintro e w3 ⟨⟨rfl,g3⟩,o3⟩;have O3:Hid (Onl bp w w3):=O1.out.trans o3;clear o3 O1 ht hhi;go_wp2;go_ret;refine⟨UP_yes HL.out ?_ g3,O3.out⟩;rw[show((65536+1024*(n-55296)+(m-56320):Nat):Int)=65536+((n:Int)-55296)*1024+(m:Int)-56320 by omega];rfl
       | none=>
         rw[hL]at ht;have HL:Hid (runeC n (sfx s (i+4))=none):=by
          show runeC n (sfx s (i+4))=_
          rw[runeC,if_neg (by omega),hL]
         have hth:∀w',Calls Tryz.prog 121 #[.int .i64 2,.int .i64 ((i:Int)+4-6)] w' fun r w''=>r=.panicked (flt 2 (i-2))∧w''=w':=fun w'=>by
          rw[show((i:Int)+4-6)=((i-2:Nat):Int)by omega];exact cthrow 2 (i-2) w'
         have hib:(i:Int)≤140737488355328:=by omega
         have hib2:(2:Int)≤(i:Int):=by omega
         clear hL hlo hb;go_enter Tryz.func211,Tryz.ntmps211;go_wp2_with fail
         refine hf.mono ?_;rintro e w1 ⟨⟨rfl,g1⟩,o1⟩;have O1:Hid (Onl bp w w1):=o1;clear o1 hf;go_wp2_with fail
         refine(hhi _).mono ?_;rintro e w2 ⟨rfl,rfl⟩;go_wp2_with fail
         refine(ht _ g1).mono ?_;rintro e w3 ⟨⟨rfl,g3⟩,o3⟩;have O3:Hid (Onl bp w w3):=O1.out.trans o3;clear o3 O1 ht;go_wp2_with fail
         refine(hhi _).mono ?_;rintro e w4 ⟨rfl,rfl⟩;clear hhi;obtain⟨c0,c1,c2,c3,cf⟩:=g3.cell;go_wp2_with fail
         refine(hth _).mono ?_;rintro e w5 ⟨rfl,rfl⟩;clear hth;go_wp2;exact⟨rfl,UP_no HL.out rfl g3,O3.out⟩
     | false=>
       rw[hb]at hhi;cases hb2:isLo n with
       | true=>
         rw[hb2]at hlo;have hb3:56320≤n∧n<57344:=by simpa [isLo]using hb2
         have HL:Hid (runeC n (sfx s (i+4))=none):=by
          show runeC n (sfx s (i+4))=_
          rw[runeC,if_neg (by omega)];split
          ·rfl
          ·rw[if_pos hb3.1]
         have hth:∀w',Calls Tryz.prog 121 #[.int .i64 2,.int .i64 ((i:Int)+4-6)] w' fun r w''=>r=.panicked (flt 2 (i-2))∧w''=w':=fun w'=>by
          rw[show((i:Int)+4-6)=((i-2:Nat):Int)by omega];exact cthrow 2 (i-2) w'
         have hib:(i:Int)≤140737488355328:=by omega
         have hib2:(2:Int)≤(i:Int):=by omega
         clear hb hb2 hb3;go_enter Tryz.func211,Tryz.ntmps211;go_wp2_with fail
         refine hf.mono ?_;rintro e w1 ⟨⟨rfl,g1⟩,o1⟩;have O1:Hid (Onl bp w w1):=o1;clear o1 hf;go_wp2_with fail
         refine(hhi _).mono ?_;rintro e w2 ⟨rfl,rfl⟩;go_wp2_with fail
         refine(hhi _).mono ?_;rintro e w4 ⟨rfl,rfl⟩;clear hhi;go_wp2_with fail
         refine(hlo _).mono ?_;rintro e w4 ⟨rfl,rfl⟩;clear hlo;obtain⟨c0,c1,c2,c3,cf⟩:=g1.cell;go_wp2_with fail
         refine(hth _).mono ?_;rintro e w5 ⟨rfl,rfl⟩;clear hth;go_wp2;exact⟨rfl,UP_no HL.out rfl g1,O1.out⟩
       | false=>
         rw[hb2]at hlo;have HL:Hid (runeC n (sfx s (i+4))=some (n,6)):=by
          show runeC n (sfx s (i+4))=_
          rw[runeC,if_pos];simp[isHi]at hb;simp[isLo]at hb2;omega
         clear hb hb2;go_enter Tryz.func211,Tryz.ntmps211;go_wp2_with fail
         refine hf.mono ?_;rintro e w1 ⟨⟨rfl,g1⟩,o1⟩;have O1:Hid (Onl bp w w1):=o1;clear o1 hf;go_wp2_with fail
         refine(hhi _).mono ?_;rintro e w2 ⟨rfl,rfl⟩;go_wp2_with fail
         refine(hhi _).mono ?_;rintro e w4 ⟨rfl,rfl⟩;clear hhi;go_wp2_with fail
         refine(hlo _).mono ?_;rintro e w4 ⟨rfl,rfl⟩;clear hlo;go_wp2;go_ret;exact⟨UP_yes HL.out rfl g1,O1.out⟩
end
def escR(l:List UInt8):Except Nat (Nat×Nat):=
 match l with
 | _::c::r=>
   if c=117 then(match four4 r with
    | (none,o)=>.error (2+o)
    | (some n,_)=>match runeC n (r.drop 4)with|none=>.error 0|some (q,k)=>.ok (q,k))
   else match esc1 c with
    | some b=>.ok (b.toNat,2)
    | none=>.error 1
 | _=>.error 1
def mapE:Except Nat (Nat×Nat)→Except Nat (List UInt8×Nat)
 | .ok (q,k)=>.ok (wr8 q,k)
 | .error o=>.error o
theorem esc1_117:esc1 117=none:=by decide
theorem esc1_lt{c b:UInt8}(h:esc1 c=some b):b.toNat<128:=by
 unfold esc1 at h;repeat' split at h
 all_goals first|(injection h with h;subst h)|cases h
 ·next hc=>rcases hc with rfl|rfl|rfl<;>decide
 all_goals decide
theorem escL_cons2(a c:UInt8)(r:List UInt8):escL (a::c::r)=match esc1 c with
 | some b=>.ok ([b],2)
 | none=>if c=117 then(match four4 r with|(none,o)=>.error (2+o)|(some n,_)=>pairL n (r.drop 4))else .error 1:=rfl
theorem escR_cons(a c:UInt8)(r:List UInt8):escR (a::c::r)=if c=117 then(match four4 r with
 | (none,o)=>.error (2+o)
 | (some n,_)=>match runeC n (r.drop 4)with|none=>.error 0|some (q,k)=>.ok (q,k))
 else match esc1 c with
  | some b=>.ok (b.toNat,2)
  | none=>.error 1:=rfl
theorem escL_R(l:List UInt8):escL l=mapE (escR l):=by
 match l with
 | []=>rfl
 | [_]=>rfl
 | a::c::r=>
   rw[escL_cons2,escR_cons];by_cases hc:c=117
   ·subst hc
    rw[esc1_117,if_pos rfl];simp only[if_true];cases hq:four4 r with
    | mk q o=>
      cases q with
      | none=>rfl
      | some n=>
        simp only;unfold pairL runeC;by_cases hn:n<55296∨57343<n
        ·rw[if_pos hn,if_pos hn];rfl
        ·rw[if_neg hn,if_neg hn]
         cases hl:lowL (List.drop 4 r)with
         | none=>rfl
         | some m=>
           simp only;by_cases h5:56320≤n
           ·rw[if_pos h5,if_pos h5];rfl
           ·rw[if_neg h5,if_neg h5];rfl
   ·rw[if_neg hc,if_neg hc]
    cases he:esc1 c with
    | none=>rfl
    | some b=>
      have hb:=esc1_lt he;simp only[mapE];rw[wr8,if_pos hb];simp
def shS:ByteArray:=⟨#[34,92,98,102,110,114,116]⟩
def shX(c:UInt8):Int:=Lib.indexByte shS.data.toList c
def shOk(c:UInt8):Bool:=decide (c=47)||match esc1 c with
 | none=>decide (shX c= -1)
 | some b=>decide (0≤shX c)&&decide (shX c<7)&&decide ((#[34,92,8,12,10,13,9]:Array UInt8)[(shX c).toNat]?=some b)
theorem shOk_all:∀n,n<256→shOk (UInt8.ofNat n)=true:=by decide +kernel
theorem shOk_c(c:UInt8):shOk c=true:=by have:=shOk_all c.toNat c.toNat_lt;rwa [UInt8.ofNat_toNat]at this
theorem shX_none{c:UInt8}(hc:c≠47)(h:esc1 c=none):shX c= -1:=by have:=shOk_c c;rw[shOk,h]at this;simpa [hc]using this
theorem shX_some{c b:UInt8}(hc:c≠47)(h:esc1 c=some b):∃k:Nat,shX c=(k:Int)∧k<7∧(#[34,92,8,12,10,13,9]:Array UInt8)[k]?=some b:=by
 have:=shOk_c c;rw[shOk,h]at this;simp only[hc,decide_false,Bool.false_or,Bool.and_eq_true,decide_eq_true_eq]at this;exact⟨(shX c).toNat,by omega,by omega,this.2⟩
theorem cidx2(c:UInt8)(w:World):Calls Tryz.prog 176 #[.string ⟨#[34,92,98,102,110,114,116]⟩,.int .u8 (c.toNat:Int)] w fun e w'=>e=.returned (.int .i64 (shX c))∧w'=w:=by
 have h:=Tryz.strings_IndexByte shS (c.toNat:Int) w;rw[show((c.toNat:Int).toNat.toUInt8)=c by simp]at h;exact h
def EP(bp:Nat)(s:ByteArray)(i:Nat)(vL:Value)(dp:Nat)(r:Ending)(w':World):Except Nat (Nat×Nat)→Prop
 | .ok (q,k)=>r=.returned (.int .i32 (q:Int))∧CD bp s (i+k) vL dp w'
 | .error o=>r=.panicked (flt 2 (i+o))∧∃j,CD bp s j vL dp w'
theorem sfx_two{s:ByteArray}{i:Nat}(h:i+1<s.size):sfx s i=s[i]::s[i+1]::sfx s (i+2):=by rw[sfx_cons s i (by omega),sfx_cons s (i+1) h]
section
variable (bp:Nat) (s:ByteArray) (i:Nat) (vL:Value) (dp:Nat) (w:World)
theorem cesc(hs:s.size≤140737488355328)(h:CD bp s i vL dp w)(h1:(sfx s i).head?=some 92):Calls Tryz.prog 183 #[.pointer (some ⟨bp,0,none⟩)] w fun r w'=>EP bp s i vL dp r w' (escR (sfx s i))∧Onl bp w w':=by
 have hi:=head_lt h1;have hn:=cneed_yes bp s i vL dp 92 w hs h h1;rw[show((92:UInt8).toNat:Int)=92 from rfl]at hn;clear h1;by_cases hu:(sfx s (i+1)).head?=some 117
 ·have hi1:=head_lt hu
  have hc:s[i+1]=117:=by rw[sfx_cons s (i+1) hi1]at hu;simpa using hu
  have ht:=fun w' h'=>ctake_yes bp s (i+1) vL dp 117 w' hs h' hu
  rw[show((117:UInt8).toNat:Int)=117 from rfl]at ht;have hr:=fun w' h'=>crune bp s (i+2) vL dp w' hs h' (by omega) (by omega)
  have HE:Hid (escR (sfx s i)=(match four4 (sfx s (i+2))with
   | (none,o)=>.error (2+o)
   | (some n,_)=>match runeC n (sfx s (i+2+4))with|none=>.error 0|some (q,k)=>.ok (q,k))):=by
   show escR (sfx s i)=_
   rw[sfx_two hi1,escR,if_pos hc,sfx_drop]
  clear hu hc;go_enter Tryz.func183,Tryz.ntmps183;go_wp2_with fail
  refine hn.mono ?_;rintro e w1 ⟨rfl,g1,o1⟩;have O1:Hid (Onl bp w w1):=o1;clear o1 hn;go_wp2_with fail
  refine(ht w1 g1).mono ?_;rintro e w2 ⟨rfl,g2,o2⟩;have O2:Hid (Onl bp w w2):=O1.out.trans o2;clear o2 O1 ht;cases hq:four4 (sfx s (i+2))with
  | mk q o=>
    rw[hq]at hr;cases q with
    | none=>
      have HE2:Hid (escR (sfx s i)=.error (2+o)):=by have:=HE.out;rw[hq]at this;exact this
      clear hq HE;go_wp2_with fail
      refine(hr w2 g2).mono ?_;rintro e w3 ⟨⟨rfl,j,g3⟩,o3⟩;have O3:Hid (Onl bp w w3):=O2.out.trans o3;clear o3 O2 hr;go_wp2;refine⟨rfl,?_,O3.out⟩;rw[HE2.out];exact⟨by rw[Nat.add_assoc],j,g3⟩
    | some n=>
      cases hR:runeC n (sfx s (i+2+4))with
      | none=>
        have HE2:Hid (escR (sfx s i)=.error 0):=by have:=HE.out;rw[hq]at this;simp only[hR]at this;exact this
        have hr2:=fun w' h'=>(hr w' h').mono (R':=fun r w''=>r=.panicked (flt 2 i)∧(∃j,CD bp s j vL dp w'')∧Onl bp w' w'') (by
         rintro r w'' ⟨hU,o⟩;simp only[UP,hR]at hU;exact⟨hU.1,hU.2,o⟩)
        clear hq HE hR hr;go_wp2_with fail
        refine(hr2 w2 g2).mono ?_;rintro e w3 ⟨rfl,⟨j,g3⟩,o3⟩;have O3:Hid (Onl bp w w3):=O2.out.trans o3;clear o3 O2 hr2;go_wp2;refine⟨rfl,?_,O3.out⟩;rw[HE2.out];exact⟨rfl,j,g3⟩
      | some x=>
        obtain⟨q,k⟩:=x;have HE2:Hid (escR (sfx s i)=.ok (q,k)):=by have:=HE.out;rw[hq]at this;simp only[hR]at this;exact this
        have hr2:=fun w' h'=>(hr w' h').mono (R':=fun r w''=>r=.returned (.int .i32 (q:Int))∧CD bp s (i+k) vL dp w''∧Onl bp w' w'') (by
         rintro r w'' ⟨hU,o⟩;simp only[UP,hR]at hU;rw[show i+2+k-2=i+k by omega]at hU;exact⟨hU.1,hU.2,o⟩)
        clear hq HE hR hr;go_wp2_with fail
        refine(hr2 w2 g2).mono ?_;rintro e w3 ⟨rfl,g3,o3⟩;have O3:Hid (Onl bp w w3):=O2.out.trans o3;clear o3 O2 hr2;go_wp2;go_ret;refine⟨?_,O3.out⟩;rw[HE2.out];exact⟨rfl,g3⟩
 ·have ht:=fun w' h'=>ctake_no bp s (i+1) vL dp 117 w' h' (by omega) (by decide) hu
  rw[show((117:UInt8).toNat:Int)=117 from rfl]at ht;by_cases hsl:(sfx s (i+1)).head?=some 47
  ·have hi1:=head_lt hsl
   have hc:s[i+1]=47:=by rw[sfx_cons s (i+1) hi1]at hsl;simpa using hsl
   have ht2:=fun w' h'=>ctake_yes bp s (i+1) vL dp 47 w' hs h' hsl
   rw[show((47:UInt8).toNat:Int)=47 from rfl]at ht2;have HE:Hid (escR (sfx s i)=.ok (47,2)):=by
    show escR (sfx s i)=_
    rw[sfx_two hi1,escR,hc,if_neg (by decide)];rfl
   clear hu hsl hc;go_enter Tryz.func183,Tryz.ntmps183;go_wp2_with fail
   refine hn.mono ?_;rintro e w1 ⟨rfl,g1,o1⟩;have O1:Hid (Onl bp w w1):=o1;clear o1 hn;go_wp2_with fail
   refine(ht w1 g1).mono ?_;rintro e w2 ⟨rfl,g2,o2⟩;have O2:Hid (Onl bp w w2):=O1.out.trans o2;clear o2 O1 ht;go_wp2_with fail
   refine(ht2 w2 g2).mono ?_;rintro e w3 ⟨rfl,g3,o3⟩;have O3:Hid (Onl bp w w3):=O2.out.trans o3;clear o3 O2 ht2;go_wp2;go_ret;refine⟨?_,O3.out⟩;rw[HE.out];exact⟨rfl,g3⟩
  ·have ht2:=fun w' h'=>ctake_no bp s (i+1) vL dp 47 w' h' (by omega) (by decide) hsl
   rw[show((47:UInt8).toNat:Int)=47 from rfl]at ht2;have hp:=fun w' h'=>cpeek bp s (i+1) vL dp w' h' (by omega)
   have hx:=fun w'=>cidx2 (pk (sfx s (i+1))) w'
   have n47:pk (sfx s (i+1))≠47:=pk_ne (by decide) hsl;have n117:pk (sfx s (i+1))≠117:=pk_ne (by decide) hu;cases he:esc1 (pk (sfx s (i+1)))with
   | none=>
     rw[shX_none n47 he]at hx;have HE:Hid (escR (sfx s i)=.error 1):=by
      show escR (sfx s i)=_
      by_cases hi1:i+1<s.size
      ·rw[sfx_cons s (i+1) hi1]at he n117
       rw[sfx_two hi1,escR,if_neg (by exact n117)];rw[show pk (s[i+1]::sfx s (i+1+1))=s[i+1]from rfl]at he;rw[he]
      ·rw[sfx_cons s i hi,sfx_nil s (i+1) (by omega)];rfl
     clear he n47 n117 hu hsl;go_enter Tryz.func183,Tryz.ntmps183;go_wp2_with fail
     refine hn.mono ?_;rintro e w1 ⟨rfl,g1,o1⟩;have O1:Hid (Onl bp w w1):=o1;clear o1 hn;go_wp2_with fail
     refine(ht w1 g1).mono ?_;rintro e w2 ⟨rfl,g2,o2⟩;have O2:Hid (Onl bp w w2):=O1.out.trans o2;clear o2 O1 ht;go_wp2_with fail
     refine(ht2 w2 g2).mono ?_;rintro e w3 ⟨rfl,g3,o3⟩;have O3:Hid (Onl bp w w3):=O2.out.trans o3;clear o3 O2 ht2;go_wp2_with fail
     refine(hp w3 g3).mono ?_;rintro e w4 ⟨rfl,g4,o4⟩;have O4:Hid (Onl bp w w4):=O3.out.trans o4;clear o4 O3 hp;go_wp2_with fail
     refine(hx w4).mono ?_;rintro e w5 ⟨rfl,rfl⟩;clear hx;have hf:=cfail bp s (i+1) vL dp w5 g4;go_wp2_with fail
     refine hf.mono ?_;rintro e w6 ⟨rfl,rfl⟩;clear hf;go_wp2;refine⟨rfl,?_,O4.out⟩;rw[HE.out];exact⟨rfl,_,g4⟩
   | some b=>
     obtain⟨k,hk,hk7,hkb⟩:=shX_some n47 he;rw[hk]at hx;have hi1:i+1<s.size:=by
      by_cases hi1:i+1<s.size
      ·exact hi1
      ·rw[sfx_nil s (i+1) (by omega)]at he;cases he
     have HE:Hid (escR (sfx s i)=.ok (b.toNat,2)):=by
      show escR (sfx s i)=_
      rw[sfx_cons s (i+1) hi1]at he n117;rw[sfx_two hi1,escR,if_neg (by exact n117)];rw[show pk (s[i+1]::sfx s (i+1+1))=s[i+1]from rfl]at he;rw[he]
     clear he n47 n117 hu hsl hk;have hk7':(k:Int)<7:=by omega
     have hi1b:(i:Int)+1≤140737488355328:=by omega
     go_enter Tryz.func183,Tryz.ntmps183;go_wp2_with fail
     refine hn.mono ?_;rintro e w1 ⟨rfl,g1,o1⟩;have O1:Hid (Onl bp w w1):=o1;clear o1 hn;go_wp2_with fail
     refine(ht w1 g1).mono ?_;rintro e w2 ⟨rfl,g2,o2⟩;have O2:Hid (Onl bp w w2):=O1.out.trans o2;clear o2 O1 ht;go_wp2_with fail
     refine(ht2 w2 g2).mono ?_;rintro e w3 ⟨rfl,g3,o3⟩;have O3:Hid (Onl bp w w3):=O2.out.trans o3;clear o3 O2 ht2;go_wp2_with fail
     refine(hp w3 g3).mono ?_;rintro e w4 ⟨rfl,g4,o4⟩;have O4:Hid (Onl bp w w4):=O3.out.trans o4;clear o4 O3 hp;go_wp2_with fail
     refine(hx w4).mono ?_;rintro e w5 ⟨rfl,rfl⟩;clear hx;obtain⟨c0,c1,c2,c3,cf⟩:=g4.cell;have f1:=cf 1;have hk8:k=0∨k=1∨k=2∨k=3∨k=4∨k=5∨k=6:=by omega
     clear hk7 hk7';rcases hk8 with rfl|rfl|rfl|rfl|rfl|rfl|rfl
     all_goals
      injection hkb with hkb;have HB:Hid _:=hkb;clear hkb;go_wp2;go_ret;refine⟨?_,Onl.setCell O4.out _ g4⟩;rw[HE.out];refine⟨?_,g4.setI (i+2)⟩;rw[←HB.out];exact congrArg (fun z=>Ending.returned (Value.int .i32 z)) (by decide +kernel)
end
structure GV (w:World):Prop where
 tabs:Lib.Utf8Tabs 0 1 w
 rng:∃tp p,w.var? Tryz.prog "strconv.ErrRange" =some #[.iface tp p]
theorem gn_range:Tryz.prog.globalNamed "strconv.ErrRange" =some 6:=by kernel_rfl
theorem GV.kept{w w':World}(h:GV w)(hk:∀k,k<9→w'.heap[k]?=w.heap[k]?):GV w':=by
 refine⟨⟨fun c hc=>?_,fun i hi=>⟨?_,?_⟩⟩,?_⟩
 ·have:=h.tabs.1 c hc;unfold World.cell? at this ⊢;simp only at this ⊢;rw[hk _ (by decide)];exact this
 ·have:=(h.tabs.2 i hi).1;unfold World.cell? at this ⊢;simp only at this ⊢;rw[hk _ (by decide)];exact this
 ·have:=(h.tabs.2 i hi).2;unfold World.cell? at this ⊢;simp only at this ⊢;rw[hk _ (by decide)];exact this
 ·obtain⟨tp,p,h2⟩:=h.rng
  refine⟨tp,p,?_⟩;unfold World.var? at h2 ⊢;rw[gn_range]at h2 ⊢;simp only[Option.bind_some]at h2 ⊢;rw[hk _ (by decide)];exact h2
theorem GV.onl{bp:Nat}{w w':World}(h:GV w)(ho:Onl bp w w')(hb:9≤bp)(hl:bp<w.heap.size):GV w':=
 h.kept fun k hk=>ho.block k (by omega) (fun e=>by injection e with e;omega)
def seqNat(n b0 b1 b2 b3:Nat):Nat:=
 if b0<128 then 1
 else if b0<194∨244<b0 then 0
 else if(1<n∧seqLo b0≤b1∧b1≤seqHi b0)∧(seqN b0≤2∨(2<n∧128≤b2∧b2≤191))∧(seqN b0≤3∨(3<n∧128≤b3∧b3≤191))then seqN b0 else 0
theorem dec_zero(n b0 b1 b2 b3:Nat)(hn:1≤n)(h0:b0<256)(h1:b1<256)(h2:b2<256)(h3:b3<256)(h:seqNat n b0 b1 b2 b3=0):Lib.decodeN n b0 b1 b2 b3=(65533,1):=by
 unfold seqNat seqLo seqHi seqN at h;unfold Lib.decodeN;repeat' split at h
 all_goals (try (exfalso;omega))
 all_goals (repeat' split)
 all_goals first|rfl|(exfalso;omega)
theorem dec_some(n b0 b1 b2 b3:Nat)(hn:1≤n)(h0:b0<256)(h1:b1<256)(h2:b2<256)(h3:b3<256)(h:seqNat n b0 b1 b2 b3≠0):(Lib.decodeN n b0 b1 b2 b3).2=seqNat n b0 b1 b2 b3∧¬((Lib.decodeN n b0 b1 b2 b3).1=65533∧(Lib.decodeN n b0 b1 b2 b3).2=1)∧(Lib.decodeN n b0 b1 b2 b3).1<1114112:=by
 generalize hq:seqNat n b0 b1 b2 b3=q at h ⊢;unfold seqNat seqLo seqHi seqN at hq;unfold Lib.decodeN;repeat' split at hq
 all_goals (try (exfalso;omega))
 all_goals (repeat' split)
 all_goals first|(exfalso;omega)|(refine⟨?_,?_,?_⟩<;>simp only<;>omega)
theorem goes_get(t:ByteArray)(k lo hi:Nat)(hlo:0<lo):goesL (sfx t 0) k lo hi=decide (k<t.size∧lo≤(t.get! k).toNat∧(t.get! k).toNat≤hi):=by
 by_cases h:k<t.size
 ·rw[goesL,show(sfx t 0)[k]?=some t[k]by have:=sfx_get t 0 k (by omega);simpa using this,Utf8W.get!_of_lt t k h]
  simp[h]
 ·rw[goesL,sfx_get_none t 0 k (by omega)];simp[h]
theorem seqLen_nat(t:ByteArray)(h:0<t.size):seqLen (sfx t 0)=seqNat t.size (t.get! 0).toNat (t.get! 1).toNat (t.get! 2).toNat (t.get! 3).toNat:=by
 have e0:sfx t 0=t[0]::sfx t 1:=sfx_cons t 0 h;have g0:t.get! 0=t[0]:=Utf8W.get!_of_lt t 0 h;have lo0:0<seqLo t[0].toNat:=by unfold seqLo;(repeat' split)<;>omega
 have e1:=goes_get t 1 (seqLo t[0].toNat) (seqHi t[0].toNat) lo0;have e2:=goes_get t 2 128 191 (by omega);have e3:=goes_get t 3 128 191 (by omega);rw[e0]at e1 e2 e3 ⊢;rw[seqLen,seqNat,g0,e1,e2,e3];simp only[Bool.and_eq_true,Bool.or_eq_true,decide_eq_true_eq,and_assoc]
theorem sfx_extract(s:ByteArray)(i:Nat)(h:i≤s.size):sfx (s.extract i s.size) 0=sfx s i:=by
 unfold sfx;rw[extract_list,List.drop_zero,List.take_of_length_le (by simp)]
theorem size_extract'(s:ByteArray)(i:Nat)(h:i≤s.size):(s.extract i s.size).size=s.size-i:=by simp
theorem chr_dec(s:ByteArray)(i:Nat)(h:i<s.size):(seqLen (sfx s i)=0→Lib.decodeGo (s.extract i s.size)=(65533,1))∧(seqLen (sfx s i)≠0→(Lib.decodeGo (s.extract i s.size)).2=seqLen (sfx s i)∧¬((Lib.decodeGo (s.extract i s.size)).1=65533∧(Lib.decodeGo (s.extract i s.size)).2=1)):=by
 have hz:=size_extract' s i (by omega);rw[←sfx_extract s i (by omega)];generalize s.extract i s.size=t at hz;have ht:0<t.size:=by omega
 rw[seqLen_nat t ht];unfold Lib.decodeGo;rw[if_neg (by omega),Lib.decode_at];have b:∀k,(t.get! k).toNat<256:=fun k=>(t.get! k).toNat_lt
 exact⟨fun h=>dec_zero t.size _ _ _ _ (by omega) (b 0) (b 1) (b 2) (b 3) h,fun h=>⟨(dec_some t.size _ _ _ _ (by omega) (b 0) (b 1) (b 2) (b 3) h).1,(dec_some t.size _ _ _ _ (by omega) (b 0) (b 1) (b 2) (b 3) h).2.1⟩⟩
theorem seqLen_le(s:ByteArray)(i:Nat):i+seqLen (sfx s i)≤s.size∨seqLen (sfx s i)=0:=by
 by_cases h:i<s.size
 ·have hz:=size_extract' s i (by omega)
  rw[←sfx_extract s i (by omega)];generalize s.extract i s.size=t at hz;rw[seqLen_nat t (by omega)];unfold seqNat seqN;repeat' split
  all_goals omega
 ·rw[sfx_nil s i (by omega)];exact .inr rfl
section
variable (bp:Nat) (s:ByteArray) (i:Nat) (vL:Value) (dp:Nat) (w:World)
theorem cdecode(hbp:9≤bp)(t:ByteArray)(h:CD bp s i vL dp w)(hG:GV w):Calls Tryz.prog 212 #[.string t] w fun e w'=>e=.returned (.tuple #[.int .i32 ((Lib.decodeGo t).1:Int),.int .i64 ((Lib.decodeGo t).2:Int)])∧CD bp s i vL dp w'∧Onl bp w w':=by
 refine(Tryz.utf8_DecodeRuneInString t w hG.tabs).mono ?_;rintro e w' ⟨rfl,hb⟩;exact⟨rfl,(hb.block bp h.lt).trans h,onl_below hb⟩
theorem cchar_bad(hs:s.size≤140737488355328)(hbp:9≤bp)(h:CD bp s i vL dp w)(hG:GV w)(hi:i≤s.size)(hb:(pk (sfx s i)).toNat<32∨seqLen (sfx s i)=0):Calls Tryz.prog 184 #[.pointer (some ⟨bp,0,none⟩)] w fun r w'=>r=.panicked (flt 2 i)∧CD bp s i vL dp w'∧Onl bp w w':=by
 have hd:=cdecode bp s i vL dp w hbp (s.extract i s.size) h hG;have hp:=fun w' h'=>cpeek bp s i vL dp w' h' hi
 have hf:=fun w' h'=>cfail bp s i vL dp w' h'
 obtain⟨c0,c1,c2,c3,cf⟩:=h.cell;have hi':(i:Int)≤(s.size:Int):=by omega
 by_cases h32:(pk (sfx s i)).toNat<32
 ·have h32':((pk (sfx s i)).toNat:Int)<32:=by omega
  clear hb h32;generalize Lib.decodeGo (s.extract i s.size)=D at hd;go_enter Tryz.func184,Tryz.ntmps184;go_wp2_with fail
  refine hd.mono ?_;rintro e w1 ⟨rfl,g1,o1⟩;have O1:Hid (Onl bp w w1):=o1;clear o1 hd c0 c1 c2 c3 cf;go_wp2_with fail
  refine(hp w1 g1).mono ?_;rintro e w2 ⟨rfl,g2,o2⟩;have O2:Hid (Onl bp w w2):=O1.out.trans o2;clear o2 hp O1;go_wp2_with fail
  refine(hf w2 g2).mono ?_;rintro e w3 ⟨rfl,rfl⟩;clear hf;go_wp2;exact⟨rfl,rfl,g2,O2.out⟩
 ·have h0:seqLen (sfx s i)=0:=by rcases hb with hb|hb;exact absurd hb h32;exact hb
  have his:i<s.size:=by
   by_cases his:i<s.size
   ·exact his
   ·rw[sfx_nil s i (by omega)]at h32;exact absurd (by decide) h32
  rw[(chr_dec s i his).1 h0]at hd;have h32':¬((pk (sfx s i)).toNat:Int)<32:=by omega
  clear hb h32 h0;go_enter Tryz.func184,Tryz.ntmps184;go_wp2_with fail
  refine hd.mono ?_;rintro e w1 ⟨rfl,g1,o1⟩;have O1:Hid (Onl bp w w1):=o1;clear o1 hd c0 c1 c2 c3 cf;go_wp2_with fail
  refine(hp w1 g1).mono ?_;rintro e w2 ⟨rfl,g2,o2⟩;have O2:Hid (Onl bp w w2):=O1.out.trans o2;clear o2 hp O1;go_wp2_with fail
  refine(hf w2 g2).mono ?_;rintro e w3 ⟨rfl,rfl⟩;clear hf;go_wp2;exact⟨rfl,rfl,g2,O2.out⟩
theorem cchar_ok(hs:s.size≤140737488355328)(hbp:9≤bp)(h:CD bp s i vL dp w)(hG:GV w)(h32:¬(pk (sfx s i)).toNat<32)(hq:seqLen (sfx s i)≠0):Calls Tryz.prog 184 #[.pointer (some ⟨bp,0,none⟩)] w fun r w'=>r=.returned (.string (s.extract i (i+seqLen (sfx s i))))∧CD bp s (i+seqLen (sfx s i)) vL dp w'∧Onl bp w w':=by
 have his:i<s.size:=by
  by_cases his:i<s.size
  ·exact his
  ·rw[sfx_nil s i (by omega)]at h32;exact absurd (by decide) h32
 have hd:=cdecode bp s i vL dp w hbp (s.extract i s.size) h hG;obtain⟨hD,hN⟩:=(chr_dec s i his).2 hq;have hle:i+seqLen (sfx s i)≤s.size:=by rcases seqLen_le s i with h|h;exact h;exact absurd h hq
 have hp:=fun w' h'=>cpeek bp s i vL dp w' h' (by omega)
 obtain⟨c0,c1,c2,c3,cf⟩:=h.cell;have hi':(i:Int)≤(s.size:Int):=by omega
 have h32':¬((pk (sfx s i)).toNat:Int)<32:=by omega
 rw[hD]at hd hN;generalize (Lib.decodeGo (s.extract i s.size)).1=R at hd hN;generalize seqLen (sfx s i)=K at *;have hKb:(K:Int)+(i:Int)≤140737488355328:=by omega
 have hK0:(i:Int)≤(i:Int)+(K:Int):=by omega
 have hK1:(i:Int)+(K:Int)≤(s.size:Int):=by omega
 by_cases hR:R=65533
 ·have hK:((K:Int)==1)=false:=by rw[beq_eq_false_iff_ne];intro e;exact hN ⟨hR,by omega⟩
  subst hR;clear hN h32 hD;go_enter Tryz.func184,Tryz.ntmps184;go_wp2_with fail
  refine hd.mono ?_;rintro e w1 ⟨rfl,g1,o1⟩;have O1:Hid (Onl bp w w1):=o1;clear o1 hd c0 c1 c2 c3 cf;go_wp2_with fail
  refine(hp w1 g1).mono ?_;rintro e w2 ⟨rfl,g2,o2⟩;have O2:Hid (Onl bp w w2):=O1.out.trans o2;clear o2 hp O1;obtain⟨c0,c1,c2,c3,cf⟩:=g2.cell;have f1:=cf 1;go_wp2_with fail
  have g3:CD bp s (i+K) vL dp (w2.setCell ⟨bp,1,none⟩ (.int .i64 ((i:Int)+(K:Int)))):=g2.setI (i+K);have O3:Hid (Onl bp w (w2.setCell ⟨bp,1,none⟩ (.int .i64 ((i:Int)+(K:Int))))):=Onl.setCell O2.out _ g2;generalize w2.setCell ⟨bp,1,none⟩ (.int .i64 ((i:Int)+(K:Int)))=w3 at g3 O3;clear c0 c1 c2 c3 cf f1 g2 O2 w2;obtain⟨c0,c1,c2,c3,cf⟩:=g3.cell;rw[show((i+K:Nat):Int)=(i:Int)+(K:Int)by omega]at c1;go_quiet (fail);go_wp2;go_ret;refine⟨?_,g3.drewN _,Onl.drewN O3.out _⟩;rfl
 ·have hR':((R:Int)==65533)=false:=by rw[beq_eq_false_iff_ne];intro e;exact hR (by omega)
  clear hN h32 hD hR;go_enter Tryz.func184,Tryz.ntmps184;go_wp2_with fail
  refine hd.mono ?_;rintro e w1 ⟨rfl,g1,o1⟩;have O1:Hid (Onl bp w w1):=o1;clear o1 hd c0 c1 c2 c3 cf;go_wp2_with fail
  refine(hp w1 g1).mono ?_;rintro e w2 ⟨rfl,g2,o2⟩;have O2:Hid (Onl bp w w2):=O1.out.trans o2;clear o2 hp O1;obtain⟨c0,c1,c2,c3,cf⟩:=g2.cell;have f1:=cf 1;go_wp2_with fail
  have g3:CD bp s (i+K) vL dp (w2.setCell ⟨bp,1,none⟩ (.int .i64 ((i:Int)+(K:Int)))):=g2.setI (i+K);have O3:Hid (Onl bp w (w2.setCell ⟨bp,1,none⟩ (.int .i64 ((i:Int)+(K:Int))))):=Onl.setCell O2.out _ g2;generalize w2.setCell ⟨bp,1,none⟩ (.int .i64 ((i:Int)+(K:Int)))=w3 at g3 O3;clear c0 c1 c2 c3 cf f1 g2 O2 w2;obtain⟨c0,c1,c2,c3,cf⟩:=g3.cell;rw[show((i+K:Nat):Int)=(i:Int)+(K:Int)by omega]at c1;go_quiet (fail);go_wp2;go_ret;refine⟨?_,g3.drewN _,Onl.drewN O3.out _⟩;rfl
end
def OwnZ(B:Nat)(e:TypeId)(v:Value)(l:List UInt8)(w:World):Prop:=
 (v=.slice none 0 0∧l=[])∨
 ∃g cap cur,v=.slice (some ⟨g,0,none⟩) l.length cap∧B≤g∧w.heap[g]?=some (.cells cur e (0,0))∧l.length≤cap∧cap≤maxLen∧cur.size=cap∧cur.toList.take l.length=l.map byteV
theorem OwnZ.b{B:Nat}{e:TypeId}{v:Value}{l:List UInt8}{w:World}(h:OwnZ B e v l w):OwnB B e v l w:=by
 rcases h with h|⟨g,cap,cur,a1,a2,a3,a4,a5,a6,a7⟩
 ·exact .inl h
 ·exact .inr ⟨g,cap,cur,(0,0),a1,a2,a3,.inl (Nat.zero_le _),a4,a5,a6,a7⟩
theorem OwnZ.row{B:Nat}{e:TypeId}{v:Value}{l:List UInt8}{w:World}(h:OwnZ B e v l w):w.ownsRow B e 1 v l.length (l.map byteV):=by
 refine⟨by simp,?_⟩;rcases h with⟨a,b⟩|⟨g,cap,cur,a1,a2,a3,a4,a5,a6,a7⟩
 ·exact .inl ⟨a,by rw[b];rfl⟩
 ·exact .inr ⟨g,cap,cur,a1,a2,a3,a4,a5,by omega,by rw[Nat.mul_one];exact a7⟩
theorem OwnZ.of{B:Nat}{e:TypeId}{v:Value}{l:List UInt8}{w:World}{n:Nat}(hn:n=l.length)(h:w.ownsRow B e 1 v n (l.map byteV)):OwnZ B e v l w:=by
 subst hn;rcases h.2 with⟨a,b⟩|⟨g,cap,cur,a1,a2,a3,a4,a5,a6,a7⟩
 ·exact .inl ⟨a,List.length_eq_zero_iff.1 b⟩
 ·exact .inr ⟨g,cap,cur,a1,a2,a3,a4,a5,by omega,by rw[Nat.mul_one]at a7;exact a7⟩
theorem OwnZ.onl{bp B:Nat}{e:TypeId}{v:Value}{l:List UInt8}{wa wb:World}(h:OwnZ B e v l wa)(ho:Onl bp wa wb)(hlt:bp<B):OwnZ B e v l wb:=by
 rcases h with h|⟨g,cap,cur,hv,hB,hg,rest⟩
 ·exact .inl h
 ·refine .inr ⟨g,cap,cur,hv,hB,?_,rest⟩
  have:=(Array.getElem?_eq_some_iff.1 hg).1;rw[ho.block _ this (fun e=>by injection e with e;omega)];exact hg
theorem appZ{P:Program}(w:World)(t u ty e:TypeId)(i:TypeInfo)(ht:P.underlying t=some (.slice e))(hu:P.underlying u=some .string)(hi:P.info? e=some i)(hz:i.zero=some (.int .u8 0))(hsize:i.size=1)(hby:i.bytes=1)(B:Nat)(v:Value)(l:List UInt8)(s:ByteArray)(hown:OwnZ B e v l w)(hB:B≤w.heap.size)(hlen:l.length+s.size≤140737488355328):∃v' w',(Builtin.append_ #[t,u] ty #[v,.string s]).run P w=.ok v' w'∧OwnZ B e v' (l++s.data.toList) w'∧Below B w w':=by
 have hsrc:Src P i.size u (.string s) s.size (byteCells s) w:=by rw[hsize];exact Src.ofString w hu s
 have h63:l.length+s.size≤maxLen:=by unfold maxLen;omega
 have hsl:s.data.toList.length=s.size:=by simp
 by_cases hs0:s.size=0
 ·have hsd:s.data.toList=[]:=List.length_eq_zero_iff.1 (by omega)
  rw[hsd,List.append_nil];rcases hown with⟨rfl,rfl⟩|⟨g,cap,cur,rfl,hBg,hg,hlc,hcm,hcs,htk⟩
  ·refine⟨.slice none 0 0,w,?_,.inl ⟨rfl,rfl⟩,Below.refl _ _⟩
   simp[Builtin.append_,run_underlying ht,run_underlying hu,sizeOf,typeInfo,hi,Builtin.lenOf,Builtin.firstCells,hs0]
  ·have hr:=run_append_room_src (P:=P) w t u ty e i ht hi g 0 l.length cap (.string s) s.size (byteCells s) hsrc (by omega) (by intro j hj;rw[byteCells_length]at hj;omega) (by intro j hj;rw[byteCells_length]at hj;omega)
   have hbc:byteCells s=[]:=by rw[byteCells_eq,hsd];rfl
   rw[hbc]at hr;refine⟨_,_,hr,.inr ⟨g,cap,cur,by rw[hs0];rfl,hBg,hg,hlc,hcm,hcs,htk⟩,Below.refl _ _⟩
 ·rcases hown with⟨rfl,rfl⟩|⟨g,cap,cur,rfl,hBg,hg,hlc,hcm,hcs,htk⟩
  ·have hr:=run_append_grow_src (P:=P) w t u ty e i (.int .u8 0) ht hi hz none 0 0 [] (by simp[Builtin.firstCells]) (.string s) s.size (byteCells s) hsrc (by omega) (by simp at hlen ⊢;omega) (by rw[hby];exact growslice_fits (by omega) (by simp at hlen ⊢;omega))
   rw[Nat.zero_add]at hr;have hge:=grownCap_ge w s.size 0 e;have hm:=grownCap_le_maxLen w s.size 0 e (by simpa using h63);generalize grownCap w s.size 0 e=c at hr hge hm;refine⟨_,_,hr,?_,((Below.refl B w).drew).alloc (by show B≤w.heap.size;omega) _⟩;refine .inr ⟨w.heap.size,c,_,by simp,hB,heap_alloc_new w.drew _,by simp;omega,hm,?_,?_⟩
   ·have hz1:(Value.int IntKind.u8 0).cells.size=1:=rfl
    simp only[Array.size_append,List.size_toArray,size_zeroCells,hz1,List.length_append,byteCells_length,List.length_nil];omega
   ·rw[byteCells_eq]
    simp only[Array.toList_append,List.nil_append];rw[List.take_left' (by simp)]
  ·by_cases hroom:l.length+s.size≤cap
   ·have hcc:∀j,j<(byteCells s).length→(w.cell? ⟨g,0+l.length*i.size+j,none⟩).isSome=true:=by
     intro j hj;rw[byteCells_length]at hj;rw[hsize,cell_of_row w g _ cur e (0,0) hg];simp;omega
    have hff:∀j,j<(byteCells s).length→w.frozen? ⟨g,0+l.length*i.size+j,none⟩=false:=by
     intro j hj;rw[byteCells_length]at hj;simp[World.frozen?,hg]
    have hr:=run_append_room_src (P:=P) w t u ty e i ht hi g 0 l.length cap (.string s) s.size (byteCells s) hsrc hroom hcc hff;obtain⟨cur',a1,a2,a3,a4⟩:=setCells_row (byteCells s) (0+l.length*i.size) w cur hg (by rw[byteCells_length,hsize];omega);refine⟨_,_,hr,.inr ⟨g,cap,cur',by simp,hBg,a1,by simp;omega,hcm,by omega,?_⟩,a4 B hBg⟩
    ·rw[a3,hsize,Nat.zero_add,Nat.mul_one,htk,byteCells_eq]
     rw[List.take_left' (by simp)];simp
   ·have holds:=OwnB.cells (B:=B) (cap:=cap) hg htk
    have hold:(Builtin.firstCells i.size l.length (.slice (some ⟨g,0,none⟩) l.length cap)).run P w.drew=.ok (l.map byteV).toArray w.drew:=by
     rw[hsize];exact run_firstCells_some (P:=P) w.drew 1 l.length ⟨g,0,none⟩ l.length cap (l.map byteV) (by simp) (by simpa using holds)
    have hr:=run_append_grow_src (P:=P) w t u ty e i (.int .u8 0) ht hi hz (some ⟨g,0,none⟩) l.length cap (l.map byteV) hold (.string s) s.size (byteCells s) hsrc (by omega) (by unfold maxLen at h63;omega) (by rw[hby];exact growslice_fits (by omega) (by omega));have hge:=grownCap_ge w (l.length+s.size) cap e;have hm:=grownCap_le_maxLen w (l.length+s.size) cap e h63;generalize grownCap w (l.length+s.size) cap e=c at hr hge hm;refine⟨_,_,hr,?_,((Below.refl B w).drew).alloc (by show B≤w.heap.size;omega) _⟩;refine .inr ⟨w.heap.size,c,_,by simp,hB,heap_alloc_new w.drew _,by simp;omega,hm,?_,?_⟩
    ·have hz1:(Value.int IntKind.u8 0).cells.size=1:=rfl
     simp only[Array.size_append,List.size_toArray,size_zeroCells,hz1,List.length_append,byteCells_length,List.length_map];omega
    ·rw[byteCells_eq]
     simp only[Array.toList_append];rw[←List.map_append,List.take_left' (by simp)]
theorem wp_appZ{P:Program}{ops:Array Oper}{rest:List Oper}{o:Oper}{a:Act}{Q:Exit→Act→World→Prop}{w:World}(hgd:o.guard=none)(x y:Operand)(t u:TypeId)(ho:o.op=.call {callee:=.builtin .append,args:= #[x,y],argTypes:= #[t,u]})
 (e:TypeId) (i:TypeInfo) (ht:P.underlying t=some (.slice e)) (hu:P.underlying u=some .string) (hi:P.info? e=some i) (hz:i.zero=some (.int .u8 0)) (hsize:i.size=1) (hby:i.bytes=1)
 (B:Nat) (v:Value) (l:List UInt8) (s:ByteArray) (hx:a.eval x=v) (hy:a.eval y=.string s) (hlen:l.length+s.size≤140737488355328) (hown:OwnZ B e v l w) (hB:B≤w.heap.size)
 (h:∀v' w',OwnZ B e v' (l++s.data.toList) w'→Below B w w'→wpList P ops Q rest (a.put o.dst v') w'):wpList P ops Q (o::rest) a w:=by
 refine wpList_plain hgd fun K hK=>?_
 obtain⟨v',w',hr,h2,h3⟩:=appZ (P:=P) w t u o.type e i ht hu hi hz hsize hby B v l s hown hB hlen;unfold Oper.wp execOp;simp only[ho,resolve,invoke,builtin,Sem.run_bind,Sem.run_pure,Result.andThen_ok,List.map_toArray,List.map_cons,List.map_nil,hx,hy,hr];exact hK _ _ (h v' w' h2 h3)
theorem runeCells_wr8(q:Nat)(h:(q<55296∨57343<q)∧q≤1114111):Lib.runeCells (q:Int)=(wr8 q).map byteV:=by
 have hb:∀n:Nat,n<256→byteV (UInt8.ofNat n)=Value.int .u8 (n:Int):=by
  intro n hn;unfold byteV;rw[UInt8.toNat_ofNat_of_lt' (by simpa [UInt8.size]using hn)]
 unfold Lib.runeCells wr8;split
 ·rw[Lib.encodeRuneZ_one (by omega) (by omega)];simp[hb q (by omega)]
 ·split
  ·rw[Lib.encodeRuneZ_two (by omega) (by omega)];simp only[List.map_cons,List.map_nil];rw[hb _ (by omega),hb _ (by omega)];simp
  ·split
   ·rw[Lib.encodeRuneZ_three (by omega)];simp only[List.map_cons,List.map_nil];rw[hb _ (by omega),hb _ (by omega),hb _ (by omega)];simp
   ·rw[Lib.encodeRuneZ_four (by omega) (by omega)];simp only[List.map_cons,List.map_nil];rw[hb _ (by omega),hb _ (by omega),hb _ (by omega),hb _ (by omega)];simp
theorem cappR(B:Nat)(v:Value)(l:List UInt8)(q:Nat)(hq:(q<55296∨57343<q)∧q≤1114111)(w:World)(hown:OwnZ B 5 v l w)(hlen:l.length+4≤140737488355328)(hB:B≤w.heap.size):Calls Tryz.prog 182 #[v,.int .i32 (q:Int)] w fun e w'=>∃v',e=.returned v'∧OwnZ B 5 v' (l++wr8 q) w'∧Below B w w':=by
 have hnb:∀k,k<B→some k≠v.ownBlock:=by
  intro k hk e;rcases hown with⟨a,b⟩|⟨g,cap,cur,a1,a2,_⟩
  ·rw[a]at e;cases e
  ·rw[a1]at e;injection e with e;dsimp only at e;omega
 refine(Tryz.utf8_AppendRune_plain B v l.length (l.map byteV) (q:Int) (by omega) (by omega) w hown.row hlen hB).mono ?_;rintro e w' ⟨v',rfl,h1,o,h2⟩;refine⟨v',rfl,?_,?_⟩
 ·rw[runeCells_wr8 q hq,←List.map_append]at h1
  exact OwnZ.of (by simp) h1
 ·have hz:=h2.size
  refine⟨h2.os,h2.tape,h2.output,by simp at hz;omega,fun k hk=>?_⟩;rw[h2.block k (by simp;omega) (hnb k hk),heap_alloc_old _ _ (by omega)]
theorem lowL_len{s:ByteArray}{j m:Nat}(h:lowL (sfx s j)=some m):j+6≤s.size:=by
 by_cases h1:(sfx s j).head?=some 92
 ·by_cases h2:(sfx s (j+1)).head?=some 117
  ·rw[lowL_yes h1 h2]at h
   cases hq:four4 (sfx s (j+2))with
   | mk q o=>
     rw[hq]at h;cases q with
     | none=>cases h
     | some n=>have:=four_len hq;omega
  ·rw[lowL_no2 h2]at h;cases h
 ·rw[lowL_no1 h1]at h;cases h
theorem escR_ok{s:ByteArray}{p q k:Nat}(h:escR (sfx s p)=.ok (q,k)):p+k≤s.size∧2≤k∧k≤12∧(q<55296∨57343<q)∧q≤1114111:=by
 by_cases h1:p+1<s.size
 ·rw[sfx_two h1,escR_cons]at h
  by_cases hc:s[p+1]=117
  ·rw[if_pos hc]at h
   cases hq:four4 (sfx s (p+2))with
   | mk x o=>
     rw[hq]at h;cases x with
     | none=>cases h
     | some n=>
       have hl:=four_len hq;have hn:=four4_n hq;simp only at h;rw[sfx_drop]at h;cases hr:runeC n (sfx s (p+2+4))with
       | none=>rw[hr]at h;cases h
       | some y=>
         obtain⟨a,b⟩:=y;rw[hr]at h;injection h with h;injection h with h1 h2;subst h1;subst h2;unfold runeC at hr;split at hr
         ·injection hr with hr;injection hr with h1 h2;subst h1;subst h2;omega
         ·split at hr
          ·cases hr
          ·next m hm=>
           have hm2:=lowL_len hm;have hm3:=lowL_n hm;split at hr
           ·cases hr
           ·injection hr with hr;injection hr with h1 h2;subst h1;subst h2;omega
  ·rw[if_neg hc]at h
   cases he:esc1 s[p+1]with
   | none=>rw[he]at h;cases h
   | some b=>
     rw[he]at h;have:=esc1_lt he;injection h with h;injection h with h1 h2;subst h1;subst h2;omega
 ·by_cases h0:p<s.size
  ·rw[sfx_cons s p h0,sfx_nil s (p+1) (by omega)]at h;cases h
  ·rw[sfx_nil s p (by omega)]at h;cases h
section
variable (bp:Nat) (s:ByteArray) (i:Nat) (vL:Value) (dp:Nat) (w:World)
def CQ(R:Except Nat (List UInt8×Nat))(r:Ending)(w':World):Prop:=
 match R with
 | .ok (t,n)=>r=.returned (.string ⟨t.toArray⟩)∧CD bp s (i+n) vL dp w'
 | .error o=>r=.panicked (flt 2 (i+o))∧∃j,CD bp s j vL dp w'
theorem CD.belowB{j:Nat}{w' wr:World}(h:CD bp s j vL dp wr)(hlt:bp<w.heap.size)(hb:Below w.heap.size wr w'):CD bp s j vL dp w':=by
 unfold CD;rw[hb.block _ hlt];exact h
theorem cquot(hs:s.size≤140737488340000)(hbp:9≤bp)(h:CD bp s i vL dp w)(hG:GV w)(hi:i≤s.size):Calls Tryz.prog 151 #[.pointer (some ⟨bp,0,none⟩)] w fun r w'=>CQ bp s i vL dp (quotL (sfx s i)) r w'∧Onl bp w w':=by
 have hlt:=h.lt;obtain⟨i0,hi0,hz0,hz1,hz2⟩:=info_parts u8infoJ;have HI:Hid _:=hi0;clear hi0;by_cases hq:(sfx s i).head?=some 34
 ·have hi:=head_lt hq
  have hsi:s[i]=34:=by rw[sfx_cons s i hi]at hq;simpa using hq
  have hR:quotL (sfx s i)=(match strL (sfx s (i+1))with| .ok (t,n)=>.ok (t,n+1)| .error o=>.error (o+1)):=by
   rw[sfx_cons s i hi,quotL,if_pos hsi];rfl
  have HR:Hid _:=hR;clear hR;have hm:=cneed_yes bp s i vL dp 34 w (by omega) h hq;rw[show((34:UInt8).toNat:Int)=34 from rfl]at hm;clear hq hsi;go_enter Tryz.func151,Tryz.ntmps151;go_wp2_with fail
  refine hm.mono ?_;rintro e w1 ⟨rfl,h1,o1⟩;have H1:Hid (CD bp s (i+1) vL dp w1):=h1;have O1:Hid (Onl bp w w1):=o1;clear h1 o1 hm;go_wp2_with fail
  go_loopw [3] (fun v wr=>∃k f acc,(sfx s (i+1+k)).length<f∧i+1+k≤s.size∧acc.length≤k∧strL (sfx s (i+1))=shiftS acc k (strF f (sfx s (i+1+k)))∧OwnZ w.heap.size 5 v acc wr∧CD bp s (i+1+k) vL dp wr∧Onl bp w wr) (fun _ wr=>s.size+1-posOf (wr.cell? ⟨bp,1,none⟩))
  case atStart=>
   refine⟨0,(sfx s (i+1)).length+1,[],by simp,by omega,by simp,?_,.inl ⟨rfl,rfl⟩,H1.out,O1.out⟩;show strL (sfx s (i+1))=shiftS [] 0 (strF ((sfx s (i+1)).length+1) (sfx s (i+1)))
   unfold strL;cases strF ((sfx s (i+1)).length+1) (sfx s (i+1))with
   | ok p=>obtain⟨a,b⟩:=p;simp[shiftS]
   | error o=>simp[shiftS]
  case round=>
   clear H1 O1;obtain⟨k,f,acc,hf,hk,hal,he,hown,hrd,ho⟩:=hrel;have HO:Hid (Onl bp w wr):=ho;have hGr:GV wr:=hG.onl ho hbp hlt;clear ho;generalize hp:i+1+k=p at hf hk he hrd;have HP:Hid (i+1+k=p):=hp;have HE:Hid (strL (sfx s (i+1))=shiftS acc k (strF f (sfx s p))):=he;have HW:Hid (OwnZ w.heap.size 5 u3 acc wr):=hown;have HM:Hid (posOf (wr.cell? ⟨bp,1,none⟩)=p):=cpos_rd hrd;obtain⟨f,rfl⟩:∃g,f=g+1:=⟨f-1,by omega⟩;have hacc:acc.length≤140737488340020:=by omega
   have HA:Hid (acc.length≤140737488340020):=hacc;clear hp he hown hacc;by_cases h34:(sfx s p).head?=some 34
   ·have ht:=ctake_yes bp s p vL dp 34 wr (by omega) hrd h34
    rw[show((34:UInt8).toNat:Int)=34 from rfl]at ht;have hF:strF (f+1) (sfx s p)=.ok ([],1):=by
     have hps:=head_lt h34;rw[sfx_cons s p hps]at h34 ⊢;have h34:s[p]=34:=by simpa using h34
     rw[strF];simp[h34]
    have HF:Hid _:=hF;clear h34 hF hf hk;go_wp2_with fail
    refine ht.mono ?_;rintro e w3 ⟨rfl,h3,o3⟩;have H3:Hid (CD bp s (p+1) vL dp w3):=h3;have O3:Hid (Onl bp w w3):=Onl.trans HO.out o3;have hs3:=(HW.out.onl o3 hlt).b.str (P:=Tryz.prog) (t:=78) (d:=9) Tryz.underlying78 Tryz.underlying5 Tryz.underlying9;clear h3 o3 ht HO HW;go_wp2;go_ret;refine⟨?_,O3.out⟩;have e1:=HE.out;rw[HF.out]at e1;have e2:shiftS acc k (.ok ([],1))=.ok (acc,k+1):=by simp[shiftS]
    rw[HR.out,e1,e2];refine⟨rfl,?_⟩;have:i+(k+1+1)=p+1:=by have:=HP.out;omega
    rw[this];exact H3.out
   ·have ht:=ctake_no bp s p vL dp 34 wr hrd hk (by decide) h34
    rw[show((34:UInt8).toNat:Int)=34 from rfl]at ht;have hpk:=fun w' h'=>cpeek bp s p vL dp w' h' hk
    by_cases h92:(sfx s p).head?=some 92
    ·have hps:=head_lt h92
     have hs92:s[p]=92:=by rw[sfx_cons s p hps]at h92;simpa using h92
     have hb92:(((pk (sfx s p)).toNat:Int)==92)=true:=by rw[pk_head h92];rfl
     have hes:=fun w' h'=>cesc bp s p vL dp w' (by omega) h' h92
     have hFF:strF (f+1) (sfx s p)=(match escL (sfx s p)with| .error o=>.error o| .ok (t,n)=>shiftS t n (strF f ((sfx s p).drop n))):=by
      rw[sfx_cons s p hps,strF];simp[hs92];rfl
     rw[escL_R]at hFF;cases hE2:escR (sfx s p)with
     | error o=>
       rw[hE2]at hFF hes;have HF:Hid (strF (f+1) (sfx s p)=.error o):=hFF;clear hFF hE2 hs92 h34 h92 hf hk;go_wp2_with fail
       refine ht.mono ?_;rintro e w2 ⟨rfl,h2,o2⟩;have O2:Hid (Onl bp w w2):=Onl.trans HO.out o2;clear o2 ht HO;go_wp2_with fail
       refine(hpk w2 h2).mono ?_;rintro e w3 ⟨rfl,h3,o3⟩;have O3:Hid (Onl bp w w3):=Onl.trans O2.out o3;clear o3 hpk O2;go_wp2_with fail
       refine(hes w3 h3).mono ?_;rintro e w4 ⟨⟨rfl,j,h4⟩,o4⟩;have O4:Hid (Onl bp w w4):=Onl.trans O3.out o4;clear o4 hes O3;go_wp2;refine⟨rfl,?_,O4.out⟩;have e1:=HE.out;rw[HF.out]at e1;rw[HR.out,e1];refine⟨?_,j,h4⟩;rw[show i+(k+o+1)=p+o by have:=HP.out;omega]
     | ok q=>
       obtain⟨q,n⟩:=q;obtain⟨hb1,hb2,hb3,hb4⟩:=escR_ok hE2;rw[hE2]at hFF hes;have HF:Hid (strF (f+1) (sfx s p)=shiftS (wr8 q) n (strF f ((sfx s p).drop n))):=hFF;have HL:Hid ((sfx s p).length<f+1):=hf;have HB:Hid (p+n≤s.size∧2≤n∧n≤12):=⟨hb1,hb2,hb3⟩;have HB2:Hid ((wr8 q).length≤n):=by
        have e:=escL_R (sfx s p);rw[hE2]at e;exact(escL_ok e).1
       have HQ:Hid ((q<55296∨57343<q)∧q≤1114111):=hb4;clear hFF hE2 hs92 h34 h92 hf hk hb1 hb2 hb3 hb4;go_wp2_with fail
       refine ht.mono ?_;rintro e w2 ⟨rfl,h2,o2⟩;have O2:Hid (Onl bp w w2):=Onl.trans HO.out o2;have W2:Hid (OwnZ w.heap.size 5 u3 acc w2):=HW.out.onl o2 hlt;clear o2 ht HO HW;go_wp2_with fail
       refine(hpk w2 h2).mono ?_;rintro e w3 ⟨rfl,h3,o3⟩;have O3:Hid (Onl bp w w3):=Onl.trans O2.out o3;have W3:Hid (OwnZ w.heap.size 5 u3 acc w3):=W2.out.onl o3 hlt;clear o3 hpk O2 W2;go_wp2_with fail
       refine(hes w3 h3).mono ?_;rintro e w4 ⟨⟨rfl,h4⟩,o4⟩;have O4:Hid (Onl bp w w4):=Onl.trans O3.out o4;have W4:Hid (OwnZ w.heap.size 5 u3 acc w4):=W3.out.onl o4 hlt;have hz4:=O4.out.size;clear o4 hes O3 W3;have hap:=cappR w.heap.size u3 acc q HQ.out w4 W4.out (by have:=HA.out;omega) hz4;go_wp2_with fail
       refine hap.mono ?_;rintro e w5 ⟨v5,rfl,h5,b5⟩;have W5:Hid _:=h5;have H5:Hid (CD bp s (p+n) vL dp w5):=CD.belowB bp s vL dp w h4 hlt b5;have O5:Hid (Onl bp w w5):=onl_belowB bp w O4.out b5;clear h5 b5 hap h4;go_wp2;refine⟨⟨k+n,f,acc++wr8 q,?_,?_,?_,?_,W5.out,?_,O5.out⟩,?_⟩
       ·have:=HL.out;have:=HB.out;have:=HP.out;rw[sfx_length]at *;omega
       ·have:=HB.out;have:=HP.out;omega
       ·have:=HB2.out;simp;omega
       ·rw[HE.out,HF.out,shiftS_shiftS,sfx_drop,show i+1+(k+n)=p+n by have:=HP.out;omega]
       ·rw[show i+1+(k+n)=p+n by have:=HP.out;omega];exact H5.out
       ·rw[HM.out,cpos_rd H5.out];have:=HB.out;omega
    ·have hb92:(((pk (sfx s p)).toNat:Int)==92)=false:=by
      rw[beq_eq_false_iff_ne];intro e;exact pk_ne (by decide) h92 (UInt8.toNat_inj.1 (by simpa using by omega))
     by_cases hbad:(pk (sfx s p)).toNat<32∨seqLen (sfx s p)=0
     ·have hch:=fun w' h' g'=>cchar_bad bp s p vL dp w' (by omega) hbp h' g' hk hbad
      have HF:Hid (strF (f+1) (sfx s p)=.error 0):=by
       show strF (f+1) (sfx s p)=.error 0
       by_cases hps:p<s.size
       ·have hc:=sfx_cons s p hps
        rw[hc]at h34 h92 hbad ⊢;have n34:s[p]≠34:=by simpa using h34
        have n92:s[p]≠92:=by simpa using h92
        rw[strF];simp only[n34,n92,if_false];rcases hbad with hb|hb
        ·rw[if_pos (show s[p].toNat<32 from hb)]
        ·simp[hb]
       ·rw[sfx_nil s p (by omega)];rfl
      clear h34 h92 hbad hf hk;go_wp2_with fail
      refine ht.mono ?_;rintro e w2 ⟨rfl,h2,o2⟩;have O2:Hid (Onl bp w w2):=Onl.trans HO.out o2;have g2:GV w2:=hGr.onl o2 hbp hrd.lt;clear o2 ht HO;go_wp2_with fail
      refine(hpk w2 h2).mono ?_;rintro e w3 ⟨rfl,h3,o3⟩;have O3:Hid (Onl bp w w3):=Onl.trans O2.out o3;have g3:GV w3:=g2.onl o3 hbp h2.lt;clear o3 hpk O2;go_wp2_with fail
      refine(hch w3 h3 g3).mono ?_;rintro e w4 ⟨rfl,h4,o4⟩;have O4:Hid (Onl bp w w4):=Onl.trans O3.out o4;clear o4 hch O3;go_wp2;refine⟨rfl,?_,O4.out⟩;have e1:=HE.out;rw[HF.out]at e1;rw[HR.out,e1];refine⟨?_,p,h4⟩;rw[show i+(k+0+1)=p by have:=HP.out;omega]
     ·have hn32:¬(pk (sfx s p)).toNat<32:=fun h=>hbad (.inl h)
      have hq0:seqLen (sfx s p)≠0:=fun h=>hbad (.inr h)
      have hch:=fun w' h' g'=>cchar_ok bp s p vL dp w' (by omega) hbp h' g' hn32 hq0
      have hps:p<s.size:=by
       by_cases hps:p<s.size
       ·exact hps
       ·rw[sfx_nil s p (by omega)]at hn32;exact absurd (by decide) hn32
      have hle:p+seqLen (sfx s p)≤s.size:=by rcases seqLen_le s p with h|h;exact h;exact absurd h hq0
      have HF:Hid (strF (f+1) (sfx s p)=shiftS ((sfx s p).take (seqLen (sfx s p))) (seqLen (sfx s p)) (strF f ((sfx s p).drop (seqLen (sfx s p))))):=by
       show strF (f+1) (sfx s p)=_
       have hc:=sfx_cons s p hps;rw[hc]at h34 h92 hn32 hq0 ⊢;have n34:s[p]≠34:=by simpa using h34
       have n92:s[p]≠92:=by simpa using h92
       have n32:¬s[p].toNat<32:=hn32;rw[strF];simp only[n34,n92,n32,if_false,hq0]
      have HT:Hid ((s.extract p (p+seqLen (sfx s p))).data.toList=(sfx s p).take (seqLen (sfx s p))):=by
       show(s.extract p (p+seqLen (sfx s p))).data.toList=_
       rw[extract_list,show p+seqLen (sfx s p)-p=seqLen (sfx s p)by omega];rfl
      have HZ:Hid ((s.extract p (p+seqLen (sfx s p))).size≤4):=by
       show(s.extract p (p+seqLen (sfx s p))).size≤4
       have:=seqLen_le4 (sfx s p);simp;omega
      have HL:Hid ((sfx s p).length<f+1):=hf;have HS0:Hid (0<seqLen (sfx s p)):=Nat.pos_of_ne_zero hq0;have HLE:Hid (p+seqLen (sfx s p)≤s.size):=hle;clear h34 h92 hbad hf hk hn32 hq0 hle hps;generalize seqLen (sfx s p)=n at hch HF HT HZ HS0 HLE;go_wp2_with fail
      refine ht.mono ?_;rintro e w2 ⟨rfl,h2,o2⟩;have O2:Hid (Onl bp w w2):=Onl.trans HO.out o2;have g2:GV w2:=hGr.onl o2 hbp hrd.lt;have W2:Hid (OwnZ w.heap.size 5 u3 acc w2):=HW.out.onl o2 hlt;clear o2 ht HO HW;go_wp2_with fail
      refine(hpk w2 h2).mono ?_;rintro e w3 ⟨rfl,h3,o3⟩;have O3:Hid (Onl bp w w3):=Onl.trans O2.out o3;have g3:GV w3:=g2.onl o3 hbp h2.lt;have W3:Hid (OwnZ w.heap.size 5 u3 acc w3):=W2.out.onl o3 hlt;clear o3 hpk O2 W2;go_wp2_with fail
      refine(hch w3 h3 g3).mono ?_;rintro e w4 ⟨rfl,h4,o4⟩;have O4:Hid (Onl bp w w4):=Onl.trans O3.out o4;have W4:Hid (OwnZ w.heap.size 5 u3 acc w4):=W3.out.onl o4 hlt;have hz4:=O4.out.size;have H4:Hid (CD bp s (p+n) vL dp w4):=h4;clear o4 hch O3 W3 h4 g3 g2 h3 h2 hGr hrd hG;go_wp2_with (refine wp_appZ rfl (.tmp 22) (.tmp 24) 78 9 rfl 5 i0 Tryz.underlying78 Tryz.underlying9 HI.out hz0 hz1 hz2 w.heap.size _ acc (s.extract p (p+n)) rfl rfl (by have:=HA.out;have:=HZ.out;omega) W4.out hz4 ?_;intro v6 w6 ho6 hb6;have W6:Hid _:=ho6;clear ho6)
      have h7:=CD.belowB bp s vL dp w H4.out hlt hb6;refine⟨⟨k+n,f,acc++(s.extract p (p+n)).data.toList,?_,?_,?_,?_,W6.out,?_,onl_belowB bp w O4.out hb6⟩,?_⟩
      ·have:=HL.out;have:=HS0.out;have:=HP.out;have:=HLE.out;rw[sfx_length]at *;omega
      ·have:=HLE.out;have:=HP.out;omega
      ·rw[HT.out];simp;omega
      ·rw[HE.out,HF.out,shiftS_shiftS,sfx_drop,HT.out,show i+1+(k+n)=p+n by have:=HP.out;omega]
      ·rw[show i+1+(k+n)=p+n by have:=HP.out;omega];exact h7
      ·rw[HM.out,cpos_rd h7];have:=HS0.out;have:=HLE.out;omega
 ·have hm:=cneed_no bp s i vL dp 34 w h hi (by decide) hq
  rw[show((34:UInt8).toNat:Int)=34 from rfl]at hm;have HR:Hid (quotL (sfx s i)=.error 0):=by
   show quotL (sfx s i)=.error 0
   by_cases hi2:i<s.size
   ·rw[sfx_cons s i hi2]at hq ⊢
    have n34:s[i]≠34:=by simpa using hq
    rw[quotL,if_neg n34]
   ·rw[sfx_nil s i (by omega)];rfl
  clear hq;go_enter Tryz.func151,Tryz.ntmps151;go_wp2_with fail
  refine hm.mono ?_;rintro e w1 ⟨rfl,h1,o1⟩;have O1:Hid (Onl bp w w1):=o1;clear o1 hm;go_wp2;refine⟨rfl,?_,O1.out⟩;rw[HR.out];exact⟨rfl,i,h1⟩
end
end Go.Proofs.YtbbopknnoamkbaaGreatDoor
