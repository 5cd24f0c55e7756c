import Derived.Test.YtaghclgookfmnaaGreatDoorCFour
set_option maxHeartbeats 1000000
namespace Go.Proofs.YtaghclgookfmnaaGreatDoor
open Go.RowKit
set_option linter.unusedVariables false
def isHi(n:Nat):Bool:=decide (55296≤n)&&decide (n<56320)
def isLo(n:Nat):Bool:=decide (56320≤n)&&decide (n<57344)
theorem chi(n:Nat)(w:World):Calls Tryz.prog 85 #[.int .i32 (n:Int)] w fun e w'=>e=.returned (.bool (isHi n))∧w'=w:=by
 by_cases h1:55296≤n
 ·have h1':(55296:Int)≤(n:Int):=by omega
  by_cases h2:n<56320
  ·have h2':(n:Int)<56320:=by omega
   go_enter Tryz.func85,Tryz.ntmps85;go_wp2;go_ret;exact⟨by simp[isHi,h1,h2],rfl⟩
  ·have h2':¬(n:Int)<56320:=by omega
   go_enter Tryz.func85,Tryz.ntmps85;go_wp2;go_ret;exact⟨by simp[isHi,h2],rfl⟩
 ·have h1':¬(55296:Int)≤(n:Int):=by omega
  go_enter Tryz.func85,Tryz.ntmps85;go_wp2;go_ret;exact⟨by simp[isHi,h1],rfl⟩
theorem clo(n:Nat)(w:World):Calls Tryz.prog 88 #[.int .i32 (n:Int)] w fun e w'=>e=.returned (.bool (isLo n))∧w'=w:=by
 by_cases h1:56320≤n
 ·have h1':(56320:Int)≤(n:Int):=by omega
  by_cases h2:n<57344
  ·have h2':(n:Int)<57344:=by omega
   go_enter Tryz.func88,Tryz.ntmps88;go_wp2;go_ret;exact⟨by simp[isLo,h1,h2],rfl⟩
  ·have h2':¬(n:Int)<57344:=by omega
   go_enter Tryz.func88,Tryz.ntmps88;go_wp2;go_ret;exact⟨by simp[isLo,h2],rfl⟩
 ·have h1':¬(56320:Int)≤(n:Int):=by omega
  go_enter Tryz.func88,Tryz.ntmps88;go_wp2;go_ret;exact⟨by simp[isLo,h1],rfl⟩
def SP(bp:Nat)(s:ByteArray)(i:Nat)(vL:Value)(dp:Nat)(r:Ending)(w':World):Option Nat→Prop
 | some m=>r=.returned (.int .i32 (m:Int))∧CD bp s (i+6) vL dp w'
 | none=>∃a j,r=.panicked (flt 2 a)∧CD bp s j vL dp w'
theorem lowL_no1{s:ByteArray}{i:Nat}(h:(sfx s i).head?≠some 92):lowL (sfx s i)=none:=by
 unfold lowL;split
 ·next a b r he=>rw[he]at h;rw[if_neg];simp at h;exact fun e=>h e.1
 ·rfl
theorem lowL_no2{s:ByteArray}{i:Nat}(h:(sfx s (i+1)).head?≠some 117):lowL (sfx s i)=none:=by
 rw[←sfx_drop s i 1]at h;unfold lowL;split
 ·next a b r he=>rw[he]at h;rw[if_neg];simp at h;exact fun e=>h e.2
 ·rfl
def lowO:Option Nat→Option Nat
 | some n=>if 56320≤n∧n≤57343 then some n else none
 | none=>none
theorem lowL_yes{s:ByteArray}{i:Nat}(h1:(sfx s i).head?=some 92)(h2:(sfx s (i+1)).head?=some 117):lowL (sfx s i)=lowO (four4 (sfx s (i+2))).1:=by
 have hi:=head_lt h1;have hi2:=head_lt h2;rw[sfx_cons s i hi]at h1 ⊢;rw[sfx_cons s (i+1) hi2]at h2 ⊢;simp only[List.head?_cons,Option.some.injEq]at h1 h2;rw[lowL,if_pos ⟨h1,h2⟩];rfl
theorem four4_n{l:List UInt8}{n o:Nat}(h:four4 l=(some n,o)):n<65536:=by
 have key:∀(k N:Nat) (l:List UInt8) (o n o':Nat),fourG k N l o=(some n,o')→N<16^(4-k)→k≤4→n<65536:=by
  intro k;induction k with
  | zero=>intro N l o n o' h hN _;rw[fourG]at h;injection h with h1 _;injection h1 with h1;subst h1;simpa using hN
  | succ k ih=>
    intro N l o n o' h hN hk;match l with
    | []=>rw[fourG]at h;injection h with h1 _;cases h1
    | c::r=>
      rw[fourG]at h;cases hq:hexv c with
      | none=>rw[hq]at h;injection h with h1 _;cases h1
      | some d=>
        rw[hq]at h;have hd:=(hexX_some hq).2.2.1;refine ih (16*N+d) r (o+1) n o' h ?_ (by omega);rw[show 4-k=4-(k+1)+1 by omega,Nat.pow_succ];omega
 exact key 4 0 l 0 n o h (by decide) (by omega)
section
variable (bp:Nat) (s:ByteArray) (i:Nat) (vL:Value) (dp:Nat) (w:World)
theorem csec(hs:s.size≤140737488355328)(h:CD bp s i vL dp w)(hi:i≤s.size):Calls Tryz.prog 87 #[.pointer (some ⟨bp,0,none⟩)] w fun r w'=>SP bp s i vL dp r w' (lowL (sfx s i))∧Onl bp w w':=by
 by_cases h1:(sfx s i).head?=some 92
 ·have hi1:=head_lt h1
  have hn:=cneed_yes bp s i vL dp 92 w hs h h1;rw[show((92:UInt8).toNat:Int)=92 from rfl]at hn;by_cases h2:(sfx s (i+1)).head?=some 117
  ·have hi2:=head_lt h2
   have hn2:=fun w' h'=>cneed_yes bp s (i+1) vL dp 117 w' hs h' h2
   rw[show((117:UInt8).toNat:Int)=117 from rfl]at hn2;have hf:=fun w' h'=>cfour bp s (i+2) vL dp w' hs h' (by omega)
   have HL:Hid _:=lowL_yes h1 h2;clear h1 h2;cases hq:four4 (sfx s (i+2))with
   | mk q o=>
     rw[hq]at hf;have HL2:Hid (lowL (sfx s i)=lowO q):=by have:=HL.out;rw[hq]at this;exact this
     clear HL;cases q with
     | none=>
       clear hq;go_enter Tryz.func87,Tryz.ntmps87;go_wp2_with fail
       refine hn.mono ?_;rintro e w1 ⟨rfl,g1,o1⟩;have O1:Hid (Onl bp w w1):=o1;clear o1 hn;go_wp2_with fail
       refine(hn2 w1 g1).mono ?_;rintro e w2 ⟨rfl,g2,o2⟩;have O2:Hid (Onl bp w w2):=O1.out.trans o2;clear o2 hn2 O1;go_wp2_with fail
       refine(hf w2 g2).mono ?_;rintro e w3 ⟨⟨rfl,g3⟩,o3⟩;have O3:Hid (Onl bp w w3):=O2.out.trans o3;clear o3 hf O2;go_wp2;refine⟨rfl,?_,O3.out⟩;rw[HL2.out];exact⟨_,_,rfl,g3⟩
     | some n=>
       have hn6:=four4_n hq;have hll:=fun w'=>clo n w'
       clear hq;cases hb:isLo n with
       | true=>
         have HL3:Hid (lowL (sfx s i)=some n):=by
          have:=HL2.out;rw[lowO]at this;rw[isLo]at hb;simp at hb;rw[if_pos ⟨hb.1,by omega⟩]at this;exact this
         clear HL2;rw[hb]at hll;clear hb;go_enter Tryz.func87,Tryz.ntmps87;go_wp2_with fail
         refine hn.mono ?_;rintro e w1 ⟨rfl,g1,o1⟩;have O1:Hid (Onl bp w w1):=o1;clear o1 hn;go_wp2_with fail
         refine(hn2 w1 g1).mono ?_;rintro e w2 ⟨rfl,g2,o2⟩;have O2:Hid (Onl bp w w2):=O1.out.trans o2;clear o2 hn2 O1;go_wp2_with fail
         refine(hf w2 g2).mono ?_;rintro e w3 ⟨⟨rfl,g3⟩,o3⟩;have O3:Hid (Onl bp w w3):=O2.out.trans o3;clear o3 hf O2;go_wp2_with fail
         refine(hll w3).mono ?_;rintro e w4 ⟨rfl,rfl⟩;clear hll;go_wp2;go_ret;refine⟨?_,O3.out⟩;rw[HL3.out];exact⟨rfl,g3⟩
       | false=>
         have HL3:Hid (lowL (sfx s i)=none):=by
          have:=HL2.out;rw[lowO]at this;rw[if_neg (by rintro⟨x,y⟩;rw[isLo]at hb;simp[x]at hb;omega)]at this;exact this
         clear HL2;rw[hb]at hll;clear hb;go_enter Tryz.func87,Tryz.ntmps87;go_wp2_with fail
         refine hn.mono ?_;rintro e w1 ⟨rfl,g1,o1⟩;have O1:Hid (Onl bp w w1):=o1;clear o1 hn;go_wp2_with fail
         refine(hn2 w1 g1).mono ?_;rintro e w2 ⟨rfl,g2,o2⟩;have O2:Hid (Onl bp w w2):=O1.out.trans o2;clear o2 hn2 O1;go_wp2_with fail
         refine(hf w2 g2).mono ?_;rintro e w3 ⟨⟨rfl,g3⟩,o3⟩;have O3:Hid (Onl bp w w3):=O2.out.trans o3;clear o3 hf O2;go_wp2_with fail
         refine(hll w3).mono ?_;rintro e w4 ⟨rfl,rfl⟩;clear hll;have hff:=cfail bp s (i+2+4) vL dp w4 g3;go_wp2_with fail
         refine hff.mono ?_;rintro e w5 ⟨rfl,rfl⟩;clear hff;go_wp2;refine⟨rfl,?_,O3.out⟩;rw[HL3.out];exact⟨_,_,rfl,g3⟩
  ·have hn2:=fun w' h'=>cneed_no bp s (i+1) vL dp 117 w' h' (by omega) (by decide) h2
   rw[show((117:UInt8).toNat:Int)=117 from rfl]at hn2;have HL:Hid _:=lowL_no2 h2;clear h1 h2;go_enter Tryz.func87,Tryz.ntmps87;go_wp2_with fail
   refine hn.mono ?_;rintro e w1 ⟨rfl,g1,o1⟩;have O1:Hid (Onl bp w w1):=o1;clear o1 hn;go_wp2_with fail
   refine(hn2 w1 g1).mono ?_;rintro e w2 ⟨rfl,g2,o2⟩;have O2:Hid (Onl bp w w2):=O1.out.trans o2;clear o2 hn2 O1;go_wp2;refine⟨rfl,?_,O2.out⟩;rw[HL.out];exact⟨_,_,rfl,g2⟩
 ·have hn:=cneed_no bp s i vL dp 92 w h hi (by decide) h1
  rw[show((92:UInt8).toNat:Int)=92 from rfl]at hn;have HL:Hid _:=lowL_no1 h1;clear h1;go_enter Tryz.func87,Tryz.ntmps87;go_wp2_with fail
  refine hn.mono ?_;rintro e w1 ⟨rfl,g1,o1⟩;have O1:Hid (Onl bp w w1):=o1;clear o1 hn;go_wp2;refine⟨rfl,?_,O1.out⟩;rw[HL.out];exact⟨_,_,rfl,g1⟩
end
end Go.Proofs.YtaghclgookfmnaaGreatDoor
