import Derived.Test.YtaghclgookfmnaaGreatDoorCTry
namespace Go.Proofs.YtaghclgookfmnaaGreatDoor
open Go.RowKit
set_option linter.unusedVariables false
def runeC(n:Nat)(r:List UInt8):Option (Nat×Nat):=
 if n<55296∨57343<n then some (n,6)
 else match lowL r with
  | none=>none
  | some m=>if 56320≤n then none else some (65536+1024*(n-55296)+(m-56320),12)
def UP(bp:Nat)(s:ByteArray)(i:Nat)(vL:Value)(dp:Nat)(r:Ending)(w':World):Option Nat×Nat→Prop
 | (none,o)=>r=.panicked (flt 2 (i+o))∧∃j,CD bp s j vL dp w'
 | (some n,_)=>match runeC n (sfx s (i+4))with
   | none=>r=.panicked (flt 2 (i-2))∧∃j,CD bp s j vL dp w'
   | some (q,k)=>r=.returned (.int .i32 (q:Int))∧CD bp s (i+k-2) vL dp w'
theorem UP_yes{bp:Nat}{s:ByteArray}{i:Nat}{vL:Value}{dp:Nat}{r:Ending}{w':World}{n o q k:Nat}(h:runeC n (sfx s (i+4))=some (q,k))(hr:r=.returned (.int .i32 (q:Int)))(g:CD bp s (i+k-2) vL dp w'):UP bp s i vL dp r w' (some n,o):=by
 simp only[UP];rw[h];exact⟨hr,g⟩
theorem UP_no{bp:Nat}{s:ByteArray}{i:Nat}{vL:Value}{dp:Nat}{r:Ending}{w':World}{n o j:Nat}(h:runeC n (sfx s (i+4))=none)(hr:r=.panicked (flt 2 (i-2)))(g:CD bp s j vL dp w'):UP bp s i vL dp r w' (some n,o):=by
 simp only[UP];rw[h];exact⟨hr,j,g⟩
theorem lowL_n{l:List UInt8}{m:Nat}(h:lowL l=some m):56320≤m∧m≤57343:=by
 unfold lowL at h;split at h
 ·split at h
  ·split at h
   ·split at h
    ·next hh=>injection h with h;subst h;exact hh
    ·cases h
   ·cases h
  ·cases h
 ·cases h
theorem four_len{s:ByteArray}{i n o:Nat}(h:four4 (sfx s i)=(some n,o)):i+4≤s.size:=by
 have key:∀(k N i o n o':Nat),fourG k N (sfx s i) o=(some n,o')→i≤s.size→i+k≤s.size:=by
  intro k;induction k with
  | zero=>intro N i o n o' _ hi;omega
  | succ k ih=>
    intro N i o n o' h hi;cases hq:hexv (pk (sfx s i))with
    | none=>rw[cfourG_none hq]at h;injection h with h1 _;cases h1
    | some d=>
      obtain⟨h1,h2⟩:=cfourG_some (k:=k) (n:=N) (o:=o) hq;rw[h2]at h;have:=ih _ _ _ _ _ h (by omega);omega
 by_cases hi:i≤s.size
 ·exact key 4 0 i 0 n o h hi
 ·rw[sfx_nil s i (by omega)]at h;cases h
section
variable (bp:Nat) (s:ByteArray) (i:Nat) (vL:Value) (dp:Nat) (w:World)
set_option maxHeartbeats 1000000 in
theorem crune(hs:s.size≤140737488355328)(h:CD bp s i vL dp w)(hi:i≤s.size)(hi2:2≤i):Calls Tryz.prog 79 #[.pointer (some ⟨bp,0,none⟩)] w fun r w'=>UP bp s i vL dp r w' (four4 (sfx s i))∧Onl bp w w':=by
 have hmf:∀(fn:Fn) (first cap:Array Value) (w:World),(Instr.makeFunc fn first cap).run Tryz.prog w=.ok (.func fn first cap) w:=fun _ _ _ _=>rfl
 have hf:=cfour bp s i vL dp w hs h hi;cases hq:four4 (sfx s i)with
 | mk q o=>
   rw[hq]at hf;cases q with
   | none=>
     clear hq;go_enter Tryz.func79,Tryz.ntmps79;go_wp2_with fail
     refine hf.mono ?_;rintro e w1 ⟨⟨rfl,g1⟩,o1⟩;have O1:Hid (Onl bp w w1):=o1;clear o1 hf;go_wp2;exact⟨rfl,⟨rfl,_,g1⟩,O1.out⟩
   | some n=>
     have hn:=four4_n hq;have hl:=four_len hq;have hhi:=fun w'=>chi n w'
     have hlo:=fun w'=>clo n w'
     clear hq;cases hb:isHi n with
     | true=>
       rw[hb]at hhi;have hb2:55296≤n∧n<56320:=by simpa [isHi]using hb
       have ht:=fun w' h'=>ctry bp s (i+4) vL dp w' hs h' (by omega)
       unfold secF at ht;cases hL:lowL (sfx s (i+4))with
       | some m=>
         rw[hL]at ht;have hm:=lowL_n hL;have HL:Hid (runeC n (sfx s (i+4))=some (65536+1024*(n-55296)+(m-56320),12)):=by
          show runeC n (sfx s (i+4))=_
          rw[runeC,if_neg (by omega),hL];simp only;rw[if_neg (by omega)]
         clear hL hlo hb;have n1:(55296:Int)≤(n:Int):=by omega
         have n2:(n:Int)<56320:=by omega
         have m1:(56320:Int)≤(m:Int):=by omega
         have m2:(m:Int)≤57343:=by omega
         go_enter Tryz.func79,Tryz.ntmps79;go_wp2_with fail
         refine hf.mono ?_;rintro e w1 ⟨⟨rfl,g1⟩,o1⟩;have O1:Hid (Onl bp w w1):=o1;clear o1 hf;go_wp2_with fail
         refine(hhi _).mono ?_;rintro e w2 ⟨rfl,rfl⟩;go_wp2_with fail
         refine(ht _ g1).mono ?_;rintro e w3 ⟨⟨rfl,g3⟩,o3⟩;have O3:Hid (Onl bp w w3):=O1.out.trans o3;clear o3 O1 ht hhi;go_wp2;go_ret;refine⟨UP_yes HL.out ?_ g3,O3.out⟩;rw[show((65536+1024*(n-55296)+(m-56320):Nat):Int)=65536+((n:Int)-55296)*1024+(m:Int)-56320 by omega];rfl
       | none=>
         rw[hL]at ht;have HL:Hid (runeC n (sfx s (i+4))=none):=by
          show runeC n (sfx s (i+4))=_
          rw[runeC,if_neg (by omega),hL]
         have hth:∀w',Calls Tryz.prog 54 #[.int .i64 2,.int .i64 ((i:Int)+4-6)] w' fun r w''=>r=.panicked (flt 2 (i-2))∧w''=w':=fun w'=>by
          rw[show((i:Int)+4-6)=((i-2:Nat):Int)by omega];exact cthrow 2 (i-2) w'
         have hib:(i:Int)≤140737488355328:=by omega
         have hib2:(2:Int)≤(i:Int):=by omega
         clear hL hlo hb;go_enter Tryz.func79,Tryz.ntmps79;go_wp2_with fail
         refine hf.mono ?_;rintro e w1 ⟨⟨rfl,g1⟩,o1⟩;have O1:Hid (Onl bp w w1):=o1;clear o1 hf;go_wp2_with fail
         refine(hhi _).mono ?_;rintro e w2 ⟨rfl,rfl⟩;go_wp2_with fail
         refine(ht _ g1).mono ?_;rintro e w3 ⟨⟨rfl,g3⟩,o3⟩;have O3:Hid (Onl bp w w3):=O1.out.trans o3;clear o3 O1 ht;go_wp2_with fail
         refine(hhi _).mono ?_;rintro e w4 ⟨rfl,rfl⟩;clear hhi;obtain⟨c0,c1,c2,c3,cf⟩:=g3.cell;go_wp2_with fail
         refine(hth _).mono ?_;rintro e w5 ⟨rfl,rfl⟩;clear hth;go_wp2;exact⟨rfl,UP_no HL.out rfl g3,O3.out⟩
     | false=>
       rw[hb]at hhi;cases hb2:isLo n with
       | true=>
         rw[hb2]at hlo;have hb3:56320≤n∧n<57344:=by simpa [isLo]using hb2
         have HL:Hid (runeC n (sfx s (i+4))=none):=by
          show runeC n (sfx s (i+4))=_
          rw[runeC,if_neg (by omega)];split
          ·rfl
          ·rw[if_pos hb3.1]
         have hth:∀w',Calls Tryz.prog 54 #[.int .i64 2,.int .i64 ((i:Int)+4-6)] w' fun r w''=>r=.panicked (flt 2 (i-2))∧w''=w':=fun w'=>by
          rw[show((i:Int)+4-6)=((i-2:Nat):Int)by omega];exact cthrow 2 (i-2) w'
         have hib:(i:Int)≤140737488355328:=by omega
         have hib2:(2:Int)≤(i:Int):=by omega
         clear hb hb2 hb3;go_enter Tryz.func79,Tryz.ntmps79;go_wp2_with fail
         refine hf.mono ?_;rintro e w1 ⟨⟨rfl,g1⟩,o1⟩;have O1:Hid (Onl bp w w1):=o1;clear o1 hf;go_wp2_with fail
         refine(hhi _).mono ?_;rintro e w2 ⟨rfl,rfl⟩;go_wp2_with fail
         refine(hhi _).mono ?_;rintro e w4 ⟨rfl,rfl⟩;clear hhi;go_wp2_with fail
         refine(hlo _).mono ?_;rintro e w4 ⟨rfl,rfl⟩;clear hlo;obtain⟨c0,c1,c2,c3,cf⟩:=g1.cell;go_wp2_with fail
         refine(hth _).mono ?_;rintro e w5 ⟨rfl,rfl⟩;clear hth;go_wp2;exact⟨rfl,UP_no HL.out rfl g1,O1.out⟩
       | false=>
         rw[hb2]at hlo;have HL:Hid (runeC n (sfx s (i+4))=some (n,6)):=by
          show runeC n (sfx s (i+4))=_
          rw[runeC,if_pos];simp[isHi]at hb;simp[isLo]at hb2;omega
         clear hb hb2;go_enter Tryz.func79,Tryz.ntmps79;go_wp2_with fail
         refine hf.mono ?_;rintro e w1 ⟨⟨rfl,g1⟩,o1⟩;have O1:Hid (Onl bp w w1):=o1;clear o1 hf;go_wp2_with fail
         refine(hhi _).mono ?_;rintro e w2 ⟨rfl,rfl⟩;go_wp2_with fail
         refine(hhi _).mono ?_;rintro e w4 ⟨rfl,rfl⟩;clear hhi;go_wp2_with fail
         refine(hlo _).mono ?_;rintro e w4 ⟨rfl,rfl⟩;clear hlo;go_wp2;go_ret;exact⟨UP_yes HL.out rfl g1,O1.out⟩
end
end Go.Proofs.YtaghclgookfmnaaGreatDoor
