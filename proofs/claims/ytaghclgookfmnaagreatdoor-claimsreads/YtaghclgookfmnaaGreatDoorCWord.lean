import Derived.Test.YtaghclgookfmnaaGreatDoorCStr
namespace Go.Proofs.YtaghclgookfmnaaGreatDoor
open Go.RowKit
set_option linter.unusedVariables false
def knd:JT→Nat| .null _=>0| .truth _ _=>1| .int _ _=>2| .str _ _=>3| .arr _ _=>4| .obj _ _=>5
def num':JT→Int| .truth b _=>if b then 1 else 0| .int n _=>n|_=>0
section
variable (bp:Nat) (s:ByteArray) (i:Nat) (vL:Value) (dp:Nat) (w:World)
def WP(R:JR JT)(r:Ending)(w':World):Prop:=
 match R with
 | .ok (t,n)=>r=.returned (.tuple #[.int .i64 (knd t:Int),.int .i64 (num' t)])∧CD bp s (i+n) vL dp w'
 | .error (e,a)=>r=.panicked (flt e a)∧∃j,CD bp s j vL dp w'
set_option maxHeartbeats 1000000 in
theorem cword(hs:s.size≤140737488340000)(h:CD bp s i vL dp w)(hi:i≤s.size):Calls Tryz.prog 67 #[.pointer (some ⟨bp,0,none⟩)] w fun r w'=>WP bp s i vL dp (wordL (sfx s i) i) r w'∧Onl bp w w':=by
 have ht:=ctakeAll_small bp s i vL dp w (by omega) h hi;rw[run_nl]at ht;have hth:∀w',Calls Tryz.prog 54 #[.int .i64 2,.int .i64 (i:Int)] w' fun r w''=>r=.panicked (flt 2 i)∧w''=w':=fun w'=>cthrow 2 i w'
 generalize hp:i+nl (sfx s i)=p at ht;have hip:i≤p∧p≤s.size:=by have:=run_le isL (sfx s i);rw[run_nl,sfx_length]at this;omega
 obtain⟨c0,c1,c2,c3,cf⟩:=h.cell;by_cases hT:(s.extract i p).toList=[116,114,117,101]
 ·have eN:((s.extract i p).toList==[110,117,108,108])=false:=by rw[hT];rfl
  have eF:((s.extract i p).toList==[102,97,108,115,101])=false:=by rw[hT];rfl
  have eT:((s.extract i p).toList==[116,114,117,101])=true:=by rw[hT];rfl
  obtain⟨hW,h4⟩:=word_T hp hip hT;have HW:Hid _:=hW;have H4:Hid (i+4=p):=by show i+4=p;omega
  clear hT hW h4 hp hip;go_enter Tryz.func67,Tryz.ntmps67;go_wp2_with fail
  refine ht.mono ?_;rintro e w1 ⟨rfl,g1,o1⟩;have O1:Hid (Onl bp w w1):=o1;clear o1 ht;go_wp2;go_ret2
  refine⟨?_,O1.out⟩;rw[HW.out];exact⟨rfl,by rw[H4.out];exact g1⟩
 ·have eT:((s.extract i p).toList==[116,114,117,101])=false:=by rw[beq_eq_false_iff_ne];exact hT
  by_cases hF:(s.extract i p).toList=[102,97,108,115,101]
  ·have eN:((s.extract i p).toList==[110,117,108,108])=false:=by rw[hF];rfl
   have eF:((s.extract i p).toList==[102,97,108,115,101])=true:=by rw[hF];rfl
   obtain⟨hW,h4⟩:=word_F hp hip hF;have HW:Hid _:=hW;have H4:Hid (i+5=p):=by show i+5=p;omega
   clear hT hF hW h4 hp hip;go_enter Tryz.func67,Tryz.ntmps67;go_wp2_with fail
   refine ht.mono ?_;rintro e w1 ⟨rfl,g1,o1⟩;have O1:Hid (Onl bp w w1):=o1;clear o1 ht;go_wp2;go_ret2
   refine⟨?_,O1.out⟩;rw[HW.out];exact⟨rfl,by rw[H4.out];exact g1⟩
  ·have eF:((s.extract i p).toList==[102,97,108,115,101])=false:=by rw[beq_eq_false_iff_ne];exact hF
   by_cases hN:(s.extract i p).toList=[110,117,108,108]
   ·have eN:((s.extract i p).toList==[110,117,108,108])=true:=by rw[hN];rfl
    obtain⟨hW,h4⟩:=word_N hp hip hN;have HW:Hid _:=hW;have H4:Hid (i+4=p):=by show i+4=p;omega
    clear hT hF hN hW h4 hp hip;go_enter Tryz.func67,Tryz.ntmps67;go_wp2_with fail
    refine ht.mono ?_;rintro e w1 ⟨rfl,g1,o1⟩;have O1:Hid (Onl bp w w1):=o1;clear o1 ht;go_wp2;go_ret2
    refine⟨?_,O1.out⟩;rw[HW.out];exact⟨rfl,by rw[H4.out];exact g1⟩
   ·have eN:((s.extract i p).toList==[110,117,108,108])=false:=by rw[beq_eq_false_iff_ne];exact hN
    have HW:Hid _:=word_X hp hip hT hF hN;clear hT hF hN hp hip;go_enter Tryz.func67,Tryz.ntmps67;go_wp2_with fail
    refine ht.mono ?_;rintro e w1 ⟨rfl,g1,o1⟩;have O1:Hid (Onl bp w w1):=o1;clear o1 ht;go_wp2_with fail
    refine(hth _).mono ?_;rintro e w2 ⟨rfl,rfl⟩;clear hth;go_wp2;refine⟨rfl,?_,O1.out⟩;rw[HW.out];exact⟨rfl,p,g1⟩
end
end Go.Proofs.YtaghclgookfmnaaGreatDoor
