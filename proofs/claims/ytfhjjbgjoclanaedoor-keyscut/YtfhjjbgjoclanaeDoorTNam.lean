import Derived.Test.YtfhjjbgjoclanaeDoorTAlg
import Derived.Test.YtfhjjbgjoclanaeDoorBuf
set_option maxHeartbeats 400000
namespace Go.Proofs.YtfhjjbgjoclanaeDoor
open Go.RowKit
set_option linter.unusedVariables false
theorem conv1T(W:World)(a:UInt8):Sem.run Tryd.prog (convert 50 9 (.slice (some ⟨W.heap.size,0,none⟩) 1 1)) (W.alloc (.cells #[.int .u8 (a.toNat:Int)] 5))=.ok (.string ⟨#[a]⟩) (W.alloc (.cells #[.int .u8 (a.toNat:Int)] 5)):=by
 have h:OwnB W.heap.size 5 (.slice (some ⟨W.heap.size,0,none⟩) 1 1) [a] (W.alloc (.cells #[.int .u8 (a.toNat:Int)] 5)):=.inr ⟨W.heap.size,1,_,(0,0),rfl,Nat.le_refl _,heap_alloc_new _ _,.inl (Nat.zero_le _),Nat.le_refl _,by unfold maxLen;omega,by simp,by simp[byteV]⟩;exact h.str Tryd.underlying50 Tryd.underlying5 Tryd.underlying9
section
attribute [local go_sem] conv1T
theorem tdecP(x:Int)(w:World)(c:UInt8)(h0:0≤x)(h1:x<10)(hc:48+x=(c.toNat:Int)):Calls Tryd.prog 29 #[.int .i64 x] w fun e w'=>e=.returned (.string ⟨#[c]⟩)∧Below w.heap.size w w':=by
 have d0:decide (x<0)=false:=by simp;omega
 go_enter Tryd.func29,Tryd.ntmps29;go_wp2;go_ret;exact⟨rfl,tbal (Below.refl _ _) _⟩
theorem tdecPP(x y:Int)(w:World)(c:UInt8)(T:ByteArray)(h0:10≤x)(h1:x≤9223372036854775807)(hy:x/10=y)(hc:48+x%10=(c.toNat:Int))(hT:T.size≤1000)(hr:∀w,Calls Tryd.prog 29 #[.int .i64 y] w fun e w'=>e=.returned (.string T)∧Below w.heap.size w w'):Calls Tryd.prog 29 #[.int .i64 x] w fun e w'=>e=.returned (.string (T++⟨#[c]⟩))∧Below w.heap.size w w':=by
 have d0:decide (x<0)=false:=by simp;omega
 have d1:decide (x<10)=false:=by simp;omega
 go_enter Tryd.func29,Tryd.ntmps29;go_wp2_with fail
 refine(hr _).mono ?_;rintro e w1 ⟨rfl,b1⟩;have B1:Hid (Below w.heap.size w w1):=b1;clear b1 hr;go_wp2;go_ret;exact⟨rfl,(B1.out).alloc B1.out.size _⟩
end
theorem rdec2(w:World):Calls Tryd.prog 29 #[.int .i64 2] w fun r w'=>r=.returned (.string ⟨#[50]⟩)∧Below w.heap.size w w':=
 tdecP 2 w 50 (by omega) (by omega) (by decide)
theorem rdec25(w:World):Calls Tryd.prog 29 #[.int .i64 25] w fun r w'=>r=.returned (.string ⟨#[50,53]⟩)∧Below w.heap.size w w':=
 tdecPP 25 2 w 53 ⟨#[50]⟩ (by omega) (by omega) (by decide) (by decide) (by decide) rdec2
theorem rdec256(w:World):Calls Tryd.prog 29 #[.int .i64 256] w fun r w'=>r=.returned (.string ⟨#[50,53,54]⟩)∧Below w.heap.size w w':=
 tdecPP 256 25 w 54 ⟨#[50,53]⟩ (by omega) (by omega) (by decide) (by decide) (by decide) rdec25
theorem rdec3(w:World):Calls Tryd.prog 29 #[.int .i64 3] w fun r w'=>r=.returned (.string ⟨#[51]⟩)∧Below w.heap.size w w':=
 tdecP 3 w 51 (by omega) (by omega) (by decide)
theorem rdec38(w:World):Calls Tryd.prog 29 #[.int .i64 38] w fun r w'=>r=.returned (.string ⟨#[51,56]⟩)∧Below w.heap.size w w':=
 tdecPP 38 3 w 56 ⟨#[51]⟩ (by omega) (by omega) (by decide) (by decide) (by decide) rdec3
theorem rdec384(w:World):Calls Tryd.prog 29 #[.int .i64 384] w fun r w'=>r=.returned (.string ⟨#[51,56,52]⟩)∧Below w.heap.size w w':=
 tdecPP 384 38 w 52 ⟨#[51,56]⟩ (by omega) (by omega) (by decide) (by decide) (by decide) rdec38
theorem rdec5(w:World):Calls Tryd.prog 29 #[.int .i64 5] w fun r w'=>r=.returned (.string ⟨#[53]⟩)∧Below w.heap.size w w':=
 tdecP 5 w 53 (by omega) (by omega) (by decide)
theorem rdec51(w:World):Calls Tryd.prog 29 #[.int .i64 51] w fun r w'=>r=.returned (.string ⟨#[53,49]⟩)∧Below w.heap.size w w':=
 tdecPP 51 5 w 49 ⟨#[53]⟩ (by omega) (by omega) (by decide) (by decide) (by decide) rdec5
theorem rdec512(w:World):Calls Tryd.prog 29 #[.int .i64 512] w fun r w'=>r=.returned (.string ⟨#[53,49,50]⟩)∧Below w.heap.size w w':=
 tdecPP 512 51 w 50 ⟨#[53,49]⟩ (by omega) (by omega) (by decide) (by decide) (by decide) rdec51
theorem rname(alg:Int)(w:World)(ha:alg=256∨alg=384∨alg=512):Calls Tryd.prog 16 #[.int .i64 alg] w fun r w'=>r=.returned (.string (nameB alg))∧Below w.heap.size w w':=by
 rcases ha with rfl|rfl|rfl
 ·have h:=fun w1=>rdec256 w1
  go_enter Tryd.func16,Tryd.ntmps16;go_wp2_with fail
  refine(h _).mono ?_;rintro r w1 ⟨rfl,hb⟩;have HB:=thid hb;clear hb h;go_wp2;go_ret;exact⟨rfl,HB.out⟩
 ·have h:=fun w1=>rdec384 w1
  go_enter Tryd.func16,Tryd.ntmps16;go_wp2_with fail
  refine(h _).mono ?_;rintro r w1 ⟨rfl,hb⟩;have HB:=thid hb;clear hb h;go_wp2;go_ret;exact⟨rfl,HB.out⟩
 ·have h:=fun w1=>rdec512 w1
  go_enter Tryd.func16,Tryd.ntmps16;go_wp2_with fail
  refine(h _).mono ?_;rintro r w1 ⟨rfl,hb⟩;have HB:=thid hb;clear hb h;go_wp2;go_ret;exact⟨rfl,HB.out⟩
end Go.Proofs.YtfhjjbgjoclanaeDoor
