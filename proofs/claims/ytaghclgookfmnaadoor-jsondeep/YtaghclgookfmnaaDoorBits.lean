import Derived.Laws.BitsAllLaws
import Derived.Laws.Shifts
import Derived.WalkKit
import Derived.Deep.QuietTactic
/-
  Words as bit vectors: 'eW x' is the number that a word is. What Go's operations on uint32 and uint64 do to it.
-/
namespace Go.Proofs.YtaghclgookfmnaaDoor
open Go.RowKit

def eW {b : Nat} (x : BitVec b) : Int := (x.toNat : Int)

theorem eW_nonneg {b : Nat} (x : BitVec b) : 0 ≤ eW x := by unfold eW; omega
theorem eW_lt {b : Nat} (x : BitVec b) : eW x < 2 ^ b := by
  unfold eW; have := x.isLt; exact_mod_cast this

theorem ofInt_eW {b : Nat} (x : BitVec b) : BitVec.ofInt b (eW x) = x := by unfold eW; simp

theorem wrap32_eq (n : Int) : IntKind.u32.wrap n = eW (BitVec.ofInt 32 n) := by
  rw [IntKind.wrap_u32']; unfold eW; rw [BitVec.toNat_ofInt]; omega
theorem wrap64_eq (n : Int) : IntKind.u64.wrap n = eW (BitVec.ofInt 64 n) := by
  rw [IntKind.wrap_u64]; unfold eW; rw [BitVec.toNat_ofInt]; omega
theorem wrap8_eq (n : Int) : IntKind.u8.wrap n = eW (BitVec.ofInt 8 n) := by
  rw [IntKind.wrap_u8']; unfold eW; rw [BitVec.toNat_ofInt]; omega

theorem wrap32_nat (x : BitVec 32) : IntKind.u32.wrap (x.toNat : Int) = eW x := by
  have := ofInt_eW x; unfold eW at this; rw [wrap32_eq, this]
theorem wrap64_nat (x : BitVec 64) : IntKind.u64.wrap (x.toNat : Int) = eW x := by
  have := ofInt_eW x; unfold eW at this; rw [wrap64_eq, this]
theorem wrap8_nat (x : BitVec 8) : IntKind.u8.wrap (x.toNat : Int) = eW x := by
  have := ofInt_eW x; unfold eW at this; rw [wrap8_eq, this]

theorem and32 (x y : BitVec 32) : bits .and .u32 (eW x) (eW y) = eW (x &&& y) := by
  show IntKind.u32.wrap ((BitVec.ofInt 32 (eW x) &&& BitVec.ofInt 32 (eW y)).toNat : Int) = _
  rw [ofInt_eW, ofInt_eW, wrap32_nat]
theorem or32 (x y : BitVec 32) : bits .or .u32 (eW x) (eW y) = eW (x ||| y) := by
  show IntKind.u32.wrap ((BitVec.ofInt 32 (eW x) ||| BitVec.ofInt 32 (eW y)).toNat : Int) = _
  rw [ofInt_eW, ofInt_eW, wrap32_nat]
theorem xor32 (x y : BitVec 32) : bits .xor .u32 (eW x) (eW y) = eW (x ^^^ y) := by
  show IntKind.u32.wrap ((BitVec.ofInt 32 (eW x) ^^^ BitVec.ofInt 32 (eW y)).toNat : Int) = _
  rw [ofInt_eW, ofInt_eW, wrap32_nat]
theorem and64 (x y : BitVec 64) : bits .and .u64 (eW x) (eW y) = eW (x &&& y) := by
  show IntKind.u64.wrap ((BitVec.ofInt 64 (eW x) &&& BitVec.ofInt 64 (eW y)).toNat : Int) = _
  rw [ofInt_eW, ofInt_eW, wrap64_nat]
theorem or64 (x y : BitVec 64) : bits .or .u64 (eW x) (eW y) = eW (x ||| y) := by
  show IntKind.u64.wrap ((BitVec.ofInt 64 (eW x) ||| BitVec.ofInt 64 (eW y)).toNat : Int) = _
  rw [ofInt_eW, ofInt_eW, wrap64_nat]
theorem xor64 (x y : BitVec 64) : bits .xor .u64 (eW x) (eW y) = eW (x ^^^ y) := by
  show IntKind.u64.wrap ((BitVec.ofInt 64 (eW x) ^^^ BitVec.ofInt 64 (eW y)).toNat : Int) = _
  rw [ofInt_eW, ofInt_eW, wrap64_nat]
theorem xor8 (x y : BitVec 8) : bits .xor .u8 (eW x) (eW y) = eW (x ^^^ y) := by
  show IntKind.u8.wrap ((BitVec.ofInt 8 (eW x) ^^^ BitVec.ofInt 8 (eW y)).toNat : Int) = _
  rw [ofInt_eW, ofInt_eW, wrap8_nat]

theorem not32 (x : BitVec 32) : bits .xor .u32 IntKind.u32.max (eW x) = eW (~~~x) := by
  show IntKind.u32.wrap ((BitVec.ofInt 32 4294967295 ^^^ BitVec.ofInt 32 (eW x)).toNat : Int) = _
  rw [ofInt_eW, wrap32_nat, show BitVec.ofInt 32 4294967295 = BitVec.allOnes 32 from rfl, BitVec.allOnes_xor]
theorem not64 (x : BitVec 64) : bits .xor .u64 IntKind.u64.max (eW x) = eW (~~~x) := by
  show IntKind.u64.wrap ((BitVec.ofInt 64 18446744073709551615 ^^^ BitVec.ofInt 64 (eW x)).toNat : Int) = _
  rw [ofInt_eW, wrap64_nat, show BitVec.ofInt 64 18446744073709551615 = BitVec.allOnes 64 from rfl, BitVec.allOnes_xor]

theorem ofInt_add_eW {b : Nat} (x y : BitVec b) : BitVec.ofInt b (eW x + eW y) = x + y := by
  rw [BitVec.ofInt_add, ofInt_eW, ofInt_eW]
theorem add32 (x y : BitVec 32) : IntKind.u32.wrap (eW x + eW y) = eW (x + y) := by rw [wrap32_eq, ofInt_add_eW]
theorem add64 (x y : BitVec 64) : IntKind.u64.wrap (eW x + eW y) = eW (x + y) := by rw [wrap64_eq, ofInt_add_eW]

theorem add32m (x y : BitVec 32) : (eW x + eW y) % (4294967296 : Int) = eW (x + y) := by rw [← add32, IntKind.wrap_u32']
theorem add64m (x y : BitVec 64) : (eW x + eW y) % (18446744073709551616 : Int) = eW (x + y) := by rw [← add64, IntKind.wrap_u64]
theorem add32m3 (x y z : BitVec 32) : (eW x + eW y + eW z) % (4294967296 : Int) = eW (x + y + z) := by rw [← add32m, ← add32m]; omega
theorem add64m3 (x y z : BitVec 64) : (eW x + eW y + eW z) % (18446744073709551616 : Int) = eW (x + y + z) := by rw [← add64m, ← add64m]; omega

theorem shr_eW {b : Nat} (x : BitVec b) (n : Nat) : eW x / 2 ^ n = eW (x >>> n) := by
  unfold eW; rw [BitVec.toNat_ushiftRight, Nat.shiftRight_eq_div_pow]
  have : ((2 : Int) ^ n) = ((2 ^ n : Nat) : Int) := by simp
  rw [this]; exact_mod_cast rfl
theorem shr_eW_min {b : Nat} (x : BitVec b) (n : Nat) : eW x / 2 ^ min n b = eW (x >>> n) := by
  rw [shr_eW]
  by_cases h : n ≤ b
  · rw [Nat.min_eq_left h]
  · rw [Nat.min_eq_right (by omega)]
    rw [BitVec.ushiftRight_eq_zero (by omega), BitVec.ushiftRight_eq_zero (by omega)]
theorem shl_ofInt {b : Nat} (x : BitVec b) (n : Nat) : BitVec.ofInt b (eW x * 2 ^ n) = x <<< n := by
  rw [BitVec.ofInt_mul, ofInt_eW, BitVec.shiftLeft_eq_mul_twoPow]
  congr 1
  apply BitVec.eq_of_toNat_eq
  rw [BitVec.toNat_ofInt, BitVec.toNat_twoPow]
  have : ((2 : Int) ^ n) = ((2 ^ n : Nat) : Int) := by simp
  rw [this]; exact_mod_cast rfl
theorem shl32 (x : BitVec 32) (n : Nat) : IntKind.u32.wrap (eW x * 2 ^ n) = eW (x <<< n) := by rw [wrap32_eq, shl_ofInt]
theorem shl64 (x : BitVec 64) (n : Nat) : IntKind.u64.wrap (eW x * 2 ^ n) = eW (x <<< n) := by rw [wrap64_eq, shl_ofInt]

theorem i64w (n : Int) (h : -9223372036854775808 ≤ n ∧ n ≤ 9223372036854775807) : IntKind.i64.wrap n = n := by rw [IntKind.wrap_i64]; omega
theorem alloc_drewN (w : World) (n : Nat) (o : Obj) : (w.drewN n).alloc o = (w.alloc o).drewN n := rfl
theorem cell2 {w : World} {b o : Nat} {v : Value} (h : w.cell? ⟨b, o, none⟩ = some v) : ∀ o1 o2, ((w.alloc o1).alloc o2).cell? ⟨b, o, none⟩ = some v := fun o1 o2 => by
  have hlt : b < w.heap.size := World.block_lt_of_cell? w _ h
  rw [World.cell?_alloc_lt _ _ _ (by simp; omega), World.cell?_alloc_lt _ _ _ hlt, h]
theorem frozen2 {w : World} {b o : Nat} (hlt : b < w.heap.size) (h : w.frozen? ⟨b, o, none⟩ = false) : ∀ o1 o2, ((w.alloc o1).alloc o2).frozen? ⟨b, o, none⟩ = false := fun o1 o2 => by
  have hb : Below w.heap.size w ((w.alloc o1).alloc o2) := ((Below.refl _ _).alloc (Nat.le_refl _) _).alloc (by simp) _
  rw [hb.frozen hlt, h]
theorem heap2 {w : World} {g : Nat} {o : Obj} (h : w.heap[g]? = some o) : ∀ o1 o2, ((w.alloc o1).alloc o2).heap[g]? = some o := fun o1 o2 => by
  have hlt : g < w.heap.size := (Array.getElem?_eq_some_iff.1 h).1
  have hb : Below w.heap.size w ((w.alloc o1).alloc o2) := ((Below.refl _ _).alloc (Nat.le_refl _) _).alloc (by simp) _
  rw [hb.block _ hlt, h]
theorem cell3 {w : World} {b o : Nat} {v : Value} (h : w.cell? ⟨b, o, none⟩ = some v) : ∀ o1 o2 o3, (((w.alloc o1).alloc o2).alloc o3).cell? ⟨b, o, none⟩ = some v := fun o1 o2 o3 => by
  have hlt : b < w.heap.size := World.block_lt_of_cell? w _ h
  rw [World.cell?_alloc_lt _ _ _ (by simp; omega), World.cell?_alloc_lt _ _ _ (by simp; omega), World.cell?_alloc_lt _ _ _ hlt, h]
theorem bal {a w : World} (h : Below a.heap.size a w) (o : Obj) : Below a.heap.size a (w.alloc o) := h.alloc h.size o
theorem brf (a : World) : Below a.heap.size a a := Below.refl _ _
theorem bdN {B : Nat} {a w : World} (h : Below B a w) (n : Nat) : Below B a (w.drewN n) := ⟨h.os, h.tape, h.output, h.size, h.block⟩
theorem b_cell {B : Nat} {w w' : World} (h : Below B w w') {b o : Nat} {v : Value} (hb : b < B) (hv : w.cell? ⟨b, o, none⟩ = some v) : w'.cell? ⟨b, o, none⟩ = some v := (h.cell (p := ⟨b, o, none⟩) hb).trans hv
theorem ret_int {k : IntKind} {a b : Int} (h : a = b) : Ending.returned (.int k a) = .returned (.int k b) := by rw [h]

theorem bcell {W w1 : World} (hb : Below W.heap.size W w1) : (∀ b o, b < W.heap.size → w1.cell? ⟨b, o, none⟩ = W.cell? ⟨b, o, none⟩) ∧ (∀ b o, b < W.heap.size → w1.frozen? ⟨b, o, none⟩ = W.frozen? ⟨b, o, none⟩) :=
  ⟨fun b o h => hb.cell (p := ⟨b, o, none⟩) h, fun b o h => hb.frozen (p := ⟨b, o, none⟩) h⟩

theorem extract_list (t : ByteArray) (a b : Nat) : (t.extract a b).data.toList = (t.data.toList.drop a).take (b - a) := by
  simp [List.extract_eq_take_drop]

def rotr {b : Nat} (x : BitVec b) (n : Nat) : BitVec b := x >>> n ||| x <<< (b - n)

end Go.Proofs.YtaghclgookfmnaaDoor
