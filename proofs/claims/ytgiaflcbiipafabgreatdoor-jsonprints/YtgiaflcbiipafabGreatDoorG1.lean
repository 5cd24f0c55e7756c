/-
  Joined by program: Bits, Buf, JSpec.
-/
import Derived.Laws.BitsAllLaws
import Derived.Laws.Shifts
import Derived.WalkKit
import Derived.Deep.QuietTactic
import Derived.Laws.AppendOwn
import Derived.Laws.BytesArg
import Derived.Laws.IdiomStrings
import Derived.Laws.Rows
import Derived.Laws.Tables
import Derived.Laws.CopyOwn
/-
  Words as bit vectors: 'eW x' is the number that a word is. What Go's operations on uint32 and uint64 do to it.
-/
namespace Go.Proofs.YtgiaflcbiipafabGreatDoor
open Go.RowKit

def eW {b : Nat} (x : BitVec b) : Int := (x.toNat : Int)

theorem eW_nonneg {b : Nat} (x : BitVec b) : 0 ≤ eW x := by unfold eW; omega
theorem eW_lt {b : Nat} (x : BitVec b) : eW x < 2 ^ b := by
  unfold eW; have := x.isLt; exact_mod_cast this

theorem ofInt_eW {b : Nat} (x : BitVec b) : BitVec.ofInt b (eW x) = x := by unfold eW; simp

theorem wrap32_eq (n : Int) : IntKind.u32.wrap n = eW (BitVec.ofInt 32 n) := by
  rw [IntKind.wrap_u32']; unfold eW; rw [BitVec.toNat_ofInt]; omega
theorem wrap64_eq (n : Int) : IntKind.u64.wrap n = eW (BitVec.ofInt 64 n) := by
  rw [IntKind.wrap_u64]; unfold eW; rw [BitVec.toNat_ofInt]; omega
theorem wrap8_eq (n : Int) : IntKind.u8.wrap n = eW (BitVec.ofInt 8 n) := by
  rw [IntKind.wrap_u8']; unfold eW; rw [BitVec.toNat_ofInt]; omega

theorem wrap32_nat (x : BitVec 32) : IntKind.u32.wrap (x.toNat : Int) = eW x := by
  have := ofInt_eW x; unfold eW at this; rw [wrap32_eq, this]
theorem wrap64_nat (x : BitVec 64) : IntKind.u64.wrap (x.toNat : Int) = eW x := by
  have := ofInt_eW x; unfold eW at this; rw [wrap64_eq, this]
theorem wrap8_nat (x : BitVec 8) : IntKind.u8.wrap (x.toNat : Int) = eW x := by
  have := ofInt_eW x; unfold eW at this; rw [wrap8_eq, this]

theorem and32 (x y : BitVec 32) : bits .and .u32 (eW x) (eW y) = eW (x &&& y) := by
  show IntKind.u32.wrap ((BitVec.ofInt 32 (eW x) &&& BitVec.ofInt 32 (eW y)).toNat : Int) = _
  rw [ofInt_eW, ofInt_eW, wrap32_nat]
theorem or32 (x y : BitVec 32) : bits .or .u32 (eW x) (eW y) = eW (x ||| y) := by
  show IntKind.u32.wrap ((BitVec.ofInt 32 (eW x) ||| BitVec.ofInt 32 (eW y)).toNat : Int) = _
  rw [ofInt_eW, ofInt_eW, wrap32_nat]
theorem xor32 (x y : BitVec 32) : bits .xor .u32 (eW x) (eW y) = eW (x ^^^ y) := by
  show IntKind.u32.wrap ((BitVec.ofInt 32 (eW x) ^^^ BitVec.ofInt 32 (eW y)).toNat : Int) = _
  rw [ofInt_eW, ofInt_eW, wrap32_nat]
theorem and64 (x y : BitVec 64) : bits .and .u64 (eW x) (eW y) = eW (x &&& y) := by
  show IntKind.u64.wrap ((BitVec.ofInt 64 (eW x) &&& BitVec.ofInt 64 (eW y)).toNat : Int) = _
  rw [ofInt_eW, ofInt_eW, wrap64_nat]
theorem or64 (x y : BitVec 64) : bits .or .u64 (eW x) (eW y) = eW (x ||| y) := by
  show IntKind.u64.wrap ((BitVec.ofInt 64 (eW x) ||| BitVec.ofInt 64 (eW y)).toNat : Int) = _
  rw [ofInt_eW, ofInt_eW, wrap64_nat]
theorem xor64 (x y : BitVec 64) : bits .xor .u64 (eW x) (eW y) = eW (x ^^^ y) := by
  show IntKind.u64.wrap ((BitVec.ofInt 64 (eW x) ^^^ BitVec.ofInt 64 (eW y)).toNat : Int) = _
  rw [ofInt_eW, ofInt_eW, wrap64_nat]
theorem xor8 (x y : BitVec 8) : bits .xor .u8 (eW x) (eW y) = eW (x ^^^ y) := by
  show IntKind.u8.wrap ((BitVec.ofInt 8 (eW x) ^^^ BitVec.ofInt 8 (eW y)).toNat : Int) = _
  rw [ofInt_eW, ofInt_eW, wrap8_nat]

theorem not32 (x : BitVec 32) : bits .xor .u32 IntKind.u32.max (eW x) = eW (~~~x) := by
  show IntKind.u32.wrap ((BitVec.ofInt 32 4294967295 ^^^ BitVec.ofInt 32 (eW x)).toNat : Int) = _
  rw [ofInt_eW, wrap32_nat, show BitVec.ofInt 32 4294967295 = BitVec.allOnes 32 from rfl, BitVec.allOnes_xor]
theorem not64 (x : BitVec 64) : bits .xor .u64 IntKind.u64.max (eW x) = eW (~~~x) := by
  show IntKind.u64.wrap ((BitVec.ofInt 64 18446744073709551615 ^^^ BitVec.ofInt 64 (eW x)).toNat : Int) = _
  rw [ofInt_eW, wrap64_nat, show BitVec.ofInt 64 18446744073709551615 = BitVec.allOnes 64 from rfl, BitVec.allOnes_xor]

theorem ofInt_add_eW {b : Nat} (x y : BitVec b) : BitVec.ofInt b (eW x + eW y) = x + y := by
  rw [BitVec.ofInt_add, ofInt_eW, ofInt_eW]
theorem add32 (x y : BitVec 32) : IntKind.u32.wrap (eW x + eW y) = eW (x + y) := by rw [wrap32_eq, ofInt_add_eW]
theorem add64 (x y : BitVec 64) : IntKind.u64.wrap (eW x + eW y) = eW (x + y) := by rw [wrap64_eq, ofInt_add_eW]

theorem add32m (x y : BitVec 32) : (eW x + eW y) % (4294967296 : Int) = eW (x + y) := by rw [← add32, IntKind.wrap_u32']
theorem add64m (x y : BitVec 64) : (eW x + eW y) % (18446744073709551616 : Int) = eW (x + y) := by rw [← add64, IntKind.wrap_u64]
theorem add32m3 (x y z : BitVec 32) : (eW x + eW y + eW z) % (4294967296 : Int) = eW (x + y + z) := by rw [← add32m, ← add32m]; omega
theorem add64m3 (x y z : BitVec 64) : (eW x + eW y + eW z) % (18446744073709551616 : Int) = eW (x + y + z) := by rw [← add64m, ← add64m]; omega

theorem shr_eW {b : Nat} (x : BitVec b) (n : Nat) : eW x / 2 ^ n = eW (x >>> n) := by
  unfold eW; rw [BitVec.toNat_ushiftRight, Nat.shiftRight_eq_div_pow]
  have : ((2 : Int) ^ n) = ((2 ^ n : Nat) : Int) := by simp
  rw [this]; exact_mod_cast rfl
theorem shr_eW_min {b : Nat} (x : BitVec b) (n : Nat) : eW x / 2 ^ min n b = eW (x >>> n) := by
  rw [shr_eW]
  by_cases h : n ≤ b
  · rw [Nat.min_eq_left h]
  · rw [Nat.min_eq_right (by omega)]
    rw [BitVec.ushiftRight_eq_zero (by omega), BitVec.ushiftRight_eq_zero (by omega)]
theorem shl_ofInt {b : Nat} (x : BitVec b) (n : Nat) : BitVec.ofInt b (eW x * 2 ^ n) = x <<< n := by
  rw [BitVec.ofInt_mul, ofInt_eW, BitVec.shiftLeft_eq_mul_twoPow]
  congr 1
  apply BitVec.eq_of_toNat_eq
  rw [BitVec.toNat_ofInt, BitVec.toNat_twoPow]
  have : ((2 : Int) ^ n) = ((2 ^ n : Nat) : Int) := by simp
  rw [this]; exact_mod_cast rfl
theorem shl32 (x : BitVec 32) (n : Nat) : IntKind.u32.wrap (eW x * 2 ^ n) = eW (x <<< n) := by rw [wrap32_eq, shl_ofInt]
theorem shl64 (x : BitVec 64) (n : Nat) : IntKind.u64.wrap (eW x * 2 ^ n) = eW (x <<< n) := by rw [wrap64_eq, shl_ofInt]

theorem i64w (n : Int) (h : -9223372036854775808 ≤ n ∧ n ≤ 9223372036854775807) : IntKind.i64.wrap n = n := by rw [IntKind.wrap_i64]; omega
theorem alloc_drewN (w : World) (n : Nat) (o : Obj) : (w.drewN n).alloc o = (w.alloc o).drewN n := rfl
theorem cell2 {w : World} {b o : Nat} {v : Value} (h : w.cell? ⟨b, o, none⟩ = some v) : ∀ o1 o2, ((w.alloc o1).alloc o2).cell? ⟨b, o, none⟩ = some v := fun o1 o2 => by
  have hlt : b < w.heap.size := World.block_lt_of_cell? w _ h
  rw [World.cell?_alloc_lt _ _ _ (by simp; omega), World.cell?_alloc_lt _ _ _ hlt, h]
theorem frozen2 {w : World} {b o : Nat} (hlt : b < w.heap.size) (h : w.frozen? ⟨b, o, none⟩ = false) : ∀ o1 o2, ((w.alloc o1).alloc o2).frozen? ⟨b, o, none⟩ = false := fun o1 o2 => by
  have hb : Below w.heap.size w ((w.alloc o1).alloc o2) := ((Below.refl _ _).alloc (Nat.le_refl _) _).alloc (by simp) _
  rw [hb.frozen hlt, h]
theorem heap2 {w : World} {g : Nat} {o : Obj} (h : w.heap[g]? = some o) : ∀ o1 o2, ((w.alloc o1).alloc o2).heap[g]? = some o := fun o1 o2 => by
  have hlt : g < w.heap.size := (Array.getElem?_eq_some_iff.1 h).1
  have hb : Below w.heap.size w ((w.alloc o1).alloc o2) := ((Below.refl _ _).alloc (Nat.le_refl _) _).alloc (by simp) _
  rw [hb.block _ hlt, h]
theorem cell3 {w : World} {b o : Nat} {v : Value} (h : w.cell? ⟨b, o, none⟩ = some v) : ∀ o1 o2 o3, (((w.alloc o1).alloc o2).alloc o3).cell? ⟨b, o, none⟩ = some v := fun o1 o2 o3 => by
  have hlt : b < w.heap.size := World.block_lt_of_cell? w _ h
  rw [World.cell?_alloc_lt _ _ _ (by simp; omega), World.cell?_alloc_lt _ _ _ (by simp; omega), World.cell?_alloc_lt _ _ _ hlt, h]
theorem bal {a w : World} (h : Below a.heap.size a w) (o : Obj) : Below a.heap.size a (w.alloc o) := h.alloc h.size o
theorem brf (a : World) : Below a.heap.size a a := Below.refl _ _
theorem bdN {B : Nat} {a w : World} (h : Below B a w) (n : Nat) : Below B a (w.drewN n) := ⟨h.os, h.tape, h.output, h.size, h.block⟩
theorem b_cell {B : Nat} {w w' : World} (h : Below B w w') {b o : Nat} {v : Value} (hb : b < B) (hv : w.cell? ⟨b, o, none⟩ = some v) : w'.cell? ⟨b, o, none⟩ = some v := (h.cell (p := ⟨b, o, none⟩) hb).trans hv
theorem ret_int {k : IntKind} {a b : Int} (h : a = b) : Ending.returned (.int k a) = .returned (.int k b) := by rw [h]

theorem bcell {W w1 : World} (hb : Below W.heap.size W w1) : (∀ b o, b < W.heap.size → w1.cell? ⟨b, o, none⟩ = W.cell? ⟨b, o, none⟩) ∧ (∀ b o, b < W.heap.size → w1.frozen? ⟨b, o, none⟩ = W.frozen? ⟨b, o, none⟩) :=
  ⟨fun b o h => hb.cell (p := ⟨b, o, none⟩) h, fun b o h => hb.frozen (p := ⟨b, o, none⟩) h⟩

theorem extract_list (t : ByteArray) (a b : Nat) : (t.extract a b).data.toList = (t.data.toList.drop a).take (b - a) := by
  simp [List.extract_eq_take_drop]

def rotr {b : Nat} (x : BitVec b) (n : Nat) : BitVec b := x >>> n ||| x <<< (b - n)

end Go.Proofs.YtgiaflcbiipafabGreatDoor
/-
  Bytes that a call gathers: a slice of its own, whatever lies behind its last byte; append of one byte; []byte of a string; string of such a slice.
-/
namespace Go.Proofs.YtgiaflcbiipafabGreatDoor
open Go.RowKit
set_option linter.unusedVariables false

theorem ushr_min64 (x : BitVec 64) (n : Nat) : x >>> (min n 64) = x >>> n := by
  by_cases h : n ≤ 64
  · rw [Nat.min_eq_left h]
  · rw [Nat.min_eq_right (by omega), BitVec.ushiftRight_eq_zero (by omega), BitVec.ushiftRight_eq_zero (by omega)]

def byteV (b : UInt8) : Value := .int .u8 (b.toNat : Int)

/-- The slice v holds the bytes l, in a block from B on; what may not be written of it lies ahead of its end or behind its room. -/
def OwnB (B : Nat) (e : TypeId) (v : Value) (l : List UInt8) (w : World) : Prop :=
  (v = .slice none 0 0 ∧ l = []) ∨
  ∃ g cap cur fz, v = .slice (some ⟨g, 0, none⟩) l.length cap ∧ B ≤ g ∧ w.heap[g]? = some (.cells cur e fz) ∧ (fz.2 ≤ l.length ∨ cap ≤ fz.1) ∧ l.length ≤ cap ∧ cap ≤ maxLen ∧ cur.size = cap ∧
    cur.toList.take l.length = l.map byteV

theorem OwnB.below {B C : Nat} {e : TypeId} {v : Value} {l : List UInt8} {w w' : World} (h : OwnB B e v l w) (hb : Below C w w') (hC : w.heap.size ≤ C) : OwnB B e v l w' := by
  rcases h with h | ⟨g, cap, cur, fz, hv, hB, hg, rest⟩
  · exact .inl h
  · refine .inr ⟨g, cap, cur, fz, hv, hB, ?_, rest⟩
    have := (Array.getElem?_eq_some_iff.1 hg).1
    rw [hb.block _ (by omega)]; exact hg

theorem OwnB.cells {B : Nat} {e : TypeId} {l : List UInt8} {w : World} {g cap : Nat} {cur : Array Value} {fz : Nat × Nat} (hg : w.heap[g]? = some (.cells cur e fz)) (ht : cur.toList.take l.length = l.map byteV) :
    ∀ j u, (l.map byteV)[j]? = some u → w.cell? ((⟨g, 0, none⟩ : Addr).add j) = some u := by
  intro j u hu
  have hadd : (⟨g, 0, none⟩ : Addr).add j = ⟨g, j, none⟩ := by unfold Addr.add; split <;> simp_all
  rw [hadd, cell_of_row w g j cur e fz hg]
  rw [← ht, List.getElem?_take] at hu
  split at hu
  · simpa using hu
  · cases hu

theorem one_cell (w : World) (v : Value) (e : TypeId) : ∀ j u, [v][j]? = some u → (w.alloc (.cells #[v] e)).cell? ((⟨w.heap.size, 0, none⟩ : Addr).add j) = some u := by
  intro j u hu
  match j, hu with
  | 0, hu => simp at hu; subst hu; simp [Addr.add]
  | (j + 1), hu => simp at hu

theorem grown_own {P : Program} (W : World) (e : TypeId) (B : Nat) (l : List UInt8) (b : UInt8) (c : Nat) (hB : B ≤ W.heap.size) (hc : l.length + 1 ≤ c) (hm : c ≤ maxLen) :
    OwnB B e (.slice (some ⟨W.heap.size, 0, none⟩) (l.length + 1) c) (l ++ [b]) (W.drew.alloc (.cells ((l.map byteV).toArray ++ [byteV b].toArray ++ Builtin.zeroCells (Value.int .u8 0).cells (c - (l.length + 1))) e)) := by
  refine .inr ⟨W.heap.size, c, _, (0, 0), by simp, hB, heap_alloc_new W.drew _, .inl (Nat.zero_le _), by simpa using hc, hm, ?_, ?_⟩
  · have hz1 : (Value.int IntKind.u8 0).cells.size = 1 := rfl
    simp only [Array.size_append, List.size_toArray, size_zeroCells, hz1, List.length_map, List.length_singleton]
    omega
  · have e1 : (l ++ [b]).length = ((l.map byteV) ++ [byteV b]).length := by simp
    rw [e1]
    simp only [Array.toList_append]
    rw [List.take_left]; simp

theorem app1 {P : Program} (w0 : World) (t ty e : TypeId) (i : TypeInfo) (ht : P.underlying t = some (.slice e)) (hi : P.info? e = some i) (hz : i.zero = some (.int .u8 0)) (hsize : i.size = 1) (hby : i.bytes = 1)
    (B : Nat) (v : Value) (l : List UInt8) (b : UInt8) (hown : OwnB B e v l w0) (hB : B ≤ w0.heap.size) (hlen : l.length + 1 ≤ 140737488355328) :
    ∃ v' w', (Builtin.append_ #[t, t] ty #[v, .slice (some ⟨w0.heap.size, 0, none⟩) 1 1]).run P (w0.alloc (.cells #[byteV b] e)) = .ok v' w' ∧ OwnB B e v' (l ++ [b]) w' ∧ Below B w0 w' := by
  have hW : Below B w0 (w0.alloc (.cells #[byteV b] e)) := (Below.refl _ _).alloc hB _
  have hnew := one_cell w0 (byteV b) e
  generalize hWe : w0.alloc (.cells #[byteV b] e) = W at hW hnew
  have hsz : W.heap.size = w0.heap.size + 1 := by rw [← hWe]; simp
  have h63 : l.length + 1 ≤ maxLen := by unfold maxLen; omega
  rcases hown with ⟨rfl, rfl⟩ | ⟨g, cap, cur, fz, rfl, hBg, hg, hfz, hlc, hcm, hcs, htk⟩
  · obtain ⟨v', w', r1, r2, r3, _⟩ := run_append_own (P := P) W B t ty e i (.int .u8 0) 1 1 ht hi hz hsize hby rfl (by decide) (.slice none 0 0) 0 [] ⟨by simp, .inl ⟨rfl, rfl⟩⟩ ⟨w0.heap.size, 0, none⟩ 1 1 [byteV b] rfl hnew
      (by intro u hu; simp at hu; subst hu; rfl) (by unfold maxLen; omega) (by omega) (by omega)
    refine ⟨v', w', r1, ?_, hW.trans ⟨r3.os, r3.tape, r3.output, r3.size, fun k hk => r3.block k (by omega) (by simp [Value.ownBlock])⟩⟩
    rcases r2.2 with ⟨_, h0⟩ | ⟨g, cap, cur, hv, hb, hg, hn, hm, hs, htake⟩
    · omega
    · exact .inr ⟨g, cap, cur, (0, 0), hv, hb, hg, .inl (Nat.zero_le _), hn, hm, by omega, by simpa using htake⟩
  · have hgW : W.heap[g]? = some (.cells cur e fz) := by
      rw [← hWe, heap_alloc_old _ _ (Array.getElem?_eq_some_iff.1 hg).1]; exact hg
    by_cases hroom : l.length + 1 ≤ cap
    · have hf := run_firstCells_some (P := P) W 1 1 ⟨w0.heap.size, 0, none⟩ 1 1 [byteV b] rfl hnew
      have hcell : W.cell? ⟨g, l.length, none⟩ = some cur[l.length] := by simp [World.cell?, hgW]
      have hfro : W.frozen? ⟨g, l.length, none⟩ = false := by
        obtain ⟨lo, hi'⟩ := fz
        simp only [World.frozen?, hgW, Bool.and_eq_false_iff, decide_eq_false_iff_not]
        simp only at hfz
        omega
      have hadd : (⟨g, l.length, none⟩ : Addr).add 0 = ⟨g, l.length, none⟩ := by unfold Addr.add; split <;> simp_all
      have hst : (storeCells ⟨g, l.length, none⟩ [byteV b] 0).run P W = .ok () (W.setRow g (cur.setIfInBounds l.length (byteV b))) := by
        simp only [storeCells, Sem.run_bind, hadd]
        rw [run_store P W _ (byteV b) _ rfl, hcell]
        simp [hfro, setCell_eq_setRow W g l.length cur e fz (byteV b) hgW]
      refine ⟨.slice (some ⟨g, 0, none⟩) (l.length + 1) cap, W.setRow g (cur.setIfInBounds l.length (byteV b)), ?_, ?_, below_setRow hW hBg _⟩
      · simp [Builtin.append_, run_underlying ht, sizeOf, typeInfo, hi, hsize, Builtin.lenOf, hroom, hf, Addr.add_lit, hst]
      · refine .inr ⟨g, cap, _, fz, by simp, hBg, setRow_heap W g cur _ e _ hgW, ?_, by simpa using hroom, hcm, by simpa using hcs, ?_⟩
        · rcases hfz with h | h
          · left; simp; omega
          · exact .inr h
        · rw [List.length_append, List.length_singleton, Array.toList_setIfInBounds, List.take_succ_eq_append_getElem (by simp; omega)]
          rw [List.take_set_of_le (Nat.le_refl _), htk]
          simp
    · have holds := OwnB.cells (B := B) (cap := cap) hgW htk
      have hr := run_append_grow (P := P) W t ty e i (.int .u8 0) ht hi hz ⟨g, 0, none⟩ l.length cap (l.map byteV) (by rw [hsize]; simp) holds ⟨w0.heap.size, 0, none⟩ 1 1 [byteV b] (by rw [hsize]; rfl) hnew (by omega) (by unfold maxLen at h63; omega)
        (by rw [hby]; exact growslice_fits (by omega) (by omega))
      refine ⟨_, _, hr, grown_own (P := P) W e B l b _ (by omega) (grownCap_ge W _ _ e) (grownCap_le_maxLen W _ _ e h63), ?_⟩
      exact (hW.drew).alloc (by show B ≤ W.heap.size; omega) _

/-- The operation, for the walk. -/
theorem wp_app1 {P : Program} {ops : Array Oper} {rest : List Oper} {o : Oper} {a : Act} {Q : Exit → Act → World → Prop} (hgd : o.guard = none) (s x : Operand) (t : TypeId)
    (ho : o.op = .call { callee := .builtin .append, args := #[s, x], argTypes := #[t, t] })
    (e : TypeId) (i : TypeInfo) (ht : P.underlying t = some (.slice e)) (hi : P.info? e = some i) (hz : i.zero = some (.int .u8 0)) (hsize : i.size = 1) (hby : i.bytes = 1)
    (B : Nat) (v : Value) (l : List UInt8) (b : UInt8) (w0 : World) (hs : a.eval s = v) (hown : OwnB B e v l w0) (hB : B ≤ w0.heap.size) (hlen : l.length + 1 ≤ 140737488355328)
    (hx : a.eval x = .slice (some ⟨w0.heap.size, 0, none⟩) 1 1)
    (h : ∀ v' w', OwnB B e v' (l ++ [b]) w' → Below B w0 w' → wpList P ops Q rest (a.put o.dst v') w') : wpList P ops Q (o :: rest) a (w0.alloc (.cells #[byteV b] e)) := by
  refine wpList_plain hgd fun K hK => ?_
  obtain ⟨v', w', hr, h2, h3⟩ := app1 (P := P) w0 t o.type e i ht hi hz hsize hby B v l b hown hB hlen
  unfold Oper.wp execOp
  simp only [ho, resolve, invoke, builtin, Sem.run_bind, Sem.run_pure, Result.andThen_ok, List.map_toArray, List.map_cons, List.map_nil, hs, hx, hr]
  exact hK _ _ (h v' w' h2 h3)

theorem OwnB.shape {B : Nat} {e : TypeId} {v : Value} {l : List UInt8} {w : World} (h : OwnB B e v l w) (hl : l ≠ []) : ∃ g cap, v = .slice (some ⟨g, 0, none⟩) l.length cap := by
  rcases h with ⟨_, h⟩ | ⟨g, cap, _, _, hv, _⟩
  · exact absurd h hl
  · exact ⟨g, cap, hv⟩

def slen : Value → Nat | .slice _ n _ => n | _ => 0
theorem OwnB.slen {B : Nat} {e : TypeId} {v : Value} {l : List UInt8} {w : World} (h : OwnB B e v l w) : slen v = l.length := by
  rcases h with ⟨rfl, rfl⟩ | ⟨g, cap, _, _, rfl, _⟩ <;> rfl

theorem OwnB.str {P : Program} {B : Nat} {t d e : TypeId} {v : Value} {l : List UInt8} {w : World} (ht : P.underlying t = some (.slice e)) (he : P.underlying e = some (.int .u8)) (hd : P.underlying d = some .string) (h : OwnB B e v l w) :
    Sem.run P (convert t d v) w = .ok (.string ⟨l.toArray⟩) w := by
  rcases h with ⟨rfl, rfl⟩ | ⟨g, cap, cur, fz, rfl, hB, hg, hfz, hlc, hcm, hcs, htk⟩
  · exact run_convert_bytes_nil w t e ht he 0 0 d hd
  · refine run_convert_bytes_back w t d e ⟨g, 0, none⟩ cap l ht he hd ?_
    intro j hj
    exact OwnB.cells (B := B) (cap := cap) hg htk j _ (by simp [List.getElem?_eq_getElem hj, byteV])

theorem wp_bytes {P : Program} {ops : Array Oper} {rest : List Oper} {o : Oper} {a : Act} {Q : Exit → Act → World → Prop} {w : World} (hgd : o.guard = none) (x : Operand) (t d : TypeId)
    (ho : o.op = .convert t d x) (e : TypeId) (ht : P.underlying t = some .string) (hd : P.underlying d = some (.slice e)) (he : P.underlying e = some (.int .u8))
    (B : Nat) (s : ByteArray) (hs : a.eval x = .string s) (hB : B ≤ w.heap.size) (hlen : s.size ≤ maxLen)
    (h : ∀ v' w', OwnB B e v' s.data.toList w' → Below B w w' → wpList P ops Q rest (a.put o.dst v') w') : wpList P ops Q (o :: rest) a w := by
  refine wpList_plain hgd fun K hK => ?_
  have hr := run_bytes_of_string (P := P) w t d e s ht hd he
  have hge := grownCap_ge w s.size 0 e
  have hm := grownCap_le_maxLen w s.size 0 e hlen
  generalize grownCap w s.size 0 e = c at hr hge hm
  have hsz : (bytesRow s c).size = c := by
    simp only [bytesRow, Array.size_append, Array.size_map, Array.size_replicate, ByteArray.size_data]; omega
  unfold Oper.wp execOp
  simp only [ho, hs, Sem.run_bind, Sem.run_pure, Result.andThen_ok, hr]
  refine hK _ _ (h _ _ ?_ ((Below.refl B w).drew.alloc hB _))
  refine .inr ⟨w.heap.size, c, _, _, by simp, hB, heap_alloc_new w.drew _, .inr (by simp [hsz]), by simpa using hge, hm, hsz, ?_⟩
  simp only [bytesRow, Array.toList_append, Array.toList_map]
  rw [List.take_left' (by simp)]
  rfl

end Go.Proofs.YtgiaflcbiipafabGreatDoor
/-
  JSON as the document says it, on lists of bytes: what a text is read as, or the first fault and its place.
-/
namespace Go.Proofs.YtgiaflcbiipafabGreatDoor
set_option linter.unusedVariables false

/-- What lies from i on. -/
def sfx (s : ByteArray) (i : Nat) : List UInt8 := s.data.toList.drop i
theorem sfx_cons (s : ByteArray) (i : Nat) (h : i < s.size) : sfx s i = s[i] :: sfx s (i + 1) := by
  unfold sfx
  have h' : i < s.data.toList.length := by simpa using h
  rw [List.drop_eq_getElem_cons h']; rfl
theorem sfx_nil (s : ByteArray) (i : Nat) (h : s.size ≤ i) : sfx s i = [] := by
  unfold sfx
  exact List.drop_of_length_le (by simpa using h)
theorem sfx_drop (s : ByteArray) (i n : Nat) : (sfx s i).drop n = sfx s (i + n) := by unfold sfx; rw [List.drop_drop]
theorem sfx_length (s : ByteArray) (i : Nat) : (sfx s i).length = s.size - i := by unfold sfx; simp
theorem sfx_get (s : ByteArray) (i k : Nat) (h : i + k < s.size) : (sfx s i)[k]? = some s[i + k] := by
  unfold sfx
  have h' : i + k < s.data.toList.length := by simpa using h
  rw [List.getElem?_drop, List.getElem?_eq_getElem h']; rfl
theorem sfx_get_none (s : ByteArray) (i k : Nat) (h : s.size ≤ i + k) : (sfx s i)[k]? = none := by
  rw [List.getElem?_eq_none]; rw [sfx_length]; omega

def isB (c : UInt8) : Bool := c == 32 || c == 9 || c == 10 || c == 13
/-- How many blanks stand ahead. -/
def nb : List UInt8 → Nat | [] => 0 | c :: r => if isB c then nb r + 1 else 0
def isD (c : UInt8) : Bool := decide (48 ≤ c.toNat) && decide (c.toNat ≤ 57)

def goesL (l : List UInt8) (k lo hi : Nat) : Bool := match l[k]? with | some c => decide (lo ≤ c.toNat) && decide (c.toNat ≤ hi) | none => false
def seqN (c : Nat) : Nat := if c < 224 then 2 else if c < 240 then 3 else 4
def seqLo (c : Nat) : Nat := if c = 224 then 160 else if c = 240 then 144 else 128
def seqHi (c : Nat) : Nat := if c = 237 then 159 else if c = 244 then 143 else 191
/-- How many bytes the right sequence has that stands ahead; 0: none does. -/
def seqLen (l : List UInt8) : Nat :=
  match l with
  | [] => 0
  | c :: _ =>
    if c.toNat < 128 then 1
    else if c.toNat < 194 ∨ 244 < c.toNat then 0
    else if (goesL l 1 (seqLo c.toNat) (seqHi c.toNat) && (decide (seqN c.toNat ≤ 2) || goesL l 2 128 191) && (decide (seqN c.toNat ≤ 3) || goesL l 3 128 191)) = true then seqN c.toNat else 0

def hexv (c : UInt8) : Option Nat :=
  if 48 ≤ c.toNat ∧ c.toNat ≤ 57 then some (c.toNat - 48)
  else if 65 ≤ c.toNat ∧ c.toNat ≤ 70 then some (c.toNat - 55)
  else if 97 ≤ c.toNat ∧ c.toNat ≤ 102 then some (c.toNat - 87)
  else none
/-- k signs more, n so far, o signs ahead: the number, or none; and where it ends. -/
def fourG : Nat → Nat → List UInt8 → Nat → Option Nat × Nat
  | 0, n, _, o => (some n, o)
  | _ + 1, _, [], o => (none, o)
  | k + 1, n, c :: r, o => match hexv c with | none => (none, o) | some d => fourG k (16 * n + d) r (o + 1)
def four4 (l : List UInt8) : Option Nat × Nat := fourG 4 0 l 0
/-- The number of a second half that stands ahead. -/
def lowL (l : List UInt8) : Option Nat :=
  match l with
  | a :: b :: r => if a = 92 ∧ b = 117 then (match (four4 r).1 with | some n => if 56320 ≤ n ∧ n ≤ 57343 then some n else none | none => none) else none
  | _ => none
def wr8 (n : Nat) : List UInt8 :=
  if n < 128 then [UInt8.ofNat n]
  else if n < 2048 then [UInt8.ofNat (192 + n / 64), UInt8.ofNat (128 + n % 64)]
  else if n < 65536 then [UInt8.ofNat (224 + n / 4096), UInt8.ofNat (128 + n / 64 % 64), UInt8.ofNat (128 + n % 64)]
  else [UInt8.ofNat (240 + n / 262144), UInt8.ofNat (128 + n / 4096 % 64), UInt8.ofNat (128 + n / 64 % 64), UInt8.ofNat (128 + n % 64)]
/-- A backslash-u of the number n; r: what lies behind its four signs. -/
def pairL (n : Nat) (r : List UInt8) : Except Nat (List UInt8 × Nat) :=
  if n < 55296 ∨ 57343 < n then .ok (wr8 n, 6)
  else match lowL r with
    | none => .error 0
    | some m => if 56320 ≤ n then .error 0 else .ok (wr8 (65536 + 1024 * (n - 55296) + (m - 56320)), 12)
def esc1 (c : UInt8) : Option UInt8 :=
  if c = 34 ∨ c = 92 ∨ c = 47 then some c else if c = 98 then some 8 else if c = 102 then some 12 else if c = 110 then some 10 else if c = 114 then some 13 else if c = 116 then some 9 else none
/-- What a backslash (the list's first byte) and what is behind it stand for, and how many bytes they are; or where the fault is. -/
def escL (l : List UInt8) : Except Nat (List UInt8 × Nat) :=
  match l with
  | _ :: c :: r =>
    match esc1 c with
    | some b => .ok ([b], 2)
    | none => if c = 117 then (match four4 r with | (none, o) => .error (2 + o) | (some n, _) => pairL n (r.drop 4)) else .error 1
  | _ => .error 1

def shiftS (acc : List UInt8) (k : Nat) : Except Nat (List UInt8 × Nat) → Except Nat (List UInt8 × Nat)
  | .ok (t, n) => .ok (acc ++ t, k + n)
  | .error o => .error (k + o)

/-- A string behind its first quote: its bytes, and how many bytes were read, the last quote among them. 'f': as many rounds as there are bytes. -/
def strF : Nat → List UInt8 → Except Nat (List UInt8 × Nat)
  | 0, _ => .error 0
  | f + 1, l =>
    match l with
    | [] => .error 0
    | c :: _ =>
      if c = 34 then .ok ([], 1)
      else if c.toNat < 32 then .error 0
      else if c = 92 then
        match escL l with
        | .error o => .error o
        | .ok (t, n) => shiftS t n (strF f (l.drop n))
      else if seqLen l = 0 then .error 0
      else shiftS (l.take (seqLen l)) (seqLen l) (strF f (l.drop (seqLen l)))
def strL (l : List UInt8) : Except Nat (List UInt8 × Nat) := strF (l.length + 1) l
/-- A string, its quotes among it. -/
def quotL (l : List UInt8) : Except Nat (List UInt8 × Nat) :=
  match l with
  | c :: r => if c = 34 then (match strL r with | .ok (t, n) => .ok (t, n + 1) | .error o => .error (o + 1)) else .error 0
  | [] => .error 0

def maxI : Nat := 9007199254740991
/-- The digits that stand ahead: how many. -/
def nd : List UInt8 → Nat | [] => 0 | c :: r => if isD c then nd r + 1 else 0
/-- Their number; beyond its bound it stands still. -/
def accN : Nat → List UInt8 → Nat
  | n, [] => n
  | n, c :: r => accN (if n ≤ maxI then 10 * n + (c.toNat - 48) else n) r
def intL (l : List UInt8) : Except (Nat × Nat) (Int × Nat) :=
  let m := if l.head? = some 45 then 1 else 0
  let r := l.drop m
  let k := nd r
  if k = 0 ∨ (1 < k ∧ r.head? = some 48) then .error (2, m)
  else if maxI < accN 0 (r.take k) then .error (3, 0)
  else .ok (if m = 1 then -(accN 0 (r.take k) : Int) else (accN 0 (r.take k) : Int), m + k)

def isL (c : UInt8) : Bool := decide (97 ≤ c.toNat) && decide (c.toNat ≤ 122)
def nl : List UInt8 → Nat | [] => 0 | c :: r => if isL c then nl r + 1 else 0

/-- A tree; 'at' the place of its first byte. -/
inductive JT where
  | null (at' : Nat)
  | truth (b : Bool) (at' : Nat)
  | int (n : Int) (at' : Nat)
  | str (t : List UInt8) (at' : Nat)
  | arr (ts : List JT) (at' : Nat)
  | obj (ms : List (List UInt8 × JT)) (at' : Nat)

def wordL (l : List UInt8) (i : Nat) : Except (Nat × Nat) (JT × Nat) :=
  let w := l.take (nl l)
  if w = [116, 114, 117, 101] then .ok (.truth true i, 4)
  else if w = [102, 97, 108, 115, 101] then .ok (.truth false i, 5)
  else if w = [110, 117, 108, 108] then .ok (.null i, 4)
  else .error (2, i)

abbrev JR (α : Type) := Except (Nat × Nat) (α × Nat)

/-- The values of an array, from where the first one may stand; 'v': how a value is read; answers how far it went, the bracket among it. -/
def arrF (v : List UInt8 → Nat → JR JT) : Nat → List UInt8 → Nat → JR (List JT)
  | 0, _, i => .error (2, i)
  | f + 1, l, i =>
    let a := nb l
    match v (l.drop a) (i + a) with
    | .error e => .error e
    | .ok (t, n) =>
      let b := a + n + nb (l.drop (a + n))
      match l.drop b with
      | c :: _ =>
        if c = 44 then (match arrF v f (l.drop (b + 1)) (i + (b + 1)) with | .error e => .error e | .ok (ts, k) => .ok (t :: ts, b + 1 + k))
        else if c = 93 then .ok ([t], b + 1) else .error (2, i + b)
      | [] => .error (2, i + b)

/-- The members of an object; 'ks': the names that stood ahead. -/
def objF (v : List UInt8 → Nat → JR JT) : Nat → List (List UInt8) → List UInt8 → Nat → JR (List (List UInt8 × JT))
  | 0, _, _, i => .error (2, i)
  | f + 1, ks, l, i =>
    let a := nb l
    match quotL (l.drop a) with
    | .error o => .error (2, i + a + o)
    | .ok (name, m) =>
      if name ∈ ks then .error (4, i + a)
      else
        let b := a + m + nb (l.drop (a + m))
        match l.drop b with
        | c :: _ =>
          if c = 58 then
            let d := b + 1 + nb (l.drop (b + 1))
            match v (l.drop d) (i + d) with
            | .error e => .error e
            | .ok (t, n) =>
              let g := d + n + nb (l.drop (d + n))
              match l.drop g with
              | c :: _ =>
                if c = 44 then (match objF v f (ks ++ [name]) (l.drop (g + 1)) (i + (g + 1)) with | .error e => .error e | .ok (ms, k) => .ok ((name, t) :: ms, g + 1 + k))
                else if c = 125 then .ok ([(name, t)], g + 1) else .error (2, i + g)
              | [] => .error (2, i + g)
          else .error (2, i + b)
        | [] => .error (2, i + b)

def arrL (v : List UInt8 → Nat → JR JT) (l : List UInt8) (i : Nat) : JR JT :=
  let a := 1 + nb (l.drop 1)
  if (l.drop a).head? = some 93 then .ok (.arr [] i, a + 1)
  else match arrF v (l.length + 1) (l.drop a) (i + a) with
    | .error e => .error e
    | .ok (ts, k) => .ok (.arr ts i, a + k)
def objL (v : List UInt8 → Nat → JR JT) (l : List UInt8) (i : Nat) : JR JT :=
  let a := 1 + nb (l.drop 1)
  if (l.drop a).head? = some 125 then .ok (.obj [] i, a + 1)
  else match objF v (l.length + 1) [] (l.drop a) (i + a) with
    | .error e => .error e
    | .ok (ms, k) => .ok (.obj ms i, a + k)

/-- A value, with d more brackets around what is within. -/
def valL : Nat → List UInt8 → Nat → JR JT
  | d, l, i =>
    match l with
    | [] => .error (2, i)
    | c :: _ =>
      if c = 34 then (match quotL l with | .error o => .error (2, i + o) | .ok (t, n) => .ok (.str t i, n))
      else if c = 45 ∨ isD c = true then (match intL l with | .error (e, o) => .error (e, i + o) | .ok (n, k) => .ok (.int n i, k))
      else if c = 116 ∨ c = 102 ∨ c = 110 then wordL l i
      else if c = 91 ∨ c = 123 then
        match d with
        | 0 => .error (5, i)
        | d + 1 => if c = 91 then arrL (valL d) l i else objL (valL d) l i
      else .error (2, i)

/-- A text, whole. -/
def readL (l : List UInt8) : Except (Nat × Nat) JT :=
  if 65536 < l.length then .error (1, 0)
  else
    let a := nb l
    match valL 32 (l.drop a) a with
    | .error e => .error e
    | .ok (t, n) =>
      let b := a + n + nb (l.drop (a + n))
      if b < l.length then .error (2, b) else .ok t

/-- A node, as it is told. -/
structure Nd where
  kind : Nat
  key : List UInt8
  text : List UInt8
  num : Int
  kids : List Nat
  at' : Nat

mutual
def JT.size : JT → Nat
  | .null _ => 1
  | .truth _ _ => 1
  | .int _ _ => 1
  | .str _ _ => 1
  | .arr ts _ => 1 + sizeL ts
  | .obj ms _ => 1 + sizeM ms
def sizeL : List JT → Nat
  | [] => 0
  | t :: r => t.size + sizeL r
def sizeM : List (List UInt8 × JT) → Nat
  | [] => 0
  | (_, t) :: r => t.size + sizeM r
end
def startsL : Nat → List JT → List Nat
  | _, [] => []
  | b, t :: r => b :: startsL (b + t.size) r
def startsM : Nat → List (List UInt8 × JT) → List Nat
  | _, [] => []
  | b, (_, t) :: r => b :: startsM (b + t.size) r
mutual
/-- A tree's nodes; b: the number of its first. -/
def flat (b : Nat) (key : List UInt8) : JT → List Nd
  | .null i => [⟨0, key, [], 0, [], i⟩]
  | .truth x i => [⟨1, key, [], if x then 1 else 0, [], i⟩]
  | .int n i => [⟨2, key, [], n, [], i⟩]
  | .str t i => [⟨3, key, t, 0, [], i⟩]
  | .arr ts i => ⟨4, key, [], 0, startsL (b + 1) ts, i⟩ :: flatL (b + 1) ts
  | .obj ms i => ⟨5, key, [], 0, startsM (b + 1) ms, i⟩ :: flatM (b + 1) ms
def flatL (b : Nat) : List JT → List Nd
  | [] => []
  | t :: r => flat b [] t ++ flatL (b + t.size) r
def flatM (b : Nat) : List (List UInt8 × JT) → List Nd
  | [] => []
  | (k, t) :: r => flat b k t ++ flatM (b + t.size) r
end
mutual
theorem flat_length (b : Nat) (key : List UInt8) (t : JT) : (flat b key t).length = t.size := by
  cases t with
  | null => rfl
  | truth => rfl
  | int => rfl
  | str => rfl
  | arr ts i => rw [flat, List.length_cons, flatL_length, JT.size]; omega
  | obj ms i => rw [flat, List.length_cons, flatM_length, JT.size]; omega
theorem flatL_length (b : Nat) (ts : List JT) : (flatL b ts).length = sizeL ts := by
  cases ts with
  | nil => rfl
  | cons t r => rw [flatL, List.length_append, flat_length, flatL_length, sizeL]
theorem flatM_length (b : Nat) (ms : List (List UInt8 × JT)) : (flatM b ms).length = sizeM ms := by
  cases ms with
  | nil => rfl
  | cons m r =>
    obtain ⟨k, t⟩ := m
    rw [flatM, List.length_append, flat_length, flatM_length, sizeM]
end

end Go.Proofs.YtgiaflcbiipafabGreatDoor
