/-
  digest.keySize, digest.mask.
-/
import Derived.Test.YtfihidnmgaiojaaSumAll
namespace Go.Proofs.Ytfihidnmgaiojaa
open Go.RowKit
set_option linter.unusedVariables false

/-- A row of bytes. -/
def byteRow (l : List UInt8) : Array Value := (l.map byteV).toArray

theorem byteRow_get (l : List UInt8) (k : Nat) (h : k < l.length) : (byteRow l)[k]? = some (byteV l[k]) := by simp [byteRow, h]
theorem byteRow_size (l : List UInt8) : (byteRow l).size = l.length := by simp [byteRow]

theorem made_bytes (n : Nat) : madeCells (Value.int .u8 0).cells (n * 1) = byteRow (List.replicate n 0) := by
  apply Array.ext'
  rw [Nat.mul_one]
  have := toList_madeCells_one (.int .u8 0) n
  rw [show (Value.int .u8 0).cells = #[.int .u8 0] from rfl, this]
  simp [byteRow, byteV]

theorem wp_copy_str {P : Program} {ops : Array Oper} {rest : List Oper} {o : Oper} {a : Act} {Q : Exit → Act → World → Prop} {w : World} (hgd : o.guard = none) (d s : Operand) (dT sT : TypeId)
    (ho : o.op = .call { callee := .builtin .copy, args := #[d, s], argTypes := #[dT, sT] }) (e : TypeId) (hu : P.underlying dT = some (.slice e)) (hs1 : (P.info? e).map (·.size) = some 1)
    (g n c : Nat) (t : TypeId) (l : List UInt8) (x : ByteArray) (hd : a.eval d = .slice (some ⟨g, 0, none⟩) n c) (hs : a.eval s = .string x) (hl : l.length = n) (hx : x.size ≤ n)
    (hg : w.heap[g]? = some (.cells (byteRow l) t (0, 0)))
    (h : ∀ v, wpList P ops Q rest (a.put o.dst v) (w.setRow g (byteRow (x.data.toList ++ l.drop x.size)))) : wpList P ops Q (o :: rest) a w := by
  refine wpList_plain hgd fun K hK => ?_
  have hm : Nat.min x.size n = x.size := Nat.min_eq_left hx
  have hc : List.take x.size (List.map (fun b : UInt8 => Value.int .u8 (b.toNat : Int)) x.data.toList) = (byteRow x.data.toList).toList := by
    rw [List.take_of_length_le (by simp)]; rfl
  have hst := run_storeCells_at P g 0 t (byteRow x.data.toList).toList 0 (byteRow l) w hg (by simp [byteRow]; omega) (by intro v hv; simp [byteRow] at hv; obtain ⟨b, _, rfl⟩ := hv; rfl)
  have e2 : (List.take (0 + 0) (byteRow l).toList ++ (byteRow x.data.toList).toList ++ List.drop (0 + 0 + (byteRow x.data.toList).toList.length) (byteRow l).toList).toArray = byteRow (x.data.toList ++ l.drop x.size) := by
    simp [byteRow]
  rw [e2] at hst
  have hr : (Builtin.copy_ #[dT, sT] o.type #[.slice (some ⟨g, 0, none⟩) n c, .string x]).run P w = .ok (goInt x.size) (w.setRow g (byteRow (x.data.toList ++ l.drop x.size))) := by
    cases hi : P.info? e with
    | none => simp [hi] at hs1
    | some i =>
      have hsz : i.size = 1 := by simpa [hi] using hs1
      simp [Builtin.copy_, run_underlying hu, Builtin.lenOf, sizeOf, typeInfo, hi, hm, Builtin.firstCells, hc, hst]
  unfold Oper.wp execOp
  simp only [ho, resolve, invoke, builtin, Sem.run_bind, Sem.run_pure, Result.andThen_ok, List.map_toArray, List.map_cons, List.map_nil, hd, hs, hr]
  exact hK _ _ (h _)

theorem xorU8 (b c : UInt8) : bits .xor .u8 (b.toNat : Int) (c.toNat : Int) = ((b ^^^ c).toNat : Int) := by
  rw [u8_xor_nat _ _ b.toNat_lt c.toNat_lt, UInt8.toNat_xor]

/-- k bytes of l have been ^ c. -/
def xorTo (c : UInt8) (l : List UInt8) (k : Nat) : List UInt8 := (l.take k).map (· ^^^ c) ++ l.drop k
theorem xorTo_length (c : UInt8) (l : List UInt8) (k : Nat) : (xorTo c l k).length = l.length := by simp [xorTo]; omega
theorem xorTo_get (c : UInt8) (l : List UInt8) (k : Nat) (h : k < l.length) : (byteRow (xorTo c l k))[k]? = some (byteV l[k]) := by
  have h1 : k < (xorTo c l k).length := by rw [xorTo_length]; exact h
  rw [byteRow_get _ _ h1]
  congr 2
  simp [xorTo, List.getElem_append_right, Nat.min_eq_left (Nat.le_of_lt h)]
theorem xorTo_set (c : UInt8) (l : List UInt8) (k : Nat) (h : k < l.length) : (byteRow (xorTo c l k)).setIfInBounds k (byteV (l[k] ^^^ c)) = byteRow (xorTo c l (k + 1)) := by
  apply Array.ext'
  rw [Array.toList_setIfInBounds]
  simp only [byteRow]
  rw [← List.map_set]
  congr 1
  have e1 : l.drop k = l[k] :: l.drop (k + 1) := List.drop_eq_getElem_cons h
  have e2 : l.take (k + 1) = l.take k ++ [l[k]] := List.take_succ_eq_append_getElem h
  have e3 : k - ((l.take k).map (· ^^^ c)).length = 0 := by simp; omega
  rw [xorTo, xorTo, e2, e1, List.set_append_right _ _ (by simp; omega), e3, List.set_cons_zero, List.map_append, List.append_assoc]
  rfl

/-- A key, filled up with bytes 0. -/
def padK (n : Nat) (k : List UInt8) : List UInt8 := k ++ List.replicate (n - k.length) 0
def maskL (n : Nat) (c : UInt8) (k : List UInt8) : List UInt8 := (padK n k).map (· ^^^ c)

theorem ksize_any (a : Int) (w : World) : Calls Try.prog 29 #[.int .i64 a] w fun e w' => e = .returned (.int .i64 (if a = 256 then 64 else 128)) ∧ w' = w := by
  by_cases h : a = 256
  · subst h
    go_enter Try.func29, Try.ntmps29
    go_wp2
    go_ret
    exact ⟨rfl, rfl⟩
  · have e1 : (a == 256) = false := by simp [h]
    rw [if_neg h]
    clear h
    go_enter Try.func29, Try.ntmps29
    go_wp2
    go_ret
    exact ⟨rfl, rfl⟩

section
attribute [local go_sem] xorU8

set_option maxHeartbeats 400000 in
theorem mask_any (k : ByteArray) (n : Nat) (c : UInt8) (w : World) (hk : k.size ≤ n) (hn : n ≤ 128) :
    Calls Try.prog 30 #[.string k, .int .i64 (n : Int), .int .u8 (c.toNat : Int)] w
      fun e w' => e = .returned (.string ⟨(maskL n c k.data.toList).toArray⟩) ∧ Below w.heap.size w w' := by
  obtain ⟨i0, hi, hz0, hz1, hz2⟩ := info_parts u8info32
  have hmk : ∀ W : World, (Instr.makeSlice 56 (.int .i64 (n : Int)) (.int .i64 (n : Int))).run Try.prog W = .ok (.slice (some ⟨W.heap.size, 0, none⟩) n n) (W.alloc (.cells (byteRow (List.replicate n 0)) 5)) := fun W => by
    have := run_make (P := Try.prog) W 56 5 i0 (.int .u8 0) Try.underlying56 hi hz0 .i64 .i64 (n : Int) (n : Int) (by omega) (by omega) (by rw [hz2]; omega) (by omega)
    rw [hz1, Int.toNat_natCast, made_bytes] at this
    exact this
  have hs1 : (Try.prog.info? 5).map (·.size) = some 1 := by rw [hi]; simp [hz1]
  have HS1 : Hid _ := hs1
  clear hi hz0 hz1 hz2 hs1
  generalize hL : k.data.toList ++ (List.replicate n 0).drop k.size = L
  have HL : Hid (k.data.toList ++ (List.replicate n 0).drop k.size = L) := hL
  have hLn : L.length = n := by rw [← hL]; simp; omega
  have HLn : Hid (L.length = n) := hLn
  clear hL hLn
  go_enter Try.func30, Try.ntmps30
  go_wp2_with (refine wp_copy_str rfl _ _ 56 9 rfl 5 Try.underlying56 HS1.out w.heap.size n n 5 (List.replicate n 0) k rfl rfl (by simp) hk (heap_alloc_new _ _) ?_; intro vc; rw [HL.out, World.setRow_alloc_new])
  go_loopw [16] (fun i wr => ∃ j : Nat, j ≤ n ∧ i = .int .i64 j ∧ wr.heap[w.heap.size]? = some (.cells (byteRow (xorTo c L j)) 5 (0, 0)) ∧ Below w.heap.size w wr) (fun i _ => n - (intOf i).toNat)
  case atStart => exact ⟨0, by omega, rfl, by rw [heap_alloc_new]; simp [xorTo], bal (brf _) _⟩
  case round =>
    obtain ⟨j, hj, rfl, hg, hb⟩ := hrel
    by_cases hlt : j < n
    · have hl : j < L.length := by rw [HLn.out]; exact hlt
      have hc : wr.cell? ⟨w.heap.size, j, none⟩ = some (.int .u8 (L[j].toNat : Int)) := by rw [cell_of_row _ _ _ _ _ _ hg, xorTo_get _ _ _ hl]; rfl
      have hf : wr.frozen? ⟨w.heap.size, j, none⟩ = false := frozen_of_row _ _ _ _ _ hg
      have HG : Hid _ := hg
      clear hg
      generalize hx : L[j] = x at hc
      have HX : Hid (L[j] = x) := hx
      clear hx
      have hi1 : (j : Int) < (n : Int) := by omega
      go_wp2_with fail
      go_roundw
      case rel =>
        refine ⟨j + 1, by omega, by go_num, ?_, hb.setCell (Nat.le_refl _) _⟩
        rw [heap_setCell_same _ _ _ _ _ _ HG.out, ← xorTo_set _ _ _ hl, HX.out]; rfl
      case measure => simp [intOf]; omega
    · obtain rfl : j = n := by omega
      have ho : OwnB w.heap.size 5 (.slice (some ⟨w.heap.size, 0, none⟩) (xorTo c L j).length j) (xorTo c L j) wr := by
        refine .inr ⟨w.heap.size, j, _, (0, 0), rfl, Nat.le_refl _, hg, .inl (Nat.zero_le _), ?_, ?_, ?_, ?_⟩
        · rw [xorTo_length, HLn.out]; exact Nat.le_refl _
        · unfold maxLen; omega
        · rw [byteRow_size, xorTo_length, HLn.out]
        · rw [List.take_of_length_le (by simp [byteRow])]; simp [byteRow]
      rw [xorTo_length, HLn.out] at ho
      have hs := ho.str (P := Try.prog) (t := 56) (d := 9) Try.underlying56 Try.underlying5 Try.underlying9
      clear ho hg
      generalize hM : xorTo c L j = M at hs
      have HM : Hid (xorTo c L j = M) := hM
      clear hM
      go_wp2
      go_ret
      refine ⟨?_, hb⟩
      have e1 : maskL j c k.data.toList = M := by
        have hl := HLn.out
        rw [← HM.out, maskL, xorTo, List.take_of_length_le (by omega), List.drop_of_length_le (by omega), List.append_nil, padK, ← HL.out]
        congr 2
        simp
      rw [e1]; rfl
end
end Go.Proofs.Ytfihidnmgaiojaa
