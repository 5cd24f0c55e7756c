/-
  The document's answer: veiled.
-/
import Derived.Test.YtfihidnmgaiojaaRBits
import Derived.Test.YtfihidnmgaiojaaMask
namespace Go.Proofs.Ytfihidnmgaiojaa
open Go.RowKit
set_option linter.unusedVariables false

theorem xorI (b c : UInt8) : bits .xor .i64 (b.toNat : Int) (c.toNat : Int) = ((b ^^^ c).toNat : Int) := by
  have h1 := b.toNat_lt
  have h2 := c.toNat_lt
  have e : ∀ u : UInt8, ((u.toNat : Nat) : Int) = eS (BitVec.ofNat 64 u.toNat) := by
    intro u
    have hu := u.toNat_lt
    unfold eS
    rw [BitVec.toInt_eq_toNat_cond, BitVec.toNat_ofNat]
    split <;> omega
  rw [e b, e c, xorS, e (b ^^^ c)]
  congr 1
  apply BitVec.eq_of_toNat_eq
  rw [BitVec.toNat_xor, BitVec.toNat_ofNat, BitVec.toNat_ofNat, BitVec.toNat_ofNat, UInt8.toNat_xor, Nat.mod_eq_of_lt (by omega), Nat.mod_eq_of_lt (by omega), Nat.mod_eq_of_lt]
  exact Nat.lt_of_lt_of_le (Nat.xor_lt_two_pow (n := 8) h1 h2) (by omega)
theorem xorIb (b c : UInt8) : bits .xor .i64 (b.toNat : Int) (c.toNat : Int) % 256 = ((b ^^^ c).toNat : Int) := by
  rw [xorI]
  have h := (b ^^^ c).toNat_lt
  omega

theorem xorIw (b c : UInt8) : bits .xor .i64 (wrap64 (b.toNat : Int)) (c.toNat : Int) % 256 = ((b ^^^ c).toNat : Int) := by
  have h := b.toNat_lt
  rw [show wrap64 (b.toNat : Int) = (b.toNat : Int) from by unfold wrap64; omega, xorIb]

/-- The first j bytes of l are ^ c, the others 0. -/
def veilTo (c : UInt8) (l : List UInt8) (j : Nat) : List UInt8 := (l.take j).map (· ^^^ c) ++ List.replicate (l.length - j) 0
theorem veilTo_length (c : UInt8) (l : List UInt8) (j : Nat) (h : j ≤ l.length) : (veilTo c l j).length = l.length := by simp [veilTo]; omega
theorem veilTo_get (c : UInt8) (l : List UInt8) (j : Nat) (h : j < l.length) : (byteRow (veilTo c l j))[j]? = some (.int .u8 0) := by
  have h1 : j < (veilTo c l j).length := by rw [veilTo_length _ _ _ (by omega)]; exact h
  rw [byteRow_get _ _ h1]
  have e : (veilTo c l j)[j] = 0 := by simp [veilTo, List.getElem_append_right, Nat.min_eq_left (Nat.le_of_lt h)]
  rw [e]; rfl
theorem veilTo_set (c : UInt8) (l : List UInt8) (j : Nat) (h : j < l.length) : (byteRow (veilTo c l j)).setIfInBounds j (byteV (l[j] ^^^ c)) = byteRow (veilTo c l (j + 1)) := by
  apply Array.ext'
  rw [Array.toList_setIfInBounds]
  simp only [byteRow]
  rw [← List.map_set]
  congr 1
  have e1 : List.replicate (l.length - j) (0 : UInt8) = 0 :: List.replicate (l.length - (j + 1)) 0 := by
    rw [← List.replicate_succ]; congr 1; omega
  have e2 : l.take (j + 1) = l.take j ++ [l[j]] := List.take_succ_eq_append_getElem h
  have e3 : j - ((l.take j).map (· ^^^ c)).length = 0 := by simp; omega
  rw [veilTo, veilTo, e2, e1, List.set_append_right _ _ (by simp; omega), e3, List.set_cons_zero, List.map_append, List.append_assoc]
  rfl

set_option maxHeartbeats 400000 in
theorem veiled_any (s : ByteArray) (c : UInt8) (w : World) (hn : s.size ≤ 128) :
    Calls Try.prog 31 #[.string s, .int .i64 (c.toNat : Int)] w fun e w' => (∃ T : ByteArray, T.data.toList = s.data.toList.map (· ^^^ c) ∧ e = .returned (.string T)) ∧ Below w.heap.size w w' := by
  obtain ⟨i0, hi, hz0, hz1, hz2⟩ := info_parts u8info32
  obtain ⟨n, hN⟩ : ∃ n, s.size = n := ⟨_, rfl⟩
  have hmk : ∀ W : World, (Instr.makeSlice 56 (.int .i64 (s.size : Int)) (.int .i64 (s.size : Int))).run Try.prog W = .ok (.slice (some ⟨W.heap.size, 0, none⟩) n n) (W.alloc (.cells (byteRow (List.replicate n 0)) 5)) := fun W => by
    have := run_make (P := Try.prog) W 56 5 i0 (.int .u8 0) Try.underlying56 hi hz0 .i64 .i64 (n : Int) (n : Int) (by omega) (by omega) (by rw [hz2]; omega) (by omega)
    rw [hz1, Int.toNat_natCast, made_bytes] at this
    rw [hN]; exact this
  clear hi hz0 hz1 hz2
  have hLn : s.data.toList.length = n := by rw [← hN]; simp
  have HN : Hid (s.size = n) := hN
  have HLn : Hid (s.data.toList.length = n) := hLn
  clear hLn hN
  go_enter Try.func31, Try.ntmps31
  go_wp2_with fail
  go_loopw [6] (fun i wr => ∃ j : Nat, j ≤ n ∧ i = .int .i64 j ∧ wr.heap[w.heap.size]? = some (.cells (byteRow (veilTo c s.data.toList j)) 5 (0, 0)) ∧ Below w.heap.size w wr) (fun i _ => n - (intOf i).toNat)
  case atStart => exact ⟨0, by omega, rfl, by rw [heap_alloc_new]; simp [veilTo, HLn.out], bal (brf _) _⟩
  case round =>
    obtain ⟨j, hj, rfl, hg, hb⟩ := hrel
    by_cases hlt : j < n
    · have hl : j < s.data.toList.length := by rw [HLn.out]; exact hlt
      have hc : wr.cell? ⟨w.heap.size, j, none⟩ = some (.int .u8 0) := by rw [cell_of_row _ _ _ _ _ _ hg, veilTo_get _ _ _ hl]
      have hf : wr.frozen? ⟨w.heap.size, j, none⟩ = false := frozen_of_row _ _ _ _ _ hg
      have HG : Hid _ := hg
      clear hg
      have hi1 : (j : Int) < (s.size : Int) := by have := HN.out; omega
      have hi2 : (0 : Int) ≤ (j : Int) := by omega
      have hi3 : j < s.size := by have := HN.out; omega
      have hi4 : (j : Int) < (n : Int) := by omega
      go_wp2_with fail
      refine ⟨⟨j + 1, by omega, by go_num, ?_, hb.setCell (Nat.le_refl _) _⟩, by simp [intOf]; omega⟩
      rw [heap_setCell_same _ _ _ _ _ _ HG.out, ← veilTo_set _ _ _ hl, xorIw]
      rfl
    · obtain rfl : j = n := by omega
      have hi5 : ¬ (j : Int) < (s.size : Int) := by have := HN.out; omega
      have ho : OwnB w.heap.size 5 (.slice (some ⟨w.heap.size, 0, none⟩) (veilTo c s.data.toList j).length j) (veilTo c s.data.toList j) wr := by
        refine .inr ⟨w.heap.size, j, _, (0, 0), rfl, Nat.le_refl _, hg, .inl (Nat.zero_le _), ?_, ?_, ?_, ?_⟩
        · rw [veilTo_length _ _ _ (by rw [HLn.out]; omega), HLn.out]; exact Nat.le_refl _
        · have := HN.out; unfold maxLen; omega
        · rw [byteRow_size, veilTo_length _ _ _ (by rw [HLn.out]; omega), HLn.out]
        · rw [List.take_of_length_le (by simp [byteRow])]; simp [byteRow]
      rw [veilTo_length _ _ _ (by rw [HLn.out]; omega), HLn.out] at ho
      have hs := ho.str (P := Try.prog) (t := 56) (d := 9) Try.underlying56 Try.underlying5 Try.underlying9
      clear ho hg
      generalize hM : veilTo c s.data.toList j = M at hs
      have HM : Hid (veilTo c s.data.toList j = M) := hM
      clear hM
      go_wp2_with fail
      go_ret
      refine ⟨⟨_, ?_, rfl⟩, hb⟩
      show M = _
      rw [← HM.out, veilTo, List.take_of_length_le (by rw [HLn.out]; omega), HLn.out]
      simp
end Go.Proofs.Ytfihidnmgaiojaa
