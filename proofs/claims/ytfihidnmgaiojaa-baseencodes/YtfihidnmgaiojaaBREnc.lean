/-
  notaryref.Encode: the document's way, three bytes at a time.
-/
import Derived.Test.YtfihidnmgaiojaaBEnc
namespace Go.Proofs.Ytfihidnmgaiojaa
open Go.RowKit
set_option linter.unusedVariables false
section

theorem i64_and63 (n : Int) : bits .and .i64 n 63 = n % 64 := by
  have h63 : (BitVec.ofInt 64 63).toNat = 2 ^ 6 - 1 := by decide
  have key : (BitVec.ofInt 64 n &&& BitVec.ofInt 64 63).toNat = (n % ((2 ^ 64 : Nat) : Int)).toNat % 2 ^ 6 := by
    rw [BitVec.toNat_and, BitVec.toNat_ofInt, h63, Nat.and_two_pow_sub_one_eq_mod]
  show IntKind.i64.wrap ((BitVec.ofInt 64 n &&& BitVec.ofInt 64 63).toNat : Nat) = n % 64
  rw [key, IntKind.wrap_i64]
  omega

/-- The number of three bytes from a on. -/
def xs (d : Nat → Nat) (a : Nat) : Nat → Nat | 0 => 0 | k + 1 => xs d a k * 256 + d (a + k)
theorem xs_lt (d : Nat → Nat) (hd : ∀ k, d k < 256) (a k : Nat) (hk : k ≤ 3) : xs d a k < 256 ^ k := by
  have h0 := hd a; have h1 := hd (a + 1); have h2 := hd (a + 2)
  match k, hk with
  | 0, _ => simp [xs]
  | 1, _ => simp [xs]; omega
  | 2, _ => simp [xs]; omega
  | 3, _ => simp [xs]; omega
/-- The first k signs of them. -/
def gl (x : Nat) : Nat → List UInt8 | 0 => [] | k + 1 => gl x k ++ [sg (x / 2 ^ (18 - 6 * k) % 64)]
theorem gl_length (x k : Nat) : (gl x k).length = k := by
  induction k with
  | zero => rfl
  | succ k ih => rw [gl, List.length_append, ih]; rfl
def encTo (d : Nat → Nat) (n t : Nat) : List UInt8 := if 3 * t ≤ n then pre d (3 * t) else enc d n
theorem encTo_end (d : Nat → Nat) (n t : Nat) (h : n ≤ 3 * t) : encTo d n t = enc d n := by
  unfold encTo
  split
  · obtain rfl : n = 3 * t := by omega
    simp [enc, tl]
  · rfl
theorem encTo_step (d : Nat → Nat) (n t q : Nat) (hd : ∀ k, d k < 256) (hz : ∀ k, n ≤ k → d k = 0) (h : 3 * t < n) (hq : q = min 3 (n - 3 * t)) :
    encTo d n (t + 1) = encTo d n t ++ gl (xs d (3 * t) 3) (q + 1) := by
  have h0 := hd (3 * t); have h1 := hd (3 * t + 1); have h2 := hd (3 * t + 2)
  have e0 : encTo d n t = pre d (3 * t) := by unfold encTo; rw [if_pos (by omega)]
  rw [e0]
  have hx : xs d (3 * t) 3 = d (3 * t) * 65536 + d (3 * t + 1) * 256 + d (3 * t + 2) := by simp [xs]; omega
  have hc : 3 * t + 3 ≤ n ∨ n = 3 * t + 1 ∨ n = 3 * t + 2 := by omega
  have m0 : 3 * t % 3 = 0 := by omega
  have m1 : (3 * t + 1) % 3 = 1 := by omega
  have m2 : (3 * t + 2) % 3 = 2 := by omega
  rcases hc with hc | rfl | rfl
  · obtain rfl : q = 3 := by omega
    unfold encTo; rw [if_pos (by omega), show 3 * (t + 1) = 3 * t + 1 + 1 + 1 by omega]
    simp only [pre, gl, stp, m0, m1, m2, hx, List.append_assoc, List.nil_append, List.cons_append]
    simp
    refine ⟨?_, ?_, ?_, ?_⟩ <;> congr 1 <;> omega
  · obtain rfl : q = 1 := by omega
    have z1 := hz (3 * t + 1) (by omega)
    have z2 := hz (3 * t + 2) (by omega)
    unfold encTo; rw [if_neg (by omega)]
    simp only [enc, tl, pre, gl, stp, m0, m1, hx, z1, z2, List.append_assoc, List.nil_append, List.cons_append]
    simp
    refine ⟨?_, ?_⟩ <;> congr 1 <;> omega
  · obtain rfl : q = 2 := by omega
    have z2 := hz (3 * t + 2) (by omega)
    unfold encTo; rw [if_neg (by omega)]
    simp only [enc, tl, pre, gl, stp, m0, m1, m2, hx, z2, List.append_assoc, List.nil_append, List.cons_append]
    simp
    refine ⟨?_, ?_, ?_⟩ <;> congr 1 <;> omega
theorem dB_out (s : ByteArray) (k : Nat) (h : s.size ≤ k) : dB s k = 0 := by
  unfold dB
  have h' : s.data.size ≤ k := h
  rw [Array.getD_eq_getD_getElem?, Array.getElem?_eq_none h']; rfl

def sgr (x n : Nat) : Nat := x / 2 ^ n % 64
theorem sgr_lt (x n : Nat) : sgr x n < 64 := Nat.mod_lt _ (by omega)
theorem sgr_eq (x n : Nat) : (x : Int) / 2 ^ n % 64 = (sgr x n : Int) := by
  unfold sgr
  have : ((2 : Int) ^ n) = ((2 ^ n : Nat) : Int) := by simp
  rw [this]; exact_mod_cast rfl
attribute [local go_sem] i64_and63 sgr_eq

set_option maxHeartbeats 1000000 in
theorem rencode_any (s : ByteArray) (w : World) (hs : s.size ≤ 140737488351232) :
    Calls Try.prog 18 #[.string s] w
      fun e w' => e = .returned (.string ⟨(enc (dB s) s.size).toArray⟩) ∧ Below w.heap.size w w' := by
  obtain ⟨i0, hi, hz0, hz1, hz2⟩ := info_parts u8infoB
  have HI : Hid _ := hi
  clear hi
  go_enter Try.func18, Try.ntmps18
  go_wp2_with fail
  go_loopw [3, 4] (fun o i wr => ∃ t : Nat, 3 * t ≤ s.size + 2 ∧ i = .int .i64 ((3 * t : Nat) : Int) ∧ OwnB w.heap.size 5 o (encTo (dB s) s.size t) wr ∧ Below w.heap.size w wr) (fun _ i _ => s.size + 3 - (intOf i).toNat)
  case atStart => exact ⟨0, by omega, rfl, .inl ⟨rfl, by simp [encTo, pre]⟩, brf _⟩
  case round =>
    obtain ⟨t, hk, rfl, ho, hb⟩ := hrel
    have HO : Hid (OwnB w.heap.size 5 _ (encTo (dB s) s.size t) wr) := ho
    clear ho
    generalize ha : 3 * t = a at hk
    have HA : Hid (3 * t = a) := ha
    clear ha
    by_cases hlt : a < s.size
    · have ht : (a : Int) < (s.size : Int) := by omega
      go_wp2_with fail
      go_loopw [5, 6, 7] (fun x n k wx => ∃ j : Nat, j ≤ 3 ∧ k = .int .i64 (j : Int) ∧ x = .int .i64 (xs (dB s) a j : Int) ∧ n = .int .i64 ((min j (s.size - a) : Nat) : Int) ∧ wx = wr) (fun _ _ k _ => 3 - (intOf k).toNat)
      case atStart => exact ⟨0, by omega, rfl, rfl, by simp, rfl⟩
      case round =>
        obtain ⟨j, hj, rfl, rfl, rfl, rfl⟩ := hrel
        generalize hX : xs (dB s) a j = X
        generalize hN : min j (s.size - a) = N
        have HX : Hid (xs (dB s) a j = X) := hX
        have HN : Hid (min j (s.size - a) = N) := hN
        have hXb : X < 16777216 := by rw [← hX]; exact Nat.lt_of_lt_of_le (xs_lt _ (dB_lt s) a j hj) (Nat.pow_le_pow_right (by omega) hj)
        have hNb : N ≤ 3 := by omega
        clear hX hN
        by_cases hj3 : j < 3
        · have hj3' : (j : Int) < 3 := by omega
          have hX2 : X < 65536 := by rw [← HX.out]; exact Nat.lt_of_lt_of_le (xs_lt _ (dB_lt s) a j hj) (show 256 ^ j ≤ 256 ^ 2 from Nat.pow_le_pow_right (by omega) (by omega))
          by_cases hin : a + j < s.size
          · have hin' : (a : Int) + (j : Int) < (s.size : Int) := by omega
            have hd := dB_at s (a + j) hin
            have hby : s[a + j].toNat < 256 := s[a + j].toNat_lt
            have HD : Hid (dB s (a + j) = s[a + j].toNat) := hd
            clear hd
            go_wp2_with fail
            exact ⟨⟨j + 1, by omega, by go_num, congrArg (Value.int .i64) (by rw [xs, HX.out, HD.out]; omega), congrArg (Value.int .i64) (by have := HN.out; omega), trivial⟩, by simp [intOf]; omega⟩
          · have hin' : (s.size : Int) ≤ (a : Int) + (j : Int) := by omega
            go_wp2_with fail
            exact ⟨⟨j + 1, by omega, by go_num, congrArg (Value.int .i64) (by rw [xs, HX.out, dB_out s (a + j) (by omega)]; omega), congrArg (Value.int .i64) (by have := HN.out; omega), trivial⟩, by simp [intOf]; omega⟩
        · have hj3' : (3 : Int) ≤ (j : Int) := by omega
          have HJ : Hid (j = 3) := by have : j = 3 := by omega
                                      exact this
          go_wp2_with fail
          go_loopw [3, 8] (fun o k wx => ∃ g : Nat, g ≤ N + 1 ∧ k = .int .i64 (g : Int) ∧ OwnB w.heap.size 5 o (encTo (dB s) s.size t ++ gl X g) wx ∧ Below w.heap.size w wx) (fun _ k _ => 5 - (intOf k).toNat)
          case atStart => exact ⟨0, by omega, rfl, by rw [gl, List.append_nil]; exact HO.out, hb⟩
          case round =>
            clear HO hb
            obtain ⟨g, hjN, rfl, ho, hb⟩ := hrel
            have HO : Hid (OwnB w.heap.size 5 _ (encTo (dB s) s.size t ++ gl X g) wr) := ho
            clear ho
            by_cases hjl : g ≤ N
            · have hjl' : (g : Int) ≤ (N : Int) := by omega
              have hp0 : (0 : Int) ≤ 18 - 6 * (g : Int) := by omega
              have htn : (18 - 6 * (g : Int)).toNat = 18 - 6 * g := by omega
              have hlt64 := sgr_lt X (18 - 6 * g)
              have hlt64' : (sgr X (18 - 6 * g) : Int) < 64 := by omega
              have hbs := hb.size
              have hl : (encTo (dB s) s.size t ++ gl X g).length + 1 ≤ 220000000000000 := by
                rw [List.length_append, gl_length]; unfold encTo; split
                · rw [pre_length]; omega
                · rw [enc_length]; omega
              go_wp2_with (refine wp_appW rfl (.tmp 49) (.tmp 52) 56 rfl 5 i0 Try.underlying56 HI.out hz0 hz1 hz2 w.heap.size _ _ (signsB[sgr X (18 - 6 * g)]'hlt64) ⟨wr.heap.size, 0, none⟩ rfl rfl hl (HO.out.alloc_own _) (by simp; omega) (one_cell _ _ _) ?_; intro v3 w3 ho3 hb3; have HO3 : Hid _ := ho3; clear ho3)
              have hb4 : Below w.heap.size w w3 := (bal hb _).trans hb3
              go_roundw
              case rel => exact ⟨g + 1, by omega, by go_num, by rw [gl, ← List.append_assoc]; rw [show sg (X / 2 ^ (18 - 6 * g) % 64) = signsB[sgr X (18 - 6 * g)]'hlt64 from sg_at _ hlt64]; exact HO3.out, hb4⟩
              case measure => simp [intOf]; omega
            · have hjl' : (N : Int) < (g : Int) := by omega
              obtain rfl : g = N + 1 := by omega
              have he := encTo_step (dB s) s.size t N (dB_lt s) (dB_out s) (by rw [HA.out]; exact hlt) (by rw [HA.out]; have := HN.out; have := HJ.out; omega)
              rw [HA.out, ← HJ.out, HX.out] at he
              have HE : Hid _ := he
              clear he
              go_wp2_with fail
              exact ⟨⟨t + 1, by have := HA.out; omega, congrArg (Value.int .i64) (by have := HA.out; omega), by rw [HE.out]; exact HO.out, hb⟩, by simp [intOf]; omega⟩
    · have hlt' : (s.size : Int) ≤ (a : Int) := by omega
      have hs := HO.out.str (P := Try.prog) (t := 56) (d := 9) Try.underlying56 Try.underlying5 Try.underlying9
      have he := encTo_end (dB s) s.size t (by rw [HA.out]; omega)
      have HE : Hid _ := he
      clear he
      go_wp2
      go_ret
      refine ⟨?_, hb⟩
      rw [← HE.out]; rfl
end
end Go.Proofs.Ytfihidnmgaiojaa
