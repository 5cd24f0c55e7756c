/-
  The law BaseEncodes.
-/
import Derived.Test.YtfihidnmgaiojaaBREnc
namespace Go.Proofs.Ytfihidnmgaiojaa
open Go.RowKit
set_option linter.unusedVariables false

set_option maxHeartbeats 400000 in
theorem law_encodes (s : ByteArray) (w : World) (hs : s.size ≤ 140737488351232) :
    Calls Try.prog 7 #[.string s] w fun e w' => e = .returned (.bool true) ∧ Below w.heap.size w w' := by
  generalize hL : (⟨(enc (dB s) s.size).toArray⟩ : ByteArray) = L
  have h1 := fun w => encode_any s w hs
  have h2 := fun w => rencode_any s w hs
  rw [hL] at h1 h2
  clear hL
  go_enter Try.func7, Try.ntmps7
  go_wp2_with fail
  refine (h1 _).mono ?_
  rintro e w1 ⟨rfl, hb1⟩
  have HB1 : Hid _ := hb1
  clear hb1
  go_wp2_with fail
  refine (h2 _).mono ?_
  rintro e w2 ⟨rfl, hb2⟩
  have HB2 : Hid _ := hb2
  clear hb2
  go_wp2
  go_ret
  exact ⟨by simp, HB1.out.trans (by have := HB1.out.size; exact ⟨HB2.out.os, HB2.out.tape, HB2.out.output, HB2.out.size, fun k hk => HB2.out.block k (by omega)⟩)⟩
end Go.Proofs.Ytfihidnmgaiojaa
