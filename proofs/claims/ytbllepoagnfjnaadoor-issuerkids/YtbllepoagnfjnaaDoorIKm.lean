/-
  The document's keyMember; Decode of what was encoded.
-/
import Derived.Test.YtbllepoagnfjnaaDoorIPar
import Derived.Test.YtbllepoagnfjnaaDoorIDec
import Derived.Test.YtbllepoagnfjnaaDoorIPur
import Derived.Test.YtbllepoagnfjnaaDoorT0
namespace Go.Proofs.YtbllepoagnfjnaaDoor.Dg
set_option maxRecDepth 4000
open Go.RowKit
set_option linter.unusedVariables false

/-- A text that is decoded to n bytes. -/
def DecOk (t : ByteArray) (n : Nat) : Prop := ∀ w : World, Calls Tryd.prog 19 #[.string t] w fun e w' => (∃ r : ByteArray, e = .returned (.tuple #[.string r, .int .i64 0, .int .i64 0]) ∧ r.size = n) ∧ Below w.heap.size w w'
theorem enc_last (d : Nat → Nat) (n m : Nat) (hm : (enc d n).length = m + 1) (h3 : n % 3 ≠ 0) : (enc d n)[m]? = some (sg (if n % 3 = 1 then d (n - 1) % 4 * 16 else d (n - 1) % 16 * 4)) := by
  have h1 := enc_length d n
  have h2 := pre_length d n
  have e : m = (pre d n).length := by omega
  rw [enc, List.getElem?_append_right (by omega), show m - (pre d n).length = 0 by omega]
  unfold tl
  rw [if_neg h3]
  split <;> rfl
theorem dec_enc (key : ByteArray) (hk : key.size ≤ 200) : DecOk ⟨(enc (dB key) key.size).toArray⟩ key.size := by
  intro w
  have hL := enc_length (dB key) key.size
  have hsz : (⟨(enc (dB key) key.size).toArray⟩ : ByteArray).size = (4 * key.size + 2) / 3 := by
    show (enc (dB key) key.size).toArray.size = _
    rw [List.size_toArray, hL]
  have hg : ∀ i : Nat, ∃ x, i < (enc (dB key) key.size).length → x < 64 ∧ (enc (dB key) key.size)[i]? = some (sg x) := fun i => by
    by_cases h : i < (enc (dB key) key.size).length
    · obtain ⟨x, hx, e⟩ := sign_of_enc (dB key) (dB_lt key) key.size _ (List.getElem_mem h)
      exact ⟨x, fun _ => ⟨hx, by rw [List.getElem?_eq_getElem h, e]⟩⟩
    · exact ⟨0, fun h' => absurd h' h⟩
  obtain ⟨v, hv⟩ : ∃ v : Nat → Nat, ∀ i, i < (enc (dB key) key.size).length → v i < 64 ∧ (enc (dB key) key.size)[i]? = some (sg (v i)) := ⟨fun i => (hg i).choose, fun i => (hg i).choose_spec⟩
  have he : ∀ m, (enc (dB key) key.size).length = m + 1 → v m % 2 ^ (6 * ((4 * key.size + 2) / 3) % 8) = 0 := fun m hm => by
    by_cases h3 : key.size % 3 = 0
    · rw [show 6 * ((4 * key.size + 2) / 3) % 8 = 0 by omega]; omega
    · have h1 := enc_last (dB key) key.size m hm h3
      obtain ⟨h64, h2⟩ := hv m (by omega)
      rw [h1] at h2
      injection h2 with h2
      have hd := dB_lt key (key.size - 1)
      by_cases h4 : key.size % 3 = 1
      · rw [if_pos h4] at h2
        have := sg_inj (dB key (key.size - 1) % 4 * 16) (by omega) (v m) h64 (congrArg UInt8.toNat h2)
        rw [show 6 * ((4 * key.size + 2) / 3) % 8 = 4 by omega]; omega
      · rw [if_neg h4] at h2
        have := sg_inj (dB key (key.size - 1) % 16 * 4) (by omega) (v m) h64 (congrArg UInt8.toNat h2)
        rw [show 6 * ((4 * key.size + 2) / 3) % 8 = 2 by omega]; omega
  refine (rdecode ⟨(enc (dB key) key.size).toArray⟩ v w (by omega) (by omega) (fun m hm => by rw [hsz]; exact he m (by omega)) (fun i h => ?_)).mono ?_
  · have h' : i < (enc (dB key) key.size).length := by omega
    obtain ⟨a, b⟩ := hv i h'
    refine ⟨a, ?_⟩
    rw [List.getElem?_eq_getElem h'] at b
    injection b with b
  · rintro r w1 ⟨⟨x, rfl, hx⟩, hb⟩
    exact ⟨⟨x, rfl, by rw [hx, hsz]; omega⟩, hb⟩
/-- What a member of a key's object may say. -/
inductive KM : List UInt8 → List UInt8 → Prop
  | alg (a : Int) (h : a = 256 ∨ a = 384 ∨ a = 512) : KM algN (nameB a).data.toList
  | k (t : List UInt8) (n : Nat) (h : DecOk ⟨t.toArray⟩ n) : KM kN t
  | kid (s : ByteArray) (h : isKid s = true) (hs : s.size ≤ 40) : KM kidN s.data.toList
  | kty : KM ktyN octN
theorem ba_toList (s : ByteArray) : (⟨s.data.toList.toArray⟩ : ByteArray) = s := by cases s; simp
set_option maxRecDepth 4000 in
set_option maxHeartbeats 1000000 in
theorem rkm (key text : List UInt8) (num a : Int) (kv : Value) (w : World) (h : KM key text) :
    Calls Tryd.prog 34 #[.agg #[.int .i64 3, .string ⟨key.toArray⟩, .string ⟨text.toArray⟩, .int .i64 num, kv, .int .i64 a]] w fun r w' => r = .returned (.int .i64 0) ∧ Below w.heap.size w w' := by
  cases h with
  | alg al ha =>
    rw [ba_toList, show algN.toArray = #[97, 108, 103] from rfl]
    have h0 : ((al : Int) == 0) = false := by rw [beq_eq_false_iff_ne]; omega
    have HA := thid ha
    clear ha
    go_enter Tryd.func34, Tryd.ntmps34
    go_wp2_with (refine (ralg al _ HA.out).mono ?_; rintro r w1 ⟨rfl, hw1⟩; rw [hw1]; clear hw1 w1)
    go_ret
    exact ⟨rfl, bal (brf _) _⟩
  | k t n h =>
    rw [show kN.toArray = #[107] from rfl]
    have HD := thid h
    clear h
    go_enter Tryd.func34, Tryd.ntmps34
    go_wp2_with (refine (HD.out _).mono ?_; rintro r w1 ⟨⟨x, rfl, _⟩, hb⟩; have HB := thid hb; clear hb)
    go_ret
    exact ⟨rfl, (bal (brf _) _).trans (HB.out.mono (by simp))⟩
  | kid s hs hz =>
    rw [ba_toList, show kidN.toArray = #[107, 105, 100] from rfl]
    have HS := thid hs
    clear hs
    go_enter Tryd.func34, Tryd.ntmps34
    go_wp2_with (refine (rKid s _ (by omega)).mono ?_; rintro r w1 ⟨rfl, hw1⟩; rw [hw1, HS.out]; clear hw1 w1)
    go_ret
    exact ⟨rfl, bal (brf _) _⟩
  | kty =>
    rw [show ktyN.toArray = #[107, 116, 121] from rfl, show octN.toArray = #[111, 99, 116] from rfl]
    go_enter Tryd.func34, Tryd.ntmps34
    go_wp2
    go_ret
    exact ⟨rfl, bal (brf _) _⟩
end Go.Proofs.YtbllepoagnfjnaaDoor.Dg
