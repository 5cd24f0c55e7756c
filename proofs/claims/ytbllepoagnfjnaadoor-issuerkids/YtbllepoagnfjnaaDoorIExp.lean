/-
  The code's Export; what it prints.
-/
import Derived.Test.YtbllepoagnfjnaaDoorIKrt
import Derived.Test.YtbllepoagnfjnaaDoorIPur
namespace Go.Proofs.YtbllepoagnfjnaaDoor.Dg
set_option maxRecDepth 4000
open Go.RowKit Go.Deep
set_option linter.unusedVariables false
set_option linter.unusedSimpArgs false

theorem findK_not (kid : ByteArray) : ∀ (ks : List Ky) (m : Nat), (∀ k ∈ ks, k.kid ≠ kid) → findK kid ks m = -1
  | [], m, _ => rfl
  | k :: ks, m, h => by
    rw [findK, if_neg (fun e => h k (by simp) (teq e))]
    exact findK_not kid ks (m + 1) fun x hx => h x (by simp [hx])
theorem prS_none : ∀ (ks done : List Ky), done.length + ks.length ≤ 20 → (∀ k ∈ ks, keyErr k.alg k.kid k.key = 0) → (done ++ ks).Pairwise (fun a b => a.kid ≠ b.kid) → prS done ks = none
  | [], done, _, _, _ => by rw [prS]
  | k :: ks, done, hl, hk, hd => by
    have he : errK done k = 0 := by
      unfold errK
      simp only [List.length_cons] at hl
      rw [List.pairwise_append] at hd
      have hf := findK_not k.kid done 0 (fun x hx => hd.2.2 x hx k (by simp))
      rw [if_neg (by omega), hk k (by simp)]
      simp [hf]
    rw [prS, if_pos he]
    exact prS_none ks (done ++ [k]) (by simp at hl ⊢; omega) (fun x hx => hk x (by simp [hx])) (by simpa using hd)
/-- A key, as it is printed. -/
def keyP (k : Ky) : List UInt8 × List UInt8 × List UInt8 := ((nameB k.alg).data.toList, enc (dB k.key) k.key.size, k.kid.data.toList)
theorem objL_key (k : Ky) : objL k = keyTx (keyP k).1 (keyP k).2.1 (keyP k).2.2 [] := by
  simp [objL, keyTx, keyP, algN, kN, kidN, ktyN, octN]
theorem join_objs : ∀ ks : List Ky, Lib.join (ks.map objL) [44] = objsT (ks.map keyP)
  | [] => rfl
  | [k] => by rw [List.map_cons, List.map_nil, Lib.join_one, objL_key]; rfl
  | k :: k2 :: r => by
    have ih := join_objs (k2 :: r)
    simp only [List.map_cons] at ih ⊢
    have e : Lib.joinTail [44] (objL k2 :: r.map objL) = 44 :: Lib.join (objL k2 :: r.map objL) [44] := by rw [Lib.join_cons]; simp [Lib.joinTail]
    rw [Lib.join_cons, e, ih, objsT, objL_key]
theorem textK_set (ks : List Ky) : textK ks = setT (ks.map keyP) := by
  unfold textK setT
  rw [join_objs]
  simp [headK, keysN]
theorem kid_pl {kid : ByteArray} (h : isKid kid = true) : ∀ c ∈ kid.data.toList, pl c = true := by
  intro c hc
  have h1 : kidL kid.data.toList = true := by
    unfold isKid at h
    simp only [Bool.and_eq_true] at h
    first | exact h.1 | exact h.2 | exact h.1.1 | exact h.1.2
  unfold kidL at h1
  have h2 := List.all_eq_true.1 h1 c hc
  unfold kidZ at h2
  unfold pl
  rw [decide_eq_true_iff]
  have h3 : c.toNat < 256 := c.toNat_lt
  have e1 : c ≠ 34 ↔ c.toNat ≠ 34 := ⟨fun h e => h (UInt8.toNat_inj.1 e), fun h e => h (by rw [e]; rfl)⟩
  have e2 : c ≠ 92 ↔ c.toNat ≠ 92 := ⟨fun h e => h (UInt8.toNat_inj.1 e), fun h e => h (by rw [e]; rfl)⟩
  rw [e1, e2]
  simp only [Bool.or_eq_true, Bool.and_eq_true, decide_eq_true_eq, beq_iff_eq] at h2
  omega
theorem name_pl (alg : Int) : ∀ c ∈ (nameB alg).data.toList, pl c = true := by
  unfold nameB
  repeat' split
  all_goals decide
set_option maxHeartbeats 1000000 in
theorem cexport (b : Nat) (iss : ByteArray) (ttl now n : Int) (kv : Value) (ks : List Ky) (B : Nat) (w : World) (hI : IS b iss ttl now kv n w) (hK : w.ownsRow B 72 3 kv ks.length (flatK ks)) (hW : WG w) (hl : ks.length ≤ 20) (hk : ∀ k ∈ ks, keyErr k.alg k.kid k.key = 0) (hd : ks.Pairwise fun a b => a.kid ≠ b.kid) :
    Calls Tryd.prog 10 #[.pointer (some ⟨b, 0, none⟩)] w fun r w' => r = .returned (.string ⟨(textK ks).toArray⟩) ∧ Below w.heap.size w w' := by
  have hp := cprintK kv ks w (KR.of hK) hW (by omega) (fun k hk' => by have := key_small (hk k hk'); omega)
  have e : prT ks = (textK ks, 0, 0) := by unfold prT; rw [prS_none ks [] (by simpa using hl) hk (by simpa using hd)]
  rw [e] at hp
  obtain ⟨c0, c1, c2, c3, c4⟩ := hI.cells
  generalize (⟨(textK ks).toArray⟩ : ByteArray) = T at *
  have HP := ihid hp
  clear hp e hk hd hI hK hW c0 c1 c2 c4
  go_enter Tryd.func10, Tryd.ntmps10
  go_wp2_with fail
  refine HP.out.mono ?_
  rintro r w1 ⟨rfl, hb⟩
  have HB := ihid hb
  clear hb HP
  go_wp2
  go_ret
  exact ⟨rfl, HB.out⟩
end Go.Proofs.YtbllepoagnfjnaaDoor.Dg
