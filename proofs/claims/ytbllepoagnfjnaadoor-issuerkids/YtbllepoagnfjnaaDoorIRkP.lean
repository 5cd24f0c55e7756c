/-
  Of a printed set: the one above each node; its nodes pass.
-/
import Derived.Test.YtbllepoagnfjnaaDoorIRd1
import Derived.Test.YtbllepoagnfjnaaDoorISet
namespace Go.Proofs.YtbllepoagnfjnaaDoor.Dg
set_option maxRecDepth 4000
open Go.RowKit
set_option linter.unusedVariables false

def parS (c : Nat) : Nat := if c = 1 then 0 else if (c - 2) % 5 = 0 then 1 else c - (c - 2) % 5
theorem parS_key (j : Nat) : parS (2 + 5 * j) = 1 := by unfold parS; rw [if_neg (by omega), if_pos (by omega)]
theorem parS_mem (j r : Nat) (h0 : 0 < r) (h : r < 5) : parS (2 + 5 * j + r) = 2 + 5 * j := by unfold parS; rw [if_neg (by omega), if_neg (by omega)]; omega
section
variable {ps : List (List UInt8 × List UInt8 × List UInt8)} {L : List Nd}
theorem SetL.split (h : SetL ps L) (i : Nat) (hi : i < L.length) : i = 0 ∨ i = 1 ∨ ∃ j r a, i = 2 + 5 * j + r ∧ r < 5 ∧ ps[j]? = some a := by
  have := h.len
  by_cases h0 : i = 0
  · exact .inl h0
  · by_cases h1 : i = 1
    · exact .inr (.inl h1)
    · have hj : (i - 2) / 5 < ps.length := by omega
      exact .inr (.inr ⟨(i - 2) / 5, (i - 2) % 5, ps[(i - 2) / 5], by omega, by omega, List.getElem?_eq_getElem hj⟩)
theorem SetL.mem (h : SetL ps L) {j : Nat} {a : List UInt8 × List UInt8 × List UInt8} (ha : ps[j]? = some a) : ∃ n n1 n2 n3 n4, L[2 + 5 * j]? = some n ∧ n.kind = 5 ∧ n.kids = [2 + 5 * j + 1, 2 + 5 * j + 2, 2 + 5 * j + 3, 2 + 5 * j + 4] ∧
    L[2 + 5 * j + 1]? = some n1 ∧ n1.kind = 3 ∧ n1.key = algN ∧ n1.text = a.1 ∧ n1.kids = [] ∧ L[2 + 5 * j + 2]? = some n2 ∧ n2.kind = 3 ∧ n2.key = kN ∧ n2.text = a.2.1 ∧ n2.kids = [] ∧
    L[2 + 5 * j + 3]? = some n3 ∧ n3.kind = 3 ∧ n3.key = kidN ∧ n3.text = a.2.2 ∧ n3.kids = [] ∧ L[2 + 5 * j + 4]? = some n4 ∧ n4.kind = 3 ∧ n4.key = ktyN ∧ n4.text = octN ∧ n4.kids = [] := by
  obtain ⟨p, p1, p2, p3, p4, e0, e1, e2, e3, e4⟩ := h.key j a ha
  exact ⟨_, _, _, _, _, e0, rfl, rfl, e1, rfl, rfl, rfl, rfl, e2, rfl, rfl, rfl, rfl, e3, rfl, rfl, rfl, rfl, e4, rfl, rfl, rfl, rfl⟩
theorem SetL.par (h : SetL ps L) (p : Nat) (n : Nd) (c : Nat) (hn : L[p]? = some n) (hc : c ∈ n.kids) : parS c = p := by
  rcases h.split p (List.getElem?_eq_some_iff.1 hn).1 with rfl | rfl | ⟨j, r, a, rfl, hr, ha⟩
  · obtain ⟨q, e⟩ := h.n0
    rw [hn] at e
    injection e with e
    subst e
    simp at hc
    subst hc
    rfl
  · obtain ⟨q, e⟩ := h.n1
    rw [hn] at e
    injection e with e
    subst e
    simp only [List.mem_map] at hc
    obtain ⟨j, _, rfl⟩ := hc
    exact parS_key j
  · obtain ⟨n0, n1, n2, n3, n4, a0, _, k0, a1, _, _, _, k1, a2, _, _, _, k2, a3, _, _, _, k3, a4, _, _, _, k4⟩ := h.mem ha
    have hr' : r = 0 ∨ r = 1 ∨ r = 2 ∨ r = 3 ∨ r = 4 := by omega
    rcases hr' with rfl | rfl | rfl | rfl | rfl
    · rw [Nat.add_zero, a0] at hn
      injection hn with hn
      subst hn
      rw [k0] at hc
      simp only [List.mem_cons, List.not_mem_nil, or_false] at hc
      rcases hc with rfl | rfl | rfl | rfl
      · exact parS_mem j 1 (by omega) (by omega)
      · exact parS_mem j 2 (by omega) (by omega)
      · exact parS_mem j 3 (by omega) (by omega)
      · exact parS_mem j 4 (by omega) (by omega)
    · rw [a1] at hn; injection hn with hn; subst hn; rw [k1] at hc; simp at hc
    · rw [a2] at hn; injection hn with hn; subst hn; rw [k2] at hc; simp at hc
    · rw [a3] at hn; injection hn with hn; subst hn; rw [k3] at hc; simp at hc
    · rw [a4] at hn; injection hn with hn; subst hn; rw [k4] at hc; simp at hc
/-- What is asked of a key's texts. -/
def KeyOk (a : List UInt8 × List UInt8 × List UInt8) : Prop := KM algN a.1 ∧ KM kN a.2.1 ∧ KM kidN a.2.2
theorem rset_all (h : SetL ps L) (hl : ps.length ≤ 20) (hk : ∀ a ∈ ps, KeyOk a) (v : Value) (ub : Nat) (w : World) (hx : RR 63 v L w) (A : Array Value) (hA : w.heap[ub]? = some (.cells A 3 (0, 0))) (hP : ParD L parS L.length [] A) (i : Nat) (hi : i < L.length) :
    Calls Tryd.prog 17 #[v, .slice (some ⟨ub, 0, none⟩) L.length L.length, .int .i64 (i : Int)] w fun r w' => r = .returned (.int .i64 0) ∧ Below w.heap.size w w' := by
  have hlen := h.len
  have cu : ∀ (p : Nat) (n : Nd) (c : Nat), L[p]? = some n → c ∈ n.kids → w.cell? ⟨ub, c, none⟩ = some (.int .i64 (parS c : Int)) := fun p n c hn hc => by
    rw [cell_of_row _ _ _ _ _ _ hA]; exact hP.old p n c (List.getElem?_eq_some_iff.1 hn).1 hn hc
  obtain ⟨q0, e0⟩ := h.n0
  obtain ⟨q1, e1⟩ := h.n1
  have u1 := cu 0 _ 1 e0 (by simp)
  rw [show parS 1 = 0 from rfl] at u1
  rcases h.split i hi with rfl | rfl | ⟨j, r, a, rfl, hr, ha⟩
  · exact rset0 v _ L w hx _ e0 rfl
  · exact rset1 v ub L w hx _ 1 (by omega) (by omega) e1 rfl rfl u1
  · obtain ⟨n0, n1, n2, n3, n4, a0, t0, k0, a1, t1, y1, x1, k1, a2, t2, y2, x2, k2, a3, t3, y3, x3, k3, a4, t4, y4, x4, k4⟩ := h.mem ha
    have hj : j < ps.length := (List.getElem?_eq_some_iff.1 ha).1
    have hka := hk a (List.mem_of_getElem? ha)
    have u2 := cu 1 _ (2 + 5 * j) e1 (by simp only [List.mem_map, List.mem_range]; exact ⟨j, hj, rfl⟩)
    rw [parS_key] at u2
    have u3 : ∀ r, 0 < r → r < 5 → w.cell? ⟨ub, 2 + 5 * j + r, none⟩ = some (.int .i64 ((2 + 5 * j : Nat) : Int)) := fun r h0 h5 => by
      have := cu (2 + 5 * j) n0 (2 + 5 * j + r) a0 (by
        rw [k0]
        have hr' : r = 1 ∨ r = 2 ∨ r = 3 ∨ r = 4 := by omega
        rcases hr' with rfl | rfl | rfl | rfl <;> simp)
      rwa [parS_mem j r h0 h5] at this
    have hr' : r = 0 ∨ r = 1 ∨ r = 2 ∨ r = 3 ∨ r = 4 := by omega
    rcases hr' with rfl | rfl | rfl | rfl | rfl
    · exact rset2 v ub L w hx n0 _ (2 + 5 * j) 1 (by omega) (by omega) (by omega) a0 e1 t0 (by simpa using hl) u2 u1
    · exact rset3 v ub L w hx n1 _ (2 + 5 * j) 1 (by omega) (by omega) (by omega) (by omega) (by omega) a1 t1 (by rw [y1, x1]; exact hka.1) (u3 1 (by omega) (by omega)) u2
    · exact rset3 v ub L w hx n2 _ (2 + 5 * j) 1 (by omega) (by omega) (by omega) (by omega) (by omega) a2 t2 (by rw [y2, x2]; exact hka.2.1) (u3 2 (by omega) (by omega)) u2
    · exact rset3 v ub L w hx n3 _ (2 + 5 * j) 1 (by omega) (by omega) (by omega) (by omega) (by omega) a3 t3 (by rw [y3, x3]; exact hka.2.2) (u3 3 (by omega) (by omega)) u2
    · exact rset3 v ub L w hx n4 _ (2 + 5 * j) 1 (by omega) (by omega) (by omega) (by omega) (by omega) a4 t4 (by rw [y4, x4]; exact .kty) (u3 4 (by omega) (by omega)) u2
theorem SetL.memK1 (h : SetL ps L) : ∃ n, L[0]? = some n ∧ memK L keysN n.kids = 1 := by
  obtain ⟨q0, e0⟩ := h.n0
  obtain ⟨q1, e1⟩ := h.n1
  refine ⟨_, e0, ?_⟩
  simp only [memK]
  rw [ndA_of e1, if_pos rfl]; rfl
theorem SetL.memK4 (h : SetL ps L) {j : Nat} {a : List UInt8 × List UInt8 × List UInt8} (ha : ps[j]? = some a) : ∃ n n1 n2 n3, L[2 + 5 * j]? = some n ∧ memK L algN n.kids = ((2 + 5 * j + 1 : Nat) : Int) ∧ memK L kN n.kids = ((2 + 5 * j + 2 : Nat) : Int) ∧ memK L kidN n.kids = ((2 + 5 * j + 3 : Nat) : Int) ∧ memK L ktyN n.kids = ((2 + 5 * j + 4 : Nat) : Int) ∧
    L[2 + 5 * j + 1]? = some n1 ∧ n1.text = a.1 ∧ L[2 + 5 * j + 2]? = some n2 ∧ n2.text = a.2.1 ∧ L[2 + 5 * j + 3]? = some n3 ∧ n3.text = a.2.2 := by
  obtain ⟨n0, n1, n2, n3, n4, a0, t0, k0, a1, t1, y1, x1, k1, a2, t2, y2, x2, k2, a3, t3, y3, x3, k3, a4, t4, y4, x4, k4⟩ := h.mem ha
  refine ⟨n0, n1, n2, n3, a0, ?_, ?_, ?_, ?_, a1, x1, a2, x2, a3, x3⟩
  · rw [k0]; simp only [memK]; rw [ndA_of a1, y1, if_pos rfl]
  · rw [k0]; simp only [memK]; rw [ndA_of a1, y1, if_neg (by decide), ndA_of a2, y2, if_pos rfl]
  · rw [k0]; simp only [memK]; rw [ndA_of a1, y1, if_neg (by decide), ndA_of a2, y2, if_neg (by decide), ndA_of a3, y3, if_pos rfl]
  · rw [k0]; simp only [memK]; rw [ndA_of a1, y1, if_neg (by decide), ndA_of a2, y2, if_neg (by decide), ndA_of a3, y3, if_neg (by decide), ndA_of a4, y4, if_pos rfl]
end
theorem key_ok {k : Ky} (h : keyErr k.alg k.kid k.key = 0) : KeyOk (keyP k) ∧ fitsB k.alg k.key = true ∧ isKid k.kid = true := by
  obtain ⟨ha, h1, h2, h3⟩ := key_small h
  have hi : isKid k.kid = true := by
    unfold keyErr at h
    split at h
    · omega
    · split at h
      · omega
      · rename_i h2; simpa using h2
  have hf : fitsB k.alg k.key = true := by
    unfold keyErr at h
    split at h
    · omega
    · split at h
      · omega
      · split at h
        · omega
        · rename_i h3; simpa using h3
  exact ⟨⟨.alg k.alg ha, .k _ k.key.size (dec_enc k.key h3), .kid k.kid hi h2⟩, hf, hi⟩
theorem sg_pl : ∀ x, x < 64 → pl (sg x) = true := by decide +kernel
theorem key_plK {k : Ky} (h : keyErr k.alg k.kid k.key = 0) : PlK (keyP k) :=
  ⟨name_pl k.alg, fun c hc => by obtain ⟨x, hx, rfl⟩ := sign_of_enc (dB k.key) (dB_lt k.key) k.key.size c hc; exact sg_pl x hx, kid_pl (key_ok h).2.2⟩
/-- What is read of a printed set. -/
theorem read_keys {ks : List Ky} (hl : ks.length ≤ 20) (hk : ∀ k ∈ ks, keyErr k.alg k.kid k.key = 0) : (textK ks).length ≤ 65536 ∧ ∃ t, readL (textK ks) = .ok t ∧ SetL (ks.map keyP) (flat 0 [] t) := by
  have hlen : (textK ks).length ≤ 65536 := by
    unfold textK
    have := join_len (ks.map objL) (fun l hl => by obtain ⟨k, hk', rfl⟩ := List.mem_map.1 hl; exact objL_len (hk k hk'))
    rw [List.length_map] at this
    simp only [List.length_append, headK, List.length_cons, List.length_nil]
    omega
  refine ⟨hlen, ?_⟩
  have e := textK_set ks
  obtain ⟨ts, i, h1, h2, h3⟩ := read_set (ks.map keyP) (fun a ha => by obtain ⟨k, hk', rfl⟩ := List.mem_map.1 ha; exact key_plK (hk k hk')) (by rw [← e]; exact hlen)
  exact ⟨_, by rw [e]; exact h1, setL_of h2 h3⟩
end Go.Proofs.YtbllepoagnfjnaaDoor.Dg
