/-
  Joined by program: QLen, QAgn, QGrow.
-/
import Derived.Test.YtdmpiampghddkabGreatDoorU1
import Derived.Test.YtdmpiampghddkabGreatDoorQStr
/-
  The one form is no longer than the text; what is read fits: numbers, strings, how deep.
-/
namespace Go.Proofs.YtdmpiampghddkabGreatDoor
set_option linter.unusedVariables false

theorem sgnL_plain (c : UInt8) (h1 : c ≠ 34) (h2 : 32 ≤ c.toNat) (h3 : c ≠ 92) : sgnL c = [c] := by
  have hne : ∀ d : UInt8, d.toNat < 32 → c ≠ d := fun d hd e => by rw [e] at h2; omega
  unfold sgnL
  rw [if_neg (by rintro (e | e); exact h1 e; exact h3 e), if_neg (hne _ (by decide)), if_neg (hne _ (by decide)), if_neg (hne _ (by decide)), if_neg (hne _ (by decide)), if_neg (hne _ (by decide)), if_neg (by omega)]
theorem sgnL_six (c : UInt8) : (sgnL c).length ≤ 6 := by
  unfold sgnL
  repeat' split
  all_goals simp
theorem sgnsL_seq (a : List UInt8) (h0 : a ≠ []) (h : seqLen a = a.length) (hc : ∀ c r, a = c :: r → c ≠ 34 ∧ 32 ≤ c.toNat ∧ c ≠ 92) : sgnsL a = a := by
  rcases seq_cases a h0 h with ⟨c, rfl, p⟩ | ⟨c, d, rfl, p⟩ | ⟨c, d, e, rfl, p⟩ | ⟨c, d, e, g, rfl, p⟩
  · obtain ⟨c1, c2, c3⟩ := hc c [] rfl
    rw [sgnsL_one, sgnL_plain c c1 c2 c3]
  · simp [sgnsL, sgnL_high c (by omega), sgnL_high d (by omega)]
  · simp [sgnsL, sgnL_high c (by omega), sgnL_high d (by omega), sgnL_high e (by omega)]
  · simp [sgnsL, sgnL_high c (by omega), sgnL_high d (by omega), sgnL_high e (by omega), sgnL_high g (by omega)]
theorem sgns_high : ∀ l : List UInt8, (∀ c ∈ l, 128 ≤ c.toNat) → sgnsL l = l
  | [], _ => rfl
  | c :: r, h => by rw [sgnsL, sgnL_high c (h c (by simp)), sgns_high r (fun x hx => h x (by simp [hx]))]; rfl
theorem wr8_sgns (n : Nat) (h : n < 1114112) : (sgnsL (wr8 n)).length ≤ 6 := by
  unfold wr8
  split
  · rw [sgnsL_one]; exact sgnL_six _
  · split
    · have h1 := ofNat_toNat (192 + n / 64) (by omega)
      have h2 := ofNat_toNat (128 + n % 64) (by omega)
      generalize UInt8.ofNat (192 + n / 64) = a at *
      generalize UInt8.ofNat (128 + n % 64) = b at *
      rw [sgns_high _ (by intro c hc; simp at hc; rcases hc with rfl | rfl <;> omega)]; simp
    · split
      · have h1 := ofNat_toNat (224 + n / 4096) (by omega)
        have h2 := ofNat_toNat (128 + n / 64 % 64) (by omega)
        have h3 := ofNat_toNat (128 + n % 64) (by omega)
        generalize UInt8.ofNat (224 + n / 4096) = a at *
        generalize UInt8.ofNat (128 + n / 64 % 64) = b at *
        generalize UInt8.ofNat (128 + n % 64) = e at *
        rw [sgns_high _ (by intro c hc; simp at hc; rcases hc with rfl | rfl | rfl <;> omega)]; simp
      · have h1 := ofNat_toNat (240 + n / 262144) (by omega)
        have h2 := ofNat_toNat (128 + n / 4096 % 64) (by omega)
        have h3 := ofNat_toNat (128 + n / 64 % 64) (by omega)
        have h4 := ofNat_toNat (128 + n % 64) (by omega)
        generalize UInt8.ofNat (240 + n / 262144) = a at *
        generalize UInt8.ofNat (128 + n / 4096 % 64) = b at *
        generalize UInt8.ofNat (128 + n / 64 % 64) = e at *
        generalize UInt8.ofNat (128 + n % 64) = g at *
        rw [sgns_high _ (by intro c hc; simp at hc; rcases hc with rfl | rfl | rfl | rfl <;> omega)]; simp
theorem esc1_sgn (c b : UInt8) (h : esc1 c = some b) : (sgnL b).length ≤ 2 := by
  unfold esc1 at h
  split at h
  · rename_i hc
    injection h with h; subst h
    rcases hc with rfl | rfl | rfl <;> decide
  · repeat' split at h
    all_goals first | cases h; done | (injection h with h; subst h; decide)
theorem fourG_lt : ∀ (k n : Nat) (l : List UInt8) (o m o' : Nat), fourG k n l o = (some m, o') → m < (n + 1) * 16 ^ k
  | 0, n, l, o, m, o', h => by rw [fourG] at h; injection h with h1 _; injection h1 with h1; subst h1; simp
  | k + 1, n, [], o, m, o', h => by rw [fourG] at h; injection h with h1 _; cases h1
  | k + 1, n, c :: r, o, m, o', h => by
    rw [fourG] at h
    cases hd : hexv c with
    | none => rw [hd] at h; injection h with h1 _; cases h1
    | some d =>
      rw [hd] at h
      have := fourG_lt k _ r _ m o' h
      have hl := hexv_lt hd
      have : (16 * n + d + 1) * 16 ^ k ≤ (16 * n + 16) * 16 ^ k := Nat.mul_le_mul_right _ (by omega)
      have e : (n + 1) * 16 ^ (k + 1) = (16 * n + 16) * 16 ^ k := by rw [Nat.pow_succ, show 16 * n + 16 = (n + 1) * 16 by omega, Nat.mul_assoc, Nat.mul_comm 16 (16 ^ k)]
      omega
theorem escL_sgns {l t : List UInt8} {n : Nat} (h : escL l = .ok (t, n)) : (sgnsL t).length ≤ n := by
  unfold escL at h
  split at h
  · rename_i c r
    split at h
    · rename_i b hb
      injection h with h; injection h with h1 h2; subst h1; subst h2
      rw [sgnsL_one]; exact esc1_sgn _ _ hb
    · split at h
      · split at h
        · cases h
        · rename_i m x h4
          have hm := fourG_lt _ _ _ _ _ _ h4
          unfold pairL at h
          split at h
          · injection h with h; injection h with h1 h2; subst h1; subst h2
            exact wr8_sgns m (by omega)
          · split at h
            · cases h
            · rename_i lo hlo
              split at h
              · cases h
              · injection h with h; injection h with h1 h2; subst h1; subst h2
                have hl : lo ≤ 57343 := by
                  unfold lowL at hlo
                  split at hlo
                  · split at hlo
                    · split at hlo
                      · split at hlo
                        · injection hlo with hlo; omega
                        · cases hlo
                      · cases hlo
                    · cases hlo
                  · cases hlo
                have := wr8_sgns (65536 + 1024 * (m - 55296) + (lo - 56320)) (by omega)
                omega
      · cases h
  · cases h
theorem strF_sgn : ∀ (f : Nat) (l t : List UInt8) (n : Nat), strF f l = .ok (t, n) → (sgnsL t).length + 1 ≤ n := by
  intro f
  induction f with
  | zero => intro l t n h; simp [strF] at h
  | succ f ih =>
    intro l t n h
    match l with
    | [] => simp [strF] at h
    | c :: r =>
      rw [strF] at h
      split at h
      · injection h with h; injection h with h1 h2; subst h1; subst h2; simp [sgnsL]
      · rename_i c1
        split at h
        · cases h
        · rename_i c2
          split at h
          · split at h
            · cases h
            · rename_i t1 n1 he
              have hs := escL_sgns he
              cases hr : strF f ((c :: r).drop n1) with
              | error o => rw [hr] at h; simp [shiftS] at h
              | ok z =>
                obtain ⟨t2, n2⟩ := z
                have h9 := ih _ _ _ hr
                rw [hr, shiftS] at h
                injection h with h; injection h with h1 h2; subst h1; subst h2
                rw [sgnsL_append, List.length_append]; omega
          · rename_i c3
            split at h
            · cases h
            · rename_i hq
              cases hr : strF f ((c :: r).drop (seqLen (c :: r))) with
              | error o => rw [hr] at h; simp [shiftS] at h
              | ok z =>
                obtain ⟨t2, n2⟩ := z
                have h9 := ih _ _ _ hr
                rw [hr, shiftS] at h
                injection h with h; injection h with h1 h2; subst h1; subst h2
                obtain ⟨q1, q2⟩ := seqLen_take _ hq
                have hlen : ((c :: r).take (seqLen (c :: r))).length = seqLen (c :: r) := by rw [List.length_take]; omega
                have hne : (c :: r).take (seqLen (c :: r)) ≠ [] := fun e => by rw [e] at hlen; simp at hlen; omega
                have e := sgnsL_seq _ hne (by rw [q1, hlen]) (fun c' r' he => by
                  have : c' = c := by
                    have h8 := congrArg List.head? he
                    rw [List.head?_take, if_neg hq] at h8
                    simp at h8; exact h8.symm
                  subst this
                  exact ⟨c1, by omega, c3⟩)
                rw [sgnsL_append, List.length_append, e, hlen]; omega
theorem quotL_sgn {l t : List UInt8} {n : Nat} (h : quotL l = .ok (t, n)) : (strT t).length ≤ n := by
  unfold quotL at h
  split at h
  · split at h
    · split at h
      · rename_i t' n' hs
        injection h with h; injection h with h1 h2; subst h1; subst h2
        have := strF_sgn _ _ _ _ hs
        unfold strT; simp only [List.length_append, List.length_cons, List.length_nil]; omega
      · cases h
    · cases h
  · cases h
theorem decN_lenQ : ∀ (k x : Nat), 1 ≤ k → x < 10 ^ k → (decN x).length ≤ k
  | 0, x, h, _ => by omega
  | 1, x, _, h => by rw [decN]; simp at h; rw [dif_pos h]; simp
  | k + 2, x, _, h => by
    rw [decN]
    split
    · simp
    · have : x / 10 < 10 ^ (k + 1) := by
        rw [Nat.div_lt_iff_lt_mul (by omega)]
        rwa [Nat.pow_succ] at h
      have := decN_lenQ (k + 1) (x / 10) (by omega) this
      simp; omega
theorem accN_lt : ∀ (l : List UInt8) (n : Nat), (∀ c ∈ l, isD c = true) → accN n l < (n + 1) * 10 ^ l.length
  | [], n, _ => by simp [accN]
  | c :: r, n, h => by
    have hc := h c (by simp)
    unfold isD at hc
    simp at hc
    rw [accN]
    have h9 := accN_lt r (if n ≤ maxI then 10 * n + (c.toNat - 48) else n) (fun x hx => h x (by simp [hx]))
    have : (if n ≤ maxI then 10 * n + (c.toNat - 48) else n) + 1 ≤ 10 * (n + 1) := by split <;> omega
    have h8 := Nat.mul_le_mul_right (10 ^ r.length) this
    have e : (n + 1) * 10 ^ (c :: r).length = 10 * (n + 1) * 10 ^ r.length := by rw [List.length_cons, Nat.pow_succ, Nat.mul_comm 10 (n + 1), Nat.mul_assoc, Nat.mul_comm 10]
    omega
theorem nd_dig : ∀ l : List UInt8, ∀ c ∈ l.take (nd l), isD c = true
  | [], c, h => by simp at h
  | x :: r, c, h => by
    rw [nd] at h
    split at h
    · rename_i hx
      rw [List.take_succ_cons] at h
      rcases List.mem_cons.1 h with rfl | h
      · exact hx
      · exact nd_dig r c h
    · simp at h
theorem nd_leQ : ∀ l : List UInt8, nd l ≤ l.length
  | [] => by simp [nd]
  | x :: r => by rw [nd]; split <;> have := nd_leQ r <;> simp <;> omega
theorem intL_sgn {l : List UInt8} {m : Int} {n : Nat} (h : intL l = .ok (m, n)) : (decI m).length ≤ n ∧ -9007199254740991 ≤ m ∧ m ≤ 9007199254740991 := by
  unfold intL at h
  dsimp only at h
  generalize (if l.head? = some 45 then 1 else 0) = m0 at h
  split at h
  · cases h
  · rename_i hk
    split at h
    · cases h
    · rename_i hx
      injection h with h; injection h with h1 h2
      generalize hr : l.drop m0 = r at *
      have hlt := accN_lt (r.take (nd r)) 0 (nd_dig r)
      have hl := decN_lenQ (nd r) (accN 0 (r.take (nd r))) (by omega) (by
        have : (r.take (nd r)).length = nd r := by rw [List.length_take]; have := nd_leQ r; omega
        rw [this] at hlt; omega)
      have hM : accN 0 (r.take (nd r)) ≤ 9007199254740991 := by
        have : maxI = 9007199254740991 := rfl
        omega
      generalize accN 0 (r.take (nd r)) = x at *
      have h0 : (decN 0).length = 1 := by rw [decN]; simp
      split at h1
      · rename_i hm
        subst h1
        rw [hm] at h2
        refine ⟨?_, by omega, by omega⟩
        unfold decI
        split
        · have : (- -(x : Int)).toNat = x := by omega
          rw [this, List.length_cons]; omega
        · have : (-(x : Int)).toNat = 0 := by omega
          rw [this, h0]; omega
      · subst h1
        refine ⟨?_, by omega, by omega⟩
        unfold decI
        rw [if_neg (by omega)]
        have : ((x : Int)).toNat = x := by omega
        rw [this]; omega

mutual
/-- Numbers within their bounds, strings of right sequences. -/
def okI : JT → Prop
  | .null _ => True
  | .truth _ _ => True
  | .int n _ => -9007199254740991 ≤ n ∧ n ≤ 9007199254740991
  | .str s _ => U8 s
  | .arr ts _ => okIL ts
  | .obj ms _ => okIM ms
def okIL : List JT → Prop
  | [] => True
  | t :: r => okI t ∧ okIL r
def okIM : List (List UInt8 × JT) → Prop
  | [] => True
  | (_, t) :: r => okI t ∧ okIM r
end
mutual
/-- Within so many brackets. -/
def dpT : JT → Nat → Prop
  | .null _, _ => True
  | .truth _ _, _ => True
  | .int _ _, _ => True
  | .str _ _, _ => True
  | .arr ts _, d => 1 ≤ d ∧ dpL ts (d - 1)
  | .obj ms _, d => 1 ≤ d ∧ dpM ms (d - 1)
def dpL : List JT → Nat → Prop
  | [], _ => True
  | t :: r, d => dpT t d ∧ dpL r d
def dpM : List (List UInt8 × JT) → Nat → Prop
  | [], _ => True
  | (_, t) :: r, d => dpT t d ∧ dpM r d
end
theorem joinC_len : ∀ l : List (List UInt8), l ≠ [] → (joinC l).length + 1 = (l.map fun a => a.length + 1).sum
  | [], h => absurd rfl h
  | [a], _ => by simp [joinC]
  | a :: b :: r, _ => by
    have := joinC_len (b :: r) (by simp)
    simp only [joinC, List.length_append, List.length_cons, List.map_cons, List.sum_cons] at this ⊢
    omega
theorem insP_perm (x : List UInt8 × List UInt8) (l : List (List UInt8 × List UInt8)) : (insP x l).Perm (x :: l) := by
  induction l with
  | nil => exact .refl _
  | cons y r ih =>
    simp only [insP]
    split
    · exact (List.Perm.cons y ih).trans (.swap x y r)
    · exact .refl _
theorem srtP_perm (l : List (List UInt8 × List UInt8)) : (srtP l).Perm l := by
  have h : ∀ (l acc : List (List UInt8 × List UInt8)), (l.foldl (fun a x => (insP x a.reverse).reverse) acc).Perm (l ++ acc) := by
    intro l
    induction l with
    | nil => intro acc; exact .refl _
    | cons x r ih =>
      intro acc
      rw [List.foldl_cons]
      refine (ih _).trans ?_
      refine (List.Perm.append_left r ((List.reverse_perm _).trans ((insP_perm x _).trans (List.Perm.cons x (List.reverse_perm acc))))).trans ?_
      exact List.perm_middle
  have := h l []
  rwa [List.append_nil] at this
theorem perm_sum {a b : List Nat} (h : a.Perm b) : a.sum = b.sum := by
  induction h with
  | nil => rfl
  | cons x _ ih => simp [ih]
  | swap x y l => simp; omega
  | trans _ _ i1 i2 => rw [i1, i2]
theorem joinC_srt (l : List (List UInt8 × List UInt8)) : (joinC ((srtP l).map memP)).length = (joinC (l.map memP)).length := by
  by_cases h0 : l = []
  · subst h0; rfl
  · have hp := srtP_perm l
    have h1 : srtP l ≠ [] := fun e => by rw [e] at hp; exact h0 hp.symm.eq_nil
    have a := joinC_len (l.map memP) (by simpa using h0)
    have b := joinC_len ((srtP l).map memP) (by simpa using h1)
    have c := perm_sum ((hp.map memP).map fun a => a.length + 1)
    omega
def Fit (d : Nat) (t : JT) (n : Nat) : Prop := (fmT t).length ≤ n ∧ okI t ∧ dpT t d
theorem arrF_fit (d : Nat) (v : List UInt8 → Nat → JR JT) (hv : ∀ l i t n, v l i = .ok (t, n) → Fit d t n) : ∀ (f : Nat) (l : List UInt8) (i : Nat) (ts : List JT) (k : Nat), arrF v f l i = .ok (ts, k) → (joinC (fmL ts)).length + 1 ≤ k ∧ ts ≠ [] ∧ okIL ts ∧ dpL ts d := by
  intro f
  induction f with
  | zero => intro l i ts k h; simp [arrF] at h
  | succ f ih =>
    intro l i ts k h
    rw [arrF] at h
    dsimp only at h
    split at h
    · cases h
    · rename_i t n hvt
      obtain ⟨h0, h1, h2⟩ := hv _ _ _ _ hvt
      split at h
      · split at h
        · split at h
          · cases h
          · rename_i ts' k' hr
            obtain ⟨g0, g1, g2, g3⟩ := ih _ _ _ _ hr
            injection h with h; injection h with e1 e2; subst e1; subst e2
            refine ⟨?_, by simp, by rw [okIL]; exact ⟨h1, g2⟩, by rw [dpL]; exact ⟨h2, g3⟩⟩
            match ts', g1 with
            | t2 :: r2, _ => simp only [fmL, joinC, List.length_append, List.length_cons] at g0 ⊢; omega
        · split at h
          · injection h with h; injection h with e1 e2; subst e1; subst e2
            refine ⟨by simp only [fmL, joinC]; omega, by simp, by simp only [okIL]; exact ⟨h1, trivial⟩, by simp only [dpL]; exact ⟨h2, trivial⟩⟩
          · cases h
      · cases h
theorem objF_fit (d : Nat) (v : List UInt8 → Nat → JR JT) (hv : ∀ l i t n, v l i = .ok (t, n) → Fit d t n) : ∀ (f : Nat) (ks : List (List UInt8)) (l : List UInt8) (i : Nat) (ms : List (List UInt8 × JT)) (k : Nat), objF v f ks l i = .ok (ms, k) → (joinC ((fmM ms).map memP)).length + 1 ≤ k ∧ ms ≠ [] ∧ okIM ms ∧ dpM ms d := by
  intro f
  induction f with
  | zero => intro ks l i ts k h; simp [objF] at h
  | succ f ih =>
    intro ks l i ms k h
    rw [objF] at h
    dsimp only at h
    split at h
    · cases h
    · rename_i name m hq
      have hn := quotL_sgn hq
      split at h
      · cases h
      · split at h
        · split at h
          · split at h
            · cases h
            · rename_i t n hvt
              obtain ⟨h0, h1, h2⟩ := hv _ _ _ _ hvt
              split at h
              · split at h
                · split at h
                  · cases h
                  · rename_i ms' k' hr
                    obtain ⟨g0, g1, g2, g3⟩ := ih _ _ _ _ _ hr
                    injection h with h; injection h with e1 e2; subst e1; subst e2
                    refine ⟨?_, by simp, by rw [okIM]; exact ⟨h1, g2⟩, by rw [dpM]; exact ⟨h2, g3⟩⟩
                    match ms', g1 with
                    | (n2, t2) :: r2, _ => simp only [fmM, List.map_cons, joinC, memP, List.length_append, List.length_cons] at g0 ⊢; omega
                · split at h
                  · injection h with h; injection h with e1 e2; subst e1; subst e2
                    refine ⟨by simp only [fmM, List.map_cons, List.map_nil, joinC, memP, List.length_append, List.length_cons]; omega, by simp, by simp only [okIM]; exact ⟨h1, trivial⟩, by simp only [dpM]; exact ⟨h2, trivial⟩⟩
                  · cases h
              · cases h
          · cases h
        · cases h
theorem arrL_fit (d : Nat) (v : List UInt8 → Nat → JR JT) (hv : ∀ l i t n, v l i = .ok (t, n) → Fit d t n) (l : List UInt8) (i : Nat) (t : JT) (n : Nat) (h : arrL v l i = .ok (t, n)) : Fit (d + 1) t n := by
  unfold arrL at h
  dsimp only at h
  split at h
  · injection h with h; injection h with h1 h2; subst h1; subst h2
    exact ⟨by simp only [fmT, fmL, joinC, List.length_append, List.length_cons, List.length_nil]; omega, by simp [okI, okIL], by simp [dpT, dpL]⟩
  · split at h
    · cases h
    · rename_i ts k hr
      obtain ⟨g0, g1, g2, g3⟩ := arrF_fit d v hv _ _ _ _ _ hr
      injection h with h; injection h with h1 h2; subst h1; subst h2
      exact ⟨by simp only [fmT, List.length_append, List.length_cons, List.length_nil]; omega, by rw [okI]; exact g2, by rw [dpT]; exact ⟨by omega, g3⟩⟩
theorem objL_fit (d : Nat) (v : List UInt8 → Nat → JR JT) (hv : ∀ l i t n, v l i = .ok (t, n) → Fit d t n) (l : List UInt8) (i : Nat) (t : JT) (n : Nat) (h : objL v l i = .ok (t, n)) : Fit (d + 1) t n := by
  unfold objL at h
  dsimp only at h
  split at h
  · injection h with h; injection h with h1 h2; subst h1; subst h2
    exact ⟨by simp only [fmT, fmM, srtP, List.foldl_nil, List.map_nil, joinC, List.length_append, List.length_cons, List.length_nil]; omega, by simp [okI, okIM], by simp [dpT, dpM]⟩
  · split at h
    · cases h
    · rename_i ms k hr
      obtain ⟨g0, g1, g2, g3⟩ := objF_fit d v hv _ _ _ _ _ _ hr
      injection h with h; injection h with h1 h2; subst h1; subst h2
      exact ⟨by simp only [fmT, List.length_append, List.length_cons, List.length_nil, joinC_srt]; omega, by rw [okI]; exact g2, by rw [dpT]; exact ⟨by omega, g3⟩⟩
theorem wordL_fit {l : List UInt8} {i n d : Nat} {t : JT} (h : wordL l i = .ok (t, n)) : Fit d t n := by
  unfold wordL at h
  dsimp only at h
  repeat' split at h
  all_goals first
    | cases h; done
    | (injection h with h; injection h with h1 h2; subst h1; subst h2; exact ⟨by simp [fmT], by simp [okI], by simp [dpT]⟩)
theorem valL_fit : ∀ (d : Nat) (l : List UInt8) (i : Nat) (t : JT) (n : Nat), valL d l i = .ok (t, n) → Fit d t n := by
  intro d
  induction d with
  | zero =>
    intro l i t n h
    match l with
    | [] => rw [valL_nil] at h; cases h
    | c :: r =>
      rw [valL_cons] at h
      generalize (c :: r) = L at *
      split at h
      · split at h
        · cases h
        · rename_i hq; injection h with h; injection h with h1 h2; subst h1; subst h2; exact ⟨by rw [fmT]; exact quotL_sgn hq, by rw [okI]; exact quotL_u8 hq, by simp [dpT]⟩
      · split at h
        · split at h
          · cases h
          · rename_i hq; have := intL_sgn hq; injection h with h; injection h with h1 h2; subst h1; subst h2; exact ⟨by rw [fmT]; exact this.1, by rw [okI]; exact this.2, by simp [dpT]⟩
        · split at h
          · exact wordL_fit h
          · split at h <;> cases h
  | succ d ih =>
    intro l i t n h
    match l with
    | [] => rw [valL_nil] at h; cases h
    | c :: r =>
      rw [valL_cons] at h
      generalize (c :: r) = L at *
      split at h
      · split at h
        · cases h
        · rename_i hq; injection h with h; injection h with h1 h2; subst h1; subst h2; exact ⟨by rw [fmT]; exact quotL_sgn hq, by rw [okI]; exact quotL_u8 hq, by simp [dpT]⟩
      · split at h
        · split at h
          · cases h
          · rename_i hq; have := intL_sgn hq; injection h with h; injection h with h1 h2; subst h1; subst h2; exact ⟨by rw [fmT]; exact this.1, by rw [okI]; exact this.2, by simp [dpT]⟩
        · split at h
          · exact wordL_fit h
          · split at h
            · dsimp only at h
              split at h
              · exact arrL_fit d _ ih _ _ _ _ h
              · exact objL_fit d _ ih _ _ _ _ h
            · cases h
/-- Of a text that is read: its form is no longer. -/
theorem readL_fit {l : List UInt8} {t : JT} (h : readL l = .ok t) : (fmT t).length ≤ l.length ∧ okI t ∧ dpT t 32 ∧ l.length ≤ 65536 := by
  unfold readL at h
  split at h
  · cases h
  · rename_i hl
    dsimp only at h
    split at h
    · cases h
    · rename_i t' n hv
      obtain ⟨h1, h2, h3⟩ := valL_fit _ _ _ _ _ hv
      have h0 := (valL_rok _ _ _ _ _ hv).1
      rw [List.length_drop] at h0
      split at h
      · cases h
      · injection h with h; subst h
        exact ⟨by omega, h2, h3, by omega⟩
end Go.Proofs.YtdmpiampghddkabGreatDoor
/-
  The one form is read as the same tree, its members sorted; and that tree's form is the same.
-/
namespace Go.Proofs.YtdmpiampghddkabGreatDoor
set_option linter.unusedVariables false

/-- Setting in, of members. -/
def insM (x : List UInt8 × JT) : List (List UInt8 × JT) → List (List UInt8 × JT)
  | [] => [x]
  | y :: r => if aheadL x.1 y.1 = true then y :: insM x r else x :: y :: r
def srtM (l : List (List UInt8 × JT)) : List (List UInt8 × JT) := l.foldl (fun a x => (insM x a.reverse).reverse) []
theorem fmM_map : ∀ ms : List (List UInt8 × JT), fmM ms = ms.map fun p => (p.1, fmT p.2)
  | [] => rfl
  | (n, t) :: r => by rw [fmM, fmM_map r]; rfl
theorem fmL_map : ∀ ts : List JT, fmL ts = ts.map fmT
  | [] => rfl
  | t :: r => by rw [fmL, fmL_map r]; rfl
theorem insM_fm (x : List UInt8 × JT) : ∀ l, (insM x l).map (fun p => (p.1, fmT p.2)) = insP (x.1, fmT x.2) (l.map fun p => (p.1, fmT p.2))
  | [] => rfl
  | y :: r => by
    simp only [insM, List.map_cons, insP]
    split
    · rw [List.map_cons, insM_fm x r]
    · rfl
theorem srtM_fm (ms : List (List UInt8 × JT)) : srtP (fmM ms) = fmM (srtM ms) := by
  rw [fmM_map, fmM_map]
  have h : ∀ (l acc : List (List UInt8 × JT)), (l.map fun p => (p.1, fmT p.2)).foldl (fun a x => (insP x a.reverse).reverse) (acc.map fun p => (p.1, fmT p.2)) = (l.foldl (fun a x => (insM x a.reverse).reverse) acc).map fun p => (p.1, fmT p.2) := by
    intro l
    induction l with
    | nil => intro acc; rfl
    | cons x r ih =>
      intro acc
      rw [List.foldl_cons, ← ih, List.map_cons, List.foldl_cons]
      congr 1
      rw [← List.map_reverse, ← insM_fm, List.map_reverse]
  exact h ms []
theorem insM_perm (x : List UInt8 × JT) (l : List (List UInt8 × JT)) : (insM x l).Perm (x :: l) := by
  induction l with
  | nil => exact .refl _
  | cons y r ih =>
    simp only [insM]
    split
    · exact (List.Perm.cons y ih).trans (.swap x y r)
    · exact .refl _
theorem foldM_perm (l : List (List UInt8 × JT)) : ∀ acc : List (List UInt8 × JT), (l.foldl (fun a x => (insM x a.reverse).reverse) acc).Perm (l ++ acc) := by
  induction l with
  | nil => intro acc; exact .refl _
  | cons x r ih =>
    intro acc
    rw [List.foldl_cons]
    refine (ih _).trans ?_
    refine (List.Perm.append_left r ((List.reverse_perm _).trans ((insM_perm x _).trans (List.Perm.cons x (List.reverse_perm acc))))).trans ?_
    exact List.perm_middle
theorem srtM_perm (l : List (List UInt8 × JT)) : (srtM l).Perm l := by
  have := foldM_perm l []
  rwa [List.append_nil] at this
theorem insM_desc (x : List UInt8 × JT) (l : List (List UInt8 × JT)) (hd : ∀ y ∈ l, aheadL x.1 y.1 = false → aheadL y.1 x.1 = true) (h : l.Pairwise (fun a b => aheadL b.1 a.1 = true)) : (insM x l).Pairwise (fun a b => aheadL b.1 a.1 = true) := by
  induction l with
  | nil => simp [insM]
  | cons y r ih =>
    rw [List.pairwise_cons] at h
    simp only [insM]
    split
    · rename_i hlt
      rw [List.pairwise_cons]
      refine ⟨fun b hb => ?_, ih (fun z hz => hd z (List.mem_cons_of_mem _ hz)) h.2⟩
      rcases List.mem_cons.1 ((insM_perm x r).mem_iff.1 hb) with rfl | hb
      · exact hlt
      · exact h.1 b hb
    · rename_i hlt
      have hyx := hd y (by simp) (by simpa using hlt)
      rw [List.pairwise_cons, List.pairwise_cons]
      refine ⟨fun b hb => ?_, h.1, h.2⟩
      rcases List.mem_cons.1 hb with rfl | hb
      · exact hyx
      · exact aheadU_trans _ _ _ (h.1 b hb) hyx
theorem foldM_sorted (l : List (List UInt8 × JT)) : ∀ acc : List (List UInt8 × JT), (l ++ acc).Pairwise (fun a b => aheadL a.1 b.1 = true ∨ aheadL b.1 a.1 = true) → acc.Pairwise (fun a b => aheadL a.1 b.1 = true) → (l.foldl (fun a x => (insM x a.reverse).reverse) acc).Pairwise (fun a b => aheadL a.1 b.1 = true) := by
  induction l with
  | nil => intro acc _ h; exact h
  | cons x r ih =>
    intro acc hd h
    rw [List.foldl_cons]
    rw [List.cons_append, List.pairwise_cons] at hd
    refine ih _ ?_ ?_
    · refine List.Pairwise.perm (l := x :: (r ++ acc)) ?_ ?_ (fun {a b} h => h.symm)
      · rw [List.pairwise_cons]; exact hd
      · exact (List.perm_middle.symm).trans (List.Perm.append_left r ((List.reverse_perm _).trans ((insM_perm x _).trans (List.Perm.cons x (List.reverse_perm acc)))).symm)
    · rw [List.pairwise_reverse]
      refine insM_desc x _ (fun y hy hf => ?_) ?_
      · rcases hd.1 y (by simp at hy; simp [hy]) with e | e
        · rw [e] at hf; cases hf
        · exact e
      · rw [List.pairwise_reverse]; exact h
theorem okNM_mem : ∀ (ms : List (List UInt8 × JT)), okNM ms → ∀ p ∈ ms, U8 p.1 ∧ okN p.2
  | [], _, p, h => by simp at h
  | (k, t) :: r, ho, p, h => by
    rw [okNM] at ho
    rcases List.mem_cons.1 h with rfl | h
    · exact ⟨ho.1, ho.2.1⟩
    · exact okNM_mem r ho.2.2 p h
theorem okIM_mem : ∀ (ms : List (List UInt8 × JT)), okIM ms → ∀ p ∈ ms, okI p.2
  | [], _, p, h => by simp at h
  | (k, t) :: r, ho, p, h => by
    rw [okIM] at ho
    rcases List.mem_cons.1 h with rfl | h
    · exact ho.1
    · exact okIM_mem r ho.2 p h
theorem dpM_mem (d : Nat) : ∀ (ms : List (List UInt8 × JT)), dpM ms d → ∀ p ∈ ms, dpT p.2 d
  | [], _, p, h => by simp at h
  | (k, t) :: r, ho, p, h => by
    rw [dpM] at ho
    rcases List.mem_cons.1 h with rfl | h
    · exact ho.1
    · exact dpM_mem d r ho.2 p h
theorem okNL_mem : ∀ (ts : List JT), okNL ts → ∀ p ∈ ts, okN p
  | [], _, p, h => by simp at h
  | t :: r, ho, p, h => by
    rw [okNL] at ho
    rcases List.mem_cons.1 h with rfl | h
    · exact ho.1
    · exact okNL_mem r ho.2 p h
theorem okIL_mem : ∀ (ts : List JT), okIL ts → ∀ p ∈ ts, okI p
  | [], _, p, h => by simp at h
  | t :: r, ho, p, h => by
    rw [okIL] at ho
    rcases List.mem_cons.1 h with rfl | h
    · exact ho.1
    · exact okIL_mem r ho.2 p h
theorem dpL_mem (d : Nat) : ∀ (ts : List JT), dpL ts d → ∀ p ∈ ts, dpT p d
  | [], _, p, h => by simp at h
  | t :: r, ho, p, h => by
    rw [dpL] at ho
    rcases List.mem_cons.1 h with rfl | h
    · exact ho.1
    · exact dpL_mem d r ho.2 p h
theorem sizeL_mem : ∀ (ts : List JT), ∀ p ∈ ts, p.size ≤ sizeL ts
  | [], p, h => by simp at h
  | t :: r, p, h => by
    rw [sizeL]
    rcases List.mem_cons.1 h with rfl | h
    · omega
    · have := sizeL_mem r p h; omega
theorem sizeM_mem : ∀ (ms : List (List UInt8 × JT)), ∀ p ∈ ms, p.2.size ≤ sizeM ms
  | [], p, h => by simp at h
  | (k, t) :: r, p, h => by
    rw [sizeM]
    rcases List.mem_cons.1 h with rfl | h
    · show t.size ≤ _; omega
    · have := sizeM_mem r p h; omega
theorem sizeM_sum : ∀ (ms : List (List UInt8 × JT)), sizeM ms = (ms.map fun p => p.2.size).sum
  | [] => rfl
  | (k, t) :: r => by rw [sizeM, sizeM_sum r]; simp
theorem srtM_size (ms : List (List UInt8 × JT)) : sizeM (srtM ms) = sizeM ms := by
  rw [sizeM_sum, sizeM_sum]
  exact perm_sum ((srtM_perm ms).map _)
theorem srtM_sorted (ms : List (List UInt8 × JT)) (ho : okNM ms) (hd : (ms.map Prod.fst).Pairwise (fun a b => a ≠ b)) : (srtM ms).Pairwise (fun a b => aheadL a.1 b.1 = true) := by
  refine foldM_sorted ms [] ?_ .nil
  rw [List.append_nil]
  rw [List.pairwise_map] at hd
  have hu := okNM_mem ms ho
  clear ho
  induction ms with
  | nil => exact .nil
  | cons x r ih =>
    rw [List.pairwise_cons] at hd ⊢
    refine ⟨fun b hb => ?_, ih hd.2 (fun p hp => hu p (List.mem_cons_of_mem _ hp))⟩
    have hne : unitsL x.1 ≠ unitsL b.1 := fun e => hd.1 b hb (units_inj (hu x (by simp)).1 (hu b (List.mem_cons_of_mem _ hb)).1 e)
    by_cases h1 : aheadL x.1 b.1 = true
    · exact .inl h1
    · exact .inr (aheadU_tot _ _ hne (Bool.not_eq_true _ ▸ h1))
theorem srtP_same (l : List (List UInt8 × List UInt8)) (h : l.Pairwise (fun a b => aheadL a.1 b.1 = true)) : srtP l = l := by
  have h1 : ∀ (l acc : List (List UInt8 × List UInt8)), (acc ++ l).Pairwise (fun a b => aheadL a.1 b.1 = true) → l.foldl (fun a x => (insP x a.reverse).reverse) acc = acc ++ l := by
    intro l
    induction l with
    | nil => intro acc _; simp
    | cons x r ih =>
      intro acc hp
      rw [List.foldl_cons]
      have e : (insP x acc.reverse).reverse = acc ++ [x] := by
        rcases List.eq_nil_or_concat acc with rfl | ⟨a', y, rfl⟩
        · rfl
        · rw [List.concat_eq_append, List.reverse_append]
          simp only [List.reverse_cons, List.reverse_nil, List.nil_append, List.cons_append]
          have hyx : aheadL y.1 x.1 = true := by
            rw [List.pairwise_append] at hp
            exact hp.2.2 y (by simp) x (by simp)
          have : aheadL x.1 y.1 = false := aheadU_asym _ _ hyx
          rw [insP, if_neg (by simp [this])]
          simp
      rw [e, ih (acc ++ [x]) (by rw [List.append_assoc]; exact hp), List.append_assoc]; rfl
  exact h1 l [] h

inductive All2 {α β : Type} (R : α → β → Prop) : List α → List β → Prop
  | nil : All2 R [] []
  | cons {a b l m} : R a b → All2 R l m → All2 R (a :: l) (b :: m)
theorem All2.length {α β : Type} {R : α → β → Prop} {l : List α} {m : List β} (h : All2 R l m) : m.length = l.length := by
  induction h with
  | nil => rfl
  | cons _ _ ih => simp [ih]
theorem All2.mem {α β : Type} {R : α → β → Prop} {l : List α} {m : List β} (h : All2 R l m) : ∀ a ∈ l, ∃ b ∈ m, R a b := by
  induction h with
  | nil => intro a ha; simp at ha
  | cons hr _ ih =>
    intro a ha
    rcases List.mem_cons.1 ha with rfl | ha
    · exact ⟨_, by simp, hr⟩
    · obtain ⟨b, hb, hr⟩ := ih a ha
      exact ⟨b, by simp [hb], hr⟩
mutual
/-- The same in them, members in any order. -/
def Al : JT → JT → Prop
  | .null _, u => ∃ a, u = .null a
  | .truth b _, u => ∃ a, u = .truth b a
  | .int n _, u => ∃ a, u = .int n a
  | .str s _, u => ∃ a, u = .str s a
  | .arr ts _, u => ∃ us a, u = .arr us a ∧ AlL ts us
  | .obj ms _, u => ∃ us a, u = .obj us a ∧ us.length = ms.length ∧ (us.map Prod.fst).Pairwise (fun a b => a ≠ b) ∧ AlM ms us
def AlL : List JT → List JT → Prop
  | [], us => us = []
  | t :: r, us => ∃ u v, us = u :: v ∧ Al t u ∧ AlL r v
def AlM : List (List UInt8 × JT) → List (List UInt8 × JT) → Prop
  | [], _ => True
  | (n, t) :: r, us => (∃ u, (n, u) ∈ us ∧ Al t u) ∧ AlM r us
end
theorem AlL_of : ∀ {ts us : List JT}, All2 Al ts us → AlL ts us
  | _, _, .nil => by rw [AlL]
  | _, _, .cons h r => by rw [AlL]; exact ⟨_, _, rfl, h, AlL_of r⟩
theorem AlM_of : ∀ (ms us : List (List UInt8 × JT)), (∀ p ∈ ms, ∃ u, (p.1, u) ∈ us ∧ Al p.2 u) → AlM ms us
  | [], us, _ => by rw [AlM]; trivial
  | (n, t) :: r, us, h => by rw [AlM]; exact ⟨h (n, t) (by simp), AlM_of r us (fun p hp => h p (by simp [hp]))⟩

theorem fmT_head (t : JT) : ∃ c r, fmT t = c :: r ∧ isB c = false ∧ c ≠ 93 := by
  cases t with
  | null a => exact ⟨110, _, rfl, by decide, by decide⟩
  | truth b a => cases b <;> exact ⟨_, _, rfl, by decide, by decide⟩
  | int n a =>
    obtain ⟨x, _, ⟨_, e, _⟩ | ⟨_, e⟩⟩ := decI_abs n
    · exact ⟨45, _, by rw [fmT, e], by decide, by decide⟩
    · obtain ⟨c, r, hc, hd, _⟩ := decN_head x
      refine ⟨c, r, by rw [fmT, e, hc], ?_, ?_⟩
      · unfold isD at hd; unfold isB; simp at hd ⊢
        refine ⟨⟨⟨?_, ?_⟩, ?_⟩, ?_⟩ <;> (rintro rfl; simp at hd)
      · rintro rfl; simp [isD] at hd
  | str s a => exact ⟨34, _, rfl, by decide, by decide⟩
  | arr ts a => exact ⟨91, _, rfl, by decide, by decide⟩
  | obj ms a => exact ⟨123, _, rfl, by decide, by decide⟩
theorem fmT_nb (t : JT) (x : List UInt8) : nb (fmT t ++ x) = 0 := by
  obtain ⟨c, r, e, h, _⟩ := fmT_head t
  rw [e, List.cons_append, nb, if_neg (by simp [h])]
/-- What a value is read back as. -/
def Bk (t u : JT) : Prop := Al t u ∧ fmT u = fmT t ∧ u.size = t.size
def Rd (v : List UInt8 → Nat → JR JT) (t : JT) : Prop := ∀ x, Beh x → ∀ i, ∃ u, v (fmT t ++ x) i = .ok (u, (fmT t).length) ∧ Bk t u
theorem beh_of (c : UInt8) (r : List UInt8) (h : isD c = false ∧ isL c = false) : Beh (c :: r) := fun c' r' e => by injection e with e _; subst e; exact h
theorem nb_of (c : UInt8) (r : List UInt8) (h : isB c = false) : nb (c :: r) = 0 := by rw [nb, if_neg (by simp [h])]
theorem arrF_back (v : List UInt8 → Nat → JR JT) : ∀ (ts : List JT), ts ≠ [] → (∀ t ∈ ts, Rd v t) → ∀ (f : Nat), ts.length ≤ f → ∀ (i : Nat) (x : List UInt8), ∃ us, arrF v f (joinC (fmL ts) ++ 93 :: x) i = .ok (us, (joinC (fmL ts)).length + 1) ∧ All2 Bk ts us
  | [], h, _, _, _, _, _ => absurd rfl h
  | [t], _, hv, f, hf, i, x => by
    obtain ⟨f, rfl⟩ : ∃ g, f = g + 1 := ⟨f - 1, by simp at hf; omega⟩
    obtain ⟨u, h1, h2⟩ := hv t (by simp) (93 :: x) (beh_of _ _ (by decide)) i
    refine ⟨[u], ?_, .cons h2 .nil⟩
    simp only [fmL, joinC]
    rw [arrF]
    dsimp only
    rw [fmT_nb, List.drop_zero, Nat.add_zero, h1]
    dsimp only
    rw [Nat.zero_add, List.drop_left' rfl, nb_of _ _ (by decide), Nat.add_zero, List.drop_left' rfl]
    rfl
  | t :: t2 :: r, _, hv, f, hf, i, x => by
    obtain ⟨f, rfl⟩ : ∃ g, f = g + 1 := ⟨f - 1, by simp at hf; omega⟩
    have e : joinC (fmL (t :: t2 :: r)) ++ 93 :: x = fmT t ++ 44 :: (joinC (fmL (t2 :: r)) ++ 93 :: x) := by simp [fmL, joinC]
    obtain ⟨u, h1, h2⟩ := hv t (by simp) (44 :: (joinC (fmL (t2 :: r)) ++ 93 :: x)) (beh_of _ _ (by decide)) i
    obtain ⟨us, h3, h4⟩ := arrF_back v (t2 :: r) (by simp) (fun t' ht => hv t' (by simp at ht ⊢; exact .inr ht)) f (by simp at hf ⊢; omega) (i + ((fmT t).length + 1)) x
    refine ⟨u :: us, ?_, .cons h2 h4⟩
    rw [e, arrF]
    dsimp only
    rw [fmT_nb, List.drop_zero, Nat.add_zero, h1]
    dsimp only
    rw [Nat.zero_add, List.drop_left' rfl, nb_of _ _ (by decide), Nat.add_zero, List.drop_left' rfl]
    dsimp only
    rw [if_pos rfl]
    have hd : (fmT t ++ 44 :: (joinC (fmL (t2 :: r)) ++ 93 :: x)).drop ((fmT t).length + 1) = joinC (fmL (t2 :: r)) ++ 93 :: x := by
      rw [← List.drop_drop, List.drop_left' rfl]; rfl
    rw [hd, h3]
    dsimp only
    have el : (joinC (fmL (t :: t2 :: r))).length = (fmT t).length + 1 + (joinC (fmL (t2 :: r))).length := by
      simp only [fmL, joinC, List.length_append, List.length_cons]; omega
    rw [el]; rfl
def BkM (p q : List UInt8 × JT) : Prop := p.1 = q.1 ∧ Bk p.2 q.2
theorem strT_nb (n x : List UInt8) : nb (strT n ++ x) = 0 := by
  unfold strT; simp only [List.cons_append]; exact nb_of _ _ (by decide)
theorem objF_back (v : List UInt8 → Nat → JR JT) : ∀ (ms : List (List UInt8 × JT)), ms ≠ [] → (∀ p ∈ ms, U8 p.1 ∧ Rd v p.2) → (ms.map Prod.fst).Pairwise (fun a b => a ≠ b) → ∀ (ks : List (List UInt8)), (∀ p ∈ ms, p.1 ∉ ks) → ∀ (f : Nat), ms.length ≤ f → ∀ (i : Nat) (x : List UInt8), ∃ us, objF v f ks (joinC ((fmM ms).map memP) ++ 125 :: x) i = .ok (us, (joinC ((fmM ms).map memP)).length + 1) ∧ All2 BkM ms us
  | [], h, _, _, _, _, _, _, _, _ => absurd rfl h
  | [(n, t)], _, hv, _, ks, hk, f, hf, i, x => by
    obtain ⟨f, rfl⟩ : ∃ g, f = g + 1 := ⟨f - 1, by simp at hf; omega⟩
    obtain ⟨hu, hr⟩ := hv (n, t) (by simp)
    have hk' : n ∉ ks := hk (n, t) (by simp)
    obtain ⟨u, h1, h2⟩ := hr (125 :: x) (beh_of _ _ (by decide)) (i + ((strT n).length + 1))
    refine ⟨[(n, u)], ?_, .cons ⟨rfl, h2⟩ .nil⟩
    have e : joinC ((fmM [(n, t)]).map memP) ++ 125 :: x = strT n ++ 58 :: (fmT t ++ 125 :: x) := by simp [fmM, joinC, memP]
    have hq := quotL_ext (58 :: (fmT t ++ 125 :: x)) (quotL_strT hu)
    have hd1 : (strT n ++ 58 :: (fmT t ++ 125 :: x)).drop ((strT n).length + 1) = fmT t ++ 125 :: x := by rw [← List.drop_drop, List.drop_left' rfl]; rfl
    have hd2 : (strT n ++ 58 :: (fmT t ++ 125 :: x)).drop ((strT n).length + 1 + (fmT t).length) = 125 :: x := by rw [← List.drop_drop, hd1, List.drop_left' rfl]
    rw [e, objF]
    dsimp only
    rw [strT_nb, List.drop_zero, hq]
    dsimp only
    rw [if_neg hk', Nat.zero_add, List.drop_left' rfl, nb_of _ _ (by decide), Nat.add_zero, List.drop_left' rfl]
    dsimp only
    rw [if_pos rfl, hd1, fmT_nb, Nat.add_zero, hd1, h1]
    dsimp only
    rw [hd2, nb_of _ _ (by decide), Nat.add_zero, hd2]
    dsimp only
    rw [if_neg (by decide), if_pos rfl]
    simp [fmM, joinC, memP]; omega
  | (n, t) :: p2 :: r, _, hv, hpw, ks, hk, f, hf, i, x => by
    obtain ⟨f, rfl⟩ : ∃ g, f = g + 1 := ⟨f - 1, by simp at hf; omega⟩
    obtain ⟨hu, hr⟩ := hv (n, t) (by simp)
    have hk' : n ∉ ks := hk (n, t) (by simp)
    rw [List.map_cons, List.pairwise_cons] at hpw
    obtain ⟨us, h3, h4⟩ := objF_back v (p2 :: r) (by simp) (fun p hp => hv p (List.mem_cons_of_mem _ hp)) hpw.2 (ks ++ [n]) (fun p hp hm => by
      rcases List.mem_append.1 hm with hm | hm
      · exact hk p (List.mem_cons_of_mem _ hp) hm
      · simp at hm
        exact hpw.1 p.1 (List.mem_map_of_mem hp) hm.symm) f (by simp at hf ⊢; omega) (i + ((strT n).length + 1 + (fmT t).length + 1)) x
    generalize hz : joinC ((fmM (p2 :: r)).map memP) = z at *
    obtain ⟨u, h1, h2⟩ := hr (44 :: (z ++ 125 :: x)) (beh_of _ _ (by decide)) (i + ((strT n).length + 1))
    refine ⟨(n, u) :: us, ?_, .cons ⟨rfl, h2⟩ h4⟩
    have ej : joinC ((fmM ((n, t) :: p2 :: r)).map memP) = strT n ++ 58 :: (fmT t ++ 44 :: z) := by
      rw [← hz]; obtain ⟨n2, t2⟩ := p2; simp [fmM, joinC, memP]
    have e : joinC ((fmM ((n, t) :: p2 :: r)).map memP) ++ 125 :: x = strT n ++ 58 :: (fmT t ++ 44 :: (z ++ 125 :: x)) := by rw [ej]; simp
    have hq := quotL_ext (58 :: (fmT t ++ 44 :: (z ++ 125 :: x))) (quotL_strT hu)
    have hd1 : (strT n ++ 58 :: (fmT t ++ 44 :: (z ++ 125 :: x))).drop ((strT n).length + 1) = fmT t ++ 44 :: (z ++ 125 :: x) := by rw [← List.drop_drop, List.drop_left' rfl]; rfl
    have hd2 : (strT n ++ 58 :: (fmT t ++ 44 :: (z ++ 125 :: x))).drop ((strT n).length + 1 + (fmT t).length) = 44 :: (z ++ 125 :: x) := by rw [← List.drop_drop, hd1, List.drop_left' rfl]
    have hd3 : (strT n ++ 58 :: (fmT t ++ 44 :: (z ++ 125 :: x))).drop ((strT n).length + 1 + (fmT t).length + 1) = z ++ 125 :: x := by rw [← List.drop_drop, hd2]; rfl
    rw [e, objF]
    dsimp only
    rw [strT_nb, List.drop_zero, hq]
    dsimp only
    rw [if_neg hk', Nat.zero_add, List.drop_left' rfl, nb_of _ _ (by decide), Nat.add_zero, List.drop_left' rfl]
    dsimp only
    rw [if_pos rfl, hd1, fmT_nb, Nat.add_zero, hd1, h1]
    dsimp only
    rw [hd2, nb_of _ _ (by decide), Nat.add_zero, hd2]
    dsimp only
    rw [if_pos rfl, hd3, h3]
    dsimp only
    rw [ej]
    simp; omega
theorem all2_fmL {ts us : List JT} (h : All2 Bk ts us) : fmL us = fmL ts ∧ sizeL us = sizeL ts ∧ All2 Al ts us := by
  induction h with
  | nil => exact ⟨rfl, rfl, .nil⟩
  | cons hb _ ih => exact ⟨by rw [fmL, fmL, hb.2.1, ih.1], by rw [sizeL, sizeL, hb.2.2, ih.2.1], .cons hb.1 ih.2.2⟩
theorem all2_fmM {ms us : List (List UInt8 × JT)} (h : All2 BkM ms us) : fmM us = fmM ms ∧ sizeM us = sizeM ms ∧ us.map Prod.fst = ms.map Prod.fst := by
  induction h with
  | nil => exact ⟨rfl, rfl, rfl⟩
  | @cons a b _ _ hb _ ih =>
    obtain ⟨n, t⟩ := a
    obtain ⟨n', u⟩ := b
    obtain ⟨rfl, hb⟩ := hb
    exact ⟨by rw [fmM, fmM, ih.1]; simp only [hb.2.1], by rw [sizeM, sizeM, ih.2.1]; simp only [hb.2.2], by simp [ih.2.2]⟩
theorem joinC_ge : ∀ l : List (List UInt8), (∀ a ∈ l, a ≠ []) → l.length ≤ (joinC l).length
  | [], _ => by simp [joinC]
  | [a], h => by
    have := List.length_pos_iff.2 (h a (by simp))
    simp [joinC]; omega
  | a :: b :: r, h => by
    have := joinC_ge (b :: r) (fun x hx => h x (List.mem_cons_of_mem _ hx))
    simp [joinC] at this ⊢; omega
theorem back : ∀ (k : Nat) (t : JT), t.size ≤ k → okN t → okI t → ∀ d, dpT t d → Rd (valL d) t := by
  intro k
  induction k with
  | zero => intro t h; have := size_pos t; omega
  | succ k ih =>
    intro t hs hn hi d hd
    suffices h : ∀ i, ∃ u, valL d (fmT t) i = .ok (u, (fmT t).length) ∧ Bk t u by
      intro x hx i
      obtain ⟨u, h1, h2⟩ := h i
      exact ⟨u, (valL_ext x hx d _ _ _ _ h1).2, h2⟩
    intro i
    cases t with
    | null a =>
      refine ⟨.null i, ?_, by rw [Al]; exact ⟨i, rfl⟩, rfl, rfl⟩
      rw [fmT, valL_cons, if_neg (by decide), if_neg (by decide), if_pos (by decide)]
      rfl
    | truth b a =>
      refine ⟨.truth b i, ?_, by rw [Al]; exact ⟨i, rfl⟩, rfl, rfl⟩
      cases b
      · rw [show fmT (.truth false a) = [102, 97, 108, 115, 101] from rfl, valL_cons, if_neg (by decide), if_neg (by decide), if_pos (by decide)]
        rfl
      · rw [show fmT (.truth true a) = [116, 114, 117, 101] from rfl, valL_cons, if_neg (by decide), if_neg (by decide), if_pos (by decide)]
        rfl
    | int n a =>
      refine ⟨.int n i, ?_, by rw [Al]; exact ⟨i, rfl⟩, rfl, rfl⟩
      rw [okI] at hi
      have hq := intL_dec n
      rw [if_neg (by omega)] at hq
      have hc : ∃ c r, decI n = c :: r ∧ (c = 45 ∨ isD c = true) ∧ c ≠ 34 := by
        obtain ⟨x, _, ⟨_, e, _⟩ | ⟨_, e⟩⟩ := decI_abs n
        · exact ⟨45, _, e, .inl rfl, by decide⟩
        · obtain ⟨c, r, hc, hd, _⟩ := decN_head x
          exact ⟨c, r, by rw [e, hc], .inr hd, by rintro rfl; simp [isD] at hd⟩
      obtain ⟨c, r, e, h1, h2⟩ := hc
      rw [fmT, e, valL_cons, if_neg h2, if_pos h1, ← e, hq]
    | str s a =>
      refine ⟨.str s i, ?_, by rw [Al]; exact ⟨i, rfl⟩, rfl, rfl⟩
      rw [okI] at hi
      have hq := quotL_strT hi
      obtain ⟨r, e⟩ : ∃ r, strT s = 34 :: r := ⟨_, rfl⟩
      rw [fmT, e, valL_cons, if_pos rfl, ← e, hq]
    | arr ts a =>
      rw [okN] at hn
      rw [okI] at hi
      rw [dpT] at hd
      obtain ⟨d, rfl⟩ : ∃ e, d = e + 1 := ⟨d - 1, by omega⟩
      rw [Nat.add_sub_cancel] at hd
      rw [JT.size] at hs
      have hv : ∀ t ∈ ts, Rd (valL d) t := fun t ht => ih t (by have := sizeL_mem ts t ht; omega) (okNL_mem ts hn t ht) (okIL_mem ts hi t ht) d (dpL_mem d ts hd.2 t ht)
      have e : fmT (.arr ts a) = 91 :: (joinC (fmL ts) ++ [93]) := rfl
      rw [e, valL_cons, if_neg (by decide), if_neg (by decide), if_neg (by decide), if_pos (by decide)]
      dsimp only
      rw [if_pos rfl]
      by_cases h0 : ts = []
      · subst h0
        exact ⟨.arr [] i, rfl, by rw [Al]; exact ⟨[], i, rfl, by rw [AlL]⟩, rfl, rfl⟩
      · obtain ⟨t0, r0, ht0⟩ : ∃ t0 r0, ts = t0 :: r0 := by
          cases ts with
          | nil => exact absurd rfl h0
          | cons a b => exact ⟨a, b, rfl⟩
        obtain ⟨c, r, hc1, hc2, hc3⟩ := fmT_head t0
        have hj : ∃ q, joinC (fmL ts) ++ [93] = c :: q := by
          rw [ht0]
          cases r0 with
          | nil => simp [fmL, joinC, hc1]
          | cons a b => simp [fmL, joinC, hc1]
        obtain ⟨q, hj⟩ := hj
        obtain ⟨us, h1, h2⟩ := arrF_back (valL d) ts h0 hv ((91 :: (joinC (fmL ts) ++ [93]) : List UInt8).length + 1) (by
          have := joinC_ge (fmL ts) (fun a ha => by
            rw [fmL_map] at ha
            obtain ⟨t, _, rfl⟩ := List.mem_map.1 ha
            obtain ⟨c, r, e, _⟩ := fmT_head t
            rw [e]; simp)
          rw [fmL_map, List.length_map] at this
          rw [fmL_map]
          simp only [List.length_cons, List.length_append, List.length_nil]; omega) (i + 1) []
        obtain ⟨g1, g2, g3⟩ := all2_fmL h2
        refine ⟨.arr us i, ?_, by rw [Al]; exact ⟨us, i, rfl, AlL_of g3⟩, by rw [e]; show 91 :: (joinC (fmL us) ++ [93]) = _; rw [g1], by rw [JT.size, JT.size, g2]⟩
        unfold arrL
        dsimp only
        rw [List.drop_succ_cons, List.drop_zero, hj, nb_of _ _ hc2, Nat.add_zero, List.drop_succ_cons, List.drop_zero, List.head?_cons, if_neg (by simp [hc3]), ← hj, h1]
        simp
        omega
    | obj ms a =>
      rw [okN] at hn
      rw [okI] at hi
      rw [dpT] at hd
      obtain ⟨d, rfl⟩ : ∃ e, d = e + 1 := ⟨d - 1, by omega⟩
      rw [Nat.add_sub_cancel] at hd
      rw [JT.size] at hs
      have hp := srtM_perm ms
      have hv : ∀ p ∈ srtM ms, U8 p.1 ∧ Rd (valL d) p.2 := fun p hm => by
        have hm := hp.mem_iff.1 hm
        exact ⟨(okNM_mem ms hn.1 p hm).1, ih p.2 (by have := sizeM_mem ms p hm; omega) (okNM_mem ms hn.1 p hm).2 (okIM_mem ms hi p hm) d (dpM_mem d ms hd.2 p hm)⟩
      have hpw : ((srtM ms).map Prod.fst).Pairwise (fun a b => a ≠ b) := List.Pairwise.perm hn.2 (hp.map Prod.fst).symm (fun {a b} h => h.symm)
      have e : fmT (.obj ms a) = 123 :: (joinC ((fmM (srtM ms)).map memP) ++ [125]) := by rw [← srtM_fm]; rfl
      rw [e, valL_cons, if_neg (by decide), if_neg (by decide), if_neg (by decide), if_pos (by decide)]
      dsimp only
      rw [if_neg (by decide)]
      have hl0 : (srtM ms).length = ms.length := hp.length_eq
      by_cases h0 : ms = []
      · subst h0
        exact ⟨.obj [] i, rfl, by rw [Al]; exact ⟨[], i, rfl, rfl, .nil, by rw [AlM]; trivial⟩, rfl, rfl⟩
      · have h0' : srtM ms ≠ [] := fun e => by rw [e] at hl0; exact h0 (List.eq_nil_of_length_eq_zero hl0.symm)
        obtain ⟨p0, r0, ht0⟩ : ∃ t0 r0, srtM ms = t0 :: r0 := by
          cases h : srtM ms with
          | nil => exact absurd h h0'
          | cons a b => exact ⟨a, b, rfl⟩
        have hj : ∃ q, joinC ((fmM (srtM ms)).map memP) ++ [125] = 34 :: q := by
          rw [ht0]
          obtain ⟨n0, t0⟩ := p0
          cases r0 with
          | nil => exact ⟨_, rfl⟩
          | cons a b => exact ⟨_, rfl⟩
        obtain ⟨q, hj⟩ := hj
        obtain ⟨us, h1, h2⟩ := objF_back (valL d) (srtM ms) h0' hv hpw [] (fun p _ h => by simp at h) ((123 :: (joinC ((fmM (srtM ms)).map memP) ++ [125]) : List UInt8).length + 1) (by
          have := joinC_ge ((fmM (srtM ms)).map memP) (fun a ha => by
            obtain ⟨t, _, rfl⟩ := List.mem_map.1 ha
            simp [memP])
          rw [fmM_map, List.length_map, List.length_map] at this
          rw [fmM_map]
          simp only [List.length_cons, List.length_append, List.length_nil]; omega) (i + 1) []
        obtain ⟨g1, g2, g3⟩ := all2_fmM h2
        have hso : (fmM us).Pairwise (fun a b => aheadL a.1 b.1 = true) := by
          rw [g1, fmM_map, List.pairwise_map]
          exact srtM_sorted ms hn.1 hn.2
        refine ⟨.obj us i, ?_, by
          rw [Al]
          refine ⟨us, i, rfl, by rw [h2.length, hl0], by rw [g3]; exact hpw, AlM_of ms us (fun p hm => ?_)⟩
          obtain ⟨b, hb, e1, e2⟩ := h2.mem p (hp.mem_iff.2 hm)
          exact ⟨b.2, by rw [e1]; exact hb, e2.1⟩, by rw [e]; show 123 :: (joinC ((srtP (fmM us)).map memP) ++ [125]) = _; rw [srtP_same _ hso, g1], by rw [JT.size, JT.size, g2, srtM_size]⟩
        unfold objL
        dsimp only
        rw [List.drop_succ_cons, List.drop_zero, hj, nb_of _ _ (by decide), Nat.add_zero, List.drop_succ_cons, List.drop_zero, List.head?_cons, if_neg (by decide), ← hj, h1]
        simp
        omega
/-- The one form of what is read is read as the same, and is its own form. -/
theorem readL_again {s : List UInt8} {t : JT} (h : readL s = .ok t) : (fmT t).length ≤ s.length ∧ ∃ u, readL (fmT t) = .ok u ∧ Al t u ∧ fmT u = fmT t ∧ u.size = t.size := by
  obtain ⟨h1, h2, h3, h4⟩ := readL_fit h
  have hn := readL_okn h
  obtain ⟨u, hv, hb⟩ := back t.size t (Nat.le_refl _) hn h2 32 h3 [] (fun c r e => by cases e) 0
  rw [List.append_nil] at hv
  refine ⟨h1, u, ?_, hb⟩
  have h0 := fmT_nb t []
  rw [List.append_nil] at h0
  unfold readL
  rw [if_neg (by omega)]
  dsimp only
  rw [h0, List.drop_zero, hv]
  dsimp only
  rw [Nat.zero_add, List.drop_of_length_le (Nat.le_refl _)]
  rw [if_neg (by simp [nb])]
end Go.Proofs.YtdmpiampghddkabGreatDoor
/-
  Of a flat tree every node but the first is the kid of just one; trees with the same in them, kid by kid.
-/
namespace Go.Proofs.YtdmpiampghddkabGreatDoor
set_option linter.unusedVariables false

/-- The kids of all nodes, one behind the other. -/
def allK (ns : List Nd) : List Nat := ns.flatMap Nd.kids
theorem allK_app (a b : List Nd) : allK (a ++ b) = allK a ++ allK b := by simp [allK]
theorem allK_cons (a : Nd) (b : List Nd) : allK (a :: b) = a.kids ++ allK b := by simp [allK]
mutual
theorem flat_cnt (c b : Nat) (key : List UInt8) (t : JT) : (allK (flat b key t)).count c = if b < c ∧ c < b + t.size then 1 else 0 := by
  cases t with
  | null => rw [flat, allK_cons, JT.size, show (if b < c ∧ c < b + 1 then 1 else 0) = 0 from if_neg (by omega)]; simp [allK]
  | truth => rw [flat, allK_cons, JT.size, show (if b < c ∧ c < b + 1 then 1 else 0) = 0 from if_neg (by omega)]; simp [allK]
  | int => rw [flat, allK_cons, JT.size, show (if b < c ∧ c < b + 1 then 1 else 0) = 0 from if_neg (by omega)]; simp [allK]
  | str => rw [flat, allK_cons, JT.size, show (if b < c ∧ c < b + 1 then 1 else 0) = 0 from if_neg (by omega)]; simp [allK]
  | arr ts i =>
    rw [flat, allK_cons, List.count_append, flatL_cnt c (b + 1) ts, JT.size]
    have e : (b + 1 ≤ c ∧ c < b + 1 + sizeL ts) ↔ (b < c ∧ c < b + (1 + sizeL ts)) := by omega
    simp only [e]
  | obj ms i =>
    rw [flat, allK_cons, List.count_append, flatM_cnt c (b + 1) ms, JT.size]
    have e : (b + 1 ≤ c ∧ c < b + 1 + sizeM ms) ↔ (b < c ∧ c < b + (1 + sizeM ms)) := by omega
    simp only [e]
theorem flatL_cnt (c b : Nat) (ts : List JT) : (startsL b ts).count c + (allK (flatL b ts)).count c = if b ≤ c ∧ c < b + sizeL ts then 1 else 0 := by
  cases ts with
  | nil => rw [sizeL, if_neg (by omega)]; simp [startsL, flatL, allK]
  | cons t r =>
    have h1 := flat_cnt c b [] t
    have h2 := flatL_cnt c (b + t.size) r
    have hp := size_pos t
    rw [flatL, allK_app, List.count_append, startsL, List.count_cons, sizeL, h1]
    by_cases h0 : c = b
    · subst h0
      rw [if_neg (by omega)] at h2
      have hcc : (if (c == c) = true then 1 else 0) = 1 := by simp
      rw [hcc, if_neg (by omega), if_pos (by omega)]
      omega
    · rw [if_neg (show ¬ (b == c) = true by simp; omega)]
      by_cases h3 : c < b + t.size
      · rw [if_neg (by omega)] at h2
        by_cases h4 : b < c
        · rw [if_pos (by omega), if_pos (by omega)]; omega
        · rw [if_neg (by omega), if_neg (by omega)]; omega
      · rw [if_neg (by omega)]
        by_cases h4 : c < b + t.size + sizeL r
        · rw [if_pos (by omega)] at h2; rw [if_pos (by omega)]; omega
        · rw [if_neg (by omega)] at h2; rw [if_neg (by omega)]; omega
theorem flatM_cnt (c b : Nat) (ms : List (List UInt8 × JT)) : (startsM b ms).count c + (allK (flatM b ms)).count c = if b ≤ c ∧ c < b + sizeM ms then 1 else 0 := by
  cases ms with
  | nil => rw [sizeM, if_neg (by omega)]; simp [startsM, flatM, allK]
  | cons p r =>
    obtain ⟨n, t⟩ := p
    have h1 := flat_cnt c b n t
    have h2 := flatM_cnt c (b + t.size) r
    have hp := size_pos t
    rw [flatM, allK_app, List.count_append, startsM, List.count_cons, sizeM, h1]
    by_cases h0 : c = b
    · subst h0
      rw [if_neg (by omega)] at h2
      have hcc : (if (c == c) = true then 1 else 0) = 1 := by simp
      rw [hcc, if_neg (by omega), if_pos (by omega)]
      omega
    · rw [if_neg (show ¬ (b == c) = true by simp; omega)]
      by_cases h3 : c < b + t.size
      · rw [if_neg (by omega)] at h2
        by_cases h4 : b < c
        · rw [if_pos (by omega), if_pos (by omega)]; omega
        · rw [if_neg (by omega), if_neg (by omega)]; omega
      · rw [if_neg (by omega)]
        by_cases h4 : c < b + t.size + sizeM r
        · rw [if_pos (by omega)] at h2; rw [if_pos (by omega)]; omega
        · rw [if_neg (by omega)] at h2; rw [if_neg (by omega)]; omega
end
/-- How often each number stands among some. -/
def upR (P : List Nat) (n : Nat) : List Value := (List.range n).map fun c => Value.int .i64 (P.count c : Int)
theorem upR_len (P : List Nat) (n : Nat) : (upR P n).length = n := by simp [upR]
theorem upR_get (P : List Nat) (n c : Nat) (h : c < n) : (upR P n).toArray[c]? = some (.int .i64 (P.count c : Int)) := by
  simp [upR, List.getElem?_range h]
theorem upR_nil (n : Nat) : upR [] n = List.replicate n (.int .i64 0) := by
  apply List.ext_getElem?
  intro i
  by_cases h : i < n
  · simp [upR, h]
  · rw [List.getElem?_eq_none (by rw [upR_len]; omega), List.getElem?_eq_none (by simp; omega)]
theorem upR_set (P : List Nat) (n c : Nat) (h : c < n) : (upR P n).toArray.setIfInBounds c (.int .i64 ((P.count c : Int) + 1)) = (upR (P ++ [c]) n).toArray := by
  apply Array.ext'
  rw [Array.toList_setIfInBounds]
  apply List.ext_getElem?
  intro i
  rw [List.getElem?_set]
  by_cases hi : i < n
  · by_cases hc : c = i
    · subst hc
      rw [if_pos rfl, if_pos (by simp [upR_len, h])]
      simp [upR, List.getElem?_range h]
    · rw [if_neg hc]
      simp [upR, List.getElem?_range hi, List.count_append, List.count_singleton, hc]
  · have e1 : (upR P n).toArray.toList[i]? = none := List.getElem?_eq_none (by simp [upR_len]; omega)
    have e2 : (upR (P ++ [c]) n).toArray.toList[i]? = none := List.getElem?_eq_none (by simp [upR_len]; omega)
    rw [e2]
    split
    · rw [if_neg (by simp [upR_len]; omega)]
    · exact e1
theorem take_kids (ns : List Nd) (i : Nat) (n : Nd) (h : ns[i]? = some n) : allK (ns.take (i + 1)) = allK (ns.take i) ++ n.kids := by
  rw [List.take_add_one, h, allK_app]; simp [allK]
theorem pre_le (ns : List Nd) (i k : Nat) (n : Nd) (h : ns[i]? = some n) (c : Nat) : (allK (ns.take i) ++ n.kids.take k).count c ≤ (allK ns).count c := by
  have e : allK ns = allK (ns.take i) ++ (n.kids ++ allK (ns.drop (i + 1))) := by
    have hl : i < ns.length := (List.getElem?_eq_some_iff.1 h).1
    have hd : ns.drop i = n :: ns.drop (i + 1) := by rw [List.drop_eq_getElem_cons hl, (List.getElem?_eq_some_iff.1 h).2]
    conv => lhs; rw [← List.take_append_drop i ns, hd, allK_app, allK_cons]
  have h2 := (List.take_sublist k n.kids).count_le c
  rw [e, List.count_append, List.count_append, List.count_append]; omega

theorem startsL_len : ∀ (ts : List JT) (b : Nat), (startsL b ts).length = ts.length
  | [], b => rfl
  | t :: r, b => by simp [startsL, startsL_len r]
theorem startsM_len : ∀ (ms : List (List UInt8 × JT)) (b : Nat), (startsM b ms).length = ms.length
  | [], b => rfl
  | (n, t) :: r, b => by simp [startsM, startsM_len r]
theorem subL_get (L : List Nd) : ∀ (ts : List JT) (b : Nat), SubL L b ts → ∀ (j p : Nat), (startsL b ts)[j]? = some p → ∃ t, ts[j]? = some t ∧ Sub L p [] t
  | [], b, _, j, p, h => by simp [startsL] at h
  | t :: r, b, hs, 0, p, h => by
    simp [startsL] at h
    subst h
    exact ⟨t, rfl, hs.head⟩
  | t :: r, b, hs, j + 1, p, h => by
    simp only [startsL, List.getElem?_cons_succ] at h ⊢
    exact subL_get L r _ hs.tail j p h
theorem subM_get (L : List Nd) : ∀ (ms : List (List UInt8 × JT)) (b : Nat), SubM L b ms → ∀ (j p : Nat), (startsM b ms)[j]? = some p → ∃ n t, ms[j]? = some (n, t) ∧ Sub L p n t
  | [], b, _, j, p, h => by simp [startsM] at h
  | (n, t) :: r, b, hs, 0, p, h => by
    simp [startsM] at h
    subst h
    exact ⟨n, t, rfl, hs.head⟩
  | (n, t) :: r, b, hs, j + 1, p, h => by
    simp only [startsM, List.getElem?_cons_succ] at h ⊢
    exact subM_get L r _ hs.tail j p h
theorem AlL_get : ∀ (ts us : List JT), AlL ts us → us.length = ts.length ∧ ∀ (j : Nat) (t u : JT), ts[j]? = some t → us[j]? = some u → Al t u
  | [], us, h => by
    rw [AlL] at h; subst h
    exact ⟨rfl, fun j t u h => by simp at h⟩
  | t :: r, us, h => by
    rw [AlL] at h
    obtain ⟨u, v, rfl, h1, h2⟩ := h
    obtain ⟨g1, g2⟩ := AlL_get r v h2
    refine ⟨by simp [g1], fun j => ?_⟩
    cases j with
    | zero => intro t' u' e1 e2; simp at e1 e2; subst e1; subst e2; exact h1
    | succ j => intro t' u' e1 e2; simp only [List.getElem?_cons_succ] at e1 e2; exact g2 j t' u' e1 e2
theorem AlM_get : ∀ (ms us : List (List UInt8 × JT)), AlM ms us → ∀ (j : Nat) (n : List UInt8) (t : JT), ms[j]? = some (n, t) → ∃ (y : Nat) (u : JT), us[y]? = some (n, u) ∧ Al t u
  | [], us, _, j, n, t, h => by simp at h
  | (m, s) :: r, us, ha, j, n, t, h => by
    rw [AlM] at ha
    cases j with
    | zero =>
      simp at h
      obtain ⟨rfl, rfl⟩ := h
      obtain ⟨u, hm, hu⟩ := ha.1
      obtain ⟨y, hy⟩ := List.getElem?_of_mem hm
      exact ⟨y, u, hy, hu⟩
    | succ j =>
      simp only [List.getElem?_cons_succ] at h
      exact AlM_get r us ha.2 j n t h
/-- Two nodes that are alike: what they say, and how their kids go together (R: what is asked of two kids). -/
structure Pair (L M : List Nd) (R : Nat → Nat → Prop) (a b : Nd) : Prop where
  kind : b.kind = a.kind
  key : b.key = a.key
  text : b.text = a.text
  num : b.num = a.num
  len : b.kids.length = a.kids.length
  kid : ∀ (j p : Nat), a.kids[j]? = some p → ∃ y q, b.kids[y]? = some q ∧ R p q ∧ (a.kind ≠ 5 → y = j) ∧ (a.kind = 5 → keyL M q = keyL L p ∧ ∀ y' q', y' < y → b.kids[y']? = some q' → keyL M q' ≠ keyL L p)
theorem alk_pair (L M : List Nd) (R : Nat → Nat → Prop) (t u : JT) (i k : Nat) (key : List UInt8) (hL : Sub L i key t) (hM : Sub M k key u) (ha : Al t u)
    (hR : ∀ (p q : Nat) (key' : List UInt8) (t' u' : JT), Sub L p key' t' → Sub M q key' u' → Al t' u' → t'.size < t.size → R p q) : ∃ a b, L[i]? = some a ∧ M[k]? = some b ∧ Pair L M R a b := by
  have f1 := hL.first
  have f2 := hM.first
  cases t with
  | null x =>
    rw [Al] at ha; obtain ⟨y, rfl⟩ := ha
    simp only [flat, List.getElem?_cons_zero] at f1 f2
    exact ⟨_, _, f1, f2, rfl, rfl, rfl, rfl, rfl, fun j p h => by simp at h⟩
  | truth c x =>
    rw [Al] at ha; obtain ⟨y, rfl⟩ := ha
    simp only [flat, List.getElem?_cons_zero] at f1 f2
    exact ⟨_, _, f1, f2, rfl, rfl, rfl, rfl, rfl, fun j p h => by simp at h⟩
  | int c x =>
    rw [Al] at ha; obtain ⟨y, rfl⟩ := ha
    simp only [flat, List.getElem?_cons_zero] at f1 f2
    exact ⟨_, _, f1, f2, rfl, rfl, rfl, rfl, rfl, fun j p h => by simp at h⟩
  | str c x =>
    rw [Al] at ha; obtain ⟨y, rfl⟩ := ha
    simp only [flat, List.getElem?_cons_zero] at f1 f2
    exact ⟨_, _, f1, f2, rfl, rfl, rfl, rfl, rfl, fun j p h => by simp at h⟩
  | arr ts x =>
    rw [Al] at ha; obtain ⟨us, y, rfl, ha⟩ := ha
    simp only [flat, List.getElem?_cons_zero] at f1 f2
    obtain ⟨g1, g2⟩ := AlL_get ts us ha
    refine ⟨_, _, f1, f2, rfl, rfl, rfl, rfl, by simp only [startsL_len, g1], fun j p h => ?_⟩
    simp only at h ⊢
    obtain ⟨t', e1, s1⟩ := subL_get L ts _ hL.arr j p h
    have hj : j < (startsL (k + 1) us).length := by
      rw [startsL_len, g1]; exact (List.getElem?_eq_some_iff.1 e1).1
    obtain ⟨u', e2, s2⟩ := subL_get M us _ hM.arr j _ (List.getElem?_eq_getElem hj)
    refine ⟨j, _, List.getElem?_eq_getElem hj, hR _ _ _ t' u' s1 s2 (g2 j t' u' e1 e2) ?_, fun _ => rfl, fun h5 => by simp at h5⟩
    have := sizeL_mem ts t' (List.mem_of_getElem? e1)
    rw [JT.size]; omega
  | obj ms x =>
    rw [Al] at ha; obtain ⟨us, y, rfl, g1, g3, ha⟩ := ha
    simp only [flat, List.getElem?_cons_zero] at f1 f2
    refine ⟨_, _, f1, f2, rfl, rfl, rfl, rfl, by simp only [startsM_len, g1], fun j p h => ?_⟩
    simp only at h ⊢
    obtain ⟨n, t', e1, s1⟩ := subM_get L ms _ hL.obj j p h
    obtain ⟨z, u', e2, a2⟩ := AlM_get ms us ha j n t' e1
    have hz : z < (startsM (k + 1) us).length := by
      rw [startsM_len]; exact (List.getElem?_eq_some_iff.1 e2).1
    obtain ⟨n2, u2, e3, s2⟩ := subM_get M us _ hM.obj z _ (List.getElem?_eq_getElem hz)
    rw [e2] at e3
    injection e3 with e3; injection e3 with e4 e5
    subst e4; subst e5
    refine ⟨z, _, List.getElem?_eq_getElem hz, hR _ _ _ t' u' s1 s2 a2 ?_, fun h5 => by simp at h5, fun _ => ⟨by rw [s1.key, s2.key], fun y' q' hy' hq' e => ?_⟩⟩
    · have := sizeM_mem ms (n, t') (List.mem_of_getElem? e1)
      rw [JT.size]; simp only at this; omega
    · obtain ⟨n3, u3, e6, s3⟩ := subM_get M us _ hM.obj y' q' hq'
      rw [s3.key, s1.key] at e
      subst e
      have hpw := List.pairwise_iff_getElem.1 g3 y' z (by rw [List.length_map]; exact (List.getElem?_eq_some_iff.1 e6).1) (by rw [List.length_map]; exact (List.getElem?_eq_some_iff.1 e2).1) hy'
      apply hpw
      rw [List.getElem_map, List.getElem_map, (List.getElem?_eq_some_iff.1 e6).2, (List.getElem?_eq_some_iff.1 e2).2]
end Go.Proofs.YtdmpiampghddkabGreatDoor
