import Derived.Test.YtaghclgookfmnaaDoorJMem
/-
  An object's nodes; what is read of it.
-/
namespace Go.Proofs.YtaghclgookfmnaaDoor
open Go.RowKit
set_option linter.unusedVariables false

theorem sizeM_append (ms : List (List UInt8 × JT)) (k : List UInt8) (t : JT) : sizeM (ms ++ [(k, t)]) = sizeM ms + t.size := by
  induction ms with
  | nil => simp [sizeM]
  | cons a r ih => obtain ⟨x, y⟩ := a; simp only [List.cons_append, sizeM, ih]; omega
theorem startsM_append (b : Nat) (ms : List (List UInt8 × JT)) (k : List UInt8) (t : JT) : startsM b (ms ++ [(k, t)]) = startsM b ms ++ [b + sizeM ms] := by
  induction ms generalizing b with
  | nil => simp [startsM, sizeM]
  | cons a r ih => obtain ⟨x, y⟩ := a; simp only [List.cons_append, startsM, ih, sizeM, Nat.add_assoc]
theorem flatM_append (b : Nat) (ms : List (List UInt8 × JT)) (k : List UInt8) (t : JT) : flatM b (ms ++ [(k, t)]) = flatM b ms ++ flat (b + sizeM ms) k t := by
  induction ms generalizing b with
  | nil => simp [flatM, sizeM]
  | cons a r ih => obtain ⟨x, y⟩ := a; simp only [List.cons_append, flatM, ih, sizeM, List.append_assoc, Nat.add_assoc]
theorem flat_head (b : Nat) (key : List UInt8) (t : JT) : ∃ n r, flat b key t = n :: r ∧ n.key = key := by
  cases t with
  | null i => exact ⟨_, _, by rw [flat], rfl⟩
  | truth x i => exact ⟨_, _, by rw [flat], rfl⟩
  | int m i => exact ⟨_, _, by rw [flat], rfl⟩
  | str t i => exact ⟨_, _, by rw [flat], rfl⟩
  | arr ts i => exact ⟨_, _, by rw [flat], rfl⟩
  | obj ms i => exact ⟨_, _, by rw [flat], rfl⟩
theorem startsM_lt (b : Nat) (ms : List (List UInt8 × JT)) : ∀ k ∈ startsM b ms, k < b + sizeM ms := by
  induction ms generalizing b with
  | nil => intro k hk; simp [startsM] at hk
  | cons a r ih =>
    obtain ⟨x, t⟩ := a
    intro k hk
    have hp := size_pos t
    rw [startsM, List.mem_cons] at hk
    simp only [sizeM]
    rcases hk with rfl | hk
    · omega
    · have := ih _ k hk; omega
theorem startsM_ge (b : Nat) (ms : List (List UInt8 × JT)) : ∀ k ∈ startsM b ms, b ≤ k := by
  induction ms generalizing b with
  | nil => intro k hk; simp [startsM] at hk
  | cons a r ih =>
    obtain ⟨x, t⟩ := a
    intro k hk
    rw [startsM, List.mem_cons] at hk
    rcases hk with rfl | hk
    · omega
    · have := ih _ k hk; omega
theorem startsM_key (ms : List (List UInt8 × JT)) (name : List UInt8) : ∀ (b : Nat) (pre : List Nd), pre.length = b →
    ((∃ (k : Nat) (n2 : Nd), k ∈ startsM b ms ∧ (pre ++ flatM b ms)[k]? = some n2 ∧ n2.key = name) ↔ name ∈ ms.map (·.1)) := by
  induction ms with
  | nil => intro b pre hp; simp [startsM]
  | cons a r ih =>
    obtain ⟨x, t⟩ := a
    intro b pre hp
    have h0 := ih (b + t.size) (pre ++ flat b x t) (by rw [List.length_append, flat_length, hp])
    obtain ⟨n0, r0, hf, hk0⟩ := flat_head b x t
    have hat : (pre ++ flatM b ((x, t) :: r))[b]? = some n0 := by
      rw [flatM, hf, List.getElem?_append_right (by omega), hp, Nat.sub_self]; rfl
    have hap : pre ++ flatM b ((x, t) :: r) = pre ++ flat b x t ++ flatM (b + t.size) r := by rw [flatM, List.append_assoc]
    rw [startsM]
    constructor
    · rintro ⟨k, n2, hk, hn, he⟩
      rw [List.mem_cons] at hk
      rcases hk with rfl | hk
      · rw [hat] at hn
        injection hn with hn
        subst hn
        rw [List.map_cons, List.mem_cons]; left
        rw [← he, hk0]
      · rw [List.map_cons, List.mem_cons]; right
        rw [hap] at hn
        exact h0.1 ⟨k, n2, hk, hn, he⟩
    · intro h
      rw [List.map_cons, List.mem_cons] at h
      rcases h with h | h
      · exact ⟨b, n0, by simp, hat, by rw [hk0, h]⟩
      · obtain ⟨k, n2, hk, hn, he⟩ := h0.2 h
        exact ⟨k, n2, by simp [hk], by rw [hap]; exact hn, he⟩

def objN (ns : List Nd) (up : Option Nat) (key : List UInt8) (i : Nat) (ms : List (List UInt8 × JT)) : List Nd :=
  addKid ns up ns.length ++ flat ns.length key (.obj ms i)
theorem objN_length (ns : List Nd) (up : Option Nat) (key : List UInt8) (i : Nat) (ms : List (List UInt8 × JT)) : (objN ns up key i ms).length = ns.length + 1 + sizeM ms := by
  rw [objN, List.length_append, addKid_length, flat_length, JT.size]; omega
theorem objN_add (ns : List Nd) (up : Option Nat) (key : List UInt8) (i : Nat) (ms : List (List UInt8 × JT)) (k : List UInt8) (t : JT) :
    addKid (objN ns up key i ms) (some ns.length) (objN ns up key i ms).length ++ flat (objN ns up key i ms).length k t = objN ns up key i (ms ++ [(k, t)]) := by
  rw [objN_length]
  unfold objN
  rw [flat, flat]
  show (List.modify _ _ _) ++ _ = _
  rw [modify_mid _ _ _ _ _ (addKid_length ns up ns.length), startsM_append, flatM_append]
  simp [Nat.add_assoc]
theorem objN_self (ns : List Nd) (up : Option Nat) (key : List UInt8) (i : Nat) (ms : List (List UInt8 × JT)) : (objN ns up key i ms)[ns.length]? = some ⟨5, key, [], 0, startsM (ns.length + 1) ms, i⟩ := by
  rw [objN, flat, List.getElem?_append_right (by rw [addKid_length]; omega), addKid_length, Nat.sub_self]; rfl
theorem objN_keys (ns : List Nd) (up : Option Nat) (key : List UInt8) (i : Nat) (ms : List (List UInt8 × JT)) (name : List UInt8) :
    (∃ (k : Nat) (n2 : Nd), k ∈ startsM (ns.length + 1) ms ∧ (objN ns up key i ms)[k]? = some n2 ∧ (⟨n2.key.toArray⟩ : ByteArray) = ⟨name.toArray⟩) ↔ name ∈ ms.map (·.1) := by
  have h := startsM_key ms name (ns.length + 1) (addKid ns up ns.length ++ [⟨5, key, [], 0, startsM (ns.length + 1) ms, i⟩]) (by rw [List.length_append, addKid_length]; rfl)
  rw [← h]
  have e : objN ns up key i ms = addKid ns up ns.length ++ [⟨5, key, [], 0, startsM (ns.length + 1) ms, i⟩] ++ flatM (ns.length + 1) ms := by rw [objN, flat]; simp
  rw [e]
  constructor
  · rintro ⟨k, n2, a, b, c⟩
    refine ⟨k, n2, a, b, ?_⟩
    injection c with c
    have := congrArg Array.toList c
    simpa using this
  · rintro ⟨k, n2, a, b, c⟩
    exact ⟨k, n2, a, b, by rw [c]⟩

def finO (ms : List (List UInt8 × JT)) (i p : Nat) : JR (List (List UInt8 × JT)) → JR JT
  | .error e => .error e
  | .ok (ms', k) => .ok (.obj (ms ++ ms') i, p - i + k)
theorem objL_eq (v : List UInt8 → Nat → JR JT) (s : ByteArray) (i p : Nat) (hp : i + 1 + nb (sfx s (i + 1)) = p) :
    objL v (sfx s i) i = if (sfx s p).head? = some 125 then .ok (.obj [] i, p - i + 1) else finO [] i p (objF v ((sfx s i).length + 1) [] (sfx s p) p) := by
  unfold objL
  dsimp only
  rw [sfx_drop, sfx_drop, show i + (1 + nb (sfx s (i + 1))) = p by omega, show 1 + nb (sfx s (i + 1)) = p - i by omega]
  split
  · rfl
  · unfold finO; split <;> simp_all
theorem objF_quot (v : List UInt8 → Nat → JR JT) (s : ByteArray) (p f p2 o : Nat) (ks : List (List UInt8)) (h2 : p + nb (sfx s p) = p2) (h : quotL (sfx s p2) = .error o) : objF v (f + 1) ks (sfx s p) p = .error (2, p2 + o) := by
  rw [objF]; dsimp only; rw [sfx_drop, h2, h]
theorem objF_twice (v : List UInt8 → Nat → JR JT) (s : ByteArray) (p f p2 m : Nat) (ks : List (List UInt8)) (name : List UInt8) (h2 : p + nb (sfx s p) = p2) (h : quotL (sfx s p2) = .ok (name, m)) (hk : name ∈ ks) : objF v (f + 1) ks (sfx s p) p = .error (4, p2) := by
  rw [objF]; dsimp only; rw [sfx_drop, h2, h]; simp [hk]
theorem objF_colon (v : List UInt8 → Nat → JR JT) (s : ByteArray) (p f p2 p3 m : Nat) (ks : List (List UInt8)) (name : List UInt8) (h2 : p + nb (sfx s p) = p2) (h : quotL (sfx s p2) = .ok (name, m)) (hk : name ∉ ks)
    (h3 : p2 + m + nb (sfx s (p2 + m)) = p3) (hc : (sfx s p3).head? ≠ some 58) : objF v (f + 1) ks (sfx s p) p = .error (2, p3) := by
  rw [objF]; dsimp only
  rw [sfx_drop, h2, h]
  dsimp only
  rw [if_neg hk, sfx_drop, sfx_drop, show p + (nb (sfx s p) + m) = p2 + m by omega, show p + (nb (sfx s p) + m + nb (sfx s (p2 + m))) = p3 by omega]
  match hs : sfx s p3 with
  | [] => rfl
  | c :: r =>
    rw [hs] at hc
    have hc : c ≠ 58 := by simpa using hc
    simp [hc]
theorem objF_val (v : List UInt8 → Nat → JR JT) (s : ByteArray) (p f p2 p3 p4 m : Nat) (ks : List (List UInt8)) (name : List UInt8) (h2 : p + nb (sfx s p) = p2) (h : quotL (sfx s p2) = .ok (name, m)) (hk : name ∉ ks)
    (h3 : p2 + m + nb (sfx s (p2 + m)) = p3) (hc : (sfx s p3).head? = some 58) (h4 : p3 + 1 + nb (sfx s (p3 + 1)) = p4) :
    objF v (f + 1) ks (sfx s p) p = match v (sfx s p4) p4 with
      | .error e => .error e
      | .ok (t, n) =>
        match sfx s (p4 + n + nb (sfx s (p4 + n))) with
        | c :: _ =>
          if c = 44 then (match objF v f (ks ++ [name]) (sfx s (p4 + n + nb (sfx s (p4 + n)) + 1)) (p4 + n + nb (sfx s (p4 + n)) + 1) with | .error e => .error e | .ok (ms, k) => .ok ((name, t) :: ms, p4 + n + nb (sfx s (p4 + n)) + 1 - p + k))
          else if c = 125 then .ok ([(name, t)], p4 + n + nb (sfx s (p4 + n)) + 1 - p) else .error (2, p4 + n + nb (sfx s (p4 + n)))
        | [] => .error (2, p4 + n + nb (sfx s (p4 + n))) := by
  rw [objF]; dsimp only
  rw [sfx_drop, h2, h]
  dsimp only
  rw [if_neg hk, sfx_drop, sfx_drop, show p + (nb (sfx s p) + m) = p2 + m by omega, show p + (nb (sfx s p) + m + nb (sfx s (p2 + m))) = p3 by omega]
  match hs : sfx s p3 with
  | [] => rw [hs] at hc; simp at hc
  | c :: r =>
    rw [hs] at hc
    have hc : c = 58 := by simpa using hc
    simp only [hc, if_true]
    simp only [sfx_drop]
    rw [show p + (nb (sfx s p) + m + nb (sfx s (p2 + m)) + 1) = p3 + 1 by omega, show p + (nb (sfx s p) + m + nb (sfx s (p2 + m)) + 1 + nb (sfx s (p3 + 1))) = p4 by omega]
    cases v (sfx s p4) p4 with
    | error e => rfl
    | ok q =>
      obtain ⟨t, n⟩ := q
      dsimp only
      rw [show p + (nb (sfx s p) + m + nb (sfx s (p2 + m)) + 1 + nb (sfx s (p3 + 1)) + n) = p4 + n by omega,
        show p + (nb (sfx s p) + m + nb (sfx s (p2 + m)) + 1 + nb (sfx s (p3 + 1)) + n + nb (sfx s (p4 + n))) = p4 + n + nb (sfx s (p4 + n)) by omega,
        show p + (nb (sfx s p) + m + nb (sfx s (p2 + m)) + 1 + nb (sfx s (p3 + 1)) + n + nb (sfx s (p4 + n)) + 1) = p4 + n + nb (sfx s (p4 + n)) + 1 by omega,
        show nb (sfx s p) + m + nb (sfx s (p2 + m)) + 1 + nb (sfx s (p3 + 1)) + n + nb (sfx s (p4 + n)) + 1 = p4 + n + nb (sfx s (p4 + n)) + 1 - p by omega]
      rfl
theorem finO_more (ms : List (List UInt8 × JT)) (x : List UInt8 × JT) (i p q : Nat) (h : i ≤ p) (hq : p ≤ q) (X : JR (List (List UInt8 × JT))) : finO ms i p (match X with | .error e => .error e | .ok (ms', k) => .ok (x :: ms', q - p + k)) = finO (ms ++ [x]) i q X := by
  cases X with
  | error e => rfl
  | ok y => obtain ⟨a, b⟩ := y; simp [finO]; omega
end Go.Proofs.YtaghclgookfmnaaDoor
