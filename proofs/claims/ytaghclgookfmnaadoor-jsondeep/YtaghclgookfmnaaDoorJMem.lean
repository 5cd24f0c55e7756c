import Derived.Test.YtaghclgookfmnaaDoorJArrW
/-
  The document's reader: Member.
-/
namespace Go.Proofs.YtaghclgookfmnaaDoor
open Go.RowKit
set_option linter.unusedVariables false

theorem rowN_key : ∀ (ns : List Nd) (vs : List Value) (u : Nat) (n : Nd), vs.length = ns.length → ns[u]? = some n → (rowN ns vs)[u * 6 + 1]? = some (.string ⟨n.key.toArray⟩) := by
  intro ns
  induction ns with
  | nil => intro vs u n h hn; simp at hn
  | cons m ns ih =>
    intro vs u n h hn
    match vs, h with
    | v :: vs, h =>
      match u with
      | 0 => simp at hn; subst hn; simp [rowN, ndCells]
      | u + 1 =>
        have e : (u + 1) * 6 + 1 = (ndCells m v).length + (u * 6 + 1) := by simp [ndCells]; omega
        rw [rowN, e, List.getElem?_append_right (Nat.le_add_right _ _), Nat.add_sub_cancel_left]
        exact ih vs u n (by simpa using h) (by simpa using hn)

/-- The cells of a node. -/
theorem Nodes.cells {B g : Nat} {tN : TypeId} {cap : Nat} {L : List Nd} {w : World} (h : Nodes B tN (.slice (some ⟨g, 0, none⟩) L.length cap) L w) :
    (∀ u n, L[u]? = some n → w.cell? ⟨g, u * 6 + 1, none⟩ = some (.string ⟨n.key.toArray⟩)) ∧
    (∀ u n, L[u]? = some n → ∃ adk capk, w.cell? ⟨g, u * 6 + 4, none⟩ = some (.slice adk n.kids.length capk) ∧ (∀ j k, n.kids[j]? = some k → ∃ gk, adk = some ⟨gk, 0, none⟩ ∧ w.cell? ⟨gk, j, none⟩ = some (iV k))) := by
  obtain ⟨kvs, k1, k2, k3, k4⟩ := h
  have hadd : ∀ (g j : Nat), (⟨g, 0, none⟩ : Addr).add j = ⟨g, j, none⟩ := fun g j => by unfold Addr.add; split <;> simp_all
  refine ⟨fun u n hn => ?_, fun u n hn => ?_⟩
  · have := k2.cells (g := g) rfl (u * 6 + 1) _ (rowN_key L kvs u n k1 hn)
    rwa [hadd] at this
  · have hul : u < L.length := (List.getElem?_eq_some_iff.1 hn).1
    obtain ⟨kv, hkv⟩ : ∃ kv, kvs[u]? = some kv := ⟨_, List.getElem?_eq_getElem (by omega)⟩
    have hrow := k3 u n kv hn hkv
    have hc := k2.cells (g := g) rfl (u * 6 + 4) _ (rowN_get L kvs u kv k1 hkv)
    rw [hadd] at hc
    rcases hrow.2 with ⟨a, b⟩ | ⟨gk, c, cu, a, _⟩
    · refine ⟨none, 0, by rw [hc, a, b], fun j k hj => ?_⟩
      have := (List.getElem?_eq_some_iff.1 hj).1; omega
    · refine ⟨some ⟨gk, 0, none⟩, c, by rw [hc, a], fun j k hj => ⟨gk, rfl, ?_⟩⟩
      have := hrow.cells (g := gk) (by rw [a]; rfl) j (iV k) (by rw [List.getElem?_map, hj]; rfl)
      rwa [hadd] at this

set_option maxRecDepth 4000 in
set_option maxHeartbeats 400000 in
theorem rmember (B : Nat) (v : Value) (L : List Nd) (w : World) (hN : Nodes B 49 v L w) (o : Nat) (n : Nd) (hn : L[o]? = some n) (hks : ∀ k ∈ n.kids, k < L.length) (hb : L.length ≤ 1000000) (hkb : n.kids.length ≤ 1000000) (name : ByteArray) :
    Calls Tryd.prog 37 #[v, .int .i64 (o : Int), .string name] w fun r w' => (∃ z : Int, r = .returned (.int .i64 z) ∧ (0 ≤ z ↔ ∃ (k : Nat) (n2 : Nd), k ∈ n.kids ∧ L[k]? = some n2 ∧ (⟨n2.key.toArray⟩ : ByteArray) = name)) ∧ w' = w := by
  have hol : o < L.length := (List.getElem?_eq_some_iff.1 hn).1
  obtain ⟨g, cap, rfl⟩ : ∃ g cap, v = .slice (some ⟨g, 0, none⟩) L.length cap := by
    obtain ⟨kvs, k1, k2, k3, k4⟩ := hN
    rcases k2.2 with ⟨_, h⟩ | ⟨g, c, cu, a, _⟩
    · omega
    · exact ⟨g, c, a⟩
  obtain ⟨q1, q2⟩ := hN.cells
  obtain ⟨adk, capk, hck, hkid⟩ := q2 o n hn
  have ho' : (o : Int) < (L.length : Int) := by omega
  have HK : Hid (∀ j k, n.kids[j]? = some k → ∃ gk, adk = some ⟨gk, 0, none⟩ ∧ w.cell? ⟨gk, j, none⟩ = some (iV k)) := hkid
  have HQ1 : Hid (∀ u n, L[u]? = some n → w.cell? ⟨g, u * 6 + 1, none⟩ = some (.string ⟨n.key.toArray⟩)) := q1
  have HKS : Hid (∀ k ∈ n.kids, k < L.length) := hks
  clear q1 q2 hkid hN hn hks
  go_enter Tryd.func37, Tryd.ntmps37
  go_wp2_with fail
  go_loopw [7] (fun i wr => ∃ j : Nat, j ≤ n.kids.length ∧ i = .int .i64 (j : Int) ∧ wr = w ∧ ∀ (j' k : Nat) (n2 : Nd), j' < j → n.kids[j']? = some k → L[k]? = some n2 → (⟨n2.key.toArray⟩ : ByteArray) ≠ name) (fun i _ => n.kids.length - (intOf i).toNat)
  case atStart => exact ⟨0, by omega, rfl, rfl, fun j' k n2 h => by omega⟩
  case round =>
    obtain ⟨j, hj, rfl, hwr, hno⟩ := hrel
    rw [hwr]; clear hwr wr
    have HNO : Hid (∀ (j' k : Nat) (n2 : Nd), j' < j → n.kids[j']? = some k → L[k]? = some n2 → (⟨n2.key.toArray⟩ : ByteArray) ≠ name) := hno
    clear hno
    by_cases hlt : j < n.kids.length
    · have hlt' : (j : Int) < (n.kids.length : Int) := by omega
      obtain ⟨k, hk⟩ : ∃ k, n.kids[j]? = some k := ⟨_, List.getElem?_eq_getElem hlt⟩
      obtain ⟨gk, hgk, hcj⟩ := HK.out j k hk
      have hkm : k ∈ n.kids := List.mem_of_getElem? hk
      have hkl := HKS.out k hkm
      obtain ⟨n2, hn2⟩ : ∃ n2, L[k]? = some n2 := ⟨_, List.getElem?_eq_getElem hkl⟩
      have hck2 := HQ1.out k n2 hn2
      have hkl' : (k : Int) < (L.length : Int) := by omega
      unfold iV at hcj
      subst hgk
      have HF : Hid (n.kids[j]? = some k ∧ k ∈ n.kids ∧ L[k]? = some n2) := ⟨hk, hkm, hn2⟩
      clear hk hkm hn2 hkl
      by_cases he : (⟨n2.key.toArray⟩ : ByteArray) = name
      · have HE : Hid _ := he
        rw [he] at hck2
        clear he
        go_wp2
        go_ret
        exact ⟨⟨_, rfl, ⟨fun _ => ⟨k, n2, HF.out.2.1, HF.out.2.2, HE.out⟩, fun _ => by omega⟩⟩, rfl⟩
      · have HE : Hid (¬ (⟨n2.key.toArray⟩ : ByteArray) = name) := he
        generalize hq : (⟨n2.key.toArray⟩ : ByteArray) = q at hck2 he HE
        have HQ : Hid ((⟨n2.key.toArray⟩ : ByteArray) = q) := hq
        have hl : (q.toList == name.toList) = false := by
          rw [beq_eq_false_iff_ne, ByteArray.toList_eq, ByteArray.toList_eq]
          intro h; exact he (Go.WideShapes.bytes_inj h)
        clear he hq
        go_wp2
        refine ⟨⟨j + 1, by omega, by go_num, trivial, ?_⟩, by simp [intOf]; omega⟩
        intro j' k' n3 hj' hk' hn3
        by_cases e : j' = j
        · subst e
          rw [HF.out.1] at hk'
          injection hk' with hk'
          subst hk'
          rw [HF.out.2.2] at hn3
          injection hn3 with hn3
          subst hn3
          rw [HQ.out]; exact HE.out
        · exact HNO.out j' k' n3 (by omega) hk' hn3
    · have hlt' : (n.kids.length : Int) ≤ (j : Int) := by omega
      go_wp2
      go_ret
      refine ⟨⟨_, rfl, ⟨fun h => by omega, ?_⟩⟩, rfl⟩
      rintro ⟨k, n2, hk, hn2, he⟩
      obtain ⟨j', hj', hk'⟩ := List.getElem_of_mem hk
      exact absurd he (HNO.out j' k n2 (by omega) (by rw [List.getElem?_eq_getElem hj', hk']) hn2)
end Go.Proofs.YtaghclgookfmnaaDoor
