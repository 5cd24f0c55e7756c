import Derived.Test.YtaghclgookfmnaaDoorJAdd
import Derived.Deep.AppendLies
/-
  A kid more, of a node that is there.
-/
namespace Go.Proofs.YtaghclgookfmnaaDoor
open Go.RowKit
set_option linter.unusedVariables false

theorem rowN_set : ∀ (ns : List Nd) (vs : List Value) (u k : Nat) (n : Nd) (kv' : Value), vs.length = ns.length → ns[u]? = some n →
    rowN (ns.modify u (fun n => { n with kids := n.kids ++ [k] })) (vs.set u kv') = (rowN ns vs).set (u * 6 + 4) kv' := by
  intro ns
  induction ns with
  | nil => intro vs u k n kv' h hn; simp at hn
  | cons m ns ih =>
    intro vs u k n kv' h hn
    match vs, h with
    | v :: vs, h =>
      match u with
      | 0 => simp [rowN, ndCells]
      | u + 1 =>
        have h' : vs.length = ns.length := by simpa using h
        have := ih vs u k n kv' h' (by simpa using hn)
        simp only [List.modify_succ_cons, List.set_cons_succ, rowN]
        rw [this]
        have e : (u + 1) * 6 + 4 = (ndCells m v).length + (u * 6 + 4) := by simp [ndCells]; omega
        rw [e, List.set_append_right _ _ (Nat.le_add_right _ _), Nat.add_sub_cancel_left]

theorem ownBlock_lt {w : World} {B sz n g : Nat} {e : TypeId} {v : Value} {xs : List Value} (h : w.ownsRow B e sz v n xs) (hg : v.ownBlock = some g) : B ≤ g ∧ g < w.heap.size ∧ ∃ cur, w.heap[g]? = some (.cells cur e (0, 0)) := by
  rcases h.2 with ⟨rfl, _⟩ | ⟨g', cap, cur, rfl, b, c, d⟩
  · simp [Value.ownBlock] at hg
  · simp [Value.ownBlock] at hg; subst hg; exact ⟨b, (Array.getElem?_eq_some_iff.1 c).1, cur, c⟩
theorem blocks_ne {w : World} {B n m sz sz' g : Nat} {e e' : TypeId} {v v' : Value} {xs ys : List Value} (he : e ≠ e') (h : w.ownsRow B e sz v n xs) (h' : w.ownsRow B e' sz' v' m ys) (hg : v.ownBlock = some g) : v'.ownBlock ≠ some g := by
  intro hg'
  obtain ⟨_, _, cur, c⟩ := ownBlock_lt h hg
  obtain ⟨_, _, cur', c'⟩ := ownBlock_lt h' hg'
  rw [c] at c'
  injection c' with c'
  injection c' with _ c' _
  exact he c'

theorem Nodes.kid {B : Nat} {tN : TypeId} {v : Value} {ns : List Nd} {kvs : List Value} {w w8 : World} (k1 : kvs.length = ns.length) (k2 : w.ownsRow B tN 6 v ns.length (rowN ns kvs))
    (k3 : ∀ (k : Nat) (n : Nd) (kv : Value), ns[k]? = some n → kvs[k]? = some kv → w.ownsRow B 3 1 kv n.kids.length (n.kids.map iV))
    (k4 : ∀ (j k : Nat) (a b : Value), j ≠ k → kvs[j]? = some a → kvs[k]? = some b → a.ownBlock ≠ none → a.ownBlock ≠ b.ownBlock)
    (u k g capk gL : Nat) (n : Nd) (kv : Value) (hn : ns[u]? = some n) (hkv : kvs[u]? = some kv)
    (hrow8 : w8.ownsRow B 3 1 (.slice (some ⟨g, 0, none⟩) (n.kids.length + 1) capk) (n.kids.length + 1) (n.kids.map iV ++ [iV k]))
    (hkeep : ∀ g', g' < w.heap.size → some g' ≠ kv.ownBlock → w8.heap[g']? = w.heap[g']?) (hg : kv.ownBlock = some g ∨ w.heap.size ≤ g) (hgL : v.ownBlock = some gL) (ht : tN ≠ 3) :
    Nodes B tN v (ns.modify u (fun n => { n with kids := n.kids ++ [k] })) (w8.setCell ⟨gL, u * 6 + 4, none⟩ (.slice (some ⟨g, 0, none⟩) (n.kids.length + 1) capk)) := by
  have hun : u < ns.length := (List.getElem?_eq_some_iff.1 hn).1
  have hku := k3 u n kv hn hkv
  have hLk : kv.ownBlock ≠ some gL := blocks_ne ht k2 hku hgL
  have k2' : w8.ownsRow B tN 6 v ns.length (rowN ns kvs) := by
    refine ⟨k2.1, ?_⟩
    rcases k2.2 with h | ⟨g', cap, cur, a, b, c, d⟩
    · exact .inl h
    · refine .inr ⟨g', cap, cur, a, b, (hkeep g' (Array.getElem?_eq_some_iff.1 c).1 (fun e => ?_)).trans c, d⟩
      rw [a] at hgL
      simp [Value.ownBlock] at hgL
      exact hLk (by rw [← hgL]; exact e.symm)
  obtain ⟨cap, cur, hv, hB, hcell, hnc, hcm, hcs, htk⟩ : ∃ cap cur, v = .slice (some ⟨gL, 0, none⟩) ns.length cap ∧ B ≤ gL ∧ w8.heap[gL]? = some (.cells cur tN (0, 0)) ∧ ns.length ≤ cap ∧ cap ≤ maxLen ∧ cur.size = cap * 6 ∧ cur.toList.take (ns.length * 6) = rowN ns kvs := by
    rcases k2'.2 with ⟨h, _⟩ | ⟨g', cap, cur, a, b, c, d⟩
    · rw [h] at hgL; simp [Value.ownBlock] at hgL
    · rw [a] at hgL
      simp [Value.ownBlock] at hgL
      subst hgL
      exact ⟨cap, cur, a, b, c, d⟩
  have hset := setCell_eq_setRow w8 gL (u * 6 + 4) cur tN (0, 0) (.slice (some ⟨g, 0, none⟩) (n.kids.length + 1) capk) hcell
  rw [hset]
  have hoth : ∀ g', g' ≠ gL → (w8.setRow gL (cur.setIfInBounds (u * 6 + 4) (.slice (some ⟨g, 0, none⟩) (n.kids.length + 1) capk))).heap[g']? = w8.heap[g']? := fun g' h => setRow_other w8 gL g' _ h
  have hkid9 : ∀ {kv2 : Value} {m : Nat} {ys : List Value}, w8.ownsRow B 3 1 kv2 m ys → (w8.setRow gL (cur.setIfInBounds (u * 6 + 4) (.slice (some ⟨g, 0, none⟩) (n.kids.length + 1) capk))).ownsRow B 3 1 kv2 m ys := by
    intro kv2 m ys h
    refine ⟨h.1, ?_⟩
    rcases h.2 with h' | ⟨g', c1, c2, a, b, c, d⟩
    · exact .inl h'
    · refine .inr ⟨g', c1, c2, a, b, (hoth g' ?_).trans c, d⟩
      intro e
      subst e
      rw [c] at hcell
      injection hcell with hcell
      injection hcell with _ e2 _
      exact ht e2.symm
  refine ⟨kvs.set u (.slice (some ⟨g, 0, none⟩) (n.kids.length + 1) capk), by simp [k1], ?_, ?_, ?_⟩
  · rw [rowN_set ns kvs u k n _ k1 hn, List.length_modify]
    refine ⟨by rw [List.length_set, rowN_length ns kvs k1], .inr ⟨gL, cap, _, hv, hB, setRow_heap w8 gL _ _ _ _ hcell, hnc, hcm, by simpa using hcs, ?_⟩⟩
    rw [Array.toList_setIfInBounds, ← htk, List.take_set]
  · intro j m kv2 hj hkv2
    by_cases hju : j = u
    · subst hju
      rw [List.getElem?_modify_eq, hn] at hj
      simp at hj
      subst hj
      rw [List.getElem?_set_self (by omega)] at hkv2
      injection hkv2 with hkv2
      subst hkv2
      simp only [List.length_append, List.length_singleton, List.map_append, List.map_cons, List.map_nil]
      exact hkid9 hrow8
    · rw [List.getElem?_modify_ne _ _ (Ne.symm hju)] at hj
      rw [List.getElem?_set_ne (Ne.symm hju)] at hkv2
      have h0 := k3 j m kv2 hj hkv2
      refine hkid9 ⟨h0.1, ?_⟩
      rcases h0.2 with h' | ⟨g', c1, c2, a, b, c, d⟩
      · exact .inl h'
      · refine .inr ⟨g', c1, c2, a, b, (hkeep g' (Array.getElem?_eq_some_iff.1 c).1 ?_).trans c, d⟩
        intro e
        refine k4 j u kv2 kv hju hkv2 hkv (by rw [a]; simp [Value.ownBlock]) ?_
        rw [a, ← e]; rfl
  · intro j m a b hjm ha hb hne
    have hlt : ∀ {q : Nat} {x : Value} {gg : Nat}, kvs[q]? = some x → x.ownBlock = some gg → gg < w.heap.size := by
      intro q x gg hq hx
      have hql : q < ns.length := by have := (List.getElem?_eq_some_iff.1 hq).1; omega
      exact (ownBlock_lt (k3 q ns[q] x (List.getElem?_eq_getElem hql) hq) hx).2.1
    by_cases hju : j = u
    · subst hju
      rw [List.getElem?_set_self (by omega)] at ha
      rw [List.getElem?_set_ne hjm] at hb
      injection ha with ha
      subst ha
      intro e
      have hbg : b.ownBlock = some g := by rw [← e]; rfl
      rcases hg with hg | hg
      · exact k4 m j b kv (Ne.symm hjm) hb hkv (by rw [hbg]; simp) (by rw [hbg, hg])
      · have := hlt hb hbg; omega
    · rw [List.getElem?_set_ne (Ne.symm hju)] at ha
      by_cases hmu : m = u
      · subst hmu
        rw [List.getElem?_set_self (by omega)] at hb
        injection hb with hb
        subst hb
        intro e
        have hag : a.ownBlock = some g := by rw [e]; rfl
        rcases hg with hg | hg
        · exact k4 j m a kv hjm ha hkv hne (by rw [hag, hg])
        · have := hlt ha hag; omega
      · rw [List.getElem?_set_ne (Ne.symm hmu)] at hb
        exact k4 j m a b hjm ha hb hne
end Go.Proofs.YtaghclgookfmnaaDoor
