import Derived.Test.YtaghclgookfmnaaDoorJIntM
/-
  The document's reader: the nodes that it has.
-/
namespace Go.Proofs.YtaghclgookfmnaaDoor
open Go.RowKit
set_option linter.unusedVariables false

def iV (n : Nat) : Value := .int .i64 (n : Int)
def ndCells (n : Nd) (kv : Value) : List Value := [.int .i64 (n.kind : Int), .string ⟨n.key.toArray⟩, .string ⟨n.text.toArray⟩, .int .i64 n.num, kv, .int .i64 (n.at' : Int)]
def rowN : List Nd → List Value → List Value
  | n :: ns, v :: vs => ndCells n v ++ rowN ns vs
  | _, _ => []
theorem rowN_length : ∀ (ns : List Nd) (vs : List Value), vs.length = ns.length → (rowN ns vs).length = ns.length * 6 := by
  intro ns
  induction ns with
  | nil => intro vs h; rfl
  | cons n ns ih =>
    intro vs h
    match vs, h with
    | v :: vs, h => rw [rowN, List.length_append, ih vs (by simpa using h)]; simp [ndCells]; omega
theorem rowN_append : ∀ (ns : List Nd) (vs : List Value) (ms : List Nd) (us : List Value), vs.length = ns.length → rowN (ns ++ ms) (vs ++ us) = rowN ns vs ++ rowN ms us := by
  intro ns
  induction ns with
  | nil => intro vs ms us h; match vs, h with | [], _ => rfl
  | cons n ns ih =>
    intro vs ms us h
    match vs, h with
    | v :: vs, h => simp only [List.cons_append, rowN]; rw [ih vs ms us (by simpa using h), List.append_assoc]

/-- The slice v holds the nodes ns, in blocks from B on; the lists of kids lie apart from each other. tN: the nodes' type. -/
def Nodes (B : Nat) (tN : TypeId) (v : Value) (ns : List Nd) (w : World) : Prop :=
  ∃ kvs : List Value, kvs.length = ns.length ∧ w.ownsRow B tN 6 v ns.length (rowN ns kvs) ∧
    (∀ (k : Nat) (n : Nd) (kv : Value), ns[k]? = some n → kvs[k]? = some kv → w.ownsRow B 3 1 kv n.kids.length (n.kids.map iV)) ∧
    (∀ (j k : Nat) (a b : Value), j ≠ k → kvs[j]? = some a → kvs[k]? = some b → a.ownBlock ≠ none → a.ownBlock ≠ b.ownBlock)

theorem ownsRow_sub {w w' : World} {B sz n : Nat} {e : TypeId} {v : Value} {xs : List Value} (h : w.ownsRow B e sz v n xs) (hk : ∀ g, B ≤ g → g < w.heap.size → w'.heap[g]? = w.heap[g]?) : w'.ownsRow B e sz v n xs := by
  refine ⟨h.1, ?_⟩
  rcases h.2 with h | ⟨g, cap, cur, a, b, c, d⟩
  · exact .inl h
  · exact .inr ⟨g, cap, cur, a, b, (hk g b (Array.getElem?_eq_some_iff.1 c).1).trans c, d⟩
theorem Nodes.kept {B : Nat} {tN : TypeId} {v : Value} {ns : List Nd} {w w' : World} (h : Nodes B tN v ns w) (hk : ∀ g, B ≤ g → g < w.heap.size → w'.heap[g]? = w.heap[g]?) : Nodes B tN v ns w' := by
  obtain ⟨kvs, h1, h2, h3, h4⟩ := h
  exact ⟨kvs, h1, ownsRow_sub h2 hk, fun k n kv a b => ownsRow_sub (h3 k n kv a b) hk, h4⟩
theorem Nodes.onl {B bp : Nat} {tN : TypeId} {v : Value} {ns : List Nd} {w w' : World} (h : Nodes B tN v ns w) (ho : Onl bp w w') (hb : bp < B) : Nodes B tN v ns w' :=
  h.kept fun g hg hl => ho.block g hl (fun e => by injection e with e; omega)
theorem Nodes.nil (B : Nat) (tN : TypeId) (w : World) : Nodes B tN (.slice none 0 0) [] w :=
  ⟨[], rfl, ⟨rfl, .inl ⟨rfl, rfl⟩⟩, fun k n kv a b => (by simp at a), fun j k a b _ h _ _ => (by simp at h)⟩

/-- The kids of a node (of none) and one more. -/
def addKid (ns : List Nd) (up : Option Nat) (k : Nat) : List Nd :=
  match up with
  | none => ns
  | some u => ns.modify u (fun n => { n with kids := n.kids ++ [k] })
theorem addKid_length (ns : List Nd) (up : Option Nat) (k : Nat) : (addKid ns up k).length = ns.length := by
  unfold addKid; cases up <;> simp

def upV : Option Nat → Int | none => -1 | some u => (u : Int)
def ndV (n : Nd) : Value := .agg #[.int .i64 (n.kind : Int), .string ⟨n.key.toArray⟩, .string ⟨n.text.toArray⟩, .int .i64 n.num, .slice none 0 0, .int .i64 (n.at' : Int)]

theorem ndinfo : (Tryd.prog.info? 49).map (fun i => (i.zero, i.size, i.bytes)) = some (some (.agg #[.int .i64 0, .string ⟨#[]⟩, .string ⟨#[]⟩, .int .i64 0, .slice none 0 0, .int .i64 0]), 6, 80) := by kernel_rfl
theorem intinfo : (Tryd.prog.info? 3).map (fun i => (i.zero, i.size, i.bytes)) = some (some (.int .i64 0), 1, 8) := by kernel_rfl

/-- Append of a node's cells, at a step of a region that draws its order. -/
theorem stepN {P : Program} {ops : Array Oper} {o : Oper} {a : Act} {w : World} {K : Act → World → Prop} {Q : Exit → Act → World → Prop} {E : Prop} (hgd : o.guard = none) (s x : Operand) (t : TypeId)
    (ho : o.op = .call { callee := .builtin .append, args := #[s, x], argTypes := #[t, t] })
    (e : TypeId) (i : TypeInfo) (z : Value) (size bytes : Nat) (ht : P.underlying t = some (.slice e)) (hi : P.info? e = some i) (hz : i.zero = some z) (hsize : i.size = size) (hby : i.bytes = bytes) (hzs : z.cells.size = size) (hsz : 0 < size)
    (B : Nat) (v : Value) (n : Nat) (xs news : List Value) (ad : Addr) (hs : a.eval s = v) (hx : a.eval x = .slice (some ad) 1 1) (hl : news.length = 1 * size) (h1 : ∀ u ∈ news, u.oneCell' = true) (h63 : n + 1 ≤ 1000000000) (hb80 : bytes ≤ 80)
    (hown : w.ownsRow B e size v n xs) (hB : B ≤ w.heap.size) (hc : ∀ j u, news[j]? = some u → w.cell? (ad.add j) = some u)
    (h : ∀ v' w', w'.ownsRow B e size v' (n + 1) (xs ++ news) → w.grownBy w' v.ownBlock → K (a.put o.dst v') w') :
    if Region.wanted o (yielded ops a.tmps) = true then Oper.wp P o a w K Q else E := by
  have hw : Region.wanted o (yielded ops a.tmps) = true := by simp [Region.wanted, hgd]
  rw [if_pos hw]
  obtain ⟨v', w', r1, r2, r3, _⟩ := run_append_own (P := P) w B t o.type e i z size bytes ht hi hz hsize hby hzs hsz v n xs hown ad 1 1 news hl hc h1 (by unfold maxLen; omega) (by
    have : (n + 1) * bytes ≤ 1000000000 * 80 := Nat.mul_le_mul h63 hb80
    omega) hB
  unfold Oper.wp execOp
  simp only [ho, resolve, invoke, builtin, Sem.run_bind, Sem.run_pure, Result.andThen_ok, List.map_toArray, List.map_cons, List.map_nil, hs, hx, r1]
  exact h v' w' r2 r3

theorem ownsRow_other {w w6 : World} {B n m sz : Nat} {e e' : TypeId} {v kv : Value} {xs ys : List Value} (he : e ≠ e') (hv : w.ownsRow B e sz v n xs) (hk : w.ownsRow B e' 1 kv m ys)
    (hkeep : ∀ g, g < w.heap.size → some g ≠ v.ownBlock → w6.heap[g]? = w.heap[g]?) : w6.ownsRow B e' 1 kv m ys := by
  refine ⟨hk.1, ?_⟩
  rcases hk.2 with h | ⟨g, cap, cur, a, b, c, d⟩
  · exact .inl h
  · refine .inr ⟨g, cap, cur, a, b, (hkeep g (Array.getElem?_eq_some_iff.1 c).1 ?_).trans c, d⟩
    intro hg
    rcases hv.2 with ⟨rfl, _⟩ | ⟨g', cap', cur', rfl, _, c', _⟩
    · simp [Value.ownBlock] at hg
    · simp [Value.ownBlock] at hg
      subst hg
      rw [c] at c'
      injection c' with c'
      injection c' with _ c' _
      exact he c'.symm

/-- A node more. -/
theorem Nodes.push {B : Nat} {tN : TypeId} {v v6 : Value} {ns : List Nd} {nd : Nd} {kvs : List Value} {w w6 : World} (k1 : kvs.length = ns.length) (k2 : w.ownsRow B tN 6 v ns.length (rowN ns kvs))
    (k3 : ∀ (k : Nat) (n : Nd) (kv : Value), ns[k]? = some n → kvs[k]? = some kv → w.ownsRow B 3 1 kv n.kids.length (n.kids.map iV))
    (k4 : ∀ (j k : Nat) (a b : Value), j ≠ k → kvs[j]? = some a → kvs[k]? = some b → a.ownBlock ≠ none → a.ownBlock ≠ b.ownBlock)
    (hrow : w6.ownsRow B tN 6 v6 (ns.length + 1) (rowN ns kvs ++ ndCells nd (.slice none 0 0))) (hkeep : ∀ g, g < w.heap.size → some g ≠ v.ownBlock → w6.heap[g]? = w.heap[g]?) (ht : tN ≠ 3) (hk : nd.kids = []) :
    Nodes B tN v6 (ns ++ [nd]) w6 := by
  refine ⟨kvs ++ [.slice none 0 0], by simp [k1], ?_, ?_, ?_⟩
  · rw [rowN_append ns kvs [nd] [.slice none 0 0] k1, List.length_append]
    have e : rowN [nd] [.slice none 0 0] = ndCells nd (.slice none 0 0) := by simp [rowN]
    rw [e]; exact hrow
  · intro k n kv hn hkv
    by_cases hlt : k < ns.length
    · rw [List.getElem?_append_left hlt] at hn
      rw [List.getElem?_append_left (by omega)] at hkv
      exact ownsRow_other ht k2 (k3 k n kv hn hkv) hkeep
    · have hke : k = ns.length := by
        have := (List.getElem?_eq_some_iff.1 hn).1
        simp at this; omega
      subst hke
      rw [List.getElem?_append_right (Nat.le_refl _)] at hn
      rw [← k1, List.getElem?_append_right (Nat.le_refl _)] at hkv
      simp at hn hkv
      subst hn; subst hkv
      rw [hk]
      exact ⟨rfl, .inl ⟨rfl, rfl⟩⟩
  · intro j k a b hjk ha hb hne
    have hbd : ∀ {m : Nat} {x : Value}, (kvs ++ [Value.slice none 0 0])[m]? = some x → (m < kvs.length ∧ kvs[m]? = some x) ∨ x = .slice none 0 0 := by
      intro m x hx
      by_cases hm : m < kvs.length
      · left; rw [List.getElem?_append_left hm] at hx; exact ⟨hm, hx⟩
      · right
        rw [List.getElem?_append_right (by omega)] at hx
        have := (List.getElem?_eq_some_iff.1 hx).1
        have h0 : m - kvs.length = 0 := by simp at this; omega
        rw [h0] at hx; simpa using hx.symm
    rcases hbd ha with ⟨_, ha⟩ | rfl
    · rcases hbd hb with ⟨_, hb⟩ | rfl
      · exact k4 j k a b hjk ha hb hne
      · simpa [Value.ownBlock] using hne
    · exact absurd rfl hne
end Go.Proofs.YtaghclgookfmnaaDoor
