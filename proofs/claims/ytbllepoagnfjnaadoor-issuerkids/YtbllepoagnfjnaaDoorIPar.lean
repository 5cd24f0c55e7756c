/-
  Of each node the one of which it is a kid; the place of a number in a row; the alg of a name.
-/
import Derived.Test.YtbllepoagnfjnaaDoorD0
import Derived.Test.YtbllepoagnfjnaaDoorT0
import Derived.Laws.MakeOwn
import Derived.Laws.OwnMore
namespace Go.Proofs.YtbllepoagnfjnaaDoor.Dg
set_option maxRecDepth 4000
open Go.RowKit
set_option linter.unusedVariables false

theorem rr_nodes {B : Nat} {v : Value} {L : List Nd} {w : World} (h : Nodes B 63 v L w) (hk : ∀ n ∈ L, n.kids.length ≤ 1000000000) : RR 63 v L w := by
  have hadd : ∀ (g j : Nat), (⟨g, 0, none⟩ : Addr).add j = ⟨g, j, none⟩ := fun g j => by unfold Addr.add; split <;> simp_all
  have hs : ∃ ad cap, v = .slice ad L.length cap := by
    obtain ⟨kvs, k1, k2, k3, k4⟩ := h
    rcases k2.2 with ⟨a, b⟩ | ⟨g, cap, cur, a, _⟩
    · exact ⟨none, 0, by rw [a, b]⟩
    · exact ⟨_, _, a⟩
  refine ⟨hs, fun k n hn => ?_⟩
  have hkl : k < L.length := (List.getElem?_eq_some_iff.1 hn).1
  obtain ⟨g, cap, rfl⟩ : ∃ g cap, v = .slice (some ⟨g, 0, none⟩) L.length cap := by
    obtain ⟨kvs, k1, k2, k3, k4⟩ := h
    rcases k2.2 with ⟨a, b⟩ | ⟨g, cap, cur, a, _⟩
    · omega
    · exact ⟨_, _, a⟩
  obtain ⟨kv, c, ho⟩ := h.six k n hn
  refine ⟨g, kv, rfl, ?_, hk n (List.mem_of_getElem? hn), c 0 _ rfl, c 1 _ rfl, c 2 _ rfl, c 3 _ rfl, c 4 _ rfl, c 5 _ rfl⟩
  rcases ho.2 with ⟨a, b⟩ | ⟨g, c, cu, a, _⟩
  · refine ⟨none, 0, by rw [a, b], fun j k hj => ?_⟩
    obtain e := List.length_eq_zero_iff.1 b
    rw [e] at hj
    simp at hj
  · refine ⟨some ⟨g, 0, none⟩, c, a, fun j k hj => ⟨g, rfl, ?_⟩⟩
    have := ho.cells (g := g) (by rw [a]; rfl) j (iV k) (by simp [hj])
    rwa [hadd] at this
theorem made_ints (n : Nat) : madeCells (Value.int .i64 0).cells (n * 1) = (List.replicate n (.int .i64 0)).toArray := by
  apply Array.ext'
  rw [Nat.mul_one]
  have := toList_madeCells_one (.int .i64 0) n
  rw [show (Value.int .i64 0).cells = #[.int .i64 0] from rfl, this]
/-- Of the nodes before i, and of some kids of i, the one above is set. -/
structure ParD (ns : List Nd) (par : Nat → Nat) (i : Nat) (ks : List Nat) (A : Array Value) : Prop where
  size : A.size = ns.length
  old : ∀ (p : Nat) (n : Nd) (c : Nat), p < i → ns[p]? = some n → c ∈ n.kids → A[c]? = some (.int .i64 (par c : Int))
  new : ∀ c ∈ ks, A[c]? = some (.int .i64 (par c : Int))
theorem ParD.set {ns : List Nd} {par : Nat → Nat} {i : Nat} {ks : List Nat} {A : Array Value} (h : ParD ns par i ks A) (c : Nat) (hc : c < ns.length) (hp : par c = i) : ParD ns par i (ks ++ [c]) (A.setIfInBounds c (.int .i64 (i : Int))) := by
  have g : ∀ d : Nat, A[d]? = some (Value.int .i64 (par d : Int)) → (A.setIfInBounds c (Value.int .i64 (i : Int)))[d]? = some (Value.int .i64 (par d : Int)) := fun d hd => by
    by_cases e : c = d
    · subst e
      rw [Array.getElem?_setIfInBounds_self_of_lt (by rw [h.size]; exact hc), hp]
    · rw [Array.getElem?_setIfInBounds_ne e]; exact hd
  refine ⟨by simp [h.size], fun p n d hp' hn hd => g d (h.old p n d hp' hn hd), fun d hd => ?_⟩
  rcases List.mem_append.1 hd with hd | hd
  · exact g d (h.new d hd)
  · simp at hd
    subst hd
    rw [Array.getElem?_setIfInBounds_self_of_lt (by rw [h.size]; exact hc), hp]
theorem ParD.next {ns : List Nd} {par : Nat → Nat} {i : Nat} {A : Array Value} {n : Nd} (h : ParD ns par i n.kids A) (hn : ns[i]? = some n) : ParD ns par (i + 1) [] A := by
  refine ⟨h.size, fun p m c hp hm hc => ?_, fun c hc => by simp at hc⟩
  by_cases e : p = i
  · subst e
    rw [hn] at hm
    injection hm with hm
    subst hm
    exact h.new c hc
  · exact h.old p m c (by omega) hm hc
set_option maxRecDepth 4000 in
set_option maxHeartbeats 2000000 in
theorem rparents (x : Value) (ns : List Nd) (w : World) (par : Nat → Nat) (hx : RR 63 x ns w) (hw : WFN ns) (h0 : 0 < ns.length) (hc : ∀ (p : Nat) (n : Nd) (c : Nat), ns[p]? = some n → c ∈ n.kids → par c = p) :
    Calls Tryd.prog 16 #[x] w fun r w' => r = .returned (.slice (some ⟨w.heap.size, 0, none⟩) ns.length ns.length) ∧ (∃ A, w'.heap[w.heap.size]? = some (.cells A 3 (0, 0)) ∧ ParD ns par ns.length [] A) ∧ Below w.heap.size w w' := by
  obtain ⟨i0, hi, hz0, hz1, hz2⟩ := info_parts intinfo
  have hlen := hw.len
  have hmk : ∀ W : World, (Instr.makeSlice 35 (.int .i64 (ns.length : Int)) (.int .i64 (ns.length : Int))).run Tryd.prog W = .ok (.slice (some ⟨W.heap.size, 0, none⟩) ns.length ns.length) (W.alloc (.cells (List.replicate ns.length (.int .i64 0)).toArray 3)) := fun W => by
    have := run_make (P := Tryd.prog) W 35 3 i0 (.int .i64 0) Tryd.underlying35 hi hz0 .i64 .i64 (ns.length : Int) (ns.length : Int) (by omega) (by omega) (by rw [hz2]; omega) (by omega)
    rw [hz1, Int.toNat_natCast, made_ints] at this
    exact this
  clear hi hz0 hz1 hz2
  have k0 : (0 : Int) < (ns.length : Int) := by omega
  have HX : Hid (RR 63 x ns w) := hx
  have HC : Hid (∀ (p : Nat) (n : Nd) (c : Nat), ns[p]? = some n → c ∈ n.kids → par c = p) := hc
  have HW : Hid (WFN ns) := hw
  obtain ⟨ad, cap, rfl⟩ := hx.shape
  clear hx hc hw
  have hg0 : (w.alloc (.cells (List.replicate ns.length (.int .i64 0)).toArray 3)).heap[w.heap.size]? = some (.cells (List.replicate ns.length (.int .i64 0)).toArray 3 (0, 0)) := heap_alloc_new _ _
  have HG0 : Hid ((w.alloc (.cells (List.replicate ns.length (.int .i64 0)).toArray 3)).heap[w.heap.size]? = some (.cells (List.replicate ns.length (.int .i64 0)).toArray 3 (0, 0))) := hg0
  have f0 : (w.alloc (.cells (List.replicate ns.length (.int .i64 0)).toArray 3)).frozen? ⟨w.heap.size, 0, none⟩ = false := frozen_of_row _ _ _ _ _ hg0
  have c0 : (w.alloc (.cells (List.replicate ns.length (.int .i64 0)).toArray 3)).cell? ⟨w.heap.size, 0, none⟩ = some (.int .i64 0) := by rw [cell_of_row _ _ _ _ _ _ hg0]; simp [h0]
  clear hg0
  go_enter Tryd.func16, Tryd.ntmps16
  go_wp2_with fail
  clear f0 c0 hmk
  go_loopw [4] (fun iv wr => ∃ (i : Nat) (A : Array Value), i ≤ ns.length ∧ iv = .int .i64 (i : Int) ∧ Hid (wr.heap[w.heap.size]? = some (.cells A 3 (0, 0)) ∧ ParD ns par i [] A) ∧ Below w.heap.size w wr) (fun iv _ => ns.length - (intOf iv).toNat)
  case atStart => exact ⟨0, _, by omega, rfl, ⟨heap_alloc_new _ _, by simp, fun p n c hp => by omega, fun c hc => by simp at hc⟩, bal (brf _) _⟩
  case round =>
    obtain ⟨i, A, hi, rfl, HG, hb⟩ := hrel
    by_cases hin : i < ns.length
    · have k1 : (i : Int) < (ns.length : Int) := by omega
      have hib : (i : Int) ≤ 1000000 := by omega
      obtain ⟨n, hn⟩ : ∃ n, ns[i]? = some n := ⟨_, List.getElem?_eq_getElem hin⟩
      obtain ⟨g, kv, e1, ia, hkl, _, _, _, _, a4, _⟩ := HX.out.at' i n hn
      obtain rfl : ad = some ⟨g, 0, none⟩ := by injection e1
      obtain ⟨adk, capk, rfl, cc⟩ := ia
      have A4 : Hid (w.cell? ⟨g, i * 6 + 4, none⟩ = some (.slice adk n.kids.length capk)) := a4
      have CC : Hid (∀ j k : Nat, n.kids[j]? = some k → ∃ g, adk = some ⟨g, 0, none⟩ ∧ w.cell? ⟨g, j, none⟩ = some (.int .i64 (k : Int))) := cc
      clear a4 cc
      have HN : Hid (ns[i]? = some n) := hn
      have HB : Hid (Below w.heap.size w wr) := hb
      have hkn := HW.out.few i n hn
      clear hn hb e1
      go_wp2_with fail
      go_loopw [5] (fun kk wx => ∃ (k : Nat) (A : Array Value), k ≤ n.kids.length ∧ kk = .int .i64 (k : Int) ∧ Hid (wx.heap[w.heap.size]? = some (.cells A 3 (0, 0)) ∧ ParD ns par i (n.kids.take k) A) ∧ Below w.heap.size w wx) (fun kk _ => n.kids.length - (intOf kk).toNat)
      case atStart => exact ⟨0, A, by omega, rfl, HG.out, HB.out⟩
      case round =>
        clear HG HB
        obtain ⟨k, A, hk, rfl, HG, hb⟩ := hrel
        have a4 : wr.cell? ⟨g, i * 6 + 4, none⟩ = some (.slice adk n.kids.length capk) := cell_kp hb A4.out
        by_cases hkk : k < n.kids.length
        · have k2 : (k : Int) < (n.kids.length : Int) := by omega
          have hkb : (k : Int) ≤ 1000000 := by omega
          obtain ⟨c, hcc⟩ : ∃ c, n.kids[k]? = some c := ⟨_, List.getElem?_eq_getElem hkk⟩
          obtain ⟨gk, rfl, d0w⟩ := CC.out k c hcc
          have d0 : wr.cell? ⟨gk, k, none⟩ = some (.int .i64 (c : Int)) := cell_kp hb d0w
          clear d0w
          obtain ⟨b1, b2⟩ := HW.out.kids i n HN.out c (List.mem_of_getElem? hcc)
          have hcl : (c : Int) < (ns.length : Int) := by omega
          obtain ⟨hg, hp⟩ := HG.out
          have hcA : c < A.size := by rw [hp.size]; exact b2
          have u0 : wr.cell? ⟨w.heap.size, c, none⟩ = some A[c] := by rw [cell_of_row _ _ _ _ _ _ hg]; exact Array.getElem?_eq_getElem hcA
          have uf : wr.frozen? ⟨w.heap.size, c, none⟩ = false := frozen_of_row _ _ _ _ _ hg
          have hp2 := hp.set c b2 (HC.out i n c HN.out (List.mem_of_getElem? hcc))
          have e2 : n.kids.take k ++ [c] = n.kids.take (k + 1) := by rw [List.take_add_one, hcc]; rfl
          rw [e2] at hp2
          have HS : Hid ((wr.setCell ⟨w.heap.size, c, none⟩ (.int .i64 (i : Int))).heap[w.heap.size]? = some (.cells (A.setIfInBounds c (.int .i64 (i : Int))) 3 (0, 0)) ∧ ParD ns par i (n.kids.take (k + 1)) (A.setIfInBounds c (.int .i64 (i : Int)))) := ⟨heap_setCell_same _ _ _ _ _ _ hg, hp2⟩
          have HB : Hid (Below w.heap.size w (wr.setCell ⟨w.heap.size, c, none⟩ (.int .i64 (i : Int)))) := hb.setCell (Nat.le_refl _) _
          generalize A[c] = y at u0
          clear hg hp hb hcc hp2 e2 HG hcA
          go_wp2_with fail
          go_roundw
          case rel => exact ⟨k + 1, _, by omega, by go_num, HS.out, HB.out⟩
          case measure => simp [intOf]; omega
        · have k2 : ¬ (k : Int) < (n.kids.length : Int) := by omega
          obtain rfl : k = n.kids.length := by omega
          obtain ⟨hg, hp⟩ := HG.out
          rw [List.take_length] at hp
          have HR : Hid (wr.heap[w.heap.size]? = some (.cells A 3 (0, 0)) ∧ ParD ns par (i + 1) [] A) := ⟨hg, hp.next HN.out⟩
          have HB : Hid (Below w.heap.size w wr) := hb
          clear hg hb hp HG
          go_wp2_with fail
          refine ⟨⟨i + 1, A, by omega, by rw [show ((i + 1 : Nat) : Int) = (i : Int) + 1 by omega], HR.out, HB.out⟩, ?_⟩
          simp only [intOf]; omega
    · have k1 : ¬ (i : Int) < (ns.length : Int) := by omega
      obtain rfl : i = ns.length := by omega
      have HB : Hid (Below w.heap.size w wr) := hb
      clear hb
      go_wp2
      go_ret
      exact ⟨rfl, ⟨A, HG.out⟩, HB.out⟩
set_option maxHeartbeats 400000 in
theorem rindex (v : Value) (us : List Nat) (c : Nat) (w : World) (h : IR w v us) (hl : us.length ≤ 20) :
    Calls Tryd.prog 33 #[v, .int .i64 (c : Int)] w fun r w' => (∃ q : Int, r = .returned (.int .i64 q) ∧ q < 20) ∧ w' = w := by
  obtain ⟨ad, cap, rfl, hx⟩ := h
  have HX := dhid hx
  clear hx
  go_enter Tryd.func33, Tryd.ntmps33
  go_wp2_with fail
  go_loopw [5] (fun iv wr => ∃ i : Nat, i ≤ us.length ∧ iv = .int .i64 (i : Int) ∧ wr = w) (fun iv _ => us.length - (intOf iv).toNat)
  case atStart => exact ⟨0, by omega, rfl, rfl⟩
  case round =>
    obtain ⟨i, hi, rfl, rfl⟩ := hrel
    by_cases hlt : i < us.length
    · have k1 : (i : Int) < (us.length : Int) := by omega
      obtain ⟨k, hk⟩ : ∃ k, us[i]? = some k := ⟨_, List.getElem?_eq_getElem hlt⟩
      obtain ⟨g, rfl, c1⟩ := HX.out i k hk
      clear hk
      by_cases he : (k : Int) = (c : Int)
      · rw [he] at c1
        clear he
        go_wp2
        go_ret
        exact ⟨⟨_, rfl, by omega⟩, rfl⟩
      · have he' : ((k : Int) == (c : Int)) = false := by rw [beq_eq_false_iff_ne]; exact he
        clear he
        go_wp2_with fail
        go_roundw
        case rel => exact ⟨i + 1, by omega, by go_num, trivial⟩
        case measure => simp [intOf]; omega
    · have k1 : ¬ (i : Int) < (us.length : Int) := by omega
      go_wp2
      go_ret
      exact ⟨⟨_, rfl, by omega⟩, rfl⟩
theorem ralg (alg : Int) (w : World) (ha : alg = 256 ∨ alg = 384 ∨ alg = 512) : Calls Tryd.prog 20 #[.string (nameB alg)] w fun r w' => r = .returned (.int .i64 alg) ∧ w' = w := by
  rcases ha with rfl | rfl | rfl
  · rw [show nameB 256 = ⟨#[72, 83, 50, 53, 54]⟩ from rfl]
    go_enter Tryd.func20, Tryd.ntmps20
    go_wp2
    go_ret
    exact ⟨rfl, rfl⟩
  · rw [show nameB 384 = ⟨#[72, 83, 51, 56, 52]⟩ from rfl]
    go_enter Tryd.func20, Tryd.ntmps20
    go_wp2
    go_ret
    exact ⟨rfl, rfl⟩
  · rw [show nameB 512 = ⟨#[72, 83, 53, 49, 50]⟩ from rfl]
    go_enter Tryd.func20, Tryd.ntmps20
    go_wp2
    go_ret
    exact ⟨rfl, rfl⟩
end Go.Proofs.YtbllepoagnfjnaaDoor.Dg
