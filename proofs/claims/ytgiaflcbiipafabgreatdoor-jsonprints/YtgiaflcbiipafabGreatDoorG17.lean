/-
  Joined by program: JForm, JFormA.
-/
import Derived.Test.YtgiaflcbiipafabGreatDoorG16
/-
  notaryref.Form: a node without kids.
-/
namespace Go.Proofs.YtgiaflcbiipafabGreatDoor
open Go.RowKit
set_option linter.unusedVariables false

theorem rowN_at : ∀ (ns : List Nd) (vs : List Value) (u j : Nat) (n : Nd) (kv : Value), vs.length = ns.length → ns[u]? = some n → vs[u]? = some kv → j < 6 → (rowN ns vs)[u * 6 + j]? = (ndCells n kv)[j]? := by
  intro ns
  induction ns with
  | nil => intro vs u j n kv h hn; simp at hn
  | cons m ns ih =>
    intro vs u j n kv h hn hk hj
    match vs, h with
    | v :: vs, h =>
      match u with
      | 0 =>
        simp at hn hk
        subst hn; subst hk
        rw [rowN, Nat.zero_mul, Nat.zero_add, List.getElem?_append_left (by simpa [ndCells] using hj)]
      | u + 1 =>
        have := ih vs u j n kv (by simpa using h) (by simpa using hn) (by simpa using hk) hj
        rw [rowN, List.getElem?_append_right (by simp [ndCells]; omega), ← this]
        congr 1
        simp [ndCells]; omega

theorem Nodes.six {B g : Nat} {tN : TypeId} {cap : Nat} {L : List Nd} {w : World} (h : Nodes B tN (.slice (some ⟨g, 0, none⟩) L.length cap) L w) (u : Nat) (n : Nd) (hn : L[u]? = some n) :
    ∃ kv, (∀ j v, (ndCells n kv)[j]? = some v → w.cell? ⟨g, u * 6 + j, none⟩ = some v) ∧ w.ownsRow B 3 1 kv n.kids.length (n.kids.map iV) := by
  obtain ⟨kvs, k1, k2, k3, k4⟩ := h
  have hadd : ∀ (g j : Nat), (⟨g, 0, none⟩ : Addr).add j = ⟨g, j, none⟩ := fun g j => by unfold Addr.add; split <;> simp_all
  have hul : u < L.length := (List.getElem?_eq_some_iff.1 hn).1
  obtain ⟨kv, hkv⟩ : ∃ kv, kvs[u]? = some kv := ⟨_, List.getElem?_eq_getElem (by omega)⟩
  refine ⟨kv, fun j v hv => ?_, k3 u n kv hn hkv⟩
  have hj : j < 6 := by have := (List.getElem?_eq_some_iff.1 hv).1; simpa [ndCells] using this
  have hc := k2.cells (g := g) rfl (u * 6 + j) v ((rowN_at L kvs u j n kv k1 hn hkv hj).trans hv)
  rwa [hadd] at hc

set_option maxHeartbeats 1000000 in
theorem rform0 (B : Nat) (g cap : Nat) (L : List Nd) (w : World) (hN : Nodes B 64 (.slice (some ⟨g, 0, none⟩) L.length cap) L w) (o : Nat) (n : Nd) (hn : L[o]? = some n) (hb : L.length ≤ 1000000) (hk : n.kind = 0) :
    Calls Tryz.prog 13 #[.slice (some ⟨g, 0, none⟩) L.length cap, .int .i64 (o : Int)] w fun e w' => e = .returned (.string ⟨#[110, 117, 108, 108]⟩) ∧ Below w.heap.size w w' := by
  have hol : o < L.length := (List.getElem?_eq_some_iff.1 hn).1
  have ho' : (o : Int) < (L.length : Int) := by omega
  obtain ⟨kv, h6, hkr⟩ := hN.six o n hn
  have c0 : w.cell? ⟨g, o * 6, none⟩ = some (.int .i64 0) := by have := h6 0 _ rfl; rw [hk] at this; exact this
  have c1 := h6 1 _ rfl
  have c2 := h6 2 _ rfl
  have c3 := h6 3 _ rfl
  have c4 := h6 4 _ rfl
  have c5 := h6 5 _ rfl
  clear h6 hN hn hk
  obtain ⟨adk, capk, rfl, hc⟩ := IRow.of hkr
  clear hkr hc
  go_enter Tryz.func13, Tryz.ntmps13
  go_wp2
  go_ret
  exact ⟨rfl, bal (brf _) _⟩
set_option maxHeartbeats 1000000 in
theorem rform1 (B : Nat) (g cap : Nat) (L : List Nd) (w : World) (hN : Nodes B 64 (.slice (some ⟨g, 0, none⟩) L.length cap) L w) (o : Nat) (n : Nd) (hn : L[o]? = some n) (hb : L.length ≤ 1000000) (hk : n.kind = 1) (h1 : n.num = 1) :
    Calls Tryz.prog 13 #[.slice (some ⟨g, 0, none⟩) L.length cap, .int .i64 (o : Int)] w fun e w' => e = .returned (.string ⟨#[116, 114, 117, 101]⟩) ∧ Below w.heap.size w w' := by
  have hol : o < L.length := (List.getElem?_eq_some_iff.1 hn).1
  have ho' : (o : Int) < (L.length : Int) := by omega
  obtain ⟨kv, h6, hkr⟩ := hN.six o n hn
  have c0 : w.cell? ⟨g, o * 6, none⟩ = some (.int .i64 1) := by have := h6 0 _ rfl; rw [hk] at this; exact this
  have c1 := h6 1 _ rfl
  have c2 := h6 2 _ rfl
  have c3 := h6 3 _ rfl
  have c4 := h6 4 _ rfl
  have c5 := h6 5 _ rfl
  clear h6 hN hn hk
  obtain ⟨adk, capk, rfl, hc⟩ := IRow.of hkr
  clear hkr hc
  rw [h1] at c3
  clear h1
  go_enter Tryz.func13, Tryz.ntmps13
  go_wp2
  go_ret
  exact ⟨rfl, bal (brf _) _⟩
set_option maxHeartbeats 1000000 in
theorem rform2 (B : Nat) (g cap : Nat) (L : List Nd) (w : World) (hN : Nodes B 64 (.slice (some ⟨g, 0, none⟩) L.length cap) L w) (o : Nat) (n : Nd) (hn : L[o]? = some n) (hb : L.length ≤ 1000000) (hk : n.kind = 1) (h1 : n.num = 0) :
    Calls Tryz.prog 13 #[.slice (some ⟨g, 0, none⟩) L.length cap, .int .i64 (o : Int)] w fun e w' => e = .returned (.string ⟨#[102, 97, 108, 115, 101]⟩) ∧ Below w.heap.size w w' := by
  have hol : o < L.length := (List.getElem?_eq_some_iff.1 hn).1
  have ho' : (o : Int) < (L.length : Int) := by omega
  obtain ⟨kv, h6, hkr⟩ := hN.six o n hn
  have c0 : w.cell? ⟨g, o * 6, none⟩ = some (.int .i64 1) := by have := h6 0 _ rfl; rw [hk] at this; exact this
  have c1 := h6 1 _ rfl
  have c2 := h6 2 _ rfl
  have c3 := h6 3 _ rfl
  have c4 := h6 4 _ rfl
  have c5 := h6 5 _ rfl
  clear h6 hN hn hk
  obtain ⟨adk, capk, rfl, hc⟩ := IRow.of hkr
  clear hkr hc
  rw [h1] at c3
  clear h1
  go_enter Tryz.func13, Tryz.ntmps13
  go_wp2
  go_ret
  exact ⟨rfl, bal (brf _) _⟩
set_option maxHeartbeats 1000000 in
theorem rform3 (B : Nat) (g cap : Nat) (L : List Nd) (w : World) (hN : Nodes B 64 (.slice (some ⟨g, 0, none⟩) L.length cap) L w) (o : Nat) (n : Nd) (hn : L[o]? = some n) (hb : L.length ≤ 1000000) (hk : n.kind = 2) (h1 : -9223372036854775808 ≤ n.num) (h2 : n.num ≤ 9223372036854775807) :
    Calls Tryz.prog 13 #[.slice (some ⟨g, 0, none⟩) L.length cap, .int .i64 (o : Int)] w fun e w' => e = .returned (.string ⟨(decI n.num).toArray⟩) ∧ Below w.heap.size w w' := by
  have hol : o < L.length := (List.getElem?_eq_some_iff.1 hn).1
  have ho' : (o : Int) < (L.length : Int) := by omega
  obtain ⟨kv, h6, hkr⟩ := hN.six o n hn
  have c0 : w.cell? ⟨g, o * 6, none⟩ = some (.int .i64 2) := by have := h6 0 _ rfl; rw [hk] at this; exact this
  have c1 := h6 1 _ rfl
  have c2 := h6 2 _ rfl
  have c3 := h6 3 _ rfl
  have c4 := h6 4 _ rfl
  have c5 := h6 5 _ rfl
  clear h6 hN hn hk
  obtain ⟨adk, capk, rfl, hc⟩ := IRow.of hkr
  clear hkr hc
  have hd := rdecimal n.num h1 h2
  clear h1 h2
  go_enter Tryz.func13, Tryz.ntmps13
  go_wp2_with fail
  refine (hd _).mono ?_
  rintro e w1 ⟨rfl, b1⟩
  have B1 : Hid (Below w.heap.size w w1) := (bal (brf w) _).trans ⟨b1.os, b1.tape, b1.output, b1.size, fun k hk => b1.block k (by simp; omega)⟩
  clear b1
  go_wp2
  go_ret
  exact ⟨rfl, B1.out⟩
set_option maxHeartbeats 1000000 in
theorem rform4 (B : Nat) (g cap : Nat) (L : List Nd) (w : World) (hN : Nodes B 64 (.slice (some ⟨g, 0, none⟩) L.length cap) L w) (o : Nat) (n : Nd) (hn : L[o]? = some n) (hb : L.length ≤ 1000000) (hk : n.kind = 3) (h1 : n.text.length ≤ 1000000000) :
    Calls Tryz.prog 13 #[.slice (some ⟨g, 0, none⟩) L.length cap, .int .i64 (o : Int)] w fun e w' => e = .returned (.string ⟨(strT n.text).toArray⟩) ∧ Below w.heap.size w w' := by
  have hol : o < L.length := (List.getElem?_eq_some_iff.1 hn).1
  have ho' : (o : Int) < (L.length : Int) := by omega
  obtain ⟨kv, h6, hkr⟩ := hN.six o n hn
  have c0 : w.cell? ⟨g, o * 6, none⟩ = some (.int .i64 3) := by have := h6 0 _ rfl; rw [hk] at this; exact this
  have c1 := h6 1 _ rfl
  have c2 := h6 2 _ rfl
  have c3 := h6 3 _ rfl
  have c4 := h6 4 _ rfl
  have c5 := h6 5 _ rfl
  clear h6 hN hn hk
  obtain ⟨adk, capk, rfl, hc⟩ := IRow.of hkr
  clear hkr hc
  have hd : ∀ W, Calls Tryz.prog 26 #[.string ⟨n.text.toArray⟩] W fun e w' => e = .returned (.string ⟨(strT n.text).toArray⟩) ∧ Below W.heap.size W w' := fun W => by simpa using rstrT ⟨n.text.toArray⟩ W (by show n.text.toArray.size ≤ _; simpa using h1)
  clear h1
  go_enter Tryz.func13, Tryz.ntmps13
  go_wp2_with fail
  refine (hd _).mono ?_
  rintro e w1 ⟨rfl, b1⟩
  have B1 : Hid (Below w.heap.size w w1) := (bal (brf w) _).trans ⟨b1.os, b1.tape, b1.output, b1.size, fun k hk => b1.block k (by simp; omega)⟩
  clear b1
  go_wp2
  go_ret
  exact ⟨rfl, B1.out⟩
end Go.Proofs.YtgiaflcbiipafabGreatDoor
/-
  notaryref.Form: an array.
-/
namespace Go.Proofs.YtgiaflcbiipafabGreatDoor
open Go.RowKit
set_option linter.unusedVariables false

/-- What is written of the first j kids. -/
def bodyTo (f : Nat → List UInt8) (ks : List Nat) : Nat → List UInt8
  | 0 => []
  | j + 1 => bodyTo f ks j ++ (if j = 0 then [] else [44]) ++ f (ks.getD j 0)

set_option maxRecDepth 4000 in
set_option maxHeartbeats 2000000 in
theorem rformA (B : Nat) (g cap : Nat) (L : List Nd) (w : World) (hN : Nodes B 64 (.slice (some ⟨g, 0, none⟩) L.length cap) L w) (o : Nat) (n : Nd) (hn : L[o]? = some n) (hb : L.length ≤ 1000000) (hk : n.kind = 4) (hkb : n.kids.length ≤ 1000000)
    (f : Nat → List UInt8) (hf : ∀ k ∈ n.kids, ∀ W, Below w.heap.size w W → Calls Tryz.prog 13 #[.slice (some ⟨g, 0, none⟩) L.length cap, .int .i64 (k : Int)] W fun e w' => e = .returned (.string ⟨(f k).toArray⟩) ∧ Below W.heap.size W w')
    (hfb : ∀ j, j ≤ n.kids.length → (bodyTo f n.kids j).length ≤ 1000000000) (hff : ∀ k ∈ n.kids, (f k).length ≤ 1000000000) :
    Calls Tryz.prog 13 #[.slice (some ⟨g, 0, none⟩) L.length cap, .int .i64 (o : Int)] w fun e w' => e = .returned (.string ⟨(91 :: bodyTo f n.kids n.kids.length ++ [93]).toArray⟩) ∧ Below w.heap.size w w' := by
  have hol : o < L.length := (List.getElem?_eq_some_iff.1 hn).1
  have ho' : (o : Int) < (L.length : Int) := by omega
  obtain ⟨kv, h6, hkr⟩ := hN.six o n hn
  have c0 : w.cell? ⟨g, o * 6, none⟩ = some (.int .i64 4) := by have := h6 0 _ rfl; rw [hk] at this; exact this
  have c1 := h6 1 _ rfl
  have c2 := h6 2 _ rfl
  have c3 := h6 3 _ rfl
  have c4 := h6 4 _ rfl
  have c5 := h6 5 _ rfl
  clear h6 hN hn hk
  obtain ⟨adk, capk, rfl, hc⟩ := IRow.of hkr
  have HC : Hid (∀ j k : Nat, n.kids[j]? = some k → ∃ g, adk = some ⟨g, 0, none⟩ ∧ w.cell? ⟨g, j, none⟩ = some (.int .i64 (k : Int))) := hc
  have HF : Hid (∀ k ∈ n.kids, ∀ W, Below w.heap.size w W → Calls Tryz.prog 13 #[.slice (some ⟨g, 0, none⟩) L.length cap, .int .i64 (k : Int)] W fun e w' => e = .returned (.string ⟨(f k).toArray⟩) ∧ Below W.heap.size W w') := hf
  have HFB : Hid (∀ j, j ≤ n.kids.length → (bodyTo f n.kids j).length ≤ 1000000000) := hfb
  have HFF : Hid (∀ k ∈ n.kids, (f k).length ≤ 1000000000) := hff
  clear hkr hc hf hfb hff
  go_enter Tryz.func13, Tryz.ntmps13
  go_wp2_with fail
  have B0 : Hid (Below w.heap.size w (w.alloc (.cells #[.int .i64 4, .string ⟨n.key.toArray⟩, .string ⟨n.text.toArray⟩, .int .i64 n.num, .slice adk n.kids.length capk, .int .i64 (n.at' : Int)] 64))) := bal (brf w) _
  have hk0 : (w.alloc (.cells #[.int .i64 4, .string ⟨n.key.toArray⟩, .string ⟨n.text.toArray⟩, .int .i64 n.num, .slice adk n.kids.length capk, .int .i64 (n.at' : Int)] 64)).cell? ⟨w.heap.size, 0, none⟩ = some (.int .i64 4) := by simp
  generalize w.alloc (.cells #[.int .i64 4, .string ⟨n.key.toArray⟩, .string ⟨n.text.toArray⟩, .int .i64 n.num, .slice adk n.kids.length capk, .int .i64 (n.at' : Int)] 64) = w0 at B0 hk0 ⊢
  have HK0 : Hid _ := hk0
  clear hk0 c0 c1 c2 c3 c4 c5
  go_loopw [7, 9] (fun tv iv wr => ∃ (T : ByteArray) (j : Nat), j ≤ n.kids.length ∧ tv = .string T ∧ iv = .int .i64 (j : Int) ∧ T.data.toList = 91 :: bodyTo f n.kids j ∧ Below w0.heap.size w0 wr) (fun _ iv _ => n.kids.length - (intOf iv).toNat)
  case atStart => exact ⟨⟨#[91]⟩, 0, by omega, rfl, rfl, rfl, brf _⟩
  case round =>
    obtain ⟨T, j, hj, rfl, rfl, hT, hbl⟩ := hrel
    have hTs : T.size ≤ 1000000001 := by
      have h1 := HFB.out j hj
      have h2 : T.size = T.data.toList.length := by simp
      rw [h2, hT, List.length_cons]; omega
    have hkc := cell_keep hbl HK0.out
    have HT : Hid (T.data.toList = 91 :: bodyTo f n.kids j) := hT
    have HBL : Hid (Below w0.heap.size w0 wr) := hbl
    have B1 : Hid (Below w.heap.size w wr) := B0.out.trans ⟨hbl.os, hbl.tape, hbl.output, hbl.size, fun k hk => hbl.block k (Nat.lt_of_lt_of_le hk B0.out.size)⟩
    clear hT hbl
    by_cases hlt : j < n.kids.length
    · have hlt' : (j : Int) < (n.kids.length : Int) := by omega
      obtain ⟨k, hk⟩ : ∃ k, n.kids[j]? = some k := ⟨_, List.getElem?_eq_getElem hlt⟩
      have hkm : k ∈ n.kids := List.mem_of_getElem? hk
      obtain ⟨gk, rfl, hck⟩ := HC.out j k hk
      have hckr := cell_keep B1.out hck
      have hgd : n.kids.getD j 0 = k := by rw [List.getD_eq_getElem?_getD, hk]; rfl
      have hcall := HF.out k hkm wr B1.out
      obtain ⟨F, hF⟩ : ∃ F : ByteArray, (⟨(f k).toArray⟩ : ByteArray) = F := ⟨_, rfl⟩
      have hFl : F.data.toList = f k := by rw [← hF]
      have hFs : F.size ≤ 1000000000 := by rw [← hF]; show (f k).toArray.size ≤ _; simpa using HFF.out k hkm
      rw [hF] at hcall
      have HFL : Hid _ := hFl
      clear hF hFl
      have HGD : Hid _ := hgd
      clear hk hkm hck hgd
      rcases Nat.eq_zero_or_pos j with hj0 | hj0
      · have hj1 : decide (0 < j) = false := by simp; omega
        have hj2 : decide ((0 : Int) < (j : Int)) = false := by simp; omega
        have HJ0 : Hid (j = 0) := hj0
        clear hj0
        go_wp2_with fail
        refine hcall.mono ?_
        rintro e w2 ⟨rfl, b2⟩
        have B2 : Hid (Below w0.heap.size w0 w2) := HBL.out.trans ⟨b2.os, b2.tape, b2.output, b2.size, fun k hk => b2.block k (Nat.lt_of_lt_of_le hk HBL.out.size)⟩
        clear b2 hcall
        go_wp2_with fail
        go_roundw
        case rel =>
          refine ⟨T ++ F, j + 1, by omega, rfl, by go_num, ?_, B2.out⟩
          rw [ByteArray.data_append, Array.toList_append, HT.out, HFL.out, bodyTo, if_pos HJ0.out, HGD.out]; simp
        case measure => simp [intOf]; omega
      · have hj1 : decide (0 < j) = true := by simp; omega
        have hj2 : (0 : Int) < (j : Int) := by omega
        have HJ0 : Hid (0 < j) := hj0
        go_wp2_with fail
        refine hcall.mono ?_
        rintro e w2 ⟨rfl, b2⟩
        have B2 : Hid (Below w0.heap.size w0 w2) := HBL.out.trans ⟨b2.os, b2.tape, b2.output, b2.size, fun k hk => b2.block k (Nat.lt_of_lt_of_le hk HBL.out.size)⟩
        clear b2 hcall
        go_wp2_with fail
        go_roundw
        case rel =>
          refine ⟨T ++ ⟨#[44]⟩ ++ F, j + 1, by omega, rfl, by go_num, ?_, B2.out⟩
          rw [ByteArray.data_append, ByteArray.data_append, Array.toList_append, Array.toList_append, HT.out, HFL.out, bodyTo, if_neg (by have := HJ0.out; omega), HGD.out]; simp
        case measure => simp [intOf]; omega
    · obtain rfl : j = n.kids.length := by omega
      go_wp2_with fail
      go_ret
      refine ⟨?_, B1.out⟩
      have e : T ++ ⟨#[93]⟩ = ⟨(91 :: bodyTo f n.kids n.kids.length ++ [93]).toArray⟩ := by
        apply ByteArray.ext
        rw [ByteArray.data_append]
        apply Array.toList_inj.1
        rw [Array.toList_append, HT.out]
      exact congrArg (fun b => Ending.returned (Value.string b)) e
end Go.Proofs.YtgiaflcbiipafabGreatDoor
