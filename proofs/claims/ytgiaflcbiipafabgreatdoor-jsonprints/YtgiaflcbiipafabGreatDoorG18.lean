/-
  Joined by program: JFormO, JFormR.
-/
import Derived.Test.YtgiaflcbiipafabGreatDoorG17
/-
  notaryref.Form: an object.
-/
namespace Go.Proofs.YtgiaflcbiipafabGreatDoor
open Go.RowKit
set_option linter.unusedVariables false

/-- A member: its name, a colon, its value. -/
def memF (L : List Nd) (f : Nat → List UInt8) (k : Nat) : List UInt8 := strT (keyL L k) ++ 58 :: f k

set_option maxRecDepth 4000 in
set_option maxHeartbeats 2000000 in
theorem rformO (B : Nat) (g cap : Nat) (L : List Nd) (w : World) (hN : Nodes B 64 (.slice (some ⟨g, 0, none⟩) L.length cap) L w) (o : Nat) (n : Nd) (hn : L[o]? = some n) (hb : L.length ≤ 1000000) (hk : n.kind = 5) (hkb : n.kids.length ≤ 1000000)
    (f : Nat → List UInt8) (hf : ∀ k ∈ n.kids, ∀ W, Below w.heap.size w W → Calls Tryz.prog 13 #[.slice (some ⟨g, 0, none⟩) L.length cap, .int .i64 (k : Int)] W fun e w' => e = .returned (.string ⟨(f k).toArray⟩) ∧ Below W.heap.size W w')
    (hks : ∀ k ∈ n.kids, k < L.length) (hkey : ∀ (k : Nat) (m : Nd), L[k]? = some m → m.key.length ≤ 100000000)
    (hfb : ∀ j, j ≤ n.kids.length → (bodyTo (memF L f) (srt (ltK L) n.kids) j).length ≤ 1000000000) (hff : ∀ k ∈ n.kids, (f k).length ≤ 1000000000) :
    Calls Tryz.prog 13 #[.slice (some ⟨g, 0, none⟩) L.length cap, .int .i64 (o : Int)] w fun e w' => e = .returned (.string ⟨(123 :: bodyTo (memF L f) (srt (ltK L) n.kids) n.kids.length ++ [125]).toArray⟩) ∧ Below w.heap.size w w' := by
  have hol : o < L.length := (List.getElem?_eq_some_iff.1 hn).1
  have ho' : (o : Int) < (L.length : Int) := by omega
  obtain ⟨kv, h6, hkr⟩ := hN.six o n hn
  have c0 : w.cell? ⟨g, o * 6, none⟩ = some (.int .i64 5) := by have := h6 0 _ rfl; rw [hk] at this; exact this
  have c1 := h6 1 _ rfl
  have c2 := h6 2 _ rfl
  have c3 := h6 3 _ rfl
  have c4 := h6 4 _ rfl
  have c5 := h6 5 _ rfl
  have HN : Hid (Nodes B 64 (.slice (some ⟨g, 0, none⟩) L.length cap) L w) := hN
  have HNN : Hid (L[o]? = some n) := hn
  have HKS : Hid (∀ k ∈ n.kids, k < L.length) := hks
  have HKEY : Hid (∀ (k : Nat) (m : Nd), L[k]? = some m → m.key.length ≤ 100000000) := hkey
  clear h6 hN hn hk hks hkey
  obtain ⟨adk, capk, rfl, hc⟩ := IRow.of hkr
  have HF : Hid (∀ k ∈ n.kids, ∀ W, Below w.heap.size w W → Calls Tryz.prog 13 #[.slice (some ⟨g, 0, none⟩) L.length cap, .int .i64 (k : Int)] W fun e w' => e = .returned (.string ⟨(f k).toArray⟩) ∧ Below W.heap.size W w') := hf
  have HFB : Hid (∀ j, j ≤ n.kids.length → (bodyTo (memF L f) (srt (ltK L) n.kids) j).length ≤ 1000000000) := hfb
  have HFF : Hid (∀ k ∈ n.kids, (f k).length ≤ 1000000000) := hff
  clear hkr hc hf hfb hff
  go_enter Tryz.func13, Tryz.ntmps13
  go_wp2_with fail
  have B0 : Hid (Below w.heap.size w (w.alloc (.cells #[.int .i64 5, .string ⟨n.key.toArray⟩, .string ⟨n.text.toArray⟩, .int .i64 n.num, .slice adk n.kids.length capk, .int .i64 (n.at' : Int)] 64))) := bal (brf w) _
  have hk0 : (w.alloc (.cells #[.int .i64 5, .string ⟨n.key.toArray⟩, .string ⟨n.text.toArray⟩, .int .i64 n.num, .slice adk n.kids.length capk, .int .i64 (n.at' : Int)] 64)).cell? ⟨w.heap.size, 0, none⟩ = some (.int .i64 5) := by simp
  generalize w.alloc (.cells #[.int .i64 5, .string ⟨n.key.toArray⟩, .string ⟨n.text.toArray⟩, .int .i64 n.num, .slice adk n.kids.length capk, .int .i64 (n.at' : Int)] 64) = w0 at B0 hk0 ⊢
  have HK0 : Hid _ := hk0
  clear hk0 c0 c1 c2 c3 c4 c5
  have hmem := rmembers B (.slice (some ⟨g, 0, none⟩) L.length cap) L w0 (HN.out.kept fun g' _ h' => B0.out.block g' h') o n HNN.out HKS.out hb hkb (fun k m h => Nat.le_trans (HKEY.out k m h) (by decide))
  refine hmem.mono ?_
  rintro e w1 ⟨v1, rfl, r1, b1⟩
  obtain ⟨ks, hks⟩ : ∃ ks, srt (ltK L) n.kids = ks := ⟨_, rfl⟩
  have hsl : ks.length = n.kids.length := by rw [← hks]; exact srt_len _ _
  rw [hks, ← hsl] at r1
  obtain ⟨ad1, cap1, rfl, c1⟩ := IRow.of r1
  have HC : Hid (∀ j k : Nat, ks[j]? = some k → ∃ g, ad1 = some ⟨g, 0, none⟩ ∧ w1.cell? ⟨g, j, none⟩ = some (.int .i64 (k : Int))) := c1
  have HK1 : Hid (w1.cell? ⟨w.heap.size, 0, none⟩ = some (.int .i64 5)) := cell_keep b1 HK0.out
  have B1 : Hid (Below w.heap.size w w1) := B0.out.trans ⟨b1.os, b1.tape, b1.output, b1.size, fun k hk => b1.block k (Nat.lt_of_lt_of_le hk B0.out.size)⟩
  have HQ : Hid (∀ (k : Nat) (m : Nd), L[k]? = some m → w1.cell? ⟨g, k * 6 + 1, none⟩ = some (.string ⟨m.key.toArray⟩)) := fun k m h => cell_keep B1.out (HN.out.cells.1 k m h)
  have HSM : Hid (∀ k ∈ ks, k ∈ n.kids) := fun k hk => srt_mem (ltK L) n.kids k (by rw [hks]; exact hk)
  have HFB' : Hid (∀ j, j ≤ ks.length → (bodyTo (memF L f) ks j).length ≤ 1000000000) := fun j hj => by have := HFB.out j (by omega); rwa [hks] at this
  have HKE : Hid (srt (ltK L) n.kids = ks ∧ ks.length = n.kids.length) := ⟨hks, hsl⟩
  have hkb' : ks.length ≤ 1000000 := by omega
  clear r1 c1 b1 hmem HN HNN HK0 B0 HFB hks hsl
  go_wp2_with fail
  go_loopw [7, 9] (fun tv iv wr => ∃ (T : ByteArray) (j : Nat), j ≤ ks.length ∧ tv = .string T ∧ iv = .int .i64 (j : Int) ∧ T.data.toList = 123 :: bodyTo (memF L f) ks j ∧ Below w1.heap.size w1 wr) (fun _ iv _ => ks.length - (intOf iv).toNat)
  case atStart => exact ⟨⟨#[123]⟩, 0, by omega, rfl, rfl, rfl, brf _⟩
  case round =>
    obtain ⟨T, j, hj, rfl, rfl, hT, hbl⟩ := hrel
    have hTs : T.size ≤ 1000000001 := by
      have h1 := HFB'.out j hj
      have h2 : T.size = T.data.toList.length := by simp
      rw [h2, hT, List.length_cons]; omega
    have hkc := cell_keep hbl HK1.out
    have HT : Hid (T.data.toList = 123 :: bodyTo (memF L f) ks j) := hT
    have HBL : Hid (Below w1.heap.size w1 wr) := hbl
    have B2 : Hid (Below w.heap.size w wr) := B1.out.trans ⟨hbl.os, hbl.tape, hbl.output, hbl.size, fun k hk => hbl.block k (Nat.lt_of_lt_of_le hk B1.out.size)⟩
    clear hT hbl
    by_cases hlt : j < ks.length
    · have hlt' : (j : Int) < (ks.length : Int) := by omega
      obtain ⟨k, hk⟩ : ∃ k, ks[j]? = some k := ⟨_, List.getElem?_eq_getElem hlt⟩
      have hkm : k ∈ n.kids := HSM.out k (List.mem_of_getElem? hk)
      have hkl := HKS.out k hkm
      have hkl' : (k : Int) < (L.length : Int) := by omega
      obtain ⟨m, hm⟩ : ∃ m, L[k]? = some m := ⟨_, List.getElem?_eq_getElem hkl⟩
      obtain ⟨gk, rfl, hck⟩ := HC.out j k hk
      have hckr := cell_keep HBL.out hck
      have hkey := cell_keep HBL.out (HQ.out k m hm)
      have hgd : ks.getD j 0 = k := by rw [List.getD_eq_getElem?_getD, hk]; rfl
      obtain ⟨F, hF⟩ : ∃ F : ByteArray, (⟨(f k).toArray⟩ : ByteArray) = F := ⟨_, rfl⟩
      have hFl : F.data.toList = f k := by rw [← hF]
      have hFs : F.size ≤ 1000000000 := by rw [← hF]; show (f k).toArray.size ≤ _; simpa using HFF.out k hkm
      have hcall := HF.out k hkm
      rw [hF] at hcall
      have HCALL : Hid _ := hcall
      obtain ⟨N, hNn⟩ : ∃ N : ByteArray, (⟨(strT m.key).toArray⟩ : ByteArray) = N := ⟨_, rfl⟩
      have hNl : N.data.toList = strT (keyL L k) := by rw [← hNn, keyL_of hm]
      have hNs : N.size ≤ 1000000000 := by
        rw [← hNn]; show (strT m.key).toArray.size ≤ _
        have h1 := sgnsL_len m.key
        have h2 := HKEY.out k m hm
        simp [strT]; omega
      have hstr : ∀ W, Calls Tryz.prog 26 #[.string ⟨m.key.toArray⟩] W fun e w' => e = .returned (.string N) ∧ Below W.heap.size W w' := fun W => by
        have h2 := HKEY.out k m hm
        rw [← hNn]; simpa using rstrT ⟨m.key.toArray⟩ W (by show m.key.toArray.size ≤ _; simp; omega)
      have HFL : Hid (F.data.toList = f k ∧ N.data.toList = strT (keyL L k)) := ⟨hFl, hNl⟩
      have HGD : Hid _ := hgd
      clear hF hFl hk hkm hck hgd hcall hNn hNl hm hkl
      rcases Nat.eq_zero_or_pos j with hj0 | hj0
      · have hj1 : decide (0 < j) = false := by simp; omega
        have hj2 : decide ((0 : Int) < (j : Int)) = false := by simp; omega
        have HJ0 : Hid (j = 0) := hj0
        clear hj0
        go_wp2_with fail
        refine (hstr _).mono ?_
        rintro e w2 ⟨rfl, b2⟩
        have B3 : Hid (Below w1.heap.size w1 w2) := HBL.out.trans ⟨b2.os, b2.tape, b2.output, b2.size, fun k hk => b2.block k (Nat.lt_of_lt_of_le hk HBL.out.size)⟩
        have hckr2 := cell_keep b2 hckr
        have HB : Below w.heap.size w w2 := B2.out.trans ⟨b2.os, b2.tape, b2.output, b2.size, fun k hk => b2.block k (Nat.lt_of_lt_of_le hk B2.out.size)⟩
        have hcall := HCALL.out w2 HB
        clear b2 hstr hckr hkey hkc HB HCALL HBL
        go_wp2_with fail
        refine hcall.mono ?_
        rintro e w3 ⟨rfl, b3⟩
        have B4 : Hid (Below w1.heap.size w1 w3) := B3.out.trans ⟨b3.os, b3.tape, b3.output, b3.size, fun k hk => b3.block k (Nat.lt_of_lt_of_le hk B3.out.size)⟩
        clear b3 hcall
        go_wp2_with fail
        go_roundw
        case rel =>
          refine ⟨T ++ N ++ ⟨#[58]⟩ ++ F, j + 1, by omega, rfl, by go_num, ?_, B4.out⟩
          simp only [ByteArray.data_append, Array.toList_append]
          rw [HT.out, HFL.out.1, HFL.out.2, bodyTo, if_pos HJ0.out, HGD.out, memF]; simp
        case measure => simp [intOf]; omega
      · have hj1 : decide (0 < j) = true := by simp; omega
        have hj2 : (0 : Int) < (j : Int) := by omega
        have HJ0 : Hid (0 < j) := hj0
        go_wp2_with fail
        refine (hstr _).mono ?_
        rintro e w2 ⟨rfl, b2⟩
        have B3 : Hid (Below w1.heap.size w1 w2) := HBL.out.trans ⟨b2.os, b2.tape, b2.output, b2.size, fun k hk => b2.block k (Nat.lt_of_lt_of_le hk HBL.out.size)⟩
        have hckr2 := cell_keep b2 hckr
        have HB : Below w.heap.size w w2 := B2.out.trans ⟨b2.os, b2.tape, b2.output, b2.size, fun k hk => b2.block k (Nat.lt_of_lt_of_le hk B2.out.size)⟩
        have hcall := HCALL.out w2 HB
        clear b2 hstr hckr hkey hkc HB HCALL HBL
        go_wp2_with fail
        refine hcall.mono ?_
        rintro e w3 ⟨rfl, b3⟩
        have B4 : Hid (Below w1.heap.size w1 w3) := B3.out.trans ⟨b3.os, b3.tape, b3.output, b3.size, fun k hk => b3.block k (Nat.lt_of_lt_of_le hk B3.out.size)⟩
        clear b3 hcall
        go_wp2_with fail
        go_roundw
        case rel =>
          refine ⟨T ++ ⟨#[44]⟩ ++ N ++ ⟨#[58]⟩ ++ F, j + 1, by omega, rfl, by go_num, ?_, B4.out⟩
          simp only [ByteArray.data_append, Array.toList_append]
          rw [HT.out, HFL.out.1, HFL.out.2, bodyTo, if_neg (by have := HJ0.out; omega), HGD.out, memF]; simp
        case measure => simp [intOf]; omega
    · obtain rfl : j = ks.length := by omega
      go_wp2_with fail
      go_ret
      refine ⟨?_, B2.out⟩
      have e : T ++ ⟨#[125]⟩ = ⟨(123 :: bodyTo (memF L f) (srt (ltK L) n.kids) n.kids.length ++ [125]).toArray⟩ := by
        apply ByteArray.ext
        rw [ByteArray.data_append]
        apply Array.toList_inj.1
        rw [Array.toList_append, HT.out, HKE.out.1, HKE.out.2]
      exact congrArg (fun b => Ending.returned (Value.string b)) e
end Go.Proofs.YtgiaflcbiipafabGreatDoor
/-
  notaryref.Form, whole.
-/
namespace Go.Proofs.YtgiaflcbiipafabGreatDoor
open Go.RowKit
set_option linter.unusedVariables false

/-- A node's one form; f: more than the nodes from it on. -/
def formN (L : List Nd) : Nat → Nat → List UInt8
  | 0, _ => []
  | f + 1, k =>
    match L[k]? with
    | none => []
    | some n =>
      if n.kind = 0 then [110, 117, 108, 108]
      else if n.kind = 1 then (if n.num = 1 then [116, 114, 117, 101] else [102, 97, 108, 115, 101])
      else if n.kind = 2 then decI n.num
      else if n.kind = 3 then strT n.text
      else if n.kind = 4 then 91 :: bodyTo (formN L f) n.kids n.kids.length ++ [93]
      else 123 :: bodyTo (memF L (formN L f)) (srt (ltK L) n.kids) n.kids.length ++ [125]

/-- Nodes as a reader makes them. -/
structure WFN (L : List Nd) : Prop where
  len : L.length ≤ 1000000
  kind : ∀ (k : Nat) (n : Nd), L[k]? = some n → n.kind ≤ 5
  truth : ∀ (k : Nat) (n : Nd), L[k]? = some n → n.kind = 1 → n.num = 0 ∨ n.num = 1
  lo : ∀ (k : Nat) (n : Nd), L[k]? = some n → -9223372036854775808 ≤ n.num
  hi : ∀ (k : Nat) (n : Nd), L[k]? = some n → n.num ≤ 9223372036854775807
  text : ∀ (k : Nat) (n : Nd), L[k]? = some n → n.text.length ≤ 100000000
  key : ∀ (k : Nat) (n : Nd), L[k]? = some n → n.key.length ≤ 100000000
  few : ∀ (k : Nat) (n : Nd), L[k]? = some n → n.kids.length ≤ 1000000
  kids : ∀ (k : Nat) (n : Nd), L[k]? = some n → ∀ c ∈ n.kids, k < c ∧ c < L.length
/-- What is written is not too long. -/
structure Short (L : List Nd) : Prop where
  one : ∀ (f k : Nat), (formN L f k).length ≤ 1000000000
  arr : ∀ (f k : Nat) (n : Nd), L[k]? = some n → n.kind = 4 → ∀ j, j ≤ n.kids.length → (bodyTo (formN L f) n.kids j).length ≤ 1000000000
  obj : ∀ (f k : Nat) (n : Nd), L[k]? = some n → n.kind = 5 → ∀ j, j ≤ n.kids.length → (bodyTo (memF L (formN L f)) (srt (ltK L) n.kids) j).length ≤ 1000000000

theorem rform (B g cap : Nat) (L : List Nd) (hW : WFN L) (hS : Short L) : ∀ (f k : Nat), k < L.length → L.length - k ≤ f → ∀ w, Nodes B 64 (.slice (some ⟨g, 0, none⟩) L.length cap) L w →
    Calls Tryz.prog 13 #[.slice (some ⟨g, 0, none⟩) L.length cap, .int .i64 (k : Int)] w fun e w' => e = .returned (.string ⟨(formN L f k).toArray⟩) ∧ Below w.heap.size w w' := by
  intro f
  induction f with
  | zero => intro k hk hf; omega
  | succ f ih =>
    intro k hk hf w hN
    obtain ⟨n, hn⟩ : ∃ n, L[k]? = some n := ⟨_, List.getElem?_eq_getElem hk⟩
    have hkind := hW.kind k n hn
    have hkids := hW.kids k n hn
    have hrec : ∀ c ∈ n.kids, ∀ W, Below w.heap.size w W → Calls Tryz.prog 13 #[.slice (some ⟨g, 0, none⟩) L.length cap, .int .i64 (c : Int)] W fun e w' => e = .returned (.string ⟨(formN L f c).toArray⟩) ∧ Below W.heap.size W w' := by
      intro c hc W hB
      obtain ⟨h1, h2⟩ := hkids c hc
      exact ih c h2 (by omega) W (hN.kept fun g' _ h' => hB.block g' h')
    unfold formN
    rw [hn]
    simp only
    by_cases h0 : n.kind = 0
    · rw [if_pos h0]; exact rform0 B g cap L w hN k n hn hW.len h0
    rw [if_neg h0]
    by_cases h1 : n.kind = 1
    · rw [if_pos h1]
      rcases hW.truth k n hn h1 with h | h
      · rw [if_neg (by omega)]; exact rform2 B g cap L w hN k n hn hW.len h1 h
      · rw [if_pos h]; exact rform1 B g cap L w hN k n hn hW.len h1 h
    rw [if_neg h1]
    by_cases h2 : n.kind = 2
    · rw [if_pos h2]; exact rform3 B g cap L w hN k n hn hW.len h2 (hW.lo k n hn) (hW.hi k n hn)
    rw [if_neg h2]
    by_cases h3 : n.kind = 3
    · rw [if_pos h3]; exact rform4 B g cap L w hN k n hn hW.len h3 (Nat.le_trans (hW.text k n hn) (by decide))
    rw [if_neg h3]
    by_cases h4 : n.kind = 4
    · rw [if_pos h4]; exact rformA B g cap L w hN k n hn hW.len h4 (hW.few k n hn) (formN L f) hrec (hS.arr f k n hn h4) (fun c _ => hS.one f c)
    rw [if_neg h4]
    have h5 : n.kind = 5 := by omega
    exact rformO B g cap L w hN k n hn hW.len h5 (hW.few k n hn) (formN L f) hrec (fun c hc => (hkids c hc).2) hW.key (hS.obj f k n hn h5) (fun c _ => hS.one f c)
end Go.Proofs.YtgiaflcbiipafabGreatDoor
