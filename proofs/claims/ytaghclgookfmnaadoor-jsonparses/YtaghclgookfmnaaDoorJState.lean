import Derived.Test.YtaghclgookfmnaaDoorJAddK
/-
  The document's reader: where it stands, and its nodes.
-/
namespace Go.Proofs.YtaghclgookfmnaaDoor
open Go.RowKit
set_option linter.unusedVariables false

def RN (bp : Nat) (s : ByteArray) (i : Nat) (ns : List Nd) (er at' dp : Nat) (w : World) : Prop := ∃ vL, RD bp s i vL er at' dp w ∧ Nodes (bp + 1) 49 vL ns w
def WFk (ns : List Nd) : Prop := ∀ n ∈ ns, n.kids.length ≤ ns.length

theorem Nodes.shape {B : Nat} {tN : TypeId} {v : Value} {ns : List Nd} {w : World} (h : Nodes B tN v ns w) : ∃ ad cap, v = .slice ad ns.length cap := by
  obtain ⟨kvs, _, h2, _⟩ := h
  rcases h2.2 with ⟨a, b⟩ | ⟨g, c, cu, a, _⟩
  · exact ⟨none, 0, by rw [a, b]⟩
  · exact ⟨_, _, a⟩
section
variable {bp : Nat} {s : ByteArray} {i : Nat} {ns : List Nd} {er at' dp : Nat} {w w' : World}
theorem onl_bel (h : Onl bp w w') (hlt : bp < w.heap.size) : Below bp w w' :=
  ⟨h.os, h.tape, h.output, h.size, fun k hk => h.block k (by omega) (fun e => by injection e with e; omega)⟩
end

theorem addKid_wf {ns : List Nd} (h : WFk ns) (up : Option Nat) (nd : Nd) (hk : nd.kids = []) : WFk (addKid ns up ns.length ++ [nd]) := by
  intro n hn
  rw [List.length_append, addKid_length, List.length_singleton]
  rw [List.mem_append] at hn
  rcases hn with hn | hn
  · cases up with
    | none => have := h n hn; omega
    | some u =>
      unfold addKid at hn
      obtain ⟨k, hk2, rfl⟩ := List.getElem_of_mem hn
      rw [List.getElem_modify]
      have hk3 : k < ns.length := by simpa using hk2
      have := h ns[k] (List.getElem_mem hk3)
      split
      · simp; omega
      · omega
  · simp at hn; subst hn; rw [hk]; simp

theorem radd (bp : Nat) (s : ByteArray) (i : Nat) (er at0 dp : Nat) (ns : List Nd) (up : Option Nat) (nd : Nd) (w : World) (h : RN bp s i ns er at0 dp w) (hk : nd.kids = []) (hl : ns.length ≤ 1000000) (hw : WFk ns) (hup : ∀ u, up = some u → u < ns.length) :
    Calls Tryd.prog 21 #[.pointer (some ⟨bp, 0, none⟩), .int .i64 (upV up), ndV nd] w fun r w' => r = .returned (.int .i64 (ns.length : Int)) ∧ RN bp s i (addKid ns up ns.length ++ [nd]) er at0 dp w' ∧ Below bp w w' := by
  obtain ⟨vL, h1, h2⟩ := h
  obtain ⟨ad, cap, rfl⟩ := h2.shape
  cases up with
  | none => exact radd0 bp s i ad cap er at0 dp ns nd w h1 h2 hk (by omega)
  | some u => exact radd1 bp s i ad cap er at0 dp ns nd w h1 h2 hk (by omega) u (hup u rfl) (fun n hn => by have := hw n hn; omega)

/-- What value answers. -/
def VP (bp : Nat) (s : ByteArray) (i : Nat) (ns : List Nd) (up : Option Nat) (key : List UInt8) (at0 dp : Nat) (R : JR JT) (w' : World) : Prop :=
  match R with
  | .ok (t, n) => RN bp s (i + n) (addKid ns up ns.length ++ flat ns.length key t) 0 at0 dp w'
  | .error (e, a) => 0 < e ∧ ∃ j vL, RD bp s j vL e a dp w'

theorem valL_cons (d : Nat) (c : UInt8) (r : List UInt8) (i : Nat) : valL d (c :: r) i =
    if c = 34 then (match quotL (c :: r) with | .error o => .error (2, i + o) | .ok (t, n) => .ok (.str t i, n))
    else if c = 45 ∨ isD c = true then (match intL (c :: r) with | .error (e, o) => .error (e, i + o) | .ok (n, k) => .ok (.int n i, k))
    else if c = 116 ∨ c = 102 ∨ c = 110 then wordL (c :: r) i
    else if c = 91 ∨ c = 123 then
      (match d with
        | 0 => .error (5, i)
        | d + 1 => if c = 91 then arrL (valL d) (c :: r) i else objL (valL d) (c :: r) i)
    else .error (2, i) := by cases d <;> rfl
theorem valL_nil (d i : Nat) : valL d [] i = .error (2, i) := by cases d <;> rfl

theorem str_back (t : ByteArray) : (⟨t.data.toList.toArray⟩ : ByteArray) = t := by cases t; simp

section
variable (bp : Nat) (s : ByteArray) (i : Nat) (ns : List Nd) (up : Option Nat) (key : List UInt8) (at0 dp : Nat) (w : World)

set_option maxRecDepth 4000 in
set_option maxHeartbeats 1000000 in
theorem rval_str (hs : s.size ≤ 65536) (h : RN bp s i ns 0 at0 dp w) (hi : i < s.size) (hc : s[i] = 34) (hl : ns.length ≤ 1000000) (hw : WFk ns) (hup : ∀ u, up = some u → u < ns.length) (d : Nat) :
    Calls Tryd.prog 12 #[.pointer (some ⟨bp, 0, none⟩), .int .i64 (upV up), .string ⟨key.toArray⟩] w fun r w' => r = .returned (.tuple #[]) ∧ VP bp s i ns up key at0 dp (valL d (sfx s i) i) w' ∧ Below bp w w' := by
  obtain ⟨vL, h1, h2⟩ := h
  have hR : valL d (sfx s i) i = (match quotL (sfx s i) with | .error o => .error (2, i + o) | .ok (t, n) => .ok (.str t i, n)) := by
    rw [sfx_cons s i hi, valL_cons, if_pos hc]
  have HR : Hid _ := hR
  have hq := fun w' (h' : RD bp s i vL 0 at0 dp w') => rquoted bp s i vL at0 dp w' (by omega) h'
  have hi' : (i : Int) < (s.size : Int) := by omega
  have hif : decide ((s.size : Int) ≤ (i : Int)) = false := by simp; omega
  have hcb : ((s[i].toNat : Int) == 34) = true := by rw [hc]; rfl
  have hlt := h1.lt
  have HN : Hid (Nodes (bp + 1) 49 vL ns w) := h2
  clear hR h2
  obtain ⟨c0, c1, c2, c3, c4, c5, cf⟩ := h1.cell
  go_enter Tryd.func12, Tryd.ntmps12
  go_wp2_with fail
  go_quiet (fail)
  have h3 := h1.drewN nq
  have O3 : Hid (Onl bp w (w.drewN nq)) := Onl.drewN (onl_refl bp w) nq
  generalize w.drewN nq = w3 at h3 O3
  clear c0 c1 c2 c3 c4 c5 cf nq h1
  obtain ⟨c0, c1, c2, c3, c4, c5, cf⟩ := h3.cell
  go_wp2_with fail
  go_quiet (fail)
  have h4 := h3.drewN nq
  have O4 : Hid (Onl bp w (w3.drewN nq)) := Onl.drewN O3.out nq
  generalize w3.drewN nq = w4 at h4 O4
  clear c0 c1 c2 c3 c4 c5 cf nq h3 O3 w3
  cases hQ : quotL (sfx s i) with
  | ok q =>
    obtain ⟨tt, n⟩ := q
    rw [hQ] at hq
    have HR2 : Hid (valL d (sfx s i) i = .ok (.str tt i, n)) := by have := HR.out; rw [hQ] at this; exact this
    clear hQ HR
    go_wp2_with fail
    refine (hq _ h4).mono ?_
    rintro e w5 ⟨⟨rfl, h5⟩, o5⟩
    have O5 : Hid (Onl bp w w5) := Onl.trans O4.out o5
    have hN5 : Nodes (bp + 1) 49 vL ns w5 := HN.out.onl O5.out (by omega)
    have ha := radd bp s (i + n) 0 at0 dp ns up ⟨3, key, tt, 0, [], i⟩ w5 ⟨vL, h5, hN5⟩ rfl hl hw hup
    unfold ndV at ha
    clear o5 hq h4 O4 h5 hN5 hl hup
    go_wp2_with fail
    refine ha.mono ?_
    rintro e w6 ⟨rfl, h6, hb6⟩
    have H6 : Hid _ := h6
    have B6 : Hid (Below bp w w6) := (onl_bel O5.out hlt).trans hb6
    clear h6 hb6 ha
    go_wp2
    go_end0
    refine ⟨rfl, ?_, B6.out⟩
    rw [HR2.out]
    exact H6.out
  | error o =>
    rw [hQ] at hq
    have HR2 : Hid (valL d (sfx s i) i = .error (2, i + o)) := by have := HR.out; rw [hQ] at this; exact this
    clear hQ HR
    go_wp2_with fail
    refine (hq _ h4).mono ?_
    rintro e w5 ⟨⟨⟨tt, rfl⟩, j, h5⟩, o5⟩
    have O5 : Hid (Onl bp w w5) := Onl.trans O4.out o5
    have hN5 : Nodes (bp + 1) 49 vL ns w5 := HN.out.onl O5.out (by omega)
    have ha := radd bp s j 2 (i + o) dp ns up ⟨3, key, tt.data.toList, 0, [], i⟩ w5 ⟨vL, h5, hN5⟩ rfl hl hw hup
    unfold ndV at ha
    dsimp only at ha
    rw [str_back] at ha
    clear o5 hq h4 O4 h5 hN5 hl hup
    go_wp2_with fail
    refine ha.mono ?_
    rintro e w6 ⟨rfl, ⟨v6, h6, _⟩, hb6⟩
    have H6 : Hid _ := h6
    have B6 : Hid (Below bp w w6) := (onl_bel O5.out hlt).trans hb6
    clear h6 hb6 ha
    go_wp2
    go_end0
    refine ⟨rfl, ?_, B6.out⟩
    rw [HR2.out]
    exact ⟨by omega, _, _, H6.out⟩
end
end Go.Proofs.YtaghclgookfmnaaDoor
