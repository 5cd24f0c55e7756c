import Derived.Test.YtoijppmkkhgkdacGreatDoorX6
import Derived.Test.YtoijppmkkhgkdacGreatDoorShelfG
import Derived.Lib.OwnBridge
/-
  The code's order of an object's kids: the library's sort.
-/
namespace Go.Proofs.YtoijppmkkhgkdacGreatDoor
open Go.RowKit Go.Sort
set_option linter.unusedVariables false

set_option maxRecDepth 4000 in
set_option maxHeartbeats 1000000 in
/-- The function that is handed to the sort. -/
theorem ccloses (v1 v2 : Value) (k1 k2 : Nat) (xs ys : List Nat) (w : World) (h1 : UR v1 xs w) (h2 : UR v2 ys w) (hx : xs.length ≤ 1000000) (hy : ys.length ≤ 1000000) (hk : ∀ os, UR v1 xs (grow w os) ∧ UR v2 ys (grow w os)) :
    Calls Tryz.prog 49 #[.agg #[v1, .int .i64 (k1 : Int)], .agg #[v2, .int .i64 (k2 : Int)]] w fun e w' => e = .returned (.int .i64 (cmpU xs ys)) ∧ ∃ q os', w' = grow (w.drewN q) os' := by
  obtain ⟨ad1, cap1, rfl⟩ := h1.shape
  obtain ⟨ad2, cap2, rfl⟩ := h2.shape
  have HK : Hid _ := hk
  clear h1 h2 hk
  go_enter Tryz.func49, Tryz.ntmps49
  go_wp2_with fail
  refine (ccompare _ _ xs ys _ ?_ ?_ hx hy).mono ?_
  · rw [alloc_eq_grow, alloc_eq_grow, grow_grow]; exact (HK.out _).1
  · rw [alloc_eq_grow, alloc_eq_grow, grow_grow]; exact (HK.out _).2
  rintro e w' ⟨rfl, rfl⟩
  go_wp2
  go_ret
  exact ⟨rfl, 0, _, by rw [alloc_eq_grow, alloc_eq_grow, grow_grow]; rfl⟩
/-- The members' cells. -/
def memC : List Nat → List Value → List Value
  | k :: ks, u :: us => u :: iV k :: memC ks us
  | _, _ => []
theorem memC_len : ∀ (ks : List Nat) (us : List Value), us.length = ks.length → (memC ks us).length = ks.length * 2
  | [], [], _ => rfl
  | k :: ks, u :: us, h => by
    simp only [memC, List.length_cons]
    rw [memC_len ks us (by simpa using h)]; omega
theorem memC_at : ∀ (ks : List Nat) (us : List Value) (i k : Nat) (u : Value), ks[i]? = some k → us[i]? = some u → (memC ks us)[i * 2]? = some u ∧ (memC ks us)[i * 2 + 1]? = some (iV k)
  | [], _, i, k, u, h, _ => by simp at h
  | _ :: _, [], i, k, u, _, h => by simp at h
  | a :: ks, b :: us, 0, k, u, h, h' => by
    simp at h h'; subst h; subst h'; exact ⟨rfl, rfl⟩
  | a :: ks, b :: us, i + 1, k, u, h, h' => by
    have := memC_at ks us i k u (by simpa using h) (by simpa using h')
    have e1 : (i + 1) * 2 = i * 2 + 1 + 1 := by omega
    rw [e1]
    simp only [memC, List.getElem?_cons_succ]
    exact this
theorem memC_snoc : ∀ (ks : List Nat) (us : List Value) (k : Nat) (u : Value), us.length = ks.length → memC (ks ++ [k]) (us ++ [u]) = memC ks us ++ [u, iV k]
  | [], [], k, u, _ => rfl
  | a :: ks, b :: us, k, u, h => by
    simp only [List.cons_append, memC]
    rw [memC_snoc ks us k u (by simpa using h)]
theorem UR.of {w : World} {B : Nat} {v : Value} {xs : List Nat} (h : w.ownsRow B 82 1 v xs.length (xs.map uV)) : UR v xs w := by
  refine ⟨?_, fun j x hx => ?_⟩
  · rcases h.2 with ⟨a, b⟩ | ⟨g, c, cu, a, _⟩
    · exact ⟨none, 0, by rw [a, b]⟩
    · exact ⟨_, _, a⟩
  · rcases h.2 with ⟨a, b⟩ | ⟨g, c, cu, a, _⟩
    · have := (List.getElem?_eq_some_iff.1 hx).1; omega
    · refine ⟨g, c, a, ?_⟩
      have := h.cells (g := g) (by rw [a]; rfl) j (uV x) (by rw [List.getElem?_map, hx]; rfl)
      have hadd : (⟨g, 0, none⟩ : Addr).add j = ⟨g, j, none⟩ := by unfold Addr.add; split <;> simp_all
      rwa [hadd] at this
theorem UR.kept {v : Value} {xs : List Nat} {w w' : World} (h : UR v xs w) (hk : ∀ g, v.ownBlock = some g → ∀ j, w'.cell? ⟨g, j, none⟩ = w.cell? ⟨g, j, none⟩) : UR v xs w' := by
  refine ⟨h.shape, fun j x hx => ?_⟩
  obtain ⟨g, cap, e, hc⟩ := h.at' j x hx
  exact ⟨g, cap, e, by rw [hk g (by rw [e]; rfl)]; exact hc⟩
theorem ext_all {α : Type} (a : Array α) (n : Nat) (h : a.size = n) : a.extract 0 n = a := by subst h; simp
theorem aheadU_swo (n : Nat) (f : Fin n → List Nat) : SWO (ltOf fun x y : Fin n => cmpU (f x) (f y)) := by
  have e : ∀ x y, ltOf (fun x y : Fin n => cmpU (f x) (f y)) x y = aheadU (f x) (f y) := fun x y => cmpU_ahead _ _
  refine ⟨fun x => ?_, fun x y z h1 h2 => ?_, fun x y z h1 h2 => ?_⟩
  · rw [e]; exact aheadU_irr _
  · rw [e] at *; exact aheadU_trans _ _ _ h1 h2
  · rw [e] at *
    by_cases h3 : aheadU (f x) (f z) = true
    · exfalso
      by_cases hxy : f x = f y
      · rw [hxy] at h3; rw [h3] at h2; cases h2
      · have := aheadU_tot _ _ hxy h1
        have := aheadU_trans _ _ _ this h3
        rw [this] at h2; cases h2
    · simpa using h3
set_option maxHeartbeats 2000000 in
/-- The sort: the kids, rising by their names. -/
theorem csort (L : List Nd) (ks : List Nat) (us : List Value) (B g cap : Nat) (w : World) (hl : us.length = ks.length) (h0 : 0 < ks.length) (hn : ks.length ≤ 1000000)
    (row : w.ownsRow B 79 2 (.slice (some ⟨g, 0, none⟩) ks.length cap) ks.length (memC ks us))
    (un : ∀ (i k : Nat) (u : Value), ks[i]? = some k → us[i]? = some u → w.ownsRow B 82 1 u (unitsL (keyL L k)).length ((unitsL (keyL L k)).map uV))
    (hu : ∀ c ∈ ks, U8 (keyL L c)) (hd : ks.Pairwise (fun a b => keyL L a ≠ keyL L b)) (hkey : ∀ c ∈ ks, (keyL L c).length ≤ 65536) :
    Calls Tryz.prog 48 #[.slice (some ⟨g, 0, none⟩) ks.length cap, .func (.func 49) #[] #[]] w fun e w' =>
      e = .returned (.tuple #[]) ∧ Below B w w' ∧ ∀ i k, (srt (ltK L) ks)[i]? = some k → ∃ a m c, w'.cell? ⟨g, i * 2, none⟩ = some (.slice a m c) ∧ w'.cell? ⟨g, i * 2 + 1, none⟩ = some (iV k) := by
  haveI : Inhabited (Fin ks.length) := ⟨⟨0, h0⟩⟩
  have hus : ∀ i : Fin ks.length, i.1 < us.length := fun i => by rw [hl]; exact i.2
  let enc : Fin ks.length → List Value := fun i => [us[i.1]'(hus i), iV ks[i.1]]
  let cf : Fin ks.length → Fin ks.length → Int := fun x y => cmpU (unitsL (keyL L ks[x.1])) (unitsL (keyL L ks[y.1]))
  let d : Array (Fin ks.length) := Array.ofFn id
  have hds : d.size = ks.length := by simp [d]
  have hdg : ∀ i (h : i < ks.length), d[i]! = ⟨i, h⟩ := fun i h => by
    rw [getElem!_pos d i (by omega)]; simp [d]
  obtain ⟨b1, b2, cur, hcur⟩ := ownBlock_lt row (g := g) rfl
  have hadd : ∀ j, (⟨g, 0, none⟩ : Addr).add j = ⟨g, j, none⟩ := fun j => by unfold Addr.add; split <;> simp_all
  have hH : HoldsK enc 2 w g 0 d := by
    intro t ht
    rw [size_flatK, hds] at ht
    rw [get_flatK enc 2 d t (by omega), Nat.zero_add]
    have hi : t / 2 < ks.length := by omega
    rw [hdg _ hi]
    refine ⟨?_, by simp [World.frozen?, hcur]⟩
    have hm := memC_at ks us (t / 2) _ _ (List.getElem?_eq_getElem hi) (List.getElem?_eq_getElem (hus ⟨t / 2, hi⟩))
    rcases Nat.mod_two_eq_zero_or_one t with h2 | h2
    · have e : t = t / 2 * 2 := by omega
      have := row.cells (g := g) rfl (t / 2 * 2) _ hm.1
      rw [hadd, ← e] at this
      rw [this, h2]; rfl
    · have e : t = t / 2 * 2 + 1 := by omega
      have := row.cells (g := g) rfl (t / 2 * 2 + 1) _ hm.2
      rw [hadd, ← e] at this
      rw [this, h2]; rfl
  have hul : ∀ i : Fin ks.length, (unitsL (keyL L ks[i.1])).length ≤ 1000000 := fun i => by
    have h1 := unitsL_len (keyL L ks[i.1])
    have h2 := hkey ks[i.1] (List.getElem_mem i.2)
    omega
  have hur : ∀ i : Fin ks.length, w.ownsRow B 82 1 (us[i.1]'(hus i)) (unitsL (keyL L ks[i.1])).length ((unitsL (keyL L ks[i.1])).map uV) := fun i =>
    un i.1 _ _ (List.getElem?_eq_getElem i.2) (List.getElem?_eq_getElem (hus i))
  have hne : ∀ (i : Fin ks.length) (b : Nat), (us[i.1]'(hus i)).ownBlock = some b → b ≠ g ∧ b < w.heap.size := fun i b hb => by
    obtain ⟨c1, c2, cur2, hc2⟩ := ownBlock_lt (hur i) hb
    refine ⟨fun e => ?_, c2⟩
    subst e
    rw [hcur] at hc2
    injection hc2 with hc2
    injection hc2 with _ hc2 _
    exact absurd hc2 (by decide)
  have hcmp : CmpLays Tryz.prog 49 #[] enc 2 cf g 0 d.size w := by
    intro m os dk _ x y
    have hk : ∀ (i : Fin ks.length) (os' : Array Obj), UR (us[i.1]'(hus i)) (unitsL (keyL L ks[i.1])) (grow (sortWorldK enc 2 w g 0 m dk os) os') := fun i os' => by
      refine (UR.of (hur i)).kept fun b hb j => ?_
      obtain ⟨n1, n2⟩ := hne i b hb
      rw [cell?_grow _ _ _ (by exact Nat.lt_of_lt_of_le n2 (size_sortWorldK_c enc 2 w g 0 m dk os)), cell?_sortWorldK_other enc 2 w g 0 m dk os _ n1 n2]
    have hk0 : ∀ (i : Fin ks.length), UR (us[i.1]'(hus i)) (unitsL (keyL L ks[i.1])) (sortWorldK enc 2 w g 0 m dk os) := fun i => by
      refine (UR.of (hur i)).kept fun b hb j => ?_
      obtain ⟨n1, n2⟩ := hne i b hb
      rw [cell?_sortWorldK_other enc 2 w g 0 m dk os _ n1 n2]
    exact ccloses _ _ ks[x.1] ks[y.1] _ _ _ (hk0 x) (hk0 y) (hul x) (hul y) (fun os' => ⟨hk x os', hk y os'⟩)
  have eg : ∀ args w, (callFunc 49 args).run Tryz.prog w = .ok (.enter 49 args) w := enters_of Tryz.func49 (by kernel_rfl) rfl
  have h1 : ∀ x, ∀ v ∈ enc x, v.oneCell' = true := fun x v hv => by
    rcases List.mem_cons.1 hv with rfl | hv
    · obtain ⟨a, c, e⟩ := (UR.of (hur x)).shape
      rw [e]; rfl
    · rw [List.mem_singleton.1 hv]; rfl
  have hcon := AnyQ.slices_SortFunc Tryz.sortM 2 Tryz.isAgg79 Tryz.sizeOf79 enc (fun _ => rfl) h1 cf (aheadU_swo _ _) 49 #[] g 0 cap d w eg hcmp hH b2 (by rw [hds]; omega)
  rw [hds] at hcon
  refine Calls.mono hcon ?_
  rintro e w' ⟨rfl, d', nn, os, hp, hs, rfl⟩
  obtain ⟨p1, _, p3⟩ := hp
  have hd's : d'.size = ks.length := p1.trans hds
  have hx : d'.toList.map (fun i : Fin ks.length => ks[i.1]) = srt (ltK L) ks := by
    refine srt_only (ltK L) (ltK_facts L).1 (ltK_facts L).2 ks _ (ltK_apart L ks hu hd) ?_ ?_
    · have q1 : d'.toList.Perm d.toList := by
        have e1 : d'.extract 0 ks.length = d' := ext_all d' _ hd's
        have e2 : d.extract 0 ks.length = d := ext_all d _ hds
        rwa [e1, e2] at p3
      have q2 : d.toList.map (fun i : Fin ks.length => ks[i.1]) = ks := by
        refine List.ext_getElem (by simp [d]) fun i h1 h2 => ?_
        simp [d]
      have := q1.map (fun i : Fin ks.length => ks[i.1])
      rwa [q2] at this
    · rw [List.pairwise_map, List.pairwise_iff_getElem]
      intro i j hi hj hij
      have hi' : i < d'.size := by simpa using hi
      have hj' : j < d'.size := by simpa using hj
      have := hs i j (Nat.zero_le _) hij (by omega)
      rw [getElem!_pos d' j hj', getElem!_pos d' i hi'] at this
      have e3 : ∀ x y, ltOf cf x y = ltK L ks[x.1] ks[y.1] := fun x y => cmpU_ahead _ _
      rw [e3] at this
      simpa using this
  have hHW := holdsK_sortWorldK_c enc 2 w g 0 d d' nn os hH b2 (by omega)
  refine ⟨rfl, ?_, fun i k hk => ?_⟩
  · have h3 : Below B w (putRowK enc 2 (Sort.ahead w nn) g 0 d') := Lib.below_putRow (Below.refl B w) b1
    refine h3.trans ⟨rfl, rfl, rfl, by show _ ≤ (grow (putRowK enc 2 (Sort.ahead w nn) g 0 d') os).heap.size; rw [Sort.size_grow]; exact Nat.le_add_right _ _, fun j hj => ?_⟩
    have hsz : (putRowK enc 2 (Sort.ahead w nn) g 0 d').heap.size = w.heap.size := by
      unfold putRowK; rw [Sort.size_putRow]; rfl
    exact Sort.heap_grow_old _ _ (by rw [hsz]; omega)
  · rw [← hx, List.getElem?_map] at hk
    cases hq : d'.toList[i]? with
    | none => rw [hq] at hk; cases hk
    | some f =>
      rw [hq] at hk
      simp only [Option.map_some, Option.some.injEq] at hk
      subst hk
      obtain ⟨hi, hf⟩ := List.getElem?_eq_some_iff.1 hq
      have hi' : i < d'.size := by simpa using hi
      have c0 := (hHW.cell hi' (c := 0) (by omega)).1
      have c1 := (hHW.cell hi' (c := 1) (by omega)).1
      have hf' : d'[i]! = f := by rw [getElem!_pos d' i hi']; simpa using hf
      rw [hf', Nat.zero_add] at c0 c1
      obtain ⟨a, c, e⟩ := (UR.of (hur f)).shape
      rw [show (enc f)[0]! = us[f.1]'(hus f) from rfl, e] at c0
      exact ⟨a, _, c, c0, c1⟩
end Go.Proofs.YtoijppmkkhgkdacGreatDoor
