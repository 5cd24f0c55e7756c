/-
  Joined by program: JUnit, JAhead.
-/
import Derived.Test.YtgiaflcbiipafabGreatDoorG14
/-
  A text's numbers of 16 bits.
-/
namespace Go.Proofs.YtgiaflcbiipafabGreatDoor
open Go.RowKit
set_option linter.unusedVariables false

/-- How long the first character is (a wrong byte counts for one). -/
def stepL (l : List UInt8) : Nat := if seqLen l = 0 then 1 else seqLen l
theorem stepL_pos (l : List UInt8) : 1 ≤ stepL l := by unfold stepL; split <;> omega
def runeTo (l : List UInt8) (n : Nat) : Nat → Nat
  | 0 => if n ≤ 1 then (l.getD 0 0).toNat else (l.getD 0 0).toNat % 2 ^ (7 - n)
  | k + 1 => 64 * runeTo l n k + (l.getD (k + 1) 0).toNat % 64
def runeL (l : List UInt8) : Nat := runeTo l (stepL l) (stepL l - 1)
def unitR (r : Nat) : List Nat := if r < 65536 then [r] else [55296 + (r - 65536) / 1024, 56320 + (r - 65536) % 1024]
def unitsL (l : List UInt8) : List Nat := if h : l = [] then [] else unitR (runeL l) ++ unitsL (l.drop (stepL l))
termination_by l.length
decreasing_by
  have := stepL_pos l
  have := List.length_pos_iff.2 h
  rw [List.length_drop]; omega
theorem unitsL_nil : unitsL [] = [] := by rw [unitsL, dif_pos rfl]
theorem unitsL_step (l : List UInt8) (h : l ≠ []) : unitsL l = unitR (runeL l) ++ unitsL (l.drop (stepL l)) := by rw [unitsL, dif_neg h]
theorem runeTo_lt (l : List UInt8) (n : Nat) : ∀ k, runeTo l n k < 256 * 64 ^ k := by
  intro k
  induction k with
  | zero =>
    have h := (l.getD 0 0).toNat_lt
    simp only [runeTo]
    split
    · omega
    · have := Nat.mod_le (l.getD 0 0).toNat (2 ^ (7 - n)); omega
  | succ k ih => simp only [runeTo]; rw [Nat.pow_succ]; have := Nat.mod_lt (l.getD (k + 1) 0).toNat (y := 64) (by omega); omega
theorem unitR_len (r : Nat) : (unitR r).length ≤ 2 := by unfold unitR; split <;> simp
theorem unitR_pos (r : Nat) : 1 ≤ (unitR r).length := by unfold unitR; split <;> simp
theorem unitsL_len (l : List UInt8) : (unitsL l).length ≤ 2 * l.length := by
  match hm : l.length with
  | 0 => obtain rfl := List.length_eq_zero_iff.1 hm; simp [unitsL_nil]
  | m + 1 =>
    have hne : l ≠ [] := by intro h; rw [h] at hm; simp at hm
    have h1 := stepL_pos l
    rw [unitsL_step l hne, List.length_append]
    have := unitsL_len (l.drop (stepL l))
    have := unitR_len (runeL l)
    rw [List.length_drop] at *
    omega
termination_by l.length
decreasing_by rw [List.length_drop]; omega
theorem sfx_getD (s : ByteArray) (i k : Nat) (h : i + k < s.size) : (sfx s i).getD k 0 = s[i + k] := by
  rw [List.getD_eq_getElem?_getD, sfx_get s i k h]; rfl

theorem one_cellJ (w : World) (y : Value) (e : TypeId) : ∀ (j : Nat) (u : Value), [y][j]? = some u → (w.alloc (.cells #[y] e)).cell? ((⟨w.heap.size, 0, none⟩ : Addr).add j) = some u := by
  intro j u h
  match j with
  | 0 => simp at h; subst h; simp [Addr.add]
  | j + 1 => simp at h

/-- Append of one int. -/
theorem wp_appN {P : Program} {ops : Array Oper} {rest : List Oper} {o : Oper} {a : Act} {Q : Exit → Act → World → Prop} (hgd : o.guard = none) (s x : Operand) (t : TypeId)
    (ho : o.op = .call { callee := .builtin .append, args := #[s, x], argTypes := #[t, t] })
    (e : TypeId) (i : TypeInfo) (ht : P.underlying t = some (.slice e)) (hi : P.info? e = some i) (hz : i.zero = some (.int .i64 0)) (hsize : i.size = 1) (hby : i.bytes = 8)
    (B : Nat) (v : Value) (n : Nat) (xs : List Value) (y : Value) (hy : y.oneCell' = true) (w0 : World) (hs : a.eval s = v) (hown : w0.ownsRow B e 1 v n xs) (hB : B ≤ w0.heap.size) (hlen : n ≤ 10000000000000)
    (hx : a.eval x = .slice (some ⟨w0.heap.size, 0, none⟩) 1 1)
    (h : ∀ v' w', w'.ownsRow B e 1 v' (n + 1) (xs ++ [y]) → Below B w0 w' → wpList P ops Q rest (a.put o.dst v') w') : wpList P ops Q (o :: rest) a (w0.alloc (.cells #[y] e)) := by
  refine wpList_append_own _ hgd s x t ho B e i (.int .i64 0) 1 8 ht hi hz hsize hby rfl (by decide) v n xs hs (hown.alloc _) ⟨w0.heap.size, 0, none⟩ 1 1 [y] hx rfl (one_cellJ w0 y e) (by intro u hu; simp at hu; subst hu; exact hy) (by unfold maxLen; omega) (by omega) (by simp; omega) ?_
  intro v' w' h1 h2 _
  refine h v' w' h1 (((Below.refl B w0).alloc hB _).grown h2 (by simp; omega) ?_)
  intro k hk
  exact (hown.lt k hk).1
theorem wr_step (X c : Nat) (hX : X < 67108864) (hc : c < 256) : wrap64 (64 * (X : Int) + (wrap64 (c : Int)).tmod 64) = ((64 * X + c % 64 : Nat) : Int) := by
  have h1 : wrap64 (c : Int) = (c : Int) := by unfold wrap64; omega
  have h2 : (c : Int).tmod 64 = ((c % 64 : Nat) : Int) := rfl
  rw [h1, h2]
  have := Nat.mod_lt c (y := 64) (by omega)
  unfold wrap64; omega
theorem seq5 (l : List UInt8) : seqLen l = 0 ∨ seqLen l = 1 ∨ seqLen l = 2 ∨ seqLen l = 3 ∨ seqLen l = 4 := by
  have := seqLen_le4 l
  omega
/-- What holds at each round: what is written, and where. -/
def UInv (s : ByteArray) (w : World) (v i : Value) (wr : World) : Prop :=
  ∃ (j : Nat) (us : List Nat), j ≤ s.size ∧ i = .int .i64 (j : Int) ∧ us.length ≤ 2 * j ∧ unitsL s.data.toList = us ++ unitsL (sfx s j) ∧ wr.ownsRow w.heap.size 3 1 v us.length (us.map iV) ∧ Below w.heap.size w wr
theorem UInv.next {s : ByteArray} {w wr : World} {v : Value} {j : Nat} {us ys : List Nat} {i : Int} (hj : j < s.size) (hu : us.length ≤ 2 * j) (he : unitsL s.data.toList = us ++ unitsL (sfx s j)) (hi : i = ((j + stepL (sfx s j) : Nat) : Int)) (hsz : j + stepL (sfx s j) ≤ s.size)
    (hy : ys = unitR (runeL (sfx s j))) (ho : wr.ownsRow w.heap.size 3 1 v (us.length + ys.length) (us.map iV ++ ys.map iV)) (hb : Below w.heap.size w wr) : UInv s w v (.int .i64 i) wr := by
  subst hi
  refine ⟨j + stepL (sfx s j), us ++ ys, hsz, rfl, ?_, ?_, ?_, hb⟩
  · have h1 := stepL_pos (sfx s j)
    have h2 := unitR_len (runeL (sfx s j))
    rw [List.length_append, hy]; omega
  · rw [he, unitsL_step (sfx s j) (by rw [sfx_cons s j hj]; simp), sfx_drop, hy, List.append_assoc]
  · rw [List.length_append, List.map_append]; exact ho


set_option maxRecDepth 4000 in
set_option maxHeartbeats 2000000 in
theorem runits (s : ByteArray) (w : World) (hs : s.size ≤ 1000000000) : Calls Tryz.prog 65 #[.string s] w
    fun e w' => ∃ v, e = .returned v ∧ w'.ownsRow w.heap.size 3 1 v (unitsL s.data.toList).length ((unitsL s.data.toList).map iV) ∧ Below w.heap.size w w' := by
  obtain ⟨i0, hi0, hz0, hz1, hz2⟩ := info_parts intinfo
  have HI : Hid _ := hi0
  clear hi0
  go_enter Tryz.func65, Tryz.ntmps65
  go_wp2_with fail
  go_loopw [3, 4] (fun v i wr => UInv s w v i wr) (fun _ i _ => s.size - (intOf i).toNat)
  case atStart => exact ⟨0, [], by omega, rfl, by simp, by simp [sfx], World.ownsRow_nil _ _ _ _, Below.refl _ _⟩
  case round =>
    obtain ⟨j, us, hj, rfl, hu, he, ho, hb⟩ := hrel
    have HU : Hid _ := hu
    have HE : Hid _ := he
    have HO : Hid (wr.ownsRow w.heap.size 3 1 _ us.length (us.map iV)) := ho
    have HB : Hid _ := hb
    have hbs := hb.size
    clear hu he ho hb
    by_cases hlt : j < s.size
    · have hlt' : (j : Int) < (s.size : Int) := by omega
      have HLL := seqLen_len (sfx s j)
      rw [sfx_length] at HLL
      rcases seq5 (sfx s j) with h0 | h0 | h0 | h0 | h0
      · have hstep : stepL (sfx s j) = 1 := by unfold stepL; rw [h0]; rfl
        have hsz : j + 1 ≤ s.size := by omega
        have hsq : ∀ w, Calls Tryz.prog 58 #[.string s, .int .i64 (j : Int)] w fun e w' => e = .returned (.int .i64 0) ∧ w' = w := fun w => by have := rsequence s j w hlt (by omega); rw [h0] at this; exact this
        clear h0 HLL
        have HG : Hid (∀ k, (sfx s j).getD k 0 = if h : j + k < s.size then s[j + k] else (sfx s j).getD k 0) := fun k => by split; exact sfx_getD s j k (by assumption); rfl
        have HS : Hid _ := hstep
        clear hstep
        have c0 : (s[j].toNat : Int) < 256 := by have := s[j].toNat_lt; omega
        go_wp2_with fail
        refine (hsq _).mono ?_
        rintro e w1 ⟨rfl, hw1⟩; rw [hw1]; clear hw1 w1 hsq
        go_wp2_with fail
        go_loop [6, 7] (fun r k => ∃ m : Nat, 1 ≤ m ∧ m ≤ 1 ∧ k = .int .i64 (m : Int) ∧ r = .int .i64 (runeTo (sfx s j) 1 (m - 1) : Nat)) (fun _ k => 1 - (intOf k).toNat)
        case atStart =>
          refine ⟨1, by omega, by omega, rfl, ?_⟩
          have := sfx_getD s j 0 (by omega)
          simp only [Nat.sub_self, runeTo, this]
          rfl
        case round =>
          obtain ⟨m, hm1, hm2, rfl, rfl⟩ := hrel
          by_cases hm : m < 1
          · omega
          · obtain rfl : m = 1 := by omega
            have hR := runeTo_lt (sfx s j) 1 (1 - 1)
            have HR : Hid (runeL (sfx s j) = runeTo (sfx s j) 1 (1 - 1)) := by show runeL (sfx s j) = _; unfold runeL; rw [HS.out]
            generalize runeTo (sfx s j) 1 (1 - 1) = X at hR HR
            have hb1 : (X : Int) < 67108864 := by omega
            by_cases hXs : X < 65536
            · have HY : Hid ([X] = unitR (runeL (sfx s j))) := by show [X] = _; rw [HR.out, unitR, if_pos hXs]
              obtain ⟨Y, hY⟩ : ∃ Y : Int, (X : Int) = Y := ⟨_, rfl⟩
              rw [hY]
              have y0 : 0 ≤ Y := by omega
              have y1 : Y < 65536 := by omega
              have HYX : Hid _ := hY
              clear hY hXs hR hb1 HR
              go_wp2_with (refine wp_appN rfl (.tmp 45) (.tmp 47) 56 rfl 3 i0 Tryz.underlying56 HI.out hz0 hz1 hz2 w.heap.size _ us.length (us.map iV) (.int .i64 Y) rfl wr rfl HO.out hbs (by have := HU.out; omega) rfl ?_; intro v5 w5 ho5 hb5; have W5 : Hid _ := ho5; have B5 : Hid _ := hb5; clear ho5 hb5)
              go_roundw
              case rel => exact UInv.next hlt HU.out HE.out (by rw [HS.out]; go_num) (by rw [HS.out]; omega) HY.out (by show w5.ownsRow _ _ _ _ (us.length + 1) (us.map iV ++ [.int .i64 (X : Int)]); rw [HYX.out]; exact W5.out) (HB.out.trans B5.out)
              case measure => simp [intOf]; omega
            · exfalso; clear HR; simp at hR; omega
      · have hstep : stepL (sfx s j) = 1 := by unfold stepL; rw [h0]; rfl
        have hsz : j + 1 ≤ s.size := by omega
        have hsq : ∀ w, Calls Tryz.prog 58 #[.string s, .int .i64 (j : Int)] w fun e w' => e = .returned (.int .i64 1) ∧ w' = w := fun w => by have := rsequence s j w hlt (by omega); rw [h0] at this; exact this
        clear h0 HLL
        have HG : Hid (∀ k, (sfx s j).getD k 0 = if h : j + k < s.size then s[j + k] else (sfx s j).getD k 0) := fun k => by split; exact sfx_getD s j k (by assumption); rfl
        have HS : Hid _ := hstep
        clear hstep
        have c0 : (s[j].toNat : Int) < 256 := by have := s[j].toNat_lt; omega
        go_wp2_with fail
        refine (hsq _).mono ?_
        rintro e w1 ⟨rfl, hw1⟩; rw [hw1]; clear hw1 w1 hsq
        go_wp2_with fail
        go_loop [6, 7] (fun r k => ∃ m : Nat, 1 ≤ m ∧ m ≤ 1 ∧ k = .int .i64 (m : Int) ∧ r = .int .i64 (runeTo (sfx s j) 1 (m - 1) : Nat)) (fun _ k => 1 - (intOf k).toNat)
        case atStart =>
          refine ⟨1, by omega, by omega, rfl, ?_⟩
          have := sfx_getD s j 0 (by omega)
          simp only [Nat.sub_self, runeTo, this]
          rfl
        case round =>
          obtain ⟨m, hm1, hm2, rfl, rfl⟩ := hrel
          by_cases hm : m < 1
          · omega
          · obtain rfl : m = 1 := by omega
            have hR := runeTo_lt (sfx s j) 1 (1 - 1)
            have HR : Hid (runeL (sfx s j) = runeTo (sfx s j) 1 (1 - 1)) := by show runeL (sfx s j) = _; unfold runeL; rw [HS.out]
            generalize runeTo (sfx s j) 1 (1 - 1) = X at hR HR
            have hb1 : (X : Int) < 67108864 := by omega
            by_cases hXs : X < 65536
            · have HY : Hid ([X] = unitR (runeL (sfx s j))) := by show [X] = _; rw [HR.out, unitR, if_pos hXs]
              obtain ⟨Y, hY⟩ : ∃ Y : Int, (X : Int) = Y := ⟨_, rfl⟩
              rw [hY]
              have y0 : 0 ≤ Y := by omega
              have y1 : Y < 65536 := by omega
              have HYX : Hid _ := hY
              clear hY hXs hR hb1 HR
              go_wp2_with (refine wp_appN rfl (.tmp 45) (.tmp 47) 56 rfl 3 i0 Tryz.underlying56 HI.out hz0 hz1 hz2 w.heap.size _ us.length (us.map iV) (.int .i64 Y) rfl wr rfl HO.out hbs (by have := HU.out; omega) rfl ?_; intro v5 w5 ho5 hb5; have W5 : Hid _ := ho5; have B5 : Hid _ := hb5; clear ho5 hb5)
              go_roundw
              case rel => exact UInv.next hlt HU.out HE.out (by rw [HS.out]; go_num) (by rw [HS.out]; omega) HY.out (by show w5.ownsRow _ _ _ _ (us.length + 1) (us.map iV ++ [.int .i64 (X : Int)]); rw [HYX.out]; exact W5.out) (HB.out.trans B5.out)
              case measure => simp [intOf]; omega
            · exfalso; clear HR; simp at hR; omega
      · have hstep : stepL (sfx s j) = 2 := by unfold stepL; rw [h0]; rfl
        have hsz : j + 2 ≤ s.size := by omega
        have hsq : ∀ w, Calls Tryz.prog 58 #[.string s, .int .i64 (j : Int)] w fun e w' => e = .returned (.int .i64 2) ∧ w' = w := fun w => by have := rsequence s j w hlt (by omega); rw [h0] at this; exact this
        clear h0 HLL
        have HG : Hid (∀ k, (sfx s j).getD k 0 = if h : j + k < s.size then s[j + k] else (sfx s j).getD k 0) := fun k => by split; exact sfx_getD s j k (by assumption); rfl
        have HS : Hid _ := hstep
        clear hstep
        have c0 : (s[j].toNat : Int) < 256 := by have := s[j].toNat_lt; omega
        go_wp2_with fail
        refine (hsq _).mono ?_
        rintro e w1 ⟨rfl, hw1⟩; rw [hw1]; clear hw1 w1 hsq
        go_wp2_with fail
        go_loop [6, 7] (fun r k => ∃ m : Nat, 1 ≤ m ∧ m ≤ 2 ∧ k = .int .i64 (m : Int) ∧ r = .int .i64 (runeTo (sfx s j) 2 (m - 1) : Nat)) (fun _ k => 2 - (intOf k).toNat)
        case atStart =>
          refine ⟨1, by omega, by omega, rfl, ?_⟩
          have := sfx_getD s j 0 (by omega)
          simp only [Nat.sub_self, runeTo, this]
          rfl
        case round =>
          obtain ⟨m, hm1, hm2, rfl, rfl⟩ := hrel
          by_cases hm : m < 2
          · have hR := runeTo_lt (sfx s j) 2 (m - 1)
            have hnext : runeTo (sfx s j) 2 m = 64 * runeTo (sfx s j) 2 (m - 1) + s[j + m].toNat % 64 := by
              obtain ⟨m', rfl⟩ : ∃ m', m = m' + 1 := ⟨m - 1, by omega⟩
              rw [runeTo, sfx_getD s j (m' + 1) (by omega)]; rfl
            have hRb : runeTo (sfx s j) 2 (m - 1) < 67108864 := by
              have : 64 ^ (m - 1) ≤ 64 ^ 3 := Nat.pow_le_pow_right (by omega) (by omega)
              omega
            clear hR
            have HN : Hid _ := hnext
            clear hnext
            have HRX : ∃ X, runeTo (sfx s j) 2 (m - 1) = X := ⟨_, rfl⟩
            obtain ⟨X, hX⟩ := HRX
            rw [hX] at hRb ⊢
            have HX : Hid _ := hX
            clear hX
            have hi1 : (0 : Int) ≤ (j : Int) + m := by omega
            have hi2 : (j : Int) + m < (s.size : Int) := by omega
            have ht : ((j : Int) + (m : Int)).toNat = j + m := by omega
            have hx : j + m < s.size := by omega
            go_wp2_with fail
            go_round
            case rel => exact ⟨m + 1, by omega, by omega, by go_num, by rw [Nat.add_sub_cancel, HN.out, HX.out]; exact congrArg (Value.int .i64) (wr_step X s[j + m].toNat hRb s[j + m].toNat_lt)⟩
            case measure => simp [intOf]; omega
          · obtain rfl : m = 2 := by omega
            have hR := runeTo_lt (sfx s j) 2 (2 - 1)
            have HR : Hid (runeL (sfx s j) = runeTo (sfx s j) 2 (2 - 1)) := by show runeL (sfx s j) = _; unfold runeL; rw [HS.out]
            generalize runeTo (sfx s j) 2 (2 - 1) = X at hR HR
            have hb1 : (X : Int) < 67108864 := by omega
            by_cases hXs : X < 65536
            · have HY : Hid ([X] = unitR (runeL (sfx s j))) := by show [X] = _; rw [HR.out, unitR, if_pos hXs]
              obtain ⟨Y, hY⟩ : ∃ Y : Int, (X : Int) = Y := ⟨_, rfl⟩
              rw [hY]
              have y0 : 0 ≤ Y := by omega
              have y1 : Y < 65536 := by omega
              have HYX : Hid _ := hY
              clear hY hXs hR hb1 HR
              go_wp2_with (refine wp_appN rfl (.tmp 45) (.tmp 47) 56 rfl 3 i0 Tryz.underlying56 HI.out hz0 hz1 hz2 w.heap.size _ us.length (us.map iV) (.int .i64 Y) rfl wr rfl HO.out hbs (by have := HU.out; omega) rfl ?_; intro v5 w5 ho5 hb5; have W5 : Hid _ := ho5; have B5 : Hid _ := hb5; clear ho5 hb5)
              go_roundw
              case rel => exact UInv.next hlt HU.out HE.out (by rw [HS.out]; go_num) (by rw [HS.out]; omega) HY.out (by show w5.ownsRow _ _ _ _ (us.length + 1) (us.map iV ++ [.int .i64 (X : Int)]); rw [HYX.out]; exact W5.out) (HB.out.trans B5.out)
              case measure => simp [intOf]; omega
            · exfalso; clear HR; simp at hR; omega
      · have hstep : stepL (sfx s j) = 3 := by unfold stepL; rw [h0]; rfl
        have hsz : j + 3 ≤ s.size := by omega
        have hsq : ∀ w, Calls Tryz.prog 58 #[.string s, .int .i64 (j : Int)] w fun e w' => e = .returned (.int .i64 3) ∧ w' = w := fun w => by have := rsequence s j w hlt (by omega); rw [h0] at this; exact this
        clear h0 HLL
        have HG : Hid (∀ k, (sfx s j).getD k 0 = if h : j + k < s.size then s[j + k] else (sfx s j).getD k 0) := fun k => by split; exact sfx_getD s j k (by assumption); rfl
        have HS : Hid _ := hstep
        clear hstep
        have c0 : (s[j].toNat : Int) < 256 := by have := s[j].toNat_lt; omega
        go_wp2_with fail
        refine (hsq _).mono ?_
        rintro e w1 ⟨rfl, hw1⟩; rw [hw1]; clear hw1 w1 hsq
        go_wp2_with fail
        go_loop [6, 7] (fun r k => ∃ m : Nat, 1 ≤ m ∧ m ≤ 3 ∧ k = .int .i64 (m : Int) ∧ r = .int .i64 (runeTo (sfx s j) 3 (m - 1) : Nat)) (fun _ k => 3 - (intOf k).toNat)
        case atStart =>
          refine ⟨1, by omega, by omega, rfl, ?_⟩
          have := sfx_getD s j 0 (by omega)
          simp only [Nat.sub_self, runeTo, this]
          rfl
        case round =>
          obtain ⟨m, hm1, hm2, rfl, rfl⟩ := hrel
          by_cases hm : m < 3
          · have hR := runeTo_lt (sfx s j) 3 (m - 1)
            have hnext : runeTo (sfx s j) 3 m = 64 * runeTo (sfx s j) 3 (m - 1) + s[j + m].toNat % 64 := by
              obtain ⟨m', rfl⟩ : ∃ m', m = m' + 1 := ⟨m - 1, by omega⟩
              rw [runeTo, sfx_getD s j (m' + 1) (by omega)]; rfl
            have hRb : runeTo (sfx s j) 3 (m - 1) < 67108864 := by
              have : 64 ^ (m - 1) ≤ 64 ^ 3 := Nat.pow_le_pow_right (by omega) (by omega)
              omega
            clear hR
            have HN : Hid _ := hnext
            clear hnext
            have HRX : ∃ X, runeTo (sfx s j) 3 (m - 1) = X := ⟨_, rfl⟩
            obtain ⟨X, hX⟩ := HRX
            rw [hX] at hRb ⊢
            have HX : Hid _ := hX
            clear hX
            have hi1 : (0 : Int) ≤ (j : Int) + m := by omega
            have hi2 : (j : Int) + m < (s.size : Int) := by omega
            have ht : ((j : Int) + (m : Int)).toNat = j + m := by omega
            have hx : j + m < s.size := by omega
            go_wp2_with fail
            go_round
            case rel => exact ⟨m + 1, by omega, by omega, by go_num, by rw [Nat.add_sub_cancel, HN.out, HX.out]; exact congrArg (Value.int .i64) (wr_step X s[j + m].toNat hRb s[j + m].toNat_lt)⟩
            case measure => simp [intOf]; omega
          · obtain rfl : m = 3 := by omega
            have hR := runeTo_lt (sfx s j) 3 (3 - 1)
            have HR : Hid (runeL (sfx s j) = runeTo (sfx s j) 3 (3 - 1)) := by show runeL (sfx s j) = _; unfold runeL; rw [HS.out]
            generalize runeTo (sfx s j) 3 (3 - 1) = X at hR HR
            have hb1 : (X : Int) < 67108864 := by omega
            by_cases hXs : X < 65536
            · have HY : Hid ([X] = unitR (runeL (sfx s j))) := by show [X] = _; rw [HR.out, unitR, if_pos hXs]
              obtain ⟨Y, hY⟩ : ∃ Y : Int, (X : Int) = Y := ⟨_, rfl⟩
              rw [hY]
              have y0 : 0 ≤ Y := by omega
              have y1 : Y < 65536 := by omega
              have HYX : Hid _ := hY
              clear hY hXs hR hb1 HR
              go_wp2_with (refine wp_appN rfl (.tmp 45) (.tmp 47) 56 rfl 3 i0 Tryz.underlying56 HI.out hz0 hz1 hz2 w.heap.size _ us.length (us.map iV) (.int .i64 Y) rfl wr rfl HO.out hbs (by have := HU.out; omega) rfl ?_; intro v5 w5 ho5 hb5; have W5 : Hid _ := ho5; have B5 : Hid _ := hb5; clear ho5 hb5)
              go_roundw
              case rel => exact UInv.next hlt HU.out HE.out (by rw [HS.out]; go_num) (by rw [HS.out]; omega) HY.out (by show w5.ownsRow _ _ _ _ (us.length + 1) (us.map iV ++ [.int .i64 (X : Int)]); rw [HYX.out]; exact W5.out) (HB.out.trans B5.out)
              case measure => simp [intOf]; omega
            · have HY : Hid ([55296 + (X - 65536) / 1024, 56320 + (X - 65536) % 1024] = unitR (runeL (sfx s j))) := by show _ = _; rw [HR.out, unitR, if_neg hXs]
              obtain ⟨Y, hY⟩ : ∃ Y : Nat, X = 65536 + Y := ⟨X - 65536, by omega⟩
              obtain ⟨Z, hZ⟩ : ∃ Z : Int, (X : Int) = Z := ⟨_, rfl⟩
              rw [hZ]
              have z0 : 65536 ≤ Z := by omega
              have z1 : Z < 67108864 := by omega
              have zd : decide (Z < 65536) = false := by simp; omega
              have HYX : Hid ((55296 + (X - 65536) / 1024 : Nat) = 55296 + (Z - 65536) / 1024 ∧ (56320 + (X - 65536) % 1024 : Nat) = 56320 + (Z - 65536) % 1024) := by show _ ∧ _; omega
              clear hY hXs hR hb1 HR hZ
              go_wp2_with (first | (refine wp_appN rfl (.tmp 49) (.tmp 54) 56 rfl 3 i0 Tryz.underlying56 HI.out hz0 hz1 hz2 w.heap.size _ us.length (us.map iV) (.int .i64 (55296 + (Z - 65536) / 1024)) rfl wr rfl HO.out hbs (by have := HU.out; omega) rfl ?_; intro v5 w5 ho5 hb5; have hbs5 := Nat.le_trans hbs hb5.size; have W5 : Hid _ := ho5; have B5 : Hid _ := hb5; clear ho5 hb5) | (refine wp_appN rfl (.tmp 56) (.tmp 61) 56 rfl 3 i0 Tryz.underlying56 HI.out hz0 hz1 hz2 w.heap.size _ (us.length + 1) _ (.int .i64 (56320 + (Z - 65536) % 1024)) rfl w5 rfl W5.out hbs5 (by have := HU.out; omega) rfl ?_; intro v6 w6 ho6 hb6; have W6 : Hid _ := ho6; have B6 : Hid _ := hb6; clear ho6 hb6))
              go_roundw
              case rel => exact UInv.next hlt HU.out HE.out (by rw [HS.out]; go_num) (by rw [HS.out]; omega) HY.out (by
                show w6.ownsRow _ _ _ _ (us.length + 2) (us.map iV ++ [.int .i64 ((55296 + (X - 65536) / 1024 : Nat) : Int), .int .i64 ((56320 + (X - 65536) % 1024 : Nat) : Int)])
                rw [HYX.out.1, HYX.out.2]
                have := W6.out
                rw [List.append_assoc] at this
                exact this) (HB.out.trans (B5.out.trans B6.out))
              case measure => simp [intOf]; omega
      · have hstep : stepL (sfx s j) = 4 := by unfold stepL; rw [h0]; rfl
        have hsz : j + 4 ≤ s.size := by omega
        have hsq : ∀ w, Calls Tryz.prog 58 #[.string s, .int .i64 (j : Int)] w fun e w' => e = .returned (.int .i64 4) ∧ w' = w := fun w => by have := rsequence s j w hlt (by omega); rw [h0] at this; exact this
        clear h0 HLL
        have HG : Hid (∀ k, (sfx s j).getD k 0 = if h : j + k < s.size then s[j + k] else (sfx s j).getD k 0) := fun k => by split; exact sfx_getD s j k (by assumption); rfl
        have HS : Hid _ := hstep
        clear hstep
        have c0 : (s[j].toNat : Int) < 256 := by have := s[j].toNat_lt; omega
        go_wp2_with fail
        refine (hsq _).mono ?_
        rintro e w1 ⟨rfl, hw1⟩; rw [hw1]; clear hw1 w1 hsq
        go_wp2_with fail
        go_loop [6, 7] (fun r k => ∃ m : Nat, 1 ≤ m ∧ m ≤ 4 ∧ k = .int .i64 (m : Int) ∧ r = .int .i64 (runeTo (sfx s j) 4 (m - 1) : Nat)) (fun _ k => 4 - (intOf k).toNat)
        case atStart =>
          refine ⟨1, by omega, by omega, rfl, ?_⟩
          have := sfx_getD s j 0 (by omega)
          simp only [Nat.sub_self, runeTo, this]
          rfl
        case round =>
          obtain ⟨m, hm1, hm2, rfl, rfl⟩ := hrel
          by_cases hm : m < 4
          · have hR := runeTo_lt (sfx s j) 4 (m - 1)
            have hnext : runeTo (sfx s j) 4 m = 64 * runeTo (sfx s j) 4 (m - 1) + s[j + m].toNat % 64 := by
              obtain ⟨m', rfl⟩ : ∃ m', m = m' + 1 := ⟨m - 1, by omega⟩
              rw [runeTo, sfx_getD s j (m' + 1) (by omega)]; rfl
            have hRb : runeTo (sfx s j) 4 (m - 1) < 67108864 := by
              have : 64 ^ (m - 1) ≤ 64 ^ 3 := Nat.pow_le_pow_right (by omega) (by omega)
              omega
            clear hR
            have HN : Hid _ := hnext
            clear hnext
            have HRX : ∃ X, runeTo (sfx s j) 4 (m - 1) = X := ⟨_, rfl⟩
            obtain ⟨X, hX⟩ := HRX
            rw [hX] at hRb ⊢
            have HX : Hid _ := hX
            clear hX
            have hi1 : (0 : Int) ≤ (j : Int) + m := by omega
            have hi2 : (j : Int) + m < (s.size : Int) := by omega
            have ht : ((j : Int) + (m : Int)).toNat = j + m := by omega
            have hx : j + m < s.size := by omega
            go_wp2_with fail
            go_round
            case rel => exact ⟨m + 1, by omega, by omega, by go_num, by rw [Nat.add_sub_cancel, HN.out, HX.out]; exact congrArg (Value.int .i64) (wr_step X s[j + m].toNat hRb s[j + m].toNat_lt)⟩
            case measure => simp [intOf]; omega
          · obtain rfl : m = 4 := by omega
            have hR := runeTo_lt (sfx s j) 4 (4 - 1)
            have HR : Hid (runeL (sfx s j) = runeTo (sfx s j) 4 (4 - 1)) := by show runeL (sfx s j) = _; unfold runeL; rw [HS.out]
            generalize runeTo (sfx s j) 4 (4 - 1) = X at hR HR
            have hb1 : (X : Int) < 67108864 := by omega
            by_cases hXs : X < 65536
            · have HY : Hid ([X] = unitR (runeL (sfx s j))) := by show [X] = _; rw [HR.out, unitR, if_pos hXs]
              obtain ⟨Y, hY⟩ : ∃ Y : Int, (X : Int) = Y := ⟨_, rfl⟩
              rw [hY]
              have y0 : 0 ≤ Y := by omega
              have y1 : Y < 65536 := by omega
              have HYX : Hid _ := hY
              clear hY hXs hR hb1 HR
              go_wp2_with (refine wp_appN rfl (.tmp 45) (.tmp 47) 56 rfl 3 i0 Tryz.underlying56 HI.out hz0 hz1 hz2 w.heap.size _ us.length (us.map iV) (.int .i64 Y) rfl wr rfl HO.out hbs (by have := HU.out; omega) rfl ?_; intro v5 w5 ho5 hb5; have W5 : Hid _ := ho5; have B5 : Hid _ := hb5; clear ho5 hb5)
              go_roundw
              case rel => exact UInv.next hlt HU.out HE.out (by rw [HS.out]; go_num) (by rw [HS.out]; omega) HY.out (by show w5.ownsRow _ _ _ _ (us.length + 1) (us.map iV ++ [.int .i64 (X : Int)]); rw [HYX.out]; exact W5.out) (HB.out.trans B5.out)
              case measure => simp [intOf]; omega
            · have HY : Hid ([55296 + (X - 65536) / 1024, 56320 + (X - 65536) % 1024] = unitR (runeL (sfx s j))) := by show _ = _; rw [HR.out, unitR, if_neg hXs]
              obtain ⟨Y, hY⟩ : ∃ Y : Nat, X = 65536 + Y := ⟨X - 65536, by omega⟩
              obtain ⟨Z, hZ⟩ : ∃ Z : Int, (X : Int) = Z := ⟨_, rfl⟩
              rw [hZ]
              have z0 : 65536 ≤ Z := by omega
              have z1 : Z < 67108864 := by omega
              have zd : decide (Z < 65536) = false := by simp; omega
              have HYX : Hid ((55296 + (X - 65536) / 1024 : Nat) = 55296 + (Z - 65536) / 1024 ∧ (56320 + (X - 65536) % 1024 : Nat) = 56320 + (Z - 65536) % 1024) := by show _ ∧ _; omega
              clear hY hXs hR hb1 HR hZ
              go_wp2_with (first | (refine wp_appN rfl (.tmp 49) (.tmp 54) 56 rfl 3 i0 Tryz.underlying56 HI.out hz0 hz1 hz2 w.heap.size _ us.length (us.map iV) (.int .i64 (55296 + (Z - 65536) / 1024)) rfl wr rfl HO.out hbs (by have := HU.out; omega) rfl ?_; intro v5 w5 ho5 hb5; have hbs5 := Nat.le_trans hbs hb5.size; have W5 : Hid _ := ho5; have B5 : Hid _ := hb5; clear ho5 hb5) | (refine wp_appN rfl (.tmp 56) (.tmp 61) 56 rfl 3 i0 Tryz.underlying56 HI.out hz0 hz1 hz2 w.heap.size _ (us.length + 1) _ (.int .i64 (56320 + (Z - 65536) % 1024)) rfl w5 rfl W5.out hbs5 (by have := HU.out; omega) rfl ?_; intro v6 w6 ho6 hb6; have W6 : Hid _ := ho6; have B6 : Hid _ := hb6; clear ho6 hb6))
              go_roundw
              case rel => exact UInv.next hlt HU.out HE.out (by rw [HS.out]; go_num) (by rw [HS.out]; omega) HY.out (by
                show w6.ownsRow _ _ _ _ (us.length + 2) (us.map iV ++ [.int .i64 ((55296 + (X - 65536) / 1024 : Nat) : Int), .int .i64 ((56320 + (X - 65536) % 1024 : Nat) : Int)])
                rw [HYX.out.1, HYX.out.2]
                have := W6.out
                rw [List.append_assoc] at this
                exact this) (HB.out.trans (B5.out.trans B6.out))
              case measure => simp [intOf]; omega
    · obtain rfl : j = s.size := by omega
      go_wp2_with fail
      go_ret
      have e : unitsL s.data.toList = us := by have := HE.out; rw [sfx_nil s s.size (Nat.le_refl _), unitsL_nil, List.append_nil] at this; exact this
      rw [e]
      exact ⟨_, rfl, HO.out, HB.out⟩
end Go.Proofs.YtgiaflcbiipafabGreatDoor
/-
  Which of two names stands ahead.
-/
namespace Go.Proofs.YtgiaflcbiipafabGreatDoor
open Go.RowKit
set_option linter.unusedVariables false

def aheadU : List Nat → List Nat → Bool
  | x :: xs, y :: ys => if x = y then aheadU xs ys else decide (x < y)
  | [], _ :: _ => true
  | _, [] => false
def aheadL (a b : List UInt8) : Bool := aheadU (unitsL a) (unitsL b)
theorem aheadU_step (a b : List Nat) (j x : Nat) (ha : a[j]? = some x) (hb : b[j]? = some x) : aheadU (a.drop j) (b.drop j) = aheadU (a.drop (j + 1)) (b.drop (j + 1)) := by
  obtain ⟨h1, h1'⟩ := List.getElem?_eq_some_iff.1 ha
  obtain ⟨h2, h2'⟩ := List.getElem?_eq_some_iff.1 hb
  rw [List.drop_eq_getElem_cons h1, List.drop_eq_getElem_cons h2, aheadU, h1', h2', if_pos rfl]
theorem aheadU_ne (a b : List Nat) (j x y : Nat) (ha : a[j]? = some x) (hb : b[j]? = some y) (h : x ≠ y) : aheadU (a.drop j) (b.drop j) = decide (x < y) := by
  obtain ⟨h1, h1'⟩ := List.getElem?_eq_some_iff.1 ha
  obtain ⟨h2, h2'⟩ := List.getElem?_eq_some_iff.1 hb
  rw [List.drop_eq_getElem_cons h1, List.drop_eq_getElem_cons h2, aheadU, h1', h2', if_neg h]
theorem aheadU_end (a b : List Nat) (j : Nat) (hj : j ≤ a.length) (hj' : j ≤ b.length) (h : a.length ≤ j ∨ b.length ≤ j) : aheadU (a.drop j) (b.drop j) = decide (a.length < b.length) := by
  by_cases h1 : a.length ≤ j
  · rw [List.drop_of_length_le h1]
    by_cases h2 : b.length ≤ j
    · rw [List.drop_of_length_le h2, aheadU]; simp; omega
    · rw [List.drop_eq_getElem_cons (by omega), aheadU]; simp; omega
  · have h2 : b.length ≤ j := by omega
    rw [List.drop_of_length_le h2, List.drop_eq_getElem_cons (by omega), aheadU]; simp; omega

/-- A row of numbers that can be read. -/
def IRow (w : World) (v : Value) (us : List Nat) : Prop :=
  ∃ ad cap, v = .slice ad us.length cap ∧ ∀ j k : Nat, us[j]? = some k → ∃ g, ad = some ⟨g, 0, none⟩ ∧ w.cell? ⟨g, j, none⟩ = some (.int .i64 (k : Int))
theorem IRow.of {B : Nat} {e : TypeId} {w : World} {v : Value} {us : List Nat} (h : w.ownsRow B e 1 v us.length (us.map iV)) : IRow w v us := by
  have hadd : ∀ (g j : Nat), (⟨g, 0, none⟩ : Addr).add j = ⟨g, j, none⟩ := fun g j => by unfold Addr.add; split <;> simp_all
  rcases h.2 with ⟨a, b⟩ | ⟨g, c, cu, a, _⟩
  · refine ⟨none, 0, by rw [a, b], fun j k hj => ?_⟩
    obtain rfl := List.length_eq_zero_iff.1 b
    simp at hj
  · refine ⟨some ⟨g, 0, none⟩, c, a, fun j k hj => ⟨g, rfl, ?_⟩⟩
    have := h.cells (g := g) (by rw [a]; rfl) j (iV k) (by simp [hj])
    rwa [hadd] at this
theorem IRow.keep {w w' : World} {v : Value} {us : List Nat} (h : IRow w v us) (hc : ∀ g j u, w.cell? ⟨g, j, none⟩ = some u → w'.cell? ⟨g, j, none⟩ = some u) : IRow w' v us := by
  obtain ⟨ad, cap, h1, h2⟩ := h
  refine ⟨ad, cap, h1, fun j k hj => ?_⟩
  obtain ⟨g, a, b⟩ := h2 j k hj
  exact ⟨g, a, hc _ _ _ b⟩
theorem IRow.drewN {w : World} {v : Value} {us : List Nat} (h : IRow w v us) (n : Nat) : IRow (w.drewN n) v us := h.keep fun g j u hc => by simpa using hc

theorem cell_keep {w w' : World} (h : Below w.heap.size w w') {g j : Nat} {u : Value} (hc : w.cell? ⟨g, j, none⟩ = some u) : w'.cell? ⟨g, j, none⟩ = some u := by
  by_cases hg : g < w.heap.size
  · have := h.block g hg
    simp only [World.cell?] at hc ⊢
    rw [this]; exact hc
  · have : w.heap[g]? = none := Array.getElem?_eq_none (by omega)
    simp [World.cell?, this] at hc

set_option maxHeartbeats 1000000 in
theorem rahead (a b : ByteArray) (w : World) (ha : a.size ≤ 1000000000) (hb : b.size ≤ 1000000000) : Calls Tryz.prog 48 #[.string a, .string b] w
    fun e w' => e = .returned (.bool (aheadL a.data.toList b.data.toList)) ∧ Below w.heap.size w w' := by
  have hla : (unitsL a.data.toList).length ≤ 2000000000 := by have := unitsL_len a.data.toList; simp at this; omega
  have hlb : (unitsL b.data.toList).length ≤ 2000000000 := by have := unitsL_len b.data.toList; simp at this; omega
  unfold aheadL
  have hua := fun w => runits a w ha
  have hub := fun w => runits b w hb
  generalize unitsL a.data.toList = us at *
  generalize unitsL b.data.toList = vs at *
  clear ha hb
  go_enter Tryz.func48, Tryz.ntmps48
  go_wp2_with fail
  refine (hua _).mono ?_
  rintro e w1 ⟨x, rfl, r1, b1⟩
  have R1 : Hid (IRow w1 x us) := IRow.of r1
  have B1 : Hid (Below w.heap.size w w1) := b1
  have hz : w.heap.size ≤ w1.heap.size := b1.size
  clear r1 b1 hua
  go_wp2_with fail
  refine (hub _).mono ?_
  rintro e w2 ⟨y, rfl, r2, b2⟩
  have R2 : Hid (IRow w2 y vs) := IRow.of r2
  have R1' : Hid (IRow w2 x us) := R1.out.keep fun g j u hc => cell_keep b2 hc
  have B2 : Hid (Below w.heap.size w w2) := B1.out.trans ⟨b2.os, b2.tape, b2.output, b2.size, fun k hk => b2.block k (by omega)⟩
  clear r2 b2 hub R1 B1
  go_wp2_with fail
  go_loopw [7] (fun i wr => ∃ j : Nat, j ≤ us.length ∧ j ≤ vs.length ∧ i = .int .i64 (j : Int) ∧ aheadU us vs = aheadU (us.drop j) (vs.drop j) ∧ IRow wr x us ∧ IRow wr y vs ∧ Below w.heap.size w wr) (fun i _ => us.length - (intOf i).toNat)
  case atStart => exact ⟨0, by omega, by omega, rfl, rfl, R1'.out, R2.out, B2.out⟩
  case round =>
    clear R1' R2 B2
    obtain ⟨j, hj, hj', rfl, he, r1, r2, hb⟩ := hrel
    have HE : Hid _ := he
    have R1 : Hid (IRow wr x us) := r1
    have R2 : Hid (IRow wr y vs) := r2
    have HB : Hid (Below w.heap.size w wr) := hb
    obtain ⟨ad1, cap1, rfl, c1⟩ := r1
    obtain ⟨ad2, cap2, rfl, c2⟩ := r2
    clear he hb
    by_cases hlt : j < us.length ∧ j < vs.length
    · obtain ⟨k1, k2⟩ := hlt
      have k1' : (j : Int) < (us.length : Int) := by omega
      have k2' : (j : Int) < (vs.length : Int) := by omega
      obtain ⟨p, hp⟩ : ∃ p, us[j]? = some p := ⟨_, List.getElem?_eq_getElem k1⟩
      obtain ⟨q, hq⟩ : ∃ q, vs[j]? = some q := ⟨_, List.getElem?_eq_getElem k2⟩
      obtain ⟨g1, rfl, d1⟩ := c1 j p hp
      obtain ⟨g2, rfl, d2⟩ := c2 j q hq
      have HP : Hid (us[j]? = some p ∧ vs[j]? = some q) := ⟨hp, hq⟩
      clear c1 c2 hp hq
      by_cases hpq : p = q
      · subst hpq
        go_wp2_with fail
        go_quiet (fail)
        go_wp2_with fail
        go_roundw
        case rel => exact ⟨j + 1, by omega, by omega, by go_num, HE.out.trans (aheadU_step us vs j p HP.out.1 HP.out.2), R1.out.drewN nq, R2.out.drewN nq, bdN HB.out nq⟩
        case measure => simp [intOf]; omega
      · have hpq' : ((p : Int) == (q : Int)) = false := by simp; omega
        have HPQ : Hid _ := hpq
        clear hpq
        go_wp2_with fail
        go_quiet (fail)
        go_wp2_with fail
        go_quiet (fail)
        go_wp2
        go_ret
        refine ⟨?_, bdN (bdN HB.out _) _⟩
        rw [HE.out, aheadU_ne us vs j p q HP.out.1 HP.out.2 HPQ.out]
        go_num
    · by_cases k1 : j < us.length
      · have k1' : (j : Int) < (us.length : Int) := by omega
        have k2' : decide ((j : Int) < (vs.length : Int)) = false := by simp; omega
        have HEE : Hid (aheadU us vs = decide (us.length < vs.length)) := by show _ = _; rw [HE.out, aheadU_end us vs j hj hj' (by omega)]
        go_wp2
        go_ret
        exact ⟨by rw [HEE.out]; rfl, HB.out⟩
      · have k1' : decide ((j : Int) < (us.length : Int)) = false := by simp; omega
        have HEE : Hid (aheadU us vs = decide (us.length < vs.length)) := by show _ = _; rw [HE.out, aheadU_end us vs j hj hj' (by omega)]
        go_wp2
        go_ret
        exact ⟨by rw [HEE.out]; rfl, HB.out⟩
end Go.Proofs.YtgiaflcbiipafabGreatDoor
