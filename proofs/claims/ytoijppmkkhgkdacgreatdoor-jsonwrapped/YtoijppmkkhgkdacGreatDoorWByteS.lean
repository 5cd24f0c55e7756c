import Derived.Test.YtoijppmkkhgkdacGreatDoorX1
import Derived.Deep.RegionLaw
/-
  The code's writer: the bytes that are written otherwise, one by one (mkwbyte.py).
-/
namespace Go.Proofs.YtoijppmkkhgkdacGreatDoor
open Go.RowKit
set_option linter.unusedVariables false
section
variable (bp : Nat) (vN vO : Value) (l : List UInt8) (w : World)

set_option maxRecDepth 4000 in
set_option maxHeartbeats 1000000 in
theorem wb_8 (hl : l.length ≤ 1000000000000) (h : WZ bp vN vO l w) :
    Calls Tryz.prog 46 #[.pointer (some ⟨bp, 0, none⟩), .int .u8 8] w fun r w' => WQ bp vN (own vO []) w (l ++ [92, 98]) r w' := by
  obtain ⟨i0, hi0, hz0, hz1, hz2⟩ := info_parts u8infoJ
  have HI : Hid _ := hi0
  have H : Hid (WZ bp vN vO l w) := h
  have hlt := h.wd.lt
  have HNE : Hid (some bp ≠ vO.ownBlock) := fun e => by have := (ownBlock_lt h.row e.symm).1; omega
  obtain ⟨ad, cap, rfl⟩ := h.shape
  obtain ⟨c0, c1, cf⟩ := h.wd.cell
  have f1 := cf 1
  have hx := cidx3 8 w
  rw [show sbX 8 = 2 by decide +kernel, show ((((8 : UInt8)).toNat : Nat) : Int) = 8 from rfl] at hx
  have hal1 : ∀ o : Obj, (w.alloc o).cell? ⟨bp, 1, none⟩ = some (.slice ad l.length cap) := fun o => (World.cell?_alloc_lt _ _ _ hlt).trans c1
  have HOw : Hid (∀ o, ((w.alloc o).drew).ownsRow (bp + 1) 5 1 (.slice ad l.length cap) l.length (l.map byteV)) := fun o => h.row.alloc o
  have HBs : Hid (∀ o, bp + 1 ≤ ((w.alloc o).drew).heap.size) := fun o => by show _ ≤ (w.alloc o).heap.size; simp; omega
  have HSs : Hid (∀ o, ((w.alloc o).drew).heap.size = w.heap.size + 1) := fun o => by show (w.alloc o).heap.size = _; simp
  have HC : Hid (∀ j u, (([92, 98] : List UInt8).map byteV)[j]? = some u → ((w.alloc (.cells #[.int .u8 92, .int .u8 98] 5)).drew).cell? ((⟨w.heap.size, 0, none⟩ : Addr).add j) = some u) := built_cells w [92, 98] 5
  have HL : Hid _ := hl
  have hq0 : ((⟨#[34, 92, 98, 102, 110, 114, 116]⟩ : ByteArray)[2]'(by decide)).toNat = 98 := by decide +kernel
  clear hi0 h cf hl
  go_enter Tryz.func46, Tryz.ntmps46
  go_wp2_with fail
  refine hx.mono ?_
  rintro e w1 ⟨rfl, rfl⟩
  clear hx
  go_wp2_with fail
  go_region_law ((refine stepO rfl (.tmp 13) (.tmp 16) 42 rfl 5 i0 Tryz.underlying42 HI.out hz0 hz1 hz2 (bp + 1) _ l.length (l.map byteV) [92, 98] ⟨w1.heap.size, 0, none⟩ (w1.heap.size + 1) rfl rfl HL.out (by decide) (by decide) (by exact HOw.out _) (by exact HBs.out _) (by exact HSs.out _) (by exact HC.out) ?_; intro g8 cap8 w8 ho8 hg8 hgg8; have kA := keepers hg8 hlt HNE.out; have s1 := (kA.2.1 1).trans c1; have t1 := (kA.2.2 1).trans f1; have P8 : Hid _ := H.out.put (G := (w1.alloc (.cells #[.int .u8 92, .int .u8 98] 5)).drew) (by show (w1.alloc _).heap.size = _; simp) (fun k hk => heap_alloc_old w1 _ hk) rfl rfl rfl ho8 hg8 hgg8; clear kA ho8 hg8 hgg8))
  all_goals
    go_wp2
    go_end0
    exact ⟨rfl, _, P8.out.1, P8.out.2⟩

set_option maxRecDepth 4000 in
set_option maxHeartbeats 1000000 in
theorem wb_9 (hl : l.length ≤ 1000000000000) (h : WZ bp vN vO l w) :
    Calls Tryz.prog 46 #[.pointer (some ⟨bp, 0, none⟩), .int .u8 9] w fun r w' => WQ bp vN (own vO []) w (l ++ [92, 116]) r w' := by
  obtain ⟨i0, hi0, hz0, hz1, hz2⟩ := info_parts u8infoJ
  have HI : Hid _ := hi0
  have H : Hid (WZ bp vN vO l w) := h
  have hlt := h.wd.lt
  have HNE : Hid (some bp ≠ vO.ownBlock) := fun e => by have := (ownBlock_lt h.row e.symm).1; omega
  obtain ⟨ad, cap, rfl⟩ := h.shape
  obtain ⟨c0, c1, cf⟩ := h.wd.cell
  have f1 := cf 1
  have hx := cidx3 9 w
  rw [show sbX 9 = 6 by decide +kernel, show ((((9 : UInt8)).toNat : Nat) : Int) = 9 from rfl] at hx
  have hal1 : ∀ o : Obj, (w.alloc o).cell? ⟨bp, 1, none⟩ = some (.slice ad l.length cap) := fun o => (World.cell?_alloc_lt _ _ _ hlt).trans c1
  have HOw : Hid (∀ o, ((w.alloc o).drew).ownsRow (bp + 1) 5 1 (.slice ad l.length cap) l.length (l.map byteV)) := fun o => h.row.alloc o
  have HBs : Hid (∀ o, bp + 1 ≤ ((w.alloc o).drew).heap.size) := fun o => by show _ ≤ (w.alloc o).heap.size; simp; omega
  have HSs : Hid (∀ o, ((w.alloc o).drew).heap.size = w.heap.size + 1) := fun o => by show (w.alloc o).heap.size = _; simp
  have HC : Hid (∀ j u, (([92, 116] : List UInt8).map byteV)[j]? = some u → ((w.alloc (.cells #[.int .u8 92, .int .u8 116] 5)).drew).cell? ((⟨w.heap.size, 0, none⟩ : Addr).add j) = some u) := built_cells w [92, 116] 5
  have HL : Hid _ := hl
  have hq0 : ((⟨#[34, 92, 98, 102, 110, 114, 116]⟩ : ByteArray)[6]'(by decide)).toNat = 116 := by decide +kernel
  clear hi0 h cf hl
  go_enter Tryz.func46, Tryz.ntmps46
  go_wp2_with fail
  refine hx.mono ?_
  rintro e w1 ⟨rfl, rfl⟩
  clear hx
  go_wp2_with fail
  go_region_law ((refine stepO rfl (.tmp 13) (.tmp 16) 42 rfl 5 i0 Tryz.underlying42 HI.out hz0 hz1 hz2 (bp + 1) _ l.length (l.map byteV) [92, 116] ⟨w1.heap.size, 0, none⟩ (w1.heap.size + 1) rfl rfl HL.out (by decide) (by decide) (by exact HOw.out _) (by exact HBs.out _) (by exact HSs.out _) (by exact HC.out) ?_; intro g8 cap8 w8 ho8 hg8 hgg8; have kA := keepers hg8 hlt HNE.out; have s1 := (kA.2.1 1).trans c1; have t1 := (kA.2.2 1).trans f1; have P8 : Hid _ := H.out.put (G := (w1.alloc (.cells #[.int .u8 92, .int .u8 116] 5)).drew) (by show (w1.alloc _).heap.size = _; simp) (fun k hk => heap_alloc_old w1 _ hk) rfl rfl rfl ho8 hg8 hgg8; clear kA ho8 hg8 hgg8))
  all_goals
    go_wp2
    go_end0
    exact ⟨rfl, _, P8.out.1, P8.out.2⟩

set_option maxRecDepth 4000 in
set_option maxHeartbeats 1000000 in
theorem wb_10 (hl : l.length ≤ 1000000000000) (h : WZ bp vN vO l w) :
    Calls Tryz.prog 46 #[.pointer (some ⟨bp, 0, none⟩), .int .u8 10] w fun r w' => WQ bp vN (own vO []) w (l ++ [92, 110]) r w' := by
  obtain ⟨i0, hi0, hz0, hz1, hz2⟩ := info_parts u8infoJ
  have HI : Hid _ := hi0
  have H : Hid (WZ bp vN vO l w) := h
  have hlt := h.wd.lt
  have HNE : Hid (some bp ≠ vO.ownBlock) := fun e => by have := (ownBlock_lt h.row e.symm).1; omega
  obtain ⟨ad, cap, rfl⟩ := h.shape
  obtain ⟨c0, c1, cf⟩ := h.wd.cell
  have f1 := cf 1
  have hx := cidx3 10 w
  rw [show sbX 10 = 4 by decide +kernel, show ((((10 : UInt8)).toNat : Nat) : Int) = 10 from rfl] at hx
  have hal1 : ∀ o : Obj, (w.alloc o).cell? ⟨bp, 1, none⟩ = some (.slice ad l.length cap) := fun o => (World.cell?_alloc_lt _ _ _ hlt).trans c1
  have HOw : Hid (∀ o, ((w.alloc o).drew).ownsRow (bp + 1) 5 1 (.slice ad l.length cap) l.length (l.map byteV)) := fun o => h.row.alloc o
  have HBs : Hid (∀ o, bp + 1 ≤ ((w.alloc o).drew).heap.size) := fun o => by show _ ≤ (w.alloc o).heap.size; simp; omega
  have HSs : Hid (∀ o, ((w.alloc o).drew).heap.size = w.heap.size + 1) := fun o => by show (w.alloc o).heap.size = _; simp
  have HC : Hid (∀ j u, (([92, 110] : List UInt8).map byteV)[j]? = some u → ((w.alloc (.cells #[.int .u8 92, .int .u8 110] 5)).drew).cell? ((⟨w.heap.size, 0, none⟩ : Addr).add j) = some u) := built_cells w [92, 110] 5
  have HL : Hid _ := hl
  have hq0 : ((⟨#[34, 92, 98, 102, 110, 114, 116]⟩ : ByteArray)[4]'(by decide)).toNat = 110 := by decide +kernel
  clear hi0 h cf hl
  go_enter Tryz.func46, Tryz.ntmps46
  go_wp2_with fail
  refine hx.mono ?_
  rintro e w1 ⟨rfl, rfl⟩
  clear hx
  go_wp2_with fail
  go_region_law ((refine stepO rfl (.tmp 13) (.tmp 16) 42 rfl 5 i0 Tryz.underlying42 HI.out hz0 hz1 hz2 (bp + 1) _ l.length (l.map byteV) [92, 110] ⟨w1.heap.size, 0, none⟩ (w1.heap.size + 1) rfl rfl HL.out (by decide) (by decide) (by exact HOw.out _) (by exact HBs.out _) (by exact HSs.out _) (by exact HC.out) ?_; intro g8 cap8 w8 ho8 hg8 hgg8; have kA := keepers hg8 hlt HNE.out; have s1 := (kA.2.1 1).trans c1; have t1 := (kA.2.2 1).trans f1; have P8 : Hid _ := H.out.put (G := (w1.alloc (.cells #[.int .u8 92, .int .u8 110] 5)).drew) (by show (w1.alloc _).heap.size = _; simp) (fun k hk => heap_alloc_old w1 _ hk) rfl rfl rfl ho8 hg8 hgg8; clear kA ho8 hg8 hgg8))
  all_goals
    go_wp2
    go_end0
    exact ⟨rfl, _, P8.out.1, P8.out.2⟩

set_option maxRecDepth 4000 in
set_option maxHeartbeats 1000000 in
theorem wb_12 (hl : l.length ≤ 1000000000000) (h : WZ bp vN vO l w) :
    Calls Tryz.prog 46 #[.pointer (some ⟨bp, 0, none⟩), .int .u8 12] w fun r w' => WQ bp vN (own vO []) w (l ++ [92, 102]) r w' := by
  obtain ⟨i0, hi0, hz0, hz1, hz2⟩ := info_parts u8infoJ
  have HI : Hid _ := hi0
  have H : Hid (WZ bp vN vO l w) := h
  have hlt := h.wd.lt
  have HNE : Hid (some bp ≠ vO.ownBlock) := fun e => by have := (ownBlock_lt h.row e.symm).1; omega
  obtain ⟨ad, cap, rfl⟩ := h.shape
  obtain ⟨c0, c1, cf⟩ := h.wd.cell
  have f1 := cf 1
  have hx := cidx3 12 w
  rw [show sbX 12 = 3 by decide +kernel, show ((((12 : UInt8)).toNat : Nat) : Int) = 12 from rfl] at hx
  have hal1 : ∀ o : Obj, (w.alloc o).cell? ⟨bp, 1, none⟩ = some (.slice ad l.length cap) := fun o => (World.cell?_alloc_lt _ _ _ hlt).trans c1
  have HOw : Hid (∀ o, ((w.alloc o).drew).ownsRow (bp + 1) 5 1 (.slice ad l.length cap) l.length (l.map byteV)) := fun o => h.row.alloc o
  have HBs : Hid (∀ o, bp + 1 ≤ ((w.alloc o).drew).heap.size) := fun o => by show _ ≤ (w.alloc o).heap.size; simp; omega
  have HSs : Hid (∀ o, ((w.alloc o).drew).heap.size = w.heap.size + 1) := fun o => by show (w.alloc o).heap.size = _; simp
  have HC : Hid (∀ j u, (([92, 102] : List UInt8).map byteV)[j]? = some u → ((w.alloc (.cells #[.int .u8 92, .int .u8 102] 5)).drew).cell? ((⟨w.heap.size, 0, none⟩ : Addr).add j) = some u) := built_cells w [92, 102] 5
  have HL : Hid _ := hl
  have hq0 : ((⟨#[34, 92, 98, 102, 110, 114, 116]⟩ : ByteArray)[3]'(by decide)).toNat = 102 := by decide +kernel
  clear hi0 h cf hl
  go_enter Tryz.func46, Tryz.ntmps46
  go_wp2_with fail
  refine hx.mono ?_
  rintro e w1 ⟨rfl, rfl⟩
  clear hx
  go_wp2_with fail
  go_region_law ((refine stepO rfl (.tmp 13) (.tmp 16) 42 rfl 5 i0 Tryz.underlying42 HI.out hz0 hz1 hz2 (bp + 1) _ l.length (l.map byteV) [92, 102] ⟨w1.heap.size, 0, none⟩ (w1.heap.size + 1) rfl rfl HL.out (by decide) (by decide) (by exact HOw.out _) (by exact HBs.out _) (by exact HSs.out _) (by exact HC.out) ?_; intro g8 cap8 w8 ho8 hg8 hgg8; have kA := keepers hg8 hlt HNE.out; have s1 := (kA.2.1 1).trans c1; have t1 := (kA.2.2 1).trans f1; have P8 : Hid _ := H.out.put (G := (w1.alloc (.cells #[.int .u8 92, .int .u8 102] 5)).drew) (by show (w1.alloc _).heap.size = _; simp) (fun k hk => heap_alloc_old w1 _ hk) rfl rfl rfl ho8 hg8 hgg8; clear kA ho8 hg8 hgg8))
  all_goals
    go_wp2
    go_end0
    exact ⟨rfl, _, P8.out.1, P8.out.2⟩

set_option maxRecDepth 4000 in
set_option maxHeartbeats 1000000 in
theorem wb_13 (hl : l.length ≤ 1000000000000) (h : WZ bp vN vO l w) :
    Calls Tryz.prog 46 #[.pointer (some ⟨bp, 0, none⟩), .int .u8 13] w fun r w' => WQ bp vN (own vO []) w (l ++ [92, 114]) r w' := by
  obtain ⟨i0, hi0, hz0, hz1, hz2⟩ := info_parts u8infoJ
  have HI : Hid _ := hi0
  have H : Hid (WZ bp vN vO l w) := h
  have hlt := h.wd.lt
  have HNE : Hid (some bp ≠ vO.ownBlock) := fun e => by have := (ownBlock_lt h.row e.symm).1; omega
  obtain ⟨ad, cap, rfl⟩ := h.shape
  obtain ⟨c0, c1, cf⟩ := h.wd.cell
  have f1 := cf 1
  have hx := cidx3 13 w
  rw [show sbX 13 = 5 by decide +kernel, show ((((13 : UInt8)).toNat : Nat) : Int) = 13 from rfl] at hx
  have hal1 : ∀ o : Obj, (w.alloc o).cell? ⟨bp, 1, none⟩ = some (.slice ad l.length cap) := fun o => (World.cell?_alloc_lt _ _ _ hlt).trans c1
  have HOw : Hid (∀ o, ((w.alloc o).drew).ownsRow (bp + 1) 5 1 (.slice ad l.length cap) l.length (l.map byteV)) := fun o => h.row.alloc o
  have HBs : Hid (∀ o, bp + 1 ≤ ((w.alloc o).drew).heap.size) := fun o => by show _ ≤ (w.alloc o).heap.size; simp; omega
  have HSs : Hid (∀ o, ((w.alloc o).drew).heap.size = w.heap.size + 1) := fun o => by show (w.alloc o).heap.size = _; simp
  have HC : Hid (∀ j u, (([92, 114] : List UInt8).map byteV)[j]? = some u → ((w.alloc (.cells #[.int .u8 92, .int .u8 114] 5)).drew).cell? ((⟨w.heap.size, 0, none⟩ : Addr).add j) = some u) := built_cells w [92, 114] 5
  have HL : Hid _ := hl
  have hq0 : ((⟨#[34, 92, 98, 102, 110, 114, 116]⟩ : ByteArray)[5]'(by decide)).toNat = 114 := by decide +kernel
  clear hi0 h cf hl
  go_enter Tryz.func46, Tryz.ntmps46
  go_wp2_with fail
  refine hx.mono ?_
  rintro e w1 ⟨rfl, rfl⟩
  clear hx
  go_wp2_with fail
  go_region_law ((refine stepO rfl (.tmp 13) (.tmp 16) 42 rfl 5 i0 Tryz.underlying42 HI.out hz0 hz1 hz2 (bp + 1) _ l.length (l.map byteV) [92, 114] ⟨w1.heap.size, 0, none⟩ (w1.heap.size + 1) rfl rfl HL.out (by decide) (by decide) (by exact HOw.out _) (by exact HBs.out _) (by exact HSs.out _) (by exact HC.out) ?_; intro g8 cap8 w8 ho8 hg8 hgg8; have kA := keepers hg8 hlt HNE.out; have s1 := (kA.2.1 1).trans c1; have t1 := (kA.2.2 1).trans f1; have P8 : Hid _ := H.out.put (G := (w1.alloc (.cells #[.int .u8 92, .int .u8 114] 5)).drew) (by show (w1.alloc _).heap.size = _; simp) (fun k hk => heap_alloc_old w1 _ hk) rfl rfl rfl ho8 hg8 hgg8; clear kA ho8 hg8 hgg8))
  all_goals
    go_wp2
    go_end0
    exact ⟨rfl, _, P8.out.1, P8.out.2⟩

set_option maxRecDepth 4000 in
set_option maxHeartbeats 1000000 in
theorem wb_34 (hl : l.length ≤ 1000000000000) (h : WZ bp vN vO l w) :
    Calls Tryz.prog 46 #[.pointer (some ⟨bp, 0, none⟩), .int .u8 34] w fun r w' => WQ bp vN (own vO []) w (l ++ [92, 34]) r w' := by
  obtain ⟨i0, hi0, hz0, hz1, hz2⟩ := info_parts u8infoJ
  have HI : Hid _ := hi0
  have H : Hid (WZ bp vN vO l w) := h
  have hlt := h.wd.lt
  have HNE : Hid (some bp ≠ vO.ownBlock) := fun e => by have := (ownBlock_lt h.row e.symm).1; omega
  obtain ⟨ad, cap, rfl⟩ := h.shape
  obtain ⟨c0, c1, cf⟩ := h.wd.cell
  have f1 := cf 1
  have hx := cidx3 34 w
  rw [show sbX 34 = 0 by decide +kernel, show ((((34 : UInt8)).toNat : Nat) : Int) = 34 from rfl] at hx
  have hal1 : ∀ o : Obj, (w.alloc o).cell? ⟨bp, 1, none⟩ = some (.slice ad l.length cap) := fun o => (World.cell?_alloc_lt _ _ _ hlt).trans c1
  have HOw : Hid (∀ o, ((w.alloc o).drew).ownsRow (bp + 1) 5 1 (.slice ad l.length cap) l.length (l.map byteV)) := fun o => h.row.alloc o
  have HBs : Hid (∀ o, bp + 1 ≤ ((w.alloc o).drew).heap.size) := fun o => by show _ ≤ (w.alloc o).heap.size; simp; omega
  have HSs : Hid (∀ o, ((w.alloc o).drew).heap.size = w.heap.size + 1) := fun o => by show (w.alloc o).heap.size = _; simp
  have HC : Hid (∀ j u, (([92, 34] : List UInt8).map byteV)[j]? = some u → ((w.alloc (.cells #[.int .u8 92, .int .u8 34] 5)).drew).cell? ((⟨w.heap.size, 0, none⟩ : Addr).add j) = some u) := built_cells w [92, 34] 5
  have HL : Hid _ := hl
  have hq0 : ((⟨#[34, 92, 98, 102, 110, 114, 116]⟩ : ByteArray)[0]'(by decide)).toNat = 34 := by decide +kernel
  clear hi0 h cf hl
  go_enter Tryz.func46, Tryz.ntmps46
  go_wp2_with fail
  refine hx.mono ?_
  rintro e w1 ⟨rfl, rfl⟩
  clear hx
  go_wp2_with fail
  go_region_law ((refine stepO rfl (.tmp 13) (.tmp 16) 42 rfl 5 i0 Tryz.underlying42 HI.out hz0 hz1 hz2 (bp + 1) _ l.length (l.map byteV) [92, 34] ⟨w1.heap.size, 0, none⟩ (w1.heap.size + 1) rfl rfl HL.out (by decide) (by decide) (by exact HOw.out _) (by exact HBs.out _) (by exact HSs.out _) (by exact HC.out) ?_; intro g8 cap8 w8 ho8 hg8 hgg8; have kA := keepers hg8 hlt HNE.out; have s1 := (kA.2.1 1).trans c1; have t1 := (kA.2.2 1).trans f1; have P8 : Hid _ := H.out.put (G := (w1.alloc (.cells #[.int .u8 92, .int .u8 34] 5)).drew) (by show (w1.alloc _).heap.size = _; simp) (fun k hk => heap_alloc_old w1 _ hk) rfl rfl rfl ho8 hg8 hgg8; clear kA ho8 hg8 hgg8))
  all_goals
    go_wp2
    go_end0
    exact ⟨rfl, _, P8.out.1, P8.out.2⟩

set_option maxRecDepth 4000 in
set_option maxHeartbeats 1000000 in
theorem wb_92 (hl : l.length ≤ 1000000000000) (h : WZ bp vN vO l w) :
    Calls Tryz.prog 46 #[.pointer (some ⟨bp, 0, none⟩), .int .u8 92] w fun r w' => WQ bp vN (own vO []) w (l ++ [92, 92]) r w' := by
  obtain ⟨i0, hi0, hz0, hz1, hz2⟩ := info_parts u8infoJ
  have HI : Hid _ := hi0
  have H : Hid (WZ bp vN vO l w) := h
  have hlt := h.wd.lt
  have HNE : Hid (some bp ≠ vO.ownBlock) := fun e => by have := (ownBlock_lt h.row e.symm).1; omega
  obtain ⟨ad, cap, rfl⟩ := h.shape
  obtain ⟨c0, c1, cf⟩ := h.wd.cell
  have f1 := cf 1
  have hx := cidx3 92 w
  rw [show sbX 92 = 1 by decide +kernel, show ((((92 : UInt8)).toNat : Nat) : Int) = 92 from rfl] at hx
  have hal1 : ∀ o : Obj, (w.alloc o).cell? ⟨bp, 1, none⟩ = some (.slice ad l.length cap) := fun o => (World.cell?_alloc_lt _ _ _ hlt).trans c1
  have HOw : Hid (∀ o, ((w.alloc o).drew).ownsRow (bp + 1) 5 1 (.slice ad l.length cap) l.length (l.map byteV)) := fun o => h.row.alloc o
  have HBs : Hid (∀ o, bp + 1 ≤ ((w.alloc o).drew).heap.size) := fun o => by show _ ≤ (w.alloc o).heap.size; simp; omega
  have HSs : Hid (∀ o, ((w.alloc o).drew).heap.size = w.heap.size + 1) := fun o => by show (w.alloc o).heap.size = _; simp
  have HC : Hid (∀ j u, (([92, 92] : List UInt8).map byteV)[j]? = some u → ((w.alloc (.cells #[.int .u8 92, .int .u8 92] 5)).drew).cell? ((⟨w.heap.size, 0, none⟩ : Addr).add j) = some u) := built_cells w [92, 92] 5
  have HL : Hid _ := hl
  have hq0 : ((⟨#[34, 92, 98, 102, 110, 114, 116]⟩ : ByteArray)[1]'(by decide)).toNat = 92 := by decide +kernel
  clear hi0 h cf hl
  go_enter Tryz.func46, Tryz.ntmps46
  go_wp2_with fail
  refine hx.mono ?_
  rintro e w1 ⟨rfl, rfl⟩
  clear hx
  go_wp2_with fail
  go_region_law ((refine stepO rfl (.tmp 13) (.tmp 16) 42 rfl 5 i0 Tryz.underlying42 HI.out hz0 hz1 hz2 (bp + 1) _ l.length (l.map byteV) [92, 92] ⟨w1.heap.size, 0, none⟩ (w1.heap.size + 1) rfl rfl HL.out (by decide) (by decide) (by exact HOw.out _) (by exact HBs.out _) (by exact HSs.out _) (by exact HC.out) ?_; intro g8 cap8 w8 ho8 hg8 hgg8; have kA := keepers hg8 hlt HNE.out; have s1 := (kA.2.1 1).trans c1; have t1 := (kA.2.2 1).trans f1; have P8 : Hid _ := H.out.put (G := (w1.alloc (.cells #[.int .u8 92, .int .u8 92] 5)).drew) (by show (w1.alloc _).heap.size = _; simp) (fun k hk => heap_alloc_old w1 _ hk) rfl rfl rfl ho8 hg8 hgg8; clear kA ho8 hg8 hgg8))
  all_goals
    go_wp2
    go_end0
    exact ⟨rfl, _, P8.out.1, P8.out.2⟩
end
end Go.Proofs.YtoijppmkkhgkdacGreatDoor
