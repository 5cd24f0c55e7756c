/-
  plan256, plan512 and plan384.
-/
import Derived.Test.YtfihidnmgaiojaaSum32
import Derived.Test.YtfihidnmgaiojaaSum64
import Derived.Deep.MidRow
namespace Go.Proofs.Ytfihidnmgaiojaa
open Go.RowKit
set_option linter.unusedVariables false

def K32 : List (BitVec 32) := [1116352408#32, 1899447441#32, 3049323471#32, 3921009573#32, 961987163#32, 1508970993#32, 2453635748#32, 2870763221#32, 3624381080#32, 310598401#32, 607225278#32, 1426881987#32, 1925078388#32, 2162078206#32, 2614888103#32, 3248222580#32, 3835390401#32, 4022224774#32, 264347078#32, 604807628#32, 770255983#32, 1249150122#32, 1555081692#32, 1996064986#32, 2554220882#32, 2821834349#32, 2952996808#32, 3210313671#32, 3336571891#32, 3584528711#32, 113926993#32, 338241895#32, 666307205#32, 773529912#32, 1294757372#32, 1396182291#32, 1695183700#32, 1986661051#32, 2177026350#32, 2456956037#32, 2730485921#32, 2820302411#32, 3259730800#32, 3345764771#32, 3516065817#32, 3600352804#32, 4094571909#32, 275423344#32, 430227734#32, 506948616#32, 659060556#32, 883997877#32, 958139571#32, 1322822218#32, 1537002063#32, 1747873779#32, 1955562222#32, 2024104815#32, 2227730452#32, 2361852424#32, 2428436474#32, 2756734187#32, 3204031479#32, 3329325298#32]
def K64 : List (BitVec 64) := [4794697086780616226#64, 8158064640168781261#64, 13096744586834688815#64, 16840607885511220156#64, 4131703408338449720#64, 6480981068601479193#64, 10538285296894168987#64, 12329834152419229976#64, 15566598209576043074#64, 1334009975649890238#64, 2608012711638119052#64, 6128411473006802146#64, 8268148722764581231#64, 9286055187155687089#64, 11230858885718282805#64, 13951009754708518548#64, 16472876342353939154#64, 17275323862435702243#64, 1135362057144423861#64, 2597628984639134821#64, 3308224258029322869#64, 5365058923640841347#64, 6679025012923562964#64, 8573033837759648693#64, 10970295158949994411#64, 12119686244451234320#64, 12683024718118986047#64, 13788192230050041572#64, 14330467153632333762#64, 15395433587784984357#64, 489312712824947311#64, 1452737877330783856#64, 2861767655752347644#64, 3322285676063803686#64, 5560940570517711597#64, 5996557281743188959#64, 7280758554555802590#64, 8532644243296465576#64, 9350256976987008742#64, 10552545826968843579#64, 11727347734174303076#64, 12113106623233404929#64, 14000437183269869457#64, 14369950271660146224#64, 15101387698204529176#64, 15463397548674623760#64, 17586052441742319658#64, 1182934255886127544#64, 1847814050463011016#64, 2177327727835720531#64, 2830643537854262169#64, 3796741975233480872#64, 4115178125766777443#64, 5681478168544905931#64, 6601373596472566643#64, 7507060721942968483#64, 8399075790359081724#64, 8693463985226723168#64, 9568029438360202098#64, 10144078919501101548#64, 10430055236837252648#64, 11840083180663258601#64, 13761210420658862357#64, 14299343276471374635#64, 14566680578165727644#64, 15097957966210449927#64, 16922976911328602910#64, 17689382322260857208#64, 500013540394364858#64, 748580250866718886#64, 1242879168328830382#64, 1977374033974150939#64, 2944078676154940804#64, 3659926193048069267#64, 4368137639120453308#64, 4836135668995329356#64, 5532061633213252278#64, 6448918945643986474#64, 6902733635092675308#64, 7801388544844847127#64]
def w32 : Way 32 := ⟨7, 18, 3, 17, 19, 10, 6, 11, 25, 2, 13, 22, K32⟩
def w64 : Way 64 := ⟨1, 8, 7, 19, 61, 6, 14, 18, 41, 28, 34, 39, K64⟩
def s256 : St 32 := ⟨1779033703#32, 3144134277#32, 1013904242#32, 2773480762#32, 1359893119#32, 2600822924#32, 528734635#32, 1541459225#32⟩
def s512 : St 64 := ⟨7640891576956012808#64, 13503953896175478587#64, 4354685564936845355#64, 11912009170470909681#64, 5840696475078001361#64, 11170449401992604703#64, 2270897969802886507#64, 6620516959819538809#64⟩
def s384 : St 64 := ⟨14680500436340154072#64, 7105036623409894663#64, 10473403895298186519#64, 1526699215303891257#64, 7436329637833083697#64, 10282925794625328401#64, 15784041429090275239#64, 5167115440072839076#64⟩

def keysA32 : Array Value := (K32.map fun k => Value.int .u32 (eW k)).toArray
def keysA64 : Array Value := (K64.map fun k => Value.int .u64 (eW k)).toArray

theorem wp_built {P : Program} {ops : Array Oper} {rest : List Oper} {o : Oper} {a : Act} {Q : Exit → Act → World → Prop} {w : World} (hgd : o.guard = none) (t n : Nat) (parts : Array (Nat × Operand)) (ho : o.op = .buildSlice t n parts)
    (c : Array Value) (e : TypeId) (hr : (Instr.buildSlice t n (parts.map fun (i, x) => (i, a.eval x))).run P w = .ok (.slice (some ⟨w.heap.size, 0, none⟩) n n) (w.alloc (.cells c e)))
    (h : wpList P ops Q rest (a.put o.dst (.slice (some ⟨w.heap.size, 0, none⟩) n n)) (w.alloc (.cells c e))) : wpList P ops Q (o :: rest) a w := by
  refine wpList_plain hgd fun K hK => ?_
  unfold Oper.wp execOp
  simp only [ho, Sem.run_bind, Sem.run_pure, hr, Result.andThen_ok]
  exact hK _ _ h

theorem wp_build {P : Program} {ops : Array Oper} {rest : List Oper} {o : Oper} {a : Act} {Q : Exit → Act → World → Prop} {w : World} (hgd : o.guard = none) (t : Nat) (parts : Array (Nat × Operand)) (ho : o.op = .build t parts)
    (v : Value) (hr : (Instr.build t (parts.map fun (i, x) => (i, a.eval x))).run P w = .ok v w)
    (h : wpList P ops Q rest (a.put o.dst v) w) : wpList P ops Q (o :: rest) a w := by
  refine wpList_plain hgd fun K hK => ?_
  unfold Oper.wp execOp
  simp only [ho, Sem.run_bind, Sem.run_pure, hr, Result.andThen_ok]
  exact hK _ _ h

/-- The cells of a plan. -/
def planA32 (kb : Nat) (s : St 32) : Array Value := #[.int .i64 4, .int .u32 (eW s.a), .int .u32 (eW s.b), .int .u32 (eW s.c), .int .u32 (eW s.d), .int .u32 (eW s.e), .int .u32 (eW s.f), .int .u32 (eW s.g), .int .u32 (eW s.h), .slice (some ⟨kb, 0, none⟩) 64 64, .int .i64 7, .int .i64 18, .int .i64 3, .int .i64 17, .int .i64 19, .int .i64 10, .int .i64 6, .int .i64 11, .int .i64 25, .int .i64 2, .int .i64 13, .int .i64 22]
def planA64 (kb : Nat) (s : St 64) : Array Value := #[.int .i64 8, .int .u64 (eW s.a), .int .u64 (eW s.b), .int .u64 (eW s.c), .int .u64 (eW s.d), .int .u64 (eW s.e), .int .u64 (eW s.f), .int .u64 (eW s.g), .int .u64 (eW s.h), .slice (some ⟨kb, 0, none⟩) 80 80, .int .i64 1, .int .i64 8, .int .i64 7, .int .i64 19, .int .i64 61, .int .i64 6, .int .i64 14, .int .i64 18, .int .i64 41, .int .i64 28, .int .i64 34, .int .i64 39]
theorem planA32_info (kb : Nat) (s : St 32) : (Try.prog.info? 39).map (·.size) = some (planA32 kb s).size := by
  rw [show (planA32 kb s).size = 22 from rfl]; kernel_rfl
theorem planA64_info (kb : Nat) (s : St 64) : (Try.prog.info? 46).map (·.size) = some (planA64 kb s).size := by
  rw [show (planA64 kb s).size = 22 from rfl]; kernel_rfl
theorem planA32_one (kb : Nat) (s : St 32) : (planA32 kb s).all (·.oneCell') = true := by simp [planA32, Value.oneCell']
theorem planA64_one (kb : Nat) (s : St 64) : (planA64 kb s).all (·.oneCell') = true := by simp [planA64, Value.oneCell']
def planZ32 : Array Value := #[.int .i64 0, .int .u32 0, .int .u32 0, .int .u32 0, .int .u32 0, .int .u32 0, .int .u32 0, .int .u32 0, .int .u32 0, .slice none 0 0, .int .i64 0, .int .i64 0, .int .i64 0, .int .i64 0, .int .i64 0, .int .i64 0, .int .i64 0, .int .i64 0, .int .i64 0, .int .i64 0, .int .i64 0, .int .i64 0]
def planZ64 : Array Value := #[.int .i64 0, .int .u64 0, .int .u64 0, .int .u64 0, .int .u64 0, .int .u64 0, .int .u64 0, .int .u64 0, .int .u64 0, .slice none 0 0, .int .i64 0, .int .i64 0, .int .i64 0, .int .i64 0, .int .i64 0, .int .i64 0, .int .i64 0, .int .i64 0, .int .i64 0, .int .i64 0, .int .i64 0, .int .i64 0]
theorem zeroP64 (w : World) : Sem.run Try.prog (zeroValue 46) w = .ok (.agg (planZ64)) w := by kernel_rfl
theorem zeroP32 (w : World) : Sem.run Try.prog (zeroValue 39) w = .ok (.agg (planZ32)) w := by kernel_rfl

set_option maxRecDepth 100000 in
set_option maxHeartbeats 1000000 in
theorem plan256 (w : World) : Calls Try.prog 20 #[] w fun e w' => e = .returned (.agg (planA32 (w.heap.size + 1) s256)) ∧ Below w.heap.size w w' ∧ w'.heap[w.heap.size + 1]? = some (.cells keysA32 33 (0, 0)) := by
  have hz := zeroP32
  go_enter Try.func20, Try.ntmps20
  go_wp2_with (first | (refine wp_built rfl 36 64 _ rfl keysA32 33 ?hr ?_; (case hr => kernel_rfl)) | (refine wp_build rfl 35 _ rfl (.agg (st32 s256)) ?hr ?_; (case hr => kernel_rfl)) | (refine wp_build rfl 39 _ rfl (.agg (planA32 (w.heap.size + 1) s256)) ?hr ?_; (case hr => kernel_rfl)) | (refine wpList_store_row rfl 39 _ _ rfl w.heap.size _ rfl rfl _ _ (heap_alloc2_old _ _ _) (planA32_info _ _) rfl (planA32_one _ _) ?_))
  refine bodyPost_ret (v := .agg (planA32 (w.heap.size + 1) s256)) (results_cell_row rfl _ _ w.heap.size _ _ _ _ rfl (setRow_heap _ _ _ _ _ _ (heap_alloc2_old _ _ _)) Try.underlying39 rfl (planA32_info _ _)) rfl ⟨rfl, below_setRow (bal (bal (brf _) _) _) (Nat.le_refl _) _, ?_⟩
  rw [setRow_other _ _ _ _ (by omega), heap_alloc2_new]

set_option maxRecDepth 100000 in
set_option maxHeartbeats 1000000 in
theorem plan512 (w : World) : Calls Try.prog 24 #[] w fun e w' => e = .returned (.agg (planA64 (w.heap.size + 1) s512)) ∧ Below w.heap.size w w' ∧ w'.heap[w.heap.size + 1]? = some (.cells keysA64 41 (0, 0)) := by
  have hz := zeroP64
  go_enter Try.func24, Try.ntmps24
  go_wp2_with (first | (refine wp_built rfl 44 80 _ rfl keysA64 41 ?hr ?_; (case hr => kernel_rfl)) | (refine wp_build rfl 43 _ rfl (.agg (st64 s512)) ?hr ?_; (case hr => kernel_rfl)) | (refine wp_build rfl 46 _ rfl (.agg (planA64 (w.heap.size + 1) s512)) ?hr ?_; (case hr => kernel_rfl)) | (refine wpList_store_row rfl 46 _ _ rfl w.heap.size _ rfl rfl _ _ (heap_alloc2_old _ _ _) (planA64_info _ _) rfl (planA64_one _ _) ?_))
  refine bodyPost_ret (v := .agg (planA64 (w.heap.size + 1) s512)) (results_cell_row rfl _ _ w.heap.size _ _ _ _ rfl (setRow_heap _ _ _ _ _ _ (heap_alloc2_old _ _ _)) Try.underlying46 rfl (planA64_info _ _)) rfl ⟨rfl, below_setRow (bal (bal (brf _) _) _) (Nat.le_refl _) _, ?_⟩
  rw [setRow_other _ _ _ _ (by omega), heap_alloc2_new]

/-- Eight cells of a plan are written. -/
def putS (w : World) (g : Nat) (v : St 64) : World :=
  (((((((w.setCell ⟨g, 1, none⟩ (.int .u64 (eW v.a))).setCell ⟨g, 2, none⟩ (.int .u64 (eW v.b))).setCell ⟨g, 3, none⟩ (.int .u64 (eW v.c))).setCell ⟨g, 4, none⟩ (.int .u64 (eW v.d))).setCell ⟨g, 5, none⟩ (.int .u64 (eW v.e))).setCell
    ⟨g, 6, none⟩ (.int .u64 (eW v.f))).setCell ⟨g, 7, none⟩ (.int .u64 (eW v.g))).setCell ⟨g, 8, none⟩ (.int .u64 (eW v.h))
theorem putS_same {w : World} {g kb : Nat} {u : St 64} {t : TypeId} (v : St 64) (h : w.heap[g]? = some (.cells (planA64 kb u) t (0, 0))) : (putS w g v).heap[g]? = some (.cells (planA64 kb v) t (0, 0)) := by
  unfold putS
  have e0 := heap_setCell_same _ _ 1 _ _ (.int .u64 (eW v.a)) h
  have e1 := heap_setCell_same _ _ 2 _ _ (.int .u64 (eW v.b)) e0
  have e2 := heap_setCell_same _ _ 3 _ _ (.int .u64 (eW v.c)) e1
  have e3 := heap_setCell_same _ _ 4 _ _ (.int .u64 (eW v.d)) e2
  have e4 := heap_setCell_same _ _ 5 _ _ (.int .u64 (eW v.e)) e3
  have e5 := heap_setCell_same _ _ 6 _ _ (.int .u64 (eW v.f)) e4
  have e6 := heap_setCell_same _ _ 7 _ _ (.int .u64 (eW v.g)) e5
  have e7 := heap_setCell_same _ _ 8 _ _ (.int .u64 (eW v.h)) e6
  rw [e7]; simp [planA64]
theorem putS_other {w : World} {g k : Nat} (v : St 64) (h : k ≠ g) : (putS w g v).heap[k]? = w.heap[k]? := by
  unfold putS
  rw [heap_setCell_other _ _ _ _ h, heap_setCell_other _ _ _ _ h, heap_setCell_other _ _ _ _ h, heap_setCell_other _ _ _ _ h, heap_setCell_other _ _ _ _ h, heap_setCell_other _ _ _ _ h, heap_setCell_other _ _ _ _ h, heap_setCell_other _ _ _ _ h]
theorem putS_below {B : Nat} {a w : World} {g : Nat} (v : St 64) (h : Below B a w) (hg : B ≤ g) : Below B a (putS w g v) :=
  (((((((h.setCell hg _).setCell hg _).setCell hg _).setCell hg _).setCell hg _).setCell hg _).setCell hg _).setCell hg _

theorem plan_cells {w : World} {g kb : Nat} {u : St 64} {t : TypeId} {fr : Nat × Nat} (h : w.heap[g]? = some (.cells (planA64 kb u) t fr)) :
    w.cell? ⟨g, 1, none⟩ = some (.int .u64 (eW u.a)) ∧ w.cell? ⟨g, 2, none⟩ = some (.int .u64 (eW u.b)) ∧ w.cell? ⟨g, 3, none⟩ = some (.int .u64 (eW u.c)) ∧ w.cell? ⟨g, 4, none⟩ = some (.int .u64 (eW u.d)) ∧
    w.cell? ⟨g, 5, none⟩ = some (.int .u64 (eW u.e)) ∧ w.cell? ⟨g, 6, none⟩ = some (.int .u64 (eW u.f)) ∧ w.cell? ⟨g, 7, none⟩ = some (.int .u64 (eW u.g)) ∧ w.cell? ⟨g, 8, none⟩ = some (.int .u64 (eW u.h)) := by
  refine ⟨?_, ?_, ?_, ?_, ?_, ?_, ?_, ?_⟩ <;> (rw [cell_of_row _ _ _ _ _ _ h]; rfl)

theorem wp_store8 {P : Program} {ops : Array Oper} {rest : List Oper} {o : Oper} {a : Act} {Q : Exit → Act → World → Prop} {w : World} (hgd : o.guard = none) (ty : TypeId) (x y : Operand) (ho : o.op = .store ty x y)
    (g kb : Nat) (u v : St 64) (t : TypeId) (hx : a.eval x = .pointer (some ⟨g, 1, none⟩))
    (hy : a.eval y = .agg #[.int .u64 (eW v.a), .int .u64 (eW v.b), .int .u64 (eW v.c), .int .u64 (eW v.d), .int .u64 (eW v.e), .int .u64 (eW v.f), .int .u64 (eW v.g), .int .u64 (eW v.h)])
    (hg : w.heap[g]? = some (.cells (planA64 kb u) t (0, 0))) (hi : (P.info? ty).map (·.size) = some 8)
    (h : ∀ W3, W3.heap[g]? = some (.cells (planA64 kb v) t (0, 0)) → (∀ k, k ≠ g → W3.heap[k]? = w.heap[k]?) → (∀ B a, Below B a w → B ≤ g → Below B a W3) → wpList P ops Q rest (a.put o.dst undef) W3) : wpList P ops Q (o :: rest) a w := by
  refine wpList_store_mid hgd ty x y ho g 1 _ hx hy ?_ hi (by simp [Value.oneCell']) ?_
  · intro j hj
    have hj' : j < 8 := by simpa using hj
    refine ⟨?_, frozen_of_row _ _ _ _ _ hg⟩
    rw [cell_of_row _ _ _ _ _ _ hg, Array.getElem?_eq_getElem (by show 1 + j < 22; omega)]; rfl
  · exact h (putS w g v) (putS_same v hg) (fun k hk => putS_other v hk) (fun B a hb hB => putS_below v hb hB)

theorem bun {w w1 : World} {kb : Nat} {c k : Array Value} {t e : TypeId} (T : St 64) (hk : w1.heap[kb]? = some (.cells k e (0, 0))) (h0 : w1.heap[w.heap.size]? = some (.cells c t (0, 0))) (hb : Below w.heap.size w w1) :
    ∃ W2, w1.alloc (.cells (planA64 kb T) t) = W2 ∧ W2.heap[w1.heap.size]? = some (.cells (planA64 kb T) t (0, 0)) ∧ W2.heap[w.heap.size]? = some (.cells c t (0, 0)) ∧ W2.heap[kb]? = some (.cells k e (0, 0)) ∧ Below w.heap.size w W2 :=
  ⟨_, rfl, heap_alloc_new _ _, by rw [heap_alloc_old _ _ (Array.getElem?_eq_some_iff.1 h0).1]; exact h0, by rw [heap_alloc_old _ _ (Array.getElem?_eq_some_iff.1 hk).1]; exact hk, bal hb _⟩

set_option maxRecDepth 100000 in
set_option maxHeartbeats 1000000 in
theorem plan384 (w : World) : Calls Try.prog 22 #[] w fun e w' => ∃ kb, e = .returned (.agg (planA64 kb s384)) ∧ Below w.heap.size w w' ∧ w.heap.size ≤ kb ∧ w'.heap[kb]? = some (.cells keysA64 41 (0, 0)) := by
  have hz := zeroP64
  go_enter Try.func22, Try.ntmps22
  go_wp2_with fail
  refine (plan512 _).mono ?_
  rintro e1 w1 ⟨rfl, hb1, hk1⟩
  have hB1 : Below w.heap.size w w1 := (bal (brf w) _).trans (hb1.mono (by simp))
  have h0 : w1.heap[w.heap.size]? = some (.cells planZ64 46 (0, 0)) := (hb1.block _ (by simp)).trans (heap_alloc_new _ _)
  generalize hkb : (w.alloc (Obj.cells planZ64 46)).heap.size + 1 = kb at hk1
  have hkw : w.heap.size < kb := by rw [← hkb]; simp; omega
  have hkl : kb < w1.heap.size := (Array.getElem?_eq_some_iff.1 hk1).1
  clear hb1 hkb
  generalize hT : s512 = T
  clear hT
  have HK : Hid _ := hk1
  have H0 : Hid _ := h0
  have HB : Hid _ := hB1
  clear hk1 h0 hB1
  have hsz : w.heap.size < w1.heap.size := by omega
  go_wp2_with (first | (refine wpList_store_row rfl 46 (.tmp 1) (.tmp 2) rfl w1.heap.size _ rfl rfl _ _ (heap_alloc_new _ _) (planA64_info _ _) rfl (planA64_one _ _) ?_; rw [World.setRow_alloc_new]; obtain ⟨W2, hW, hW2, hW0, hWk, hWb⟩ := bun T HK.out H0.out HB.out; rw [hW]; have HW2 : Hid _ := hW2; have HW0 : Hid _ := hW0; have HWk : Hid _ := hWk; have HWb : Hid _ := hWb; clear hW hW2 hW0 hWk hWb) | (refine wp_build rfl 43 _ rfl (.agg #[.int .u64 (eW s384.a), .int .u64 (eW s384.b), .int .u64 (eW s384.c), .int .u64 (eW s384.d), .int .u64 (eW s384.e), .int .u64 (eW s384.f), .int .u64 (eW s384.g), .int .u64 (eW s384.h)]) ?hr ?_; (case hr => kernel_rfl)) | (refine wp_store8 rfl 43 (.tmp 4) (.tmp 3) rfl w1.heap.size kb T s384 46 rfl rfl HW2.out ?hi ?_; (case hi => kernel_rfl); intro W3 h31 h32 h33; have g0 := (h32 _ (Nat.ne_of_lt hsz)).trans HW0.out; have gk := (h32 _ (Nat.ne_of_lt hkl)).trans HWk.out; have gb := h33 _ _ HWb.out (Nat.le_of_lt hsz); have H31 : Hid _ := h31; have G0 : Hid _ := g0; have Gk : Hid _ := gk; have Gb : Hid _ := gb; clear h31 h32 h33 g0 gk gb) | (refine wpList_load_row rfl 46 (.tmp 1) rfl w1.heap.size rfl _ _ _ _ H31.out Try.underlying46 rfl (planA64_info _ _) ?_) | (refine wpList_store_row rfl 46 (.tmp 0) (.tmp 5) rfl w.heap.size _ rfl rfl _ _ G0.out (planA64_info _ _) rfl (planA64_one _ _) ?_))
  refine bodyPost_ret (v := .agg (planA64 kb s384)) (results_cell_row rfl _ _ w.heap.size _ _ _ _ rfl (setRow_heap _ _ _ _ _ _ G0.out) Try.underlying46 rfl (planA64_info _ _)) rfl ⟨kb, rfl, ?_, Nat.le_of_lt hkw, ?_⟩
  · exact below_setRow Gb.out (Nat.le_refl _) _
  · rw [setRow_other _ _ _ _ (by omega)]
    exact Gk.out
end Go.Proofs.Ytfihidnmgaiojaa
