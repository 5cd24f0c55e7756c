import Derived.Test.YtaghclgookfmnaaDoorBuf
/-
  JSON as the document says it, on lists of bytes: what a text is read as, or the first fault and its place.
-/
namespace Go.Proofs.YtaghclgookfmnaaDoor
set_option linter.unusedVariables false

/-- What lies from i on. -/
def sfx (s : ByteArray) (i : Nat) : List UInt8 := s.data.toList.drop i
theorem sfx_cons (s : ByteArray) (i : Nat) (h : i < s.size) : sfx s i = s[i] :: sfx s (i + 1) := by
  unfold sfx
  have h' : i < s.data.toList.length := by simpa using h
  rw [List.drop_eq_getElem_cons h']; rfl
theorem sfx_nil (s : ByteArray) (i : Nat) (h : s.size ≤ i) : sfx s i = [] := by
  unfold sfx
  exact List.drop_of_length_le (by simpa using h)
theorem sfx_drop (s : ByteArray) (i n : Nat) : (sfx s i).drop n = sfx s (i + n) := by unfold sfx; rw [List.drop_drop]
theorem sfx_length (s : ByteArray) (i : Nat) : (sfx s i).length = s.size - i := by unfold sfx; simp
theorem sfx_get (s : ByteArray) (i k : Nat) (h : i + k < s.size) : (sfx s i)[k]? = some s[i + k] := by
  unfold sfx
  have h' : i + k < s.data.toList.length := by simpa using h
  rw [List.getElem?_drop, List.getElem?_eq_getElem h']; rfl
theorem sfx_get_none (s : ByteArray) (i k : Nat) (h : s.size ≤ i + k) : (sfx s i)[k]? = none := by
  rw [List.getElem?_eq_none]; rw [sfx_length]; omega

def isB (c : UInt8) : Bool := c == 32 || c == 9 || c == 10 || c == 13
/-- How many blanks stand ahead. -/
def nb : List UInt8 → Nat | [] => 0 | c :: r => if isB c then nb r + 1 else 0
def isD (c : UInt8) : Bool := decide (48 ≤ c.toNat) && decide (c.toNat ≤ 57)

def goesL (l : List UInt8) (k lo hi : Nat) : Bool := match l[k]? with | some c => decide (lo ≤ c.toNat) && decide (c.toNat ≤ hi) | none => false
def seqN (c : Nat) : Nat := if c < 224 then 2 else if c < 240 then 3 else 4
def seqLo (c : Nat) : Nat := if c = 224 then 160 else if c = 240 then 144 else 128
def seqHi (c : Nat) : Nat := if c = 237 then 159 else if c = 244 then 143 else 191
/-- How many bytes the right sequence has that stands ahead; 0: none does. -/
def seqLen (l : List UInt8) : Nat :=
  match l with
  | [] => 0
  | c :: _ =>
    if c.toNat < 128 then 1
    else if c.toNat < 194 ∨ 244 < c.toNat then 0
    else if (goesL l 1 (seqLo c.toNat) (seqHi c.toNat) && (decide (seqN c.toNat ≤ 2) || goesL l 2 128 191) && (decide (seqN c.toNat ≤ 3) || goesL l 3 128 191)) = true then seqN c.toNat else 0

def hexv (c : UInt8) : Option Nat :=
  if 48 ≤ c.toNat ∧ c.toNat ≤ 57 then some (c.toNat - 48)
  else if 65 ≤ c.toNat ∧ c.toNat ≤ 70 then some (c.toNat - 55)
  else if 97 ≤ c.toNat ∧ c.toNat ≤ 102 then some (c.toNat - 87)
  else none
/-- k signs more, n so far, o signs ahead: the number, or none; and where it ends. -/
def fourG : Nat → Nat → List UInt8 → Nat → Option Nat × Nat
  | 0, n, _, o => (some n, o)
  | _ + 1, _, [], o => (none, o)
  | k + 1, n, c :: r, o => match hexv c with | none => (none, o) | some d => fourG k (16 * n + d) r (o + 1)
def four4 (l : List UInt8) : Option Nat × Nat := fourG 4 0 l 0
/-- The number of a second half that stands ahead. -/
def lowL (l : List UInt8) : Option Nat :=
  match l with
  | a :: b :: r => if a = 92 ∧ b = 117 then (match (four4 r).1 with | some n => if 56320 ≤ n ∧ n ≤ 57343 then some n else none | none => none) else none
  | _ => none
def wr8 (n : Nat) : List UInt8 :=
  if n < 128 then [UInt8.ofNat n]
  else if n < 2048 then [UInt8.ofNat (192 + n / 64), UInt8.ofNat (128 + n % 64)]
  else if n < 65536 then [UInt8.ofNat (224 + n / 4096), UInt8.ofNat (128 + n / 64 % 64), UInt8.ofNat (128 + n % 64)]
  else [UInt8.ofNat (240 + n / 262144), UInt8.ofNat (128 + n / 4096 % 64), UInt8.ofNat (128 + n / 64 % 64), UInt8.ofNat (128 + n % 64)]
/-- A backslash-u of the number n; r: what lies behind its four signs. -/
def pairL (n : Nat) (r : List UInt8) : Except Nat (List UInt8 × Nat) :=
  if n < 55296 ∨ 57343 < n then .ok (wr8 n, 6)
  else match lowL r with
    | none => .error 0
    | some m => if 56320 ≤ n then .error 0 else .ok (wr8 (65536 + 1024 * (n - 55296) + (m - 56320)), 12)
def esc1 (c : UInt8) : Option UInt8 :=
  if c = 34 ∨ c = 92 ∨ c = 47 then some c else if c = 98 then some 8 else if c = 102 then some 12 else if c = 110 then some 10 else if c = 114 then some 13 else if c = 116 then some 9 else none
/-- What a backslash (the list's first byte) and what is behind it stand for, and how many bytes they are; or where the fault is. -/
def escL (l : List UInt8) : Except Nat (List UInt8 × Nat) :=
  match l with
  | _ :: c :: r =>
    match esc1 c with
    | some b => .ok ([b], 2)
    | none => if c = 117 then (match four4 r with | (none, o) => .error (2 + o) | (some n, _) => pairL n (r.drop 4)) else .error 1
  | _ => .error 1

def shiftS (acc : List UInt8) (k : Nat) : Except Nat (List UInt8 × Nat) → Except Nat (List UInt8 × Nat)
  | .ok (t, n) => .ok (acc ++ t, k + n)
  | .error o => .error (k + o)

/-- A string behind its first quote: its bytes, and how many bytes were read, the last quote among them. 'f': as many rounds as there are bytes. -/
def strF : Nat → List UInt8 → Except Nat (List UInt8 × Nat)
  | 0, _ => .error 0
  | f + 1, l =>
    match l with
    | [] => .error 0
    | c :: _ =>
      if c = 34 then .ok ([], 1)
      else if c.toNat < 32 then .error 0
      else if c = 92 then
        match escL l with
        | .error o => .error o
        | .ok (t, n) => shiftS t n (strF f (l.drop n))
      else if seqLen l = 0 then .error 0
      else shiftS (l.take (seqLen l)) (seqLen l) (strF f (l.drop (seqLen l)))
def strL (l : List UInt8) : Except Nat (List UInt8 × Nat) := strF (l.length + 1) l
/-- A string, its quotes among it. -/
def quotL (l : List UInt8) : Except Nat (List UInt8 × Nat) :=
  match l with
  | c :: r => if c = 34 then (match strL r with | .ok (t, n) => .ok (t, n + 1) | .error o => .error (o + 1)) else .error 0
  | [] => .error 0

def maxI : Nat := 9007199254740991
/-- The digits that stand ahead: how many. -/
def nd : List UInt8 → Nat | [] => 0 | c :: r => if isD c then nd r + 1 else 0
/-- Their number; beyond its bound it stands still. -/
def accN : Nat → List UInt8 → Nat
  | n, [] => n
  | n, c :: r => accN (if n ≤ maxI then 10 * n + (c.toNat - 48) else n) r
def intL (l : List UInt8) : Except (Nat × Nat) (Int × Nat) :=
  let m := if l.head? = some 45 then 1 else 0
  let r := l.drop m
  let k := nd r
  if k = 0 ∨ (1 < k ∧ r.head? = some 48) then .error (2, m)
  else if maxI < accN 0 (r.take k) then .error (3, 0)
  else .ok (if m = 1 then -(accN 0 (r.take k) : Int) else (accN 0 (r.take k) : Int), m + k)

def isL (c : UInt8) : Bool := decide (97 ≤ c.toNat) && decide (c.toNat ≤ 122)
def nl : List UInt8 → Nat | [] => 0 | c :: r => if isL c then nl r + 1 else 0

/-- A tree; 'at' the place of its first byte. -/
inductive JT where
  | null (at' : Nat)
  | truth (b : Bool) (at' : Nat)
  | int (n : Int) (at' : Nat)
  | str (t : List UInt8) (at' : Nat)
  | arr (ts : List JT) (at' : Nat)
  | obj (ms : List (List UInt8 × JT)) (at' : Nat)

def wordL (l : List UInt8) (i : Nat) : Except (Nat × Nat) (JT × Nat) :=
  let w := l.take (nl l)
  if w = [116, 114, 117, 101] then .ok (.truth true i, 4)
  else if w = [102, 97, 108, 115, 101] then .ok (.truth false i, 5)
  else if w = [110, 117, 108, 108] then .ok (.null i, 4)
  else .error (2, i)

abbrev JR (α : Type) := Except (Nat × Nat) (α × Nat)

/-- The values of an array, from where the first one may stand; 'v': how a value is read; answers how far it went, the bracket among it. -/
def arrF (v : List UInt8 → Nat → JR JT) : Nat → List UInt8 → Nat → JR (List JT)
  | 0, _, i => .error (2, i)
  | f + 1, l, i =>
    let a := nb l
    match v (l.drop a) (i + a) with
    | .error e => .error e
    | .ok (t, n) =>
      let b := a + n + nb (l.drop (a + n))
      match l.drop b with
      | c :: _ =>
        if c = 44 then (match arrF v f (l.drop (b + 1)) (i + (b + 1)) with | .error e => .error e | .ok (ts, k) => .ok (t :: ts, b + 1 + k))
        else if c = 93 then .ok ([t], b + 1) else .error (2, i + b)
      | [] => .error (2, i + b)

/-- The members of an object; 'ks': the names that stood ahead. -/
def objF (v : List UInt8 → Nat → JR JT) : Nat → List (List UInt8) → List UInt8 → Nat → JR (List (List UInt8 × JT))
  | 0, _, _, i => .error (2, i)
  | f + 1, ks, l, i =>
    let a := nb l
    match quotL (l.drop a) with
    | .error o => .error (2, i + a + o)
    | .ok (name, m) =>
      if name ∈ ks then .error (4, i + a)
      else
        let b := a + m + nb (l.drop (a + m))
        match l.drop b with
        | c :: _ =>
          if c = 58 then
            let d := b + 1 + nb (l.drop (b + 1))
            match v (l.drop d) (i + d) with
            | .error e => .error e
            | .ok (t, n) =>
              let g := d + n + nb (l.drop (d + n))
              match l.drop g with
              | c :: _ =>
                if c = 44 then (match objF v f (ks ++ [name]) (l.drop (g + 1)) (i + (g + 1)) with | .error e => .error e | .ok (ms, k) => .ok ((name, t) :: ms, g + 1 + k))
                else if c = 125 then .ok ([(name, t)], g + 1) else .error (2, i + g)
              | [] => .error (2, i + g)
          else .error (2, i + b)
        | [] => .error (2, i + b)

def arrL (v : List UInt8 → Nat → JR JT) (l : List UInt8) (i : Nat) : JR JT :=
  let a := 1 + nb (l.drop 1)
  if (l.drop a).head? = some 93 then .ok (.arr [] i, a + 1)
  else match arrF v (l.length + 1) (l.drop a) (i + a) with
    | .error e => .error e
    | .ok (ts, k) => .ok (.arr ts i, a + k)
def objL (v : List UInt8 → Nat → JR JT) (l : List UInt8) (i : Nat) : JR JT :=
  let a := 1 + nb (l.drop 1)
  if (l.drop a).head? = some 125 then .ok (.obj [] i, a + 1)
  else match objF v (l.length + 1) [] (l.drop a) (i + a) with
    | .error e => .error e
    | .ok (ms, k) => .ok (.obj ms i, a + k)

/-- A value, with d more brackets around what is within. -/
def valL : Nat → List UInt8 → Nat → JR JT
  | d, l, i =>
    match l with
    | [] => .error (2, i)
    | c :: _ =>
      if c = 34 then (match quotL l with | .error o => .error (2, i + o) | .ok (t, n) => .ok (.str t i, n))
      else if c = 45 ∨ isD c = true then (match intL l with | .error (e, o) => .error (e, i + o) | .ok (n, k) => .ok (.int n i, k))
      else if c = 116 ∨ c = 102 ∨ c = 110 then wordL l i
      else if c = 91 ∨ c = 123 then
        match d with
        | 0 => .error (5, i)
        | d + 1 => if c = 91 then arrL (valL d) l i else objL (valL d) l i
      else .error (2, i)

/-- A text, whole. -/
def readL (l : List UInt8) : Except (Nat × Nat) JT :=
  if 65536 < l.length then .error (1, 0)
  else
    let a := nb l
    match valL 32 (l.drop a) a with
    | .error e => .error e
    | .ok (t, n) =>
      let b := a + n + nb (l.drop (a + n))
      if b < l.length then .error (2, b) else .ok t

/-- A node, as it is told. -/
structure Nd where
  kind : Nat
  key : List UInt8
  text : List UInt8
  num : Int
  kids : List Nat
  at' : Nat

mutual
def JT.size : JT → Nat
  | .null _ => 1
  | .truth _ _ => 1
  | .int _ _ => 1
  | .str _ _ => 1
  | .arr ts _ => 1 + sizeL ts
  | .obj ms _ => 1 + sizeM ms
def sizeL : List JT → Nat
  | [] => 0
  | t :: r => t.size + sizeL r
def sizeM : List (List UInt8 × JT) → Nat
  | [] => 0
  | (_, t) :: r => t.size + sizeM r
end
def startsL : Nat → List JT → List Nat
  | _, [] => []
  | b, t :: r => b :: startsL (b + t.size) r
def startsM : Nat → List (List UInt8 × JT) → List Nat
  | _, [] => []
  | b, (_, t) :: r => b :: startsM (b + t.size) r
mutual
/-- A tree's nodes; b: the number of its first. -/
def flat (b : Nat) (key : List UInt8) : JT → List Nd
  | .null i => [⟨0, key, [], 0, [], i⟩]
  | .truth x i => [⟨1, key, [], if x then 1 else 0, [], i⟩]
  | .int n i => [⟨2, key, [], n, [], i⟩]
  | .str t i => [⟨3, key, t, 0, [], i⟩]
  | .arr ts i => ⟨4, key, [], 0, startsL (b + 1) ts, i⟩ :: flatL (b + 1) ts
  | .obj ms i => ⟨5, key, [], 0, startsM (b + 1) ms, i⟩ :: flatM (b + 1) ms
def flatL (b : Nat) : List JT → List Nd
  | [] => []
  | t :: r => flat b [] t ++ flatL (b + t.size) r
def flatM (b : Nat) : List (List UInt8 × JT) → List Nd
  | [] => []
  | (k, t) :: r => flat b k t ++ flatM (b + t.size) r
end
mutual
theorem flat_length (b : Nat) (key : List UInt8) (t : JT) : (flat b key t).length = t.size := by
  cases t with
  | null => rfl
  | truth => rfl
  | int => rfl
  | str => rfl
  | arr ts i => rw [flat, List.length_cons, flatL_length, JT.size]; omega
  | obj ms i => rw [flat, List.length_cons, flatM_length, JT.size]; omega
theorem flatL_length (b : Nat) (ts : List JT) : (flatL b ts).length = sizeL ts := by
  cases ts with
  | nil => rfl
  | cons t r => rw [flatL, List.length_append, flat_length, flatL_length, sizeL]
theorem flatM_length (b : Nat) (ms : List (List UInt8 × JT)) : (flatM b ms).length = sizeM ms := by
  cases ms with
  | nil => rfl
  | cons m r =>
    obtain ⟨k, t⟩ := m
    rw [flatM, List.length_append, flat_length, flatM_length, sizeM]
end

end Go.Proofs.YtaghclgookfmnaaDoor
