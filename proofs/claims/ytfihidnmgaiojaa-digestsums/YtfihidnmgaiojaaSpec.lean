/-
  The sums, as functions of bits and lists: what both texts are held against.
-/
import Derived.Test.YtfihidnmgaiojaaBits
namespace Go.Proofs.Ytfihidnmgaiojaa

structure St (n : Nat) where
  a : BitVec n
  b : BitVec n
  c : BitVec n
  d : BitVec n
  e : BitVec n
  f : BitVec n
  g : BitVec n
  h : BitVec n

structure Way (n : Nat) where
  f1 : Nat
  f2 : Nat
  f3 : Nat
  n1 : Nat
  n2 : Nat
  n3 : Nat
  e1 : Nat
  e2 : Nat
  e3 : Nat
  a1 : Nat
  a2 : Nat
  a3 : Nat
  K : List (BitVec n)

def sig {n : Nat} (x : BitVec n) (i j k : Nat) : BitVec n := rotr x i ^^^ rotr x j ^^^ rotr x k
def sigS {n : Nat} (x : BitVec n) (i j k : Nat) : BitVec n := rotr x i ^^^ rotr x j ^^^ x >>> k

def tee {n : Nat} (p : Way n) (s : St n) (x : BitVec n) : BitVec n := s.h + sig s.e p.e1 p.e2 p.e3 + ((s.e &&& s.f) ^^^ (~~~s.e &&& s.g)) + x
def you {n : Nat} (p : Way n) (s : St n) : BitVec n := sig s.a p.a1 p.a2 p.a3 + ((s.a &&& s.b) ^^^ (s.a &&& s.c) ^^^ (s.b &&& s.c))
def round {n : Nat} (p : Way n) (s : St n) (x : BitVec n) : St n := ⟨tee p s x + you p s, s.a, s.b, s.c, s.d + tee p s x, s.e, s.f, s.g⟩

/-- The word that some bytes are, the highest one first. -/
def rd (n : Nat) (l : List UInt8) : BitVec n := l.foldl (fun x c => x <<< 8 ||| BitVec.ofNat n c.toNat) 0

theorem rd_snoc (n : Nat) (l : List UInt8) (c : UInt8) : rd n (l ++ [c]) = rd n l <<< 8 ||| BitVec.ofNat n c.toNat := by
  unfold rd; rw [List.foldl_append]; rfl

/-- The next word of a list of at least 16. -/
def nextW {n : Nat} (p : Way n) (l : List (BitVec n)) : BitVec n :=
  l.getD (l.length - 16) 0 + sigS (l.getD (l.length - 15) 0) p.f1 p.f2 p.f3 + l.getD (l.length - 7) 0 + sigS (l.getD (l.length - 2) 0) p.n1 p.n2 p.n3

/-- m more words. -/
def spreadTo {n : Nat} (p : Way n) (l : List (BitVec n)) : Nat → List (BitVec n)
  | 0 => l
  | m + 1 => spreadTo p l m ++ [nextW p (spreadTo p l m)]

theorem spreadTo_length {n : Nat} (p : Way n) (l : List (BitVec n)) (m : Nat) : (spreadTo p l m).length = l.length + m := by
  induction m with
  | zero => rfl
  | succ m ih => simp [spreadTo, ih]; omega

/-- The first k words of a block, each of y bytes. -/
def wordsTo (n y : Nat) (t : List UInt8) : Nat → List (BitVec n)
  | 0 => []
  | k + 1 => wordsTo n y t k ++ [rd n ((t.drop (k * y)).take y)]

theorem wordsTo_length (n y : Nat) (t : List UInt8) (k : Nat) : (wordsTo n y t k).length = k := by
  induction k with
  | zero => rfl
  | succ k ih => simp [wordsTo, ih]

/-- The words of a block, one for each round. -/
def sched {n : Nat} (p : Way n) (y : Nat) (t : List UInt8) : List (BitVec n) := spreadTo p (wordsTo n y t 16) (p.K.length - 16)

/-- The state behind k rounds. -/
def roundsTo {n : Nat} (p : Way n) (s : St n) (ws : List (BitVec n)) : Nat → St n
  | 0 => s
  | k + 1 => round p (roundsTo p s ws k) (p.K.getD k 0 + ws.getD k 0)

def plusS {n : Nat} (s v : St n) : St n := ⟨s.a + v.a, s.b + v.b, s.c + v.c, s.d + v.d, s.e + v.e, s.f + v.f, s.g + v.g, s.h + v.h⟩

def blockS {n : Nat} (p : Way n) (y : Nat) (s : St n) (t : List UInt8) : St n := plusS s (roundsTo p s (sched p y t) p.K.length)

/-- The state behind k blocks, each of z bytes. -/
def blocksTo {n : Nat} (p : Way n) (y z : Nat) (s : St n) (t : List UInt8) : Nat → St n
  | 0 => s
  | k + 1 => blockS p y (blocksTo p y z s t k) ((t.drop (k * z)).take z)


/-- How many bytes 0 stand behind n bytes and one more, till c are lacking of a multiple of z. -/
def padZ (z c n : Nat) : Nat := (2 * z - c - (n + 1) % z) % z

theorem padZ_hit (z c n : Nat) (hz : 0 < z) (hc : 0 < c) (hcz : c < z) : (n + 1 + padZ z c n) % z = z - c := by
  unfold padZ
  have h1 : (n + 1) % z < z := Nat.mod_lt _ hz
  rw [Nat.add_mod, Nat.mod_mod]
  generalize (n + 1) % z = r at h1
  by_cases h : r ≤ z - c
  · have e : 2 * z - c - r = (z - c - r) + z := by omega
    rw [e, Nat.add_mod_right, Nat.mod_eq_of_lt (a := z - c - r) (by omega), Nat.mod_eq_of_lt (by omega)]; omega
  · rw [Nat.mod_eq_of_lt (a := 2 * z - c - r) (by omega)]
    have e : r + (2 * z - c - r) = (z - c) + z := by omega
    rw [e, Nat.add_mod_right, Nat.mod_eq_of_lt (by omega)]

theorem padZ_miss (z c n k : Nat) (hz : 0 < z) (hc : 0 < c) (hcz : c < z) (hk : k < padZ z c n) : (n + 1 + k) % z ≠ z - c := by
  have hp : padZ z c n < z := Nat.mod_lt _ hz
  have hh := padZ_hit z c n hz hc hcz
  intro h
  have e : n + 1 + padZ z c n = (n + 1 + k) + (padZ z c n - k) := by omega
  rw [e, Nat.add_mod, h] at hh
  rw [Nat.mod_eq_of_lt (a := padZ z c n - k) (by omega)] at hh
  by_cases h2 : z - c + (padZ z c n - k) < z
  · rw [Nat.mod_eq_of_lt h2] at hh; omega
  · have e2 : z - c + (padZ z c n - k) = (padZ z c n - k - c) + z := by omega
    rw [e2, Nat.add_mod_right, Nat.mod_eq_of_lt (by omega)] at hh; omega

theorem padZ_mod (z c n : Nat) : padZ z c (n % z) = padZ z c n := by unfold padZ; rw [Nat.mod_add_mod]

def byteOf {n : Nat} (x : BitVec n) : UInt8 := UInt8.ofNat x.toNat

theorem byteOf_eW {n : Nat} (x : BitVec n) : ((byteOf x).toNat : Int) = eW x % 256 := by
  unfold byteOf eW; simp

theorem eW_byte {n : Nat} (x : BitVec n) : eW x % 256 = ((byteOf x).toNat : Int) := (byteOf_eW x).symm
theorem eW_bytew {n : Nat} (x : BitVec n) : IntKind.u8.wrap (eW x) = ((byteOf x).toNat : Int) := by rw [IntKind.wrap_u8', eW_byte]
theorem eW_bits (s : Nat) (h : s ≤ 140737488355328) : (s : Int) * 8 = eW (BitVec.ofNat 64 (s * 8)) := by
  unfold eW; rw [BitVec.toNat_ofNat]; omega

/-- The first k of the c bytes of x, the highest one first. -/
def beTo {n : Nat} (c : Nat) (x : BitVec n) : Nat → List UInt8
  | 0 => []
  | k + 1 => beTo c x k ++ [byteOf (x >>> (8 * (c - 1 - k)))]

theorem beTo_length {n : Nat} (c : Nat) (x : BitVec n) (k : Nat) : (beTo c x k).length = k := by
  induction k with
  | zero => rfl
  | succ k ih => simp [beTo, ih]

/-- What is filled up: the rest of a text of so many bytes, and what stands behind it. -/
def endL (z c : Nat) (r : List UInt8) (size : Nat) : List UInt8 := r ++ [128] ++ List.replicate (padZ z c r.length) 0 ++ beTo c (BitVec.ofNat 64 (size * 8)) c

end Go.Proofs.Ytfihidnmgaiojaa
