/- Scan, plain: what the answers say of a text's signs. -/
import Derived.Test.YtbkagnhficmdhaaDoorLift
import Derived.Test.YtbkagnhficmdhaaDoorTextPlain
namespace Go.Proofs.YtbkagnhficmdhaaDoor
open Go.ChangeShapes Go.WideShapes Go.ChangeAt Go.RowKit
set_option linter.unusedVariables false
set_option linter.unusedSimpArgs false

/-- A sign. -/
structure Sgn where
  kind : Int
  frm : Nat
  to : Nat
  text : ByteArray
  n : Int

def Sgn.cells (x : Sgn) : List Value := [.int .i64 x.kind, .int .i64 x.frm, .int .i64 x.to, .string x.text, .int .i32 x.n]

abbrev sgnV (x : Sgn) : Value := .agg #[.int .i64 x.kind, .int .i64 x.frm, .int .i64 x.to, .string x.text, .int .i32 x.n]

/-- The byte at a place. -/
def byN (s : ByteArray) (k : Nat) : Nat := (s.get! k).toNat

theorem byN_get {s : ByteArray} {k : Nat} (h : k < s.size) : byN s k = s[k].toNat := by
  unfold byN
  congr 1
  simp [ByteArray.get!, getElem!_pos, h]
  rfl

theorem byN_lt (s : ByteArray) (k : Nat) : byN s k < 256 := UInt8.toNat_lt _

def letN (c : Nat) : Bool := (decide (65 ≤ c) && decide (c ≤ 90)) || (decide (97 ≤ c) && decide (c ≤ 122))

def digN (c : Nat) : Bool := decide (48 ≤ c) && decide (c ≤ 57)

/-- Do two bytes stand at a place? -/
def twoP (s : ByteArray) (k a b : Nat) : Bool := decide (k + 1 < s.size) && (decide (byN s k = a) && decide (byN s (k + 1) = b))

theorem twoP_lt {s : ByteArray} {k a b : Nat} (h : twoP s k a b = true) : k + 1 < s.size := by
  unfold twoP at h
  simp only [Bool.and_eq_true, decide_eq_true_eq] at h
  exact h.1

def isBl (c : Nat) : Bool := decide (c = 32) || (decide (c = 9) || (decide (c = 10) || decide (c = 13)))

/-- Where blanks end; false: a remark has no end. -/
def blF : Nat → ByteArray → Nat → Nat → Nat × Bool
  | 0, _, k, d => (k, decide (d = 0))
  | f + 1, s, k, d =>
    if k < s.size then
      (if twoP s k 40 42 = true then blF f s (k + 2) (d + 1)
      else if 0 < d ∧ twoP s k 42 41 = true then blF f s (k + 2) (d - 1)
      else if 0 < d ∨ isBl (byN s k) = true then blF f s (k + 1) d
      else (k, true))
    else (k, decide (d = 0))

def blanksP (s : ByteArray) (k : Nat) : Nat × Bool := blF s.size s k 0

theorem blF_end {f : Nat} {s : ByteArray} {k d : Nat} (h : ¬ k < s.size) : blF f s k d = (k, decide (d = 0)) := by
  cases f with
  | zero => rfl
  | succ f =>
    unfold blF
    rw [if_neg h]

theorem blF_open {f : Nat} {s : ByteArray} {k d : Nat} (h : k < s.size) (h1 : twoP s k 40 42 = true) : blF (f + 1) s k d = blF f s (k + 2) (d + 1) := by
  conv => lhs; unfold blF
  rw [if_pos h, if_pos h1]

theorem blF_close {f : Nat} {s : ByteArray} {k d : Nat} (h : k < s.size) (h1 : twoP s k 40 42 = false) (h0 : 0 < d) (h2 : twoP s k 42 41 = true) : blF (f + 1) s k d = blF f s (k + 2) (d - 1) := by
  conv => lhs; unfold blF
  rw [if_pos h, if_neg (by rw [h1]; decide), if_pos ⟨h0, h2⟩]

theorem blF_skip {f : Nat} {s : ByteArray} {k d : Nat} (h : k < s.size) (h1 : twoP s k 40 42 = false) (h2 : ¬ (0 < d ∧ twoP s k 42 41 = true)) (h3 : 0 < d ∨ isBl (byN s k) = true) : blF (f + 1) s k d = blF f s (k + 1) d := by
  conv => lhs; unfold blF
  rw [if_pos h, if_neg (by rw [h1]; decide), if_neg h2, if_pos h3]

theorem blF_stop {f : Nat} {s : ByteArray} {k : Nat} (h : k < s.size) (h1 : twoP s k 40 42 = false) (h3 : isBl (byN s k) = false) : blF (f + 1) s k 0 = (k, true) := by
  conv => lhs; unfold blF
  rw [if_pos h, if_neg (by rw [h1]; decide), if_neg (by omega), if_neg (by rw [h3]; simp)]

theorem blF_bound : ∀ (f : Nat) (s : ByteArray) (k d : Nat), k ≤ s.size → k ≤ (blF f s k d).1 ∧ (blF f s k d).1 ≤ s.size
  | 0, s, k, d, h => ⟨Nat.le_refl _, h⟩
  | f + 1, s, k, d, h => by
    unfold blF
    split
    · split
      · rename_i h1
        have := twoP_lt h1
        have ih := blF_bound f s (k + 2) (d + 1) (by omega)
        omega
      · split
        · rename_i h1
          have := twoP_lt h1.2
          have ih := blF_bound f s (k + 2) (d - 1) (by omega)
          omega
        · split
          · have ih := blF_bound f s (k + 1) d (by omega)
            omega
          · exact ⟨Nat.le_refl _, h⟩
    · exact ⟨Nat.le_refl _, h⟩

theorem blanks_bound {s : ByteArray} {k : Nat} (h : k ≤ s.size) : k ≤ (blanksP s k).1 ∧ (blanksP s k).1 ≤ s.size := blF_bound _ _ _ _ h

/-- Where a run of bytes of a kind ends. -/
def runF (p : Nat → Bool) : Nat → ByteArray → Nat → Nat
  | 0, _, k => k
  | f + 1, s, k => if k < s.size ∧ p (byN s k) = true then runF p f s (k + 1) else k

theorem runF_stop {p : Nat → Bool} {f : Nat} {s : ByteArray} {k : Nat} (h : ¬ (k < s.size ∧ p (byN s k) = true)) : runF p f s k = k := by
  cases f with
  | zero => rfl
  | succ f =>
    unfold runF
    rw [if_neg h]

theorem runF_go {p : Nat → Bool} {f : Nat} {s : ByteArray} {k : Nat} (h : k < s.size) (hp : p (byN s k) = true) : runF p (f + 1) s k = runF p f s (k + 1) := by
  conv => lhs; unfold runF
  rw [if_pos ⟨h, hp⟩]

theorem runF_bound (p : Nat → Bool) : ∀ (f : Nat) (s : ByteArray) (k : Nat), k ≤ s.size → k ≤ runF p f s k ∧ runF p f s k ≤ s.size
  | 0, s, k, h => ⟨Nat.le_refl _, h⟩
  | f + 1, s, k, h => by
    unfold runF
    split
    · rename_i h1
      have := runF_bound p f s (k + 1) h1.1
      omega
    · exact ⟨Nat.le_refl _, h⟩

def endOf (p : Nat → Bool) (s : ByteArray) (k : Nat) : Nat := runF p s.size s k

theorem endOf_bound (p : Nat → Bool) {s : ByteArray} {k : Nat} (h : k ≤ s.size) : k ≤ endOf p s k ∧ endOf p s k ≤ s.size := runF_bound p _ _ _ h

def wordN (c : Nat) : Bool := letN c || digN c

def textN (c : Nat) : Bool := decide (32 ≤ c) && (decide (c ≤ 126) && !decide (c = 34))

/-- What digits come to, as the answers reckon: where they end, the number. -/
def satF : Nat → ByteArray → Nat → Nat → Nat × Nat
  | 0, _, k, n => (k, n)
  | f + 1, s, k, n => if k < s.size ∧ digN (byN s k) = true then satF f s (k + 1) (if n < 1099511627776 then n * 10 + (byN s k - 48) else n) else (k, n)

theorem satF_stop {f : Nat} {s : ByteArray} {k n : Nat} (h : ¬ (k < s.size ∧ digN (byN s k) = true)) : satF f s k n = (k, n) := by
  cases f with
  | zero => rfl
  | succ f =>
    unfold satF
    rw [if_neg h]

theorem satF_go {f : Nat} {s : ByteArray} {k n : Nat} (h : k < s.size) (hp : digN (byN s k) = true) : satF (f + 1) s k n = satF f s (k + 1) (if n < 1099511627776 then n * 10 + (byN s k - 48) else n) := by
  conv => lhs; unfold satF
  rw [if_pos ⟨h, hp⟩]

theorem satF_bound : ∀ (f : Nat) (s : ByteArray) (k n : Nat), k ≤ s.size → k ≤ (satF f s k n).1 ∧ (satF f s k n).1 ≤ s.size
  | 0, s, k, n, h => ⟨Nat.le_refl _, h⟩
  | f + 1, s, k, n, h => by
    unfold satF
    split
    · rename_i h1
      have := satF_bound f s (k + 1) (if n < 1099511627776 then n * 10 + (byN s k - 48) else n) h1.1
      omega
    · exact ⟨Nat.le_refl _, h⟩

/-- A digit of sixteen; none: -1. -/
def hexD (c : Nat) : Int := if 48 ≤ c ∧ c ≤ 57 then c - 48 else if 65 ≤ c ∧ c ≤ 70 then c - 55 else -1

theorem hexD_range (c : Nat) : -1 ≤ hexD c ∧ hexD c ≤ 15 := by
  unfold hexD
  split
  · omega
  · split <;> omega

/-- What digits of sixteen come to: where they end, the word. -/
def hexF : Nat → ByteArray → Nat → Int → Nat × Int
  | 0, _, k, n => (k, n)
  | f + 1, s, k, n => if k < s.size ∧ 0 ≤ hexD (byN s k) then hexF f s (k + 1) ((n * 16 + hexD (byN s k)) % 4294967296) else (k, n)

theorem hexF_stop {f : Nat} {s : ByteArray} {k : Nat} {n : Int} (h : ¬ (k < s.size ∧ 0 ≤ hexD (byN s k))) : hexF f s k n = (k, n) := by
  cases f with
  | zero => rfl
  | succ f =>
    unfold hexF
    rw [if_neg h]

theorem hexF_go {f : Nat} {s : ByteArray} {k : Nat} {n : Int} (h : k < s.size) (hp : 0 ≤ hexD (byN s k)) : hexF (f + 1) s k n = hexF f s (k + 1) ((n * 16 + hexD (byN s k)) % 4294967296) := by
  conv => lhs; unfold hexF
  rw [if_pos ⟨h, hp⟩]

theorem hexF_bound : ∀ (f : Nat) (s : ByteArray) (k : Nat) (n : Int), k ≤ s.size → 0 ≤ n → n ≤ 4294967295 → k ≤ (hexF f s k n).1 ∧ (hexF f s k n).1 ≤ s.size ∧ 0 ≤ (hexF f s k n).2 ∧ (hexF f s k n).2 ≤ 4294967295
  | 0, s, k, n, h, h0, h1 => ⟨Nat.le_refl _, h, h0, h1⟩
  | f + 1, s, k, n, h, h0, h1 => by
    unfold hexF
    split
    · rename_i h2
      have := hexF_bound f s (k + 1) ((n * 16 + hexD (byN s k)) % 4294967296) h2.1 (by omega) (by omega)
      omega
    · exact ⟨Nat.le_refl _, h, h0, h1⟩

/-- The words that are keys. -/
def keyRow : List ByteArray := [⟨#[65, 78, 68]⟩, ⟨#[65, 82, 82, 65, 89]⟩, ⟨#[66, 69, 71, 73, 78]⟩, ⟨#[67, 79, 78, 83, 84]⟩, ⟨#[68, 73, 86]⟩, ⟨#[68, 79]⟩, ⟨#[69, 76, 83, 69]⟩, ⟨#[69, 76, 83, 73, 70]⟩, ⟨#[69, 78, 68]⟩, ⟨#[69, 88, 67, 69, 80, 84]⟩, ⟨#[69, 88, 67, 69, 80, 84, 73, 79, 78]⟩, ⟨#[70, 65, 76, 83, 69]⟩, ⟨#[70, 73, 78, 65, 76, 76, 89]⟩, ⟨#[73, 70]⟩, ⟨#[73, 77, 80, 79, 82, 84]⟩, ⟨#[77, 79, 68]⟩, ⟨#[77, 79, 68, 85, 76, 69]⟩, ⟨#[78, 69, 87]⟩, ⟨#[78, 73, 76]⟩, ⟨#[78, 79, 84]⟩, ⟨#[79, 70]⟩, ⟨#[79, 82]⟩, ⟨#[80, 82, 79, 67, 69, 68, 85, 82, 69]⟩, ⟨#[82, 65, 73, 83, 69]⟩, ⟨#[82, 69, 65, 68]⟩, ⟨#[82, 69, 67, 79, 82, 68]⟩, ⟨#[82, 69, 80, 69, 65, 84]⟩, ⟨#[82, 69, 84, 85, 82, 78]⟩, ⟨#[84, 72, 69, 78]⟩, ⟨#[84, 82, 85, 69]⟩, ⟨#[84, 82, 89]⟩, ⟨#[84, 89, 80, 69]⟩, ⟨#[85, 78, 84, 73, 76]⟩, ⟨#[86, 65, 82]⟩, ⟨#[87, 72, 73, 76, 69]⟩, ⟨#[87, 82, 73, 84, 69]⟩]

def keyB (s : ByteArray) : Bool := keyRow.any fun x => x.toList == s.toList

def badS (f t : Nat) : Sgn := ⟨7, f, t, ⟨#[]⟩, 0⟩

/-- The number that begins at a place. -/
def numP (s : ByteArray) (f : Nat) : Sgn × Int :=
  if 2147483647 < (satF s.size s f 0).2 then (badS f (satF s.size s f 0).1, 80) else (⟨2, f, (satF s.size s f 0).1, s.extract f (satF s.size s f 0).1, (satF s.size s f 0).2⟩, 0)

/-- A word as a signed number. -/
def sgn32 (n : Int) : Int := if 2147483648 ≤ n then n - 4294967296 else n

/-- The number of digits of sixteen that begins at a place. -/
def hexP (s : ByteArray) (f : Nat) : Sgn × Int :=
  if (hexF s.size s (f + 1) 0).1 = f + 1 ∨ f + 9 < (hexF s.size s (f + 1) 0).1 then (badS f (hexF s.size s (f + 1) 0).1, 80) else (⟨2, f, (hexF s.size s (f + 1) 0).1, s.extract f (hexF s.size s (f + 1) 0).1, sgn32 (hexF s.size s (f + 1) 0).2⟩, 0)

def markRow : List Nat := [43, 45, 42, 61, 35, 60, 62, 40, 41, 91, 93, 46, 44, 59, 58, 94, 124]

/-- The sign that begins at a place, where no blank stands. -/
def signP (s : ByteArray) (f : Nat) : Sgn × Int :=
  if letN (byN s f) = true then
    (if 32 < endOf wordN s f - f then (badS f (endOf wordN s f), 140)
    else if keyB (s.extract f (endOf wordN s f)) = true then (⟨5, f, endOf wordN s f, s.extract f (endOf wordN s f), 0⟩, 0)
    else (⟨1, f, endOf wordN s f, s.extract f (endOf wordN s f), 0⟩, 0))
  else if digN (byN s f) = true then numP s f
  else if byN s f = 36 then hexP s f
  else if byN s f = 39 then
    (if f + 2 < s.size ∧ 32 ≤ byN s (f + 1) ∧ byN s (f + 1) ≤ 126 ∧ byN s (f + 2) = 39 then (⟨3, f, f + 3, s.extract f (f + 3), byN s (f + 1)⟩, 0) else (badS f (f + 1), 82))
  else if byN s f = 34 then
    (if endOf textN s (f + 1) = s.size ∨ byN s (endOf textN s (f + 1)) ≠ 34 then (badS f (endOf textN s (f + 1)), 82) else (⟨4, f, endOf textN s (f + 1) + 1, s.extract (f + 1) (endOf textN s (f + 1)), 0⟩, 0))
  else if twoP s f 58 61 = true ∨ twoP s f 60 61 = true ∨ twoP s f 62 61 = true then (⟨6, f, f + 2, s.extract f (f + 2), 0⟩, 0)
  else if markRow.contains (byN s f) = true then (⟨6, f, f + 1, s.extract f (f + 1), 0⟩, 0)
  else (badS f (f + 1), 83)

/-- The sign behind a place. -/
def nextP (s : ByteArray) (k : Nat) : Sgn × Int :=
  if (blanksP s k).2 = false then (badS k s.size, 81)
  else if (blanksP s k).1 = s.size then (⟨0, s.size, s.size, ⟨#[]⟩, 0⟩, 0)
  else signP s (blanksP s k).1
end Go.Proofs.YtbkagnhficmdhaaDoor
