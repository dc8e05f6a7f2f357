/- Package instr, plain: which shape an operation has, which fields a shape has, what Check answers, the word. -/
import Derived.Test.YtcijjmmckofckaaDoorLaid
import Derived.Test.YtcijjmmckofckaaDoorWordC
namespace Go.Proofs.YtcijjmmckofckaaDoor
set_option linter.unusedVariables false

def shapeOf (op : Int) : Int :=
  if op = 1 then 0
  else if op = 2 ∨ op = 20 ∨ op = 21 then 1
  else if op = 3 ∨ op = 30 ∨ op = 33 then 2
  else if op = 5 ∨ op = 18 ∨ op = 19 then 3
  else if op = 4 ∨ op = 26 ∨ op = 34 then 4
  else if 6 ≤ op ∧ op ≤ 17 then 5
  else if op = 24 ∨ op = 25 ∨ op = 27 ∨ op = 29 ∨ op = 31 ∨ op = 32 then 6
  else if op = 22 ∨ op = 23 then 7
  else if op = 28 then 8
  else -1

theorem shapeOf_range (op : Int) : -1 ≤ shapeOf op ∧ shapeOf op ≤ 8 := by unfold shapeOf; omega

theorem shapeOf_none {op : Int} (h : op < 1 ∨ 34 < op) : shapeOf op = -1 := by unfold shapeOf; omega

theorem shapeOf_some {op : Int} (h : shapeOf op ≠ -1) : 1 ≤ op ∧ op ≤ 34 := by
  have := @shapeOf_none op
  omega

theorem shape_cases (op : Int) : shapeOf op = -1 ∨ shapeOf op = 0 ∨ shapeOf op = 1 ∨ shapeOf op = 2 ∨ shapeOf op = 3 ∨ shapeOf op = 4 ∨ shapeOf op = 5 ∨ shapeOf op = 6 ∨ shapeOf op = 7 ∨ shapeOf op = 8 := by
  have := shapeOf_range op
  omega

/-- How many registers a shape has; how many bits its number; whether it has a sign. -/
def regsOf (s : Int) : Int := if s = 1 ∨ s = 2 ∨ s = 6 then 1 else if s = 3 ∨ s = 4 then 2 else if s = 5 then 3 else 0

def bitsOf (s : Int) : Int := if s = 1 ∨ s = 2 ∨ s = 3 ∨ s = 4 ∨ s = 8 then 16 else if s = 7 then 24 else 0

def signOf (s : Int) : Bool := decide (s = 1) || decide (s = 3) || decide (s = 7)

/-- Whether r may be a register: from 0 to 15, and 0 if the shape has none there. -/
def regOk (has : Bool) (r : Int) : Bool := decide (0 ≤ r) && decide (r ≤ 15) && (has || decide (r = 0))

/-- The least and the greatest number of a shape. -/
def lowOf (s : Int) : Int := if s = 1 ∨ s = 3 then -32768 else if s = 7 then -8388608 else 0

def highOf (s : Int) : Int := if s = 1 ∨ s = 3 then 32767 else if s = 7 then 8388607 else if s = 2 ∨ s = 4 ∨ s = 8 then 65535 else 0

def immOk (s n : Int) : Bool := decide (lowOf s ≤ n) && decide (n ≤ highOf s)

def regsOk (s a b c : Int) : Bool := regOk (decide (0 < regsOf s)) a && (regOk (decide (1 < regsOf s)) b && regOk (decide (2 < regsOf s)) c)

/-- What Check answers. -/
def checkOf (op a b c n : Int) : Int := if shapeOf op = -1 then 21 else if regsOk (shapeOf op) a b c && immOk (shapeOf op) n then 0 else 20

theorem checkOf_none {op a b c n : Int} (h : shapeOf op = -1) : checkOf op a b c n = 21 := by unfold checkOf; rw [if_pos h]

theorem checkOf_regs {op a b c n : Int} (h : shapeOf op ≠ -1) (hr : regsOk (shapeOf op) a b c = false) : checkOf op a b c n = 20 := by unfold checkOf; rw [if_neg h, hr]; rfl

theorem checkOf_imm {op a b c n : Int} (h : shapeOf op ≠ -1) (hr : immOk (shapeOf op) n = false) : checkOf op a b c n = 20 := by unfold checkOf; rw [if_neg h, hr, Bool.and_false]; rfl

theorem checkOf_ok {op a b c n : Int} (h : shapeOf op ≠ -1) (hr : regsOk (shapeOf op) a b c = true) (hi : immOk (shapeOf op) n = true) : checkOf op a b c n = 0 := by unfold checkOf; rw [if_neg h, hr, hi]; rfl

/-- The word. -/
def wordOf (op a b c n : Int) : Int := if shapeOf op = 7 then op * 16777216 + (n + 16777216) % 16777216 else op * 16777216 + a * 1048576 + b * 65536 + (n + 65536) % 65536 + c

theorem fitB_16 (n : Int) : fitB n 16 = (decide (-32768 ≤ n) && decide (n ≤ 32767)) := by
  rw [fitB_lo (by decide) (by decide), Bool.eq_iff_iff]
  simp
  omega

theorem fitB_24 (n : Int) : fitB n 24 = (decide (-8388608 ≤ n) && decide (n ≤ 8388607)) := by
  rw [fitB_lo (by decide) (by decide), Bool.eq_iff_iff]
  simp
  omega

theorem withinB_16 (n : Int) : withinB n 16 = (decide (0 ≤ n) && decide (n ≤ 65535)) := by
  rw [withinB_lo (by decide) (by decide), Bool.eq_iff_iff]
  simp
  omega

theorem withinB_4 (n : Int) : withinB n 4 = (decide (0 ≤ n) && decide (n ≤ 15)) := by
  rw [withinB_lo (by decide) (by decide), Bool.eq_iff_iff]
  simp
  omega

theorem withinB_0 (n : Int) : withinB n 0 = (decide (0 ≤ n) && decide (n ≤ 0)) := by
  rw [withinB_lo (by decide) (by decide), Bool.eq_iff_iff]
  simp
  omega
end Go.Proofs.YtcijjmmckofckaaDoor
