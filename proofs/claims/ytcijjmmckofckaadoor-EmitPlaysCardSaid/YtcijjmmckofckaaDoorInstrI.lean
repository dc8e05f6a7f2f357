/- Package instr and its answers: Decode. -/
import Derived.Test.YtcijjmmckofckaaDoorInstrE
import Derived.Test.YtcijjmmckofckaaDoorBlocks
namespace Go.Proofs.YtcijjmmckofckaaDoor
open Go.ChangeShapes Go.WideShapes Go.ChangeAt Go.RowKit
set_option linter.unusedVariables false

/-- The number in a word, by the shape. -/
def numOf (s x : Int) : Int := if signOf s then sxt x (bitsOf s).toNat else x % 2 ^ (bitsOf s).toNat

set_option maxHeartbeats 1000000 in
theorem number_any (s x : Int) (w : World) (h0 : 0 ≤ x) (h1 : x ≤ 4294967295) (hs : 0 ≤ s) (hs2 : s ≤ 8) :
    Calls Tryd.prog 70 #[fieldsV s, .int .u32 x] w fun e w' => e = .returned (.int .i64 (numOf s x)) ∧ Below w.heap.size w w' := by
  have hM := fun w => mask_any s w hs hs2
  by_cases hg : signOf s = true
  · have hb : bitsOf s = 16 ∨ bitsOf s = 24 := by
      unfold signOf at hg
      simp at hg
      unfold bitsOf
      omega
    have hn : numOf s x = sxt x (bitsOf s).toNat := by unfold numOf; rw [if_pos hg]
    unfold fieldsV at *
    rw [hg] at *
    generalize regsOf s = r at *
    generalize bitsOf s = b at *
    rcases hb with rfl | rfl
    all_goals
      have HN := Lib.hid hn
      clear hn hM
      go_enter Tryd.func70, Tryd.ntmps70
      go_wp2_with fail
      refine (sext_any _ _ _ h0 h1 (by decide) (by decide)).mono ?_
      rintro e w' ⟨rfl, rfl⟩
      go_wp2
      go_ret
      refine ⟨congrArg (fun z => Ending.returned (.int .i64 z)) ?_, (Below.refl _ _).alloc (Nat.le_refl _) _⟩
      rw [HN.out, upto_lo (by decide) (by decide)]
      unfold sxt wrap32 wrap64
      simp
      omega
  · have hn : numOf s x = x % 2 ^ (bitsOf s).toNat := by unfold numOf; rw [if_neg hg]
    have hm : maskOf s = if bitsOf s = 16 then 65535 else if bitsOf s = 24 then 16777215 else 0 := rfl
    rw [Bool.not_eq_true] at hg
    have hb : bitsOf s = 16 ∨ bitsOf s = 24 ∨ bitsOf s = 0 := by unfold bitsOf; omega
    simp only [fieldsV, hg] at *
    generalize regsOf s = r at *
    generalize bitsOf s = b at *
    have HM := Lib.hid hM
    have HN := Lib.hid hn
    clear hM
    have HH := Lib.hid hm
    clear hn hm
    go_enter Tryd.func70, Tryd.ntmps70
    go_wp2_with fail
    refine (HM.out _).mono ?_
    rintro e w2 ⟨rfl, hb2⟩
    have B2 := ((Below.refl w.heap.size w).alloc (Nat.le_refl _) _).trans (hb2.mono (by simp))
    clear hb2
    go_wp2
    go_ret
    refine ⟨congrArg (fun z => Ending.returned (.int .i64 z)) ?_, B2⟩
    rw [HN.out, HH.out]
    rcases hb with rfl | rfl | rfl
    · rw [if_pos rfl, and_mask16]
      show wrap64 (x % 65536) = x % 65536
      unfold wrap64
      omega
    · rw [if_neg (by decide), if_pos rfl, and_mask24]
      show wrap64 (x % 16777216) = x % 16777216
      unfold wrap64
      omega
    · rw [if_neg (by decide), if_neg (by decide), and_mask0]
      show wrap64 0 = x % 1
      unfold wrap64
      omega

/-- The fields in a word. -/
def decA (x : Int) : Int := if 0 < regsOf (shapeOf (x / 16777216)) then x / 1048576 % 16 else 0

def decB (x : Int) : Int := if 1 < regsOf (shapeOf (x / 16777216)) then x / 65536 % 16 else 0

def decC (x : Int) : Int := if 2 < regsOf (shapeOf (x / 16777216)) then x % 16 else 0

def decN (x : Int) : Int := numOf (shapeOf (x / 16777216)) x

theorem decGood {x : Int} (h0 : 0 ≤ x) (h1 : x ≤ 4294967295) (h : shapeOf (x / 16777216) ≠ -1) : GoodP (shapeOf (x / 16777216)) (decA x) (decB x) (decC x) (decN x) := by
  have hr := shapeOf_range (x / 16777216)
  have hn : lowOf (shapeOf (x / 16777216)) ≤ decN x ∧ decN x ≤ highOf (shapeOf (x / 16777216)) := by
    unfold decN numOf
    generalize shapeOf (x / 16777216) = s at *
    rcases (show s = 0 ∨ s = 1 ∨ s = 2 ∨ s = 3 ∨ s = 4 ∨ s = 5 ∨ s = 6 ∨ s = 7 ∨ s = 8 by omega) with rfl | rfl | rfl | rfl | rfl | rfl | rfl | rfl | rfl
    all_goals
      simp [lowOf, highOf, signOf, bitsOf, sxt]
      try omega
  unfold decA decB decC
  generalize decN x = n at *
  generalize shapeOf (x / 16777216) = s at *
  refine ⟨?_, ?_, ?_, ?_, ?_, ?_, ?_, ?_, ?_, hn.1, hn.2⟩ <;> omega

/-- What Decode answers. -/
def decV (x : Int) : Value :=
  if shapeOf (x / 16777216) ≠ -1 ∧ wordOf (x / 16777216) (decA x) (decB x) (decC x) (decN x) = x then .tuple #[instrV (x / 16777216) (decA x) (decB x) (decC x) (decN x), .int .i64 0]
  else .tuple #[instrV 0 0 0 0 0, .int .i64 21]

theorem decV_none {x : Int} (h : shapeOf (x / 16777216) = -1) : decV x = .tuple #[instrV 0 0 0 0 0, .int .i64 21] := by
  unfold decV
  rw [if_neg (fun hh => hh.1 h)]

theorem decV_yes {x : Int} (h : shapeOf (x / 16777216) ≠ -1) (hw : wordOf (x / 16777216) (decA x) (decB x) (decC x) (decN x) = x) : decV x = .tuple #[instrV (x / 16777216) (decA x) (decB x) (decC x) (decN x), .int .i64 0] := by
  unfold decV
  rw [if_pos ⟨h, hw⟩]

theorem decV_no {x : Int} (hw : ¬ wordOf (x / 16777216) (decA x) (decB x) (decC x) (decN x) = x) : decV x = .tuple #[instrV 0 0 0 0 0, .int .i64 21] := by
  unfold decV
  rw [if_neg (fun hh => hw hh.2)]
end Go.Proofs.YtcijjmmckofckaaDoor
