/- Package instr: Text, of any instruction. -/
import Derived.Test.YtoffagmoaedkbaaDoorInstrS0
import Derived.Test.YtoffagmoaedkbaaDoorInstrS1
namespace Go.Proofs.YtoffagmoaedkbaaDoor
open Go.ChangeShapes Go.WideShapes Go.ChangeAt Go.RowKit
set_option linter.unusedVariables false

set_option maxHeartbeats 4000000 in
set_option maxRecDepth 100000 in
theorem text02_bad (op a b c n : Int) (w : World) (hS : ShapesIn w) (ha : I64 a) (hb : I64 b) (hc : I64 c) (hn : I64 n) (hk : checkOf op a b c n ≠ 0) :
    Calls Tryd.prog 73 #[instrV op a b c n] w fun e w' => e = .returned (.tuple #[.string ⟨#[]⟩, .int .i64 (checkOf op a b c n)]) ∧ Below w.heap.size w w' := by
  have C := Lib.hid (fun w hs => check_any op a b c n w hs ha hb hc hn)
  have HS := Lib.hid hS
  have hne : (checkOf op a b c n != 0) = true := by simpa using hk
  clear hk hS ha hb hc hn
  generalize checkOf op a b c n = v at *
  unfold instrV at *
  go_enter Tryd.func73, Tryd.ntmps73
  go_wp2_with fail
  refine (C.out _ (HS.out.alloc _)).mono ?_
  rintro e w1 ⟨rfl, hb1⟩
  have B1 := Lib.hid (((Below.refl _ _).alloc (Nat.le_refl _) _).trans (hb1.mono (show w.heap.size ≤ _ by simp)))
  clear hb1
  go_wp2
  go_ret2
  exact ⟨rfl, B1.out⟩

theorem text02_any (op a b c n : Int) (w : World) (hS : ShapesIn w) (hN : NamesIn w) (ha : I64 a) (hb : I64 b) (hc : I64 c) (hn : I64 n) :
    Calls Tryd.prog 73 #[instrV op a b c n] w fun e w' => e = .returned (.tuple #[.string (if checkOf op a b c n = 0 then textOf op a b c n else ⟨#[]⟩), .int .i64 (checkOf op a b c n)]) ∧ Below w.heap.size w w' := by
  by_cases hk : checkOf op a b c n = 0
  · rw [if_pos hk, hk]
    have h := (good_of_check hk).1
    have hr := shapeOf_range op
    rcases (show (regsOf (shapeOf op) = 0 ∧ bitsOf (shapeOf op) = 0) ∨ (regsOf (shapeOf op) = 0 ∧ 0 < bitsOf (shapeOf op)) ∨ (regsOf (shapeOf op) = 1 ∧ bitsOf (shapeOf op) = 0) ∨ (regsOf (shapeOf op) = 1 ∧ 0 < bitsOf (shapeOf op)) ∨ (regsOf (shapeOf op) = 2 ∧ 0 < bitsOf (shapeOf op)) ∨ (regsOf (shapeOf op) = 3 ∧ bitsOf (shapeOf op) = 0) by unfold regsOf bitsOf; omega) with ⟨g1, g2⟩ | ⟨g1, g2⟩ | ⟨g1, g2⟩ | ⟨g1, g2⟩ | ⟨g1, g2⟩ | ⟨g1, g2⟩
    · exact text_00 op a b c n w hS hN ha hb hc hn hk g1 g2
    · exact text_01 op a b c n w hS hN ha hb hc hn hk g1 g2
    · exact text_10 op a b c n w hS hN ha hb hc hn hk g1 g2
    · exact text_11 op a b c n w hS hN ha hb hc hn hk g1 g2
    · exact text_21 op a b c n w hS hN ha hb hc hn hk g1 g2
    · exact text_30 op a b c n w hS hN ha hb hc hn hk g1 g2
  · rw [if_neg hk]
    exact text02_bad op a b c n w hS ha hb hc hn hk
end Go.Proofs.YtoffagmoaedkbaaDoor
