/- The laws of listing: the page's example. -/
import Derived.Test.YtbklegkcncblnaaDoorLisC
namespace Go.Proofs.YtbklegkcncblnaaDoor
open Go.ChangeShapes Go.WideShapes Go.ChangeAt Go.RowKit
set_option linter.unusedVariables false

theorem line_example : lineOf 4 385875967 = ⟨#[48, 48, 48, 48, 48, 48, 48, 52, 32, 49, 54, 102, 102, 102, 102, 102, 102, 32, 66, 82, 32, 45, 49, 32, 45, 62, 32, 48, 48, 48, 48, 48, 48, 48, 52]⟩ := by
  decide +kernel

set_option maxRecDepth 100000 in
theorem awake06_any (w : World) (hS : ShapesIn w) (hN : NamesIn w) :
    Calls Tryd.prog 23 #[] w fun e w' => e = .returned (.bool true) ∧ Below w.heap.size w w' := by
  have LN := Lib.hid (line_any 4 385875967 w hS hN (by decide) (by decide) (by decide))
  rw [line_example] at LN
  clear hS hN
  go_enter Tryd.func23, Tryd.ntmps23
  go_wp2_with fail
  refine LN.out.mono ?_
  rintro e w1 ⟨rfl, hb1⟩
  have B1 := Lib.hid hb1
  clear hb1
  go_wp2_with fail
  go_ret
  exact ⟨rfl, B1.out⟩
end Go.Proofs.YtbklegkcncblnaaDoor
