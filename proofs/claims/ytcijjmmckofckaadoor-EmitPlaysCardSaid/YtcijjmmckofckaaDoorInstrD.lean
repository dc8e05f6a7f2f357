/- The answers' Check of package instr. -/
import Derived.Test.YtcijjmmckofckaaDoorInstrD0
import Derived.Test.YtcijjmmckofckaaDoorInstrD1
import Derived.Test.YtcijjmmckofckaaDoorInstrD2
import Derived.Test.YtcijjmmckofckaaDoorInstrC
import Derived.Test.YtcijjmmckofckaaDoorInstrG
import Derived.Deep.Light
namespace Go.Proofs.YtcijjmmckofckaaDoor
open Go.ChangeShapes Go.WideShapes Go.ChangeAt Go.RowKit
set_option linter.unusedVariables false


set_option maxHeartbeats 400000 in
theorem refcheck_none (op a b c n : Int) (w : World) (h : shapeOf op = -1) :
    Calls Tryd.prog 58 #[instrV op a b c n] w fun e w' => e = .returned (.int .i64 (checkOf op a b c n)) ∧ Below w.heap.size w w' := by
  have H := Lib.hid h
  have NO := Lib.hid (checkOf_none (a := a) (b := b) (c := c) (n := n) h)
  clear h
  unfold instrV
  go_enter Tryd.func58, Tryd.ntmps58
  go_wp2_with fail
  refine (refshape_any _ _).mono ?_
  rintro e w' ⟨rfl, rfl⟩
  rw [H.out]
  go_wp2_with fail
  go_ret
  exact ⟨ret_i64 NO.out.symm, (Below.refl _ _).alloc (Nat.le_refl _) _⟩

theorem refcheck_any (op a b c n : Int) (w : World) :
    Calls Tryd.prog 58 #[instrV op a b c n] w fun e w' => e = .returned (.int .i64 (checkOf op a b c n)) ∧ Below w.heap.size w w' := by
  rcases shape_cases op with h | h | h | h | h | h | h | h | h | h
  · exact refcheck_none op a b c n w h
  · exact refcheck_0 op a b c n w h
  · exact refcheck_1 op a b c n w h
  · exact refcheck_2 op a b c n w h
  · exact refcheck_3 op a b c n w h
  · exact refcheck_4 op a b c n w h
  · exact refcheck_5 op a b c n w h
  · exact refcheck_6 op a b c n w h
  · exact refcheck_7 op a b c n w h
  · exact refcheck_8 op a b c n w h
end Go.Proofs.YtcijjmmckofckaaDoor
