/- The answers' Check of package instr: shapes 6 to 8. -/
import Derived.Test.YtcijjmmckofckaaDoorInstrC
import Derived.Test.YtcijjmmckofckaaDoorInstrG
import Derived.Deep.Light
namespace Go.Proofs.YtcijjmmckofckaaDoor
open Go.ChangeShapes Go.WideShapes Go.ChangeAt Go.RowKit
set_option linter.unusedVariables false


set_option maxHeartbeats 4000000 in
set_option maxRecDepth 100000 in
theorem refcheck_6 (op a b c n : Int) (w : World) (h : shapeOf op = 6) :
    Calls Tryd.prog 58 #[instrV op a b c n] w fun e w' => e = .returned (.int .i64 (checkOf op a b c n)) ∧ Below w.heap.size w w' := by
  have H := Lib.hid h
  clear h
  unfold instrV
  go_enter Tryd.func58, Tryd.ntmps58
  go_wp2_with fail
  refine (refshape_any _ _).mono ?_
  rintro e w' ⟨rfl, rfl⟩
  rw [H.out]
  go_wp2_with fail
  refine (has_any _ _).mono ?_
  rintro e w' ⟨rfl, rfl⟩
  go_wp2_with fail
  all_goals
    go_light
    go_ret
    refine ⟨ret_i64 ?_, (Below.refl _ _).alloc (Nat.le_refl _) _⟩
    try simp only [bne_iff_ne, ne_eq, bne_eq_false_iff_eq] at *
    first
      | exact (checkOf_good H.out (by decide) (by simp [GoodP, regsOf, lowOf, highOf]; omega)).symm
      | exact (checkOf_bad H.out (by decide) (by simp [GoodP, regsOf, lowOf, highOf]; omega)).symm


set_option maxHeartbeats 4000000 in
set_option maxRecDepth 100000 in
theorem refcheck_7 (op a b c n : Int) (w : World) (h : shapeOf op = 7) :
    Calls Tryd.prog 58 #[instrV op a b c n] w fun e w' => e = .returned (.int .i64 (checkOf op a b c n)) ∧ Below w.heap.size w w' := by
  have H := Lib.hid h
  clear h
  unfold instrV
  go_enter Tryd.func58, Tryd.ntmps58
  go_wp2_with fail
  refine (refshape_any _ _).mono ?_
  rintro e w' ⟨rfl, rfl⟩
  rw [H.out]
  go_wp2_with fail
  refine (has_any _ _).mono ?_
  rintro e w' ⟨rfl, rfl⟩
  go_wp2_with fail
  all_goals
    go_light
    go_ret
    refine ⟨ret_i64 ?_, (Below.refl _ _).alloc (Nat.le_refl _) _⟩
    try simp only [bne_iff_ne, ne_eq, bne_eq_false_iff_eq] at *
    first
      | exact (checkOf_good H.out (by decide) (by simp [GoodP, regsOf, lowOf, highOf]; omega)).symm
      | exact (checkOf_bad H.out (by decide) (by simp [GoodP, regsOf, lowOf, highOf]; omega)).symm


set_option maxHeartbeats 4000000 in
set_option maxRecDepth 100000 in
theorem refcheck_8 (op a b c n : Int) (w : World) (h : shapeOf op = 8) :
    Calls Tryd.prog 58 #[instrV op a b c n] w fun e w' => e = .returned (.int .i64 (checkOf op a b c n)) ∧ Below w.heap.size w w' := by
  have H := Lib.hid h
  clear h
  unfold instrV
  go_enter Tryd.func58, Tryd.ntmps58
  go_wp2_with fail
  refine (refshape_any _ _).mono ?_
  rintro e w' ⟨rfl, rfl⟩
  rw [H.out]
  go_wp2_with fail
  refine (has_any _ _).mono ?_
  rintro e w' ⟨rfl, rfl⟩
  go_wp2_with fail
  all_goals
    go_light
    go_ret
    refine ⟨ret_i64 ?_, (Below.refl _ _).alloc (Nat.le_refl _) _⟩
    try simp only [bne_iff_ne, ne_eq, bne_eq_false_iff_eq] at *
    first
      | exact (checkOf_good H.out (by decide) (by simp [GoodP, regsOf, lowOf, highOf]; omega)).symm
      | exact (checkOf_bad H.out (by decide) (by simp [GoodP, regsOf, lowOf, highOf]; omega)).symm

end Go.Proofs.YtcijjmmckofckaaDoor
