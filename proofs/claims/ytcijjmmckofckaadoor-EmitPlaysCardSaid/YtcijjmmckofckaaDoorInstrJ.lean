/- Package instr and its answers: Decode, of any word. -/
import Derived.Test.YtcijjmmckofckaaDoorInstrJ0
import Derived.Test.YtcijjmmckofckaaDoorInstrJ1
import Derived.Test.YtcijjmmckofckaaDoorInstrK0
import Derived.Test.YtcijjmmckofckaaDoorInstrK1
import Derived.Test.YtcijjmmckofckaaDoorInstrK2
namespace Go.Proofs.YtcijjmmckofckaaDoor
open Go.ChangeShapes Go.WideShapes Go.ChangeAt Go.RowKit
set_option linter.unusedVariables false

set_option maxHeartbeats 2000000 in
theorem decode_none (x : Int) (w : World) (hS : ShapesIn w) (h0 : 0 ≤ x) (h1 : x ≤ 4294967295) (h : shapeOf (x / 16777216) = -1) :
    Calls Tryd.prog 63 #[.int .u32 x] w fun e w' => e = .returned (decV x) ∧ Below w.heap.size w w' := by
  have V := Lib.hid (decV_none h)
  have R := Lib.hid (fieldsR_of h)
  have HS := Lib.hid hS
  clear h hS
  unfold instrV at V
  go_enter Tryd.func63, Tryd.ntmps63
  go_wp2_with fail
  refine (fieldsOf_any _ _ (HS.out.alloc _)).mono ?_
  rintro e w1 ⟨rfl, hb1⟩
  rw [R.out, show fieldsV (-1) = .agg #[.int .i64 0, .int .i64 0, .bool false] from rfl]
  have Q := (Whole.made w 58 #[.int .i64 0, .int .i64 0, .int .i64 0, .int .i64 0, .int .i64 0] _ rfl).below hb1 (by simp)
  have q0 : w1.cell? ⟨w.heap.size, 0, none⟩ = some (.int .i64 0) := Q.cell 0
  have q1 : w1.cell? ⟨w.heap.size, 1, none⟩ = some (.int .i64 0) := Q.cell 1
  have q2 : w1.cell? ⟨w.heap.size, 2, none⟩ = some (.int .i64 0) := Q.cell 2
  have q3 : w1.cell? ⟨w.heap.size, 3, none⟩ = some (.int .i64 0) := Q.cell 3
  have q4 : w1.cell? ⟨w.heap.size, 4, none⟩ = some (.int .i64 0) := Q.cell 4
  have f3 : ∀ i, w1.frozen? ⟨w.heap.size, i, none⟩ = false := Q.free
  have hz1 : w.heap.size < w1.heap.size := Nat.lt_of_lt_of_le (by simp) hb1.size
  have B1 := Lib.hid (((Below.refl _ _).alloc (Nat.le_refl _) _).trans (hb1.mono (show w.heap.size ≤ _ by simp)))
  clear hb1 Q
  go_wp2
  refine bodyPost_ret (v := .tuple #[.agg #[.int .i64 0, .int .i64 0, .int .i64 0, .int .i64 0, .int .i64 0], .int .i64 21]) ?_ rfl ⟨congrArg Ending.returned V.out.symm, ?_⟩
  · simp [results, Tryd.results63, go_sem, q0, q1, q2, q3, q4, hz1]
  · repeat (first | exact B1.out | refine Below.setCell ?_ (Nat.le_refl w.heap.size) _ | refine Below.alloc ?_ (by simp; omega) _)

theorem decode_any (x : Int) (w : World) (hS : ShapesIn w) (h0 : 0 ≤ x) (h1 : x ≤ 4294967295) :
    Calls Tryd.prog 63 #[.int .u32 x] w fun e w' => e = .returned (decV x) ∧ Below w.heap.size w w' := by
  by_cases h : shapeOf (x / 16777216) = -1
  · exact decode_none x w hS h0 h1 h
  · rcases (show regsOf (shapeOf (x / 16777216)) = 0 ∨ regsOf (shapeOf (x / 16777216)) = 1 ∨ regsOf (shapeOf (x / 16777216)) = 2 ∨ regsOf (shapeOf (x / 16777216)) = 3 by unfold regsOf; omega) with g | g | g | g
    · exact decode_r0 x w hS h0 h1 h g
    · exact decode_r1 x w hS h0 h1 h g
    · exact decode_r2 x w hS h0 h1 h g
    · exact decode_r3 x w hS h0 h1 h g

set_option maxHeartbeats 2000000 in
theorem refdecode_none (x : Int) (w : World) (h0 : 0 ≤ x) (h1 : x ≤ 4294967295) (h : shapeOf (x / 16777216) = -1) :
    Calls Tryd.prog 19 #[.int .u32 x] w fun e w' => e = .returned (decV x) ∧ Below w.heap.size w w' := by
  have V := Lib.hid (decV_none h)
  have E := Lib.hid (fun w => by
    have := refencode_any (x / 16777216) 0 0 0 0 w
    unfold encR encOf at this
    rw [checkOf_none h, if_neg (by decide)] at this
    exact this)
  have H := Lib.hid h
  clear h
  unfold instrV at V E
  go_enter Tryd.func19, Tryd.ntmps19
  go_wp2_with fail
  refine (refshape_any _ _).mono ?_
  rintro e w' ⟨rfl, rfl⟩
  rw [H.out]
  go_wp2_with fail
  refine (has_any _ _).mono ?_
  rintro e w' ⟨rfl, rfl⟩
  go_wp2_with fail
  refine (E.out _).mono ?_
  rintro e w1 ⟨rfl, hb1⟩
  have B1 := Lib.hid ((((Below.refl w.heap.size w).alloc (Nat.le_refl _) _).alloc (by simp) _).trans (hb1.mono (by simp; omega)))
  have hz1 : w.heap.size < w1.heap.size := Nat.lt_of_lt_of_le (by simp; omega) hb1.size
  have Q3 := ((Whole.made w 51 #[.int .i64 0, .int .i64 0, .int .i64 0, .int .i64 0, .int .i64 0] _ rfl).alloc (.cells #[.int .i64 (x / 16777216), .int .i64 0, .int .i64 0, .int .i64 0, .int .i64 0] 51)).below hb1 (by simp; omega)
  have q0 : w1.cell? ⟨w.heap.size, 0, none⟩ = some (.int .i64 0) := Q3.cell 0
  have q1 : w1.cell? ⟨w.heap.size, 1, none⟩ = some (.int .i64 0) := Q3.cell 1
  have q2 : w1.cell? ⟨w.heap.size, 2, none⟩ = some (.int .i64 0) := Q3.cell 2
  have q3 : w1.cell? ⟨w.heap.size, 3, none⟩ = some (.int .i64 0) := Q3.cell 3
  have q4 : w1.cell? ⟨w.heap.size, 4, none⟩ = some (.int .i64 0) := Q3.cell 4
  have f3 : ∀ i, w1.frozen? ⟨w.heap.size, i, none⟩ = false := Q3.free
  clear hb1 Q3
  go_wp2
  refine bodyPost_ret (v := .tuple #[.agg #[.int .i64 0, .int .i64 0, .int .i64 0, .int .i64 0, .int .i64 0], .int .i64 21]) ?_ rfl ⟨congrArg Ending.returned V.out.symm, ?_⟩
  · simp [results, Tryd.results19, go_sem, q0, q1, q2, q3, q4]
  · repeat (first | exact B1.out | refine Below.setCell ?_ (Nat.le_refl w.heap.size) _)

theorem refdecode_any (x : Int) (w : World) (h0 : 0 ≤ x) (h1 : x ≤ 4294967295) :
    Calls Tryd.prog 19 #[.int .u32 x] w fun e w' => e = .returned (decV x) ∧ Below w.heap.size w w' := by
  rcases shape_cases (x / 16777216) with h | h | h | h | h | h | h | h | h | h
  · exact refdecode_none x w h0 h1 h
  · exact refdecode_0 x w h0 h1 h
  · exact refdecode_1 x w h0 h1 h
  · exact refdecode_2 x w h0 h1 h
  · exact refdecode_3 x w h0 h1 h
  · exact refdecode_4 x w h0 h1 h
  · exact refdecode_5 x w h0 h1 h
  · exact refdecode_6 x w h0 h1 h
  · exact refdecode_7 x w h0 h1 h
  · exact refdecode_8 x w h0 h1 h
end Go.Proofs.YtcijjmmckofckaaDoor
