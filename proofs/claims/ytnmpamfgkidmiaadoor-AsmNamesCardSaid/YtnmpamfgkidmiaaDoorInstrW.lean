/- Package instr: Fill, of any texts. -/
import Derived.Test.YtnmpamfgkidmiaaDoorInstrW0
import Derived.Test.YtnmpamfgkidmiaaDoorInstrW1
import Derived.Test.YtnmpamfgkidmiaaDoorInstrW2
import Derived.Test.YtnmpamfgkidmiaaDoorInstrW3
import Derived.Test.YtnmpamfgkidmiaaDoorInstrW4
import Derived.Test.YtnmpamfgkidmiaaDoorInstrW5
namespace Go.Proofs.YtnmpamfgkidmiaaDoor
open Go.ChangeShapes Go.WideShapes Go.ChangeAt Go.RowKit
set_option linter.unusedVariables false

set_option maxHeartbeats 4000000 in
set_option maxRecDepth 100000 in
theorem fill_none (op : Int) (A : Option Addr) (n cp : Nat) (ss : List ByteArray) (w : World) (hS : ShapesIn w) (h : shapeOf op = -1) :
    Calls Tryd.prog 73 #[.int .i64 op, .slice A n cp] w (FillPost op ss w) := by
  have R := Lib.hid (fieldsR_of h)
  have NO := Lib.hid (fillOk_shape (ss := ss) h)
  have HS := Lib.hid hS
  clear h hS
  go_enter Tryd.func73, Tryd.ntmps73
  go_wp2_with fail
  refine (fieldsOf_any _ _ (HS.out.alloc _)).mono ?_
  rintro e w1 ⟨rfl, hb1⟩
  rw [R.out, show fieldsV (-1) = .agg #[.int .i64 0, .int .i64 0, .bool false] from rfl]
  have T4 := Lib.hid ((Whole.made w 93 #[.int .i64 0, .int .i64 0, .int .i64 0, .int .i64 0, .int .i64 0] _ rfl).below hb1 (by simp))
  have B1 := Lib.hid (((Below.refl _ _).alloc (Nat.le_refl _) _).trans (hb1.mono (show w.heap.size ≤ _ by simp)))
  have hz := T4.out.lt
  clear hb1
  have q0 : w1.cell? ⟨w.heap.size, 0, none⟩ = some (.int .i64 0) := T4.out.cell 0
  have q1 : w1.cell? ⟨w.heap.size, 1, none⟩ = some (.int .i64 0) := T4.out.cell 1
  have q2 : w1.cell? ⟨w.heap.size, 2, none⟩ = some (.int .i64 0) := T4.out.cell 2
  have q3 : w1.cell? ⟨w.heap.size, 3, none⟩ = some (.int .i64 0) := T4.out.cell 3
  have q4 : w1.cell? ⟨w.heap.size, 4, none⟩ = some (.int .i64 0) := T4.out.cell 4
  have f4 : ∀ i, w1.frozen? ⟨w.heap.size, i, none⟩ = false := T4.out.free
  go_wp2_with fail
  refine bodyPost_ret (v := .tuple #[.agg #[.int .i64 0, .int .i64 0, .int .i64 0, .int .i64 0, .int .i64 0], .bool false]) ?_ rfl (fill_no NO.out ?_)
  · simp [results, Tryd.results73, go_sem, q0, q1, q2, q3, q4, hz]
  · repeat (first | exact B1.out | refine Below.setCell ?_ (Nat.le_refl w.heap.size) _ | refine Below.alloc ?_ (by simp; omega) _)

set_option maxHeartbeats 4000000 in
set_option maxRecDepth 100000 in
theorem fill_len (op : Int) (A : Option Addr) (n cp : Nat) (ss : List ByteArray) (w : World) (hS : ShapesIn w) (hs : ss.length = n) (hn : n ≤ 20) (h : shapeOf op ≠ -1) (hl : ss.length ≠ fillCount op) :
    Calls Tryd.prog 73 #[.int .i64 op, .slice A n cp] w (FillPost op ss w) := by
  have hr := shapeOf_range op
  have hR : fieldsR op = .tuple #[.agg #[.int .i64 (regsOf (shapeOf op)), .int .i64 (bitsOf (shapeOf op)), .bool (signOf (shapeOf op))], .bool true] := by
    unfold fieldsR fieldsV
    simp [h]
  have hr0 : 0 ≤ regsOf (shapeOf op) ∧ regsOf (shapeOf op) ≤ 3 := by unfold regsOf; omega
  have hne : ((n : Int) != (if 0 < bitsOf (shapeOf op) then regsOf (shapeOf op) + 1 else regsOf (shapeOf op))) = true := by
    unfold fillCount at hl
    rw [hs] at hl
    simp only [bne_iff_ne, ne_eq]
    intro e
    apply hl
    split at e <;> rename_i hh <;> simp [hh] <;> omega
  have NO := Lib.hid (fillOk_len hl)
  have R := Lib.hid hR
  have HS := Lib.hid hS
  have CT := Lib.hid (fun w => count_any (regsOf (shapeOf op)) (bitsOf (shapeOf op)) (signOf (shapeOf op)) w hr0.1 hr0.2)
  clear h hS hR hl hs hr hr0
  generalize (if 0 < bitsOf (shapeOf op) then regsOf (shapeOf op) + 1 else regsOf (shapeOf op)) = ct at *
  generalize regsOf (shapeOf op) = r at *
  generalize bitsOf (shapeOf op) = bits at *
  generalize signOf (shapeOf op) = sgn at *
  go_enter Tryd.func73, Tryd.ntmps73
  go_wp2_with fail
  refine (fieldsOf_any _ _ (HS.out.alloc _)).mono ?_
  rintro e w1 ⟨rfl, hb1⟩
  rw [R.out]
  have T4a := Lib.hid ((Whole.made w 93 #[.int .i64 0, .int .i64 0, .int .i64 0, .int .i64 0, .int .i64 0] _ rfl).below hb1 (by simp))
  have B1 := Lib.hid (((Below.refl _ _).alloc (Nat.le_refl _) _).trans (hb1.mono (show w.heap.size ≤ _ by simp)))
  have hz := T4a.out.lt
  clear hb1
  go_wp2_with fail
  refine (CT.out _).mono ?_
  rintro e w2 ⟨rfl, hb2⟩
  have T4 := Lib.hid ((T4a.out.alloc (.cells #[.int .i64 r, .int .i64 bits, .bool sgn] 133)).below hb2 (by simp; omega))
  have B2 := Lib.hid ((B1.out.alloc (Nat.le_of_lt hz) _).trans (hb2.mono (show w.heap.size ≤ _ by simp; omega)))
  clear hb2
  have q0 : w2.cell? ⟨w.heap.size, 0, none⟩ = some (.int .i64 0) := T4.out.cell 0
  have q1 : w2.cell? ⟨w.heap.size, 1, none⟩ = some (.int .i64 0) := T4.out.cell 1
  have q2 : w2.cell? ⟨w.heap.size, 2, none⟩ = some (.int .i64 0) := T4.out.cell 2
  have q3 : w2.cell? ⟨w.heap.size, 3, none⟩ = some (.int .i64 0) := T4.out.cell 3
  have q4 : w2.cell? ⟨w.heap.size, 4, none⟩ = some (.int .i64 0) := T4.out.cell 4
  have f4 : ∀ i, w2.frozen? ⟨w.heap.size, i, none⟩ = false := T4.out.free
  go_wp2_with fail
  refine bodyPost_ret (v := .tuple #[.agg #[.int .i64 0, .int .i64 0, .int .i64 0, .int .i64 0, .int .i64 0], .bool false]) ?_ rfl (fill_no NO.out ?_)
  · simp [results, Tryd.results73, go_sem, q0, q1, q2, q3, q4]
  · repeat (first | exact B2.out | refine Below.setCell ?_ (Nat.le_refl w.heap.size) _)

theorem fill_any (op : Int) (A : Option Addr) (n cp : Nat) (ss : List ByteArray) (w : World) (hS : ShapesIn w) (hs : Strs w A n ss) (hz : ∀ z ∈ ss, z.size ≤ maxLen) (hn : n ≤ 20) :
    Calls Tryd.prog 73 #[.int .i64 op, .slice A n cp] w (FillPost op ss w) := by
  by_cases h : shapeOf op = -1
  · exact fill_none op A n cp ss w hS h
  · by_cases hl : ss.length = fillCount op
    · have hr := shapeOf_range op
      rcases (show (regsOf (shapeOf op) = 0 ∧ bitsOf (shapeOf op) = 0) ∨ (regsOf (shapeOf op) = 0 ∧ 0 < bitsOf (shapeOf op)) ∨ (regsOf (shapeOf op) = 1 ∧ bitsOf (shapeOf op) = 0) ∨ (regsOf (shapeOf op) = 1 ∧ 0 < bitsOf (shapeOf op)) ∨ (regsOf (shapeOf op) = 2 ∧ 0 < bitsOf (shapeOf op)) ∨ (regsOf (shapeOf op) = 3 ∧ bitsOf (shapeOf op) = 0) by unfold regsOf bitsOf; omega) with ⟨g1, g2⟩ | ⟨g1, g2⟩ | ⟨g1, g2⟩ | ⟨g1, g2⟩ | ⟨g1, g2⟩ | ⟨g1, g2⟩
      all_goals
        have hc := hs.1
        rw [hl] at hc
        unfold fillCount at hc
        rw [g1] at hc
        first | rw [if_pos g2] at hc | rw [g2] at hc
        simp at hc
        subst hc
      · exact fill_00 op A cp ss w hS hs hz h g1 g2
      · exact fill_01 op A cp ss w hS hs hz h g1 g2
      · exact fill_10 op A cp ss w hS hs hz h g1 g2
      · exact fill_11 op A cp ss w hS hs hz h g1 g2
      · exact fill_21 op A cp ss w hS hs hz h g1 g2
      · exact fill_30 op A cp ss w hS hs hz h g1 g2
    · exact fill_len op A n cp ss w hS hs.1 hn h hl
end Go.Proofs.YtnmpamfgkidmiaaDoor
