/- InstrX in one. -/
import Derived.Test.YtnmpamfgkidmiaaDoorInstrXa
import Derived.Test.YtnmpamfgkidmiaaDoorInstrXb
import Derived.Test.YtnmpamfgkidmiaaDoorInstrXc
import Derived.Test.YtnmpamfgkidmiaaDoorInstrXd
import Derived.Test.YtnmpamfgkidmiaaDoorInstrXe

/- The answers' Fill of package instr, of any texts. -/
namespace Go.Proofs.YtnmpamfgkidmiaaDoor
open Go.ChangeShapes Go.WideShapes Go.ChangeAt Go.RowKit
set_option linter.unusedVariables false

set_option maxHeartbeats 4000000 in
set_option maxRecDepth 100000 in
theorem reffill_none (op : Int) (A : Option Addr) (n cp : Nat) (ss : List ByteArray) (w : World) (h : shapeOf op = -1) :
    Calls Tryd.prog 76 #[.int .i64 op, .slice A n cp] w (FillPost op ss w) := by
  have NO := Lib.hid (fillOk_shape (ss := ss) h)
  have SH := Lib.hid (fun w => refshape_any op w)
  rw [h] at SH
  clear h
  go_enter Tryd.func76, Tryd.ntmps76
  go_wp2_with fail
  refine (SH.out _).mono ?_
  rintro e w' ⟨rfl, rfl⟩
  have T4 := Lib.hid ((Whole.made w 78 #[.int .i64 0, .int .i64 0, .int .i64 0, .int .i64 0, .int .i64 0] _ rfl).alloc (.cells #[.int .i64 op, .int .i64 0, .int .i64 0, .int .i64 0, .int .i64 0] 78))
  have T6 := Lib.hid (Whole.made (w.alloc (.cells #[.int .i64 0, .int .i64 0, .int .i64 0, .int .i64 0, .int .i64 0] 78)) 78 #[.int .i64 op, .int .i64 0, .int .i64 0, .int .i64 0, .int .i64 0] (w.heap.size + 1) (by simp))
  have B0 := Lib.hid (((Below.refl w.heap.size w).alloc (Nat.le_refl _) (.cells #[.int .i64 0, .int .i64 0, .int .i64 0, .int .i64 0, .int .i64 0] 78)).alloc (by simp) (.cells #[.int .i64 op, .int .i64 0, .int .i64 0, .int .i64 0, .int .i64 0] 78))
  have l4 := T4.out.lt
  generalize (w.alloc (.cells #[.int .i64 0, .int .i64 0, .int .i64 0, .int .i64 0, .int .i64 0] 78)).alloc (.cells #[.int .i64 op, .int .i64 0, .int .i64 0, .int .i64 0, .int .i64 0] 78) = V at *
  generalize w.heap.size + 1 = g6 at *
  have q0 : V.cell? ⟨w.heap.size, 0, none⟩ = some (.int .i64 0) := T4.out.cell 0
  have q1 : V.cell? ⟨w.heap.size, 1, none⟩ = some (.int .i64 0) := T4.out.cell 1
  have q2 : V.cell? ⟨w.heap.size, 2, none⟩ = some (.int .i64 0) := T4.out.cell 2
  have q3 : V.cell? ⟨w.heap.size, 3, none⟩ = some (.int .i64 0) := T4.out.cell 3
  have q4 : V.cell? ⟨w.heap.size, 4, none⟩ = some (.int .i64 0) := T4.out.cell 4
  have r0 : V.cell? ⟨g6, 0, none⟩ = some (.int .i64 op) := T6.out.cell 0
  have r1 : V.cell? ⟨g6, 1, none⟩ = some (.int .i64 0) := T6.out.cell 1
  have r2 : V.cell? ⟨g6, 2, none⟩ = some (.int .i64 0) := T6.out.cell 2
  have r3 : V.cell? ⟨g6, 3, none⟩ = some (.int .i64 0) := T6.out.cell 3
  have r4 : V.cell? ⟨g6, 4, none⟩ = some (.int .i64 0) := T6.out.cell 4
  have f4 : ∀ i, V.frozen? ⟨w.heap.size, i, none⟩ = false := T4.out.free
  go_wp2_with fail
  refine bodyPost_ret (v := .tuple #[.agg #[.int .i64 op, .int .i64 0, .int .i64 0, .int .i64 0, .int .i64 0], .bool false]) ?_ rfl (fill_no NO.out ?_)
  · simp [results, Tryd.results76, go_sem, q0, q1, q2, q3, q4]
  · repeat (first | exact B0.out | refine Below.setCell ?_ (Nat.le_refl w.heap.size) _)

theorem reffill_long (op : Int) (A : Option Addr) (n cp : Nat) (ss : List ByteArray) (w : World) (hs : Strs w A n ss) (hz : ∀ z ∈ ss, z.size ≤ maxLen) (hn : n ≤ 1000000) :
    Calls Tryd.prog 76 #[.int .i64 op, .slice A n cp] w (FillPost op ss w) := by
  by_cases h : shapeOf op = -1
  · exact reffill_none op A n cp ss w h
  · have hr := shapeOf_range op
    by_cases hl : ss.length = fillCount op
    · rcases (show (regsOf (shapeOf op) = 0 ∧ bitsOf (shapeOf op) = 0) ∨ (regsOf (shapeOf op) = 0 ∧ 0 < bitsOf (shapeOf op)) ∨ (regsOf (shapeOf op) = 1 ∧ bitsOf (shapeOf op) = 0) ∨ (regsOf (shapeOf op) = 1 ∧ 0 < bitsOf (shapeOf op)) ∨ (regsOf (shapeOf op) = 2 ∧ 0 < bitsOf (shapeOf op)) ∨ (regsOf (shapeOf op) = 3 ∧ bitsOf (shapeOf op) = 0) by unfold regsOf bitsOf; omega) with ⟨g1, g2⟩ | ⟨g1, g2⟩ | ⟨g1, g2⟩ | ⟨g1, g2⟩ | ⟨g1, g2⟩ | ⟨g1, g2⟩
      all_goals
        have hc := hs.1
        rw [hl] at hc
        unfold fillCount at hc
        rw [g1] at hc
        first | rw [if_pos g2] at hc | rw [g2] at hc
        simp at hc
        subst hc
      · exact reffill_00 op A cp ss w hs hz h g1 g2
      · exact reffill_01 op A cp ss w hs hz h g1 g2
      · exact reffill_10 op A cp ss w hs hz h g1 g2
      · exact reffill_11 op A cp ss w hs hz h g1 g2
      · by_cases hk : op = 26
        · exact reffill_21c op A cp ss w hs hz h g1 g2 hk
        · exact reffill_21 op A cp ss w hs hz h g1 g2 hk
      · exact reffill_30 op A cp ss w hs hz h g1 g2
    · rcases (show (regsOf (shapeOf op) = 0 ∧ bitsOf (shapeOf op) = 0) ∨ (regsOf (shapeOf op) = 0 ∧ 0 < bitsOf (shapeOf op)) ∨ (regsOf (shapeOf op) = 1 ∧ bitsOf (shapeOf op) = 0) ∨ (regsOf (shapeOf op) = 1 ∧ 0 < bitsOf (shapeOf op)) ∨ (regsOf (shapeOf op) = 2 ∧ 0 < bitsOf (shapeOf op)) ∨ (regsOf (shapeOf op) = 3 ∧ bitsOf (shapeOf op) = 0) by unfold regsOf bitsOf; omega) with ⟨g1, g2⟩ | ⟨g1, g2⟩ | ⟨g1, g2⟩ | ⟨g1, g2⟩ | ⟨g1, g2⟩ | ⟨g1, g2⟩
      · exact reflen_00 op A n cp ss w hs.1 hn h g1 g2 hl
      · exact reflen_01 op A n cp ss w hs.1 hn h g1 g2 hl
      · exact reflen_10 op A n cp ss w hs.1 hn h g1 g2 hl
      · exact reflen_11 op A n cp ss w hs.1 hn h g1 g2 hl
      · by_cases hk : op = 26
        · exact reflen_21c op A n cp ss w hs.1 hn h g1 g2 hl hk
        · exact reflen_21 op A n cp ss w hs.1 hn h g1 g2 hl hk
      · exact reflen_30 op A n cp ss w hs.1 hn h g1 g2 hl

theorem reffill_any (op : Int) (A : Option Addr) (n cp : Nat) (ss : List ByteArray) (w : World) (hs : Strs w A n ss) (hz : ∀ z ∈ ss, z.size ≤ maxLen) (hn : n ≤ 20) :
    Calls Tryd.prog 76 #[.int .i64 op, .slice A n cp] w (FillPost op ss w) := reffill_long op A n cp ss w hs hz (by omega)
end Go.Proofs.YtnmpamfgkidmiaaDoor
