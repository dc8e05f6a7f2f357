/- The laws' played: whatever is called, both memories stay the same. -/
import Derived.Test.YtojjfpplhgfpfaaMemK
namespace Go.Proofs.Ytojjfpplhgfpfaa
open Go.ChangeShapes Go.WideShapes Go.ChangeAt Go.RowKit
set_option linter.unusedVariables false

set_option maxHeartbeats 8000000 in
set_option maxRecDepth 100000 in
theorem played_bad (e0 e1 e2 e3 e4 : Int) (A : Option Addr) (n2 c : Nat) (w : World) (u0 : U32 e0) (u1 : U32 e1) (u2 : U32 e2) (u3 : U32 e3) (u4 : U32 e4) (hok : okEnds e0 e1 e2 e3 e4 = false) :
    Calls Try.prog 9 #[endsV e0 e1 e2 e3 e4, .slice A n2 c] w fun e w' => e = .returned (.tuple #[.pointer none, .agg #[.int .u32 0, .int .u32 0, .int .u32 0, .int .u32 0, .int .u32 0, .slice none 0 0], .bool true]) ∧ Below w.heap.size w w' := by
  have NW := Lib.hid (fun w => new_bad e0 e1 e2 e3 e4 w u0 u1 u2 u3 u4 hok)
  have EN := Lib.hid (fun w => lawEnds_any e0 e1 e2 e3 e4 w)
  have hR := fun w => refright_any e0 e1 e2 e3 e4 w u0 u1 u2 u3 u4
  have hR2 := fun w => right_any e0 e1 e2 e3 e4 w u0 u1 u2 u3 u4
  simp only [hok] at hR hR2
  have RI := Lib.hid hR
  have RJ := Lib.hid hR2
  clear hR hR2 hok u0 u1 u2 u3 u4
  unfold endsV at *
  have Q0 := Lib.hid ((Whole.made w 24 #[.int .u32 e0, .int .u32 e1, .int .u32 e2, .int .u32 e3, .int .u32 e4] _ rfl).alloc (.cells #[.int .u32 0, .int .u32 0, .int .u32 0, .int .u32 0, .int .u32 0, .slice none 0 0] 32))
  have T0 := Lib.hid (Whole.made (w.alloc (.cells #[.int .u32 e0, .int .u32 e1, .int .u32 e2, .int .u32 e3, .int .u32 e4] 24)) 32 #[.int .u32 0, .int .u32 0, .int .u32 0, .int .u32 0, .int .u32 0, .slice none 0 0] (w.heap.size + 1) (by simp))
  have B0 := Lib.hid (((Below.refl w.heap.size w).alloc (Nat.le_refl _) (.cells #[.int .u32 e0, .int .u32 e1, .int .u32 e2, .int .u32 e3, .int .u32 e4] 24)).alloc (by simp) (.cells #[.int .u32 0, .int .u32 0, .int .u32 0, .int .u32 0, .int .u32 0, .slice none 0 0] 32))
  go_enter Try.func9, Try.ntmps9
  go_wp2_with fail
  refine (NW.out _).mono ?_
  rintro e w1 ⟨rfl, hb1⟩
  have Q1 := Lib.hid (Q0.out.below hb1 Q0.out.lt)
  have T1 := Lib.hid (T0.out.below hb1 T0.out.lt)
  have B1 := Lib.hid (B0.out.trans (hb1.mono B0.out.size))
  clear hb1
  have q0 : w1.cell? ⟨w.heap.size, 0, none⟩ = some (.int .u32 e0) := Q1.out.cell 0
  have q1 : w1.cell? ⟨w.heap.size, 1, none⟩ = some (.int .u32 e1) := Q1.out.cell 1
  have q2 : w1.cell? ⟨w.heap.size, 2, none⟩ = some (.int .u32 e2) := Q1.out.cell 2
  have q3 : w1.cell? ⟨w.heap.size, 3, none⟩ = some (.int .u32 e3) := Q1.out.cell 3
  have q4 : w1.cell? ⟨w.heap.size, 4, none⟩ = some (.int .u32 e4) := Q1.out.cell 4
  go_wp2_with fail
  clear q0 q1 q2 q3 q4
  refine (EN.out _).mono ?_
  rintro e w2 ⟨rfl, hb2⟩
  have Q2 := Lib.hid (Q1.out.below hb2 Q1.out.lt)
  have T2 := Lib.hid (T1.out.below hb2 T1.out.lt)
  have B2 := Lib.hid (B1.out.trans (hb2.mono B1.out.size))
  clear hb2
  go_wp2_with fail
  refine (RI.out _).mono ?_
  rintro e w3 ⟨rfl, hb3⟩
  have Q3 := Lib.hid (Q2.out.below hb3 Q2.out.lt)
  have T3 := Lib.hid (T2.out.below hb3 T2.out.lt)
  have B3 := Lib.hid (B2.out.trans (hb3.mono B2.out.size))
  clear hb3
  have q0 : w3.cell? ⟨w.heap.size, 0, none⟩ = some (.int .u32 e0) := Q3.out.cell 0
  have q1 : w3.cell? ⟨w.heap.size, 1, none⟩ = some (.int .u32 e1) := Q3.out.cell 1
  have q2 : w3.cell? ⟨w.heap.size, 2, none⟩ = some (.int .u32 e2) := Q3.out.cell 2
  have q3 : w3.cell? ⟨w.heap.size, 3, none⟩ = some (.int .u32 e3) := Q3.out.cell 3
  have q4 : w3.cell? ⟨w.heap.size, 4, none⟩ = some (.int .u32 e4) := Q3.out.cell 4
  go_wp2_with fail
  clear q0 q1 q2 q3 q4
  refine (RJ.out _).mono ?_
  rintro e w4 ⟨rfl, hb4⟩
  have Q4 := Lib.hid (Q3.out.below hb4 Q3.out.lt)
  have T4 := Lib.hid (T3.out.below hb4 T3.out.lt)
  have B4 := Lib.hid (B3.out.trans (hb4.mono B3.out.size))
  clear hb4
  have t0 : w4.cell? ⟨w.heap.size + 1, 0, none⟩ = some (.int .u32 0) := T4.out.cell 0
  have t1 : w4.cell? ⟨w.heap.size + 1, 1, none⟩ = some (.int .u32 0) := T4.out.cell 1
  have t2 : w4.cell? ⟨w.heap.size + 1, 2, none⟩ = some (.int .u32 0) := T4.out.cell 2
  have t3 : w4.cell? ⟨w.heap.size + 1, 3, none⟩ = some (.int .u32 0) := T4.out.cell 3
  have t4 : w4.cell? ⟨w.heap.size + 1, 4, none⟩ = some (.int .u32 0) := T4.out.cell 4
  have t5 : w4.cell? ⟨w.heap.size + 1, 5, none⟩ = some (.slice none 0 0) := T4.out.cell 5
  have tf : ∀ i, w4.frozen? ⟨w.heap.size + 1, i, none⟩ = false := T4.out.free
  go_wp2_with fail
  refine bodyPost_ret (v := .tuple #[.pointer none, .agg #[.int .u32 0, .int .u32 0, .int .u32 0, .int .u32 0, .int .u32 0, .slice none 0 0], .bool true]) (by simp [results, Try.results9, go_sem, t0, t1, t2, t3, t4, t5]) rfl ⟨rfl, ?_⟩
  repeat (first | exact B4.out | refine Below.setCell ?_ (Nat.le_succ _) _)

/-- What played leaves where the layout may be. -/
def PlayedPost (e0 e1 e2 e3 e4 : Int) (n : Nat) (w : World) (e : Ending) (w' : World) : Prop :=
  ∃ p h h2 ws, e = .returned (.tuple #[.pointer (some ⟨p, 0, none⟩), .agg (memCells e0 e1 e2 e3 e4 h2 n), .bool true]) ∧ Whole w' p 68 (memCells e0 e1 e2 e3 e4 h n) ∧ Whole w' h 22 (words ws) ∧ Whole w' h2 22 (words ws) ∧
    ws.length = n ∧ (∀ z ∈ ws, U32 z) ∧ w.heap.size ≤ p ∧ w.heap.size ≤ h ∧ p ≠ h ∧ h2 ≠ h ∧ Below w.heap.size w w'


end Go.Proofs.Ytojjfpplhgfpfaa
