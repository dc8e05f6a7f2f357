/- The answers' memory: Store, Fill. -/
import Derived.Test.YtojjfpplhgfpfaaMemH
namespace Go.Proofs.Ytojjfpplhgfpfaa
open Go.ChangeShapes Go.WideShapes Go.ChangeAt Go.RowKit
set_option linter.unusedVariables false

set_option maxHeartbeats 8000000 in
set_option maxRecDepth 100000 in
theorem refstore_err (h n : Nat) (e0 e1 e2 e3 e4 at_ v : Int) (ws : List Int) (w : World) (ha : U32 at_) (hv : U32 v) (hw : Whole w h 22 (words ws)) (hn : ws.length = n) (hn2 : n ≤ 1000000) (hl : e4 = 4 * n) (hws : ∀ z ∈ ws, U32 z) (er : Int) (he : checkRes at_ e4 = er) (h0 : er ≠ 0) :
    Calls Try.prog 26 #[.agg (memCells e0 e1 e2 e3 e4 h n), .int .u32 at_, .int .u32 v] w (fun e w' => ∃ h', e = .returned (.tuple #[.agg (memCells e0 e1 e2 e3 e4 h' n), .int .i64 er]) ∧ Whole w' h' 22 (words ws) ∧ (h' = h ∨ w.heap.size ≤ h') ∧ Below w.heap.size w w') := by
  have hC := fun w h' => refload_any h n e0 e1 e2 e3 e4 at_ ws w ha h' hn hn2 hl hws
  obtain ⟨a0, a1⟩ := ha
  unfold memCells at *
  have hsz : ((w.alloc (.cells #[.int .u32 e0, .int .u32 e1, .int .u32 e2, .int .u32 e3, .int .u32 e4, .slice (some ⟨h, 0, none⟩) n n] 32)).alloc (.cells #[.int .u32 0, .int .u32 0, .int .u32 0, .int .u32 0, .int .u32 0, .slice none 0 0] 32)).heap.size = w.heap.size + 2 := by simp
  have Q0 := Lib.hid ((Whole.made w 32 #[.int .u32 e0, .int .u32 e1, .int .u32 e2, .int .u32 e3, .int .u32 e4, .slice (some ⟨h, 0, none⟩) n n] _ rfl).alloc (.cells #[.int .u32 0, .int .u32 0, .int .u32 0, .int .u32 0, .int .u32 0, .slice none 0 0] 32))
  have T0 := Lib.hid (Whole.made (w.alloc (.cells #[.int .u32 e0, .int .u32 e1, .int .u32 e2, .int .u32 e3, .int .u32 e4, .slice (some ⟨h, 0, none⟩) n n] 32)) 32 #[.int .u32 0, .int .u32 0, .int .u32 0, .int .u32 0, .int .u32 0, .slice none 0 0] (w.heap.size + 1) (by simp))
  have H0 := Lib.hid ((hw.alloc (.cells #[.int .u32 e0, .int .u32 e1, .int .u32 e2, .int .u32 e3, .int .u32 e4, .slice (some ⟨h, 0, none⟩) n n] 32)).alloc (.cells #[.int .u32 0, .int .u32 0, .int .u32 0, .int .u32 0, .int .u32 0, .slice none 0 0] 32))
  have B0 := Lib.hid (((Below.refl w.heap.size w).alloc (Nat.le_refl _) (.cells #[.int .u32 e0, .int .u32 e1, .int .u32 e2, .int .u32 e3, .int .u32 e4, .slice (some ⟨h, 0, none⟩) n n] 32)).alloc (by simp) (.cells #[.int .u32 0, .int .u32 0, .int .u32 0, .int .u32 0, .int .u32 0, .slice none 0 0] 32))
  have hlt := hw.lt
  have n1 : w.heap.size + 1 ≠ w.heap.size := by omega
  have nh : h ≠ w.heap.size + 1 := by omega
  simp only [he] at hC
  have d1 : (er != 0) = true := by simpa using h0
  clear he h0
  have C := Lib.hid hC
  clear hC hw hws hl
  generalize readVal at_ e4 ws = rv at *
  go_enter Try.func26, Try.ntmps26
  go_wp2_with fail
  generalize ((w.alloc (.cells #[.int .u32 e0, .int .u32 e1, .int .u32 e2, .int .u32 e3, .int .u32 e4, .slice (some ⟨h, 0, none⟩) n n] 32)).alloc (.cells #[.int .u32 0, .int .u32 0, .int .u32 0, .int .u32 0, .int .u32 0, .slice none 0 0] 32)) = w1 at *
  refine (C.out _ H0.out).mono ?_
  rintro e w2 ⟨rfl, hb2⟩
  have Q2 := Lib.hid (Q0.out.below hb2 Q0.out.lt)
  have T2 := Lib.hid (T0.out.below hb2 T0.out.lt)
  have H2 := Lib.hid (H0.out.below hb2 H0.out.lt)
  have B2 := Lib.hid (B0.out.trans (hb2.mono B0.out.size))
  clear hb2 Q0 T0 H0 B0
  have q0 : w2.cell? ⟨w.heap.size, 0, none⟩ = some (.int .u32 e0) := Q2.out.cell 0
  have q1 : w2.cell? ⟨w.heap.size, 1, none⟩ = some (.int .u32 e1) := Q2.out.cell 1
  have q2 : w2.cell? ⟨w.heap.size, 2, none⟩ = some (.int .u32 e2) := Q2.out.cell 2
  have q3 : w2.cell? ⟨w.heap.size, 3, none⟩ = some (.int .u32 e3) := Q2.out.cell 3
  have q4 : w2.cell? ⟨w.heap.size, 4, none⟩ = some (.int .u32 e4) := Q2.out.cell 4
  have q5 : w2.cell? ⟨w.heap.size, 5, none⟩ = some (.slice (some ⟨h, 0, none⟩) n n) := Q2.out.cell 5
  have t0 : w2.cell? ⟨w.heap.size + 1, 0, none⟩ = some (.int .u32 0) := T2.out.cell 0
  have t1 : w2.cell? ⟨w.heap.size + 1, 1, none⟩ = some (.int .u32 0) := T2.out.cell 1
  have t2 : w2.cell? ⟨w.heap.size + 1, 2, none⟩ = some (.int .u32 0) := T2.out.cell 2
  have t3 : w2.cell? ⟨w.heap.size + 1, 3, none⟩ = some (.int .u32 0) := T2.out.cell 3
  have t4 : w2.cell? ⟨w.heap.size + 1, 4, none⟩ = some (.int .u32 0) := T2.out.cell 4
  have t5 : w2.cell? ⟨w.heap.size + 1, 5, none⟩ = some (.slice none 0 0) := T2.out.cell 5
  have tf : ∀ i, w2.frozen? ⟨w.heap.size + 1, i, none⟩ = false := T2.out.free

  go_wp2_with fail
  have TU := Lib.hid (show Whole ((((((w2.setCell ⟨w.heap.size + 1, 0, none⟩ (.int .u32 e0)).setCell ⟨w.heap.size + 1, 1, none⟩ (.int .u32 e1)).setCell ⟨w.heap.size + 1, 2, none⟩ (.int .u32 e2)).setCell ⟨w.heap.size + 1, 3, none⟩ (.int .u32 e3)).setCell ⟨w.heap.size + 1, 4, none⟩ (.int .u32 e4)).setCell ⟨w.heap.size + 1, 5, none⟩ (.slice (some ⟨h, 0, none⟩) n n)) (w.heap.size + 1) 32 (memCells e0 e1 e2 e3 e4 (h) n) from ((((((T2.out.store 0 (.int .u32 e0)).store 1 (.int .u32 e1)).store 2 (.int .u32 e2)).store 3 (.int .u32 e3)).store 4 (.int .u32 e4)).store 5 (.slice (some ⟨h, 0, none⟩) n n)))
  have WU := Lib.hid (show Whole ((((((w2.setCell ⟨w.heap.size + 1, 0, none⟩ (.int .u32 e0)).setCell ⟨w.heap.size + 1, 1, none⟩ (.int .u32 e1)).setCell ⟨w.heap.size + 1, 2, none⟩ (.int .u32 e2)).setCell ⟨w.heap.size + 1, 3, none⟩ (.int .u32 e3)).setCell ⟨w.heap.size + 1, 4, none⟩ (.int .u32 e4)).setCell ⟨w.heap.size + 1, 5, none⟩ (.slice (some ⟨h, 0, none⟩) n n)) (h) 22 _ from ((((((H2.out.far (p := ⟨w.heap.size + 1, 0, none⟩) nh _).far (p := ⟨w.heap.size + 1, 1, none⟩) nh _).far (p := ⟨w.heap.size + 1, 2, none⟩) nh _).far (p := ⟨w.heap.size + 1, 3, none⟩) nh _).far (p := ⟨w.heap.size + 1, 4, none⟩) nh _).far (p := ⟨w.heap.size + 1, 5, none⟩) nh _))
  have BU := Lib.hid (show Below w.heap.size w ((((((w2.setCell ⟨w.heap.size + 1, 0, none⟩ (.int .u32 e0)).setCell ⟨w.heap.size + 1, 1, none⟩ (.int .u32 e1)).setCell ⟨w.heap.size + 1, 2, none⟩ (.int .u32 e2)).setCell ⟨w.heap.size + 1, 3, none⟩ (.int .u32 e3)).setCell ⟨w.heap.size + 1, 4, none⟩ (.int .u32 e4)).setCell ⟨w.heap.size + 1, 5, none⟩ (.slice (some ⟨h, 0, none⟩) n n)) from ((((((B2.out.setCell (p := ⟨w.heap.size + 1, 0, none⟩) (Nat.le_succ _) _).setCell (p := ⟨w.heap.size + 1, 1, none⟩) (Nat.le_succ _) _).setCell (p := ⟨w.heap.size + 1, 2, none⟩) (Nat.le_succ _) _).setCell (p := ⟨w.heap.size + 1, 3, none⟩) (Nat.le_succ _) _).setCell (p := ⟨w.heap.size + 1, 4, none⟩) (Nat.le_succ _) _).setCell (p := ⟨w.heap.size + 1, 5, none⟩) (Nat.le_succ _) _))
  clear q0 q1 q2 q3 q4 q5 t0 t1 t2 t3 t4 t5 tf
  generalize ((((((w2.setCell ⟨w.heap.size + 1, 0, none⟩ (.int .u32 e0)).setCell ⟨w.heap.size + 1, 1, none⟩ (.int .u32 e1)).setCell ⟨w.heap.size + 1, 2, none⟩ (.int .u32 e2)).setCell ⟨w.heap.size + 1, 3, none⟩ (.int .u32 e3)).setCell ⟨w.heap.size + 1, 4, none⟩ (.int .u32 e4)).setCell ⟨w.heap.size + 1, 5, none⟩ (.slice (some ⟨h, 0, none⟩) n n)) = V at *
  have t0 : V.cell? ⟨w.heap.size + 1, 0, none⟩ = some (.int .u32 e0) := TU.out.cell 0
  have t1 : V.cell? ⟨w.heap.size + 1, 1, none⟩ = some (.int .u32 e1) := TU.out.cell 1
  have t2 : V.cell? ⟨w.heap.size + 1, 2, none⟩ = some (.int .u32 e2) := TU.out.cell 2
  have t3 : V.cell? ⟨w.heap.size + 1, 3, none⟩ = some (.int .u32 e3) := TU.out.cell 3
  have t4 : V.cell? ⟨w.heap.size + 1, 4, none⟩ = some (.int .u32 e4) := TU.out.cell 4
  have t5 : V.cell? ⟨w.heap.size + 1, 5, none⟩ = some (.slice (some ⟨h, 0, none⟩) n n) := TU.out.cell 5
  go_wp2_with fail
  exact bodyPost_ret (v := .tuple #[.agg (memCells e0 e1 e2 e3 e4 (h) n), .int .i64 er]) (by simp [results, Try.results26, go_sem, t0, t1, t2, t3, t4, t5, memCells]) rfl ⟨h, rfl, WU.out, .inl rfl, BU.out⟩

set_option maxHeartbeats 8000000 in
set_option maxRecDepth 100000 in
theorem refstore_write (h n : Nat) (e0 e1 e2 e3 e4 at_ v : Int) (ws : List Int) (w : World) (ha : U32 at_) (hv : U32 v) (hw : Whole w h 22 (words ws)) (hn : ws.length = n) (hn2 : n ≤ 1000000) (hl : e4 = 4 * n) (hws : ∀ z ∈ ws, U32 z) (he : checkRes at_ e4 = 0) (hlt1 : at_ < e1) :
    Calls Try.prog 26 #[.agg (memCells e0 e1 e2 e3 e4 h n), .int .u32 at_, .int .u32 v] w (fun e w' => ∃ h', e = .returned (.tuple #[.agg (memCells e0 e1 e2 e3 e4 h' n), .int .i64 32]) ∧ Whole w' h' 22 (words ws) ∧ (h' = h ∨ w.heap.size ≤ h') ∧ Below w.heap.size w w') := by
  have hC := fun w h' => refload_any h n e0 e1 e2 e3 e4 at_ ws w ha h' hn hn2 hl hws
  obtain ⟨a0, a1⟩ := ha
  unfold memCells at *
  have hsz : ((w.alloc (.cells #[.int .u32 e0, .int .u32 e1, .int .u32 e2, .int .u32 e3, .int .u32 e4, .slice (some ⟨h, 0, none⟩) n n] 32)).alloc (.cells #[.int .u32 0, .int .u32 0, .int .u32 0, .int .u32 0, .int .u32 0, .slice none 0 0] 32)).heap.size = w.heap.size + 2 := by simp
  have Q0 := Lib.hid ((Whole.made w 32 #[.int .u32 e0, .int .u32 e1, .int .u32 e2, .int .u32 e3, .int .u32 e4, .slice (some ⟨h, 0, none⟩) n n] _ rfl).alloc (.cells #[.int .u32 0, .int .u32 0, .int .u32 0, .int .u32 0, .int .u32 0, .slice none 0 0] 32))
  have T0 := Lib.hid (Whole.made (w.alloc (.cells #[.int .u32 e0, .int .u32 e1, .int .u32 e2, .int .u32 e3, .int .u32 e4, .slice (some ⟨h, 0, none⟩) n n] 32)) 32 #[.int .u32 0, .int .u32 0, .int .u32 0, .int .u32 0, .int .u32 0, .slice none 0 0] (w.heap.size + 1) (by simp))
  have H0 := Lib.hid ((hw.alloc (.cells #[.int .u32 e0, .int .u32 e1, .int .u32 e2, .int .u32 e3, .int .u32 e4, .slice (some ⟨h, 0, none⟩) n n] 32)).alloc (.cells #[.int .u32 0, .int .u32 0, .int .u32 0, .int .u32 0, .int .u32 0, .slice none 0 0] 32))
  have B0 := Lib.hid (((Below.refl w.heap.size w).alloc (Nat.le_refl _) (.cells #[.int .u32 e0, .int .u32 e1, .int .u32 e2, .int .u32 e3, .int .u32 e4, .slice (some ⟨h, 0, none⟩) n n] 32)).alloc (by simp) (.cells #[.int .u32 0, .int .u32 0, .int .u32 0, .int .u32 0, .int .u32 0, .slice none 0 0] 32))
  have hlt := hw.lt
  have n1 : w.heap.size + 1 ≠ w.heap.size := by omega
  have nh : h ≠ w.heap.size + 1 := by omega
  simp only [he] at hC
  have d1 : decide (at_ < e1) = true := decide_eq_true hlt1
  clear he hlt1
  have C := Lib.hid hC
  clear hC hw hws hl
  generalize readVal at_ e4 ws = rv at *
  go_enter Try.func26, Try.ntmps26
  go_wp2_with fail
  generalize ((w.alloc (.cells #[.int .u32 e0, .int .u32 e1, .int .u32 e2, .int .u32 e3, .int .u32 e4, .slice (some ⟨h, 0, none⟩) n n] 32)).alloc (.cells #[.int .u32 0, .int .u32 0, .int .u32 0, .int .u32 0, .int .u32 0, .slice none 0 0] 32)) = w1 at *
  refine (C.out _ H0.out).mono ?_
  rintro e w2 ⟨rfl, hb2⟩
  have Q2 := Lib.hid (Q0.out.below hb2 Q0.out.lt)
  have T2 := Lib.hid (T0.out.below hb2 T0.out.lt)
  have H2 := Lib.hid (H0.out.below hb2 H0.out.lt)
  have B2 := Lib.hid (B0.out.trans (hb2.mono B0.out.size))
  clear hb2 Q0 T0 H0 B0
  have q0 : w2.cell? ⟨w.heap.size, 0, none⟩ = some (.int .u32 e0) := Q2.out.cell 0
  have q1 : w2.cell? ⟨w.heap.size, 1, none⟩ = some (.int .u32 e1) := Q2.out.cell 1
  have q2 : w2.cell? ⟨w.heap.size, 2, none⟩ = some (.int .u32 e2) := Q2.out.cell 2
  have q3 : w2.cell? ⟨w.heap.size, 3, none⟩ = some (.int .u32 e3) := Q2.out.cell 3
  have q4 : w2.cell? ⟨w.heap.size, 4, none⟩ = some (.int .u32 e4) := Q2.out.cell 4
  have q5 : w2.cell? ⟨w.heap.size, 5, none⟩ = some (.slice (some ⟨h, 0, none⟩) n n) := Q2.out.cell 5
  have t0 : w2.cell? ⟨w.heap.size + 1, 0, none⟩ = some (.int .u32 0) := T2.out.cell 0
  have t1 : w2.cell? ⟨w.heap.size + 1, 1, none⟩ = some (.int .u32 0) := T2.out.cell 1
  have t2 : w2.cell? ⟨w.heap.size + 1, 2, none⟩ = some (.int .u32 0) := T2.out.cell 2
  have t3 : w2.cell? ⟨w.heap.size + 1, 3, none⟩ = some (.int .u32 0) := T2.out.cell 3
  have t4 : w2.cell? ⟨w.heap.size + 1, 4, none⟩ = some (.int .u32 0) := T2.out.cell 4
  have t5 : w2.cell? ⟨w.heap.size + 1, 5, none⟩ = some (.slice none 0 0) := T2.out.cell 5
  have tf : ∀ i, w2.frozen? ⟨w.heap.size + 1, i, none⟩ = false := T2.out.free

  go_wp2_with fail
  have TU := Lib.hid (show Whole ((((((w2.setCell ⟨w.heap.size + 1, 0, none⟩ (.int .u32 e0)).setCell ⟨w.heap.size + 1, 1, none⟩ (.int .u32 e1)).setCell ⟨w.heap.size + 1, 2, none⟩ (.int .u32 e2)).setCell ⟨w.heap.size + 1, 3, none⟩ (.int .u32 e3)).setCell ⟨w.heap.size + 1, 4, none⟩ (.int .u32 e4)).setCell ⟨w.heap.size + 1, 5, none⟩ (.slice (some ⟨h, 0, none⟩) n n)) (w.heap.size + 1) 32 (memCells e0 e1 e2 e3 e4 (h) n) from ((((((T2.out.store 0 (.int .u32 e0)).store 1 (.int .u32 e1)).store 2 (.int .u32 e2)).store 3 (.int .u32 e3)).store 4 (.int .u32 e4)).store 5 (.slice (some ⟨h, 0, none⟩) n n)))
  have WU := Lib.hid (show Whole ((((((w2.setCell ⟨w.heap.size + 1, 0, none⟩ (.int .u32 e0)).setCell ⟨w.heap.size + 1, 1, none⟩ (.int .u32 e1)).setCell ⟨w.heap.size + 1, 2, none⟩ (.int .u32 e2)).setCell ⟨w.heap.size + 1, 3, none⟩ (.int .u32 e3)).setCell ⟨w.heap.size + 1, 4, none⟩ (.int .u32 e4)).setCell ⟨w.heap.size + 1, 5, none⟩ (.slice (some ⟨h, 0, none⟩) n n)) (h) 22 _ from ((((((H2.out.far (p := ⟨w.heap.size + 1, 0, none⟩) nh _).far (p := ⟨w.heap.size + 1, 1, none⟩) nh _).far (p := ⟨w.heap.size + 1, 2, none⟩) nh _).far (p := ⟨w.heap.size + 1, 3, none⟩) nh _).far (p := ⟨w.heap.size + 1, 4, none⟩) nh _).far (p := ⟨w.heap.size + 1, 5, none⟩) nh _))
  have BU := Lib.hid (show Below w.heap.size w ((((((w2.setCell ⟨w.heap.size + 1, 0, none⟩ (.int .u32 e0)).setCell ⟨w.heap.size + 1, 1, none⟩ (.int .u32 e1)).setCell ⟨w.heap.size + 1, 2, none⟩ (.int .u32 e2)).setCell ⟨w.heap.size + 1, 3, none⟩ (.int .u32 e3)).setCell ⟨w.heap.size + 1, 4, none⟩ (.int .u32 e4)).setCell ⟨w.heap.size + 1, 5, none⟩ (.slice (some ⟨h, 0, none⟩) n n)) from ((((((B2.out.setCell (p := ⟨w.heap.size + 1, 0, none⟩) (Nat.le_succ _) _).setCell (p := ⟨w.heap.size + 1, 1, none⟩) (Nat.le_succ _) _).setCell (p := ⟨w.heap.size + 1, 2, none⟩) (Nat.le_succ _) _).setCell (p := ⟨w.heap.size + 1, 3, none⟩) (Nat.le_succ _) _).setCell (p := ⟨w.heap.size + 1, 4, none⟩) (Nat.le_succ _) _).setCell (p := ⟨w.heap.size + 1, 5, none⟩) (Nat.le_succ _) _))
  clear q0 q1 q2 q3 q4 q5 t0 t1 t2 t3 t4 t5 tf
  generalize ((((((w2.setCell ⟨w.heap.size + 1, 0, none⟩ (.int .u32 e0)).setCell ⟨w.heap.size + 1, 1, none⟩ (.int .u32 e1)).setCell ⟨w.heap.size + 1, 2, none⟩ (.int .u32 e2)).setCell ⟨w.heap.size + 1, 3, none⟩ (.int .u32 e3)).setCell ⟨w.heap.size + 1, 4, none⟩ (.int .u32 e4)).setCell ⟨w.heap.size + 1, 5, none⟩ (.slice (some ⟨h, 0, none⟩) n n)) = V at *
  have t0 : V.cell? ⟨w.heap.size + 1, 0, none⟩ = some (.int .u32 e0) := TU.out.cell 0
  have t1 : V.cell? ⟨w.heap.size + 1, 1, none⟩ = some (.int .u32 e1) := TU.out.cell 1
  have t2 : V.cell? ⟨w.heap.size + 1, 2, none⟩ = some (.int .u32 e2) := TU.out.cell 2
  have t3 : V.cell? ⟨w.heap.size + 1, 3, none⟩ = some (.int .u32 e3) := TU.out.cell 3
  have t4 : V.cell? ⟨w.heap.size + 1, 4, none⟩ = some (.int .u32 e4) := TU.out.cell 4
  have t5 : V.cell? ⟨w.heap.size + 1, 5, none⟩ = some (.slice (some ⟨h, 0, none⟩) n n) := TU.out.cell 5
  go_wp2_with fail
  exact bodyPost_ret (v := .tuple #[.agg (memCells e0 e1 e2 e3 e4 (h) n), .int .i64 32]) (by simp [results, Try.results26, go_sem, t0, t1, t2, t3, t4, t5, memCells]) rfl ⟨h, rfl, WU.out, .inl rfl, BU.out⟩

set_option maxHeartbeats 8000000 in
set_option maxRecDepth 100000 in
theorem refstore_ok (h n k : Nat) (e0 e1 e2 e3 e4 at_ v : Int) (ws : List Int) (w : World) (ha : U32 at_) (hv : U32 v) (hw : Whole w h 22 (words ws)) (hn : ws.length = n) (hn2 : n ≤ 1000000) (hl : e4 = 4 * n) (hws : ∀ z ∈ ws, U32 z) (he : checkRes at_ e4 = 0) (hge : ¬ at_ < e1) (hk : at_ / 4 = (k : Int)) (hkn : k < n) :
    Calls Try.prog 26 #[.agg (memCells e0 e1 e2 e3 e4 h n), .int .u32 at_, .int .u32 v] w (fun e w' => ∃ h', e = .returned (.tuple #[.agg (memCells e0 e1 e2 e3 e4 h' n), .int .i64 0]) ∧ Whole w' h' 22 (words (ws.set k v)) ∧ (h' = h ∨ w.heap.size ≤ h') ∧ Below w.heap.size w w') := by
  have hC := fun w h' => refload_any h n e0 e1 e2 e3 e4 at_ ws w ha h' hn hn2 hl hws
  have hW := fun (A : Option Addr) (c : Nat) (w : World) h' hz => with_any h n k e0 e1 e2 e3 e4 ws A 1 c [v] w h' hn hn2 hz (by omega)
  obtain ⟨a0, a1⟩ := ha
  unfold memCells at *
  have hsz : ((w.alloc (.cells #[.int .u32 e0, .int .u32 e1, .int .u32 e2, .int .u32 e3, .int .u32 e4, .slice (some ⟨h, 0, none⟩) n n] 32)).alloc (.cells #[.int .u32 0, .int .u32 0, .int .u32 0, .int .u32 0, .int .u32 0, .slice none 0 0] 32)).heap.size = w.heap.size + 2 := by simp
  have Q0 := Lib.hid ((Whole.made w 32 #[.int .u32 e0, .int .u32 e1, .int .u32 e2, .int .u32 e3, .int .u32 e4, .slice (some ⟨h, 0, none⟩) n n] _ rfl).alloc (.cells #[.int .u32 0, .int .u32 0, .int .u32 0, .int .u32 0, .int .u32 0, .slice none 0 0] 32))
  have T0 := Lib.hid (Whole.made (w.alloc (.cells #[.int .u32 e0, .int .u32 e1, .int .u32 e2, .int .u32 e3, .int .u32 e4, .slice (some ⟨h, 0, none⟩) n n] 32)) 32 #[.int .u32 0, .int .u32 0, .int .u32 0, .int .u32 0, .int .u32 0, .slice none 0 0] (w.heap.size + 1) (by simp))
  have H0 := Lib.hid ((hw.alloc (.cells #[.int .u32 e0, .int .u32 e1, .int .u32 e2, .int .u32 e3, .int .u32 e4, .slice (some ⟨h, 0, none⟩) n n] 32)).alloc (.cells #[.int .u32 0, .int .u32 0, .int .u32 0, .int .u32 0, .int .u32 0, .slice none 0 0] 32))
  have B0 := Lib.hid (((Below.refl w.heap.size w).alloc (Nat.le_refl _) (.cells #[.int .u32 e0, .int .u32 e1, .int .u32 e2, .int .u32 e3, .int .u32 e4, .slice (some ⟨h, 0, none⟩) n n] 32)).alloc (by simp) (.cells #[.int .u32 0, .int .u32 0, .int .u32 0, .int .u32 0, .int .u32 0, .slice none 0 0] 32))
  have hlt := hw.lt
  have n1 : w.heap.size + 1 ≠ w.heap.size := by omega
  have nh : h ≠ w.heap.size + 1 := by omega
  simp only [he] at hC
  have d1 : decide (at_ < e1) = false := decide_eq_false hge
  have SP := Lib.hid (show splice ws k [v] = ws.set k v by
    have h1 := splice_step (ws := ws) (zs := [v]) (k := k) (j := 0) (by simp; omega) (by simp)
    rw [splice_zero] at h1
    simpa using h1.symm)
  have C := Lib.hid hC
  have WI := Lib.hid hW
  clear hC hw hws hl he hge hW
  generalize readVal at_ e4 ws = rv at *
  go_enter Try.func26, Try.ntmps26
  go_wp2_with fail
  generalize ((w.alloc (.cells #[.int .u32 e0, .int .u32 e1, .int .u32 e2, .int .u32 e3, .int .u32 e4, .slice (some ⟨h, 0, none⟩) n n] 32)).alloc (.cells #[.int .u32 0, .int .u32 0, .int .u32 0, .int .u32 0, .int .u32 0, .slice none 0 0] 32)) = w1 at *
  refine (C.out _ H0.out).mono ?_
  rintro e w2 ⟨rfl, hb2⟩
  have Q2 := Lib.hid (Q0.out.below hb2 Q0.out.lt)
  have T2 := Lib.hid (T0.out.below hb2 T0.out.lt)
  have H2 := Lib.hid (H0.out.below hb2 H0.out.lt)
  have B2 := Lib.hid (B0.out.trans (hb2.mono B0.out.size))
  clear hb2 Q0 T0 H0 B0
  have q0 : w2.cell? ⟨w.heap.size, 0, none⟩ = some (.int .u32 e0) := Q2.out.cell 0
  have q1 : w2.cell? ⟨w.heap.size, 1, none⟩ = some (.int .u32 e1) := Q2.out.cell 1
  have q2 : w2.cell? ⟨w.heap.size, 2, none⟩ = some (.int .u32 e2) := Q2.out.cell 2
  have q3 : w2.cell? ⟨w.heap.size, 3, none⟩ = some (.int .u32 e3) := Q2.out.cell 3
  have q4 : w2.cell? ⟨w.heap.size, 4, none⟩ = some (.int .u32 e4) := Q2.out.cell 4
  have q5 : w2.cell? ⟨w.heap.size, 5, none⟩ = some (.slice (some ⟨h, 0, none⟩) n n) := Q2.out.cell 5
  have t0 : w2.cell? ⟨w.heap.size + 1, 0, none⟩ = some (.int .u32 0) := T2.out.cell 0
  have t1 : w2.cell? ⟨w.heap.size + 1, 1, none⟩ = some (.int .u32 0) := T2.out.cell 1
  have t2 : w2.cell? ⟨w.heap.size + 1, 2, none⟩ = some (.int .u32 0) := T2.out.cell 2
  have t3 : w2.cell? ⟨w.heap.size + 1, 3, none⟩ = some (.int .u32 0) := T2.out.cell 3
  have t4 : w2.cell? ⟨w.heap.size + 1, 4, none⟩ = some (.int .u32 0) := T2.out.cell 4
  have t5 : w2.cell? ⟨w.heap.size + 1, 5, none⟩ = some (.slice none 0 0) := T2.out.cell 5
  have tf : ∀ i, w2.frozen? ⟨w.heap.size + 1, i, none⟩ = false := T2.out.free
  go_wp2_with fail
  clear q0 q1 q2 q3 q4 q5 t0 t1 t2 t3 t4 t5 tf
  have NB := nums_built .u32 22 w2 [v] _ rfl 1 rfl (by decide) _ rfl
  have T3 := Lib.hid (T2.out.alloc (.cells #[.int .u32 v] 22))
  have H3 := Lib.hid (H2.out.alloc (.cells #[.int .u32 v] 22))
  have B3 := Lib.hid (B2.out.alloc B2.out.size (.cells #[.int .u32 v] 22))
  have l1 := T2.out.lt
  refine (WI.out _ _ _ H3.out NB).mono ?_
  rintro e w4 ⟨h', rfl, hH, hh', hb4⟩
  have T4 := Lib.hid (T3.out.below hb4 T3.out.lt)
  have B4 := Lib.hid (B3.out.trans (hb4.mono B3.out.size))
  have HH := Lib.hid hH
  have nh' : h' ≠ w.heap.size + 1 := by
    have : w2.heap.size + 1 ≤ h' := by simpa using hh'
    omega
  have gh' : w.heap.size ≤ h' := by
    have : w2.heap.size + 1 ≤ h' := by simpa using hh'
    omega
  clear hb4 hH hh' NB Q2 T2 H2 B2 T3 H3 B3
  have t0 : w4.cell? ⟨w.heap.size + 1, 0, none⟩ = some (.int .u32 0) := T4.out.cell 0
  have t1 : w4.cell? ⟨w.heap.size + 1, 1, none⟩ = some (.int .u32 0) := T4.out.cell 1
  have t2 : w4.cell? ⟨w.heap.size + 1, 2, none⟩ = some (.int .u32 0) := T4.out.cell 2
  have t3 : w4.cell? ⟨w.heap.size + 1, 3, none⟩ = some (.int .u32 0) := T4.out.cell 3
  have t4 : w4.cell? ⟨w.heap.size + 1, 4, none⟩ = some (.int .u32 0) := T4.out.cell 4
  have t5 : w4.cell? ⟨w.heap.size + 1, 5, none⟩ = some (.slice none 0 0) := T4.out.cell 5
  have tf : ∀ i, w4.frozen? ⟨w.heap.size + 1, i, none⟩ = false := T4.out.free
  go_wp2_with fail
  have TU := Lib.hid (show Whole ((((((w4.setCell ⟨w.heap.size + 1, 0, none⟩ (.int .u32 e0)).setCell ⟨w.heap.size + 1, 1, none⟩ (.int .u32 e1)).setCell ⟨w.heap.size + 1, 2, none⟩ (.int .u32 e2)).setCell ⟨w.heap.size + 1, 3, none⟩ (.int .u32 e3)).setCell ⟨w.heap.size + 1, 4, none⟩ (.int .u32 e4)).setCell ⟨w.heap.size + 1, 5, none⟩ (.slice (some ⟨h', 0, none⟩) n n)) (w.heap.size + 1) 32 (memCells e0 e1 e2 e3 e4 (h') n) from ((((((T4.out.store 0 (.int .u32 e0)).store 1 (.int .u32 e1)).store 2 (.int .u32 e2)).store 3 (.int .u32 e3)).store 4 (.int .u32 e4)).store 5 (.slice (some ⟨h', 0, none⟩) n n)))
  have WU := Lib.hid (show Whole ((((((w4.setCell ⟨w.heap.size + 1, 0, none⟩ (.int .u32 e0)).setCell ⟨w.heap.size + 1, 1, none⟩ (.int .u32 e1)).setCell ⟨w.heap.size + 1, 2, none⟩ (.int .u32 e2)).setCell ⟨w.heap.size + 1, 3, none⟩ (.int .u32 e3)).setCell ⟨w.heap.size + 1, 4, none⟩ (.int .u32 e4)).setCell ⟨w.heap.size + 1, 5, none⟩ (.slice (some ⟨h', 0, none⟩) n n)) (h') 22 _ from ((((((HH.out.far (p := ⟨w.heap.size + 1, 0, none⟩) nh' _).far (p := ⟨w.heap.size + 1, 1, none⟩) nh' _).far (p := ⟨w.heap.size + 1, 2, none⟩) nh' _).far (p := ⟨w.heap.size + 1, 3, none⟩) nh' _).far (p := ⟨w.heap.size + 1, 4, none⟩) nh' _).far (p := ⟨w.heap.size + 1, 5, none⟩) nh' _))
  have BU := Lib.hid (show Below w.heap.size w ((((((w4.setCell ⟨w.heap.size + 1, 0, none⟩ (.int .u32 e0)).setCell ⟨w.heap.size + 1, 1, none⟩ (.int .u32 e1)).setCell ⟨w.heap.size + 1, 2, none⟩ (.int .u32 e2)).setCell ⟨w.heap.size + 1, 3, none⟩ (.int .u32 e3)).setCell ⟨w.heap.size + 1, 4, none⟩ (.int .u32 e4)).setCell ⟨w.heap.size + 1, 5, none⟩ (.slice (some ⟨h', 0, none⟩) n n)) from ((((((B4.out.setCell (p := ⟨w.heap.size + 1, 0, none⟩) (Nat.le_succ _) _).setCell (p := ⟨w.heap.size + 1, 1, none⟩) (Nat.le_succ _) _).setCell (p := ⟨w.heap.size + 1, 2, none⟩) (Nat.le_succ _) _).setCell (p := ⟨w.heap.size + 1, 3, none⟩) (Nat.le_succ _) _).setCell (p := ⟨w.heap.size + 1, 4, none⟩) (Nat.le_succ _) _).setCell (p := ⟨w.heap.size + 1, 5, none⟩) (Nat.le_succ _) _))
  clear t0 t1 t2 t3 t4 t5 tf
  generalize ((((((w4.setCell ⟨w.heap.size + 1, 0, none⟩ (.int .u32 e0)).setCell ⟨w.heap.size + 1, 1, none⟩ (.int .u32 e1)).setCell ⟨w.heap.size + 1, 2, none⟩ (.int .u32 e2)).setCell ⟨w.heap.size + 1, 3, none⟩ (.int .u32 e3)).setCell ⟨w.heap.size + 1, 4, none⟩ (.int .u32 e4)).setCell ⟨w.heap.size + 1, 5, none⟩ (.slice (some ⟨h', 0, none⟩) n n)) = V at *
  have t0 : V.cell? ⟨w.heap.size + 1, 0, none⟩ = some (.int .u32 e0) := TU.out.cell 0
  have t1 : V.cell? ⟨w.heap.size + 1, 1, none⟩ = some (.int .u32 e1) := TU.out.cell 1
  have t2 : V.cell? ⟨w.heap.size + 1, 2, none⟩ = some (.int .u32 e2) := TU.out.cell 2
  have t3 : V.cell? ⟨w.heap.size + 1, 3, none⟩ = some (.int .u32 e3) := TU.out.cell 3
  have t4 : V.cell? ⟨w.heap.size + 1, 4, none⟩ = some (.int .u32 e4) := TU.out.cell 4
  have t5 : V.cell? ⟨w.heap.size + 1, 5, none⟩ = some (.slice (some ⟨h', 0, none⟩) n n) := TU.out.cell 5
  go_wp2_with fail
  exact bodyPost_ret (v := .tuple #[.agg (memCells e0 e1 e2 e3 e4 (h') n), .int .i64 0]) (by simp [results, Try.results26, go_sem, t0, t1, t2, t3, t4, t5, memCells]) rfl ⟨h', rfl, by rw [← SP.out]; exact WU.out, .inr gh', BU.out⟩

theorem refstore_any (h n : Nat) (e0 e1 e2 e3 e4 at_ v : Int) (ws : List Int) (w : World) (ha : U32 at_) (hv : U32 v) (hw : Whole w h 22 (words ws)) (hn : ws.length = n) (hn2 : n ≤ 1000000) (hl : e4 = 4 * n) (hws : ∀ z ∈ ws, U32 z) :
    Calls Try.prog 26 #[.agg (memCells e0 e1 e2 e3 e4 h n), .int .u32 at_, .int .u32 v] w (fun e w' => ∃ h', e = .returned (.tuple #[.agg (memCells e0 e1 e2 e3 e4 h' n), .int .i64 (storeRes at_ e1 e4)]) ∧ Whole w' h' 22 (words (storeWs at_ e1 e4 v ws)) ∧ (h' = h ∨ w.heap.size ≤ h') ∧ Below w.heap.size w w') := by
  by_cases he : checkRes at_ e4 = 0
  · obtain ⟨z0, z1⟩ := checkRes_zero he
    by_cases h1 : at_ < e1
    · have R : storeRes at_ e1 e4 = 32 := by unfold storeRes; rw [if_neg (by simpa using he), if_pos h1]
      have RW : storeWs at_ e1 e4 v ws = ws := by unfold storeWs; rw [R]; rfl
      rw [R, RW]
      exact refstore_write h n e0 e1 e2 e3 e4 at_ v ws w ha hv hw hn hn2 hl hws he h1
    · have R : storeRes at_ e1 e4 = 0 := by unfold storeRes; rw [if_neg (by simpa using he), if_neg h1]
      obtain ⟨k, hk⟩ := Int.eq_ofNat_of_zero_le (show 0 ≤ at_ / 4 by have := ha.1; omega)
      have RW : storeWs at_ e1 e4 v ws = ws.set k v := by unfold storeWs; rw [R, if_pos rfl, hk]; rfl
      rw [R, RW]
      exact refstore_ok h n k e0 e1 e2 e3 e4 at_ v ws w ha hv hw hn hn2 hl hws he h1 hk (by omega)
  · have R : storeRes at_ e1 e4 = checkRes at_ e4 := by unfold storeRes; rw [if_pos he]
    have RW : storeWs at_ e1 e4 v ws = ws := by unfold storeWs; rw [R, if_neg he]
    rw [R, RW]
    exact refstore_err h n e0 e1 e2 e3 e4 at_ v ws w ha hv hw hn hn2 hl hws _ rfl he

set_option maxHeartbeats 8000000 in
set_option maxRecDepth 100000 in
theorem reffill_align (h n : Nat) (e0 e1 e2 e3 e4 at_ : Int) (A : Option Addr) (m c : Nat) (ws : List Int) (w : World) (ha : U32 at_) (hw : Whole w h 22 (words ws)) (hn2 : n ≤ 1000000) (hm : m ≤ 1000000) (he : at_ % 4 ≠ 0) :
    Calls Try.prog 27 #[.agg (memCells e0 e1 e2 e3 e4 h n), .int .u32 at_, .slice A m c] w (fun e w' => ∃ h', e = .returned (.tuple #[.agg (memCells e0 e1 e2 e3 e4 h' n), .int .i64 30]) ∧ Whole w' h' 22 (words ws) ∧ (h' = h ∨ w.heap.size ≤ h') ∧ Below w.heap.size w w') := by
  obtain ⟨a0, a1⟩ := ha
  unfold memCells at *
  have H0 := Lib.hid ((hw.alloc (.cells #[.int .u32 e0, .int .u32 e1, .int .u32 e2, .int .u32 e3, .int .u32 e4, .slice (some ⟨h, 0, none⟩) n n] 32)).alloc (.cells #[.int .u32 e0, .int .u32 e1, .int .u32 e2, .int .u32 e3, .int .u32 e4, .slice (some ⟨h, 0, none⟩) n n] 32))
  have B0 := Lib.hid (((Below.refl w.heap.size w).alloc (Nat.le_refl _) (.cells #[.int .u32 e0, .int .u32 e1, .int .u32 e2, .int .u32 e3, .int .u32 e4, .slice (some ⟨h, 0, none⟩) n n] 32)).alloc (by simp) (.cells #[.int .u32 e0, .int .u32 e1, .int .u32 e2, .int .u32 e3, .int .u32 e4, .slice (some ⟨h, 0, none⟩) n n] 32))
  have d1 : (at_ % 4 != 0) = true := by simpa using he
  clear he
  clear hw
  go_enter Try.func27, Try.ntmps27
  go_wp2_with fail
  exact bodyPost_ret (v := .tuple #[.agg (memCells e0 e1 e2 e3 e4 h n), .int .i64 30]) (by simp [results, Try.results27, go_sem, memCells]) rfl ⟨h, rfl, H0.out, .inl rfl, B0.out⟩

set_option maxHeartbeats 8000000 in
set_option maxRecDepth 100000 in
theorem reffill_place (h n : Nat) (e0 e1 e2 e3 e4 at_ : Int) (A : Option Addr) (m c : Nat) (ws : List Int) (w : World) (ha : U32 at_) (hw : Whole w h 22 (words ws)) (hn2 : n ≤ 1000000) (hm : m ≤ 1000000) (k : Nat) (hk : at_ / 4 = (k : Int)) (he : at_ % 4 = 0) (hp : n < k + m) :
    Calls Try.prog 27 #[.agg (memCells e0 e1 e2 e3 e4 h n), .int .u32 at_, .slice A m c] w (fun e w' => ∃ h', e = .returned (.tuple #[.agg (memCells e0 e1 e2 e3 e4 h' n), .int .i64 31]) ∧ Whole w' h' 22 (words ws) ∧ (h' = h ∨ w.heap.size ≤ h') ∧ Below w.heap.size w w') := by
  obtain ⟨a0, a1⟩ := ha
  unfold memCells at *
  have H0 := Lib.hid ((hw.alloc (.cells #[.int .u32 e0, .int .u32 e1, .int .u32 e2, .int .u32 e3, .int .u32 e4, .slice (some ⟨h, 0, none⟩) n n] 32)).alloc (.cells #[.int .u32 e0, .int .u32 e1, .int .u32 e2, .int .u32 e3, .int .u32 e4, .slice (some ⟨h, 0, none⟩) n n] 32))
  have B0 := Lib.hid (((Below.refl w.heap.size w).alloc (Nat.le_refl _) (.cells #[.int .u32 e0, .int .u32 e1, .int .u32 e2, .int .u32 e3, .int .u32 e4, .slice (some ⟨h, 0, none⟩) n n] 32)).alloc (by simp) (.cells #[.int .u32 e0, .int .u32 e1, .int .u32 e2, .int .u32 e3, .int .u32 e4, .slice (some ⟨h, 0, none⟩) n n] 32))
  have d1 : (at_ % 4 != 0) = false := by simpa using he
  have d2 : decide ((n : Int) < k + m) = true := decide_eq_true (by omega)
  have hk2 : k ≤ 1073741823 := by omega
  clear he
  clear hw
  go_enter Try.func27, Try.ntmps27
  go_wp2_with fail
  exact bodyPost_ret (v := .tuple #[.agg (memCells e0 e1 e2 e3 e4 h n), .int .i64 31]) (by simp [results, Try.results27, go_sem, memCells]) rfl ⟨h, rfl, H0.out, .inl rfl, B0.out⟩

set_option maxHeartbeats 8000000 in
set_option maxRecDepth 100000 in
theorem reffill_ok3 (h n k : Nat) (e0 e1 e2 e3 e4 at_ : Int) (A : Option Addr) (m c : Nat) (ws zs : List Int) (w : World) (ha : U32 at_) (hw : Whole w h 22 (words ws)) (hn : ws.length = n) (hn2 : n ≤ 1000000) (hz : Nums .u32 w A m zs) (hk : at_ / 4 = (k : Int)) (he : at_ % 4 = 0) (hkm : k + m ≤ n) :
    Calls Try.prog 27 #[.agg (memCells e0 e1 e2 e3 e4 h n), .int .u32 at_, .slice A m c] w (fun e w' => ∃ h', e = .returned (.tuple #[.agg (memCells e0 e1 e2 e3 e4 h' n), .int .i64 0]) ∧ Whole w' h' 22 (words (splice ws k zs)) ∧ (h' = h ∨ w.heap.size ≤ h') ∧ Below w.heap.size w w') := by
  have hW := fun (w : World) h' hz => with_any h n k e0 e1 e2 e3 e4 ws A m c zs w h' hn hn2 hz hkm
  obtain ⟨a0, a1⟩ := ha
  unfold memCells at *
  have hsz : ((w.alloc (.cells #[.int .u32 e0, .int .u32 e1, .int .u32 e2, .int .u32 e3, .int .u32 e4, .slice (some ⟨h, 0, none⟩) n n] 32)).alloc (.cells #[.int .u32 0, .int .u32 0, .int .u32 0, .int .u32 0, .int .u32 0, .slice none 0 0] 32)).heap.size = w.heap.size + 2 := by simp
  have Q0 := Lib.hid ((Whole.made w 32 #[.int .u32 e0, .int .u32 e1, .int .u32 e2, .int .u32 e3, .int .u32 e4, .slice (some ⟨h, 0, none⟩) n n] _ rfl).alloc (.cells #[.int .u32 0, .int .u32 0, .int .u32 0, .int .u32 0, .int .u32 0, .slice none 0 0] 32))
  have T0 := Lib.hid (Whole.made (w.alloc (.cells #[.int .u32 e0, .int .u32 e1, .int .u32 e2, .int .u32 e3, .int .u32 e4, .slice (some ⟨h, 0, none⟩) n n] 32)) 32 #[.int .u32 0, .int .u32 0, .int .u32 0, .int .u32 0, .int .u32 0, .slice none 0 0] (w.heap.size + 1) (by simp))
  have H0 := Lib.hid ((hw.alloc (.cells #[.int .u32 e0, .int .u32 e1, .int .u32 e2, .int .u32 e3, .int .u32 e4, .slice (some ⟨h, 0, none⟩) n n] 32)).alloc (.cells #[.int .u32 0, .int .u32 0, .int .u32 0, .int .u32 0, .int .u32 0, .slice none 0 0] 32))
  have B0 := Lib.hid (((Below.refl w.heap.size w).alloc (Nat.le_refl _) (.cells #[.int .u32 e0, .int .u32 e1, .int .u32 e2, .int .u32 e3, .int .u32 e4, .slice (some ⟨h, 0, none⟩) n n] 32)).alloc (by simp) (.cells #[.int .u32 0, .int .u32 0, .int .u32 0, .int .u32 0, .int .u32 0, .slice none 0 0] 32))
  have hlt := hw.lt
  have n1 : w.heap.size + 1 ≠ w.heap.size := by omega
  have nh : h ≠ w.heap.size + 1 := by omega
  have NZ := Lib.hid ((hz.below ((Below.refl _ _).alloc (Nat.le_refl _) (.cells #[.int .u32 e0, .int .u32 e1, .int .u32 e2, .int .u32 e3, .int .u32 e4, .slice (some ⟨h, 0, none⟩) n n] 32))).below ((Below.refl _ _).alloc (Nat.le_refl _) (.cells #[.int .u32 0, .int .u32 0, .int .u32 0, .int .u32 0, .int .u32 0, .slice none 0 0] 32)))
  have d1 : (at_ % 4 != 0) = false := by simpa using he
  have d2 : decide ((n : Int) < k + m) = false := decide_eq_false (by omega)
  have hk2 : k ≤ 1073741823 := by omega
  have WI := Lib.hid hW
  clear hw he hW hz
  go_enter Try.func27, Try.ntmps27
  go_wp2_with fail
  refine (WI.out _ H0.out NZ.out).mono ?_
  rintro e w4 ⟨h', rfl, hH, hh', hb4⟩
  rw [hsz] at hh'
  have T4 := Lib.hid (T0.out.below hb4 T0.out.lt)
  have B4 := Lib.hid (B0.out.trans (hb4.mono B0.out.size))
  have HH := Lib.hid hH
  have nh' : h' ≠ w.heap.size + 1 := by omega
  have gh' : w.heap.size ≤ h' := by omega
  clear hb4 hH hh' Q0 T0 H0 B0
  have t0 : w4.cell? ⟨w.heap.size + 1, 0, none⟩ = some (.int .u32 0) := T4.out.cell 0
  have t1 : w4.cell? ⟨w.heap.size + 1, 1, none⟩ = some (.int .u32 0) := T4.out.cell 1
  have t2 : w4.cell? ⟨w.heap.size + 1, 2, none⟩ = some (.int .u32 0) := T4.out.cell 2
  have t3 : w4.cell? ⟨w.heap.size + 1, 3, none⟩ = some (.int .u32 0) := T4.out.cell 3
  have t4 : w4.cell? ⟨w.heap.size + 1, 4, none⟩ = some (.int .u32 0) := T4.out.cell 4
  have t5 : w4.cell? ⟨w.heap.size + 1, 5, none⟩ = some (.slice none 0 0) := T4.out.cell 5
  have tf : ∀ i, w4.frozen? ⟨w.heap.size + 1, i, none⟩ = false := T4.out.free
  go_wp2_with fail
  have TU := Lib.hid (show Whole ((((((w4.setCell ⟨w.heap.size + 1, 0, none⟩ (.int .u32 e0)).setCell ⟨w.heap.size + 1, 1, none⟩ (.int .u32 e1)).setCell ⟨w.heap.size + 1, 2, none⟩ (.int .u32 e2)).setCell ⟨w.heap.size + 1, 3, none⟩ (.int .u32 e3)).setCell ⟨w.heap.size + 1, 4, none⟩ (.int .u32 e4)).setCell ⟨w.heap.size + 1, 5, none⟩ (.slice (some ⟨h', 0, none⟩) n n)) (w.heap.size + 1) 32 (memCells e0 e1 e2 e3 e4 (h') n) from ((((((T4.out.store 0 (.int .u32 e0)).store 1 (.int .u32 e1)).store 2 (.int .u32 e2)).store 3 (.int .u32 e3)).store 4 (.int .u32 e4)).store 5 (.slice (some ⟨h', 0, none⟩) n n)))
  have WU := Lib.hid (show Whole ((((((w4.setCell ⟨w.heap.size + 1, 0, none⟩ (.int .u32 e0)).setCell ⟨w.heap.size + 1, 1, none⟩ (.int .u32 e1)).setCell ⟨w.heap.size + 1, 2, none⟩ (.int .u32 e2)).setCell ⟨w.heap.size + 1, 3, none⟩ (.int .u32 e3)).setCell ⟨w.heap.size + 1, 4, none⟩ (.int .u32 e4)).setCell ⟨w.heap.size + 1, 5, none⟩ (.slice (some ⟨h', 0, none⟩) n n)) (h') 22 _ from ((((((HH.out.far (p := ⟨w.heap.size + 1, 0, none⟩) nh' _).far (p := ⟨w.heap.size + 1, 1, none⟩) nh' _).far (p := ⟨w.heap.size + 1, 2, none⟩) nh' _).far (p := ⟨w.heap.size + 1, 3, none⟩) nh' _).far (p := ⟨w.heap.size + 1, 4, none⟩) nh' _).far (p := ⟨w.heap.size + 1, 5, none⟩) nh' _))
  have BU := Lib.hid (show Below w.heap.size w ((((((w4.setCell ⟨w.heap.size + 1, 0, none⟩ (.int .u32 e0)).setCell ⟨w.heap.size + 1, 1, none⟩ (.int .u32 e1)).setCell ⟨w.heap.size + 1, 2, none⟩ (.int .u32 e2)).setCell ⟨w.heap.size + 1, 3, none⟩ (.int .u32 e3)).setCell ⟨w.heap.size + 1, 4, none⟩ (.int .u32 e4)).setCell ⟨w.heap.size + 1, 5, none⟩ (.slice (some ⟨h', 0, none⟩) n n)) from ((((((B4.out.setCell (p := ⟨w.heap.size + 1, 0, none⟩) (Nat.le_succ _) _).setCell (p := ⟨w.heap.size + 1, 1, none⟩) (Nat.le_succ _) _).setCell (p := ⟨w.heap.size + 1, 2, none⟩) (Nat.le_succ _) _).setCell (p := ⟨w.heap.size + 1, 3, none⟩) (Nat.le_succ _) _).setCell (p := ⟨w.heap.size + 1, 4, none⟩) (Nat.le_succ _) _).setCell (p := ⟨w.heap.size + 1, 5, none⟩) (Nat.le_succ _) _))
  clear t0 t1 t2 t3 t4 t5 tf
  generalize ((((((w4.setCell ⟨w.heap.size + 1, 0, none⟩ (.int .u32 e0)).setCell ⟨w.heap.size + 1, 1, none⟩ (.int .u32 e1)).setCell ⟨w.heap.size + 1, 2, none⟩ (.int .u32 e2)).setCell ⟨w.heap.size + 1, 3, none⟩ (.int .u32 e3)).setCell ⟨w.heap.size + 1, 4, none⟩ (.int .u32 e4)).setCell ⟨w.heap.size + 1, 5, none⟩ (.slice (some ⟨h', 0, none⟩) n n)) = V at *
  have t0 : V.cell? ⟨w.heap.size + 1, 0, none⟩ = some (.int .u32 e0) := TU.out.cell 0
  have t1 : V.cell? ⟨w.heap.size + 1, 1, none⟩ = some (.int .u32 e1) := TU.out.cell 1
  have t2 : V.cell? ⟨w.heap.size + 1, 2, none⟩ = some (.int .u32 e2) := TU.out.cell 2
  have t3 : V.cell? ⟨w.heap.size + 1, 3, none⟩ = some (.int .u32 e3) := TU.out.cell 3
  have t4 : V.cell? ⟨w.heap.size + 1, 4, none⟩ = some (.int .u32 e4) := TU.out.cell 4
  have t5 : V.cell? ⟨w.heap.size + 1, 5, none⟩ = some (.slice (some ⟨h', 0, none⟩) n n) := TU.out.cell 5
  go_wp2_with fail
  exact bodyPost_ret (v := .tuple #[.agg (memCells e0 e1 e2 e3 e4 (h') n), .int .i64 0]) (by simp [results, Try.results27, go_sem, t0, t1, t2, t3, t4, t5, memCells]) rfl ⟨h', rfl, WU.out, .inr gh', BU.out⟩

theorem reffill_any3 (h n : Nat) (e0 e1 e2 e3 e4 at_ : Int) (A : Option Addr) (m c : Nat) (ws zs : List Int) (w : World) (ha : U32 at_) (hw : Whole w h 22 (words ws)) (hn : ws.length = n) (hn2 : n ≤ 1000000) (hz : Nums .u32 w A m zs) (hm : m ≤ 1000000) :
    Calls Try.prog 27 #[.agg (memCells e0 e1 e2 e3 e4 h n), .int .u32 at_, .slice A m c] w (fun e w' => ∃ h', e = .returned (.tuple #[.agg (memCells e0 e1 e2 e3 e4 h' n), .int .i64 (fillRes at_ ws.length zs.length)]) ∧ Whole w' h' 22 (words (fillWs at_ ws zs)) ∧ (h' = h ∨ w.heap.size ≤ h') ∧ Below w.heap.size w w') := by
  have hL : fillRes at_ ws.length zs.length = fillRes at_ n m := by rw [hn, hz.1]
  by_cases he : at_ % 4 = 0
  · obtain ⟨k, hk⟩ := Int.eq_ofNat_of_zero_le (show 0 ≤ at_ / 4 by have := ha.1; omega)
    by_cases hp : n < k + m
    · have hR : fillRes at_ n m = 31 := by unfold fillRes; rw [if_neg (by omega), if_pos (by omega)]
      rw [show fillWs at_ ws zs = ws by unfold fillWs; rw [hL, hR]; rfl, hL, hR]
      exact reffill_place h n e0 e1 e2 e3 e4 at_ A m c ws w ha hw hn2 hm k hk he hp
    · have hR : fillRes at_ n m = 0 := by unfold fillRes; rw [if_neg (by omega), if_neg (by omega)]
      rw [show fillWs at_ ws zs = splice ws k zs by unfold fillWs; rw [hL, hR, if_pos rfl, hk]; rfl, hL, hR]
      exact reffill_ok3 h n k e0 e1 e2 e3 e4 at_ A m c ws zs w ha hw hn hn2 hz hk he (by omega)
  · have hR : fillRes at_ n m = 30 := by unfold fillRes; rw [if_pos he]
    rw [show fillWs at_ ws zs = ws by unfold fillWs; rw [hL, hR]; rfl, hL, hR]
    exact reffill_align h n e0 e1 e2 e3 e4 at_ A m c ws w ha hw hn2 hm he

end Go.Proofs.Ytojjfpplhgfpfaa
