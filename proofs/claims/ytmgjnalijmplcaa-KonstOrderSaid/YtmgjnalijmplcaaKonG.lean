/- Konst: the program's Two. -/
import Derived.Test.YtmgjnalijmplcaaKonE
import Derived.Test.YtmgjnalijmplcaaKonE2
import Derived.Test.YtmgjnalijmplcaaKonE3
namespace Go.Proofs.Ytmgjnalijmplcaa
open Go.ChangeShapes Go.WideShapes Go.ChangeAt Go.RowKit
set_option linter.unusedVariables false
set_option linter.unusedSimpArgs false

set_option maxHeartbeats 8000000 in
set_option maxRecDepth 100000 in
theorem two_0 (t1 n1 t2 n2 : Int) (w : World) (n0 : -2147483648 ≤ n1) (n3 : n1 ≤ 2147483647) : Calls Try.prog 9 #[.string ⟨#[43]⟩, .agg #[.int .i64 t1, .int .i32 n1], .agg #[.int .i64 t2, .int .i32 n2]] w fun e w' => e = .returned (kR (twoP 0 t1 n1 t2 n2)) ∧ Below w.heap.size w w' := by
  have CR := Lib.hid (fun y => reckon_any ⟨#[43]⟩ (reckP 0 n1 n2) t1 n1 t2 n2 y (fun z => reckoned_0 n1 n2 z))
  clear n0 n3
  have c0 := (Below.refl w.heap.size w).alloc (Nat.le_refl _) (.cells #[.int .i64 t1, .int .i32 n1] kT)
  have c1 := c0.alloc c0.size (.cells #[.int .i64 t2, .int .i32 n2] kT)
  have c2 := c1.alloc c1.size (.cells #[.int .i64 0, .int .i32 0] kT)
  have BA := Lib.hid c2
  have P0 := Lib.hid (((Whole.made w kT #[.int .i64 t1, .int .i32 n1] (w.heap.size) (by simp)).alloc (.cells #[.int .i64 t2, .int .i32 n2] kT)).alloc (.cells #[.int .i64 0, .int .i32 0] kT))
  have P1 := Lib.hid ((Whole.made (w.alloc (.cells #[.int .i64 t1, .int .i32 n1] kT)) kT #[.int .i64 t2, .int .i32 n2] (w.heap.size + 1) (by simp)).alloc (.cells #[.int .i64 0, .int .i32 0] kT))
  have G := Lib.hid (Whole.made ((w.alloc (.cells #[.int .i64 t1, .int .i32 n1] kT)).alloc (.cells #[.int .i64 t2, .int .i32 n2] kT)) kT #[.int .i64 0, .int .i32 0] (w.heap.size + 2) (by simp))
  clear c0 c1 c2
  show Calls _ _ _ _ fun e w' => e = .returned (kR (reckonP t1 t2 (reckP 0 n1 n2))) ∧ _
  generalize reckonP t1 t2 (reckP 0 n1 n2) = r at *
  unfold kR at *
  go_enter Try.func9, Try.ntmps9
  go_wp2_with fail
  generalize (((w.alloc (.cells #[.int .i64 t1, .int .i32 n1] kT)).alloc (.cells #[.int .i64 t2, .int .i32 n2] kT)).alloc (.cells #[.int .i64 0, .int .i32 0] kT)) = V at *
  refine (CR.out _).mono ?_
  rintro e y1 ⟨rfl, hb⟩
  have B1 := Lib.hid (BA.out.trans (hb.mono BA.out.size))
  have P01 := Lib.hid (P0.out.below hb P0.out.lt)
  have P11 := Lib.hid (P1.out.below hb P1.out.lt)
  have G1 := Lib.hid (G.out.below hb G.out.lt)
  clear hb
  have g0 : y1.cell? ⟨w.heap.size + 2, 0, none⟩ = some (.int .i64 0) := G1.out.cell 0
  have g1 : y1.cell? ⟨w.heap.size + 2, 1, none⟩ = some (.int .i32 0) := G1.out.cell 1
  have f0 := G1.out.free 0
  have f1 := G1.out.free 1
  have H := Lib.hid ((G1.out.store 0 (.int .i64 r.t)).store 1 (.int .i32 r.n))
  have HB := Lib.hid ((B1.out.setCell (p := ⟨w.heap.size + 2, 0, none⟩) (show w.heap.size ≤ w.heap.size + 2 by omega) (.int .i64 r.t)).setCell (p := ⟨w.heap.size + 2, 1, none⟩) (show w.heap.size ≤ w.heap.size + 2 by omega) (.int .i32 r.n))
  go_wp2_with fail
  have q0 := H.out.cell 0
  have q1 := H.out.cell 1
  refine bodyPost_ret (v := .tuple #[.agg #[.int .i64 r.t, .int .i32 r.n], .int .i64 r.e]) ?_ rfl ⟨rfl, HB.out⟩
  simp [results, Try.results9, go_sem, q0, q1]

set_option maxHeartbeats 8000000 in
set_option maxRecDepth 100000 in
theorem two_1 (t1 n1 t2 n2 : Int) (w : World) (n0 : -2147483648 ≤ n1) (n3 : n1 ≤ 2147483647) : Calls Try.prog 9 #[.string ⟨#[45]⟩, .agg #[.int .i64 t1, .int .i32 n1], .agg #[.int .i64 t2, .int .i32 n2]] w fun e w' => e = .returned (kR (twoP 1 t1 n1 t2 n2)) ∧ Below w.heap.size w w' := by
  have CR := Lib.hid (fun y => reckon_any ⟨#[45]⟩ (reckP 1 n1 n2) t1 n1 t2 n2 y (fun z => reckoned_1 n1 n2 z))
  clear n0 n3
  have c0 := (Below.refl w.heap.size w).alloc (Nat.le_refl _) (.cells #[.int .i64 t1, .int .i32 n1] kT)
  have c1 := c0.alloc c0.size (.cells #[.int .i64 t2, .int .i32 n2] kT)
  have c2 := c1.alloc c1.size (.cells #[.int .i64 0, .int .i32 0] kT)
  have BA := Lib.hid c2
  have P0 := Lib.hid (((Whole.made w kT #[.int .i64 t1, .int .i32 n1] (w.heap.size) (by simp)).alloc (.cells #[.int .i64 t2, .int .i32 n2] kT)).alloc (.cells #[.int .i64 0, .int .i32 0] kT))
  have P1 := Lib.hid ((Whole.made (w.alloc (.cells #[.int .i64 t1, .int .i32 n1] kT)) kT #[.int .i64 t2, .int .i32 n2] (w.heap.size + 1) (by simp)).alloc (.cells #[.int .i64 0, .int .i32 0] kT))
  have G := Lib.hid (Whole.made ((w.alloc (.cells #[.int .i64 t1, .int .i32 n1] kT)).alloc (.cells #[.int .i64 t2, .int .i32 n2] kT)) kT #[.int .i64 0, .int .i32 0] (w.heap.size + 2) (by simp))
  clear c0 c1 c2
  show Calls _ _ _ _ fun e w' => e = .returned (kR (reckonP t1 t2 (reckP 1 n1 n2))) ∧ _
  generalize reckonP t1 t2 (reckP 1 n1 n2) = r at *
  unfold kR at *
  go_enter Try.func9, Try.ntmps9
  go_wp2_with fail
  generalize (((w.alloc (.cells #[.int .i64 t1, .int .i32 n1] kT)).alloc (.cells #[.int .i64 t2, .int .i32 n2] kT)).alloc (.cells #[.int .i64 0, .int .i32 0] kT)) = V at *
  refine (CR.out _).mono ?_
  rintro e y1 ⟨rfl, hb⟩
  have B1 := Lib.hid (BA.out.trans (hb.mono BA.out.size))
  have P01 := Lib.hid (P0.out.below hb P0.out.lt)
  have P11 := Lib.hid (P1.out.below hb P1.out.lt)
  have G1 := Lib.hid (G.out.below hb G.out.lt)
  clear hb
  have g0 : y1.cell? ⟨w.heap.size + 2, 0, none⟩ = some (.int .i64 0) := G1.out.cell 0
  have g1 : y1.cell? ⟨w.heap.size + 2, 1, none⟩ = some (.int .i32 0) := G1.out.cell 1
  have f0 := G1.out.free 0
  have f1 := G1.out.free 1
  have H := Lib.hid ((G1.out.store 0 (.int .i64 r.t)).store 1 (.int .i32 r.n))
  have HB := Lib.hid ((B1.out.setCell (p := ⟨w.heap.size + 2, 0, none⟩) (show w.heap.size ≤ w.heap.size + 2 by omega) (.int .i64 r.t)).setCell (p := ⟨w.heap.size + 2, 1, none⟩) (show w.heap.size ≤ w.heap.size + 2 by omega) (.int .i32 r.n))
  go_wp2_with fail
  have q0 := H.out.cell 0
  have q1 := H.out.cell 1
  refine bodyPost_ret (v := .tuple #[.agg #[.int .i64 r.t, .int .i32 r.n], .int .i64 r.e]) ?_ rfl ⟨rfl, HB.out⟩
  simp [results, Try.results9, go_sem, q0, q1]

set_option maxHeartbeats 8000000 in
set_option maxRecDepth 100000 in
theorem two_2 (t1 n1 t2 n2 : Int) (w : World) (n0 : -2147483648 ≤ n1) (n3 : n1 ≤ 2147483647) : Calls Try.prog 9 #[.string ⟨#[42]⟩, .agg #[.int .i64 t1, .int .i32 n1], .agg #[.int .i64 t2, .int .i32 n2]] w fun e w' => e = .returned (kR (twoP 2 t1 n1 t2 n2)) ∧ Below w.heap.size w w' := by
  have CR := Lib.hid (fun y => reckon_any ⟨#[42]⟩ (reckP 2 n1 n2) t1 n1 t2 n2 y (fun z => reckoned_2 n1 n2 z))
  clear n0 n3
  have c0 := (Below.refl w.heap.size w).alloc (Nat.le_refl _) (.cells #[.int .i64 t1, .int .i32 n1] kT)
  have c1 := c0.alloc c0.size (.cells #[.int .i64 t2, .int .i32 n2] kT)
  have c2 := c1.alloc c1.size (.cells #[.int .i64 0, .int .i32 0] kT)
  have BA := Lib.hid c2
  have P0 := Lib.hid (((Whole.made w kT #[.int .i64 t1, .int .i32 n1] (w.heap.size) (by simp)).alloc (.cells #[.int .i64 t2, .int .i32 n2] kT)).alloc (.cells #[.int .i64 0, .int .i32 0] kT))
  have P1 := Lib.hid ((Whole.made (w.alloc (.cells #[.int .i64 t1, .int .i32 n1] kT)) kT #[.int .i64 t2, .int .i32 n2] (w.heap.size + 1) (by simp)).alloc (.cells #[.int .i64 0, .int .i32 0] kT))
  have G := Lib.hid (Whole.made ((w.alloc (.cells #[.int .i64 t1, .int .i32 n1] kT)).alloc (.cells #[.int .i64 t2, .int .i32 n2] kT)) kT #[.int .i64 0, .int .i32 0] (w.heap.size + 2) (by simp))
  clear c0 c1 c2
  show Calls _ _ _ _ fun e w' => e = .returned (kR (reckonP t1 t2 (reckP 2 n1 n2))) ∧ _
  generalize reckonP t1 t2 (reckP 2 n1 n2) = r at *
  unfold kR at *
  go_enter Try.func9, Try.ntmps9
  go_wp2_with fail
  generalize (((w.alloc (.cells #[.int .i64 t1, .int .i32 n1] kT)).alloc (.cells #[.int .i64 t2, .int .i32 n2] kT)).alloc (.cells #[.int .i64 0, .int .i32 0] kT)) = V at *
  refine (CR.out _).mono ?_
  rintro e y1 ⟨rfl, hb⟩
  have B1 := Lib.hid (BA.out.trans (hb.mono BA.out.size))
  have P01 := Lib.hid (P0.out.below hb P0.out.lt)
  have P11 := Lib.hid (P1.out.below hb P1.out.lt)
  have G1 := Lib.hid (G.out.below hb G.out.lt)
  clear hb
  have g0 : y1.cell? ⟨w.heap.size + 2, 0, none⟩ = some (.int .i64 0) := G1.out.cell 0
  have g1 : y1.cell? ⟨w.heap.size + 2, 1, none⟩ = some (.int .i32 0) := G1.out.cell 1
  have f0 := G1.out.free 0
  have f1 := G1.out.free 1
  have H := Lib.hid ((G1.out.store 0 (.int .i64 r.t)).store 1 (.int .i32 r.n))
  have HB := Lib.hid ((B1.out.setCell (p := ⟨w.heap.size + 2, 0, none⟩) (show w.heap.size ≤ w.heap.size + 2 by omega) (.int .i64 r.t)).setCell (p := ⟨w.heap.size + 2, 1, none⟩) (show w.heap.size ≤ w.heap.size + 2 by omega) (.int .i32 r.n))
  go_wp2_with fail
  have q0 := H.out.cell 0
  have q1 := H.out.cell 1
  refine bodyPost_ret (v := .tuple #[.agg #[.int .i64 r.t, .int .i32 r.n], .int .i64 r.e]) ?_ rfl ⟨rfl, HB.out⟩
  simp [results, Try.results9, go_sem, q0, q1]

set_option maxHeartbeats 8000000 in
set_option maxRecDepth 100000 in
theorem two_3 (t1 n1 t2 n2 : Int) (w : World) (n0 : -2147483648 ≤ n1) (n3 : n1 ≤ 2147483647) : Calls Try.prog 9 #[.string ⟨#[68, 73, 86]⟩, .agg #[.int .i64 t1, .int .i32 n1], .agg #[.int .i64 t2, .int .i32 n2]] w fun e w' => e = .returned (kR (twoP 3 t1 n1 t2 n2)) ∧ Below w.heap.size w w' := by
  have CR := Lib.hid (fun y => reckon_any ⟨#[68, 73, 86]⟩ (reckP 3 n1 n2) t1 n1 t2 n2 y (fun z => reckoned_3 n1 n2 z n0 n3))
  clear n0 n3
  have c0 := (Below.refl w.heap.size w).alloc (Nat.le_refl _) (.cells #[.int .i64 t1, .int .i32 n1] kT)
  have c1 := c0.alloc c0.size (.cells #[.int .i64 t2, .int .i32 n2] kT)
  have c2 := c1.alloc c1.size (.cells #[.int .i64 0, .int .i32 0] kT)
  have BA := Lib.hid c2
  have P0 := Lib.hid (((Whole.made w kT #[.int .i64 t1, .int .i32 n1] (w.heap.size) (by simp)).alloc (.cells #[.int .i64 t2, .int .i32 n2] kT)).alloc (.cells #[.int .i64 0, .int .i32 0] kT))
  have P1 := Lib.hid ((Whole.made (w.alloc (.cells #[.int .i64 t1, .int .i32 n1] kT)) kT #[.int .i64 t2, .int .i32 n2] (w.heap.size + 1) (by simp)).alloc (.cells #[.int .i64 0, .int .i32 0] kT))
  have G := Lib.hid (Whole.made ((w.alloc (.cells #[.int .i64 t1, .int .i32 n1] kT)).alloc (.cells #[.int .i64 t2, .int .i32 n2] kT)) kT #[.int .i64 0, .int .i32 0] (w.heap.size + 2) (by simp))
  clear c0 c1 c2
  show Calls _ _ _ _ fun e w' => e = .returned (kR (reckonP t1 t2 (reckP 3 n1 n2))) ∧ _
  generalize reckonP t1 t2 (reckP 3 n1 n2) = r at *
  unfold kR at *
  go_enter Try.func9, Try.ntmps9
  go_wp2_with fail
  generalize (((w.alloc (.cells #[.int .i64 t1, .int .i32 n1] kT)).alloc (.cells #[.int .i64 t2, .int .i32 n2] kT)).alloc (.cells #[.int .i64 0, .int .i32 0] kT)) = V at *
  refine (CR.out _).mono ?_
  rintro e y1 ⟨rfl, hb⟩
  have B1 := Lib.hid (BA.out.trans (hb.mono BA.out.size))
  have P01 := Lib.hid (P0.out.below hb P0.out.lt)
  have P11 := Lib.hid (P1.out.below hb P1.out.lt)
  have G1 := Lib.hid (G.out.below hb G.out.lt)
  clear hb
  have g0 : y1.cell? ⟨w.heap.size + 2, 0, none⟩ = some (.int .i64 0) := G1.out.cell 0
  have g1 : y1.cell? ⟨w.heap.size + 2, 1, none⟩ = some (.int .i32 0) := G1.out.cell 1
  have f0 := G1.out.free 0
  have f1 := G1.out.free 1
  have H := Lib.hid ((G1.out.store 0 (.int .i64 r.t)).store 1 (.int .i32 r.n))
  have HB := Lib.hid ((B1.out.setCell (p := ⟨w.heap.size + 2, 0, none⟩) (show w.heap.size ≤ w.heap.size + 2 by omega) (.int .i64 r.t)).setCell (p := ⟨w.heap.size + 2, 1, none⟩) (show w.heap.size ≤ w.heap.size + 2 by omega) (.int .i32 r.n))
  go_wp2_with fail
  have q0 := H.out.cell 0
  have q1 := H.out.cell 1
  refine bodyPost_ret (v := .tuple #[.agg #[.int .i64 r.t, .int .i32 r.n], .int .i64 r.e]) ?_ rfl ⟨rfl, HB.out⟩
  simp [results, Try.results9, go_sem, q0, q1]

set_option maxHeartbeats 8000000 in
set_option maxRecDepth 100000 in
theorem two_4 (t1 n1 t2 n2 : Int) (w : World) (n0 : -2147483648 ≤ n1) (n3 : n1 ≤ 2147483647) : Calls Try.prog 9 #[.string ⟨#[77, 79, 68]⟩, .agg #[.int .i64 t1, .int .i32 n1], .agg #[.int .i64 t2, .int .i32 n2]] w fun e w' => e = .returned (kR (twoP 4 t1 n1 t2 n2)) ∧ Below w.heap.size w w' := by
  have CR := Lib.hid (fun y => reckon_any ⟨#[77, 79, 68]⟩ (reckP 4 n1 n2) t1 n1 t2 n2 y (fun z => reckoned_4 n1 n2 z n0 n3))
  clear n0 n3
  have c0 := (Below.refl w.heap.size w).alloc (Nat.le_refl _) (.cells #[.int .i64 t1, .int .i32 n1] kT)
  have c1 := c0.alloc c0.size (.cells #[.int .i64 t2, .int .i32 n2] kT)
  have c2 := c1.alloc c1.size (.cells #[.int .i64 0, .int .i32 0] kT)
  have BA := Lib.hid c2
  have P0 := Lib.hid (((Whole.made w kT #[.int .i64 t1, .int .i32 n1] (w.heap.size) (by simp)).alloc (.cells #[.int .i64 t2, .int .i32 n2] kT)).alloc (.cells #[.int .i64 0, .int .i32 0] kT))
  have P1 := Lib.hid ((Whole.made (w.alloc (.cells #[.int .i64 t1, .int .i32 n1] kT)) kT #[.int .i64 t2, .int .i32 n2] (w.heap.size + 1) (by simp)).alloc (.cells #[.int .i64 0, .int .i32 0] kT))
  have G := Lib.hid (Whole.made ((w.alloc (.cells #[.int .i64 t1, .int .i32 n1] kT)).alloc (.cells #[.int .i64 t2, .int .i32 n2] kT)) kT #[.int .i64 0, .int .i32 0] (w.heap.size + 2) (by simp))
  clear c0 c1 c2
  show Calls _ _ _ _ fun e w' => e = .returned (kR (reckonP t1 t2 (reckP 4 n1 n2))) ∧ _
  generalize reckonP t1 t2 (reckP 4 n1 n2) = r at *
  unfold kR at *
  go_enter Try.func9, Try.ntmps9
  go_wp2_with fail
  generalize (((w.alloc (.cells #[.int .i64 t1, .int .i32 n1] kT)).alloc (.cells #[.int .i64 t2, .int .i32 n2] kT)).alloc (.cells #[.int .i64 0, .int .i32 0] kT)) = V at *
  refine (CR.out _).mono ?_
  rintro e y1 ⟨rfl, hb⟩
  have B1 := Lib.hid (BA.out.trans (hb.mono BA.out.size))
  have P01 := Lib.hid (P0.out.below hb P0.out.lt)
  have P11 := Lib.hid (P1.out.below hb P1.out.lt)
  have G1 := Lib.hid (G.out.below hb G.out.lt)
  clear hb
  have g0 : y1.cell? ⟨w.heap.size + 2, 0, none⟩ = some (.int .i64 0) := G1.out.cell 0
  have g1 : y1.cell? ⟨w.heap.size + 2, 1, none⟩ = some (.int .i32 0) := G1.out.cell 1
  have f0 := G1.out.free 0
  have f1 := G1.out.free 1
  have H := Lib.hid ((G1.out.store 0 (.int .i64 r.t)).store 1 (.int .i32 r.n))
  have HB := Lib.hid ((B1.out.setCell (p := ⟨w.heap.size + 2, 0, none⟩) (show w.heap.size ≤ w.heap.size + 2 by omega) (.int .i64 r.t)).setCell (p := ⟨w.heap.size + 2, 1, none⟩) (show w.heap.size ≤ w.heap.size + 2 by omega) (.int .i32 r.n))
  go_wp2_with fail
  have q0 := H.out.cell 0
  have q1 := H.out.cell 1
  refine bodyPost_ret (v := .tuple #[.agg #[.int .i64 r.t, .int .i32 r.n], .int .i64 r.e]) ?_ rfl ⟨rfl, HB.out⟩
  simp [results, Try.results9, go_sem, q0, q1]

set_option maxHeartbeats 8000000 in
set_option maxRecDepth 100000 in
theorem two_5 (t1 n1 t2 n2 : Int) (w : World) (n0 : -2147483648 ≤ n1) (n3 : n1 ≤ 2147483647) : Calls Try.prog 9 #[.string ⟨#[65, 78, 68]⟩, .agg #[.int .i64 t1, .int .i32 n1], .agg #[.int .i64 t2, .int .i32 n2]] w fun e w' => e = .returned (kR (twoP 5 t1 n1 t2 n2)) ∧ Below w.heap.size w w' := by
  have CR := Lib.hid (fun y => join_true ⟨#[65, 78, 68]⟩ t1 n1 t2 n2 y (by decide +kernel))
  clear n0 n3
  have c0 := (Below.refl w.heap.size w).alloc (Nat.le_refl _) (.cells #[.int .i64 t1, .int .i32 n1] kT)
  have c1 := c0.alloc c0.size (.cells #[.int .i64 t2, .int .i32 n2] kT)
  have c2 := c1.alloc c1.size (.cells #[.int .i64 0, .int .i32 0] kT)
  have BA := Lib.hid c2
  have P0 := Lib.hid (((Whole.made w kT #[.int .i64 t1, .int .i32 n1] (w.heap.size) (by simp)).alloc (.cells #[.int .i64 t2, .int .i32 n2] kT)).alloc (.cells #[.int .i64 0, .int .i32 0] kT))
  have P1 := Lib.hid ((Whole.made (w.alloc (.cells #[.int .i64 t1, .int .i32 n1] kT)) kT #[.int .i64 t2, .int .i32 n2] (w.heap.size + 1) (by simp)).alloc (.cells #[.int .i64 0, .int .i32 0] kT))
  have G := Lib.hid (Whole.made ((w.alloc (.cells #[.int .i64 t1, .int .i32 n1] kT)).alloc (.cells #[.int .i64 t2, .int .i32 n2] kT)) kT #[.int .i64 0, .int .i32 0] (w.heap.size + 2) (by simp))
  clear c0 c1 c2
  show Calls _ _ _ _ fun e w' => e = .returned (kR (joinP true t1 n1 t2 n2)) ∧ _
  generalize joinP true t1 n1 t2 n2 = r at *
  unfold kR at *
  go_enter Try.func9, Try.ntmps9
  go_wp2_with fail
  generalize (((w.alloc (.cells #[.int .i64 t1, .int .i32 n1] kT)).alloc (.cells #[.int .i64 t2, .int .i32 n2] kT)).alloc (.cells #[.int .i64 0, .int .i32 0] kT)) = V at *
  refine (CR.out _).mono ?_
  rintro e y1 ⟨rfl, hb⟩
  have B1 := Lib.hid (BA.out.trans (hb.mono BA.out.size))
  have P01 := Lib.hid (P0.out.below hb P0.out.lt)
  have P11 := Lib.hid (P1.out.below hb P1.out.lt)
  have G1 := Lib.hid (G.out.below hb G.out.lt)
  clear hb
  have g0 : y1.cell? ⟨w.heap.size + 2, 0, none⟩ = some (.int .i64 0) := G1.out.cell 0
  have g1 : y1.cell? ⟨w.heap.size + 2, 1, none⟩ = some (.int .i32 0) := G1.out.cell 1
  have f0 := G1.out.free 0
  have f1 := G1.out.free 1
  have H := Lib.hid ((G1.out.store 0 (.int .i64 r.t)).store 1 (.int .i32 r.n))
  have HB := Lib.hid ((B1.out.setCell (p := ⟨w.heap.size + 2, 0, none⟩) (show w.heap.size ≤ w.heap.size + 2 by omega) (.int .i64 r.t)).setCell (p := ⟨w.heap.size + 2, 1, none⟩) (show w.heap.size ≤ w.heap.size + 2 by omega) (.int .i32 r.n))
  go_wp2_with fail
  have q0 := H.out.cell 0
  have q1 := H.out.cell 1
  refine bodyPost_ret (v := .tuple #[.agg #[.int .i64 r.t, .int .i32 r.n], .int .i64 r.e]) ?_ rfl ⟨rfl, HB.out⟩
  simp [results, Try.results9, go_sem, q0, q1]

set_option maxHeartbeats 8000000 in
set_option maxRecDepth 100000 in
theorem two_6 (t1 n1 t2 n2 : Int) (w : World) (n0 : -2147483648 ≤ n1) (n3 : n1 ≤ 2147483647) : Calls Try.prog 9 #[.string ⟨#[79, 82]⟩, .agg #[.int .i64 t1, .int .i32 n1], .agg #[.int .i64 t2, .int .i32 n2]] w fun e w' => e = .returned (kR (twoP 6 t1 n1 t2 n2)) ∧ Below w.heap.size w w' := by
  have CR := Lib.hid (fun y => join_false ⟨#[79, 82]⟩ t1 n1 t2 n2 y (by decide +kernel))
  clear n0 n3
  have c0 := (Below.refl w.heap.size w).alloc (Nat.le_refl _) (.cells #[.int .i64 t1, .int .i32 n1] kT)
  have c1 := c0.alloc c0.size (.cells #[.int .i64 t2, .int .i32 n2] kT)
  have c2 := c1.alloc c1.size (.cells #[.int .i64 0, .int .i32 0] kT)
  have BA := Lib.hid c2
  have P0 := Lib.hid (((Whole.made w kT #[.int .i64 t1, .int .i32 n1] (w.heap.size) (by simp)).alloc (.cells #[.int .i64 t2, .int .i32 n2] kT)).alloc (.cells #[.int .i64 0, .int .i32 0] kT))
  have P1 := Lib.hid ((Whole.made (w.alloc (.cells #[.int .i64 t1, .int .i32 n1] kT)) kT #[.int .i64 t2, .int .i32 n2] (w.heap.size + 1) (by simp)).alloc (.cells #[.int .i64 0, .int .i32 0] kT))
  have G := Lib.hid (Whole.made ((w.alloc (.cells #[.int .i64 t1, .int .i32 n1] kT)).alloc (.cells #[.int .i64 t2, .int .i32 n2] kT)) kT #[.int .i64 0, .int .i32 0] (w.heap.size + 2) (by simp))
  clear c0 c1 c2
  show Calls _ _ _ _ fun e w' => e = .returned (kR (joinP false t1 n1 t2 n2)) ∧ _
  generalize joinP false t1 n1 t2 n2 = r at *
  unfold kR at *
  go_enter Try.func9, Try.ntmps9
  go_wp2_with fail
  generalize (((w.alloc (.cells #[.int .i64 t1, .int .i32 n1] kT)).alloc (.cells #[.int .i64 t2, .int .i32 n2] kT)).alloc (.cells #[.int .i64 0, .int .i32 0] kT)) = V at *
  refine (CR.out _).mono ?_
  rintro e y1 ⟨rfl, hb⟩
  have B1 := Lib.hid (BA.out.trans (hb.mono BA.out.size))
  have P01 := Lib.hid (P0.out.below hb P0.out.lt)
  have P11 := Lib.hid (P1.out.below hb P1.out.lt)
  have G1 := Lib.hid (G.out.below hb G.out.lt)
  clear hb
  have g0 : y1.cell? ⟨w.heap.size + 2, 0, none⟩ = some (.int .i64 0) := G1.out.cell 0
  have g1 : y1.cell? ⟨w.heap.size + 2, 1, none⟩ = some (.int .i32 0) := G1.out.cell 1
  have f0 := G1.out.free 0
  have f1 := G1.out.free 1
  have H := Lib.hid ((G1.out.store 0 (.int .i64 r.t)).store 1 (.int .i32 r.n))
  have HB := Lib.hid ((B1.out.setCell (p := ⟨w.heap.size + 2, 0, none⟩) (show w.heap.size ≤ w.heap.size + 2 by omega) (.int .i64 r.t)).setCell (p := ⟨w.heap.size + 2, 1, none⟩) (show w.heap.size ≤ w.heap.size + 2 by omega) (.int .i32 r.n))
  go_wp2_with fail
  have q0 := H.out.cell 0
  have q1 := H.out.cell 1
  refine bodyPost_ret (v := .tuple #[.agg #[.int .i64 r.t, .int .i32 r.n], .int .i64 r.e]) ?_ rfl ⟨rfl, HB.out⟩
  simp [results, Try.results9, go_sem, q0, q1]

set_option maxHeartbeats 8000000 in
set_option maxRecDepth 100000 in
theorem two_7 (t1 n1 t2 n2 : Int) (w : World) (n0 : -2147483648 ≤ n1) (n3 : n1 ≤ 2147483647) : Calls Try.prog 9 #[.string ⟨#[61]⟩, .agg #[.int .i64 t1, .int .i32 n1], .agg #[.int .i64 t2, .int .i32 n2]] w fun e w' => e = .returned (kR (twoP 7 t1 n1 t2 n2)) ∧ Below w.heap.size w w' := by
  have CR := Lib.hid (fun y => compare_7 t1 n1 t2 n2 y n0 n3)
  clear n0 n3
  have c0 := (Below.refl w.heap.size w).alloc (Nat.le_refl _) (.cells #[.int .i64 t1, .int .i32 n1] kT)
  have c1 := c0.alloc c0.size (.cells #[.int .i64 t2, .int .i32 n2] kT)
  have c2 := c1.alloc c1.size (.cells #[.int .i64 0, .int .i32 0] kT)
  have BA := Lib.hid c2
  have P0 := Lib.hid (((Whole.made w kT #[.int .i64 t1, .int .i32 n1] (w.heap.size) (by simp)).alloc (.cells #[.int .i64 t2, .int .i32 n2] kT)).alloc (.cells #[.int .i64 0, .int .i32 0] kT))
  have P1 := Lib.hid ((Whole.made (w.alloc (.cells #[.int .i64 t1, .int .i32 n1] kT)) kT #[.int .i64 t2, .int .i32 n2] (w.heap.size + 1) (by simp)).alloc (.cells #[.int .i64 0, .int .i32 0] kT))
  have G := Lib.hid (Whole.made ((w.alloc (.cells #[.int .i64 t1, .int .i32 n1] kT)).alloc (.cells #[.int .i64 t2, .int .i32 n2] kT)) kT #[.int .i64 0, .int .i32 0] (w.heap.size + 2) (by simp))
  clear c0 c1 c2
  show Calls _ _ _ _ fun e w' => e = .returned (kR (compareP 7 t1 n1 t2 n2)) ∧ _
  generalize compareP 7 t1 n1 t2 n2 = r at *
  unfold kR at *
  go_enter Try.func9, Try.ntmps9
  go_wp2_with fail
  generalize (((w.alloc (.cells #[.int .i64 t1, .int .i32 n1] kT)).alloc (.cells #[.int .i64 t2, .int .i32 n2] kT)).alloc (.cells #[.int .i64 0, .int .i32 0] kT)) = V at *
  refine (CR.out _).mono ?_
  rintro e y1 ⟨rfl, hb⟩
  have B1 := Lib.hid (BA.out.trans (hb.mono BA.out.size))
  have P01 := Lib.hid (P0.out.below hb P0.out.lt)
  have P11 := Lib.hid (P1.out.below hb P1.out.lt)
  have G1 := Lib.hid (G.out.below hb G.out.lt)
  clear hb
  have g0 : y1.cell? ⟨w.heap.size + 2, 0, none⟩ = some (.int .i64 0) := G1.out.cell 0
  have g1 : y1.cell? ⟨w.heap.size + 2, 1, none⟩ = some (.int .i32 0) := G1.out.cell 1
  have f0 := G1.out.free 0
  have f1 := G1.out.free 1
  have H := Lib.hid ((G1.out.store 0 (.int .i64 r.t)).store 1 (.int .i32 r.n))
  have HB := Lib.hid ((B1.out.setCell (p := ⟨w.heap.size + 2, 0, none⟩) (show w.heap.size ≤ w.heap.size + 2 by omega) (.int .i64 r.t)).setCell (p := ⟨w.heap.size + 2, 1, none⟩) (show w.heap.size ≤ w.heap.size + 2 by omega) (.int .i32 r.n))
  go_wp2_with fail
  have q0 := H.out.cell 0
  have q1 := H.out.cell 1
  refine bodyPost_ret (v := .tuple #[.agg #[.int .i64 r.t, .int .i32 r.n], .int .i64 r.e]) ?_ rfl ⟨rfl, HB.out⟩
  simp [results, Try.results9, go_sem, q0, q1]

set_option maxHeartbeats 8000000 in
set_option maxRecDepth 100000 in
theorem two_8 (t1 n1 t2 n2 : Int) (w : World) (n0 : -2147483648 ≤ n1) (n3 : n1 ≤ 2147483647) : Calls Try.prog 9 #[.string ⟨#[35]⟩, .agg #[.int .i64 t1, .int .i32 n1], .agg #[.int .i64 t2, .int .i32 n2]] w fun e w' => e = .returned (kR (twoP 8 t1 n1 t2 n2)) ∧ Below w.heap.size w w' := by
  have CR := Lib.hid (fun y => compare_8 t1 n1 t2 n2 y n0 n3)
  clear n0 n3
  have c0 := (Below.refl w.heap.size w).alloc (Nat.le_refl _) (.cells #[.int .i64 t1, .int .i32 n1] kT)
  have c1 := c0.alloc c0.size (.cells #[.int .i64 t2, .int .i32 n2] kT)
  have c2 := c1.alloc c1.size (.cells #[.int .i64 0, .int .i32 0] kT)
  have BA := Lib.hid c2
  have P0 := Lib.hid (((Whole.made w kT #[.int .i64 t1, .int .i32 n1] (w.heap.size) (by simp)).alloc (.cells #[.int .i64 t2, .int .i32 n2] kT)).alloc (.cells #[.int .i64 0, .int .i32 0] kT))
  have P1 := Lib.hid ((Whole.made (w.alloc (.cells #[.int .i64 t1, .int .i32 n1] kT)) kT #[.int .i64 t2, .int .i32 n2] (w.heap.size + 1) (by simp)).alloc (.cells #[.int .i64 0, .int .i32 0] kT))
  have G := Lib.hid (Whole.made ((w.alloc (.cells #[.int .i64 t1, .int .i32 n1] kT)).alloc (.cells #[.int .i64 t2, .int .i32 n2] kT)) kT #[.int .i64 0, .int .i32 0] (w.heap.size + 2) (by simp))
  clear c0 c1 c2
  show Calls _ _ _ _ fun e w' => e = .returned (kR (compareP 8 t1 n1 t2 n2)) ∧ _
  generalize compareP 8 t1 n1 t2 n2 = r at *
  unfold kR at *
  go_enter Try.func9, Try.ntmps9
  go_wp2_with fail
  generalize (((w.alloc (.cells #[.int .i64 t1, .int .i32 n1] kT)).alloc (.cells #[.int .i64 t2, .int .i32 n2] kT)).alloc (.cells #[.int .i64 0, .int .i32 0] kT)) = V at *
  refine (CR.out _).mono ?_
  rintro e y1 ⟨rfl, hb⟩
  have B1 := Lib.hid (BA.out.trans (hb.mono BA.out.size))
  have P01 := Lib.hid (P0.out.below hb P0.out.lt)
  have P11 := Lib.hid (P1.out.below hb P1.out.lt)
  have G1 := Lib.hid (G.out.below hb G.out.lt)
  clear hb
  have g0 : y1.cell? ⟨w.heap.size + 2, 0, none⟩ = some (.int .i64 0) := G1.out.cell 0
  have g1 : y1.cell? ⟨w.heap.size + 2, 1, none⟩ = some (.int .i32 0) := G1.out.cell 1
  have f0 := G1.out.free 0
  have f1 := G1.out.free 1
  have H := Lib.hid ((G1.out.store 0 (.int .i64 r.t)).store 1 (.int .i32 r.n))
  have HB := Lib.hid ((B1.out.setCell (p := ⟨w.heap.size + 2, 0, none⟩) (show w.heap.size ≤ w.heap.size + 2 by omega) (.int .i64 r.t)).setCell (p := ⟨w.heap.size + 2, 1, none⟩) (show w.heap.size ≤ w.heap.size + 2 by omega) (.int .i32 r.n))
  go_wp2_with fail
  have q0 := H.out.cell 0
  have q1 := H.out.cell 1
  refine bodyPost_ret (v := .tuple #[.agg #[.int .i64 r.t, .int .i32 r.n], .int .i64 r.e]) ?_ rfl ⟨rfl, HB.out⟩
  simp [results, Try.results9, go_sem, q0, q1]

set_option maxHeartbeats 8000000 in
set_option maxRecDepth 100000 in
theorem two_9 (t1 n1 t2 n2 : Int) (w : World) (n0 : -2147483648 ≤ n1) (n3 : n1 ≤ 2147483647) : Calls Try.prog 9 #[.string ⟨#[60]⟩, .agg #[.int .i64 t1, .int .i32 n1], .agg #[.int .i64 t2, .int .i32 n2]] w fun e w' => e = .returned (kR (twoP 9 t1 n1 t2 n2)) ∧ Below w.heap.size w w' := by
  have CR := Lib.hid (fun y => compare_9 t1 n1 t2 n2 y n0 n3)
  clear n0 n3
  have c0 := (Below.refl w.heap.size w).alloc (Nat.le_refl _) (.cells #[.int .i64 t1, .int .i32 n1] kT)
  have c1 := c0.alloc c0.size (.cells #[.int .i64 t2, .int .i32 n2] kT)
  have c2 := c1.alloc c1.size (.cells #[.int .i64 0, .int .i32 0] kT)
  have BA := Lib.hid c2
  have P0 := Lib.hid (((Whole.made w kT #[.int .i64 t1, .int .i32 n1] (w.heap.size) (by simp)).alloc (.cells #[.int .i64 t2, .int .i32 n2] kT)).alloc (.cells #[.int .i64 0, .int .i32 0] kT))
  have P1 := Lib.hid ((Whole.made (w.alloc (.cells #[.int .i64 t1, .int .i32 n1] kT)) kT #[.int .i64 t2, .int .i32 n2] (w.heap.size + 1) (by simp)).alloc (.cells #[.int .i64 0, .int .i32 0] kT))
  have G := Lib.hid (Whole.made ((w.alloc (.cells #[.int .i64 t1, .int .i32 n1] kT)).alloc (.cells #[.int .i64 t2, .int .i32 n2] kT)) kT #[.int .i64 0, .int .i32 0] (w.heap.size + 2) (by simp))
  clear c0 c1 c2
  show Calls _ _ _ _ fun e w' => e = .returned (kR (compareP 9 t1 n1 t2 n2)) ∧ _
  generalize compareP 9 t1 n1 t2 n2 = r at *
  unfold kR at *
  go_enter Try.func9, Try.ntmps9
  go_wp2_with fail
  generalize (((w.alloc (.cells #[.int .i64 t1, .int .i32 n1] kT)).alloc (.cells #[.int .i64 t2, .int .i32 n2] kT)).alloc (.cells #[.int .i64 0, .int .i32 0] kT)) = V at *
  refine (CR.out _).mono ?_
  rintro e y1 ⟨rfl, hb⟩
  have B1 := Lib.hid (BA.out.trans (hb.mono BA.out.size))
  have P01 := Lib.hid (P0.out.below hb P0.out.lt)
  have P11 := Lib.hid (P1.out.below hb P1.out.lt)
  have G1 := Lib.hid (G.out.below hb G.out.lt)
  clear hb
  have g0 : y1.cell? ⟨w.heap.size + 2, 0, none⟩ = some (.int .i64 0) := G1.out.cell 0
  have g1 : y1.cell? ⟨w.heap.size + 2, 1, none⟩ = some (.int .i32 0) := G1.out.cell 1
  have f0 := G1.out.free 0
  have f1 := G1.out.free 1
  have H := Lib.hid ((G1.out.store 0 (.int .i64 r.t)).store 1 (.int .i32 r.n))
  have HB := Lib.hid ((B1.out.setCell (p := ⟨w.heap.size + 2, 0, none⟩) (show w.heap.size ≤ w.heap.size + 2 by omega) (.int .i64 r.t)).setCell (p := ⟨w.heap.size + 2, 1, none⟩) (show w.heap.size ≤ w.heap.size + 2 by omega) (.int .i32 r.n))
  go_wp2_with fail
  have q0 := H.out.cell 0
  have q1 := H.out.cell 1
  refine bodyPost_ret (v := .tuple #[.agg #[.int .i64 r.t, .int .i32 r.n], .int .i64 r.e]) ?_ rfl ⟨rfl, HB.out⟩
  simp [results, Try.results9, go_sem, q0, q1]

set_option maxHeartbeats 8000000 in
set_option maxRecDepth 100000 in
theorem two_10 (t1 n1 t2 n2 : Int) (w : World) (n0 : -2147483648 ≤ n1) (n3 : n1 ≤ 2147483647) : Calls Try.prog 9 #[.string ⟨#[60, 61]⟩, .agg #[.int .i64 t1, .int .i32 n1], .agg #[.int .i64 t2, .int .i32 n2]] w fun e w' => e = .returned (kR (twoP 10 t1 n1 t2 n2)) ∧ Below w.heap.size w w' := by
  have CR := Lib.hid (fun y => compare_10 t1 n1 t2 n2 y n0 n3)
  clear n0 n3
  have c0 := (Below.refl w.heap.size w).alloc (Nat.le_refl _) (.cells #[.int .i64 t1, .int .i32 n1] kT)
  have c1 := c0.alloc c0.size (.cells #[.int .i64 t2, .int .i32 n2] kT)
  have c2 := c1.alloc c1.size (.cells #[.int .i64 0, .int .i32 0] kT)
  have BA := Lib.hid c2
  have P0 := Lib.hid (((Whole.made w kT #[.int .i64 t1, .int .i32 n1] (w.heap.size) (by simp)).alloc (.cells #[.int .i64 t2, .int .i32 n2] kT)).alloc (.cells #[.int .i64 0, .int .i32 0] kT))
  have P1 := Lib.hid ((Whole.made (w.alloc (.cells #[.int .i64 t1, .int .i32 n1] kT)) kT #[.int .i64 t2, .int .i32 n2] (w.heap.size + 1) (by simp)).alloc (.cells #[.int .i64 0, .int .i32 0] kT))
  have G := Lib.hid (Whole.made ((w.alloc (.cells #[.int .i64 t1, .int .i32 n1] kT)).alloc (.cells #[.int .i64 t2, .int .i32 n2] kT)) kT #[.int .i64 0, .int .i32 0] (w.heap.size + 2) (by simp))
  clear c0 c1 c2
  show Calls _ _ _ _ fun e w' => e = .returned (kR (compareP 10 t1 n1 t2 n2)) ∧ _
  generalize compareP 10 t1 n1 t2 n2 = r at *
  unfold kR at *
  go_enter Try.func9, Try.ntmps9
  go_wp2_with fail
  generalize (((w.alloc (.cells #[.int .i64 t1, .int .i32 n1] kT)).alloc (.cells #[.int .i64 t2, .int .i32 n2] kT)).alloc (.cells #[.int .i64 0, .int .i32 0] kT)) = V at *
  refine (CR.out _).mono ?_
  rintro e y1 ⟨rfl, hb⟩
  have B1 := Lib.hid (BA.out.trans (hb.mono BA.out.size))
  have P01 := Lib.hid (P0.out.below hb P0.out.lt)
  have P11 := Lib.hid (P1.out.below hb P1.out.lt)
  have G1 := Lib.hid (G.out.below hb G.out.lt)
  clear hb
  have g0 : y1.cell? ⟨w.heap.size + 2, 0, none⟩ = some (.int .i64 0) := G1.out.cell 0
  have g1 : y1.cell? ⟨w.heap.size + 2, 1, none⟩ = some (.int .i32 0) := G1.out.cell 1
  have f0 := G1.out.free 0
  have f1 := G1.out.free 1
  have H := Lib.hid ((G1.out.store 0 (.int .i64 r.t)).store 1 (.int .i32 r.n))
  have HB := Lib.hid ((B1.out.setCell (p := ⟨w.heap.size + 2, 0, none⟩) (show w.heap.size ≤ w.heap.size + 2 by omega) (.int .i64 r.t)).setCell (p := ⟨w.heap.size + 2, 1, none⟩) (show w.heap.size ≤ w.heap.size + 2 by omega) (.int .i32 r.n))
  go_wp2_with fail
  have q0 := H.out.cell 0
  have q1 := H.out.cell 1
  refine bodyPost_ret (v := .tuple #[.agg #[.int .i64 r.t, .int .i32 r.n], .int .i64 r.e]) ?_ rfl ⟨rfl, HB.out⟩
  simp [results, Try.results9, go_sem, q0, q1]

set_option maxHeartbeats 8000000 in
set_option maxRecDepth 100000 in
theorem two_11 (t1 n1 t2 n2 : Int) (w : World) (n0 : -2147483648 ≤ n1) (n3 : n1 ≤ 2147483647) : Calls Try.prog 9 #[.string ⟨#[62]⟩, .agg #[.int .i64 t1, .int .i32 n1], .agg #[.int .i64 t2, .int .i32 n2]] w fun e w' => e = .returned (kR (twoP 11 t1 n1 t2 n2)) ∧ Below w.heap.size w w' := by
  have CR := Lib.hid (fun y => compare_11 t1 n1 t2 n2 y n0 n3)
  clear n0 n3
  have c0 := (Below.refl w.heap.size w).alloc (Nat.le_refl _) (.cells #[.int .i64 t1, .int .i32 n1] kT)
  have c1 := c0.alloc c0.size (.cells #[.int .i64 t2, .int .i32 n2] kT)
  have c2 := c1.alloc c1.size (.cells #[.int .i64 0, .int .i32 0] kT)
  have BA := Lib.hid c2
  have P0 := Lib.hid (((Whole.made w kT #[.int .i64 t1, .int .i32 n1] (w.heap.size) (by simp)).alloc (.cells #[.int .i64 t2, .int .i32 n2] kT)).alloc (.cells #[.int .i64 0, .int .i32 0] kT))
  have P1 := Lib.hid ((Whole.made (w.alloc (.cells #[.int .i64 t1, .int .i32 n1] kT)) kT #[.int .i64 t2, .int .i32 n2] (w.heap.size + 1) (by simp)).alloc (.cells #[.int .i64 0, .int .i32 0] kT))
  have G := Lib.hid (Whole.made ((w.alloc (.cells #[.int .i64 t1, .int .i32 n1] kT)).alloc (.cells #[.int .i64 t2, .int .i32 n2] kT)) kT #[.int .i64 0, .int .i32 0] (w.heap.size + 2) (by simp))
  clear c0 c1 c2
  show Calls _ _ _ _ fun e w' => e = .returned (kR (compareP 11 t1 n1 t2 n2)) ∧ _
  generalize compareP 11 t1 n1 t2 n2 = r at *
  unfold kR at *
  go_enter Try.func9, Try.ntmps9
  go_wp2_with fail
  generalize (((w.alloc (.cells #[.int .i64 t1, .int .i32 n1] kT)).alloc (.cells #[.int .i64 t2, .int .i32 n2] kT)).alloc (.cells #[.int .i64 0, .int .i32 0] kT)) = V at *
  refine (CR.out _).mono ?_
  rintro e y1 ⟨rfl, hb⟩
  have B1 := Lib.hid (BA.out.trans (hb.mono BA.out.size))
  have P01 := Lib.hid (P0.out.below hb P0.out.lt)
  have P11 := Lib.hid (P1.out.below hb P1.out.lt)
  have G1 := Lib.hid (G.out.below hb G.out.lt)
  clear hb
  have g0 : y1.cell? ⟨w.heap.size + 2, 0, none⟩ = some (.int .i64 0) := G1.out.cell 0
  have g1 : y1.cell? ⟨w.heap.size + 2, 1, none⟩ = some (.int .i32 0) := G1.out.cell 1
  have f0 := G1.out.free 0
  have f1 := G1.out.free 1
  have H := Lib.hid ((G1.out.store 0 (.int .i64 r.t)).store 1 (.int .i32 r.n))
  have HB := Lib.hid ((B1.out.setCell (p := ⟨w.heap.size + 2, 0, none⟩) (show w.heap.size ≤ w.heap.size + 2 by omega) (.int .i64 r.t)).setCell (p := ⟨w.heap.size + 2, 1, none⟩) (show w.heap.size ≤ w.heap.size + 2 by omega) (.int .i32 r.n))
  go_wp2_with fail
  have q0 := H.out.cell 0
  have q1 := H.out.cell 1
  refine bodyPost_ret (v := .tuple #[.agg #[.int .i64 r.t, .int .i32 r.n], .int .i64 r.e]) ?_ rfl ⟨rfl, HB.out⟩
  simp [results, Try.results9, go_sem, q0, q1]

set_option maxHeartbeats 8000000 in
set_option maxRecDepth 100000 in
theorem two_12 (t1 n1 t2 n2 : Int) (w : World) (n0 : -2147483648 ≤ n1) (n3 : n1 ≤ 2147483647) : Calls Try.prog 9 #[.string ⟨#[62, 61]⟩, .agg #[.int .i64 t1, .int .i32 n1], .agg #[.int .i64 t2, .int .i32 n2]] w fun e w' => e = .returned (kR (twoP 12 t1 n1 t2 n2)) ∧ Below w.heap.size w w' := by
  have CR := Lib.hid (fun y => compare_12 t1 n1 t2 n2 y n0 n3)
  clear n0 n3
  have c0 := (Below.refl w.heap.size w).alloc (Nat.le_refl _) (.cells #[.int .i64 t1, .int .i32 n1] kT)
  have c1 := c0.alloc c0.size (.cells #[.int .i64 t2, .int .i32 n2] kT)
  have c2 := c1.alloc c1.size (.cells #[.int .i64 0, .int .i32 0] kT)
  have BA := Lib.hid c2
  have P0 := Lib.hid (((Whole.made w kT #[.int .i64 t1, .int .i32 n1] (w.heap.size) (by simp)).alloc (.cells #[.int .i64 t2, .int .i32 n2] kT)).alloc (.cells #[.int .i64 0, .int .i32 0] kT))
  have P1 := Lib.hid ((Whole.made (w.alloc (.cells #[.int .i64 t1, .int .i32 n1] kT)) kT #[.int .i64 t2, .int .i32 n2] (w.heap.size + 1) (by simp)).alloc (.cells #[.int .i64 0, .int .i32 0] kT))
  have G := Lib.hid (Whole.made ((w.alloc (.cells #[.int .i64 t1, .int .i32 n1] kT)).alloc (.cells #[.int .i64 t2, .int .i32 n2] kT)) kT #[.int .i64 0, .int .i32 0] (w.heap.size + 2) (by simp))
  clear c0 c1 c2
  show Calls _ _ _ _ fun e w' => e = .returned (kR (compareP 12 t1 n1 t2 n2)) ∧ _
  generalize compareP 12 t1 n1 t2 n2 = r at *
  unfold kR at *
  go_enter Try.func9, Try.ntmps9
  go_wp2_with fail
  generalize (((w.alloc (.cells #[.int .i64 t1, .int .i32 n1] kT)).alloc (.cells #[.int .i64 t2, .int .i32 n2] kT)).alloc (.cells #[.int .i64 0, .int .i32 0] kT)) = V at *
  refine (CR.out _).mono ?_
  rintro e y1 ⟨rfl, hb⟩
  have B1 := Lib.hid (BA.out.trans (hb.mono BA.out.size))
  have P01 := Lib.hid (P0.out.below hb P0.out.lt)
  have P11 := Lib.hid (P1.out.below hb P1.out.lt)
  have G1 := Lib.hid (G.out.below hb G.out.lt)
  clear hb
  have g0 : y1.cell? ⟨w.heap.size + 2, 0, none⟩ = some (.int .i64 0) := G1.out.cell 0
  have g1 : y1.cell? ⟨w.heap.size + 2, 1, none⟩ = some (.int .i32 0) := G1.out.cell 1
  have f0 := G1.out.free 0
  have f1 := G1.out.free 1
  have H := Lib.hid ((G1.out.store 0 (.int .i64 r.t)).store 1 (.int .i32 r.n))
  have HB := Lib.hid ((B1.out.setCell (p := ⟨w.heap.size + 2, 0, none⟩) (show w.heap.size ≤ w.heap.size + 2 by omega) (.int .i64 r.t)).setCell (p := ⟨w.heap.size + 2, 1, none⟩) (show w.heap.size ≤ w.heap.size + 2 by omega) (.int .i32 r.n))
  go_wp2_with fail
  have q0 := H.out.cell 0
  have q1 := H.out.cell 1
  refine bodyPost_ret (v := .tuple #[.agg #[.int .i64 r.t, .int .i32 r.n], .int .i64 r.e]) ?_ rfl ⟨rfl, HB.out⟩
  simp [results, Try.results9, go_sem, q0, q1]

set_option maxHeartbeats 8000000 in
set_option maxRecDepth 100000 in
theorem two_none (s : ByteArray) (t1 n1 t2 n2 : Int) (w : World) (h0 : (s.toList == [43]) = false) (h1 : (s.toList == [45]) = false) (h2 : (s.toList == [42]) = false) (h3 : (s.toList == [68, 73, 86]) = false) (h4 : (s.toList == [77, 79, 68]) = false) (h5 : (s.toList == [65, 78, 68]) = false) (h6 : (s.toList == [79, 82]) = false) (h7 : (s.toList == [61]) = false) (h8 : (s.toList == [35]) = false) (h9 : (s.toList == [60]) = false) (h10 : (s.toList == [60, 61]) = false) (h11 : (s.toList == [62]) = false) (h12 : (s.toList == [62, 61]) = false) : Calls Try.prog 9 #[.string s, .agg #[.int .i64 t1, .int .i32 n1], .agg #[.int .i64 t2, .int .i32 n2]] w fun e w' => e = .returned (kR (twoP 13 t1 n1 t2 n2)) ∧ Below w.heap.size w w' := by
  have c0 := (Below.refl w.heap.size w).alloc (Nat.le_refl _) (.cells #[.int .i64 t1, .int .i32 n1] kT)
  have c1 := c0.alloc c0.size (.cells #[.int .i64 t2, .int .i32 n2] kT)
  have c2 := c1.alloc c1.size (.cells #[.int .i64 0, .int .i32 0] kT)
  have BA := Lib.hid c2
  have P0 := Lib.hid (((Whole.made w kT #[.int .i64 t1, .int .i32 n1] (w.heap.size) (by simp)).alloc (.cells #[.int .i64 t2, .int .i32 n2] kT)).alloc (.cells #[.int .i64 0, .int .i32 0] kT))
  have P1 := Lib.hid ((Whole.made (w.alloc (.cells #[.int .i64 t1, .int .i32 n1] kT)) kT #[.int .i64 t2, .int .i32 n2] (w.heap.size + 1) (by simp)).alloc (.cells #[.int .i64 0, .int .i32 0] kT))
  have G := Lib.hid (Whole.made ((w.alloc (.cells #[.int .i64 t1, .int .i32 n1] kT)).alloc (.cells #[.int .i64 t2, .int .i32 n2] kT)) kT #[.int .i64 0, .int .i32 0] (w.heap.size + 2) (by simp))
  clear c0 c1 c2
  go_enter Try.func9, Try.ntmps9
  go_wp2_with fail
  have q0 := G.out.cell 0
  have q1 := G.out.cell 1
  refine bodyPost_ret (v := .tuple #[.agg #[.int .i64 0, .int .i32 0], .int .i64 110]) ?_ rfl ⟨rfl, BA.out⟩
  simp [results, Try.results9, go_sem, q0, q1]

end Go.Proofs.Ytmgjnalijmplcaa
