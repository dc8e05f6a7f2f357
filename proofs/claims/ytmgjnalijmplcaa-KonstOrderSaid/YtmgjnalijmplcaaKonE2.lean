/- Konst: the program's compare. -/
import Derived.Test.YtmgjnalijmplcaaKonC
namespace Go.Proofs.Ytmgjnalijmplcaa
open Go.ChangeShapes Go.WideShapes Go.ChangeAt Go.RowKit
set_option linter.unusedVariables false
set_option linter.unusedSimpArgs false

set_option maxHeartbeats 8000000 in
set_option maxRecDepth 100000 in
theorem compare_9 (t1 n1 t2 n2 : Int) (w : World) (n0 : -2147483648 ≤ n1) (n3 : n1 ≤ 2147483647) : Calls Try.prog 20 #[.string ⟨#[60]⟩, .agg #[.int .i64 t1, .int .i32 n1], .agg #[.int .i64 t2, .int .i32 n2]] w fun e w' => e = .returned (kR (compareP 9 t1 n1 t2 n2)) ∧ Below w.heap.size w w' := by
  have RT := Lib.hid (fun y => right_any t1 n1 y n0 n3)
  clear n0 n3
  have c0 := (Below.refl w.heap.size w).alloc (Nat.le_refl _) (.cells #[.int .i64 t1, .int .i32 n1] kT)
  have c1 := c0.alloc c0.size (.cells #[.int .i64 t2, .int .i32 n2] kT)
  have c2 := c1.alloc c1.size (.cells #[.int .i64 0, .int .i32 0] kT)
  have BA := Lib.hid c2
  have P0 := Lib.hid (((Whole.made w kT #[.int .i64 t1, .int .i32 n1] (w.heap.size) (by simp)).alloc (.cells #[.int .i64 t2, .int .i32 n2] kT)).alloc (.cells #[.int .i64 0, .int .i32 0] kT))
  have P1 := Lib.hid ((Whole.made (w.alloc (.cells #[.int .i64 t1, .int .i32 n1] kT)) kT #[.int .i64 t2, .int .i32 n2] (w.heap.size + 1) (by simp)).alloc (.cells #[.int .i64 0, .int .i32 0] kT))
  have G := Lib.hid (Whole.made ((w.alloc (.cells #[.int .i64 t1, .int .i32 n1] kT)).alloc (.cells #[.int .i64 t2, .int .i32 n2] kT)) kT #[.int .i64 0, .int .i32 0] (w.heap.size + 2) (by simp))
  clear c0 c1 c2
  have TR := Lib.hid (fun y => truth_any (decide (n1 < n2)) y)
  show Calls _ _ _ _ fun e w' => e = .returned (kR (typedP (((t1 == t2) && rightB t1 n1) && (false || ((t1 == 1) || (t1 == 3)))) 2 (trP (decide (n1 < n2))))) ∧ _
  generalize trP (decide (n1 < n2)) = m at *
  generalize rightB t1 n1 = rb at *
  cases hq : (t1 == t2)
  case false =>
    cases h1 : (t1 == 1)
    case true =>
      have TY := Lib.hid (fun y => typed_any false 2 m y)
      show Calls _ _ _ _ fun e w' => e = .returned (kR (typedP false 2 m)) ∧ _
      generalize typedP false 2 m = r at *
      unfold kR at *
      go_enter Try.func20, Try.ntmps20
      go_wp2_with fail
      generalize (((w.alloc (.cells #[.int .i64 t1, .int .i32 n1] kT)).alloc (.cells #[.int .i64 t2, .int .i32 n2] kT)).alloc (.cells #[.int .i64 0, .int .i32 0] kT)) = V at *
      refine (TR.out _).mono ?_
      rintro e y2 ⟨rfl, hb⟩
      have B2 := Lib.hid (BA.out.trans (hb.mono BA.out.size))
      have P02 := Lib.hid (P0.out.below hb P0.out.lt)
      have P12 := Lib.hid (P1.out.below hb P1.out.lt)
      have G2 := Lib.hid (G.out.below hb G.out.lt)
      clear hb
      go_wp2_with fail
      refine (TY.out _).mono ?_
      rintro e y3 ⟨rfl, hb⟩
      have B3 := Lib.hid (B2.out.trans (hb.mono B2.out.size))
      have P03 := Lib.hid (P02.out.below hb P02.out.lt)
      have P13 := Lib.hid (P12.out.below hb P12.out.lt)
      have G3 := Lib.hid (G2.out.below hb G2.out.lt)
      clear hb
      have g0 : y3.cell? ⟨w.heap.size + 2, 0, none⟩ = some (.int .i64 0) := G3.out.cell 0
      have g1 : y3.cell? ⟨w.heap.size + 2, 1, none⟩ = some (.int .i32 0) := G3.out.cell 1
      have f0 := G3.out.free 0
      have f1 := G3.out.free 1
      have H := Lib.hid ((G3.out.store 0 (.int .i64 r.t)).store 1 (.int .i32 r.n))
      have HB := Lib.hid ((B3.out.setCell (p := ⟨w.heap.size + 2, 0, none⟩) (show w.heap.size ≤ w.heap.size + 2 by omega) (.int .i64 r.t)).setCell (p := ⟨w.heap.size + 2, 1, none⟩) (show w.heap.size ≤ w.heap.size + 2 by omega) (.int .i32 r.n))
      go_wp2_with fail
      have q0 := H.out.cell 0
      have q1 := H.out.cell 1
      refine bodyPost_ret (v := .tuple #[.agg #[.int .i64 r.t, .int .i32 r.n], .int .i64 r.e]) ?_ rfl ⟨rfl, HB.out⟩
      simp [results, Try.results20, go_sem, q0, q1]
    case false =>
      have TY := Lib.hid (fun y => typed_any false 2 m y)
      show Calls _ _ _ _ fun e w' => e = .returned (kR (typedP false 2 m)) ∧ _
      generalize typedP false 2 m = r at *
      unfold kR at *
      go_enter Try.func20, Try.ntmps20
      go_wp2_with fail
      generalize (((w.alloc (.cells #[.int .i64 t1, .int .i32 n1] kT)).alloc (.cells #[.int .i64 t2, .int .i32 n2] kT)).alloc (.cells #[.int .i64 0, .int .i32 0] kT)) = V at *
      refine (TR.out _).mono ?_
      rintro e y2 ⟨rfl, hb⟩
      have B2 := Lib.hid (BA.out.trans (hb.mono BA.out.size))
      have P02 := Lib.hid (P0.out.below hb P0.out.lt)
      have P12 := Lib.hid (P1.out.below hb P1.out.lt)
      have G2 := Lib.hid (G.out.below hb G.out.lt)
      clear hb
      go_wp2_with fail
      refine (TY.out _).mono ?_
      rintro e y3 ⟨rfl, hb⟩
      have B3 := Lib.hid (B2.out.trans (hb.mono B2.out.size))
      have P03 := Lib.hid (P02.out.below hb P02.out.lt)
      have P13 := Lib.hid (P12.out.below hb P12.out.lt)
      have G3 := Lib.hid (G2.out.below hb G2.out.lt)
      clear hb
      have g0 : y3.cell? ⟨w.heap.size + 2, 0, none⟩ = some (.int .i64 0) := G3.out.cell 0
      have g1 : y3.cell? ⟨w.heap.size + 2, 1, none⟩ = some (.int .i32 0) := G3.out.cell 1
      have f0 := G3.out.free 0
      have f1 := G3.out.free 1
      have H := Lib.hid ((G3.out.store 0 (.int .i64 r.t)).store 1 (.int .i32 r.n))
      have HB := Lib.hid ((B3.out.setCell (p := ⟨w.heap.size + 2, 0, none⟩) (show w.heap.size ≤ w.heap.size + 2 by omega) (.int .i64 r.t)).setCell (p := ⟨w.heap.size + 2, 1, none⟩) (show w.heap.size ≤ w.heap.size + 2 by omega) (.int .i32 r.n))
      go_wp2_with fail
      have q0 := H.out.cell 0
      have q1 := H.out.cell 1
      refine bodyPost_ret (v := .tuple #[.agg #[.int .i64 r.t, .int .i32 r.n], .int .i64 r.e]) ?_ rfl ⟨rfl, HB.out⟩
      simp [results, Try.results20, go_sem, q0, q1]
  case true =>
    cases h1 : (t1 == 1) <;> cases rb
    case true.true =>
      have TY := Lib.hid (fun y => typed_any true 2 m y)
      show Calls _ _ _ _ fun e w' => e = .returned (kR (typedP true 2 m)) ∧ _
      generalize typedP true 2 m = r at *
      unfold kR at *
      go_enter Try.func20, Try.ntmps20
      go_wp2_with fail
      generalize (((w.alloc (.cells #[.int .i64 t1, .int .i32 n1] kT)).alloc (.cells #[.int .i64 t2, .int .i32 n2] kT)).alloc (.cells #[.int .i64 0, .int .i32 0] kT)) = V at *
      refine (RT.out _).mono ?_
      rintro e y1 ⟨rfl, hb⟩
      have B1 := Lib.hid (BA.out.trans (hb.mono BA.out.size))
      have P01 := Lib.hid (P0.out.below hb P0.out.lt)
      have P11 := Lib.hid (P1.out.below hb P1.out.lt)
      have G1 := Lib.hid (G.out.below hb G.out.lt)
      clear hb
      have p00 : y1.cell? ⟨w.heap.size, 0, none⟩ = some (.int .i64 t1) := P01.out.cell 0
      have p01 : y1.cell? ⟨w.heap.size, 1, none⟩ = some (.int .i32 n1) := P01.out.cell 1
      have p10 : y1.cell? ⟨w.heap.size + 1, 0, none⟩ = some (.int .i64 t2) := P11.out.cell 0
      have p11 : y1.cell? ⟨w.heap.size + 1, 1, none⟩ = some (.int .i32 n2) := P11.out.cell 1
      go_wp2_with fail
      clear p00 p01 p10 p11
      refine (TR.out _).mono ?_
      rintro e y2 ⟨rfl, hb⟩
      have B2 := Lib.hid (B1.out.trans (hb.mono B1.out.size))
      have P02 := Lib.hid (P01.out.below hb P01.out.lt)
      have P12 := Lib.hid (P11.out.below hb P11.out.lt)
      have G2 := Lib.hid (G1.out.below hb G1.out.lt)
      clear hb
      go_wp2_with fail
      refine (TY.out _).mono ?_
      rintro e y3 ⟨rfl, hb⟩
      have B3 := Lib.hid (B2.out.trans (hb.mono B2.out.size))
      have P03 := Lib.hid (P02.out.below hb P02.out.lt)
      have P13 := Lib.hid (P12.out.below hb P12.out.lt)
      have G3 := Lib.hid (G2.out.below hb G2.out.lt)
      clear hb
      have g0 : y3.cell? ⟨w.heap.size + 2, 0, none⟩ = some (.int .i64 0) := G3.out.cell 0
      have g1 : y3.cell? ⟨w.heap.size + 2, 1, none⟩ = some (.int .i32 0) := G3.out.cell 1
      have f0 := G3.out.free 0
      have f1 := G3.out.free 1
      have H := Lib.hid ((G3.out.store 0 (.int .i64 r.t)).store 1 (.int .i32 r.n))
      have HB := Lib.hid ((B3.out.setCell (p := ⟨w.heap.size + 2, 0, none⟩) (show w.heap.size ≤ w.heap.size + 2 by omega) (.int .i64 r.t)).setCell (p := ⟨w.heap.size + 2, 1, none⟩) (show w.heap.size ≤ w.heap.size + 2 by omega) (.int .i32 r.n))
      go_wp2_with fail
      have q0 := H.out.cell 0
      have q1 := H.out.cell 1
      refine bodyPost_ret (v := .tuple #[.agg #[.int .i64 r.t, .int .i32 r.n], .int .i64 r.e]) ?_ rfl ⟨rfl, HB.out⟩
      simp [results, Try.results20, go_sem, q0, q1]
    case true.false =>
      have TY := Lib.hid (fun y => typed_any false 2 m y)
      show Calls _ _ _ _ fun e w' => e = .returned (kR (typedP false 2 m)) ∧ _
      generalize typedP false 2 m = r at *
      unfold kR at *
      go_enter Try.func20, Try.ntmps20
      go_wp2_with fail
      generalize (((w.alloc (.cells #[.int .i64 t1, .int .i32 n1] kT)).alloc (.cells #[.int .i64 t2, .int .i32 n2] kT)).alloc (.cells #[.int .i64 0, .int .i32 0] kT)) = V at *
      refine (RT.out _).mono ?_
      rintro e y1 ⟨rfl, hb⟩
      have B1 := Lib.hid (BA.out.trans (hb.mono BA.out.size))
      have P01 := Lib.hid (P0.out.below hb P0.out.lt)
      have P11 := Lib.hid (P1.out.below hb P1.out.lt)
      have G1 := Lib.hid (G.out.below hb G.out.lt)
      clear hb
      have p00 : y1.cell? ⟨w.heap.size, 0, none⟩ = some (.int .i64 t1) := P01.out.cell 0
      have p01 : y1.cell? ⟨w.heap.size, 1, none⟩ = some (.int .i32 n1) := P01.out.cell 1
      have p10 : y1.cell? ⟨w.heap.size + 1, 0, none⟩ = some (.int .i64 t2) := P11.out.cell 0
      have p11 : y1.cell? ⟨w.heap.size + 1, 1, none⟩ = some (.int .i32 n2) := P11.out.cell 1
      go_wp2_with fail
      clear p00 p01 p10 p11
      refine (TR.out _).mono ?_
      rintro e y2 ⟨rfl, hb⟩
      have B2 := Lib.hid (B1.out.trans (hb.mono B1.out.size))
      have P02 := Lib.hid (P01.out.below hb P01.out.lt)
      have P12 := Lib.hid (P11.out.below hb P11.out.lt)
      have G2 := Lib.hid (G1.out.below hb G1.out.lt)
      clear hb
      go_wp2_with fail
      refine (TY.out _).mono ?_
      rintro e y3 ⟨rfl, hb⟩
      have B3 := Lib.hid (B2.out.trans (hb.mono B2.out.size))
      have P03 := Lib.hid (P02.out.below hb P02.out.lt)
      have P13 := Lib.hid (P12.out.below hb P12.out.lt)
      have G3 := Lib.hid (G2.out.below hb G2.out.lt)
      clear hb
      have g0 : y3.cell? ⟨w.heap.size + 2, 0, none⟩ = some (.int .i64 0) := G3.out.cell 0
      have g1 : y3.cell? ⟨w.heap.size + 2, 1, none⟩ = some (.int .i32 0) := G3.out.cell 1
      have f0 := G3.out.free 0
      have f1 := G3.out.free 1
      have H := Lib.hid ((G3.out.store 0 (.int .i64 r.t)).store 1 (.int .i32 r.n))
      have HB := Lib.hid ((B3.out.setCell (p := ⟨w.heap.size + 2, 0, none⟩) (show w.heap.size ≤ w.heap.size + 2 by omega) (.int .i64 r.t)).setCell (p := ⟨w.heap.size + 2, 1, none⟩) (show w.heap.size ≤ w.heap.size + 2 by omega) (.int .i32 r.n))
      go_wp2_with fail
      have q0 := H.out.cell 0
      have q1 := H.out.cell 1
      refine bodyPost_ret (v := .tuple #[.agg #[.int .i64 r.t, .int .i32 r.n], .int .i64 r.e]) ?_ rfl ⟨rfl, HB.out⟩
      simp [results, Try.results20, go_sem, q0, q1]
    case false.true =>
      have TY := Lib.hid (fun y => typed_any (t1 == 3) 2 m y)
      simp only [Bool.true_and, Bool.false_or]
      generalize typedP (t1 == 3) 2 m = r at *
      unfold kR at *
      go_enter Try.func20, Try.ntmps20
      go_wp2_with fail
      generalize (((w.alloc (.cells #[.int .i64 t1, .int .i32 n1] kT)).alloc (.cells #[.int .i64 t2, .int .i32 n2] kT)).alloc (.cells #[.int .i64 0, .int .i32 0] kT)) = V at *
      refine (RT.out _).mono ?_
      rintro e y1 ⟨rfl, hb⟩
      have B1 := Lib.hid (BA.out.trans (hb.mono BA.out.size))
      have P01 := Lib.hid (P0.out.below hb P0.out.lt)
      have P11 := Lib.hid (P1.out.below hb P1.out.lt)
      have G1 := Lib.hid (G.out.below hb G.out.lt)
      clear hb
      have p00 : y1.cell? ⟨w.heap.size, 0, none⟩ = some (.int .i64 t1) := P01.out.cell 0
      have p01 : y1.cell? ⟨w.heap.size, 1, none⟩ = some (.int .i32 n1) := P01.out.cell 1
      have p10 : y1.cell? ⟨w.heap.size + 1, 0, none⟩ = some (.int .i64 t2) := P11.out.cell 0
      have p11 : y1.cell? ⟨w.heap.size + 1, 1, none⟩ = some (.int .i32 n2) := P11.out.cell 1
      go_wp2_with fail
      clear p00 p01 p10 p11
      refine (TR.out _).mono ?_
      rintro e y2 ⟨rfl, hb⟩
      have B2 := Lib.hid (B1.out.trans (hb.mono B1.out.size))
      have P02 := Lib.hid (P01.out.below hb P01.out.lt)
      have P12 := Lib.hid (P11.out.below hb P11.out.lt)
      have G2 := Lib.hid (G1.out.below hb G1.out.lt)
      clear hb
      go_wp2_with fail
      refine (TY.out _).mono ?_
      rintro e y3 ⟨rfl, hb⟩
      have B3 := Lib.hid (B2.out.trans (hb.mono B2.out.size))
      have P03 := Lib.hid (P02.out.below hb P02.out.lt)
      have P13 := Lib.hid (P12.out.below hb P12.out.lt)
      have G3 := Lib.hid (G2.out.below hb G2.out.lt)
      clear hb
      have g0 : y3.cell? ⟨w.heap.size + 2, 0, none⟩ = some (.int .i64 0) := G3.out.cell 0
      have g1 : y3.cell? ⟨w.heap.size + 2, 1, none⟩ = some (.int .i32 0) := G3.out.cell 1
      have f0 := G3.out.free 0
      have f1 := G3.out.free 1
      have H := Lib.hid ((G3.out.store 0 (.int .i64 r.t)).store 1 (.int .i32 r.n))
      have HB := Lib.hid ((B3.out.setCell (p := ⟨w.heap.size + 2, 0, none⟩) (show w.heap.size ≤ w.heap.size + 2 by omega) (.int .i64 r.t)).setCell (p := ⟨w.heap.size + 2, 1, none⟩) (show w.heap.size ≤ w.heap.size + 2 by omega) (.int .i32 r.n))
      go_wp2_with fail
      have q0 := H.out.cell 0
      have q1 := H.out.cell 1
      refine bodyPost_ret (v := .tuple #[.agg #[.int .i64 r.t, .int .i32 r.n], .int .i64 r.e]) ?_ rfl ⟨rfl, HB.out⟩
      simp [results, Try.results20, go_sem, q0, q1]
    case false.false =>
      have TY := Lib.hid (fun y => typed_any false 2 m y)
      show Calls _ _ _ _ fun e w' => e = .returned (kR (typedP false 2 m)) ∧ _
      generalize typedP false 2 m = r at *
      unfold kR at *
      go_enter Try.func20, Try.ntmps20
      go_wp2_with fail
      generalize (((w.alloc (.cells #[.int .i64 t1, .int .i32 n1] kT)).alloc (.cells #[.int .i64 t2, .int .i32 n2] kT)).alloc (.cells #[.int .i64 0, .int .i32 0] kT)) = V at *
      refine (RT.out _).mono ?_
      rintro e y1 ⟨rfl, hb⟩
      have B1 := Lib.hid (BA.out.trans (hb.mono BA.out.size))
      have P01 := Lib.hid (P0.out.below hb P0.out.lt)
      have P11 := Lib.hid (P1.out.below hb P1.out.lt)
      have G1 := Lib.hid (G.out.below hb G.out.lt)
      clear hb
      have p00 : y1.cell? ⟨w.heap.size, 0, none⟩ = some (.int .i64 t1) := P01.out.cell 0
      have p01 : y1.cell? ⟨w.heap.size, 1, none⟩ = some (.int .i32 n1) := P01.out.cell 1
      have p10 : y1.cell? ⟨w.heap.size + 1, 0, none⟩ = some (.int .i64 t2) := P11.out.cell 0
      have p11 : y1.cell? ⟨w.heap.size + 1, 1, none⟩ = some (.int .i32 n2) := P11.out.cell 1
      go_wp2_with fail
      clear p00 p01 p10 p11
      refine (TR.out _).mono ?_
      rintro e y2 ⟨rfl, hb⟩
      have B2 := Lib.hid (B1.out.trans (hb.mono B1.out.size))
      have P02 := Lib.hid (P01.out.below hb P01.out.lt)
      have P12 := Lib.hid (P11.out.below hb P11.out.lt)
      have G2 := Lib.hid (G1.out.below hb G1.out.lt)
      clear hb
      go_wp2_with fail
      refine (TY.out _).mono ?_
      rintro e y3 ⟨rfl, hb⟩
      have B3 := Lib.hid (B2.out.trans (hb.mono B2.out.size))
      have P03 := Lib.hid (P02.out.below hb P02.out.lt)
      have P13 := Lib.hid (P12.out.below hb P12.out.lt)
      have G3 := Lib.hid (G2.out.below hb G2.out.lt)
      clear hb
      have g0 : y3.cell? ⟨w.heap.size + 2, 0, none⟩ = some (.int .i64 0) := G3.out.cell 0
      have g1 : y3.cell? ⟨w.heap.size + 2, 1, none⟩ = some (.int .i32 0) := G3.out.cell 1
      have f0 := G3.out.free 0
      have f1 := G3.out.free 1
      have H := Lib.hid ((G3.out.store 0 (.int .i64 r.t)).store 1 (.int .i32 r.n))
      have HB := Lib.hid ((B3.out.setCell (p := ⟨w.heap.size + 2, 0, none⟩) (show w.heap.size ≤ w.heap.size + 2 by omega) (.int .i64 r.t)).setCell (p := ⟨w.heap.size + 2, 1, none⟩) (show w.heap.size ≤ w.heap.size + 2 by omega) (.int .i32 r.n))
      go_wp2_with fail
      have q0 := H.out.cell 0
      have q1 := H.out.cell 1
      refine bodyPost_ret (v := .tuple #[.agg #[.int .i64 r.t, .int .i32 r.n], .int .i64 r.e]) ?_ rfl ⟨rfl, HB.out⟩
      simp [results, Try.results20, go_sem, q0, q1]

set_option maxHeartbeats 8000000 in
set_option maxRecDepth 100000 in
theorem compare_10 (t1 n1 t2 n2 : Int) (w : World) (n0 : -2147483648 ≤ n1) (n3 : n1 ≤ 2147483647) : Calls Try.prog 20 #[.string ⟨#[60, 61]⟩, .agg #[.int .i64 t1, .int .i32 n1], .agg #[.int .i64 t2, .int .i32 n2]] w fun e w' => e = .returned (kR (compareP 10 t1 n1 t2 n2)) ∧ Below w.heap.size w w' := by
  have RT := Lib.hid (fun y => right_any t1 n1 y n0 n3)
  clear n0 n3
  have c0 := (Below.refl w.heap.size w).alloc (Nat.le_refl _) (.cells #[.int .i64 t1, .int .i32 n1] kT)
  have c1 := c0.alloc c0.size (.cells #[.int .i64 t2, .int .i32 n2] kT)
  have c2 := c1.alloc c1.size (.cells #[.int .i64 0, .int .i32 0] kT)
  have BA := Lib.hid c2
  have P0 := Lib.hid (((Whole.made w kT #[.int .i64 t1, .int .i32 n1] (w.heap.size) (by simp)).alloc (.cells #[.int .i64 t2, .int .i32 n2] kT)).alloc (.cells #[.int .i64 0, .int .i32 0] kT))
  have P1 := Lib.hid ((Whole.made (w.alloc (.cells #[.int .i64 t1, .int .i32 n1] kT)) kT #[.int .i64 t2, .int .i32 n2] (w.heap.size + 1) (by simp)).alloc (.cells #[.int .i64 0, .int .i32 0] kT))
  have G := Lib.hid (Whole.made ((w.alloc (.cells #[.int .i64 t1, .int .i32 n1] kT)).alloc (.cells #[.int .i64 t2, .int .i32 n2] kT)) kT #[.int .i64 0, .int .i32 0] (w.heap.size + 2) (by simp))
  clear c0 c1 c2
  have TR := Lib.hid (fun y => truth_any (decide (n1 ≤ n2)) y)
  show Calls _ _ _ _ fun e w' => e = .returned (kR (typedP (((t1 == t2) && rightB t1 n1) && (false || ((t1 == 1) || (t1 == 3)))) 2 (trP (decide (n1 ≤ n2))))) ∧ _
  generalize trP (decide (n1 ≤ n2)) = m at *
  generalize rightB t1 n1 = rb at *
  cases hq : (t1 == t2)
  case false =>
    cases h1 : (t1 == 1)
    case true =>
      have TY := Lib.hid (fun y => typed_any false 2 m y)
      show Calls _ _ _ _ fun e w' => e = .returned (kR (typedP false 2 m)) ∧ _
      generalize typedP false 2 m = r at *
      unfold kR at *
      go_enter Try.func20, Try.ntmps20
      go_wp2_with fail
      generalize (((w.alloc (.cells #[.int .i64 t1, .int .i32 n1] kT)).alloc (.cells #[.int .i64 t2, .int .i32 n2] kT)).alloc (.cells #[.int .i64 0, .int .i32 0] kT)) = V at *
      refine (TR.out _).mono ?_
      rintro e y2 ⟨rfl, hb⟩
      have B2 := Lib.hid (BA.out.trans (hb.mono BA.out.size))
      have P02 := Lib.hid (P0.out.below hb P0.out.lt)
      have P12 := Lib.hid (P1.out.below hb P1.out.lt)
      have G2 := Lib.hid (G.out.below hb G.out.lt)
      clear hb
      go_wp2_with fail
      refine (TY.out _).mono ?_
      rintro e y3 ⟨rfl, hb⟩
      have B3 := Lib.hid (B2.out.trans (hb.mono B2.out.size))
      have P03 := Lib.hid (P02.out.below hb P02.out.lt)
      have P13 := Lib.hid (P12.out.below hb P12.out.lt)
      have G3 := Lib.hid (G2.out.below hb G2.out.lt)
      clear hb
      have g0 : y3.cell? ⟨w.heap.size + 2, 0, none⟩ = some (.int .i64 0) := G3.out.cell 0
      have g1 : y3.cell? ⟨w.heap.size + 2, 1, none⟩ = some (.int .i32 0) := G3.out.cell 1
      have f0 := G3.out.free 0
      have f1 := G3.out.free 1
      have H := Lib.hid ((G3.out.store 0 (.int .i64 r.t)).store 1 (.int .i32 r.n))
      have HB := Lib.hid ((B3.out.setCell (p := ⟨w.heap.size + 2, 0, none⟩) (show w.heap.size ≤ w.heap.size + 2 by omega) (.int .i64 r.t)).setCell (p := ⟨w.heap.size + 2, 1, none⟩) (show w.heap.size ≤ w.heap.size + 2 by omega) (.int .i32 r.n))
      go_wp2_with fail
      have q0 := H.out.cell 0
      have q1 := H.out.cell 1
      refine bodyPost_ret (v := .tuple #[.agg #[.int .i64 r.t, .int .i32 r.n], .int .i64 r.e]) ?_ rfl ⟨rfl, HB.out⟩
      simp [results, Try.results20, go_sem, q0, q1]
    case false =>
      have TY := Lib.hid (fun y => typed_any false 2 m y)
      show Calls _ _ _ _ fun e w' => e = .returned (kR (typedP false 2 m)) ∧ _
      generalize typedP false 2 m = r at *
      unfold kR at *
      go_enter Try.func20, Try.ntmps20
      go_wp2_with fail
      generalize (((w.alloc (.cells #[.int .i64 t1, .int .i32 n1] kT)).alloc (.cells #[.int .i64 t2, .int .i32 n2] kT)).alloc (.cells #[.int .i64 0, .int .i32 0] kT)) = V at *
      refine (TR.out _).mono ?_
      rintro e y2 ⟨rfl, hb⟩
      have B2 := Lib.hid (BA.out.trans (hb.mono BA.out.size))
      have P02 := Lib.hid (P0.out.below hb P0.out.lt)
      have P12 := Lib.hid (P1.out.below hb P1.out.lt)
      have G2 := Lib.hid (G.out.below hb G.out.lt)
      clear hb
      go_wp2_with fail
      refine (TY.out _).mono ?_
      rintro e y3 ⟨rfl, hb⟩
      have B3 := Lib.hid (B2.out.trans (hb.mono B2.out.size))
      have P03 := Lib.hid (P02.out.below hb P02.out.lt)
      have P13 := Lib.hid (P12.out.below hb P12.out.lt)
      have G3 := Lib.hid (G2.out.below hb G2.out.lt)
      clear hb
      have g0 : y3.cell? ⟨w.heap.size + 2, 0, none⟩ = some (.int .i64 0) := G3.out.cell 0
      have g1 : y3.cell? ⟨w.heap.size + 2, 1, none⟩ = some (.int .i32 0) := G3.out.cell 1
      have f0 := G3.out.free 0
      have f1 := G3.out.free 1
      have H := Lib.hid ((G3.out.store 0 (.int .i64 r.t)).store 1 (.int .i32 r.n))
      have HB := Lib.hid ((B3.out.setCell (p := ⟨w.heap.size + 2, 0, none⟩) (show w.heap.size ≤ w.heap.size + 2 by omega) (.int .i64 r.t)).setCell (p := ⟨w.heap.size + 2, 1, none⟩) (show w.heap.size ≤ w.heap.size + 2 by omega) (.int .i32 r.n))
      go_wp2_with fail
      have q0 := H.out.cell 0
      have q1 := H.out.cell 1
      refine bodyPost_ret (v := .tuple #[.agg #[.int .i64 r.t, .int .i32 r.n], .int .i64 r.e]) ?_ rfl ⟨rfl, HB.out⟩
      simp [results, Try.results20, go_sem, q0, q1]
  case true =>
    cases h1 : (t1 == 1) <;> cases rb
    case true.true =>
      have TY := Lib.hid (fun y => typed_any true 2 m y)
      show Calls _ _ _ _ fun e w' => e = .returned (kR (typedP true 2 m)) ∧ _
      generalize typedP true 2 m = r at *
      unfold kR at *
      go_enter Try.func20, Try.ntmps20
      go_wp2_with fail
      generalize (((w.alloc (.cells #[.int .i64 t1, .int .i32 n1] kT)).alloc (.cells #[.int .i64 t2, .int .i32 n2] kT)).alloc (.cells #[.int .i64 0, .int .i32 0] kT)) = V at *
      refine (RT.out _).mono ?_
      rintro e y1 ⟨rfl, hb⟩
      have B1 := Lib.hid (BA.out.trans (hb.mono BA.out.size))
      have P01 := Lib.hid (P0.out.below hb P0.out.lt)
      have P11 := Lib.hid (P1.out.below hb P1.out.lt)
      have G1 := Lib.hid (G.out.below hb G.out.lt)
      clear hb
      have p00 : y1.cell? ⟨w.heap.size, 0, none⟩ = some (.int .i64 t1) := P01.out.cell 0
      have p01 : y1.cell? ⟨w.heap.size, 1, none⟩ = some (.int .i32 n1) := P01.out.cell 1
      have p10 : y1.cell? ⟨w.heap.size + 1, 0, none⟩ = some (.int .i64 t2) := P11.out.cell 0
      have p11 : y1.cell? ⟨w.heap.size + 1, 1, none⟩ = some (.int .i32 n2) := P11.out.cell 1
      go_wp2_with fail
      clear p00 p01 p10 p11
      refine (TR.out _).mono ?_
      rintro e y2 ⟨rfl, hb⟩
      have B2 := Lib.hid (B1.out.trans (hb.mono B1.out.size))
      have P02 := Lib.hid (P01.out.below hb P01.out.lt)
      have P12 := Lib.hid (P11.out.below hb P11.out.lt)
      have G2 := Lib.hid (G1.out.below hb G1.out.lt)
      clear hb
      go_wp2_with fail
      refine (TY.out _).mono ?_
      rintro e y3 ⟨rfl, hb⟩
      have B3 := Lib.hid (B2.out.trans (hb.mono B2.out.size))
      have P03 := Lib.hid (P02.out.below hb P02.out.lt)
      have P13 := Lib.hid (P12.out.below hb P12.out.lt)
      have G3 := Lib.hid (G2.out.below hb G2.out.lt)
      clear hb
      have g0 : y3.cell? ⟨w.heap.size + 2, 0, none⟩ = some (.int .i64 0) := G3.out.cell 0
      have g1 : y3.cell? ⟨w.heap.size + 2, 1, none⟩ = some (.int .i32 0) := G3.out.cell 1
      have f0 := G3.out.free 0
      have f1 := G3.out.free 1
      have H := Lib.hid ((G3.out.store 0 (.int .i64 r.t)).store 1 (.int .i32 r.n))
      have HB := Lib.hid ((B3.out.setCell (p := ⟨w.heap.size + 2, 0, none⟩) (show w.heap.size ≤ w.heap.size + 2 by omega) (.int .i64 r.t)).setCell (p := ⟨w.heap.size + 2, 1, none⟩) (show w.heap.size ≤ w.heap.size + 2 by omega) (.int .i32 r.n))
      go_wp2_with fail
      have q0 := H.out.cell 0
      have q1 := H.out.cell 1
      refine bodyPost_ret (v := .tuple #[.agg #[.int .i64 r.t, .int .i32 r.n], .int .i64 r.e]) ?_ rfl ⟨rfl, HB.out⟩
      simp [results, Try.results20, go_sem, q0, q1]
    case true.false =>
      have TY := Lib.hid (fun y => typed_any false 2 m y)
      show Calls _ _ _ _ fun e w' => e = .returned (kR (typedP false 2 m)) ∧ _
      generalize typedP false 2 m = r at *
      unfold kR at *
      go_enter Try.func20, Try.ntmps20
      go_wp2_with fail
      generalize (((w.alloc (.cells #[.int .i64 t1, .int .i32 n1] kT)).alloc (.cells #[.int .i64 t2, .int .i32 n2] kT)).alloc (.cells #[.int .i64 0, .int .i32 0] kT)) = V at *
      refine (RT.out _).mono ?_
      rintro e y1 ⟨rfl, hb⟩
      have B1 := Lib.hid (BA.out.trans (hb.mono BA.out.size))
      have P01 := Lib.hid (P0.out.below hb P0.out.lt)
      have P11 := Lib.hid (P1.out.below hb P1.out.lt)
      have G1 := Lib.hid (G.out.below hb G.out.lt)
      clear hb
      have p00 : y1.cell? ⟨w.heap.size, 0, none⟩ = some (.int .i64 t1) := P01.out.cell 0
      have p01 : y1.cell? ⟨w.heap.size, 1, none⟩ = some (.int .i32 n1) := P01.out.cell 1
      have p10 : y1.cell? ⟨w.heap.size + 1, 0, none⟩ = some (.int .i64 t2) := P11.out.cell 0
      have p11 : y1.cell? ⟨w.heap.size + 1, 1, none⟩ = some (.int .i32 n2) := P11.out.cell 1
      go_wp2_with fail
      clear p00 p01 p10 p11
      refine (TR.out _).mono ?_
      rintro e y2 ⟨rfl, hb⟩
      have B2 := Lib.hid (B1.out.trans (hb.mono B1.out.size))
      have P02 := Lib.hid (P01.out.below hb P01.out.lt)
      have P12 := Lib.hid (P11.out.below hb P11.out.lt)
      have G2 := Lib.hid (G1.out.below hb G1.out.lt)
      clear hb
      go_wp2_with fail
      refine (TY.out _).mono ?_
      rintro e y3 ⟨rfl, hb⟩
      have B3 := Lib.hid (B2.out.trans (hb.mono B2.out.size))
      have P03 := Lib.hid (P02.out.below hb P02.out.lt)
      have P13 := Lib.hid (P12.out.below hb P12.out.lt)
      have G3 := Lib.hid (G2.out.below hb G2.out.lt)
      clear hb
      have g0 : y3.cell? ⟨w.heap.size + 2, 0, none⟩ = some (.int .i64 0) := G3.out.cell 0
      have g1 : y3.cell? ⟨w.heap.size + 2, 1, none⟩ = some (.int .i32 0) := G3.out.cell 1
      have f0 := G3.out.free 0
      have f1 := G3.out.free 1
      have H := Lib.hid ((G3.out.store 0 (.int .i64 r.t)).store 1 (.int .i32 r.n))
      have HB := Lib.hid ((B3.out.setCell (p := ⟨w.heap.size + 2, 0, none⟩) (show w.heap.size ≤ w.heap.size + 2 by omega) (.int .i64 r.t)).setCell (p := ⟨w.heap.size + 2, 1, none⟩) (show w.heap.size ≤ w.heap.size + 2 by omega) (.int .i32 r.n))
      go_wp2_with fail
      have q0 := H.out.cell 0
      have q1 := H.out.cell 1
      refine bodyPost_ret (v := .tuple #[.agg #[.int .i64 r.t, .int .i32 r.n], .int .i64 r.e]) ?_ rfl ⟨rfl, HB.out⟩
      simp [results, Try.results20, go_sem, q0, q1]
    case false.true =>
      have TY := Lib.hid (fun y => typed_any (t1 == 3) 2 m y)
      simp only [Bool.true_and, Bool.false_or]
      generalize typedP (t1 == 3) 2 m = r at *
      unfold kR at *
      go_enter Try.func20, Try.ntmps20
      go_wp2_with fail
      generalize (((w.alloc (.cells #[.int .i64 t1, .int .i32 n1] kT)).alloc (.cells #[.int .i64 t2, .int .i32 n2] kT)).alloc (.cells #[.int .i64 0, .int .i32 0] kT)) = V at *
      refine (RT.out _).mono ?_
      rintro e y1 ⟨rfl, hb⟩
      have B1 := Lib.hid (BA.out.trans (hb.mono BA.out.size))
      have P01 := Lib.hid (P0.out.below hb P0.out.lt)
      have P11 := Lib.hid (P1.out.below hb P1.out.lt)
      have G1 := Lib.hid (G.out.below hb G.out.lt)
      clear hb
      have p00 : y1.cell? ⟨w.heap.size, 0, none⟩ = some (.int .i64 t1) := P01.out.cell 0
      have p01 : y1.cell? ⟨w.heap.size, 1, none⟩ = some (.int .i32 n1) := P01.out.cell 1
      have p10 : y1.cell? ⟨w.heap.size + 1, 0, none⟩ = some (.int .i64 t2) := P11.out.cell 0
      have p11 : y1.cell? ⟨w.heap.size + 1, 1, none⟩ = some (.int .i32 n2) := P11.out.cell 1
      go_wp2_with fail
      clear p00 p01 p10 p11
      refine (TR.out _).mono ?_
      rintro e y2 ⟨rfl, hb⟩
      have B2 := Lib.hid (B1.out.trans (hb.mono B1.out.size))
      have P02 := Lib.hid (P01.out.below hb P01.out.lt)
      have P12 := Lib.hid (P11.out.below hb P11.out.lt)
      have G2 := Lib.hid (G1.out.below hb G1.out.lt)
      clear hb
      go_wp2_with fail
      refine (TY.out _).mono ?_
      rintro e y3 ⟨rfl, hb⟩
      have B3 := Lib.hid (B2.out.trans (hb.mono B2.out.size))
      have P03 := Lib.hid (P02.out.below hb P02.out.lt)
      have P13 := Lib.hid (P12.out.below hb P12.out.lt)
      have G3 := Lib.hid (G2.out.below hb G2.out.lt)
      clear hb
      have g0 : y3.cell? ⟨w.heap.size + 2, 0, none⟩ = some (.int .i64 0) := G3.out.cell 0
      have g1 : y3.cell? ⟨w.heap.size + 2, 1, none⟩ = some (.int .i32 0) := G3.out.cell 1
      have f0 := G3.out.free 0
      have f1 := G3.out.free 1
      have H := Lib.hid ((G3.out.store 0 (.int .i64 r.t)).store 1 (.int .i32 r.n))
      have HB := Lib.hid ((B3.out.setCell (p := ⟨w.heap.size + 2, 0, none⟩) (show w.heap.size ≤ w.heap.size + 2 by omega) (.int .i64 r.t)).setCell (p := ⟨w.heap.size + 2, 1, none⟩) (show w.heap.size ≤ w.heap.size + 2 by omega) (.int .i32 r.n))
      go_wp2_with fail
      have q0 := H.out.cell 0
      have q1 := H.out.cell 1
      refine bodyPost_ret (v := .tuple #[.agg #[.int .i64 r.t, .int .i32 r.n], .int .i64 r.e]) ?_ rfl ⟨rfl, HB.out⟩
      simp [results, Try.results20, go_sem, q0, q1]
    case false.false =>
      have TY := Lib.hid (fun y => typed_any false 2 m y)
      show Calls _ _ _ _ fun e w' => e = .returned (kR (typedP false 2 m)) ∧ _
      generalize typedP false 2 m = r at *
      unfold kR at *
      go_enter Try.func20, Try.ntmps20
      go_wp2_with fail
      generalize (((w.alloc (.cells #[.int .i64 t1, .int .i32 n1] kT)).alloc (.cells #[.int .i64 t2, .int .i32 n2] kT)).alloc (.cells #[.int .i64 0, .int .i32 0] kT)) = V at *
      refine (RT.out _).mono ?_
      rintro e y1 ⟨rfl, hb⟩
      have B1 := Lib.hid (BA.out.trans (hb.mono BA.out.size))
      have P01 := Lib.hid (P0.out.below hb P0.out.lt)
      have P11 := Lib.hid (P1.out.below hb P1.out.lt)
      have G1 := Lib.hid (G.out.below hb G.out.lt)
      clear hb
      have p00 : y1.cell? ⟨w.heap.size, 0, none⟩ = some (.int .i64 t1) := P01.out.cell 0
      have p01 : y1.cell? ⟨w.heap.size, 1, none⟩ = some (.int .i32 n1) := P01.out.cell 1
      have p10 : y1.cell? ⟨w.heap.size + 1, 0, none⟩ = some (.int .i64 t2) := P11.out.cell 0
      have p11 : y1.cell? ⟨w.heap.size + 1, 1, none⟩ = some (.int .i32 n2) := P11.out.cell 1
      go_wp2_with fail
      clear p00 p01 p10 p11
      refine (TR.out _).mono ?_
      rintro e y2 ⟨rfl, hb⟩
      have B2 := Lib.hid (B1.out.trans (hb.mono B1.out.size))
      have P02 := Lib.hid (P01.out.below hb P01.out.lt)
      have P12 := Lib.hid (P11.out.below hb P11.out.lt)
      have G2 := Lib.hid (G1.out.below hb G1.out.lt)
      clear hb
      go_wp2_with fail
      refine (TY.out _).mono ?_
      rintro e y3 ⟨rfl, hb⟩
      have B3 := Lib.hid (B2.out.trans (hb.mono B2.out.size))
      have P03 := Lib.hid (P02.out.below hb P02.out.lt)
      have P13 := Lib.hid (P12.out.below hb P12.out.lt)
      have G3 := Lib.hid (G2.out.below hb G2.out.lt)
      clear hb
      have g0 : y3.cell? ⟨w.heap.size + 2, 0, none⟩ = some (.int .i64 0) := G3.out.cell 0
      have g1 : y3.cell? ⟨w.heap.size + 2, 1, none⟩ = some (.int .i32 0) := G3.out.cell 1
      have f0 := G3.out.free 0
      have f1 := G3.out.free 1
      have H := Lib.hid ((G3.out.store 0 (.int .i64 r.t)).store 1 (.int .i32 r.n))
      have HB := Lib.hid ((B3.out.setCell (p := ⟨w.heap.size + 2, 0, none⟩) (show w.heap.size ≤ w.heap.size + 2 by omega) (.int .i64 r.t)).setCell (p := ⟨w.heap.size + 2, 1, none⟩) (show w.heap.size ≤ w.heap.size + 2 by omega) (.int .i32 r.n))
      go_wp2_with fail
      have q0 := H.out.cell 0
      have q1 := H.out.cell 1
      refine bodyPost_ret (v := .tuple #[.agg #[.int .i64 r.t, .int .i32 r.n], .int .i64 r.e]) ?_ rfl ⟨rfl, HB.out⟩
      simp [results, Try.results20, go_sem, q0, q1]

end Go.Proofs.Ytmgjnalijmplcaa
