/- Konst: the answers' Two. -/
import Derived.Test.YtmgjnalijmplcaaKonC
namespace Go.Proofs.Ytmgjnalijmplcaa
open Go.ChangeShapes Go.WideShapes Go.ChangeAt Go.RowKit
set_option linter.unusedVariables false
set_option linter.unusedSimpArgs false

set_option maxHeartbeats 8000000 in
set_option maxRecDepth 100000 in
theorem reftwo_9 (t1 n1 t2 n2 : Int) (w : World) (n0 : -2147483648 ≤ n1) (n3 : n1 ≤ 2147483647) (n4 : -2147483648 ≤ n2) (n5 : n2 ≤ 2147483647) : Calls Try.prog 10 #[.string ⟨#[60]⟩, .agg #[.int .i64 t1, .int .i32 n1], .agg #[.int .i64 t2, .int .i32 n2]] w fun e w' => e = .returned (kR (twoP 9 t1 n1 t2 n2)) ∧ Below w.heap.size w w' := by
  have RT := Lib.hid (fun y => refright_any t1 n1 y n0 n3)
  have CP := Lib.hid (fun y => refcmp_9 n1 n2 y)
  clear n0 n3 n4 n5
  show Calls _ _ _ _ fun e w' => e = .returned (kR (typedP (((t1 == t2) && rightB t1 n1) && (false || ((t1 == 1) || (t1 == 3)))) 2 (trP (cmpP 9 n1 n2)))) ∧ _
  have TR := Lib.hid (fun y => reftruth_any (cmpP 9 n1 n2) y)
  generalize trP (cmpP 9 n1 n2) = m at *
  generalize cmpP 9 n1 n2 = cb at *
  generalize rightB t1 n1 = rb at *
  cases hq : (t1 != t2)
  case true =>
    have HR := Lib.hid (show typedP (((t1 == t2) && rb) && (false || ((t1 == 1) || (t1 == 3)))) 2 (m) = ⟨0, 0, 91⟩ from by rw [show (t1 == t2) = false from by simpa using hq]; rfl)
    have c0 := (Below.refl w.heap.size w).alloc (Nat.le_refl _) (.cells #[.int .i64 t1, .int .i32 n1] rT)
    have c1 := c0.alloc c0.size (.cells #[.int .i64 t2, .int .i32 n2] rT)
    have c2 := c1.alloc c1.size (.cells #[.int .i64 0, .int .i32 0] rT)
    have BA := Lib.hid c2
    have P0 := Lib.hid (((Whole.made w rT #[.int .i64 t1, .int .i32 n1] (w.heap.size) (by simp)).alloc (.cells #[.int .i64 t2, .int .i32 n2] rT)).alloc (.cells #[.int .i64 0, .int .i32 0] rT))
    have P1 := Lib.hid ((Whole.made (w.alloc (.cells #[.int .i64 t1, .int .i32 n1] rT)) rT #[.int .i64 t2, .int .i32 n2] (w.heap.size + 1) (by simp)).alloc (.cells #[.int .i64 0, .int .i32 0] rT))
    have G := Lib.hid (Whole.made ((w.alloc (.cells #[.int .i64 t1, .int .i32 n1] rT)).alloc (.cells #[.int .i64 t2, .int .i32 n2] rT)) rT #[.int .i64 0, .int .i32 0] (w.heap.size + 2) (by simp))
    clear c0 c1 c2
    go_enter Try.func10, Try.ntmps10
    go_wp2_with fail
    have q0 := G.out.cell 0
    have q1 := G.out.cell 1
    refine bodyPost_ret (v := .tuple #[.agg #[.int .i64 0, .int .i32 0], .int .i64 91]) ?_ rfl ⟨by rw [HR.out]; rfl, BA.out⟩
    simp [results, Try.results10, go_sem, q0, q1]
  have hq2 : (t1 == t2) = true := by simpa using hq
  cases rb
  case false =>
    have HR := Lib.hid (show typedP (((t1 == t2) && false) && (false || ((t1 == 1) || (t1 == 3)))) 2 (m) = ⟨0, 0, 91⟩ from by rw [Bool.and_false]; rfl)
    clear hq2
    have c0 := (Below.refl w.heap.size w).alloc (Nat.le_refl _) (.cells #[.int .i64 t1, .int .i32 n1] rT)
    have c1 := c0.alloc c0.size (.cells #[.int .i64 t2, .int .i32 n2] rT)
    have c2 := c1.alloc c1.size (.cells #[.int .i64 0, .int .i32 0] rT)
    have BA := Lib.hid c2
    have P0 := Lib.hid (((Whole.made w rT #[.int .i64 t1, .int .i32 n1] (w.heap.size) (by simp)).alloc (.cells #[.int .i64 t2, .int .i32 n2] rT)).alloc (.cells #[.int .i64 0, .int .i32 0] rT))
    have P1 := Lib.hid ((Whole.made (w.alloc (.cells #[.int .i64 t1, .int .i32 n1] rT)) rT #[.int .i64 t2, .int .i32 n2] (w.heap.size + 1) (by simp)).alloc (.cells #[.int .i64 0, .int .i32 0] rT))
    have G := Lib.hid (Whole.made ((w.alloc (.cells #[.int .i64 t1, .int .i32 n1] rT)).alloc (.cells #[.int .i64 t2, .int .i32 n2] rT)) rT #[.int .i64 0, .int .i32 0] (w.heap.size + 2) (by simp))
    clear c0 c1 c2
    go_enter Try.func10, Try.ntmps10
    go_wp2_with fail
    generalize (((w.alloc (.cells #[.int .i64 t1, .int .i32 n1] rT)).alloc (.cells #[.int .i64 t2, .int .i32 n2] rT)).alloc (.cells #[.int .i64 0, .int .i32 0] rT)) = V at *
    refine (RT.out _).mono ?_
    rintro e y1 ⟨rfl, hb⟩
    have B1 := Lib.hid (BA.out.trans (hb.mono BA.out.size))
    have P01 := Lib.hid (P0.out.below hb P0.out.lt)
    have P11 := Lib.hid (P1.out.below hb P1.out.lt)
    have G1 := Lib.hid (G.out.below hb G.out.lt)
    clear hb
    have p00 : y1.cell? ⟨w.heap.size, 0, none⟩ = some (.int .i64 t1) := P01.out.cell 0
    have p01 : y1.cell? ⟨w.heap.size, 1, none⟩ = some (.int .i32 n1) := P01.out.cell 1
    have p10 : y1.cell? ⟨w.heap.size + 1, 0, none⟩ = some (.int .i64 t2) := P11.out.cell 0
    have p11 : y1.cell? ⟨w.heap.size + 1, 1, none⟩ = some (.int .i32 n2) := P11.out.cell 1
    have g0 : y1.cell? ⟨w.heap.size + 2, 0, none⟩ = some (.int .i64 0) := G1.out.cell 0
    have g1 : y1.cell? ⟨w.heap.size + 2, 1, none⟩ = some (.int .i32 0) := G1.out.cell 1
    have f0 := G1.out.free 0
    have f1 := G1.out.free 1
    have H := Lib.hid ((G1.out.store 0 (.int .i64 0)).store 1 (.int .i32 0))
    have HB := Lib.hid ((B1.out.setCell (p := ⟨w.heap.size + 2, 0, none⟩) (show w.heap.size ≤ w.heap.size + 2 by omega) (.int .i64 0)).setCell (p := ⟨w.heap.size + 2, 1, none⟩) (show w.heap.size ≤ w.heap.size + 2 by omega) (.int .i32 0))
    go_wp2_with fail
    have q0 := H.out.cell 0
    have q1 := H.out.cell 1
    refine bodyPost_ret (v := .tuple #[.agg #[.int .i64 0, .int .i32 0], .int .i64 91]) ?_ rfl ⟨by rw [HR.out]; rfl, HB.out⟩
    simp [results, Try.results10, go_sem, q0, q1]
  cases h1 : (t1 != 1)
  case false =>
    have HR := Lib.hid (show typedP (((t1 == t2) && true) && (false || ((t1 == 1) || (t1 == 3)))) 2 (m) = ⟨2, m, 0⟩ from by rw [hq2, show (t1 == 1) = true from by simpa using h1]; rfl)
    clear hq2
    have c0 := (Below.refl w.heap.size w).alloc (Nat.le_refl _) (.cells #[.int .i64 t1, .int .i32 n1] rT)
    have c1 := c0.alloc c0.size (.cells #[.int .i64 t2, .int .i32 n2] rT)
    have c2 := c1.alloc c1.size (.cells #[.int .i64 0, .int .i32 0] rT)
    have BA := Lib.hid c2
    have P0 := Lib.hid (((Whole.made w rT #[.int .i64 t1, .int .i32 n1] (w.heap.size) (by simp)).alloc (.cells #[.int .i64 t2, .int .i32 n2] rT)).alloc (.cells #[.int .i64 0, .int .i32 0] rT))
    have P1 := Lib.hid ((Whole.made (w.alloc (.cells #[.int .i64 t1, .int .i32 n1] rT)) rT #[.int .i64 t2, .int .i32 n2] (w.heap.size + 1) (by simp)).alloc (.cells #[.int .i64 0, .int .i32 0] rT))
    have G := Lib.hid (Whole.made ((w.alloc (.cells #[.int .i64 t1, .int .i32 n1] rT)).alloc (.cells #[.int .i64 t2, .int .i32 n2] rT)) rT #[.int .i64 0, .int .i32 0] (w.heap.size + 2) (by simp))
    clear c0 c1 c2
    go_enter Try.func10, Try.ntmps10
    go_wp2_with fail
    generalize (((w.alloc (.cells #[.int .i64 t1, .int .i32 n1] rT)).alloc (.cells #[.int .i64 t2, .int .i32 n2] rT)).alloc (.cells #[.int .i64 0, .int .i32 0] rT)) = V at *
    refine (RT.out _).mono ?_
    rintro e y1 ⟨rfl, hb⟩
    have B1 := Lib.hid (BA.out.trans (hb.mono BA.out.size))
    have P01 := Lib.hid (P0.out.below hb P0.out.lt)
    have P11 := Lib.hid (P1.out.below hb P1.out.lt)
    have G1 := Lib.hid (G.out.below hb G.out.lt)
    clear hb
    have p00 : y1.cell? ⟨w.heap.size, 0, none⟩ = some (.int .i64 t1) := P01.out.cell 0
    have p01 : y1.cell? ⟨w.heap.size, 1, none⟩ = some (.int .i32 n1) := P01.out.cell 1
    have p10 : y1.cell? ⟨w.heap.size + 1, 0, none⟩ = some (.int .i64 t2) := P11.out.cell 0
    have p11 : y1.cell? ⟨w.heap.size + 1, 1, none⟩ = some (.int .i32 n2) := P11.out.cell 1
    go_wp2_with fail
    refine (CP.out _).mono ?_
    rintro e w' ⟨rfl, rfl⟩
    go_wp2_with fail
    clear p00 p01 p10 p11
    refine (TR.out _).mono ?_
    rintro e y2 ⟨rfl, hb⟩
    have B2 := Lib.hid (B1.out.trans (hb.mono B1.out.size))
    have P02 := Lib.hid (P01.out.below hb P01.out.lt)
    have P12 := Lib.hid (P11.out.below hb P11.out.lt)
    have G2 := Lib.hid (G1.out.below hb G1.out.lt)
    clear hb
    have g0 : y2.cell? ⟨w.heap.size + 2, 0, none⟩ = some (.int .i64 0) := G2.out.cell 0
    have g1 : y2.cell? ⟨w.heap.size + 2, 1, none⟩ = some (.int .i32 0) := G2.out.cell 1
    have f0 := G2.out.free 0
    have f1 := G2.out.free 1
    have H := Lib.hid ((G2.out.store 0 (.int .i64 2)).store 1 (.int .i32 m))
    have HB := Lib.hid ((B2.out.setCell (p := ⟨w.heap.size + 2, 0, none⟩) (show w.heap.size ≤ w.heap.size + 2 by omega) (.int .i64 2)).setCell (p := ⟨w.heap.size + 2, 1, none⟩) (show w.heap.size ≤ w.heap.size + 2 by omega) (.int .i32 m))
    go_wp2_with fail
    have q0 := H.out.cell 0
    have q1 := H.out.cell 1
    refine bodyPost_ret (v := .tuple #[.agg #[.int .i64 2, .int .i32 m], .int .i64 0]) ?_ rfl ⟨by rw [HR.out]; rfl, HB.out⟩
    simp [results, Try.results10, go_sem, q0, q1]
  cases h3 : (t1 != 3)
  case false =>
    have HR := Lib.hid (show typedP (((t1 == t2) && true) && (false || ((t1 == 1) || (t1 == 3)))) 2 (m) = ⟨2, m, 0⟩ from by rw [hq2, show (t1 == 3) = true from by simpa using h3, Bool.or_true]; rfl)
    clear hq2
    have c0 := (Below.refl w.heap.size w).alloc (Nat.le_refl _) (.cells #[.int .i64 t1, .int .i32 n1] rT)
    have c1 := c0.alloc c0.size (.cells #[.int .i64 t2, .int .i32 n2] rT)
    have c2 := c1.alloc c1.size (.cells #[.int .i64 0, .int .i32 0] rT)
    have BA := Lib.hid c2
    have P0 := Lib.hid (((Whole.made w rT #[.int .i64 t1, .int .i32 n1] (w.heap.size) (by simp)).alloc (.cells #[.int .i64 t2, .int .i32 n2] rT)).alloc (.cells #[.int .i64 0, .int .i32 0] rT))
    have P1 := Lib.hid ((Whole.made (w.alloc (.cells #[.int .i64 t1, .int .i32 n1] rT)) rT #[.int .i64 t2, .int .i32 n2] (w.heap.size + 1) (by simp)).alloc (.cells #[.int .i64 0, .int .i32 0] rT))
    have G := Lib.hid (Whole.made ((w.alloc (.cells #[.int .i64 t1, .int .i32 n1] rT)).alloc (.cells #[.int .i64 t2, .int .i32 n2] rT)) rT #[.int .i64 0, .int .i32 0] (w.heap.size + 2) (by simp))
    clear c0 c1 c2
    go_enter Try.func10, Try.ntmps10
    go_wp2_with fail
    generalize (((w.alloc (.cells #[.int .i64 t1, .int .i32 n1] rT)).alloc (.cells #[.int .i64 t2, .int .i32 n2] rT)).alloc (.cells #[.int .i64 0, .int .i32 0] rT)) = V at *
    refine (RT.out _).mono ?_
    rintro e y1 ⟨rfl, hb⟩
    have B1 := Lib.hid (BA.out.trans (hb.mono BA.out.size))
    have P01 := Lib.hid (P0.out.below hb P0.out.lt)
    have P11 := Lib.hid (P1.out.below hb P1.out.lt)
    have G1 := Lib.hid (G.out.below hb G.out.lt)
    clear hb
    have p00 : y1.cell? ⟨w.heap.size, 0, none⟩ = some (.int .i64 t1) := P01.out.cell 0
    have p01 : y1.cell? ⟨w.heap.size, 1, none⟩ = some (.int .i32 n1) := P01.out.cell 1
    have p10 : y1.cell? ⟨w.heap.size + 1, 0, none⟩ = some (.int .i64 t2) := P11.out.cell 0
    have p11 : y1.cell? ⟨w.heap.size + 1, 1, none⟩ = some (.int .i32 n2) := P11.out.cell 1
    go_wp2_with fail
    refine (CP.out _).mono ?_
    rintro e w' ⟨rfl, rfl⟩
    go_wp2_with fail
    clear p00 p01 p10 p11
    refine (TR.out _).mono ?_
    rintro e y2 ⟨rfl, hb⟩
    have B2 := Lib.hid (B1.out.trans (hb.mono B1.out.size))
    have P02 := Lib.hid (P01.out.below hb P01.out.lt)
    have P12 := Lib.hid (P11.out.below hb P11.out.lt)
    have G2 := Lib.hid (G1.out.below hb G1.out.lt)
    clear hb
    have g0 : y2.cell? ⟨w.heap.size + 2, 0, none⟩ = some (.int .i64 0) := G2.out.cell 0
    have g1 : y2.cell? ⟨w.heap.size + 2, 1, none⟩ = some (.int .i32 0) := G2.out.cell 1
    have f0 := G2.out.free 0
    have f1 := G2.out.free 1
    have H := Lib.hid ((G2.out.store 0 (.int .i64 2)).store 1 (.int .i32 m))
    have HB := Lib.hid ((B2.out.setCell (p := ⟨w.heap.size + 2, 0, none⟩) (show w.heap.size ≤ w.heap.size + 2 by omega) (.int .i64 2)).setCell (p := ⟨w.heap.size + 2, 1, none⟩) (show w.heap.size ≤ w.heap.size + 2 by omega) (.int .i32 m))
    go_wp2_with fail
    have q0 := H.out.cell 0
    have q1 := H.out.cell 1
    refine bodyPost_ret (v := .tuple #[.agg #[.int .i64 2, .int .i32 m], .int .i64 0]) ?_ rfl ⟨by rw [HR.out]; rfl, HB.out⟩
    simp [results, Try.results10, go_sem, q0, q1]
  have HR := Lib.hid (show typedP (((t1 == t2) && true) && (false || ((t1 == 1) || (t1 == 3)))) 2 (m) = ⟨0, 0, 91⟩ from by rw [hq2, show (t1 == 1) = false from by simpa using h1, show (t1 == 3) = false from by simpa using h3]; rfl)
  clear hq2
  have c0 := (Below.refl w.heap.size w).alloc (Nat.le_refl _) (.cells #[.int .i64 t1, .int .i32 n1] rT)
  have c1 := c0.alloc c0.size (.cells #[.int .i64 t2, .int .i32 n2] rT)
  have c2 := c1.alloc c1.size (.cells #[.int .i64 0, .int .i32 0] rT)
  have BA := Lib.hid c2
  have P0 := Lib.hid (((Whole.made w rT #[.int .i64 t1, .int .i32 n1] (w.heap.size) (by simp)).alloc (.cells #[.int .i64 t2, .int .i32 n2] rT)).alloc (.cells #[.int .i64 0, .int .i32 0] rT))
  have P1 := Lib.hid ((Whole.made (w.alloc (.cells #[.int .i64 t1, .int .i32 n1] rT)) rT #[.int .i64 t2, .int .i32 n2] (w.heap.size + 1) (by simp)).alloc (.cells #[.int .i64 0, .int .i32 0] rT))
  have G := Lib.hid (Whole.made ((w.alloc (.cells #[.int .i64 t1, .int .i32 n1] rT)).alloc (.cells #[.int .i64 t2, .int .i32 n2] rT)) rT #[.int .i64 0, .int .i32 0] (w.heap.size + 2) (by simp))
  clear c0 c1 c2
  go_enter Try.func10, Try.ntmps10
  go_wp2_with fail
  generalize (((w.alloc (.cells #[.int .i64 t1, .int .i32 n1] rT)).alloc (.cells #[.int .i64 t2, .int .i32 n2] rT)).alloc (.cells #[.int .i64 0, .int .i32 0] rT)) = V at *
  refine (RT.out _).mono ?_
  rintro e y1 ⟨rfl, hb⟩
  have B1 := Lib.hid (BA.out.trans (hb.mono BA.out.size))
  have P01 := Lib.hid (P0.out.below hb P0.out.lt)
  have P11 := Lib.hid (P1.out.below hb P1.out.lt)
  have G1 := Lib.hid (G.out.below hb G.out.lt)
  clear hb
  have p00 : y1.cell? ⟨w.heap.size, 0, none⟩ = some (.int .i64 t1) := P01.out.cell 0
  have p01 : y1.cell? ⟨w.heap.size, 1, none⟩ = some (.int .i32 n1) := P01.out.cell 1
  have p10 : y1.cell? ⟨w.heap.size + 1, 0, none⟩ = some (.int .i64 t2) := P11.out.cell 0
  have p11 : y1.cell? ⟨w.heap.size + 1, 1, none⟩ = some (.int .i32 n2) := P11.out.cell 1
  have g0 : y1.cell? ⟨w.heap.size + 2, 0, none⟩ = some (.int .i64 0) := G1.out.cell 0
  have g1 : y1.cell? ⟨w.heap.size + 2, 1, none⟩ = some (.int .i32 0) := G1.out.cell 1
  have f0 := G1.out.free 0
  have f1 := G1.out.free 1
  have H := Lib.hid ((G1.out.store 0 (.int .i64 0)).store 1 (.int .i32 0))
  have HB := Lib.hid ((B1.out.setCell (p := ⟨w.heap.size + 2, 0, none⟩) (show w.heap.size ≤ w.heap.size + 2 by omega) (.int .i64 0)).setCell (p := ⟨w.heap.size + 2, 1, none⟩) (show w.heap.size ≤ w.heap.size + 2 by omega) (.int .i32 0))
  go_wp2_with fail
  have q0 := H.out.cell 0
  have q1 := H.out.cell 1
  refine bodyPost_ret (v := .tuple #[.agg #[.int .i64 0, .int .i32 0], .int .i64 91]) ?_ rfl ⟨by rw [HR.out]; rfl, HB.out⟩
  simp [results, Try.results10, go_sem, q0, q1]

set_option maxHeartbeats 8000000 in
set_option maxRecDepth 100000 in
theorem reftwo_10 (t1 n1 t2 n2 : Int) (w : World) (n0 : -2147483648 ≤ n1) (n3 : n1 ≤ 2147483647) (n4 : -2147483648 ≤ n2) (n5 : n2 ≤ 2147483647) : Calls Try.prog 10 #[.string ⟨#[60, 61]⟩, .agg #[.int .i64 t1, .int .i32 n1], .agg #[.int .i64 t2, .int .i32 n2]] w fun e w' => e = .returned (kR (twoP 10 t1 n1 t2 n2)) ∧ Below w.heap.size w w' := by
  have RT := Lib.hid (fun y => refright_any t1 n1 y n0 n3)
  have CP := Lib.hid (fun y => refcmp_10 n1 n2 y)
  clear n0 n3 n4 n5
  show Calls _ _ _ _ fun e w' => e = .returned (kR (typedP (((t1 == t2) && rightB t1 n1) && (false || ((t1 == 1) || (t1 == 3)))) 2 (trP (cmpP 10 n1 n2)))) ∧ _
  have TR := Lib.hid (fun y => reftruth_any (cmpP 10 n1 n2) y)
  generalize trP (cmpP 10 n1 n2) = m at *
  generalize cmpP 10 n1 n2 = cb at *
  generalize rightB t1 n1 = rb at *
  cases hq : (t1 != t2)
  case true =>
    have HR := Lib.hid (show typedP (((t1 == t2) && rb) && (false || ((t1 == 1) || (t1 == 3)))) 2 (m) = ⟨0, 0, 91⟩ from by rw [show (t1 == t2) = false from by simpa using hq]; rfl)
    have c0 := (Below.refl w.heap.size w).alloc (Nat.le_refl _) (.cells #[.int .i64 t1, .int .i32 n1] rT)
    have c1 := c0.alloc c0.size (.cells #[.int .i64 t2, .int .i32 n2] rT)
    have c2 := c1.alloc c1.size (.cells #[.int .i64 0, .int .i32 0] rT)
    have BA := Lib.hid c2
    have P0 := Lib.hid (((Whole.made w rT #[.int .i64 t1, .int .i32 n1] (w.heap.size) (by simp)).alloc (.cells #[.int .i64 t2, .int .i32 n2] rT)).alloc (.cells #[.int .i64 0, .int .i32 0] rT))
    have P1 := Lib.hid ((Whole.made (w.alloc (.cells #[.int .i64 t1, .int .i32 n1] rT)) rT #[.int .i64 t2, .int .i32 n2] (w.heap.size + 1) (by simp)).alloc (.cells #[.int .i64 0, .int .i32 0] rT))
    have G := Lib.hid (Whole.made ((w.alloc (.cells #[.int .i64 t1, .int .i32 n1] rT)).alloc (.cells #[.int .i64 t2, .int .i32 n2] rT)) rT #[.int .i64 0, .int .i32 0] (w.heap.size + 2) (by simp))
    clear c0 c1 c2
    go_enter Try.func10, Try.ntmps10
    go_wp2_with fail
    have q0 := G.out.cell 0
    have q1 := G.out.cell 1
    refine bodyPost_ret (v := .tuple #[.agg #[.int .i64 0, .int .i32 0], .int .i64 91]) ?_ rfl ⟨by rw [HR.out]; rfl, BA.out⟩
    simp [results, Try.results10, go_sem, q0, q1]
  have hq2 : (t1 == t2) = true := by simpa using hq
  cases rb
  case false =>
    have HR := Lib.hid (show typedP (((t1 == t2) && false) && (false || ((t1 == 1) || (t1 == 3)))) 2 (m) = ⟨0, 0, 91⟩ from by rw [Bool.and_false]; rfl)
    clear hq2
    have c0 := (Below.refl w.heap.size w).alloc (Nat.le_refl _) (.cells #[.int .i64 t1, .int .i32 n1] rT)
    have c1 := c0.alloc c0.size (.cells #[.int .i64 t2, .int .i32 n2] rT)
    have c2 := c1.alloc c1.size (.cells #[.int .i64 0, .int .i32 0] rT)
    have BA := Lib.hid c2
    have P0 := Lib.hid (((Whole.made w rT #[.int .i64 t1, .int .i32 n1] (w.heap.size) (by simp)).alloc (.cells #[.int .i64 t2, .int .i32 n2] rT)).alloc (.cells #[.int .i64 0, .int .i32 0] rT))
    have P1 := Lib.hid ((Whole.made (w.alloc (.cells #[.int .i64 t1, .int .i32 n1] rT)) rT #[.int .i64 t2, .int .i32 n2] (w.heap.size + 1) (by simp)).alloc (.cells #[.int .i64 0, .int .i32 0] rT))
    have G := Lib.hid (Whole.made ((w.alloc (.cells #[.int .i64 t1, .int .i32 n1] rT)).alloc (.cells #[.int .i64 t2, .int .i32 n2] rT)) rT #[.int .i64 0, .int .i32 0] (w.heap.size + 2) (by simp))
    clear c0 c1 c2
    go_enter Try.func10, Try.ntmps10
    go_wp2_with fail
    generalize (((w.alloc (.cells #[.int .i64 t1, .int .i32 n1] rT)).alloc (.cells #[.int .i64 t2, .int .i32 n2] rT)).alloc (.cells #[.int .i64 0, .int .i32 0] rT)) = V at *
    refine (RT.out _).mono ?_
    rintro e y1 ⟨rfl, hb⟩
    have B1 := Lib.hid (BA.out.trans (hb.mono BA.out.size))
    have P01 := Lib.hid (P0.out.below hb P0.out.lt)
    have P11 := Lib.hid (P1.out.below hb P1.out.lt)
    have G1 := Lib.hid (G.out.below hb G.out.lt)
    clear hb
    have p00 : y1.cell? ⟨w.heap.size, 0, none⟩ = some (.int .i64 t1) := P01.out.cell 0
    have p01 : y1.cell? ⟨w.heap.size, 1, none⟩ = some (.int .i32 n1) := P01.out.cell 1
    have p10 : y1.cell? ⟨w.heap.size + 1, 0, none⟩ = some (.int .i64 t2) := P11.out.cell 0
    have p11 : y1.cell? ⟨w.heap.size + 1, 1, none⟩ = some (.int .i32 n2) := P11.out.cell 1
    have g0 : y1.cell? ⟨w.heap.size + 2, 0, none⟩ = some (.int .i64 0) := G1.out.cell 0
    have g1 : y1.cell? ⟨w.heap.size + 2, 1, none⟩ = some (.int .i32 0) := G1.out.cell 1
    have f0 := G1.out.free 0
    have f1 := G1.out.free 1
    have H := Lib.hid ((G1.out.store 0 (.int .i64 0)).store 1 (.int .i32 0))
    have HB := Lib.hid ((B1.out.setCell (p := ⟨w.heap.size + 2, 0, none⟩) (show w.heap.size ≤ w.heap.size + 2 by omega) (.int .i64 0)).setCell (p := ⟨w.heap.size + 2, 1, none⟩) (show w.heap.size ≤ w.heap.size + 2 by omega) (.int .i32 0))
    go_wp2_with fail
    have q0 := H.out.cell 0
    have q1 := H.out.cell 1
    refine bodyPost_ret (v := .tuple #[.agg #[.int .i64 0, .int .i32 0], .int .i64 91]) ?_ rfl ⟨by rw [HR.out]; rfl, HB.out⟩
    simp [results, Try.results10, go_sem, q0, q1]
  cases h1 : (t1 != 1)
  case false =>
    have HR := Lib.hid (show typedP (((t1 == t2) && true) && (false || ((t1 == 1) || (t1 == 3)))) 2 (m) = ⟨2, m, 0⟩ from by rw [hq2, show (t1 == 1) = true from by simpa using h1]; rfl)
    clear hq2
    have c0 := (Below.refl w.heap.size w).alloc (Nat.le_refl _) (.cells #[.int .i64 t1, .int .i32 n1] rT)
    have c1 := c0.alloc c0.size (.cells #[.int .i64 t2, .int .i32 n2] rT)
    have c2 := c1.alloc c1.size (.cells #[.int .i64 0, .int .i32 0] rT)
    have BA := Lib.hid c2
    have P0 := Lib.hid (((Whole.made w rT #[.int .i64 t1, .int .i32 n1] (w.heap.size) (by simp)).alloc (.cells #[.int .i64 t2, .int .i32 n2] rT)).alloc (.cells #[.int .i64 0, .int .i32 0] rT))
    have P1 := Lib.hid ((Whole.made (w.alloc (.cells #[.int .i64 t1, .int .i32 n1] rT)) rT #[.int .i64 t2, .int .i32 n2] (w.heap.size + 1) (by simp)).alloc (.cells #[.int .i64 0, .int .i32 0] rT))
    have G := Lib.hid (Whole.made ((w.alloc (.cells #[.int .i64 t1, .int .i32 n1] rT)).alloc (.cells #[.int .i64 t2, .int .i32 n2] rT)) rT #[.int .i64 0, .int .i32 0] (w.heap.size + 2) (by simp))
    clear c0 c1 c2
    go_enter Try.func10, Try.ntmps10
    go_wp2_with fail
    generalize (((w.alloc (.cells #[.int .i64 t1, .int .i32 n1] rT)).alloc (.cells #[.int .i64 t2, .int .i32 n2] rT)).alloc (.cells #[.int .i64 0, .int .i32 0] rT)) = V at *
    refine (RT.out _).mono ?_
    rintro e y1 ⟨rfl, hb⟩
    have B1 := Lib.hid (BA.out.trans (hb.mono BA.out.size))
    have P01 := Lib.hid (P0.out.below hb P0.out.lt)
    have P11 := Lib.hid (P1.out.below hb P1.out.lt)
    have G1 := Lib.hid (G.out.below hb G.out.lt)
    clear hb
    have p00 : y1.cell? ⟨w.heap.size, 0, none⟩ = some (.int .i64 t1) := P01.out.cell 0
    have p01 : y1.cell? ⟨w.heap.size, 1, none⟩ = some (.int .i32 n1) := P01.out.cell 1
    have p10 : y1.cell? ⟨w.heap.size + 1, 0, none⟩ = some (.int .i64 t2) := P11.out.cell 0
    have p11 : y1.cell? ⟨w.heap.size + 1, 1, none⟩ = some (.int .i32 n2) := P11.out.cell 1
    go_wp2_with fail
    refine (CP.out _).mono ?_
    rintro e w' ⟨rfl, rfl⟩
    go_wp2_with fail
    clear p00 p01 p10 p11
    refine (TR.out _).mono ?_
    rintro e y2 ⟨rfl, hb⟩
    have B2 := Lib.hid (B1.out.trans (hb.mono B1.out.size))
    have P02 := Lib.hid (P01.out.below hb P01.out.lt)
    have P12 := Lib.hid (P11.out.below hb P11.out.lt)
    have G2 := Lib.hid (G1.out.below hb G1.out.lt)
    clear hb
    have g0 : y2.cell? ⟨w.heap.size + 2, 0, none⟩ = some (.int .i64 0) := G2.out.cell 0
    have g1 : y2.cell? ⟨w.heap.size + 2, 1, none⟩ = some (.int .i32 0) := G2.out.cell 1
    have f0 := G2.out.free 0
    have f1 := G2.out.free 1
    have H := Lib.hid ((G2.out.store 0 (.int .i64 2)).store 1 (.int .i32 m))
    have HB := Lib.hid ((B2.out.setCell (p := ⟨w.heap.size + 2, 0, none⟩) (show w.heap.size ≤ w.heap.size + 2 by omega) (.int .i64 2)).setCell (p := ⟨w.heap.size + 2, 1, none⟩) (show w.heap.size ≤ w.heap.size + 2 by omega) (.int .i32 m))
    go_wp2_with fail
    have q0 := H.out.cell 0
    have q1 := H.out.cell 1
    refine bodyPost_ret (v := .tuple #[.agg #[.int .i64 2, .int .i32 m], .int .i64 0]) ?_ rfl ⟨by rw [HR.out]; rfl, HB.out⟩
    simp [results, Try.results10, go_sem, q0, q1]
  cases h3 : (t1 != 3)
  case false =>
    have HR := Lib.hid (show typedP (((t1 == t2) && true) && (false || ((t1 == 1) || (t1 == 3)))) 2 (m) = ⟨2, m, 0⟩ from by rw [hq2, show (t1 == 3) = true from by simpa using h3, Bool.or_true]; rfl)
    clear hq2
    have c0 := (Below.refl w.heap.size w).alloc (Nat.le_refl _) (.cells #[.int .i64 t1, .int .i32 n1] rT)
    have c1 := c0.alloc c0.size (.cells #[.int .i64 t2, .int .i32 n2] rT)
    have c2 := c1.alloc c1.size (.cells #[.int .i64 0, .int .i32 0] rT)
    have BA := Lib.hid c2
    have P0 := Lib.hid (((Whole.made w rT #[.int .i64 t1, .int .i32 n1] (w.heap.size) (by simp)).alloc (.cells #[.int .i64 t2, .int .i32 n2] rT)).alloc (.cells #[.int .i64 0, .int .i32 0] rT))
    have P1 := Lib.hid ((Whole.made (w.alloc (.cells #[.int .i64 t1, .int .i32 n1] rT)) rT #[.int .i64 t2, .int .i32 n2] (w.heap.size + 1) (by simp)).alloc (.cells #[.int .i64 0, .int .i32 0] rT))
    have G := Lib.hid (Whole.made ((w.alloc (.cells #[.int .i64 t1, .int .i32 n1] rT)).alloc (.cells #[.int .i64 t2, .int .i32 n2] rT)) rT #[.int .i64 0, .int .i32 0] (w.heap.size + 2) (by simp))
    clear c0 c1 c2
    go_enter Try.func10, Try.ntmps10
    go_wp2_with fail
    generalize (((w.alloc (.cells #[.int .i64 t1, .int .i32 n1] rT)).alloc (.cells #[.int .i64 t2, .int .i32 n2] rT)).alloc (.cells #[.int .i64 0, .int .i32 0] rT)) = V at *
    refine (RT.out _).mono ?_
    rintro e y1 ⟨rfl, hb⟩
    have B1 := Lib.hid (BA.out.trans (hb.mono BA.out.size))
    have P01 := Lib.hid (P0.out.below hb P0.out.lt)
    have P11 := Lib.hid (P1.out.below hb P1.out.lt)
    have G1 := Lib.hid (G.out.below hb G.out.lt)
    clear hb
    have p00 : y1.cell? ⟨w.heap.size, 0, none⟩ = some (.int .i64 t1) := P01.out.cell 0
    have p01 : y1.cell? ⟨w.heap.size, 1, none⟩ = some (.int .i32 n1) := P01.out.cell 1
    have p10 : y1.cell? ⟨w.heap.size + 1, 0, none⟩ = some (.int .i64 t2) := P11.out.cell 0
    have p11 : y1.cell? ⟨w.heap.size + 1, 1, none⟩ = some (.int .i32 n2) := P11.out.cell 1
    go_wp2_with fail
    refine (CP.out _).mono ?_
    rintro e w' ⟨rfl, rfl⟩
    go_wp2_with fail
    clear p00 p01 p10 p11
    refine (TR.out _).mono ?_
    rintro e y2 ⟨rfl, hb⟩
    have B2 := Lib.hid (B1.out.trans (hb.mono B1.out.size))
    have P02 := Lib.hid (P01.out.below hb P01.out.lt)
    have P12 := Lib.hid (P11.out.below hb P11.out.lt)
    have G2 := Lib.hid (G1.out.below hb G1.out.lt)
    clear hb
    have g0 : y2.cell? ⟨w.heap.size + 2, 0, none⟩ = some (.int .i64 0) := G2.out.cell 0
    have g1 : y2.cell? ⟨w.heap.size + 2, 1, none⟩ = some (.int .i32 0) := G2.out.cell 1
    have f0 := G2.out.free 0
    have f1 := G2.out.free 1
    have H := Lib.hid ((G2.out.store 0 (.int .i64 2)).store 1 (.int .i32 m))
    have HB := Lib.hid ((B2.out.setCell (p := ⟨w.heap.size + 2, 0, none⟩) (show w.heap.size ≤ w.heap.size + 2 by omega) (.int .i64 2)).setCell (p := ⟨w.heap.size + 2, 1, none⟩) (show w.heap.size ≤ w.heap.size + 2 by omega) (.int .i32 m))
    go_wp2_with fail
    have q0 := H.out.cell 0
    have q1 := H.out.cell 1
    refine bodyPost_ret (v := .tuple #[.agg #[.int .i64 2, .int .i32 m], .int .i64 0]) ?_ rfl ⟨by rw [HR.out]; rfl, HB.out⟩
    simp [results, Try.results10, go_sem, q0, q1]
  have HR := Lib.hid (show typedP (((t1 == t2) && true) && (false || ((t1 == 1) || (t1 == 3)))) 2 (m) = ⟨0, 0, 91⟩ from by rw [hq2, show (t1 == 1) = false from by simpa using h1, show (t1 == 3) = false from by simpa using h3]; rfl)
  clear hq2
  have c0 := (Below.refl w.heap.size w).alloc (Nat.le_refl _) (.cells #[.int .i64 t1, .int .i32 n1] rT)
  have c1 := c0.alloc c0.size (.cells #[.int .i64 t2, .int .i32 n2] rT)
  have c2 := c1.alloc c1.size (.cells #[.int .i64 0, .int .i32 0] rT)
  have BA := Lib.hid c2
  have P0 := Lib.hid (((Whole.made w rT #[.int .i64 t1, .int .i32 n1] (w.heap.size) (by simp)).alloc (.cells #[.int .i64 t2, .int .i32 n2] rT)).alloc (.cells #[.int .i64 0, .int .i32 0] rT))
  have P1 := Lib.hid ((Whole.made (w.alloc (.cells #[.int .i64 t1, .int .i32 n1] rT)) rT #[.int .i64 t2, .int .i32 n2] (w.heap.size + 1) (by simp)).alloc (.cells #[.int .i64 0, .int .i32 0] rT))
  have G := Lib.hid (Whole.made ((w.alloc (.cells #[.int .i64 t1, .int .i32 n1] rT)).alloc (.cells #[.int .i64 t2, .int .i32 n2] rT)) rT #[.int .i64 0, .int .i32 0] (w.heap.size + 2) (by simp))
  clear c0 c1 c2
  go_enter Try.func10, Try.ntmps10
  go_wp2_with fail
  generalize (((w.alloc (.cells #[.int .i64 t1, .int .i32 n1] rT)).alloc (.cells #[.int .i64 t2, .int .i32 n2] rT)).alloc (.cells #[.int .i64 0, .int .i32 0] rT)) = V at *
  refine (RT.out _).mono ?_
  rintro e y1 ⟨rfl, hb⟩
  have B1 := Lib.hid (BA.out.trans (hb.mono BA.out.size))
  have P01 := Lib.hid (P0.out.below hb P0.out.lt)
  have P11 := Lib.hid (P1.out.below hb P1.out.lt)
  have G1 := Lib.hid (G.out.below hb G.out.lt)
  clear hb
  have p00 : y1.cell? ⟨w.heap.size, 0, none⟩ = some (.int .i64 t1) := P01.out.cell 0
  have p01 : y1.cell? ⟨w.heap.size, 1, none⟩ = some (.int .i32 n1) := P01.out.cell 1
  have p10 : y1.cell? ⟨w.heap.size + 1, 0, none⟩ = some (.int .i64 t2) := P11.out.cell 0
  have p11 : y1.cell? ⟨w.heap.size + 1, 1, none⟩ = some (.int .i32 n2) := P11.out.cell 1
  have g0 : y1.cell? ⟨w.heap.size + 2, 0, none⟩ = some (.int .i64 0) := G1.out.cell 0
  have g1 : y1.cell? ⟨w.heap.size + 2, 1, none⟩ = some (.int .i32 0) := G1.out.cell 1
  have f0 := G1.out.free 0
  have f1 := G1.out.free 1
  have H := Lib.hid ((G1.out.store 0 (.int .i64 0)).store 1 (.int .i32 0))
  have HB := Lib.hid ((B1.out.setCell (p := ⟨w.heap.size + 2, 0, none⟩) (show w.heap.size ≤ w.heap.size + 2 by omega) (.int .i64 0)).setCell (p := ⟨w.heap.size + 2, 1, none⟩) (show w.heap.size ≤ w.heap.size + 2 by omega) (.int .i32 0))
  go_wp2_with fail
  have q0 := H.out.cell 0
  have q1 := H.out.cell 1
  refine bodyPost_ret (v := .tuple #[.agg #[.int .i64 0, .int .i32 0], .int .i64 91]) ?_ rfl ⟨by rw [HR.out]; rfl, HB.out⟩
  simp [results, Try.results10, go_sem, q0, q1]

end Go.Proofs.Ytmgjnalijmplcaa
