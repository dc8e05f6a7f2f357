/- Konst: the answers' One. -/
import Derived.Test.YtmgjnalijmplcaaKonD
import Derived.Test.YtmgjnalijmplcaaWordA
namespace Go.Proofs.Ytmgjnalijmplcaa
open Go.ChangeShapes Go.WideShapes Go.ChangeAt Go.RowKit
set_option linter.unusedVariables false
set_option linter.unusedSimpArgs false

set_option maxHeartbeats 8000000 in
set_option maxRecDepth 100000 in
theorem refone_0 (t n : Int) (w : World) (n0 : -2147483648 ≤ n) (n1 : n ≤ 2147483647) : Calls Try.prog 13 #[.string ⟨#[45]⟩, .agg #[.int .i64 t, .int .i32 n]] w fun e w' => e = .returned (kR (oneP 0 t n)) ∧ Below w.heap.size w w' := by
  have RD := Lib.hid (fun y => round_any (-n) y)
  cases h1 : (t == 1)
  case false =>
    have HR := Lib.hid (show oneP 0 t n = ⟨0, 0, 91⟩ from by show typedP (t == 1) 1 (wrap32 (-n)) = _; rw [h1]; rfl)
    have c0 := (Below.refl w.heap.size w).alloc (Nat.le_refl _) (.cells #[.int .i64 t, .int .i32 n] rT)
    have c1 := c0.alloc c0.size (.cells #[.int .i64 0, .int .i32 0] rT)
    have BA := Lib.hid c1
    have P0 := Lib.hid ((Whole.made w rT #[.int .i64 t, .int .i32 n] (w.heap.size) (by simp)).alloc (.cells #[.int .i64 0, .int .i32 0] rT))
    have G := Lib.hid (Whole.made (w.alloc (.cells #[.int .i64 t, .int .i32 n] rT)) rT #[.int .i64 0, .int .i32 0] (w.heap.size + 1) (by simp))
    clear c0 c1
    go_enter Try.func13, Try.ntmps13
    go_wp2_with fail
    have q0 := G.out.cell 0
    have q1 := G.out.cell 1
    refine bodyPost_ret (v := .tuple #[.agg #[.int .i64 0, .int .i32 0], .int .i64 91]) ?_ rfl ⟨by rw [HR.out]; rfl, BA.out⟩
    simp [results, Try.results13, go_sem, q0, q1]
  case true =>
    have HR := Lib.hid (show oneP 0 t n = ⟨1, wrap32 (-n), 0⟩ from by show typedP (t == 1) 1 (wrap32 (-n)) = _; rw [h1]; rfl)
    have c0 := (Below.refl w.heap.size w).alloc (Nat.le_refl _) (.cells #[.int .i64 t, .int .i32 n] rT)
    have c1 := c0.alloc c0.size (.cells #[.int .i64 1, .int .i32 (wrap32 (-n))] rT)
    have BA := Lib.hid c1
    have P0 := Lib.hid ((Whole.made w rT #[.int .i64 t, .int .i32 n] (w.heap.size) (by simp)).alloc (.cells #[.int .i64 1, .int .i32 (wrap32 (-n))] rT))
    have G := Lib.hid (Whole.made (w.alloc (.cells #[.int .i64 t, .int .i32 n] rT)) rT #[.int .i64 1, .int .i32 (wrap32 (-n))] (w.heap.size + 1) (by simp))
    clear c0 c1
    go_enter Try.func13, Try.ntmps13
    go_wp2_with fail
    refine (RD.out _).mono ?_
    rintro e w' ⟨rfl, rfl⟩
    go_wp2_with fail
    have q0 := G.out.cell 0
    have q1 := G.out.cell 1
    refine bodyPost_ret (v := .tuple #[.agg #[.int .i64 1, .int .i32 (wrap32 (-n))], .int .i64 0]) ?_ rfl ⟨by rw [HR.out]; rfl, BA.out⟩
    simp [results, Try.results13, go_sem, q0, q1]

theorem odd_rem (n : Int) : (n % 2 != 0) = (n.tmod 2 != 0) := by
  have e : n.tmod 2 = 0 ↔ n % 2 = 0 := (Int.dvd_iff_tmod_eq_zero (a := 2) (b := n)).symm.trans (Int.dvd_iff_emod_eq_zero (a := 2) (b := n))
  rw [Bool.eq_iff_iff]
  simp only [bne_iff_ne, ne_eq]
  exact not_congr e.symm

set_option maxHeartbeats 8000000 in
set_option maxRecDepth 100000 in
theorem refone_1 (t n : Int) (w : World) (n0 : -2147483648 ≤ n) (n1 : n ≤ 2147483647) : Calls Try.prog 13 #[.string ⟨#[78, 79, 84]⟩, .agg #[.int .i64 t, .int .i32 n]] w fun e w' => e = .returned (kR (oneP 1 t n)) ∧ Below w.heap.size w w' := by
  cases h1 : (t == 2)
  case false =>
    have HR := Lib.hid (show oneP 1 t n = ⟨0, 0, 91⟩ from by show typedP (t == 2) 2 (trP (n == 0)) = _; rw [h1]; rfl)
    have c0 := (Below.refl w.heap.size w).alloc (Nat.le_refl _) (.cells #[.int .i64 t, .int .i32 n] rT)
    have c1 := c0.alloc c0.size (.cells #[.int .i64 0, .int .i32 0] rT)
    have BA := Lib.hid c1
    have P0 := Lib.hid ((Whole.made w rT #[.int .i64 t, .int .i32 n] (w.heap.size) (by simp)).alloc (.cells #[.int .i64 0, .int .i32 0] rT))
    have G := Lib.hid (Whole.made (w.alloc (.cells #[.int .i64 t, .int .i32 n] rT)) rT #[.int .i64 0, .int .i32 0] (w.heap.size + 1) (by simp))
    clear c0 c1
    go_enter Try.func13, Try.ntmps13
    go_wp2_with fail
    have q0 := G.out.cell 0
    have q1 := G.out.cell 1
    refine bodyPost_ret (v := .tuple #[.agg #[.int .i64 0, .int .i32 0], .int .i64 91]) ?_ rfl ⟨by rw [HR.out]; rfl, BA.out⟩
    simp [results, Try.results13, go_sem, q0, q1]
  case true =>
    have HR := Lib.hid (show oneP 1 t n = ⟨2, trP (n == 0), 0⟩ from by show typedP (t == 2) 2 (trP (n == 0)) = _; rw [h1]; rfl)
    have TR := Lib.hid (fun y => reftruth_any (n == 0) y)
    generalize trP (n == 0) = m at *
    have c0 := (Below.refl w.heap.size w).alloc (Nat.le_refl _) (.cells #[.int .i64 t, .int .i32 n] rT)
    have c1 := c0.alloc c0.size (.cells #[.int .i64 0, .int .i32 0] rT)
    have BA := Lib.hid c1
    have P0 := Lib.hid ((Whole.made w rT #[.int .i64 t, .int .i32 n] (w.heap.size) (by simp)).alloc (.cells #[.int .i64 0, .int .i32 0] rT))
    have G := Lib.hid (Whole.made (w.alloc (.cells #[.int .i64 t, .int .i32 n] rT)) rT #[.int .i64 0, .int .i32 0] (w.heap.size + 1) (by simp))
    clear c0 c1
    go_enter Try.func13, Try.ntmps13
    go_wp2_with fail
    generalize ((w.alloc (.cells #[.int .i64 t, .int .i32 n] rT)).alloc (.cells #[.int .i64 0, .int .i32 0] rT)) = V at *
    refine (TR.out _).mono ?_
    rintro e y1 ⟨rfl, hb⟩
    have B1 := Lib.hid (BA.out.trans (hb.mono BA.out.size))
    have P01 := Lib.hid (P0.out.below hb P0.out.lt)
    have G1 := Lib.hid (G.out.below hb G.out.lt)
    clear hb
    have g0 : y1.cell? ⟨w.heap.size + 1, 0, none⟩ = some (.int .i64 0) := G1.out.cell 0
    have g1 : y1.cell? ⟨w.heap.size + 1, 1, none⟩ = some (.int .i32 0) := G1.out.cell 1
    have f0 := G1.out.free 0
    have f1 := G1.out.free 1
    have H := Lib.hid ((G1.out.store 0 (.int .i64 2)).store 1 (.int .i32 m))
    have HB := Lib.hid ((B1.out.setCell (p := ⟨w.heap.size + 1, 0, none⟩) (show w.heap.size ≤ w.heap.size + 1 by omega) (.int .i64 2)).setCell (p := ⟨w.heap.size + 1, 1, none⟩) (show w.heap.size ≤ w.heap.size + 1 by omega) (.int .i32 m))
    go_wp2_with fail
    have q0 := H.out.cell 0
    have q1 := H.out.cell 1
    refine bodyPost_ret (v := .tuple #[.agg #[.int .i64 2, .int .i32 m], .int .i64 0]) ?_ rfl ⟨by rw [HR.out]; rfl, HB.out⟩
    simp [results, Try.results13, go_sem, q0, q1]

set_option maxHeartbeats 8000000 in
set_option maxRecDepth 100000 in
theorem refone_2 (t n : Int) (w : World) (n0 : -2147483648 ≤ n) (n1 : n ≤ 2147483647) : Calls Try.prog 13 #[.string ⟨#[79, 68, 68]⟩, .agg #[.int .i64 t, .int .i32 n]] w fun e w' => e = .returned (kR (oneP 2 t n)) ∧ Below w.heap.size w w' := by
  have hodd : (n % 2 != 0) = (n.tmod 2 != 0) := odd_rem n
  cases h1 : (t == 1)
  case false =>
    have HR := Lib.hid (show oneP 2 t n = ⟨0, 0, 91⟩ from by show typedP (t == 1) 2 (trP (n % 2 != 0)) = _; rw [h1]; rfl)
    clear hodd
    have c0 := (Below.refl w.heap.size w).alloc (Nat.le_refl _) (.cells #[.int .i64 t, .int .i32 n] rT)
    have c1 := c0.alloc c0.size (.cells #[.int .i64 0, .int .i32 0] rT)
    have BA := Lib.hid c1
    have P0 := Lib.hid ((Whole.made w rT #[.int .i64 t, .int .i32 n] (w.heap.size) (by simp)).alloc (.cells #[.int .i64 0, .int .i32 0] rT))
    have G := Lib.hid (Whole.made (w.alloc (.cells #[.int .i64 t, .int .i32 n] rT)) rT #[.int .i64 0, .int .i32 0] (w.heap.size + 1) (by simp))
    clear c0 c1
    go_enter Try.func13, Try.ntmps13
    go_wp2_with fail
    have q0 := G.out.cell 0
    have q1 := G.out.cell 1
    refine bodyPost_ret (v := .tuple #[.agg #[.int .i64 0, .int .i32 0], .int .i64 91]) ?_ rfl ⟨by rw [HR.out]; rfl, BA.out⟩
    simp [results, Try.results13, go_sem, q0, q1]
  case true =>
    have HR := Lib.hid (show oneP 2 t n = ⟨2, trP (n.tmod 2 != 0), 0⟩ from by show typedP (t == 1) 2 (trP (n % 2 != 0)) = _; rw [h1, hodd]; rfl)
    clear hodd
    have TR := Lib.hid (fun y => reftruth_any (n.tmod 2 != 0) y)
    generalize trP (n.tmod 2 != 0) = m at *
    have c0 := (Below.refl w.heap.size w).alloc (Nat.le_refl _) (.cells #[.int .i64 t, .int .i32 n] rT)
    have c1 := c0.alloc c0.size (.cells #[.int .i64 0, .int .i32 0] rT)
    have BA := Lib.hid c1
    have P0 := Lib.hid ((Whole.made w rT #[.int .i64 t, .int .i32 n] (w.heap.size) (by simp)).alloc (.cells #[.int .i64 0, .int .i32 0] rT))
    have G := Lib.hid (Whole.made (w.alloc (.cells #[.int .i64 t, .int .i32 n] rT)) rT #[.int .i64 0, .int .i32 0] (w.heap.size + 1) (by simp))
    clear c0 c1
    go_enter Try.func13, Try.ntmps13
    go_wp2_with fail
    generalize ((w.alloc (.cells #[.int .i64 t, .int .i32 n] rT)).alloc (.cells #[.int .i64 0, .int .i32 0] rT)) = V at *
    refine (TR.out _).mono ?_
    rintro e y1 ⟨rfl, hb⟩
    have B1 := Lib.hid (BA.out.trans (hb.mono BA.out.size))
    have P01 := Lib.hid (P0.out.below hb P0.out.lt)
    have G1 := Lib.hid (G.out.below hb G.out.lt)
    clear hb
    have g0 : y1.cell? ⟨w.heap.size + 1, 0, none⟩ = some (.int .i64 0) := G1.out.cell 0
    have g1 : y1.cell? ⟨w.heap.size + 1, 1, none⟩ = some (.int .i32 0) := G1.out.cell 1
    have f0 := G1.out.free 0
    have f1 := G1.out.free 1
    have H := Lib.hid ((G1.out.store 0 (.int .i64 2)).store 1 (.int .i32 m))
    have HB := Lib.hid ((B1.out.setCell (p := ⟨w.heap.size + 1, 0, none⟩) (show w.heap.size ≤ w.heap.size + 1 by omega) (.int .i64 2)).setCell (p := ⟨w.heap.size + 1, 1, none⟩) (show w.heap.size ≤ w.heap.size + 1 by omega) (.int .i32 m))
    go_wp2_with fail
    have q0 := H.out.cell 0
    have q1 := H.out.cell 1
    refine bodyPost_ret (v := .tuple #[.agg #[.int .i64 2, .int .i32 m], .int .i64 0]) ?_ rfl ⟨by rw [HR.out]; rfl, HB.out⟩
    simp [results, Try.results13, go_sem, q0, q1]

set_option maxHeartbeats 8000000 in
set_option maxRecDepth 100000 in
theorem refone_3 (t n : Int) (w : World) (n0 : -2147483648 ≤ n) (n1 : n ≤ 2147483647) : Calls Try.prog 13 #[.string ⟨#[79, 82, 68]⟩, .agg #[.int .i64 t, .int .i32 n]] w fun e w' => e = .returned (kR (oneP 3 t n)) ∧ Below w.heap.size w w' := by
  clear n0 n1
  cases h2 : (t == 2)
  case true =>
    have HR := Lib.hid (one3 t n true (by rw [h2, Bool.or_true]))
    have c0 := (Below.refl w.heap.size w).alloc (Nat.le_refl _) (.cells #[.int .i64 t, .int .i32 n] rT)
    have c1 := c0.alloc c0.size (.cells #[.int .i64 1, .int .i32 n] rT)
    have BA := Lib.hid c1
    have P0 := Lib.hid ((Whole.made w rT #[.int .i64 t, .int .i32 n] (w.heap.size) (by simp)).alloc (.cells #[.int .i64 1, .int .i32 n] rT))
    have G := Lib.hid (Whole.made (w.alloc (.cells #[.int .i64 t, .int .i32 n] rT)) rT #[.int .i64 1, .int .i32 n] (w.heap.size + 1) (by simp))
    clear c0 c1
    go_enter Try.func13, Try.ntmps13
    go_wp2_with fail
    have q0 := G.out.cell 0
    have q1 := G.out.cell 1
    refine bodyPost_ret (v := .tuple #[.agg #[.int .i64 1, .int .i32 n], .int .i64 0]) ?_ rfl ⟨by rw [HR.out]; rfl, BA.out⟩
    simp [results, Try.results13, go_sem, q0, q1]
  cases h3 : (t == 3)
  case true =>
    have HR := Lib.hid (one3 t n true (by rw [h3]; rfl))
    have c0 := (Below.refl w.heap.size w).alloc (Nat.le_refl _) (.cells #[.int .i64 t, .int .i32 n] rT)
    have c1 := c0.alloc c0.size (.cells #[.int .i64 1, .int .i32 n] rT)
    have BA := Lib.hid c1
    have P0 := Lib.hid ((Whole.made w rT #[.int .i64 t, .int .i32 n] (w.heap.size) (by simp)).alloc (.cells #[.int .i64 1, .int .i32 n] rT))
    have G := Lib.hid (Whole.made (w.alloc (.cells #[.int .i64 t, .int .i32 n] rT)) rT #[.int .i64 1, .int .i32 n] (w.heap.size + 1) (by simp))
    clear c0 c1
    go_enter Try.func13, Try.ntmps13
    go_wp2_with fail
    have q0 := G.out.cell 0
    have q1 := G.out.cell 1
    refine bodyPost_ret (v := .tuple #[.agg #[.int .i64 1, .int .i32 n], .int .i64 0]) ?_ rfl ⟨by rw [HR.out]; rfl, BA.out⟩
    simp [results, Try.results13, go_sem, q0, q1]
  have HR := Lib.hid (one3 t n false (by rw [h2, h3]; rfl))
  have c0 := (Below.refl w.heap.size w).alloc (Nat.le_refl _) (.cells #[.int .i64 t, .int .i32 n] rT)
  have c1 := c0.alloc c0.size (.cells #[.int .i64 0, .int .i32 0] rT)
  have BA := Lib.hid c1
  have P0 := Lib.hid ((Whole.made w rT #[.int .i64 t, .int .i32 n] (w.heap.size) (by simp)).alloc (.cells #[.int .i64 0, .int .i32 0] rT))
  have G := Lib.hid (Whole.made (w.alloc (.cells #[.int .i64 t, .int .i32 n] rT)) rT #[.int .i64 0, .int .i32 0] (w.heap.size + 1) (by simp))
  clear c0 c1
  go_enter Try.func13, Try.ntmps13
  go_wp2_with fail
  have q0 := G.out.cell 0
  have q1 := G.out.cell 1
  refine bodyPost_ret (v := .tuple #[.agg #[.int .i64 0, .int .i32 0], .int .i64 91]) ?_ rfl ⟨by rw [HR.out]; rfl, BA.out⟩
  simp [results, Try.results13, go_sem, q0, q1]

set_option maxHeartbeats 8000000 in
set_option maxRecDepth 100000 in
theorem refone_4 (t n : Int) (w : World) (n0 : -2147483648 ≤ n) (n1 : n ≤ 2147483647) : Calls Try.prog 13 #[.string ⟨#[67, 72, 82]⟩, .agg #[.int .i64 t, .int .i32 n]] w fun e w' => e = .returned (kR (oneP 4 t n)) ∧ Below w.heap.size w w' := by
  cases h1 : (t == 1)
  case false =>
    have HR := Lib.hid (show oneP 4 t n = ⟨0, 0, 91⟩ from by rw [one4_good (by rw [h1]; rfl), h1]; rfl)
    have c0 := (Below.refl w.heap.size w).alloc (Nat.le_refl _) (.cells #[.int .i64 t, .int .i32 n] rT)
    have c1 := c0.alloc c0.size (.cells #[.int .i64 0, .int .i32 0] rT)
    have BA := Lib.hid c1
    have P0 := Lib.hid ((Whole.made w rT #[.int .i64 t, .int .i32 n] (w.heap.size) (by simp)).alloc (.cells #[.int .i64 0, .int .i32 0] rT))
    have G := Lib.hid (Whole.made (w.alloc (.cells #[.int .i64 t, .int .i32 n] rT)) rT #[.int .i64 0, .int .i32 0] (w.heap.size + 1) (by simp))
    clear c0 c1
    go_enter Try.func13, Try.ntmps13
    go_wp2_with fail
    have q0 := G.out.cell 0
    have q1 := G.out.cell 1
    refine bodyPost_ret (v := .tuple #[.agg #[.int .i64 0, .int .i32 0], .int .i64 91]) ?_ rfl ⟨by rw [HR.out]; rfl, BA.out⟩
    simp [results, Try.results13, go_sem, q0, q1]
  cases h2 : decide (n < 0)
  case true =>
    have HR := Lib.hid (one4_bad (t := t) (n := n) (by rw [h1]; unfold charB; have := of_decide_eq_true h2; simp; omega))
    have c0 := (Below.refl w.heap.size w).alloc (Nat.le_refl _) (.cells #[.int .i64 t, .int .i32 n] rT)
    have c1 := c0.alloc c0.size (.cells #[.int .i64 0, .int .i32 0] rT)
    have BA := Lib.hid c1
    have P0 := Lib.hid ((Whole.made w rT #[.int .i64 t, .int .i32 n] (w.heap.size) (by simp)).alloc (.cells #[.int .i64 0, .int .i32 0] rT))
    have G := Lib.hid (Whole.made (w.alloc (.cells #[.int .i64 t, .int .i32 n] rT)) rT #[.int .i64 0, .int .i32 0] (w.heap.size + 1) (by simp))
    clear c0 c1
    go_enter Try.func13, Try.ntmps13
    go_wp2_with fail
    have q0 := G.out.cell 0
    have q1 := G.out.cell 1
    refine bodyPost_ret (v := .tuple #[.agg #[.int .i64 0, .int .i32 0], .int .i64 90]) ?_ rfl ⟨by rw [HR.out]; rfl, BA.out⟩
    simp [results, Try.results13, go_sem, q0, q1]
  cases h3 : decide (255 < n)
  case true =>
    have HR := Lib.hid (one4_bad (t := t) (n := n) (by rw [h1]; unfold charB; have := of_decide_eq_true h3; simp; omega))
    have c0 := (Below.refl w.heap.size w).alloc (Nat.le_refl _) (.cells #[.int .i64 t, .int .i32 n] rT)
    have c1 := c0.alloc c0.size (.cells #[.int .i64 0, .int .i32 0] rT)
    have BA := Lib.hid c1
    have P0 := Lib.hid ((Whole.made w rT #[.int .i64 t, .int .i32 n] (w.heap.size) (by simp)).alloc (.cells #[.int .i64 0, .int .i32 0] rT))
    have G := Lib.hid (Whole.made (w.alloc (.cells #[.int .i64 t, .int .i32 n] rT)) rT #[.int .i64 0, .int .i32 0] (w.heap.size + 1) (by simp))
    clear c0 c1
    go_enter Try.func13, Try.ntmps13
    go_wp2_with fail
    have q0 := G.out.cell 0
    have q1 := G.out.cell 1
    refine bodyPost_ret (v := .tuple #[.agg #[.int .i64 0, .int .i32 0], .int .i64 90]) ?_ rfl ⟨by rw [HR.out]; rfl, BA.out⟩
    simp [results, Try.results13, go_sem, q0, q1]
  have HR := Lib.hid (show oneP 4 t n = ⟨3, n, 0⟩ from by rw [one4_good (by rw [h1]; unfold charB; have := of_decide_eq_false h2; have := of_decide_eq_false h3; simp; omega), h1]; rfl)
  have c0 := (Below.refl w.heap.size w).alloc (Nat.le_refl _) (.cells #[.int .i64 t, .int .i32 n] rT)
  have c1 := c0.alloc c0.size (.cells #[.int .i64 3, .int .i32 n] rT)
  have BA := Lib.hid c1
  have P0 := Lib.hid ((Whole.made w rT #[.int .i64 t, .int .i32 n] (w.heap.size) (by simp)).alloc (.cells #[.int .i64 3, .int .i32 n] rT))
  have G := Lib.hid (Whole.made (w.alloc (.cells #[.int .i64 t, .int .i32 n] rT)) rT #[.int .i64 3, .int .i32 n] (w.heap.size + 1) (by simp))
  clear c0 c1
  go_enter Try.func13, Try.ntmps13
  go_wp2_with fail
  have q0 := G.out.cell 0
  have q1 := G.out.cell 1
  refine bodyPost_ret (v := .tuple #[.agg #[.int .i64 3, .int .i32 n], .int .i64 0]) ?_ rfl ⟨by rw [HR.out]; rfl, BA.out⟩
  simp [results, Try.results13, go_sem, q0, q1]

set_option maxHeartbeats 8000000 in
set_option maxRecDepth 100000 in
theorem refone_none (s : ByteArray) (t n : Int) (w : World) (h0 : (s.toList == [45]) = false) (h1 : (s.toList == [78, 79, 84]) = false) (h2 : (s.toList == [79, 68, 68]) = false) (h3 : (s.toList == [79, 82, 68]) = false) (h4 : (s.toList == [67, 72, 82]) = false) : Calls Try.prog 13 #[.string s, .agg #[.int .i64 t, .int .i32 n]] w fun e w' => e = .returned (kR (oneP 5 t n)) ∧ Below w.heap.size w w' := by
  have c0 := (Below.refl w.heap.size w).alloc (Nat.le_refl _) (.cells #[.int .i64 t, .int .i32 n] rT)
  have c1 := c0.alloc c0.size (.cells #[.int .i64 0, .int .i32 0] rT)
  have BA := Lib.hid c1
  have P0 := Lib.hid ((Whole.made w rT #[.int .i64 t, .int .i32 n] (w.heap.size) (by simp)).alloc (.cells #[.int .i64 0, .int .i32 0] rT))
  have G := Lib.hid (Whole.made (w.alloc (.cells #[.int .i64 t, .int .i32 n] rT)) rT #[.int .i64 0, .int .i32 0] (w.heap.size + 1) (by simp))
  clear c0 c1
  go_enter Try.func13, Try.ntmps13
  go_wp2_with fail
  have q0 := G.out.cell 0
  have q1 := G.out.cell 1
  refine bodyPost_ret (v := .tuple #[.agg #[.int .i64 0, .int .i32 0], .int .i64 110]) ?_ rfl ⟨rfl, BA.out⟩
  simp [results, Try.results13, go_sem, q0, q1]

end Go.Proofs.Ytmgjnalijmplcaa
