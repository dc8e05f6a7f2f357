/- Konst: the answers' Two. -/
import Derived.Test.YtmgjnalijmplcaaKonC
namespace Go.Proofs.Ytmgjnalijmplcaa
open Go.ChangeShapes Go.WideShapes Go.ChangeAt Go.RowKit
set_option linter.unusedVariables false
set_option linter.unusedSimpArgs false

set_option maxHeartbeats 8000000 in
set_option maxRecDepth 100000 in
theorem reftwo_0 (t1 n1 t2 n2 : Int) (w : World) (n0 : -2147483648 ≤ n1) (n3 : n1 ≤ 2147483647) (n4 : -2147483648 ≤ n2) (n5 : n2 ≤ 2147483647) : Calls Try.prog 10 #[.string ⟨#[43]⟩, .agg #[.int .i64 t1, .int .i32 n1], .agg #[.int .i64 t2, .int .i32 n2]] w fun e w' => e = .returned (kR (twoP 0 t1 n1 t2 n2)) ∧ Below w.heap.size w w' := by
  have RK := Lib.hid (fun y => refreck_0 n1 n2 y n0 n3 n4 n5)
  clear n0 n3 n4 n5
  show Calls _ _ _ _ fun e w' => e = .returned (kR (reckonP t1 t2 (reckP 0 n1 n2))) ∧ _
  generalize reckP 0 n1 n2 = r at *
  cases h1 : (t1 != 1)
  case true =>
    have HR := Lib.hid (reckon_bad (t1 := t1) (t2 := t2) (r := r) (by rw [h1]; rfl))
    have c0 := (Below.refl w.heap.size w).alloc (Nat.le_refl _) (.cells #[.int .i64 t1, .int .i32 n1] rT)
    have c1 := c0.alloc c0.size (.cells #[.int .i64 t2, .int .i32 n2] rT)
    have c2 := c1.alloc c1.size (.cells #[.int .i64 0, .int .i32 0] rT)
    have BA := Lib.hid c2
    have P0 := Lib.hid (((Whole.made w rT #[.int .i64 t1, .int .i32 n1] (w.heap.size) (by simp)).alloc (.cells #[.int .i64 t2, .int .i32 n2] rT)).alloc (.cells #[.int .i64 0, .int .i32 0] rT))
    have P1 := Lib.hid ((Whole.made (w.alloc (.cells #[.int .i64 t1, .int .i32 n1] rT)) rT #[.int .i64 t2, .int .i32 n2] (w.heap.size + 1) (by simp)).alloc (.cells #[.int .i64 0, .int .i32 0] rT))
    have G := Lib.hid (Whole.made ((w.alloc (.cells #[.int .i64 t1, .int .i32 n1] rT)).alloc (.cells #[.int .i64 t2, .int .i32 n2] rT)) rT #[.int .i64 0, .int .i32 0] (w.heap.size + 2) (by simp))
    clear c0 c1 c2
    go_enter Try.func10, Try.ntmps10
    go_wp2_with fail
    have q0 := G.out.cell 0
    have q1 := G.out.cell 1
    refine bodyPost_ret (v := .tuple #[.agg #[.int .i64 0, .int .i32 0], .int .i64 91]) ?_ rfl ⟨by rw [HR.out]; rfl, BA.out⟩
    simp [results, Try.results10, go_sem, q0, q1]
  cases h2 : (t2 != 1)
  case true =>
    have HR := Lib.hid (reckon_bad (t1 := t1) (t2 := t2) (r := r) (by rw [h1, h2]; rfl))
    have c0 := (Below.refl w.heap.size w).alloc (Nat.le_refl _) (.cells #[.int .i64 t1, .int .i32 n1] rT)
    have c1 := c0.alloc c0.size (.cells #[.int .i64 t2, .int .i32 n2] rT)
    have c2 := c1.alloc c1.size (.cells #[.int .i64 0, .int .i32 0] rT)
    have BA := Lib.hid c2
    have P0 := Lib.hid (((Whole.made w rT #[.int .i64 t1, .int .i32 n1] (w.heap.size) (by simp)).alloc (.cells #[.int .i64 t2, .int .i32 n2] rT)).alloc (.cells #[.int .i64 0, .int .i32 0] rT))
    have P1 := Lib.hid ((Whole.made (w.alloc (.cells #[.int .i64 t1, .int .i32 n1] rT)) rT #[.int .i64 t2, .int .i32 n2] (w.heap.size + 1) (by simp)).alloc (.cells #[.int .i64 0, .int .i32 0] rT))
    have G := Lib.hid (Whole.made ((w.alloc (.cells #[.int .i64 t1, .int .i32 n1] rT)).alloc (.cells #[.int .i64 t2, .int .i32 n2] rT)) rT #[.int .i64 0, .int .i32 0] (w.heap.size + 2) (by simp))
    clear c0 c1 c2
    go_enter Try.func10, Try.ntmps10
    go_wp2_with fail
    have q0 := G.out.cell 0
    have q1 := G.out.cell 1
    refine bodyPost_ret (v := .tuple #[.agg #[.int .i64 0, .int .i32 0], .int .i64 91]) ?_ rfl ⟨by rw [HR.out]; rfl, BA.out⟩
    simp [results, Try.results10, go_sem, q0, q1]
  have h12 : ((t1 != 1) || (t2 != 1)) = false := by rw [h1, h2]; rfl
  rcases r with _ | n
  case none =>
    have CR := Lib.hid (fun y => show Calls Try.prog 21 #[.string ⟨#[43]⟩, .int .i32 n1, .int .i32 n2] y fun e w' => e = .returned (.tuple #[.int .i32 0, .bool false]) ∧ y = w' from RK.out y)
    have HR := Lib.hid (reckon_zero h12)
    clear h12 RK
    have c0 := (Below.refl w.heap.size w).alloc (Nat.le_refl _) (.cells #[.int .i64 t1, .int .i32 n1] rT)
    have c1 := c0.alloc c0.size (.cells #[.int .i64 t2, .int .i32 n2] rT)
    have c2 := c1.alloc c1.size (.cells #[.int .i64 0, .int .i32 0] rT)
    have BA := Lib.hid c2
    have P0 := Lib.hid (((Whole.made w rT #[.int .i64 t1, .int .i32 n1] (w.heap.size) (by simp)).alloc (.cells #[.int .i64 t2, .int .i32 n2] rT)).alloc (.cells #[.int .i64 0, .int .i32 0] rT))
    have P1 := Lib.hid ((Whole.made (w.alloc (.cells #[.int .i64 t1, .int .i32 n1] rT)) rT #[.int .i64 t2, .int .i32 n2] (w.heap.size + 1) (by simp)).alloc (.cells #[.int .i64 0, .int .i32 0] rT))
    have G := Lib.hid (Whole.made ((w.alloc (.cells #[.int .i64 t1, .int .i32 n1] rT)).alloc (.cells #[.int .i64 t2, .int .i32 n2] rT)) rT #[.int .i64 0, .int .i32 0] (w.heap.size + 2) (by simp))
    clear c0 c1 c2
    go_enter Try.func10, Try.ntmps10
    go_wp2_with fail
    refine (CR.out _).mono ?_
    rintro e w' ⟨rfl, rfl⟩
    go_wp2_with fail
    have q0 := G.out.cell 0
    have q1 := G.out.cell 1
    refine bodyPost_ret (v := .tuple #[.agg #[.int .i64 0, .int .i32 0], .int .i64 10]) ?_ rfl ⟨by rw [HR.out]; rfl, BA.out⟩
    simp [results, Try.results10, go_sem, q0, q1]
  case some =>
    have CR := Lib.hid (fun y => show Calls Try.prog 21 #[.string ⟨#[43]⟩, .int .i32 n1, .int .i32 n2] y fun e w' => e = .returned (.tuple #[.int .i32 n, .bool true]) ∧ y = w' from RK.out y)
    have HR := Lib.hid (reckon_good (n := n) h12)
    clear h12 RK
    have c0 := (Below.refl w.heap.size w).alloc (Nat.le_refl _) (.cells #[.int .i64 t1, .int .i32 n1] rT)
    have c1 := c0.alloc c0.size (.cells #[.int .i64 t2, .int .i32 n2] rT)
    have c2 := c1.alloc c1.size (.cells #[.int .i64 1, .int .i32 n] rT)
    have BA := Lib.hid c2
    have P0 := Lib.hid (((Whole.made w rT #[.int .i64 t1, .int .i32 n1] (w.heap.size) (by simp)).alloc (.cells #[.int .i64 t2, .int .i32 n2] rT)).alloc (.cells #[.int .i64 1, .int .i32 n] rT))
    have P1 := Lib.hid ((Whole.made (w.alloc (.cells #[.int .i64 t1, .int .i32 n1] rT)) rT #[.int .i64 t2, .int .i32 n2] (w.heap.size + 1) (by simp)).alloc (.cells #[.int .i64 1, .int .i32 n] rT))
    have G := Lib.hid (Whole.made ((w.alloc (.cells #[.int .i64 t1, .int .i32 n1] rT)).alloc (.cells #[.int .i64 t2, .int .i32 n2] rT)) rT #[.int .i64 1, .int .i32 n] (w.heap.size + 2) (by simp))
    clear c0 c1 c2
    go_enter Try.func10, Try.ntmps10
    go_wp2_with fail
    refine (CR.out _).mono ?_
    rintro e w' ⟨rfl, rfl⟩
    go_wp2_with fail
    have q0 := G.out.cell 0
    have q1 := G.out.cell 1
    refine bodyPost_ret (v := .tuple #[.agg #[.int .i64 1, .int .i32 n], .int .i64 0]) ?_ rfl ⟨by rw [HR.out]; rfl, BA.out⟩
    simp [results, Try.results10, go_sem, q0, q1]

set_option maxHeartbeats 8000000 in
set_option maxRecDepth 100000 in
theorem reftwo_1 (t1 n1 t2 n2 : Int) (w : World) (n0 : -2147483648 ≤ n1) (n3 : n1 ≤ 2147483647) (n4 : -2147483648 ≤ n2) (n5 : n2 ≤ 2147483647) : Calls Try.prog 10 #[.string ⟨#[45]⟩, .agg #[.int .i64 t1, .int .i32 n1], .agg #[.int .i64 t2, .int .i32 n2]] w fun e w' => e = .returned (kR (twoP 1 t1 n1 t2 n2)) ∧ Below w.heap.size w w' := by
  have RK := Lib.hid (fun y => refreck_1 n1 n2 y n0 n3 n4 n5)
  clear n0 n3 n4 n5
  show Calls _ _ _ _ fun e w' => e = .returned (kR (reckonP t1 t2 (reckP 1 n1 n2))) ∧ _
  generalize reckP 1 n1 n2 = r at *
  cases h1 : (t1 != 1)
  case true =>
    have HR := Lib.hid (reckon_bad (t1 := t1) (t2 := t2) (r := r) (by rw [h1]; rfl))
    have c0 := (Below.refl w.heap.size w).alloc (Nat.le_refl _) (.cells #[.int .i64 t1, .int .i32 n1] rT)
    have c1 := c0.alloc c0.size (.cells #[.int .i64 t2, .int .i32 n2] rT)
    have c2 := c1.alloc c1.size (.cells #[.int .i64 0, .int .i32 0] rT)
    have BA := Lib.hid c2
    have P0 := Lib.hid (((Whole.made w rT #[.int .i64 t1, .int .i32 n1] (w.heap.size) (by simp)).alloc (.cells #[.int .i64 t2, .int .i32 n2] rT)).alloc (.cells #[.int .i64 0, .int .i32 0] rT))
    have P1 := Lib.hid ((Whole.made (w.alloc (.cells #[.int .i64 t1, .int .i32 n1] rT)) rT #[.int .i64 t2, .int .i32 n2] (w.heap.size + 1) (by simp)).alloc (.cells #[.int .i64 0, .int .i32 0] rT))
    have G := Lib.hid (Whole.made ((w.alloc (.cells #[.int .i64 t1, .int .i32 n1] rT)).alloc (.cells #[.int .i64 t2, .int .i32 n2] rT)) rT #[.int .i64 0, .int .i32 0] (w.heap.size + 2) (by simp))
    clear c0 c1 c2
    go_enter Try.func10, Try.ntmps10
    go_wp2_with fail
    have q0 := G.out.cell 0
    have q1 := G.out.cell 1
    refine bodyPost_ret (v := .tuple #[.agg #[.int .i64 0, .int .i32 0], .int .i64 91]) ?_ rfl ⟨by rw [HR.out]; rfl, BA.out⟩
    simp [results, Try.results10, go_sem, q0, q1]
  cases h2 : (t2 != 1)
  case true =>
    have HR := Lib.hid (reckon_bad (t1 := t1) (t2 := t2) (r := r) (by rw [h1, h2]; rfl))
    have c0 := (Below.refl w.heap.size w).alloc (Nat.le_refl _) (.cells #[.int .i64 t1, .int .i32 n1] rT)
    have c1 := c0.alloc c0.size (.cells #[.int .i64 t2, .int .i32 n2] rT)
    have c2 := c1.alloc c1.size (.cells #[.int .i64 0, .int .i32 0] rT)
    have BA := Lib.hid c2
    have P0 := Lib.hid (((Whole.made w rT #[.int .i64 t1, .int .i32 n1] (w.heap.size) (by simp)).alloc (.cells #[.int .i64 t2, .int .i32 n2] rT)).alloc (.cells #[.int .i64 0, .int .i32 0] rT))
    have P1 := Lib.hid ((Whole.made (w.alloc (.cells #[.int .i64 t1, .int .i32 n1] rT)) rT #[.int .i64 t2, .int .i32 n2] (w.heap.size + 1) (by simp)).alloc (.cells #[.int .i64 0, .int .i32 0] rT))
    have G := Lib.hid (Whole.made ((w.alloc (.cells #[.int .i64 t1, .int .i32 n1] rT)).alloc (.cells #[.int .i64 t2, .int .i32 n2] rT)) rT #[.int .i64 0, .int .i32 0] (w.heap.size + 2) (by simp))
    clear c0 c1 c2
    go_enter Try.func10, Try.ntmps10
    go_wp2_with fail
    have q0 := G.out.cell 0
    have q1 := G.out.cell 1
    refine bodyPost_ret (v := .tuple #[.agg #[.int .i64 0, .int .i32 0], .int .i64 91]) ?_ rfl ⟨by rw [HR.out]; rfl, BA.out⟩
    simp [results, Try.results10, go_sem, q0, q1]
  have h12 : ((t1 != 1) || (t2 != 1)) = false := by rw [h1, h2]; rfl
  rcases r with _ | n
  case none =>
    have CR := Lib.hid (fun y => show Calls Try.prog 21 #[.string ⟨#[45]⟩, .int .i32 n1, .int .i32 n2] y fun e w' => e = .returned (.tuple #[.int .i32 0, .bool false]) ∧ y = w' from RK.out y)
    have HR := Lib.hid (reckon_zero h12)
    clear h12 RK
    have c0 := (Below.refl w.heap.size w).alloc (Nat.le_refl _) (.cells #[.int .i64 t1, .int .i32 n1] rT)
    have c1 := c0.alloc c0.size (.cells #[.int .i64 t2, .int .i32 n2] rT)
    have c2 := c1.alloc c1.size (.cells #[.int .i64 0, .int .i32 0] rT)
    have BA := Lib.hid c2
    have P0 := Lib.hid (((Whole.made w rT #[.int .i64 t1, .int .i32 n1] (w.heap.size) (by simp)).alloc (.cells #[.int .i64 t2, .int .i32 n2] rT)).alloc (.cells #[.int .i64 0, .int .i32 0] rT))
    have P1 := Lib.hid ((Whole.made (w.alloc (.cells #[.int .i64 t1, .int .i32 n1] rT)) rT #[.int .i64 t2, .int .i32 n2] (w.heap.size + 1) (by simp)).alloc (.cells #[.int .i64 0, .int .i32 0] rT))
    have G := Lib.hid (Whole.made ((w.alloc (.cells #[.int .i64 t1, .int .i32 n1] rT)).alloc (.cells #[.int .i64 t2, .int .i32 n2] rT)) rT #[.int .i64 0, .int .i32 0] (w.heap.size + 2) (by simp))
    clear c0 c1 c2
    go_enter Try.func10, Try.ntmps10
    go_wp2_with fail
    refine (CR.out _).mono ?_
    rintro e w' ⟨rfl, rfl⟩
    go_wp2_with fail
    have q0 := G.out.cell 0
    have q1 := G.out.cell 1
    refine bodyPost_ret (v := .tuple #[.agg #[.int .i64 0, .int .i32 0], .int .i64 10]) ?_ rfl ⟨by rw [HR.out]; rfl, BA.out⟩
    simp [results, Try.results10, go_sem, q0, q1]
  case some =>
    have CR := Lib.hid (fun y => show Calls Try.prog 21 #[.string ⟨#[45]⟩, .int .i32 n1, .int .i32 n2] y fun e w' => e = .returned (.tuple #[.int .i32 n, .bool true]) ∧ y = w' from RK.out y)
    have HR := Lib.hid (reckon_good (n := n) h12)
    clear h12 RK
    have c0 := (Below.refl w.heap.size w).alloc (Nat.le_refl _) (.cells #[.int .i64 t1, .int .i32 n1] rT)
    have c1 := c0.alloc c0.size (.cells #[.int .i64 t2, .int .i32 n2] rT)
    have c2 := c1.alloc c1.size (.cells #[.int .i64 1, .int .i32 n] rT)
    have BA := Lib.hid c2
    have P0 := Lib.hid (((Whole.made w rT #[.int .i64 t1, .int .i32 n1] (w.heap.size) (by simp)).alloc (.cells #[.int .i64 t2, .int .i32 n2] rT)).alloc (.cells #[.int .i64 1, .int .i32 n] rT))
    have P1 := Lib.hid ((Whole.made (w.alloc (.cells #[.int .i64 t1, .int .i32 n1] rT)) rT #[.int .i64 t2, .int .i32 n2] (w.heap.size + 1) (by simp)).alloc (.cells #[.int .i64 1, .int .i32 n] rT))
    have G := Lib.hid (Whole.made ((w.alloc (.cells #[.int .i64 t1, .int .i32 n1] rT)).alloc (.cells #[.int .i64 t2, .int .i32 n2] rT)) rT #[.int .i64 1, .int .i32 n] (w.heap.size + 2) (by simp))
    clear c0 c1 c2
    go_enter Try.func10, Try.ntmps10
    go_wp2_with fail
    refine (CR.out _).mono ?_
    rintro e w' ⟨rfl, rfl⟩
    go_wp2_with fail
    have q0 := G.out.cell 0
    have q1 := G.out.cell 1
    refine bodyPost_ret (v := .tuple #[.agg #[.int .i64 1, .int .i32 n], .int .i64 0]) ?_ rfl ⟨by rw [HR.out]; rfl, BA.out⟩
    simp [results, Try.results10, go_sem, q0, q1]

set_option maxHeartbeats 8000000 in
set_option maxRecDepth 100000 in
theorem reftwo_2 (t1 n1 t2 n2 : Int) (w : World) (n0 : -2147483648 ≤ n1) (n3 : n1 ≤ 2147483647) (n4 : -2147483648 ≤ n2) (n5 : n2 ≤ 2147483647) : Calls Try.prog 10 #[.string ⟨#[42]⟩, .agg #[.int .i64 t1, .int .i32 n1], .agg #[.int .i64 t2, .int .i32 n2]] w fun e w' => e = .returned (kR (twoP 2 t1 n1 t2 n2)) ∧ Below w.heap.size w w' := by
  have RK := Lib.hid (fun y => refreck_2 n1 n2 y n0 n3 n4 n5)
  clear n0 n3 n4 n5
  show Calls _ _ _ _ fun e w' => e = .returned (kR (reckonP t1 t2 (reckP 2 n1 n2))) ∧ _
  generalize reckP 2 n1 n2 = r at *
  cases h1 : (t1 != 1)
  case true =>
    have HR := Lib.hid (reckon_bad (t1 := t1) (t2 := t2) (r := r) (by rw [h1]; rfl))
    have c0 := (Below.refl w.heap.size w).alloc (Nat.le_refl _) (.cells #[.int .i64 t1, .int .i32 n1] rT)
    have c1 := c0.alloc c0.size (.cells #[.int .i64 t2, .int .i32 n2] rT)
    have c2 := c1.alloc c1.size (.cells #[.int .i64 0, .int .i32 0] rT)
    have BA := Lib.hid c2
    have P0 := Lib.hid (((Whole.made w rT #[.int .i64 t1, .int .i32 n1] (w.heap.size) (by simp)).alloc (.cells #[.int .i64 t2, .int .i32 n2] rT)).alloc (.cells #[.int .i64 0, .int .i32 0] rT))
    have P1 := Lib.hid ((Whole.made (w.alloc (.cells #[.int .i64 t1, .int .i32 n1] rT)) rT #[.int .i64 t2, .int .i32 n2] (w.heap.size + 1) (by simp)).alloc (.cells #[.int .i64 0, .int .i32 0] rT))
    have G := Lib.hid (Whole.made ((w.alloc (.cells #[.int .i64 t1, .int .i32 n1] rT)).alloc (.cells #[.int .i64 t2, .int .i32 n2] rT)) rT #[.int .i64 0, .int .i32 0] (w.heap.size + 2) (by simp))
    clear c0 c1 c2
    go_enter Try.func10, Try.ntmps10
    go_wp2_with fail
    have q0 := G.out.cell 0
    have q1 := G.out.cell 1
    refine bodyPost_ret (v := .tuple #[.agg #[.int .i64 0, .int .i32 0], .int .i64 91]) ?_ rfl ⟨by rw [HR.out]; rfl, BA.out⟩
    simp [results, Try.results10, go_sem, q0, q1]
  cases h2 : (t2 != 1)
  case true =>
    have HR := Lib.hid (reckon_bad (t1 := t1) (t2 := t2) (r := r) (by rw [h1, h2]; rfl))
    have c0 := (Below.refl w.heap.size w).alloc (Nat.le_refl _) (.cells #[.int .i64 t1, .int .i32 n1] rT)
    have c1 := c0.alloc c0.size (.cells #[.int .i64 t2, .int .i32 n2] rT)
    have c2 := c1.alloc c1.size (.cells #[.int .i64 0, .int .i32 0] rT)
    have BA := Lib.hid c2
    have P0 := Lib.hid (((Whole.made w rT #[.int .i64 t1, .int .i32 n1] (w.heap.size) (by simp)).alloc (.cells #[.int .i64 t2, .int .i32 n2] rT)).alloc (.cells #[.int .i64 0, .int .i32 0] rT))
    have P1 := Lib.hid ((Whole.made (w.alloc (.cells #[.int .i64 t1, .int .i32 n1] rT)) rT #[.int .i64 t2, .int .i32 n2] (w.heap.size + 1) (by simp)).alloc (.cells #[.int .i64 0, .int .i32 0] rT))
    have G := Lib.hid (Whole.made ((w.alloc (.cells #[.int .i64 t1, .int .i32 n1] rT)).alloc (.cells #[.int .i64 t2, .int .i32 n2] rT)) rT #[.int .i64 0, .int .i32 0] (w.heap.size + 2) (by simp))
    clear c0 c1 c2
    go_enter Try.func10, Try.ntmps10
    go_wp2_with fail
    have q0 := G.out.cell 0
    have q1 := G.out.cell 1
    refine bodyPost_ret (v := .tuple #[.agg #[.int .i64 0, .int .i32 0], .int .i64 91]) ?_ rfl ⟨by rw [HR.out]; rfl, BA.out⟩
    simp [results, Try.results10, go_sem, q0, q1]
  have h12 : ((t1 != 1) || (t2 != 1)) = false := by rw [h1, h2]; rfl
  rcases r with _ | n
  case none =>
    have CR := Lib.hid (fun y => show Calls Try.prog 21 #[.string ⟨#[42]⟩, .int .i32 n1, .int .i32 n2] y fun e w' => e = .returned (.tuple #[.int .i32 0, .bool false]) ∧ y = w' from RK.out y)
    have HR := Lib.hid (reckon_zero h12)
    clear h12 RK
    have c0 := (Below.refl w.heap.size w).alloc (Nat.le_refl _) (.cells #[.int .i64 t1, .int .i32 n1] rT)
    have c1 := c0.alloc c0.size (.cells #[.int .i64 t2, .int .i32 n2] rT)
    have c2 := c1.alloc c1.size (.cells #[.int .i64 0, .int .i32 0] rT)
    have BA := Lib.hid c2
    have P0 := Lib.hid (((Whole.made w rT #[.int .i64 t1, .int .i32 n1] (w.heap.size) (by simp)).alloc (.cells #[.int .i64 t2, .int .i32 n2] rT)).alloc (.cells #[.int .i64 0, .int .i32 0] rT))
    have P1 := Lib.hid ((Whole.made (w.alloc (.cells #[.int .i64 t1, .int .i32 n1] rT)) rT #[.int .i64 t2, .int .i32 n2] (w.heap.size + 1) (by simp)).alloc (.cells #[.int .i64 0, .int .i32 0] rT))
    have G := Lib.hid (Whole.made ((w.alloc (.cells #[.int .i64 t1, .int .i32 n1] rT)).alloc (.cells #[.int .i64 t2, .int .i32 n2] rT)) rT #[.int .i64 0, .int .i32 0] (w.heap.size + 2) (by simp))
    clear c0 c1 c2
    go_enter Try.func10, Try.ntmps10
    go_wp2_with fail
    refine (CR.out _).mono ?_
    rintro e w' ⟨rfl, rfl⟩
    go_wp2_with fail
    have q0 := G.out.cell 0
    have q1 := G.out.cell 1
    refine bodyPost_ret (v := .tuple #[.agg #[.int .i64 0, .int .i32 0], .int .i64 10]) ?_ rfl ⟨by rw [HR.out]; rfl, BA.out⟩
    simp [results, Try.results10, go_sem, q0, q1]
  case some =>
    have CR := Lib.hid (fun y => show Calls Try.prog 21 #[.string ⟨#[42]⟩, .int .i32 n1, .int .i32 n2] y fun e w' => e = .returned (.tuple #[.int .i32 n, .bool true]) ∧ y = w' from RK.out y)
    have HR := Lib.hid (reckon_good (n := n) h12)
    clear h12 RK
    have c0 := (Below.refl w.heap.size w).alloc (Nat.le_refl _) (.cells #[.int .i64 t1, .int .i32 n1] rT)
    have c1 := c0.alloc c0.size (.cells #[.int .i64 t2, .int .i32 n2] rT)
    have c2 := c1.alloc c1.size (.cells #[.int .i64 1, .int .i32 n] rT)
    have BA := Lib.hid c2
    have P0 := Lib.hid (((Whole.made w rT #[.int .i64 t1, .int .i32 n1] (w.heap.size) (by simp)).alloc (.cells #[.int .i64 t2, .int .i32 n2] rT)).alloc (.cells #[.int .i64 1, .int .i32 n] rT))
    have P1 := Lib.hid ((Whole.made (w.alloc (.cells #[.int .i64 t1, .int .i32 n1] rT)) rT #[.int .i64 t2, .int .i32 n2] (w.heap.size + 1) (by simp)).alloc (.cells #[.int .i64 1, .int .i32 n] rT))
    have G := Lib.hid (Whole.made ((w.alloc (.cells #[.int .i64 t1, .int .i32 n1] rT)).alloc (.cells #[.int .i64 t2, .int .i32 n2] rT)) rT #[.int .i64 1, .int .i32 n] (w.heap.size + 2) (by simp))
    clear c0 c1 c2
    go_enter Try.func10, Try.ntmps10
    go_wp2_with fail
    refine (CR.out _).mono ?_
    rintro e w' ⟨rfl, rfl⟩
    go_wp2_with fail
    have q0 := G.out.cell 0
    have q1 := G.out.cell 1
    refine bodyPost_ret (v := .tuple #[.agg #[.int .i64 1, .int .i32 n], .int .i64 0]) ?_ rfl ⟨by rw [HR.out]; rfl, BA.out⟩
    simp [results, Try.results10, go_sem, q0, q1]

set_option maxHeartbeats 8000000 in
set_option maxRecDepth 100000 in
theorem reftwo_3 (t1 n1 t2 n2 : Int) (w : World) (n0 : -2147483648 ≤ n1) (n3 : n1 ≤ 2147483647) (n4 : -2147483648 ≤ n2) (n5 : n2 ≤ 2147483647) : Calls Try.prog 10 #[.string ⟨#[68, 73, 86]⟩, .agg #[.int .i64 t1, .int .i32 n1], .agg #[.int .i64 t2, .int .i32 n2]] w fun e w' => e = .returned (kR (twoP 3 t1 n1 t2 n2)) ∧ Below w.heap.size w w' := by
  have RK := Lib.hid (fun y => refreck_3 n1 n2 y n0 n3 n4 n5)
  clear n0 n3 n4 n5
  show Calls _ _ _ _ fun e w' => e = .returned (kR (reckonP t1 t2 (reckP 3 n1 n2))) ∧ _
  generalize reckP 3 n1 n2 = r at *
  cases h1 : (t1 != 1)
  case true =>
    have HR := Lib.hid (reckon_bad (t1 := t1) (t2 := t2) (r := r) (by rw [h1]; rfl))
    have c0 := (Below.refl w.heap.size w).alloc (Nat.le_refl _) (.cells #[.int .i64 t1, .int .i32 n1] rT)
    have c1 := c0.alloc c0.size (.cells #[.int .i64 t2, .int .i32 n2] rT)
    have c2 := c1.alloc c1.size (.cells #[.int .i64 0, .int .i32 0] rT)
    have BA := Lib.hid c2
    have P0 := Lib.hid (((Whole.made w rT #[.int .i64 t1, .int .i32 n1] (w.heap.size) (by simp)).alloc (.cells #[.int .i64 t2, .int .i32 n2] rT)).alloc (.cells #[.int .i64 0, .int .i32 0] rT))
    have P1 := Lib.hid ((Whole.made (w.alloc (.cells #[.int .i64 t1, .int .i32 n1] rT)) rT #[.int .i64 t2, .int .i32 n2] (w.heap.size + 1) (by simp)).alloc (.cells #[.int .i64 0, .int .i32 0] rT))
    have G := Lib.hid (Whole.made ((w.alloc (.cells #[.int .i64 t1, .int .i32 n1] rT)).alloc (.cells #[.int .i64 t2, .int .i32 n2] rT)) rT #[.int .i64 0, .int .i32 0] (w.heap.size + 2) (by simp))
    clear c0 c1 c2
    go_enter Try.func10, Try.ntmps10
    go_wp2_with fail
    have q0 := G.out.cell 0
    have q1 := G.out.cell 1
    refine bodyPost_ret (v := .tuple #[.agg #[.int .i64 0, .int .i32 0], .int .i64 91]) ?_ rfl ⟨by rw [HR.out]; rfl, BA.out⟩
    simp [results, Try.results10, go_sem, q0, q1]
  cases h2 : (t2 != 1)
  case true =>
    have HR := Lib.hid (reckon_bad (t1 := t1) (t2 := t2) (r := r) (by rw [h1, h2]; rfl))
    have c0 := (Below.refl w.heap.size w).alloc (Nat.le_refl _) (.cells #[.int .i64 t1, .int .i32 n1] rT)
    have c1 := c0.alloc c0.size (.cells #[.int .i64 t2, .int .i32 n2] rT)
    have c2 := c1.alloc c1.size (.cells #[.int .i64 0, .int .i32 0] rT)
    have BA := Lib.hid c2
    have P0 := Lib.hid (((Whole.made w rT #[.int .i64 t1, .int .i32 n1] (w.heap.size) (by simp)).alloc (.cells #[.int .i64 t2, .int .i32 n2] rT)).alloc (.cells #[.int .i64 0, .int .i32 0] rT))
    have P1 := Lib.hid ((Whole.made (w.alloc (.cells #[.int .i64 t1, .int .i32 n1] rT)) rT #[.int .i64 t2, .int .i32 n2] (w.heap.size + 1) (by simp)).alloc (.cells #[.int .i64 0, .int .i32 0] rT))
    have G := Lib.hid (Whole.made ((w.alloc (.cells #[.int .i64 t1, .int .i32 n1] rT)).alloc (.cells #[.int .i64 t2, .int .i32 n2] rT)) rT #[.int .i64 0, .int .i32 0] (w.heap.size + 2) (by simp))
    clear c0 c1 c2
    go_enter Try.func10, Try.ntmps10
    go_wp2_with fail
    have q0 := G.out.cell 0
    have q1 := G.out.cell 1
    refine bodyPost_ret (v := .tuple #[.agg #[.int .i64 0, .int .i32 0], .int .i64 91]) ?_ rfl ⟨by rw [HR.out]; rfl, BA.out⟩
    simp [results, Try.results10, go_sem, q0, q1]
  have h12 : ((t1 != 1) || (t2 != 1)) = false := by rw [h1, h2]; rfl
  rcases r with _ | n
  case none =>
    have CR := Lib.hid (fun y => show Calls Try.prog 21 #[.string ⟨#[68, 73, 86]⟩, .int .i32 n1, .int .i32 n2] y fun e w' => e = .returned (.tuple #[.int .i32 0, .bool false]) ∧ y = w' from RK.out y)
    have HR := Lib.hid (reckon_zero h12)
    clear h12 RK
    have c0 := (Below.refl w.heap.size w).alloc (Nat.le_refl _) (.cells #[.int .i64 t1, .int .i32 n1] rT)
    have c1 := c0.alloc c0.size (.cells #[.int .i64 t2, .int .i32 n2] rT)
    have c2 := c1.alloc c1.size (.cells #[.int .i64 0, .int .i32 0] rT)
    have BA := Lib.hid c2
    have P0 := Lib.hid (((Whole.made w rT #[.int .i64 t1, .int .i32 n1] (w.heap.size) (by simp)).alloc (.cells #[.int .i64 t2, .int .i32 n2] rT)).alloc (.cells #[.int .i64 0, .int .i32 0] rT))
    have P1 := Lib.hid ((Whole.made (w.alloc (.cells #[.int .i64 t1, .int .i32 n1] rT)) rT #[.int .i64 t2, .int .i32 n2] (w.heap.size + 1) (by simp)).alloc (.cells #[.int .i64 0, .int .i32 0] rT))
    have G := Lib.hid (Whole.made ((w.alloc (.cells #[.int .i64 t1, .int .i32 n1] rT)).alloc (.cells #[.int .i64 t2, .int .i32 n2] rT)) rT #[.int .i64 0, .int .i32 0] (w.heap.size + 2) (by simp))
    clear c0 c1 c2
    go_enter Try.func10, Try.ntmps10
    go_wp2_with fail
    refine (CR.out _).mono ?_
    rintro e w' ⟨rfl, rfl⟩
    go_wp2_with fail
    have q0 := G.out.cell 0
    have q1 := G.out.cell 1
    refine bodyPost_ret (v := .tuple #[.agg #[.int .i64 0, .int .i32 0], .int .i64 10]) ?_ rfl ⟨by rw [HR.out]; rfl, BA.out⟩
    simp [results, Try.results10, go_sem, q0, q1]
  case some =>
    have CR := Lib.hid (fun y => show Calls Try.prog 21 #[.string ⟨#[68, 73, 86]⟩, .int .i32 n1, .int .i32 n2] y fun e w' => e = .returned (.tuple #[.int .i32 n, .bool true]) ∧ y = w' from RK.out y)
    have HR := Lib.hid (reckon_good (n := n) h12)
    clear h12 RK
    have c0 := (Below.refl w.heap.size w).alloc (Nat.le_refl _) (.cells #[.int .i64 t1, .int .i32 n1] rT)
    have c1 := c0.alloc c0.size (.cells #[.int .i64 t2, .int .i32 n2] rT)
    have c2 := c1.alloc c1.size (.cells #[.int .i64 1, .int .i32 n] rT)
    have BA := Lib.hid c2
    have P0 := Lib.hid (((Whole.made w rT #[.int .i64 t1, .int .i32 n1] (w.heap.size) (by simp)).alloc (.cells #[.int .i64 t2, .int .i32 n2] rT)).alloc (.cells #[.int .i64 1, .int .i32 n] rT))
    have P1 := Lib.hid ((Whole.made (w.alloc (.cells #[.int .i64 t1, .int .i32 n1] rT)) rT #[.int .i64 t2, .int .i32 n2] (w.heap.size + 1) (by simp)).alloc (.cells #[.int .i64 1, .int .i32 n] rT))
    have G := Lib.hid (Whole.made ((w.alloc (.cells #[.int .i64 t1, .int .i32 n1] rT)).alloc (.cells #[.int .i64 t2, .int .i32 n2] rT)) rT #[.int .i64 1, .int .i32 n] (w.heap.size + 2) (by simp))
    clear c0 c1 c2
    go_enter Try.func10, Try.ntmps10
    go_wp2_with fail
    refine (CR.out _).mono ?_
    rintro e w' ⟨rfl, rfl⟩
    go_wp2_with fail
    have q0 := G.out.cell 0
    have q1 := G.out.cell 1
    refine bodyPost_ret (v := .tuple #[.agg #[.int .i64 1, .int .i32 n], .int .i64 0]) ?_ rfl ⟨by rw [HR.out]; rfl, BA.out⟩
    simp [results, Try.results10, go_sem, q0, q1]

set_option maxHeartbeats 8000000 in
set_option maxRecDepth 100000 in
theorem reftwo_4 (t1 n1 t2 n2 : Int) (w : World) (n0 : -2147483648 ≤ n1) (n3 : n1 ≤ 2147483647) (n4 : -2147483648 ≤ n2) (n5 : n2 ≤ 2147483647) : Calls Try.prog 10 #[.string ⟨#[77, 79, 68]⟩, .agg #[.int .i64 t1, .int .i32 n1], .agg #[.int .i64 t2, .int .i32 n2]] w fun e w' => e = .returned (kR (twoP 4 t1 n1 t2 n2)) ∧ Below w.heap.size w w' := by
  have RK := Lib.hid (fun y => refreck_4 n1 n2 y n0 n3 n4 n5)
  clear n0 n3 n4 n5
  show Calls _ _ _ _ fun e w' => e = .returned (kR (reckonP t1 t2 (reckP 4 n1 n2))) ∧ _
  generalize reckP 4 n1 n2 = r at *
  cases h1 : (t1 != 1)
  case true =>
    have HR := Lib.hid (reckon_bad (t1 := t1) (t2 := t2) (r := r) (by rw [h1]; rfl))
    have c0 := (Below.refl w.heap.size w).alloc (Nat.le_refl _) (.cells #[.int .i64 t1, .int .i32 n1] rT)
    have c1 := c0.alloc c0.size (.cells #[.int .i64 t2, .int .i32 n2] rT)
    have c2 := c1.alloc c1.size (.cells #[.int .i64 0, .int .i32 0] rT)
    have BA := Lib.hid c2
    have P0 := Lib.hid (((Whole.made w rT #[.int .i64 t1, .int .i32 n1] (w.heap.size) (by simp)).alloc (.cells #[.int .i64 t2, .int .i32 n2] rT)).alloc (.cells #[.int .i64 0, .int .i32 0] rT))
    have P1 := Lib.hid ((Whole.made (w.alloc (.cells #[.int .i64 t1, .int .i32 n1] rT)) rT #[.int .i64 t2, .int .i32 n2] (w.heap.size + 1) (by simp)).alloc (.cells #[.int .i64 0, .int .i32 0] rT))
    have G := Lib.hid (Whole.made ((w.alloc (.cells #[.int .i64 t1, .int .i32 n1] rT)).alloc (.cells #[.int .i64 t2, .int .i32 n2] rT)) rT #[.int .i64 0, .int .i32 0] (w.heap.size + 2) (by simp))
    clear c0 c1 c2
    go_enter Try.func10, Try.ntmps10
    go_wp2_with fail
    have q0 := G.out.cell 0
    have q1 := G.out.cell 1
    refine bodyPost_ret (v := .tuple #[.agg #[.int .i64 0, .int .i32 0], .int .i64 91]) ?_ rfl ⟨by rw [HR.out]; rfl, BA.out⟩
    simp [results, Try.results10, go_sem, q0, q1]
  cases h2 : (t2 != 1)
  case true =>
    have HR := Lib.hid (reckon_bad (t1 := t1) (t2 := t2) (r := r) (by rw [h1, h2]; rfl))
    have c0 := (Below.refl w.heap.size w).alloc (Nat.le_refl _) (.cells #[.int .i64 t1, .int .i32 n1] rT)
    have c1 := c0.alloc c0.size (.cells #[.int .i64 t2, .int .i32 n2] rT)
    have c2 := c1.alloc c1.size (.cells #[.int .i64 0, .int .i32 0] rT)
    have BA := Lib.hid c2
    have P0 := Lib.hid (((Whole.made w rT #[.int .i64 t1, .int .i32 n1] (w.heap.size) (by simp)).alloc (.cells #[.int .i64 t2, .int .i32 n2] rT)).alloc (.cells #[.int .i64 0, .int .i32 0] rT))
    have P1 := Lib.hid ((Whole.made (w.alloc (.cells #[.int .i64 t1, .int .i32 n1] rT)) rT #[.int .i64 t2, .int .i32 n2] (w.heap.size + 1) (by simp)).alloc (.cells #[.int .i64 0, .int .i32 0] rT))
    have G := Lib.hid (Whole.made ((w.alloc (.cells #[.int .i64 t1, .int .i32 n1] rT)).alloc (.cells #[.int .i64 t2, .int .i32 n2] rT)) rT #[.int .i64 0, .int .i32 0] (w.heap.size + 2) (by simp))
    clear c0 c1 c2
    go_enter Try.func10, Try.ntmps10
    go_wp2_with fail
    have q0 := G.out.cell 0
    have q1 := G.out.cell 1
    refine bodyPost_ret (v := .tuple #[.agg #[.int .i64 0, .int .i32 0], .int .i64 91]) ?_ rfl ⟨by rw [HR.out]; rfl, BA.out⟩
    simp [results, Try.results10, go_sem, q0, q1]
  have h12 : ((t1 != 1) || (t2 != 1)) = false := by rw [h1, h2]; rfl
  rcases r with _ | n
  case none =>
    have CR := Lib.hid (fun y => show Calls Try.prog 21 #[.string ⟨#[77, 79, 68]⟩, .int .i32 n1, .int .i32 n2] y fun e w' => e = .returned (.tuple #[.int .i32 0, .bool false]) ∧ y = w' from RK.out y)
    have HR := Lib.hid (reckon_zero h12)
    clear h12 RK
    have c0 := (Below.refl w.heap.size w).alloc (Nat.le_refl _) (.cells #[.int .i64 t1, .int .i32 n1] rT)
    have c1 := c0.alloc c0.size (.cells #[.int .i64 t2, .int .i32 n2] rT)
    have c2 := c1.alloc c1.size (.cells #[.int .i64 0, .int .i32 0] rT)
    have BA := Lib.hid c2
    have P0 := Lib.hid (((Whole.made w rT #[.int .i64 t1, .int .i32 n1] (w.heap.size) (by simp)).alloc (.cells #[.int .i64 t2, .int .i32 n2] rT)).alloc (.cells #[.int .i64 0, .int .i32 0] rT))
    have P1 := Lib.hid ((Whole.made (w.alloc (.cells #[.int .i64 t1, .int .i32 n1] rT)) rT #[.int .i64 t2, .int .i32 n2] (w.heap.size + 1) (by simp)).alloc (.cells #[.int .i64 0, .int .i32 0] rT))
    have G := Lib.hid (Whole.made ((w.alloc (.cells #[.int .i64 t1, .int .i32 n1] rT)).alloc (.cells #[.int .i64 t2, .int .i32 n2] rT)) rT #[.int .i64 0, .int .i32 0] (w.heap.size + 2) (by simp))
    clear c0 c1 c2
    go_enter Try.func10, Try.ntmps10
    go_wp2_with fail
    refine (CR.out _).mono ?_
    rintro e w' ⟨rfl, rfl⟩
    go_wp2_with fail
    have q0 := G.out.cell 0
    have q1 := G.out.cell 1
    refine bodyPost_ret (v := .tuple #[.agg #[.int .i64 0, .int .i32 0], .int .i64 10]) ?_ rfl ⟨by rw [HR.out]; rfl, BA.out⟩
    simp [results, Try.results10, go_sem, q0, q1]
  case some =>
    have CR := Lib.hid (fun y => show Calls Try.prog 21 #[.string ⟨#[77, 79, 68]⟩, .int .i32 n1, .int .i32 n2] y fun e w' => e = .returned (.tuple #[.int .i32 n, .bool true]) ∧ y = w' from RK.out y)
    have HR := Lib.hid (reckon_good (n := n) h12)
    clear h12 RK
    have c0 := (Below.refl w.heap.size w).alloc (Nat.le_refl _) (.cells #[.int .i64 t1, .int .i32 n1] rT)
    have c1 := c0.alloc c0.size (.cells #[.int .i64 t2, .int .i32 n2] rT)
    have c2 := c1.alloc c1.size (.cells #[.int .i64 1, .int .i32 n] rT)
    have BA := Lib.hid c2
    have P0 := Lib.hid (((Whole.made w rT #[.int .i64 t1, .int .i32 n1] (w.heap.size) (by simp)).alloc (.cells #[.int .i64 t2, .int .i32 n2] rT)).alloc (.cells #[.int .i64 1, .int .i32 n] rT))
    have P1 := Lib.hid ((Whole.made (w.alloc (.cells #[.int .i64 t1, .int .i32 n1] rT)) rT #[.int .i64 t2, .int .i32 n2] (w.heap.size + 1) (by simp)).alloc (.cells #[.int .i64 1, .int .i32 n] rT))
    have G := Lib.hid (Whole.made ((w.alloc (.cells #[.int .i64 t1, .int .i32 n1] rT)).alloc (.cells #[.int .i64 t2, .int .i32 n2] rT)) rT #[.int .i64 1, .int .i32 n] (w.heap.size + 2) (by simp))
    clear c0 c1 c2
    go_enter Try.func10, Try.ntmps10
    go_wp2_with fail
    refine (CR.out _).mono ?_
    rintro e w' ⟨rfl, rfl⟩
    go_wp2_with fail
    have q0 := G.out.cell 0
    have q1 := G.out.cell 1
    refine bodyPost_ret (v := .tuple #[.agg #[.int .i64 1, .int .i32 n], .int .i64 0]) ?_ rfl ⟨by rw [HR.out]; rfl, BA.out⟩
    simp [results, Try.results10, go_sem, q0, q1]

set_option maxHeartbeats 8000000 in
set_option maxRecDepth 100000 in
theorem reftwo_none (s : ByteArray) (t1 n1 t2 n2 : Int) (w : World) (h0 : (s.toList == [43]) = false) (h1 : (s.toList == [45]) = false) (h2 : (s.toList == [42]) = false) (h3 : (s.toList == [68, 73, 86]) = false) (h4 : (s.toList == [77, 79, 68]) = false) (h5 : (s.toList == [65, 78, 68]) = false) (h6 : (s.toList == [79, 82]) = false) (h7 : (s.toList == [61]) = false) (h8 : (s.toList == [35]) = false) (h9 : (s.toList == [60]) = false) (h10 : (s.toList == [60, 61]) = false) (h11 : (s.toList == [62]) = false) (h12 : (s.toList == [62, 61]) = false) : Calls Try.prog 10 #[.string s, .agg #[.int .i64 t1, .int .i32 n1], .agg #[.int .i64 t2, .int .i32 n2]] w fun e w' => e = .returned (kR (twoP 13 t1 n1 t2 n2)) ∧ Below w.heap.size w w' := by
  have c0 := (Below.refl w.heap.size w).alloc (Nat.le_refl _) (.cells #[.int .i64 t1, .int .i32 n1] rT)
  have c1 := c0.alloc c0.size (.cells #[.int .i64 t2, .int .i32 n2] rT)
  have c2 := c1.alloc c1.size (.cells #[.int .i64 0, .int .i32 0] rT)
  have BA := Lib.hid c2
  have P0 := Lib.hid (((Whole.made w rT #[.int .i64 t1, .int .i32 n1] (w.heap.size) (by simp)).alloc (.cells #[.int .i64 t2, .int .i32 n2] rT)).alloc (.cells #[.int .i64 0, .int .i32 0] rT))
  have P1 := Lib.hid ((Whole.made (w.alloc (.cells #[.int .i64 t1, .int .i32 n1] rT)) rT #[.int .i64 t2, .int .i32 n2] (w.heap.size + 1) (by simp)).alloc (.cells #[.int .i64 0, .int .i32 0] rT))
  have G := Lib.hid (Whole.made ((w.alloc (.cells #[.int .i64 t1, .int .i32 n1] rT)).alloc (.cells #[.int .i64 t2, .int .i32 n2] rT)) rT #[.int .i64 0, .int .i32 0] (w.heap.size + 2) (by simp))
  clear c0 c1 c2
  go_enter Try.func10, Try.ntmps10
  go_wp2_with fail
  have q0 := G.out.cell 0
  have q1 := G.out.cell 1
  refine bodyPost_ret (v := .tuple #[.agg #[.int .i64 0, .int .i32 0], .int .i64 110]) ?_ rfl ⟨rfl, BA.out⟩
  simp [results, Try.results10, go_sem, q0, q1]

end Go.Proofs.Ytmgjnalijmplcaa
