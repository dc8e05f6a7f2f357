/- Konst: the program's One. -/
import Derived.Test.YtmgjnalijmplcaaKonA
import Derived.Deep.RegionHeld3
import Derived.Deep.RegionWith
namespace Go.Proofs.Ytmgjnalijmplcaa
open Go.ChangeShapes Go.WideShapes Go.ChangeAt Go.RowKit
set_option linter.unusedVariables false
set_option linter.unusedSimpArgs false

/-- What stays of the boxed values where the result's cell is stored into. -/
theorem keepK1 {y : World} {b : Nat} {u v z0 z1 : Value} (h : y.cell? ⟨b, 0, none⟩ = some u ∧ y.cell? ⟨b, 1, none⟩ = some v) : ((y.setCell ⟨b + 1, 0, none⟩ z0).setCell ⟨b + 1, 1, none⟩ z1).cell? ⟨b, 0, none⟩ = some u ∧ ((y.setCell ⟨b + 1, 0, none⟩ z0).setCell ⟨b + 1, 1, none⟩ z1).cell? ⟨b, 1, none⟩ = some v := by
  rw [World.cell?_setCell_other _ _ _ _ (fun e => by injection e with e; omega), World.cell?_setCell_other _ _ _ _ (fun e => by injection e with e; omega), World.cell?_setCell_other _ _ _ _ (fun e => by injection e with e; omega), World.cell?_setCell_other _ _ _ _ (fun e => by injection e with e; omega)]
  exact h

theorem keepK2 {y : World} {b : Nat} {u v u' v' z0 z1 : Value} (h : y.cell? ⟨b, 0, none⟩ = some u ∧ y.cell? ⟨b, 1, none⟩ = some v ∧ y.cell? ⟨b + 1, 0, none⟩ = some u' ∧ y.cell? ⟨b + 1, 1, none⟩ = some v') : ((y.setCell ⟨b + 2, 0, none⟩ z0).setCell ⟨b + 2, 1, none⟩ z1).cell? ⟨b, 0, none⟩ = some u ∧ ((y.setCell ⟨b + 2, 0, none⟩ z0).setCell ⟨b + 2, 1, none⟩ z1).cell? ⟨b, 1, none⟩ = some v ∧ ((y.setCell ⟨b + 2, 0, none⟩ z0).setCell ⟨b + 2, 1, none⟩ z1).cell? ⟨b + 1, 0, none⟩ = some u' ∧ ((y.setCell ⟨b + 2, 0, none⟩ z0).setCell ⟨b + 2, 1, none⟩ z1).cell? ⟨b + 1, 1, none⟩ = some v' := by
  iterate 8 rw [World.cell?_setCell_other _ _ _ _ (fun e => by injection e with e; omega)]
  exact h

/-- The one operators: - NOT ODD ORD CHR. -/
def oneP (k : Nat) (t n : Int) : Kr :=
  if k = 0 then typedP (t == 1) 1 (wrap32 (-n))
  else if k = 1 then typedP (t == 2) 2 (trP (n == 0))
  else if k = 2 then typedP (t == 1) 2 (trP (n % 2 != 0))
  else if k = 3 then typedP ((t == 3) || (t == 2)) 1 n
  else if k = 4 then (if ((t == 1) && !charB n) = true then ⟨0, 0, 90⟩ else typedP (t == 1) 3 n)
  else ⟨0, 0, 110⟩

set_option maxHeartbeats 8000000 in
set_option maxRecDepth 100000 in
theorem one_0 (t n : Int) (w : World) : Calls Try.prog 12 #[.string ⟨#[45]⟩, .agg #[.int .i64 t, .int .i32 n]] w fun e w' => e = .returned (kR (oneP 0 t n)) ∧ Below w.heap.size w w' := by
  have c0 := (Below.refl w.heap.size w).alloc (Nat.le_refl _) (.cells #[.int .i64 t, .int .i32 n] kT)
  have c1 := c0.alloc c0.size (.cells #[.int .i64 0, .int .i32 0] kT)
  have BA := Lib.hid c1
  have P0 := Lib.hid ((Whole.made w kT #[.int .i64 t, .int .i32 n] (w.heap.size) (by simp)).alloc (.cells #[.int .i64 0, .int .i32 0] kT))
  have G := Lib.hid (Whole.made (w.alloc (.cells #[.int .i64 t, .int .i32 n] kT)) kT #[.int .i64 0, .int .i32 0] (w.heap.size + 1) (by simp))
  clear c0 c1
  have NU := Lib.hid (fun y => number_any (wrap32 (-n)) y)
  have MI := Lib.hid (fun y => show Calls Try.prog 26 #[.int .i32 0, .int .i32 n] y fun e w' => e = .returned (.int .i32 (wrap32 (-n))) ∧ y = w' from by have h := minus_any 0 n y; rwa [Int.zero_sub] at h)
  show Calls _ _ _ _ fun e w' => e = .returned (kR (typedP (t == 1) 1 (wrap32 (-n)))) ∧ _
  have TY := Lib.hid (fun y => typed_any (t == 1) 1 (wrap32 (-n)) y)
  generalize typedP (t == 1) 1 (wrap32 (-n)) = r at *
  unfold kR at *
  go_enter Try.func12, Try.ntmps12
  go_wp2_with fail
  generalize ((w.alloc (.cells #[.int .i64 t, .int .i32 n] kT)).alloc (.cells #[.int .i64 0, .int .i32 0] kT)) = V at *
  have L0 : V.cell? ⟨w.heap.size, 0, none⟩ = some (.int .i64 t) ∧ V.cell? ⟨w.heap.size, 1, none⟩ = some (.int .i32 n) := ⟨P0.out.cell 0, P0.out.cell 1⟩
  have BD := Lib.hid BA.out.drew
  have P0D := Lib.hid (show Whole V.drew (w.heap.size) kT #[.int .i64 t, .int .i32 n] from P0.out)
  have GD := Lib.hid (show Whole V.drew (w.heap.size + 1) kT #[.int .i64 0, .int .i32 0] from G.out)
  clear BA P0 G
  have L1 : V.drew.cell? ⟨w.heap.size, 0, none⟩ = some (.int .i64 t) ∧ V.drew.cell? ⟨w.heap.size, 1, none⟩ = some (.int .i32 n) := L0
  go_region_held3 (fun y => y.cell? ⟨w.heap.size, 0, none⟩ = some (.int .i64 t) ∧ y.cell? ⟨w.heap.size, 1, none⟩ = some (.int .i32 n))
    (first | with_reducible assumption | with_reducible exact L1 | with_reducible exact keepK1 (by assumption) | fail)
    (first
      | (go_at_call 26; refine (MI.out _).mono ?_; rintro e y ⟨rfl, rfl⟩)
      | (go_at_call 25; refine (NU.out _).mono ?_; rintro e y1 ⟨rfl, hb⟩; have B1 := Lib.hid (BD.out.trans (hb.mono BD.out.size)); have P01 := Lib.hid (P0D.out.below hb P0D.out.lt); have G1 := Lib.hid (GD.out.below hb GD.out.lt); have S1 : y1.cell? ⟨w.heap.size, 0, none⟩ = some (.int .i64 t) ∧ y1.cell? ⟨w.heap.size, 1, none⟩ = some (.int .i32 n) := ⟨P01.out.cell 0, P01.out.cell 1⟩; clear hb)
      | (go_at_call 24; refine (TY.out _).mono ?_; rintro e y2 ⟨rfl, hb⟩; have B2 := Lib.hid (B1.out.trans (hb.mono B1.out.size)); have P02 := Lib.hid (P01.out.below hb P01.out.lt); have G2 := Lib.hid (G1.out.below hb G1.out.lt); have S2 : y2.cell? ⟨w.heap.size, 0, none⟩ = some (.int .i64 t) ∧ y2.cell? ⟨w.heap.size, 1, none⟩ = some (.int .i32 n) := ⟨P02.out.cell 0, P02.out.cell 1⟩; have g0 : y2.cell? ⟨w.heap.size + 1, 0, none⟩ = some (.int .i64 0) := G2.out.cell 0; have g1 : y2.cell? ⟨w.heap.size + 1, 1, none⟩ = some (.int .i32 0) := G2.out.cell 1; have f0 := G2.out.free 0; have f1 := G2.out.free 1; clear hb))
  have H := Lib.hid ((G2.out.store 0 (.int .i64 r.t)).store 1 (.int .i32 r.n))
  have HB := Lib.hid ((B2.out.setCell (p := ⟨w.heap.size + 1, 0, none⟩) (show w.heap.size ≤ w.heap.size + 1 by omega) (.int .i64 r.t)).setCell (p := ⟨w.heap.size + 1, 1, none⟩) (show w.heap.size ≤ w.heap.size + 1 by omega) (.int .i32 r.n))
  go_wp2_with fail
  have q0 := H.out.cell 0
  have q1 := H.out.cell 1
  refine bodyPost_ret (v := .tuple #[.agg #[.int .i64 r.t, .int .i32 r.n], .int .i64 r.e]) ?_ rfl ⟨rfl, HB.out⟩
  simp [results, Try.results12, go_sem, q0, q1]

set_option maxHeartbeats 8000000 in
set_option maxRecDepth 100000 in
theorem one_1 (t n : Int) (w : World) : Calls Try.prog 12 #[.string ⟨#[78, 79, 84]⟩, .agg #[.int .i64 t, .int .i32 n]] w fun e w' => e = .returned (kR (oneP 1 t n)) ∧ Below w.heap.size w w' := by
  have c0 := (Below.refl w.heap.size w).alloc (Nat.le_refl _) (.cells #[.int .i64 t, .int .i32 n] kT)
  have c1 := c0.alloc c0.size (.cells #[.int .i64 0, .int .i32 0] kT)
  have BA := Lib.hid c1
  have P0 := Lib.hid ((Whole.made w kT #[.int .i64 t, .int .i32 n] (w.heap.size) (by simp)).alloc (.cells #[.int .i64 0, .int .i32 0] kT))
  have G := Lib.hid (Whole.made (w.alloc (.cells #[.int .i64 t, .int .i32 n] kT)) kT #[.int .i64 0, .int .i32 0] (w.heap.size + 1) (by simp))
  clear c0 c1
  have TR := Lib.hid (fun y => truth_any (n == 0) y)
  show Calls _ _ _ _ fun e w' => e = .returned (kR (typedP (t == 2) 2 (trP (n == 0)))) ∧ _
  have TY := Lib.hid (fun y => typed_any (t == 2) 2 (trP (n == 0)) y)
  generalize typedP (t == 2) 2 (trP (n == 0)) = r at *
  unfold kR at *
  generalize trP (n == 0) = m at *
  go_enter Try.func12, Try.ntmps12
  go_wp2_with fail
  generalize ((w.alloc (.cells #[.int .i64 t, .int .i32 n] kT)).alloc (.cells #[.int .i64 0, .int .i32 0] kT)) = V at *
  have L0 : V.cell? ⟨w.heap.size, 0, none⟩ = some (.int .i64 t) ∧ V.cell? ⟨w.heap.size, 1, none⟩ = some (.int .i32 n) := ⟨P0.out.cell 0, P0.out.cell 1⟩
  have BD := Lib.hid BA.out.drew
  have P0D := Lib.hid (show Whole V.drew (w.heap.size) kT #[.int .i64 t, .int .i32 n] from P0.out)
  have GD := Lib.hid (show Whole V.drew (w.heap.size + 1) kT #[.int .i64 0, .int .i32 0] from G.out)
  clear BA P0 G
  have L1 : V.drew.cell? ⟨w.heap.size, 0, none⟩ = some (.int .i64 t) ∧ V.drew.cell? ⟨w.heap.size, 1, none⟩ = some (.int .i32 n) := L0
  go_region_held3 (fun y => y.cell? ⟨w.heap.size, 0, none⟩ = some (.int .i64 t) ∧ y.cell? ⟨w.heap.size, 1, none⟩ = some (.int .i32 n))
    (first | with_reducible assumption | with_reducible exact L1 | with_reducible exact keepK1 (by assumption) | fail)
    (first
      | (go_at_call 27; refine (TR.out _).mono ?_; rintro e y1 ⟨rfl, hb⟩; have B1 := Lib.hid (BD.out.trans (hb.mono BD.out.size)); have P01 := Lib.hid (P0D.out.below hb P0D.out.lt); have G1 := Lib.hid (GD.out.below hb GD.out.lt); have S1 : y1.cell? ⟨w.heap.size, 0, none⟩ = some (.int .i64 t) ∧ y1.cell? ⟨w.heap.size, 1, none⟩ = some (.int .i32 n) := ⟨P01.out.cell 0, P01.out.cell 1⟩; clear hb)
      | (go_at_call 24; refine (TY.out _).mono ?_; rintro e y2 ⟨rfl, hb⟩; have B2 := Lib.hid (B1.out.trans (hb.mono B1.out.size)); have P02 := Lib.hid (P01.out.below hb P01.out.lt); have G2 := Lib.hid (G1.out.below hb G1.out.lt); have S2 : y2.cell? ⟨w.heap.size, 0, none⟩ = some (.int .i64 t) ∧ y2.cell? ⟨w.heap.size, 1, none⟩ = some (.int .i32 n) := ⟨P02.out.cell 0, P02.out.cell 1⟩; have g0 : y2.cell? ⟨w.heap.size + 1, 0, none⟩ = some (.int .i64 0) := G2.out.cell 0; have g1 : y2.cell? ⟨w.heap.size + 1, 1, none⟩ = some (.int .i32 0) := G2.out.cell 1; have f0 := G2.out.free 0; have f1 := G2.out.free 1; clear hb))
  have H := Lib.hid ((G2.out.store 0 (.int .i64 r.t)).store 1 (.int .i32 r.n))
  have HB := Lib.hid ((B2.out.setCell (p := ⟨w.heap.size + 1, 0, none⟩) (show w.heap.size ≤ w.heap.size + 1 by omega) (.int .i64 r.t)).setCell (p := ⟨w.heap.size + 1, 1, none⟩) (show w.heap.size ≤ w.heap.size + 1 by omega) (.int .i32 r.n))
  go_wp2_with fail
  have q0 := H.out.cell 0
  have q1 := H.out.cell 1
  refine bodyPost_ret (v := .tuple #[.agg #[.int .i64 r.t, .int .i32 r.n], .int .i64 r.e]) ?_ rfl ⟨rfl, HB.out⟩
  simp [results, Try.results12, go_sem, q0, q1]

theorem odd_bit (n : Int) : (bits .and .i32 n 1 != 0) = (n % 2 != 0) := by
  have h1 : (BitVec.ofInt 32 1).toNat = 2 ^ 1 - 1 := by decide
  have key : (BitVec.ofInt 32 n &&& BitVec.ofInt 32 1).toNat = (n % ((2 ^ 32 : Nat) : Int)).toNat % 2 ^ 1 := by
    rw [BitVec.toNat_and, BitVec.toNat_ofInt, h1, Nat.and_two_pow_sub_one_eq_mod]
  have e : bits .and .i32 n 1 = n % 2 := by
    show IntKind.i32.wrap ((BitVec.ofInt 32 n &&& BitVec.ofInt 32 1).toNat : Nat) = n % 2
    rw [key, IntKind.wrap_i32]
    omega
  rw [e]

set_option maxHeartbeats 8000000 in
set_option maxRecDepth 100000 in
theorem one_2 (t n : Int) (w : World) : Calls Try.prog 12 #[.string ⟨#[79, 68, 68]⟩, .agg #[.int .i64 t, .int .i32 n]] w fun e w' => e = .returned (kR (oneP 2 t n)) ∧ Below w.heap.size w w' := by
  have c0 := (Below.refl w.heap.size w).alloc (Nat.le_refl _) (.cells #[.int .i64 t, .int .i32 n] kT)
  have c1 := c0.alloc c0.size (.cells #[.int .i64 0, .int .i32 0] kT)
  have BA := Lib.hid c1
  have P0 := Lib.hid ((Whole.made w kT #[.int .i64 t, .int .i32 n] (w.heap.size) (by simp)).alloc (.cells #[.int .i64 0, .int .i32 0] kT))
  have G := Lib.hid (Whole.made (w.alloc (.cells #[.int .i64 t, .int .i32 n] kT)) kT #[.int .i64 0, .int .i32 0] (w.heap.size + 1) (by simp))
  clear c0 c1
  have TR := Lib.hid (fun y => truth_any (bits .and .i32 n 1 != 0) y)
  show Calls _ _ _ _ fun e w' => e = .returned (kR (typedP (t == 1) 2 (trP (n % 2 != 0)))) ∧ _
  rw [← odd_bit n]
  have TY := Lib.hid (fun y => typed_any (t == 1) 2 (trP (bits .and .i32 n 1 != 0)) y)
  generalize typedP (t == 1) 2 (trP (bits .and .i32 n 1 != 0)) = r at *
  unfold kR at *
  generalize trP (bits .and .i32 n 1 != 0) = m at *
  go_enter Try.func12, Try.ntmps12
  go_wp2_with fail
  generalize ((w.alloc (.cells #[.int .i64 t, .int .i32 n] kT)).alloc (.cells #[.int .i64 0, .int .i32 0] kT)) = V at *
  have L0 : V.cell? ⟨w.heap.size, 0, none⟩ = some (.int .i64 t) ∧ V.cell? ⟨w.heap.size, 1, none⟩ = some (.int .i32 n) := ⟨P0.out.cell 0, P0.out.cell 1⟩
  have BD := Lib.hid BA.out.drew
  have P0D := Lib.hid (show Whole V.drew (w.heap.size) kT #[.int .i64 t, .int .i32 n] from P0.out)
  have GD := Lib.hid (show Whole V.drew (w.heap.size + 1) kT #[.int .i64 0, .int .i32 0] from G.out)
  clear BA P0 G
  have L1 : V.drew.cell? ⟨w.heap.size, 0, none⟩ = some (.int .i64 t) ∧ V.drew.cell? ⟨w.heap.size, 1, none⟩ = some (.int .i32 n) := L0
  go_region_held3 (fun y => y.cell? ⟨w.heap.size, 0, none⟩ = some (.int .i64 t) ∧ y.cell? ⟨w.heap.size, 1, none⟩ = some (.int .i32 n))
    (first | with_reducible assumption | with_reducible exact L1 | with_reducible exact keepK1 (by assumption) | fail)
    (first
      | (go_at_call 27; refine (TR.out _).mono ?_; rintro e y1 ⟨rfl, hb⟩; have B1 := Lib.hid (BD.out.trans (hb.mono BD.out.size)); have P01 := Lib.hid (P0D.out.below hb P0D.out.lt); have G1 := Lib.hid (GD.out.below hb GD.out.lt); have S1 : y1.cell? ⟨w.heap.size, 0, none⟩ = some (.int .i64 t) ∧ y1.cell? ⟨w.heap.size, 1, none⟩ = some (.int .i32 n) := ⟨P01.out.cell 0, P01.out.cell 1⟩; clear hb)
      | (go_at_call 24; refine (TY.out _).mono ?_; rintro e y2 ⟨rfl, hb⟩; have B2 := Lib.hid (B1.out.trans (hb.mono B1.out.size)); have P02 := Lib.hid (P01.out.below hb P01.out.lt); have G2 := Lib.hid (G1.out.below hb G1.out.lt); have S2 : y2.cell? ⟨w.heap.size, 0, none⟩ = some (.int .i64 t) ∧ y2.cell? ⟨w.heap.size, 1, none⟩ = some (.int .i32 n) := ⟨P02.out.cell 0, P02.out.cell 1⟩; have g0 : y2.cell? ⟨w.heap.size + 1, 0, none⟩ = some (.int .i64 0) := G2.out.cell 0; have g1 : y2.cell? ⟨w.heap.size + 1, 1, none⟩ = some (.int .i32 0) := G2.out.cell 1; have f0 := G2.out.free 0; have f1 := G2.out.free 1; clear hb))
  have H := Lib.hid ((G2.out.store 0 (.int .i64 r.t)).store 1 (.int .i32 r.n))
  have HB := Lib.hid ((B2.out.setCell (p := ⟨w.heap.size + 1, 0, none⟩) (show w.heap.size ≤ w.heap.size + 1 by omega) (.int .i64 r.t)).setCell (p := ⟨w.heap.size + 1, 1, none⟩) (show w.heap.size ≤ w.heap.size + 1 by omega) (.int .i32 r.n))
  go_wp2_with fail
  have q0 := H.out.cell 0
  have q1 := H.out.cell 1
  refine bodyPost_ret (v := .tuple #[.agg #[.int .i64 r.t, .int .i32 r.n], .int .i64 r.e]) ?_ rfl ⟨rfl, HB.out⟩
  simp [results, Try.results12, go_sem, q0, q1]

theorem one4_bad {t n : Int} (h : ((t == 1) && !charB n) = true) : oneP 4 t n = ⟨0, 0, 90⟩ := by
  show (if ((t == 1) && !charB n) = true then (⟨0, 0, 90⟩ : Kr) else typedP (t == 1) 3 n) = _
  rw [h]
  rfl

theorem one4_good {t n : Int} (h : ((t == 1) && !charB n) = false) : oneP 4 t n = typedP (t == 1) 3 n := by
  show (if ((t == 1) && !charB n) = true then (⟨0, 0, 90⟩ : Kr) else typedP (t == 1) 3 n) = _
  rw [h]
  rfl

set_option maxHeartbeats 8000000 in
set_option maxRecDepth 100000 in
theorem one_4 (t n : Int) (w : World) (n0 : -2147483648 ≤ n) (n1 : n ≤ 2147483647) : Calls Try.prog 12 #[.string ⟨#[67, 72, 82]⟩, .agg #[.int .i64 t, .int .i32 n]] w fun e w' => e = .returned (kR (oneP 4 t n)) ∧ Below w.heap.size w w' := by
  have CH := Lib.hid (fun w => ischar_any n w n0 n1)
  clear n0 n1
  have c0 := (Below.refl w.heap.size w).alloc (Nat.le_refl _) (.cells #[.int .i64 t, .int .i32 n] kT)
  have c1 := c0.alloc c0.size (.cells #[.int .i64 0, .int .i32 0] kT)
  have BA := Lib.hid c1
  have P0 := Lib.hid ((Whole.made w kT #[.int .i64 t, .int .i32 n] (w.heap.size) (by simp)).alloc (.cells #[.int .i64 0, .int .i32 0] kT))
  have G := Lib.hid (Whole.made (w.alloc (.cells #[.int .i64 t, .int .i32 n] kT)) kT #[.int .i64 0, .int .i32 0] (w.heap.size + 1) (by simp))
  clear c0 c1
  cases ht : (t == 1)
  case false =>
    have HR := Lib.hid (one4_good (t := t) (n := n) (by rw [ht]; rfl))
    have TY := Lib.hid (fun y => typed_any (t == 1) 3 n y)
    rw [HR.out]
    clear HR
    generalize typedP (t == 1) 3 n = r at *
    rw [ht] at TY
    unfold kR at *
    go_enter Try.func12, Try.ntmps12
    go_wp2_with fail
    generalize ((w.alloc (.cells #[.int .i64 t, .int .i32 n] kT)).alloc (.cells #[.int .i64 0, .int .i32 0] kT)) = V at *
    refine (TY.out _).mono ?_
    rintro e y2 ⟨rfl, hb⟩
    have B2 := Lib.hid (BA.out.trans (hb.mono BA.out.size))
    have P02 := Lib.hid (P0.out.below hb P0.out.lt)
    have G2 := Lib.hid (G.out.below hb G.out.lt)
    have g0 : y2.cell? ⟨w.heap.size + 1, 0, none⟩ = some (.int .i64 0) := G2.out.cell 0
    have g1 : y2.cell? ⟨w.heap.size + 1, 1, none⟩ = some (.int .i32 0) := G2.out.cell 1
    have f0 := G2.out.free 0
    have f1 := G2.out.free 1
    clear hb
    have H := Lib.hid ((G2.out.store 0 (.int .i64 r.t)).store 1 (.int .i32 r.n))
    have HB := Lib.hid ((B2.out.setCell (p := ⟨w.heap.size + 1, 0, none⟩) (show w.heap.size ≤ w.heap.size + 1 by omega) (.int .i64 r.t)).setCell (p := ⟨w.heap.size + 1, 1, none⟩) (show w.heap.size ≤ w.heap.size + 1 by omega) (.int .i32 r.n))
    go_wp2_with fail
    have q0 := H.out.cell 0
    have q1 := H.out.cell 1
    refine bodyPost_ret (v := .tuple #[.agg #[.int .i64 r.t, .int .i32 r.n], .int .i64 r.e]) ?_ rfl ⟨rfl, HB.out⟩
    simp [results, Try.results12, go_sem, q0, q1]
  case true =>
    cases hc : charB n
    case true =>
      have HR := Lib.hid (one4_good (t := t) (n := n) (by rw [ht, hc]; rfl))
      have TY := Lib.hid (fun y => typed_any (t == 1) 3 n y)
      rw [HR.out]
      clear HR
      generalize typedP (t == 1) 3 n = r at *
      rw [ht] at TY
      unfold kR at *
      go_enter Try.func12, Try.ntmps12
      go_wp2_with fail
      refine (CH.out _).mono ?_
      rintro e w' ⟨rfl, rfl⟩
      go_wp2_with fail
      generalize ((w.alloc (.cells #[.int .i64 t, .int .i32 n] kT)).alloc (.cells #[.int .i64 0, .int .i32 0] kT)) = V at *
      refine (TY.out _).mono ?_
      rintro e y2 ⟨rfl, hb⟩
      have B2 := Lib.hid (BA.out.trans (hb.mono BA.out.size))
      have P02 := Lib.hid (P0.out.below hb P0.out.lt)
      have G2 := Lib.hid (G.out.below hb G.out.lt)
      have g0 : y2.cell? ⟨w.heap.size + 1, 0, none⟩ = some (.int .i64 0) := G2.out.cell 0
      have g1 : y2.cell? ⟨w.heap.size + 1, 1, none⟩ = some (.int .i32 0) := G2.out.cell 1
      have f0 := G2.out.free 0
      have f1 := G2.out.free 1
      clear hb
      have H := Lib.hid ((G2.out.store 0 (.int .i64 r.t)).store 1 (.int .i32 r.n))
      have HB := Lib.hid ((B2.out.setCell (p := ⟨w.heap.size + 1, 0, none⟩) (show w.heap.size ≤ w.heap.size + 1 by omega) (.int .i64 r.t)).setCell (p := ⟨w.heap.size + 1, 1, none⟩) (show w.heap.size ≤ w.heap.size + 1 by omega) (.int .i32 r.n))
      go_wp2_with fail
      have q0 := H.out.cell 0
      have q1 := H.out.cell 1
      refine bodyPost_ret (v := .tuple #[.agg #[.int .i64 r.t, .int .i32 r.n], .int .i64 r.e]) ?_ rfl ⟨rfl, HB.out⟩
      simp [results, Try.results12, go_sem, q0, q1]
    case false =>
      have HR := Lib.hid (one4_bad (t := t) (n := n) (by rw [ht, hc]; rfl))
      rw [hc] at CH
      clear hc
      go_enter Try.func12, Try.ntmps12
      go_wp2_with fail
      refine (CH.out _).mono ?_
      rintro e w' ⟨rfl, rfl⟩
      go_wp2_with fail
      have q0 := G.out.cell 0
      have q1 := G.out.cell 1
      refine bodyPost_ret (v := .tuple #[.agg #[.int .i64 0, .int .i32 0], .int .i64 90]) ?_ rfl ⟨by rw [HR.out]; rfl, BA.out⟩
      simp [results, Try.results12, go_sem, q0, q1]

theorem one3 (t n : Int) (b : Bool) (h : ((t == 3) || (t == 2)) = b) : oneP 3 t n = typedP b 1 n := by
  subst h
  rfl

set_option maxHeartbeats 8000000 in
set_option maxRecDepth 100000 in
theorem one_3 (t n : Int) (w : World) : Calls Try.prog 12 #[.string ⟨#[79, 82, 68]⟩, .agg #[.int .i64 t, .int .i32 n]] w fun e w' => e = .returned (kR (oneP 3 t n)) ∧ Below w.heap.size w w' := by
  have c0 := (Below.refl w.heap.size w).alloc (Nat.le_refl _) (.cells #[.int .i64 t, .int .i32 n] kT)
  have c1 := c0.alloc c0.size (.cells #[.int .i64 0, .int .i32 0] kT)
  have BA := Lib.hid c1
  have P0 := Lib.hid ((Whole.made w kT #[.int .i64 t, .int .i32 n] (w.heap.size) (by simp)).alloc (.cells #[.int .i64 0, .int .i32 0] kT))
  have G := Lib.hid (Whole.made (w.alloc (.cells #[.int .i64 t, .int .i32 n] kT)) kT #[.int .i64 0, .int .i32 0] (w.heap.size + 1) (by simp))
  clear c0 c1
  have NU := Lib.hid (fun y => number_any n y)
  cases ht : (t == 3)
  case false =>
    have HR := Lib.hid (one3 t n (t == 2) (by rw [ht]; rfl))
    have TY := Lib.hid (fun y => typed_any (t == 2) 1 n y)
    rw [HR.out]
    clear HR
    generalize typedP (t == 2) 1 n = r at *
    unfold kR at *
    go_enter Try.func12, Try.ntmps12
    go_wp2_with fail
    generalize ((w.alloc (.cells #[.int .i64 t, .int .i32 n] kT)).alloc (.cells #[.int .i64 0, .int .i32 0] kT)) = V at *
    have L0 : V.cell? ⟨w.heap.size, 0, none⟩ = some (.int .i64 t) ∧ V.cell? ⟨w.heap.size, 1, none⟩ = some (.int .i32 n) := ⟨P0.out.cell 0, P0.out.cell 1⟩
    have BD := Lib.hid BA.out.drew
    have P0D := Lib.hid (show Whole V.drew (w.heap.size) kT #[.int .i64 t, .int .i32 n] from P0.out)
    have GD := Lib.hid (show Whole V.drew (w.heap.size + 1) kT #[.int .i64 0, .int .i32 0] from G.out)
    clear BA P0 G
    have L1 : V.drew.cell? ⟨w.heap.size, 0, none⟩ = some (.int .i64 t) ∧ V.drew.cell? ⟨w.heap.size, 1, none⟩ = some (.int .i32 n) := L0
    go_region_held3 (fun y => y.cell? ⟨w.heap.size, 0, none⟩ = some (.int .i64 t) ∧ y.cell? ⟨w.heap.size, 1, none⟩ = some (.int .i32 n))
      (first | with_reducible assumption | with_reducible exact L1 | with_reducible exact keepK1 (by assumption) | fail)
      (first
        | (go_at_call 25; refine (NU.out _).mono ?_; rintro e y1 ⟨rfl, hb⟩; have B1 := Lib.hid (BD.out.trans (hb.mono BD.out.size)); have P01 := Lib.hid (P0D.out.below hb P0D.out.lt); have G1 := Lib.hid (GD.out.below hb GD.out.lt); have S1 : y1.cell? ⟨w.heap.size, 0, none⟩ = some (.int .i64 t) ∧ y1.cell? ⟨w.heap.size, 1, none⟩ = some (.int .i32 n) := ⟨P01.out.cell 0, P01.out.cell 1⟩; clear hb)
        | (go_at_call 24; refine (TY.out _).mono ?_; rintro e y2 ⟨rfl, hb⟩; have B2 := Lib.hid (B1.out.trans (hb.mono B1.out.size)); have P02 := Lib.hid (P01.out.below hb P01.out.lt); have G2 := Lib.hid (G1.out.below hb G1.out.lt); have S2 : y2.cell? ⟨w.heap.size, 0, none⟩ = some (.int .i64 t) ∧ y2.cell? ⟨w.heap.size, 1, none⟩ = some (.int .i32 n) := ⟨P02.out.cell 0, P02.out.cell 1⟩; have g0 : y2.cell? ⟨w.heap.size + 1, 0, none⟩ = some (.int .i64 0) := G2.out.cell 0; have g1 : y2.cell? ⟨w.heap.size + 1, 1, none⟩ = some (.int .i32 0) := G2.out.cell 1; have f0 := G2.out.free 0; have f1 := G2.out.free 1; clear hb))
    have H := Lib.hid ((G2.out.store 0 (.int .i64 r.t)).store 1 (.int .i32 r.n))
    have HB := Lib.hid ((B2.out.setCell (p := ⟨w.heap.size + 1, 0, none⟩) (show w.heap.size ≤ w.heap.size + 1 by omega) (.int .i64 r.t)).setCell (p := ⟨w.heap.size + 1, 1, none⟩) (show w.heap.size ≤ w.heap.size + 1 by omega) (.int .i32 r.n))
    go_wp2_with fail
    have q0 := H.out.cell 0
    have q1 := H.out.cell 1
    refine bodyPost_ret (v := .tuple #[.agg #[.int .i64 r.t, .int .i32 r.n], .int .i64 r.e]) ?_ rfl ⟨rfl, HB.out⟩
    simp [results, Try.results12, go_sem, q0, q1]
  case true =>
    obtain rfl : t = 3 := by simpa using ht
    clear ht
    have HR := Lib.hid (one3 3 n true (by rfl))
    have TY := Lib.hid (fun y => typed_any true 1 n y)
    rw [HR.out]
    clear HR
    generalize typedP true 1 n = r at *
    unfold kR at *
    go_enter Try.func12, Try.ntmps12
    go_wp2_with fail
    generalize ((w.alloc (.cells #[.int .i64 3, .int .i32 n] kT)).alloc (.cells #[.int .i64 0, .int .i32 0] kT)) = V at *
    have BD := Lib.hid BA.out.drew
    have P0D := Lib.hid (show Whole V.drew (w.heap.size) kT #[.int .i64 3, .int .i32 n] from P0.out)
    have GD := Lib.hid (show Whole V.drew (w.heap.size + 1) kT #[.int .i64 0, .int .i32 0] from G.out)
    have L1 : V.drew.cell? ⟨w.heap.size, 0, none⟩ = some (.int .i64 3) ∧ V.drew.cell? ⟨w.heap.size, 1, none⟩ = some (.int .i32 n) := ⟨P0D.out.cell 0, P0D.out.cell 1⟩
    clear BA P0 G
    refine wp_region_noPanic ?_
    refine wp_region_held_drew (S := fun y => y.cell? ⟨w.heap.size, 0, none⟩ = some (.int .i64 3) ∧ y.cell? ⟨w.heap.size, 1, none⟩ = some (.int .i32 n)) (by kernel_rfl) L1 (fun hHeld => ?_)
    refine wpAnyH_take (i := 0) (oi := _) (v := .pointer (some ⟨w.heap.size, 0, none⟩)) rfl (by kernel_rfl) (by kernel_rfl) (by kernel_rfl) (fun _ _ _ h => h) (Or.inl ⟨by rfl, fun w hSw => by (try dsimp only at hSw); go_simp⟩) (by assumption) ?_
    try simp only [Act.put, List.getElem_toArray, List.getElem_cons_succ, List.getElem_cons_zero, List.setIfInBounds_toArray, List.set_cons_zero, List.set_cons_succ]
    refine wpAnyH_take (i := 1) (oi := _) (v := .int .i64 3) rfl (by kernel_rfl) (by kernel_rfl) (by kernel_rfl) (fun _ _ _ h => h) (Or.inl ⟨by rfl, fun w hSw => by (try dsimp only at hSw); go_simp⟩) (by assumption) ?_
    try simp only [Act.put, List.getElem_toArray, List.getElem_cons_succ, List.getElem_cons_zero, List.setIfInBounds_toArray, List.set_cons_zero, List.set_cons_succ]
    refine wpAnyH_take (i := 2) (oi := _) (v := .bool true) rfl (by kernel_rfl) (by kernel_rfl) (by kernel_rfl) (fun _ _ _ h => h) (Or.inl ⟨by rfl, fun w hSw => by (try dsimp only at hSw); go_simp⟩) (by assumption) ?_
    try simp only [Act.put, List.getElem_toArray, List.getElem_cons_succ, List.getElem_cons_zero, List.setIfInBounds_toArray, List.set_cons_zero, List.set_cons_succ]
    refine wpAnyH_take (i := 3) (oi := _) (v := .bool true) rfl (by kernel_rfl) (by kernel_rfl) (by kernel_rfl) (fun _ _ _ h => h) (Or.inl ⟨by rfl, fun w hSw => by (try dsimp only at hSw); go_simp⟩) (by assumption) ?_
    try simp only [Act.put, List.getElem_toArray, List.getElem_cons_succ, List.getElem_cons_zero, List.setIfInBounds_toArray, List.set_cons_zero, List.set_cons_succ]
    refine wpAnyH_take (i := 4) (oi := _) (v := undef) rfl (by kernel_rfl) (by kernel_rfl) (by kernel_rfl) (fun _ _ _ h => h) (Or.inr ⟨by rfl, rfl⟩) (by assumption) ?_
    try simp only [Act.put, List.getElem_toArray, List.getElem_cons_succ, List.getElem_cons_zero, List.setIfInBounds_toArray, List.set_cons_zero, List.set_cons_succ]
    refine wpAnyH_take (i := 5) (oi := _) (v := undef) rfl (by kernel_rfl) (by kernel_rfl) (by kernel_rfl) (fun _ _ _ h => h) (Or.inr ⟨by rfl, rfl⟩) (by assumption) ?_
    try simp only [Act.put, List.getElem_toArray, List.getElem_cons_succ, List.getElem_cons_zero, List.setIfInBounds_toArray, List.set_cons_zero, List.set_cons_succ]
    refine wpAnyH_take (i := 6) (oi := _) (v := undef) rfl (by kernel_rfl) (by kernel_rfl) (by kernel_rfl) (fun _ _ _ h => h) (Or.inr ⟨by rfl, rfl⟩) (by assumption) ?_
    try simp only [Act.put, List.getElem_toArray, List.getElem_cons_succ, List.getElem_cons_zero, List.setIfInBounds_toArray, List.set_cons_zero, List.set_cons_succ]
    refine wpAnyH_take (i := 7) (oi := _) (v := .bool true) rfl (by kernel_rfl) (by kernel_rfl) (by kernel_rfl) (fun _ _ _ h => h) (Or.inl ⟨by rfl, fun w hSw => by (try dsimp only at hSw); go_simp⟩) (by assumption) ?_
    try simp only [Act.put, List.getElem_toArray, List.getElem_cons_succ, List.getElem_cons_zero, List.setIfInBounds_toArray, List.set_cons_zero, List.set_cons_succ]
    refine wpAnyH_take (i := 8) (oi := _) (v := .pointer (some ⟨w.heap.size, 1, none⟩)) rfl (by kernel_rfl) (by kernel_rfl) (by kernel_rfl) (fun _ _ _ h => h) (Or.inl ⟨by rfl, fun w hSw => by (try dsimp only at hSw); go_simp⟩) (by assumption) ?_
    try simp only [Act.put, List.getElem_toArray, List.getElem_cons_succ, List.getElem_cons_zero, List.setIfInBounds_toArray, List.set_cons_zero, List.set_cons_succ]
    refine wpAnyH_take (i := 9) (oi := _) (v := .int .i32 n) rfl (by kernel_rfl) (by kernel_rfl) (by kernel_rfl) (fun _ _ _ h => h) (Or.inl ⟨by rfl, fun w hSw => by (try dsimp only at hSw); go_simp⟩) (by assumption) ?_
    try simp only [Act.put, List.getElem_toArray, List.getElem_cons_succ, List.getElem_cons_zero, List.setIfInBounds_toArray, List.set_cons_zero, List.set_cons_succ]
    refine wpAnyH_ready (rs := [10]) (by kernel_rfl) (by simp) (AllReadyH.cons (o := _) rfl (fun K hK => ?_) AllReadyH.nil)
    go_simp
    go_at_call 25
    refine (NU.out _).mono ?_
    rintro e y1 ⟨rfl, hb⟩
    have B1 := Lib.hid (BD.out.trans (hb.mono BD.out.size))
    have P01 := Lib.hid (P0D.out.below hb P0D.out.lt)
    have G1 := Lib.hid (GD.out.below hb GD.out.lt)
    have S1 : y1.cell? ⟨w.heap.size, 0, none⟩ = some (.int .i64 3) ∧ y1.cell? ⟨w.heap.size, 1, none⟩ = some (.int .i32 n) := ⟨P01.out.cell 0, P01.out.cell 1⟩
    clear hb
    refine hK.out _ _ S1 (fun hHeld => ?_)
    clear hK K
    try simp only [Act.put, List.getElem_toArray, List.getElem_cons_succ, List.getElem_cons_zero, List.setIfInBounds_toArray, List.set_cons_zero, List.set_cons_succ]
    refine wpAnyH_ready (rs := [11]) (by kernel_rfl) (by simp) (AllReadyH.cons (o := _) rfl (fun K hK => ?_) AllReadyH.nil)
    go_simp
    go_at_call 24
    refine (TY.out _).mono ?_
    rintro e y2 ⟨rfl, hb⟩
    have B2 := Lib.hid (B1.out.trans (hb.mono B1.out.size))
    have P02 := Lib.hid (P01.out.below hb P01.out.lt)
    have G2 := Lib.hid (G1.out.below hb G1.out.lt)
    have S2 : y2.cell? ⟨w.heap.size, 0, none⟩ = some (.int .i64 3) ∧ y2.cell? ⟨w.heap.size, 1, none⟩ = some (.int .i32 n) := ⟨P02.out.cell 0, P02.out.cell 1⟩
    have g0 : y2.cell? ⟨w.heap.size + 1, 0, none⟩ = some (.int .i64 0) := G2.out.cell 0
    have g1 : y2.cell? ⟨w.heap.size + 1, 1, none⟩ = some (.int .i32 0) := G2.out.cell 1
    have f0 := G2.out.free 0
    have f1 := G2.out.free 1
    clear hb
    refine hK.out _ _ S2 (fun hHeld => ?_)
    clear hK K
    try simp only [Act.put, List.getElem_toArray, List.getElem_cons_succ, List.getElem_cons_zero, List.setIfInBounds_toArray, List.set_cons_zero, List.set_cons_succ]
    refine wpAnyH_take (i := 12) (oi := _) (v := .agg #[.int .i64 r.t, .int .i32 r.n]) rfl (by kernel_rfl) (by kernel_rfl) (by kernel_rfl) (fun _ _ _ h => h) (Or.inl ⟨by rfl, fun w hSw => by (try dsimp only at hSw); go_simp⟩) (by assumption) ?_
    try simp only [Act.put, List.getElem_toArray, List.getElem_cons_succ, List.getElem_cons_zero, List.setIfInBounds_toArray, List.set_cons_zero, List.set_cons_succ]
    refine wpAnyH_take (i := 13) (oi := _) (v := .int .i64 r.e) rfl (by kernel_rfl) (by kernel_rfl) (by kernel_rfl) (fun _ _ _ h => h) (Or.inl ⟨by rfl, fun w hSw => by (try dsimp only at hSw); go_simp⟩) (by assumption) ?_
    try simp only [Act.put, List.getElem_toArray, List.getElem_cons_succ, List.getElem_cons_zero, List.setIfInBounds_toArray, List.set_cons_zero, List.set_cons_succ]
    refine wpAnyH_ready (rs := [14]) (by kernel_rfl) (by simp) (AllReadyH.cons (o := _) rfl (fun K hK => ?_) AllReadyH.nil)
    go_simp
    refine hK.out _ _ (keepK1 S2) (fun hHeld => ?_)
    clear hK K
    try simp only [Act.put, List.getElem_toArray, List.getElem_cons_succ, List.getElem_cons_zero, List.setIfInBounds_toArray, List.set_cons_zero, List.set_cons_succ]
    refine wpAnyH_take (i := 15) (oi := _) (v := .int .i64 r.e) rfl (by kernel_rfl) (by kernel_rfl) (by kernel_rfl) (fun _ _ _ h => h) (Or.inl ⟨by rfl, fun w hSw => by (try dsimp only at hSw); go_simp⟩) (by assumption) ?_
    try simp only [Act.put, List.getElem_toArray, List.getElem_cons_succ, List.getElem_cons_zero, List.setIfInBounds_toArray, List.set_cons_zero, List.set_cons_succ]
    refine wpAnyH_done (by kernel_rfl) ?_ _
    refine NoPanic.normal ?_
    have H := Lib.hid ((G2.out.store 0 (.int .i64 r.t)).store 1 (.int .i32 r.n))
    have HB := Lib.hid ((B2.out.setCell (p := ⟨w.heap.size + 1, 0, none⟩) (show w.heap.size ≤ w.heap.size + 1 by omega) (.int .i64 r.t)).setCell (p := ⟨w.heap.size + 1, 1, none⟩) (show w.heap.size ≤ w.heap.size + 1 by omega) (.int .i32 r.n))
    go_wp2_with fail
    have q0 := H.out.cell 0
    have q1 := H.out.cell 1
    refine bodyPost_ret (v := .tuple #[.agg #[.int .i64 r.t, .int .i32 r.n], .int .i64 r.e]) ?_ rfl ⟨rfl, HB.out⟩
    simp [results, Try.results12, go_sem, q0, q1]

set_option maxHeartbeats 8000000 in
set_option maxRecDepth 100000 in
theorem one_none (s : ByteArray) (t n : Int) (w : World) (h0 : (s.toList == [45]) = false) (h1 : (s.toList == [78, 79, 84]) = false) (h2 : (s.toList == [79, 68, 68]) = false) (h3 : (s.toList == [79, 82, 68]) = false) (h4 : (s.toList == [67, 72, 82]) = false) : Calls Try.prog 12 #[.string s, .agg #[.int .i64 t, .int .i32 n]] w fun e w' => e = .returned (kR (oneP 5 t n)) ∧ Below w.heap.size w w' := by
  have c0 := (Below.refl w.heap.size w).alloc (Nat.le_refl _) (.cells #[.int .i64 t, .int .i32 n] kT)
  have c1 := c0.alloc c0.size (.cells #[.int .i64 0, .int .i32 0] kT)
  have BA := Lib.hid c1
  have P0 := Lib.hid ((Whole.made w kT #[.int .i64 t, .int .i32 n] (w.heap.size) (by simp)).alloc (.cells #[.int .i64 0, .int .i32 0] kT))
  have G := Lib.hid (Whole.made (w.alloc (.cells #[.int .i64 t, .int .i32 n] kT)) kT #[.int .i64 0, .int .i32 0] (w.heap.size + 1) (by simp))
  clear c0 c1
  go_enter Try.func12, Try.ntmps12
  go_wp2_with fail
  have q0 := G.out.cell 0
  have q1 := G.out.cell 1
  refine bodyPost_ret (v := .tuple #[.agg #[.int .i64 0, .int .i32 0], .int .i64 110]) ?_ rfl ⟨rfl, BA.out⟩
  simp [results, Try.results12, go_sem, q0, q1]

end Go.Proofs.Ytmgjnalijmplcaa
