/- Konst: the program's reckon and join. -/
import Derived.Test.YtmgjnalijmplcaaKonB
import Derived.Test.YtmgjnalijmplcaaKonD
namespace Go.Proofs.Ytmgjnalijmplcaa
open Go.ChangeShapes Go.WideShapes Go.ChangeAt Go.RowKit
set_option linter.unusedVariables false
set_option linter.unusedSimpArgs false

/-- Of two numbers, if they are such. -/
def reckonP (t1 t2 : Int) (r : Option Int) : Kr :=
  if ((t1 != 1) || (t2 != 1)) = true then ⟨0, 0, 91⟩ else match r with | none => ⟨0, 0, 10⟩ | some n => ⟨1, n, 0⟩

/-- AND (k), OR. -/
def joinB (k : Bool) (n1 n2 : Int) : Bool := if k then (n1 != 0) && (n2 != 0) else (n1 != 0) || (n2 != 0)

def joinP (k : Bool) (t1 n1 t2 n2 : Int) : Kr := typedP ((t1 == 2) && (t2 == 2)) 2 (trP (joinB k n1 n2))

def compareP (k : Nat) (t1 n1 t2 n2 : Int) : Kr := typedP (((t1 == t2) && rightB t1 n1) && (decide (k < 9) || ((t1 == 1) || (t1 == 3)))) 2 (trP (cmpP k n1 n2))

def twoP (k : Nat) (t1 n1 t2 n2 : Int) : Kr :=
  if k < 5 then reckonP t1 t2 (reckP k n1 n2)
  else if k < 7 then joinP (k == 5) t1 n1 t2 n2
  else if k < 13 then compareP k t1 n1 t2 n2
  else ⟨0, 0, 110⟩

theorem reckon_bad {t1 t2 : Int} {r : Option Int} (h : ((t1 != 1) || (t2 != 1)) = true) : reckonP t1 t2 r = ⟨0, 0, 91⟩ := if_pos h

theorem reckon_zero {t1 t2 : Int} (h : ((t1 != 1) || (t2 != 1)) = false) : reckonP t1 t2 none = ⟨0, 0, 10⟩ := if_neg (by rw [h]; exact Bool.false_ne_true)

theorem reckon_good {t1 t2 n : Int} (h : ((t1 != 1) || (t2 != 1)) = false) : reckonP t1 t2 (some n) = ⟨1, n, 0⟩ := if_neg (by rw [h]; exact Bool.false_ne_true)

set_option maxHeartbeats 8000000 in
set_option maxRecDepth 100000 in
theorem reckon_any (s : ByteArray) (r : Option Int) (t1 n1 t2 n2 : Int) (w : World) (hR : ∀ y, Calls Try.prog 33 #[.string s, .int .i32 n1, .int .i32 n2] y fun e w' => e = .returned (reckV r) ∧ Below y.heap.size y w') : Calls Try.prog 18 #[.string s, .agg #[.int .i64 t1, .int .i32 n1], .agg #[.int .i64 t2, .int .i32 n2]] w fun e w' => e = .returned (kR (reckonP t1 t2 r)) ∧ Below w.heap.size w w' := by
  have c0 := (Below.refl w.heap.size w).alloc (Nat.le_refl _) (.cells #[.int .i64 t1, .int .i32 n1] kT)
  have c1 := c0.alloc c0.size (.cells #[.int .i64 t2, .int .i32 n2] kT)
  have c2 := c1.alloc c1.size (.cells #[.int .i64 0, .int .i32 0] kT)
  have BA := Lib.hid c2
  have P0 := Lib.hid (((Whole.made w kT #[.int .i64 t1, .int .i32 n1] (w.heap.size) (by simp)).alloc (.cells #[.int .i64 t2, .int .i32 n2] kT)).alloc (.cells #[.int .i64 0, .int .i32 0] kT))
  have P1 := Lib.hid ((Whole.made (w.alloc (.cells #[.int .i64 t1, .int .i32 n1] kT)) kT #[.int .i64 t2, .int .i32 n2] (w.heap.size + 1) (by simp)).alloc (.cells #[.int .i64 0, .int .i32 0] kT))
  have G := Lib.hid (Whole.made ((w.alloc (.cells #[.int .i64 t1, .int .i32 n1] kT)).alloc (.cells #[.int .i64 t2, .int .i32 n2] kT)) kT #[.int .i64 0, .int .i32 0] (w.heap.size + 2) (by simp))
  clear c0 c1 c2
  have HR := Lib.hid hR
  clear hR
  cases h1 : (t1 != 1)
  case true =>
    have R0 := Lib.hid (reckon_bad (t1 := t1) (t2 := t2) (r := r) (by rw [h1]; rfl))
    go_enter Try.func18, Try.ntmps18
    go_wp2_with fail
    have q0 := G.out.cell 0
    have q1 := G.out.cell 1
    refine bodyPost_ret (v := .tuple #[.agg #[.int .i64 0, .int .i32 0], .int .i64 91]) ?_ rfl ⟨by rw [R0.out]; rfl, BA.out⟩
    simp [results, Try.results18, go_sem, q0, q1]
  cases h2 : (t2 != 1)
  case true =>
    have R0 := Lib.hid (reckon_bad (t1 := t1) (t2 := t2) (r := r) (by rw [h1, h2]; rfl))
    go_enter Try.func18, Try.ntmps18
    go_wp2_with fail
    have q0 := G.out.cell 0
    have q1 := G.out.cell 1
    refine bodyPost_ret (v := .tuple #[.agg #[.int .i64 0, .int .i32 0], .int .i64 91]) ?_ rfl ⟨by rw [R0.out]; rfl, BA.out⟩
    simp [results, Try.results18, go_sem, q0, q1]
  have h12 : ((t1 != 1) || (t2 != 1)) = false := by rw [h1, h2]; rfl
  rcases r with _ | n
  case none =>
    have CR := Lib.hid (fun y => show Calls Try.prog 33 #[.string s, .int .i32 n1, .int .i32 n2] y fun e w' => e = .returned (.tuple #[.int .i32 0, .bool false]) ∧ Below y.heap.size y w' from HR.out y)
    have R0 := Lib.hid (reckon_zero h12)
    clear h12 HR
    go_enter Try.func18, Try.ntmps18
    go_wp2_with fail
    generalize (((w.alloc (.cells #[.int .i64 t1, .int .i32 n1] kT)).alloc (.cells #[.int .i64 t2, .int .i32 n2] kT)).alloc (.cells #[.int .i64 0, .int .i32 0] kT)) = V at *
    refine (CR.out _).mono ?_
    rintro e y1 ⟨rfl, hb⟩
    have B1 := Lib.hid (BA.out.trans (hb.mono BA.out.size))
    have P01 := Lib.hid (P0.out.below hb P0.out.lt)
    have P11 := Lib.hid (P1.out.below hb P1.out.lt)
    have G1 := Lib.hid (G.out.below hb G.out.lt)
    clear hb
    have g0 : y1.cell? ⟨w.heap.size + 2, 0, none⟩ = some (.int .i64 0) := G1.out.cell 0
    have g1 : y1.cell? ⟨w.heap.size + 2, 1, none⟩ = some (.int .i32 0) := G1.out.cell 1
    have f0 := G1.out.free 0
    have f1 := G1.out.free 1
    have H := Lib.hid ((G1.out.store 0 (.int .i64 0)).store 1 (.int .i32 0))
    have HB := Lib.hid ((B1.out.setCell (p := ⟨w.heap.size + 2, 0, none⟩) (show w.heap.size ≤ w.heap.size + 2 by omega) (.int .i64 0)).setCell (p := ⟨w.heap.size + 2, 1, none⟩) (show w.heap.size ≤ w.heap.size + 2 by omega) (.int .i32 0))
    go_wp2_with fail
    have q0 := H.out.cell 0
    have q1 := H.out.cell 1
    refine bodyPost_ret (v := .tuple #[.agg #[.int .i64 0, .int .i32 0], .int .i64 10]) ?_ rfl ⟨by rw [R0.out]; rfl, HB.out⟩
    simp [results, Try.results18, go_sem, q0, q1]
  case some =>
    have CR := Lib.hid (fun y => show Calls Try.prog 33 #[.string s, .int .i32 n1, .int .i32 n2] y fun e w' => e = .returned (.tuple #[.int .i32 n, .bool true]) ∧ Below y.heap.size y w' from HR.out y)
    have NU := Lib.hid (fun y => number_any n y)
    have R0 := Lib.hid (reckon_good (n := n) h12)
    clear h12 HR
    go_enter Try.func18, Try.ntmps18
    go_wp2_with fail
    generalize (((w.alloc (.cells #[.int .i64 t1, .int .i32 n1] kT)).alloc (.cells #[.int .i64 t2, .int .i32 n2] kT)).alloc (.cells #[.int .i64 0, .int .i32 0] kT)) = V at *
    refine (CR.out _).mono ?_
    rintro e y1 ⟨rfl, hb⟩
    have B1 := Lib.hid (BA.out.trans (hb.mono BA.out.size))
    have P01 := Lib.hid (P0.out.below hb P0.out.lt)
    have P11 := Lib.hid (P1.out.below hb P1.out.lt)
    have G1 := Lib.hid (G.out.below hb G.out.lt)
    clear hb
    go_wp2_with fail
    refine (NU.out _).mono ?_
    rintro e y2 ⟨rfl, hb⟩
    have B2 := Lib.hid (B1.out.trans (hb.mono B1.out.size))
    have P02 := Lib.hid (P01.out.below hb P01.out.lt)
    have P12 := Lib.hid (P11.out.below hb P11.out.lt)
    have G2 := Lib.hid (G1.out.below hb G1.out.lt)
    clear hb
    have g0 : y2.cell? ⟨w.heap.size + 2, 0, none⟩ = some (.int .i64 0) := G2.out.cell 0
    have g1 : y2.cell? ⟨w.heap.size + 2, 1, none⟩ = some (.int .i32 0) := G2.out.cell 1
    have f0 := G2.out.free 0
    have f1 := G2.out.free 1
    have H := Lib.hid ((G2.out.store 0 (.int .i64 1)).store 1 (.int .i32 n))
    have HB := Lib.hid ((B2.out.setCell (p := ⟨w.heap.size + 2, 0, none⟩) (show w.heap.size ≤ w.heap.size + 2 by omega) (.int .i64 1)).setCell (p := ⟨w.heap.size + 2, 1, none⟩) (show w.heap.size ≤ w.heap.size + 2 by omega) (.int .i32 n))
    go_wp2_with fail
    have q0 := H.out.cell 0
    have q1 := H.out.cell 1
    refine bodyPost_ret (v := .tuple #[.agg #[.int .i64 1, .int .i32 n], .int .i64 0]) ?_ rfl ⟨by rw [R0.out]; rfl, HB.out⟩
    simp [results, Try.results18, go_sem, q0, q1]

set_option maxHeartbeats 8000000 in
set_option maxRecDepth 100000 in
theorem join_true (s : ByteArray) (t1 n1 t2 n2 : Int) (w : World) (hs : (s.toList == [65, 78, 68]) = true) : Calls Try.prog 19 #[.string s, .agg #[.int .i64 t1, .int .i32 n1], .agg #[.int .i64 t2, .int .i32 n2]] w fun e w' => e = .returned (kR (joinP true t1 n1 t2 n2)) ∧ Below w.heap.size w w' := by
  have c0 := (Below.refl w.heap.size w).alloc (Nat.le_refl _) (.cells #[.int .i64 t1, .int .i32 n1] kT)
  have c1 := c0.alloc c0.size (.cells #[.int .i64 t2, .int .i32 n2] kT)
  have c2 := c1.alloc c1.size (.cells #[.int .i64 0, .int .i32 0] kT)
  have BA := Lib.hid c2
  have P0 := Lib.hid (((Whole.made w kT #[.int .i64 t1, .int .i32 n1] (w.heap.size) (by simp)).alloc (.cells #[.int .i64 t2, .int .i32 n2] kT)).alloc (.cells #[.int .i64 0, .int .i32 0] kT))
  have P1 := Lib.hid ((Whole.made (w.alloc (.cells #[.int .i64 t1, .int .i32 n1] kT)) kT #[.int .i64 t2, .int .i32 n2] (w.heap.size + 1) (by simp)).alloc (.cells #[.int .i64 0, .int .i32 0] kT))
  have G := Lib.hid (Whole.made ((w.alloc (.cells #[.int .i64 t1, .int .i32 n1] kT)).alloc (.cells #[.int .i64 t2, .int .i32 n2] kT)) kT #[.int .i64 0, .int .i32 0] (w.heap.size + 2) (by simp))
  clear c0 c1 c2
  cases h1 : (n1 != 0)
  case true =>
    have JB : joinB true n1 n2 = (n2 != 0) := by unfold joinB; rw [h1]; rfl
    unfold joinP
    rw [JB]
    clear JB
    have TR := Lib.hid (fun y => truth_any (n2 != 0) y)
    generalize htr : trP (n2 != 0) = m at *
    clear htr
    cases h2 : (t1 == 2)
    case true =>
      show Calls _ _ _ _ fun e w' => e = .returned (kR (typedP (true && (t2 == 2)) 2 m)) ∧ _
      rw [Bool.true_and]
      have TY := Lib.hid (fun y => typed_any (t2 == 2) 2 m y)
      generalize typedP (t2 == 2) 2 m = r at *
      unfold kR at *
      go_enter Try.func19, Try.ntmps19
      go_wp2_with fail
      generalize (((w.alloc (.cells #[.int .i64 t1, .int .i32 n1] kT)).alloc (.cells #[.int .i64 t2, .int .i32 n2] kT)).alloc (.cells #[.int .i64 0, .int .i32 0] kT)) = V at *
      have L0 : V.cell? ⟨w.heap.size, 0, none⟩ = some (.int .i64 t1) ∧ V.cell? ⟨w.heap.size, 1, none⟩ = some (.int .i32 n1) ∧ V.cell? ⟨w.heap.size + 1, 0, none⟩ = some (.int .i64 t2) ∧ V.cell? ⟨w.heap.size + 1, 1, none⟩ = some (.int .i32 n2) := ⟨P0.out.cell 0, P0.out.cell 1, P1.out.cell 0, P1.out.cell 1⟩
      have BD := Lib.hid BA.out.drew
      have P0D := Lib.hid (show Whole V.drew (w.heap.size) kT #[.int .i64 t1, .int .i32 n1] from P0.out)
      have P1D := Lib.hid (show Whole V.drew (w.heap.size + 1) kT #[.int .i64 t2, .int .i32 n2] from P1.out)
      have GD := Lib.hid (show Whole V.drew (w.heap.size + 2) kT #[.int .i64 0, .int .i32 0] from G.out)
      clear BA P0 P1 G
      have L1 : V.drew.cell? ⟨w.heap.size, 0, none⟩ = some (.int .i64 t1) ∧ V.drew.cell? ⟨w.heap.size, 1, none⟩ = some (.int .i32 n1) ∧ V.drew.cell? ⟨w.heap.size + 1, 0, none⟩ = some (.int .i64 t2) ∧ V.drew.cell? ⟨w.heap.size + 1, 1, none⟩ = some (.int .i32 n2) := L0
      go_region_held3 (fun y => y.cell? ⟨w.heap.size, 0, none⟩ = some (.int .i64 t1) ∧ y.cell? ⟨w.heap.size, 1, none⟩ = some (.int .i32 n1) ∧ y.cell? ⟨w.heap.size + 1, 0, none⟩ = some (.int .i64 t2) ∧ y.cell? ⟨w.heap.size + 1, 1, none⟩ = some (.int .i32 n2))
        (first | with_reducible assumption | with_reducible exact L1 | with_reducible exact keepK2 (by assumption) | fail)
        (first
          | (go_at_call 27; refine (TR.out _).mono ?_; rintro e y1 ⟨rfl, hb⟩; have B1 := Lib.hid (BD.out.trans (hb.mono BD.out.size)); have P01 := Lib.hid (P0D.out.below hb P0D.out.lt); have P11 := Lib.hid (P1D.out.below hb P1D.out.lt); have G1 := Lib.hid (GD.out.below hb GD.out.lt); have S1 : y1.cell? ⟨w.heap.size, 0, none⟩ = some (.int .i64 t1) ∧ y1.cell? ⟨w.heap.size, 1, none⟩ = some (.int .i32 n1) ∧ y1.cell? ⟨w.heap.size + 1, 0, none⟩ = some (.int .i64 t2) ∧ y1.cell? ⟨w.heap.size + 1, 1, none⟩ = some (.int .i32 n2) := ⟨P01.out.cell 0, P01.out.cell 1, P11.out.cell 0, P11.out.cell 1⟩; clear hb)
          | (go_at_call 24; refine (TY.out _).mono ?_; rintro e y2 ⟨rfl, hb⟩; have B2 := Lib.hid (B1.out.trans (hb.mono B1.out.size)); have P02 := Lib.hid (P01.out.below hb P01.out.lt); have P12 := Lib.hid (P11.out.below hb P11.out.lt); have G2 := Lib.hid (G1.out.below hb G1.out.lt); have S2 : y2.cell? ⟨w.heap.size, 0, none⟩ = some (.int .i64 t1) ∧ y2.cell? ⟨w.heap.size, 1, none⟩ = some (.int .i32 n1) ∧ y2.cell? ⟨w.heap.size + 1, 0, none⟩ = some (.int .i64 t2) ∧ y2.cell? ⟨w.heap.size + 1, 1, none⟩ = some (.int .i32 n2) := ⟨P02.out.cell 0, P02.out.cell 1, P12.out.cell 0, P12.out.cell 1⟩; have g0 : y2.cell? ⟨w.heap.size + 2, 0, none⟩ = some (.int .i64 0) := G2.out.cell 0; have g1 : y2.cell? ⟨w.heap.size + 2, 1, none⟩ = some (.int .i32 0) := G2.out.cell 1; have f0 := G2.out.free 0; have f1 := G2.out.free 1; clear hb))
      have H := Lib.hid ((G2.out.store 0 (.int .i64 r.t)).store 1 (.int .i32 r.n))
      have HB := Lib.hid ((B2.out.setCell (p := ⟨w.heap.size + 2, 0, none⟩) (show w.heap.size ≤ w.heap.size + 2 by omega) (.int .i64 r.t)).setCell (p := ⟨w.heap.size + 2, 1, none⟩) (show w.heap.size ≤ w.heap.size + 2 by omega) (.int .i32 r.n))
      go_wp2_with fail
      have q0 := H.out.cell 0
      have q1 := H.out.cell 1
      refine bodyPost_ret (v := .tuple #[.agg #[.int .i64 r.t, .int .i32 r.n], .int .i64 r.e]) ?_ rfl ⟨rfl, HB.out⟩
      simp [results, Try.results19, go_sem, q0, q1]
    case false =>
      show Calls _ _ _ _ fun e w' => e = .returned (kR (typedP (false && (t2 == 2)) 2 m)) ∧ _
      rw [Bool.false_and]
      have TY := Lib.hid (fun y => typed_any false 2 m y)
      generalize typedP false 2 m = r at *
      unfold kR at *
      go_enter Try.func19, Try.ntmps19
      go_wp2_with fail
      generalize (((w.alloc (.cells #[.int .i64 t1, .int .i32 n1] kT)).alloc (.cells #[.int .i64 t2, .int .i32 n2] kT)).alloc (.cells #[.int .i64 0, .int .i32 0] kT)) = V at *
      have BD := Lib.hid BA.out.drew
      have P0D := Lib.hid (show Whole V.drew (w.heap.size) kT #[.int .i64 t1, .int .i32 n1] from P0.out)
      have P1D := Lib.hid (show Whole V.drew (w.heap.size + 1) kT #[.int .i64 t2, .int .i32 n2] from P1.out)
      have GD := Lib.hid (show Whole V.drew (w.heap.size + 2) kT #[.int .i64 0, .int .i32 0] from G.out)
      have L1 : V.drew.cell? ⟨w.heap.size, 0, none⟩ = some (.int .i64 t1) ∧ V.drew.cell? ⟨w.heap.size, 1, none⟩ = some (.int .i32 n1) ∧ V.drew.cell? ⟨w.heap.size + 1, 0, none⟩ = some (.int .i64 t2) ∧ V.drew.cell? ⟨w.heap.size + 1, 1, none⟩ = some (.int .i32 n2) := ⟨P0D.out.cell 0, P0D.out.cell 1, P1D.out.cell 0, P1D.out.cell 1⟩
      clear BA P0 P1 G
      refine wp_region_noPanic ?_
      refine wp_region_held_drew (S := fun y => y.cell? ⟨w.heap.size, 0, none⟩ = some (.int .i64 t1) ∧ y.cell? ⟨w.heap.size, 1, none⟩ = some (.int .i32 n1) ∧ y.cell? ⟨w.heap.size + 1, 0, none⟩ = some (.int .i64 t2) ∧ y.cell? ⟨w.heap.size + 1, 1, none⟩ = some (.int .i32 n2)) (by kernel_rfl) L1 (fun hHeld => ?_)
      refine wpAnyH_take (i := 0) (oi := _) (v := .pointer (some ⟨w.heap.size, 0, none⟩)) rfl (by kernel_rfl) (by kernel_rfl) (by kernel_rfl) (fun _ _ _ h => h) (Or.inl ⟨by rfl, fun w hSw => by (try dsimp only at hSw); go_simp⟩) (by assumption) ?_
      try simp only [Act.put, List.getElem_toArray, List.getElem_cons_succ, List.getElem_cons_zero, List.setIfInBounds_toArray, List.set_cons_zero, List.set_cons_succ]
      refine wpAnyH_take (i := 1) (oi := _) (v := .int .i64 t1) rfl (by kernel_rfl) (by kernel_rfl) (by kernel_rfl) (fun _ _ _ h => h) (Or.inl ⟨by rfl, fun w hSw => by (try dsimp only at hSw); go_simp⟩) (by assumption) ?_
      try simp only [Act.put, List.getElem_toArray, List.getElem_cons_succ, List.getElem_cons_zero, List.setIfInBounds_toArray, List.set_cons_zero, List.set_cons_succ]
      refine wpAnyH_take (i := 2) (oi := _) (v := .bool false) rfl (by kernel_rfl) (by kernel_rfl) (by kernel_rfl) (fun _ _ _ h => h) (Or.inl ⟨by rfl, fun w hSw => by (try dsimp only at hSw); go_simp⟩) (by assumption) ?_
      try simp only [Act.put, List.getElem_toArray, List.getElem_cons_succ, List.getElem_cons_zero, List.setIfInBounds_toArray, List.set_cons_zero, List.set_cons_succ]
      refine wpAnyH_take (i := 3) (oi := _) (v := .bool false) rfl (by kernel_rfl) (by kernel_rfl) (by kernel_rfl) (fun _ _ _ h => h) (Or.inl ⟨by rfl, fun w hSw => by (try dsimp only at hSw); go_simp⟩) (by assumption) ?_
      try simp only [Act.put, List.getElem_toArray, List.getElem_cons_succ, List.getElem_cons_zero, List.setIfInBounds_toArray, List.set_cons_zero, List.set_cons_succ]
      refine wpAnyH_take (i := 4) (oi := _) (v := undef) rfl (by kernel_rfl) (by kernel_rfl) (by kernel_rfl) (fun _ _ _ h => h) (Or.inr ⟨by rfl, rfl⟩) (by assumption) ?_
      try simp only [Act.put, List.getElem_toArray, List.getElem_cons_succ, List.getElem_cons_zero, List.setIfInBounds_toArray, List.set_cons_zero, List.set_cons_succ]
      refine wpAnyH_take (i := 5) (oi := _) (v := undef) rfl (by kernel_rfl) (by kernel_rfl) (by kernel_rfl) (fun _ _ _ h => h) (Or.inr ⟨by rfl, rfl⟩) (by assumption) ?_
      try simp only [Act.put, List.getElem_toArray, List.getElem_cons_succ, List.getElem_cons_zero, List.setIfInBounds_toArray, List.set_cons_zero, List.set_cons_succ]
      refine wpAnyH_take (i := 6) (oi := _) (v := undef) rfl (by kernel_rfl) (by kernel_rfl) (by kernel_rfl) (fun _ _ _ h => h) (Or.inr ⟨by rfl, rfl⟩) (by assumption) ?_
      try simp only [Act.put, List.getElem_toArray, List.getElem_cons_succ, List.getElem_cons_zero, List.setIfInBounds_toArray, List.set_cons_zero, List.set_cons_succ]
      refine wpAnyH_take (i := 7) (oi := _) (v := .bool false) rfl (by kernel_rfl) (by kernel_rfl) (by kernel_rfl) (fun _ _ _ h => h) (Or.inl ⟨by rfl, fun w hSw => by (try dsimp only at hSw); go_simp⟩) (by assumption) ?_
      try simp only [Act.put, List.getElem_toArray, List.getElem_cons_succ, List.getElem_cons_zero, List.setIfInBounds_toArray, List.set_cons_zero, List.set_cons_succ]
      refine wpAnyH_take (i := 8) (oi := _) (v := .bool (n2 != 0)) rfl (by kernel_rfl) (by kernel_rfl) (by kernel_rfl) (fun _ _ _ h => h) (Or.inl ⟨by rfl, fun w hSw => by (try dsimp only at hSw); go_simp⟩) (by assumption) ?_
      try simp only [Act.put, List.getElem_toArray, List.getElem_cons_succ, List.getElem_cons_zero, List.setIfInBounds_toArray, List.set_cons_zero, List.set_cons_succ]
      refine wpAnyH_ready (rs := [9]) (by kernel_rfl) (by simp) (AllReadyH.cons (o := _) rfl (fun K hK => ?_) AllReadyH.nil)
      go_simp
      go_at_call 27
      refine (TR.out _).mono ?_
      rintro e y1 ⟨rfl, hb⟩
      have B1 := Lib.hid (BD.out.trans (hb.mono BD.out.size))
      have P01 := Lib.hid (P0D.out.below hb P0D.out.lt)
      have P11 := Lib.hid (P1D.out.below hb P1D.out.lt)
      have G1 := Lib.hid (GD.out.below hb GD.out.lt)
      have S1 : y1.cell? ⟨w.heap.size, 0, none⟩ = some (.int .i64 t1) ∧ y1.cell? ⟨w.heap.size, 1, none⟩ = some (.int .i32 n1) ∧ y1.cell? ⟨w.heap.size + 1, 0, none⟩ = some (.int .i64 t2) ∧ y1.cell? ⟨w.heap.size + 1, 1, none⟩ = some (.int .i32 n2) := ⟨P01.out.cell 0, P01.out.cell 1, P11.out.cell 0, P11.out.cell 1⟩
      clear hb
      refine hK.out _ _ S1 (fun hHeld => ?_)
      clear hK K
      try simp only [Act.put, List.getElem_toArray, List.getElem_cons_succ, List.getElem_cons_zero, List.setIfInBounds_toArray, List.set_cons_zero, List.set_cons_succ]
      refine wpAnyH_ready (rs := [10]) (by kernel_rfl) (by simp) (AllReadyH.cons (o := _) rfl (fun K hK => ?_) AllReadyH.nil)
      go_simp
      go_at_call 24
      refine (TY.out _).mono ?_
      rintro e y2 ⟨rfl, hb⟩
      have B2 := Lib.hid (B1.out.trans (hb.mono B1.out.size))
      have P02 := Lib.hid (P01.out.below hb P01.out.lt)
      have P12 := Lib.hid (P11.out.below hb P11.out.lt)
      have G2 := Lib.hid (G1.out.below hb G1.out.lt)
      have S2 : y2.cell? ⟨w.heap.size, 0, none⟩ = some (.int .i64 t1) ∧ y2.cell? ⟨w.heap.size, 1, none⟩ = some (.int .i32 n1) ∧ y2.cell? ⟨w.heap.size + 1, 0, none⟩ = some (.int .i64 t2) ∧ y2.cell? ⟨w.heap.size + 1, 1, none⟩ = some (.int .i32 n2) := ⟨P02.out.cell 0, P02.out.cell 1, P12.out.cell 0, P12.out.cell 1⟩
      have g0 : y2.cell? ⟨w.heap.size + 2, 0, none⟩ = some (.int .i64 0) := G2.out.cell 0
      have g1 : y2.cell? ⟨w.heap.size + 2, 1, none⟩ = some (.int .i32 0) := G2.out.cell 1
      have f0 := G2.out.free 0
      have f1 := G2.out.free 1
      clear hb
      refine hK.out _ _ S2 (fun hHeld => ?_)
      clear hK K
      try simp only [Act.put, List.getElem_toArray, List.getElem_cons_succ, List.getElem_cons_zero, List.setIfInBounds_toArray, List.set_cons_zero, List.set_cons_succ]
      refine wpAnyH_take (i := 11) (oi := _) (v := .agg #[.int .i64 r.t, .int .i32 r.n]) rfl (by kernel_rfl) (by kernel_rfl) (by kernel_rfl) (fun _ _ _ h => h) (Or.inl ⟨by rfl, fun w hSw => by (try dsimp only at hSw); go_simp⟩) (by assumption) ?_
      try simp only [Act.put, List.getElem_toArray, List.getElem_cons_succ, List.getElem_cons_zero, List.setIfInBounds_toArray, List.set_cons_zero, List.set_cons_succ]
      refine wpAnyH_take (i := 12) (oi := _) (v := .int .i64 r.e) rfl (by kernel_rfl) (by kernel_rfl) (by kernel_rfl) (fun _ _ _ h => h) (Or.inl ⟨by rfl, fun w hSw => by (try dsimp only at hSw); go_simp⟩) (by assumption) ?_
      try simp only [Act.put, List.getElem_toArray, List.getElem_cons_succ, List.getElem_cons_zero, List.setIfInBounds_toArray, List.set_cons_zero, List.set_cons_succ]
      refine wpAnyH_ready (rs := [13]) (by kernel_rfl) (by simp) (AllReadyH.cons (o := _) rfl (fun K hK => ?_) AllReadyH.nil)
      go_simp
      refine hK.out _ _ (keepK2 S2) (fun hHeld => ?_)
      clear hK K
      try simp only [Act.put, List.getElem_toArray, List.getElem_cons_succ, List.getElem_cons_zero, List.setIfInBounds_toArray, List.set_cons_zero, List.set_cons_succ]
      refine wpAnyH_take (i := 14) (oi := _) (v := .int .i64 r.e) rfl (by kernel_rfl) (by kernel_rfl) (by kernel_rfl) (fun _ _ _ h => h) (Or.inl ⟨by rfl, fun w hSw => by (try dsimp only at hSw); go_simp⟩) (by assumption) ?_
      try simp only [Act.put, List.getElem_toArray, List.getElem_cons_succ, List.getElem_cons_zero, List.setIfInBounds_toArray, List.set_cons_zero, List.set_cons_succ]
      refine wpAnyH_done (by kernel_rfl) ?_ _
      refine NoPanic.normal ?_
      have H := Lib.hid ((G2.out.store 0 (.int .i64 r.t)).store 1 (.int .i32 r.n))
      have HB := Lib.hid ((B2.out.setCell (p := ⟨w.heap.size + 2, 0, none⟩) (show w.heap.size ≤ w.heap.size + 2 by omega) (.int .i64 r.t)).setCell (p := ⟨w.heap.size + 2, 1, none⟩) (show w.heap.size ≤ w.heap.size + 2 by omega) (.int .i32 r.n))
      go_wp2_with fail
      have q0 := H.out.cell 0
      have q1 := H.out.cell 1
      refine bodyPost_ret (v := .tuple #[.agg #[.int .i64 r.t, .int .i32 r.n], .int .i64 r.e]) ?_ rfl ⟨rfl, HB.out⟩
      simp [results, Try.results19, go_sem, q0, q1]
  case false =>
    have JB : joinB true n1 n2 = false := by unfold joinB; rw [h1]; rfl
    unfold joinP
    rw [JB]
    clear JB
    have TR := Lib.hid (fun y => truth_any false y)
    generalize htr : trP false = m at *
    clear htr
    cases h2 : (t1 == 2)
    case true =>
      show Calls _ _ _ _ fun e w' => e = .returned (kR (typedP (true && (t2 == 2)) 2 m)) ∧ _
      rw [Bool.true_and]
      have TY := Lib.hid (fun y => typed_any (t2 == 2) 2 m y)
      generalize typedP (t2 == 2) 2 m = r at *
      unfold kR at *
      go_enter Try.func19, Try.ntmps19
      go_wp2_with fail
      generalize (((w.alloc (.cells #[.int .i64 t1, .int .i32 n1] kT)).alloc (.cells #[.int .i64 t2, .int .i32 n2] kT)).alloc (.cells #[.int .i64 0, .int .i32 0] kT)) = V at *
      have L0 : V.cell? ⟨w.heap.size, 0, none⟩ = some (.int .i64 t1) ∧ V.cell? ⟨w.heap.size, 1, none⟩ = some (.int .i32 n1) ∧ V.cell? ⟨w.heap.size + 1, 0, none⟩ = some (.int .i64 t2) ∧ V.cell? ⟨w.heap.size + 1, 1, none⟩ = some (.int .i32 n2) := ⟨P0.out.cell 0, P0.out.cell 1, P1.out.cell 0, P1.out.cell 1⟩
      have BD := Lib.hid BA.out.drew
      have P0D := Lib.hid (show Whole V.drew (w.heap.size) kT #[.int .i64 t1, .int .i32 n1] from P0.out)
      have P1D := Lib.hid (show Whole V.drew (w.heap.size + 1) kT #[.int .i64 t2, .int .i32 n2] from P1.out)
      have GD := Lib.hid (show Whole V.drew (w.heap.size + 2) kT #[.int .i64 0, .int .i32 0] from G.out)
      clear BA P0 P1 G
      have L1 : V.drew.cell? ⟨w.heap.size, 0, none⟩ = some (.int .i64 t1) ∧ V.drew.cell? ⟨w.heap.size, 1, none⟩ = some (.int .i32 n1) ∧ V.drew.cell? ⟨w.heap.size + 1, 0, none⟩ = some (.int .i64 t2) ∧ V.drew.cell? ⟨w.heap.size + 1, 1, none⟩ = some (.int .i32 n2) := L0
      go_region_held3 (fun y => y.cell? ⟨w.heap.size, 0, none⟩ = some (.int .i64 t1) ∧ y.cell? ⟨w.heap.size, 1, none⟩ = some (.int .i32 n1) ∧ y.cell? ⟨w.heap.size + 1, 0, none⟩ = some (.int .i64 t2) ∧ y.cell? ⟨w.heap.size + 1, 1, none⟩ = some (.int .i32 n2))
        (first | with_reducible assumption | with_reducible exact L1 | with_reducible exact keepK2 (by assumption) | fail)
        (first
          | (go_at_call 27; refine (TR.out _).mono ?_; rintro e y1 ⟨rfl, hb⟩; have B1 := Lib.hid (BD.out.trans (hb.mono BD.out.size)); have P01 := Lib.hid (P0D.out.below hb P0D.out.lt); have P11 := Lib.hid (P1D.out.below hb P1D.out.lt); have G1 := Lib.hid (GD.out.below hb GD.out.lt); have S1 : y1.cell? ⟨w.heap.size, 0, none⟩ = some (.int .i64 t1) ∧ y1.cell? ⟨w.heap.size, 1, none⟩ = some (.int .i32 n1) ∧ y1.cell? ⟨w.heap.size + 1, 0, none⟩ = some (.int .i64 t2) ∧ y1.cell? ⟨w.heap.size + 1, 1, none⟩ = some (.int .i32 n2) := ⟨P01.out.cell 0, P01.out.cell 1, P11.out.cell 0, P11.out.cell 1⟩; clear hb)
          | (go_at_call 24; refine (TY.out _).mono ?_; rintro e y2 ⟨rfl, hb⟩; have B2 := Lib.hid (B1.out.trans (hb.mono B1.out.size)); have P02 := Lib.hid (P01.out.below hb P01.out.lt); have P12 := Lib.hid (P11.out.below hb P11.out.lt); have G2 := Lib.hid (G1.out.below hb G1.out.lt); have S2 : y2.cell? ⟨w.heap.size, 0, none⟩ = some (.int .i64 t1) ∧ y2.cell? ⟨w.heap.size, 1, none⟩ = some (.int .i32 n1) ∧ y2.cell? ⟨w.heap.size + 1, 0, none⟩ = some (.int .i64 t2) ∧ y2.cell? ⟨w.heap.size + 1, 1, none⟩ = some (.int .i32 n2) := ⟨P02.out.cell 0, P02.out.cell 1, P12.out.cell 0, P12.out.cell 1⟩; have g0 : y2.cell? ⟨w.heap.size + 2, 0, none⟩ = some (.int .i64 0) := G2.out.cell 0; have g1 : y2.cell? ⟨w.heap.size + 2, 1, none⟩ = some (.int .i32 0) := G2.out.cell 1; have f0 := G2.out.free 0; have f1 := G2.out.free 1; clear hb))
      have H := Lib.hid ((G2.out.store 0 (.int .i64 r.t)).store 1 (.int .i32 r.n))
      have HB := Lib.hid ((B2.out.setCell (p := ⟨w.heap.size + 2, 0, none⟩) (show w.heap.size ≤ w.heap.size + 2 by omega) (.int .i64 r.t)).setCell (p := ⟨w.heap.size + 2, 1, none⟩) (show w.heap.size ≤ w.heap.size + 2 by omega) (.int .i32 r.n))
      go_wp2_with fail
      have q0 := H.out.cell 0
      have q1 := H.out.cell 1
      refine bodyPost_ret (v := .tuple #[.agg #[.int .i64 r.t, .int .i32 r.n], .int .i64 r.e]) ?_ rfl ⟨rfl, HB.out⟩
      simp [results, Try.results19, go_sem, q0, q1]
    case false =>
      show Calls _ _ _ _ fun e w' => e = .returned (kR (typedP (false && (t2 == 2)) 2 m)) ∧ _
      rw [Bool.false_and]
      have TY := Lib.hid (fun y => typed_any false 2 m y)
      generalize typedP false 2 m = r at *
      unfold kR at *
      go_enter Try.func19, Try.ntmps19
      go_wp2_with fail
      generalize (((w.alloc (.cells #[.int .i64 t1, .int .i32 n1] kT)).alloc (.cells #[.int .i64 t2, .int .i32 n2] kT)).alloc (.cells #[.int .i64 0, .int .i32 0] kT)) = V at *
      have BD := Lib.hid BA.out.drew
      have P0D := Lib.hid (show Whole V.drew (w.heap.size) kT #[.int .i64 t1, .int .i32 n1] from P0.out)
      have P1D := Lib.hid (show Whole V.drew (w.heap.size + 1) kT #[.int .i64 t2, .int .i32 n2] from P1.out)
      have GD := Lib.hid (show Whole V.drew (w.heap.size + 2) kT #[.int .i64 0, .int .i32 0] from G.out)
      have L1 : V.drew.cell? ⟨w.heap.size, 0, none⟩ = some (.int .i64 t1) ∧ V.drew.cell? ⟨w.heap.size, 1, none⟩ = some (.int .i32 n1) ∧ V.drew.cell? ⟨w.heap.size + 1, 0, none⟩ = some (.int .i64 t2) ∧ V.drew.cell? ⟨w.heap.size + 1, 1, none⟩ = some (.int .i32 n2) := ⟨P0D.out.cell 0, P0D.out.cell 1, P1D.out.cell 0, P1D.out.cell 1⟩
      clear BA P0 P1 G
      refine wp_region_noPanic ?_
      refine wp_region_held_drew (S := fun y => y.cell? ⟨w.heap.size, 0, none⟩ = some (.int .i64 t1) ∧ y.cell? ⟨w.heap.size, 1, none⟩ = some (.int .i32 n1) ∧ y.cell? ⟨w.heap.size + 1, 0, none⟩ = some (.int .i64 t2) ∧ y.cell? ⟨w.heap.size + 1, 1, none⟩ = some (.int .i32 n2)) (by kernel_rfl) L1 (fun hHeld => ?_)
      refine wpAnyH_take (i := 0) (oi := _) (v := .pointer (some ⟨w.heap.size, 0, none⟩)) rfl (by kernel_rfl) (by kernel_rfl) (by kernel_rfl) (fun _ _ _ h => h) (Or.inl ⟨by rfl, fun w hSw => by (try dsimp only at hSw); go_simp⟩) (by assumption) ?_
      try simp only [Act.put, List.getElem_toArray, List.getElem_cons_succ, List.getElem_cons_zero, List.setIfInBounds_toArray, List.set_cons_zero, List.set_cons_succ]
      refine wpAnyH_take (i := 1) (oi := _) (v := .int .i64 t1) rfl (by kernel_rfl) (by kernel_rfl) (by kernel_rfl) (fun _ _ _ h => h) (Or.inl ⟨by rfl, fun w hSw => by (try dsimp only at hSw); go_simp⟩) (by assumption) ?_
      try simp only [Act.put, List.getElem_toArray, List.getElem_cons_succ, List.getElem_cons_zero, List.setIfInBounds_toArray, List.set_cons_zero, List.set_cons_succ]
      refine wpAnyH_take (i := 2) (oi := _) (v := .bool false) rfl (by kernel_rfl) (by kernel_rfl) (by kernel_rfl) (fun _ _ _ h => h) (Or.inl ⟨by rfl, fun w hSw => by (try dsimp only at hSw); go_simp⟩) (by assumption) ?_
      try simp only [Act.put, List.getElem_toArray, List.getElem_cons_succ, List.getElem_cons_zero, List.setIfInBounds_toArray, List.set_cons_zero, List.set_cons_succ]
      refine wpAnyH_take (i := 3) (oi := _) (v := .bool false) rfl (by kernel_rfl) (by kernel_rfl) (by kernel_rfl) (fun _ _ _ h => h) (Or.inl ⟨by rfl, fun w hSw => by (try dsimp only at hSw); go_simp⟩) (by assumption) ?_
      try simp only [Act.put, List.getElem_toArray, List.getElem_cons_succ, List.getElem_cons_zero, List.setIfInBounds_toArray, List.set_cons_zero, List.set_cons_succ]
      refine wpAnyH_take (i := 4) (oi := _) (v := undef) rfl (by kernel_rfl) (by kernel_rfl) (by kernel_rfl) (fun _ _ _ h => h) (Or.inr ⟨by rfl, rfl⟩) (by assumption) ?_
      try simp only [Act.put, List.getElem_toArray, List.getElem_cons_succ, List.getElem_cons_zero, List.setIfInBounds_toArray, List.set_cons_zero, List.set_cons_succ]
      refine wpAnyH_take (i := 5) (oi := _) (v := undef) rfl (by kernel_rfl) (by kernel_rfl) (by kernel_rfl) (fun _ _ _ h => h) (Or.inr ⟨by rfl, rfl⟩) (by assumption) ?_
      try simp only [Act.put, List.getElem_toArray, List.getElem_cons_succ, List.getElem_cons_zero, List.setIfInBounds_toArray, List.set_cons_zero, List.set_cons_succ]
      refine wpAnyH_take (i := 6) (oi := _) (v := undef) rfl (by kernel_rfl) (by kernel_rfl) (by kernel_rfl) (fun _ _ _ h => h) (Or.inr ⟨by rfl, rfl⟩) (by assumption) ?_
      try simp only [Act.put, List.getElem_toArray, List.getElem_cons_succ, List.getElem_cons_zero, List.setIfInBounds_toArray, List.set_cons_zero, List.set_cons_succ]
      refine wpAnyH_take (i := 7) (oi := _) (v := .bool false) rfl (by kernel_rfl) (by kernel_rfl) (by kernel_rfl) (fun _ _ _ h => h) (Or.inl ⟨by rfl, fun w hSw => by (try dsimp only at hSw); go_simp⟩) (by assumption) ?_
      try simp only [Act.put, List.getElem_toArray, List.getElem_cons_succ, List.getElem_cons_zero, List.setIfInBounds_toArray, List.set_cons_zero, List.set_cons_succ]
      refine wpAnyH_take (i := 8) (oi := _) (v := .bool false) rfl (by kernel_rfl) (by kernel_rfl) (by kernel_rfl) (fun _ _ _ h => h) (Or.inl ⟨by rfl, fun w hSw => by (try dsimp only at hSw); go_simp⟩) (by assumption) ?_
      try simp only [Act.put, List.getElem_toArray, List.getElem_cons_succ, List.getElem_cons_zero, List.setIfInBounds_toArray, List.set_cons_zero, List.set_cons_succ]
      refine wpAnyH_ready (rs := [9]) (by kernel_rfl) (by simp) (AllReadyH.cons (o := _) rfl (fun K hK => ?_) AllReadyH.nil)
      go_simp
      go_at_call 27
      refine (TR.out _).mono ?_
      rintro e y1 ⟨rfl, hb⟩
      have B1 := Lib.hid (BD.out.trans (hb.mono BD.out.size))
      have P01 := Lib.hid (P0D.out.below hb P0D.out.lt)
      have P11 := Lib.hid (P1D.out.below hb P1D.out.lt)
      have G1 := Lib.hid (GD.out.below hb GD.out.lt)
      have S1 : y1.cell? ⟨w.heap.size, 0, none⟩ = some (.int .i64 t1) ∧ y1.cell? ⟨w.heap.size, 1, none⟩ = some (.int .i32 n1) ∧ y1.cell? ⟨w.heap.size + 1, 0, none⟩ = some (.int .i64 t2) ∧ y1.cell? ⟨w.heap.size + 1, 1, none⟩ = some (.int .i32 n2) := ⟨P01.out.cell 0, P01.out.cell 1, P11.out.cell 0, P11.out.cell 1⟩
      clear hb
      refine hK.out _ _ S1 (fun hHeld => ?_)
      clear hK K
      try simp only [Act.put, List.getElem_toArray, List.getElem_cons_succ, List.getElem_cons_zero, List.setIfInBounds_toArray, List.set_cons_zero, List.set_cons_succ]
      refine wpAnyH_ready (rs := [10]) (by kernel_rfl) (by simp) (AllReadyH.cons (o := _) rfl (fun K hK => ?_) AllReadyH.nil)
      go_simp
      go_at_call 24
      refine (TY.out _).mono ?_
      rintro e y2 ⟨rfl, hb⟩
      have B2 := Lib.hid (B1.out.trans (hb.mono B1.out.size))
      have P02 := Lib.hid (P01.out.below hb P01.out.lt)
      have P12 := Lib.hid (P11.out.below hb P11.out.lt)
      have G2 := Lib.hid (G1.out.below hb G1.out.lt)
      have S2 : y2.cell? ⟨w.heap.size, 0, none⟩ = some (.int .i64 t1) ∧ y2.cell? ⟨w.heap.size, 1, none⟩ = some (.int .i32 n1) ∧ y2.cell? ⟨w.heap.size + 1, 0, none⟩ = some (.int .i64 t2) ∧ y2.cell? ⟨w.heap.size + 1, 1, none⟩ = some (.int .i32 n2) := ⟨P02.out.cell 0, P02.out.cell 1, P12.out.cell 0, P12.out.cell 1⟩
      have g0 : y2.cell? ⟨w.heap.size + 2, 0, none⟩ = some (.int .i64 0) := G2.out.cell 0
      have g1 : y2.cell? ⟨w.heap.size + 2, 1, none⟩ = some (.int .i32 0) := G2.out.cell 1
      have f0 := G2.out.free 0
      have f1 := G2.out.free 1
      clear hb
      refine hK.out _ _ S2 (fun hHeld => ?_)
      clear hK K
      try simp only [Act.put, List.getElem_toArray, List.getElem_cons_succ, List.getElem_cons_zero, List.setIfInBounds_toArray, List.set_cons_zero, List.set_cons_succ]
      refine wpAnyH_take (i := 11) (oi := _) (v := .agg #[.int .i64 r.t, .int .i32 r.n]) rfl (by kernel_rfl) (by kernel_rfl) (by kernel_rfl) (fun _ _ _ h => h) (Or.inl ⟨by rfl, fun w hSw => by (try dsimp only at hSw); go_simp⟩) (by assumption) ?_
      try simp only [Act.put, List.getElem_toArray, List.getElem_cons_succ, List.getElem_cons_zero, List.setIfInBounds_toArray, List.set_cons_zero, List.set_cons_succ]
      refine wpAnyH_take (i := 12) (oi := _) (v := .int .i64 r.e) rfl (by kernel_rfl) (by kernel_rfl) (by kernel_rfl) (fun _ _ _ h => h) (Or.inl ⟨by rfl, fun w hSw => by (try dsimp only at hSw); go_simp⟩) (by assumption) ?_
      try simp only [Act.put, List.getElem_toArray, List.getElem_cons_succ, List.getElem_cons_zero, List.setIfInBounds_toArray, List.set_cons_zero, List.set_cons_succ]
      refine wpAnyH_ready (rs := [13]) (by kernel_rfl) (by simp) (AllReadyH.cons (o := _) rfl (fun K hK => ?_) AllReadyH.nil)
      go_simp
      refine hK.out _ _ (keepK2 S2) (fun hHeld => ?_)
      clear hK K
      try simp only [Act.put, List.getElem_toArray, List.getElem_cons_succ, List.getElem_cons_zero, List.setIfInBounds_toArray, List.set_cons_zero, List.set_cons_succ]
      refine wpAnyH_take (i := 14) (oi := _) (v := .int .i64 r.e) rfl (by kernel_rfl) (by kernel_rfl) (by kernel_rfl) (fun _ _ _ h => h) (Or.inl ⟨by rfl, fun w hSw => by (try dsimp only at hSw); go_simp⟩) (by assumption) ?_
      try simp only [Act.put, List.getElem_toArray, List.getElem_cons_succ, List.getElem_cons_zero, List.setIfInBounds_toArray, List.set_cons_zero, List.set_cons_succ]
      refine wpAnyH_done (by kernel_rfl) ?_ _
      refine NoPanic.normal ?_
      have H := Lib.hid ((G2.out.store 0 (.int .i64 r.t)).store 1 (.int .i32 r.n))
      have HB := Lib.hid ((B2.out.setCell (p := ⟨w.heap.size + 2, 0, none⟩) (show w.heap.size ≤ w.heap.size + 2 by omega) (.int .i64 r.t)).setCell (p := ⟨w.heap.size + 2, 1, none⟩) (show w.heap.size ≤ w.heap.size + 2 by omega) (.int .i32 r.n))
      go_wp2_with fail
      have q0 := H.out.cell 0
      have q1 := H.out.cell 1
      refine bodyPost_ret (v := .tuple #[.agg #[.int .i64 r.t, .int .i32 r.n], .int .i64 r.e]) ?_ rfl ⟨rfl, HB.out⟩
      simp [results, Try.results19, go_sem, q0, q1]

set_option maxHeartbeats 8000000 in
set_option maxRecDepth 100000 in
theorem join_false (s : ByteArray) (t1 n1 t2 n2 : Int) (w : World) (hs : (s.toList == [65, 78, 68]) = false) : Calls Try.prog 19 #[.string s, .agg #[.int .i64 t1, .int .i32 n1], .agg #[.int .i64 t2, .int .i32 n2]] w fun e w' => e = .returned (kR (joinP false t1 n1 t2 n2)) ∧ Below w.heap.size w w' := by
  have c0 := (Below.refl w.heap.size w).alloc (Nat.le_refl _) (.cells #[.int .i64 t1, .int .i32 n1] kT)
  have c1 := c0.alloc c0.size (.cells #[.int .i64 t2, .int .i32 n2] kT)
  have c2 := c1.alloc c1.size (.cells #[.int .i64 0, .int .i32 0] kT)
  have BA := Lib.hid c2
  have P0 := Lib.hid (((Whole.made w kT #[.int .i64 t1, .int .i32 n1] (w.heap.size) (by simp)).alloc (.cells #[.int .i64 t2, .int .i32 n2] kT)).alloc (.cells #[.int .i64 0, .int .i32 0] kT))
  have P1 := Lib.hid ((Whole.made (w.alloc (.cells #[.int .i64 t1, .int .i32 n1] kT)) kT #[.int .i64 t2, .int .i32 n2] (w.heap.size + 1) (by simp)).alloc (.cells #[.int .i64 0, .int .i32 0] kT))
  have G := Lib.hid (Whole.made ((w.alloc (.cells #[.int .i64 t1, .int .i32 n1] kT)).alloc (.cells #[.int .i64 t2, .int .i32 n2] kT)) kT #[.int .i64 0, .int .i32 0] (w.heap.size + 2) (by simp))
  clear c0 c1 c2
  cases h1 : (n1 != 0)
  case true =>
    have JB : joinB false n1 n2 = true := by unfold joinB; rw [h1]; rfl
    unfold joinP
    rw [JB]
    clear JB
    have TR := Lib.hid (fun y => truth_any true y)
    generalize htr : trP true = m at *
    clear htr
    cases h2 : (t1 == 2)
    case true =>
      show Calls _ _ _ _ fun e w' => e = .returned (kR (typedP (true && (t2 == 2)) 2 m)) ∧ _
      rw [Bool.true_and]
      have TY := Lib.hid (fun y => typed_any (t2 == 2) 2 m y)
      generalize typedP (t2 == 2) 2 m = r at *
      unfold kR at *
      go_enter Try.func19, Try.ntmps19
      go_wp2_with fail
      generalize (((w.alloc (.cells #[.int .i64 t1, .int .i32 n1] kT)).alloc (.cells #[.int .i64 t2, .int .i32 n2] kT)).alloc (.cells #[.int .i64 0, .int .i32 0] kT)) = V at *
      have L0 : V.cell? ⟨w.heap.size, 0, none⟩ = some (.int .i64 t1) ∧ V.cell? ⟨w.heap.size, 1, none⟩ = some (.int .i32 n1) ∧ V.cell? ⟨w.heap.size + 1, 0, none⟩ = some (.int .i64 t2) ∧ V.cell? ⟨w.heap.size + 1, 1, none⟩ = some (.int .i32 n2) := ⟨P0.out.cell 0, P0.out.cell 1, P1.out.cell 0, P1.out.cell 1⟩
      have BD := Lib.hid BA.out.drew
      have P0D := Lib.hid (show Whole V.drew (w.heap.size) kT #[.int .i64 t1, .int .i32 n1] from P0.out)
      have P1D := Lib.hid (show Whole V.drew (w.heap.size + 1) kT #[.int .i64 t2, .int .i32 n2] from P1.out)
      have GD := Lib.hid (show Whole V.drew (w.heap.size + 2) kT #[.int .i64 0, .int .i32 0] from G.out)
      clear BA P0 P1 G
      have L1 : V.drew.cell? ⟨w.heap.size, 0, none⟩ = some (.int .i64 t1) ∧ V.drew.cell? ⟨w.heap.size, 1, none⟩ = some (.int .i32 n1) ∧ V.drew.cell? ⟨w.heap.size + 1, 0, none⟩ = some (.int .i64 t2) ∧ V.drew.cell? ⟨w.heap.size + 1, 1, none⟩ = some (.int .i32 n2) := L0
      go_region_held3 (fun y => y.cell? ⟨w.heap.size, 0, none⟩ = some (.int .i64 t1) ∧ y.cell? ⟨w.heap.size, 1, none⟩ = some (.int .i32 n1) ∧ y.cell? ⟨w.heap.size + 1, 0, none⟩ = some (.int .i64 t2) ∧ y.cell? ⟨w.heap.size + 1, 1, none⟩ = some (.int .i32 n2))
        (first | with_reducible assumption | with_reducible exact L1 | with_reducible exact keepK2 (by assumption) | fail)
        (first
          | (go_at_call 27; refine (TR.out _).mono ?_; rintro e y1 ⟨rfl, hb⟩; have B1 := Lib.hid (BD.out.trans (hb.mono BD.out.size)); have P01 := Lib.hid (P0D.out.below hb P0D.out.lt); have P11 := Lib.hid (P1D.out.below hb P1D.out.lt); have G1 := Lib.hid (GD.out.below hb GD.out.lt); have S1 : y1.cell? ⟨w.heap.size, 0, none⟩ = some (.int .i64 t1) ∧ y1.cell? ⟨w.heap.size, 1, none⟩ = some (.int .i32 n1) ∧ y1.cell? ⟨w.heap.size + 1, 0, none⟩ = some (.int .i64 t2) ∧ y1.cell? ⟨w.heap.size + 1, 1, none⟩ = some (.int .i32 n2) := ⟨P01.out.cell 0, P01.out.cell 1, P11.out.cell 0, P11.out.cell 1⟩; clear hb)
          | (go_at_call 24; refine (TY.out _).mono ?_; rintro e y2 ⟨rfl, hb⟩; have B2 := Lib.hid (B1.out.trans (hb.mono B1.out.size)); have P02 := Lib.hid (P01.out.below hb P01.out.lt); have P12 := Lib.hid (P11.out.below hb P11.out.lt); have G2 := Lib.hid (G1.out.below hb G1.out.lt); have S2 : y2.cell? ⟨w.heap.size, 0, none⟩ = some (.int .i64 t1) ∧ y2.cell? ⟨w.heap.size, 1, none⟩ = some (.int .i32 n1) ∧ y2.cell? ⟨w.heap.size + 1, 0, none⟩ = some (.int .i64 t2) ∧ y2.cell? ⟨w.heap.size + 1, 1, none⟩ = some (.int .i32 n2) := ⟨P02.out.cell 0, P02.out.cell 1, P12.out.cell 0, P12.out.cell 1⟩; have g0 : y2.cell? ⟨w.heap.size + 2, 0, none⟩ = some (.int .i64 0) := G2.out.cell 0; have g1 : y2.cell? ⟨w.heap.size + 2, 1, none⟩ = some (.int .i32 0) := G2.out.cell 1; have f0 := G2.out.free 0; have f1 := G2.out.free 1; clear hb))
      have H := Lib.hid ((G2.out.store 0 (.int .i64 r.t)).store 1 (.int .i32 r.n))
      have HB := Lib.hid ((B2.out.setCell (p := ⟨w.heap.size + 2, 0, none⟩) (show w.heap.size ≤ w.heap.size + 2 by omega) (.int .i64 r.t)).setCell (p := ⟨w.heap.size + 2, 1, none⟩) (show w.heap.size ≤ w.heap.size + 2 by omega) (.int .i32 r.n))
      go_wp2_with fail
      have q0 := H.out.cell 0
      have q1 := H.out.cell 1
      refine bodyPost_ret (v := .tuple #[.agg #[.int .i64 r.t, .int .i32 r.n], .int .i64 r.e]) ?_ rfl ⟨rfl, HB.out⟩
      simp [results, Try.results19, go_sem, q0, q1]
    case false =>
      show Calls _ _ _ _ fun e w' => e = .returned (kR (typedP (false && (t2 == 2)) 2 m)) ∧ _
      rw [Bool.false_and]
      have TY := Lib.hid (fun y => typed_any false 2 m y)
      generalize typedP false 2 m = r at *
      unfold kR at *
      go_enter Try.func19, Try.ntmps19
      go_wp2_with fail
      generalize (((w.alloc (.cells #[.int .i64 t1, .int .i32 n1] kT)).alloc (.cells #[.int .i64 t2, .int .i32 n2] kT)).alloc (.cells #[.int .i64 0, .int .i32 0] kT)) = V at *
      have BD := Lib.hid BA.out.drew
      have P0D := Lib.hid (show Whole V.drew (w.heap.size) kT #[.int .i64 t1, .int .i32 n1] from P0.out)
      have P1D := Lib.hid (show Whole V.drew (w.heap.size + 1) kT #[.int .i64 t2, .int .i32 n2] from P1.out)
      have GD := Lib.hid (show Whole V.drew (w.heap.size + 2) kT #[.int .i64 0, .int .i32 0] from G.out)
      have L1 : V.drew.cell? ⟨w.heap.size, 0, none⟩ = some (.int .i64 t1) ∧ V.drew.cell? ⟨w.heap.size, 1, none⟩ = some (.int .i32 n1) ∧ V.drew.cell? ⟨w.heap.size + 1, 0, none⟩ = some (.int .i64 t2) ∧ V.drew.cell? ⟨w.heap.size + 1, 1, none⟩ = some (.int .i32 n2) := ⟨P0D.out.cell 0, P0D.out.cell 1, P1D.out.cell 0, P1D.out.cell 1⟩
      clear BA P0 P1 G
      refine wp_region_noPanic ?_
      refine wp_region_held_drew (S := fun y => y.cell? ⟨w.heap.size, 0, none⟩ = some (.int .i64 t1) ∧ y.cell? ⟨w.heap.size, 1, none⟩ = some (.int .i32 n1) ∧ y.cell? ⟨w.heap.size + 1, 0, none⟩ = some (.int .i64 t2) ∧ y.cell? ⟨w.heap.size + 1, 1, none⟩ = some (.int .i32 n2)) (by kernel_rfl) L1 (fun hHeld => ?_)
      refine wpAnyH_take (i := 0) (oi := _) (v := .pointer (some ⟨w.heap.size, 0, none⟩)) rfl (by kernel_rfl) (by kernel_rfl) (by kernel_rfl) (fun _ _ _ h => h) (Or.inl ⟨by rfl, fun w hSw => by (try dsimp only at hSw); go_simp⟩) (by assumption) ?_
      try simp only [Act.put, List.getElem_toArray, List.getElem_cons_succ, List.getElem_cons_zero, List.setIfInBounds_toArray, List.set_cons_zero, List.set_cons_succ]
      refine wpAnyH_take (i := 1) (oi := _) (v := .int .i64 t1) rfl (by kernel_rfl) (by kernel_rfl) (by kernel_rfl) (fun _ _ _ h => h) (Or.inl ⟨by rfl, fun w hSw => by (try dsimp only at hSw); go_simp⟩) (by assumption) ?_
      try simp only [Act.put, List.getElem_toArray, List.getElem_cons_succ, List.getElem_cons_zero, List.setIfInBounds_toArray, List.set_cons_zero, List.set_cons_succ]
      refine wpAnyH_take (i := 2) (oi := _) (v := .bool false) rfl (by kernel_rfl) (by kernel_rfl) (by kernel_rfl) (fun _ _ _ h => h) (Or.inl ⟨by rfl, fun w hSw => by (try dsimp only at hSw); go_simp⟩) (by assumption) ?_
      try simp only [Act.put, List.getElem_toArray, List.getElem_cons_succ, List.getElem_cons_zero, List.setIfInBounds_toArray, List.set_cons_zero, List.set_cons_succ]
      refine wpAnyH_take (i := 3) (oi := _) (v := .bool false) rfl (by kernel_rfl) (by kernel_rfl) (by kernel_rfl) (fun _ _ _ h => h) (Or.inl ⟨by rfl, fun w hSw => by (try dsimp only at hSw); go_simp⟩) (by assumption) ?_
      try simp only [Act.put, List.getElem_toArray, List.getElem_cons_succ, List.getElem_cons_zero, List.setIfInBounds_toArray, List.set_cons_zero, List.set_cons_succ]
      refine wpAnyH_take (i := 4) (oi := _) (v := undef) rfl (by kernel_rfl) (by kernel_rfl) (by kernel_rfl) (fun _ _ _ h => h) (Or.inr ⟨by rfl, rfl⟩) (by assumption) ?_
      try simp only [Act.put, List.getElem_toArray, List.getElem_cons_succ, List.getElem_cons_zero, List.setIfInBounds_toArray, List.set_cons_zero, List.set_cons_succ]
      refine wpAnyH_take (i := 5) (oi := _) (v := undef) rfl (by kernel_rfl) (by kernel_rfl) (by kernel_rfl) (fun _ _ _ h => h) (Or.inr ⟨by rfl, rfl⟩) (by assumption) ?_
      try simp only [Act.put, List.getElem_toArray, List.getElem_cons_succ, List.getElem_cons_zero, List.setIfInBounds_toArray, List.set_cons_zero, List.set_cons_succ]
      refine wpAnyH_take (i := 6) (oi := _) (v := undef) rfl (by kernel_rfl) (by kernel_rfl) (by kernel_rfl) (fun _ _ _ h => h) (Or.inr ⟨by rfl, rfl⟩) (by assumption) ?_
      try simp only [Act.put, List.getElem_toArray, List.getElem_cons_succ, List.getElem_cons_zero, List.setIfInBounds_toArray, List.set_cons_zero, List.set_cons_succ]
      refine wpAnyH_take (i := 7) (oi := _) (v := .bool false) rfl (by kernel_rfl) (by kernel_rfl) (by kernel_rfl) (fun _ _ _ h => h) (Or.inl ⟨by rfl, fun w hSw => by (try dsimp only at hSw); go_simp⟩) (by assumption) ?_
      try simp only [Act.put, List.getElem_toArray, List.getElem_cons_succ, List.getElem_cons_zero, List.setIfInBounds_toArray, List.set_cons_zero, List.set_cons_succ]
      refine wpAnyH_take (i := 8) (oi := _) (v := .bool true) rfl (by kernel_rfl) (by kernel_rfl) (by kernel_rfl) (fun _ _ _ h => h) (Or.inl ⟨by rfl, fun w hSw => by (try dsimp only at hSw); go_simp⟩) (by assumption) ?_
      try simp only [Act.put, List.getElem_toArray, List.getElem_cons_succ, List.getElem_cons_zero, List.setIfInBounds_toArray, List.set_cons_zero, List.set_cons_succ]
      refine wpAnyH_ready (rs := [9]) (by kernel_rfl) (by simp) (AllReadyH.cons (o := _) rfl (fun K hK => ?_) AllReadyH.nil)
      go_simp
      go_at_call 27
      refine (TR.out _).mono ?_
      rintro e y1 ⟨rfl, hb⟩
      have B1 := Lib.hid (BD.out.trans (hb.mono BD.out.size))
      have P01 := Lib.hid (P0D.out.below hb P0D.out.lt)
      have P11 := Lib.hid (P1D.out.below hb P1D.out.lt)
      have G1 := Lib.hid (GD.out.below hb GD.out.lt)
      have S1 : y1.cell? ⟨w.heap.size, 0, none⟩ = some (.int .i64 t1) ∧ y1.cell? ⟨w.heap.size, 1, none⟩ = some (.int .i32 n1) ∧ y1.cell? ⟨w.heap.size + 1, 0, none⟩ = some (.int .i64 t2) ∧ y1.cell? ⟨w.heap.size + 1, 1, none⟩ = some (.int .i32 n2) := ⟨P01.out.cell 0, P01.out.cell 1, P11.out.cell 0, P11.out.cell 1⟩
      clear hb
      refine hK.out _ _ S1 (fun hHeld => ?_)
      clear hK K
      try simp only [Act.put, List.getElem_toArray, List.getElem_cons_succ, List.getElem_cons_zero, List.setIfInBounds_toArray, List.set_cons_zero, List.set_cons_succ]
      refine wpAnyH_ready (rs := [10]) (by kernel_rfl) (by simp) (AllReadyH.cons (o := _) rfl (fun K hK => ?_) AllReadyH.nil)
      go_simp
      go_at_call 24
      refine (TY.out _).mono ?_
      rintro e y2 ⟨rfl, hb⟩
      have B2 := Lib.hid (B1.out.trans (hb.mono B1.out.size))
      have P02 := Lib.hid (P01.out.below hb P01.out.lt)
      have P12 := Lib.hid (P11.out.below hb P11.out.lt)
      have G2 := Lib.hid (G1.out.below hb G1.out.lt)
      have S2 : y2.cell? ⟨w.heap.size, 0, none⟩ = some (.int .i64 t1) ∧ y2.cell? ⟨w.heap.size, 1, none⟩ = some (.int .i32 n1) ∧ y2.cell? ⟨w.heap.size + 1, 0, none⟩ = some (.int .i64 t2) ∧ y2.cell? ⟨w.heap.size + 1, 1, none⟩ = some (.int .i32 n2) := ⟨P02.out.cell 0, P02.out.cell 1, P12.out.cell 0, P12.out.cell 1⟩
      have g0 : y2.cell? ⟨w.heap.size + 2, 0, none⟩ = some (.int .i64 0) := G2.out.cell 0
      have g1 : y2.cell? ⟨w.heap.size + 2, 1, none⟩ = some (.int .i32 0) := G2.out.cell 1
      have f0 := G2.out.free 0
      have f1 := G2.out.free 1
      clear hb
      refine hK.out _ _ S2 (fun hHeld => ?_)
      clear hK K
      try simp only [Act.put, List.getElem_toArray, List.getElem_cons_succ, List.getElem_cons_zero, List.setIfInBounds_toArray, List.set_cons_zero, List.set_cons_succ]
      refine wpAnyH_take (i := 11) (oi := _) (v := .agg #[.int .i64 r.t, .int .i32 r.n]) rfl (by kernel_rfl) (by kernel_rfl) (by kernel_rfl) (fun _ _ _ h => h) (Or.inl ⟨by rfl, fun w hSw => by (try dsimp only at hSw); go_simp⟩) (by assumption) ?_
      try simp only [Act.put, List.getElem_toArray, List.getElem_cons_succ, List.getElem_cons_zero, List.setIfInBounds_toArray, List.set_cons_zero, List.set_cons_succ]
      refine wpAnyH_take (i := 12) (oi := _) (v := .int .i64 r.e) rfl (by kernel_rfl) (by kernel_rfl) (by kernel_rfl) (fun _ _ _ h => h) (Or.inl ⟨by rfl, fun w hSw => by (try dsimp only at hSw); go_simp⟩) (by assumption) ?_
      try simp only [Act.put, List.getElem_toArray, List.getElem_cons_succ, List.getElem_cons_zero, List.setIfInBounds_toArray, List.set_cons_zero, List.set_cons_succ]
      refine wpAnyH_ready (rs := [13]) (by kernel_rfl) (by simp) (AllReadyH.cons (o := _) rfl (fun K hK => ?_) AllReadyH.nil)
      go_simp
      refine hK.out _ _ (keepK2 S2) (fun hHeld => ?_)
      clear hK K
      try simp only [Act.put, List.getElem_toArray, List.getElem_cons_succ, List.getElem_cons_zero, List.setIfInBounds_toArray, List.set_cons_zero, List.set_cons_succ]
      refine wpAnyH_take (i := 14) (oi := _) (v := .int .i64 r.e) rfl (by kernel_rfl) (by kernel_rfl) (by kernel_rfl) (fun _ _ _ h => h) (Or.inl ⟨by rfl, fun w hSw => by (try dsimp only at hSw); go_simp⟩) (by assumption) ?_
      try simp only [Act.put, List.getElem_toArray, List.getElem_cons_succ, List.getElem_cons_zero, List.setIfInBounds_toArray, List.set_cons_zero, List.set_cons_succ]
      refine wpAnyH_done (by kernel_rfl) ?_ _
      refine NoPanic.normal ?_
      have H := Lib.hid ((G2.out.store 0 (.int .i64 r.t)).store 1 (.int .i32 r.n))
      have HB := Lib.hid ((B2.out.setCell (p := ⟨w.heap.size + 2, 0, none⟩) (show w.heap.size ≤ w.heap.size + 2 by omega) (.int .i64 r.t)).setCell (p := ⟨w.heap.size + 2, 1, none⟩) (show w.heap.size ≤ w.heap.size + 2 by omega) (.int .i32 r.n))
      go_wp2_with fail
      have q0 := H.out.cell 0
      have q1 := H.out.cell 1
      refine bodyPost_ret (v := .tuple #[.agg #[.int .i64 r.t, .int .i32 r.n], .int .i64 r.e]) ?_ rfl ⟨rfl, HB.out⟩
      simp [results, Try.results19, go_sem, q0, q1]
  case false =>
    have JB : joinB false n1 n2 = (n2 != 0) := by unfold joinB; rw [h1]; rfl
    unfold joinP
    rw [JB]
    clear JB
    have TR := Lib.hid (fun y => truth_any (n2 != 0) y)
    generalize htr : trP (n2 != 0) = m at *
    clear htr
    cases h2 : (t1 == 2)
    case true =>
      show Calls _ _ _ _ fun e w' => e = .returned (kR (typedP (true && (t2 == 2)) 2 m)) ∧ _
      rw [Bool.true_and]
      have TY := Lib.hid (fun y => typed_any (t2 == 2) 2 m y)
      generalize typedP (t2 == 2) 2 m = r at *
      unfold kR at *
      go_enter Try.func19, Try.ntmps19
      go_wp2_with fail
      generalize (((w.alloc (.cells #[.int .i64 t1, .int .i32 n1] kT)).alloc (.cells #[.int .i64 t2, .int .i32 n2] kT)).alloc (.cells #[.int .i64 0, .int .i32 0] kT)) = V at *
      have L0 : V.cell? ⟨w.heap.size, 0, none⟩ = some (.int .i64 t1) ∧ V.cell? ⟨w.heap.size, 1, none⟩ = some (.int .i32 n1) ∧ V.cell? ⟨w.heap.size + 1, 0, none⟩ = some (.int .i64 t2) ∧ V.cell? ⟨w.heap.size + 1, 1, none⟩ = some (.int .i32 n2) := ⟨P0.out.cell 0, P0.out.cell 1, P1.out.cell 0, P1.out.cell 1⟩
      have BD := Lib.hid BA.out.drew
      have P0D := Lib.hid (show Whole V.drew (w.heap.size) kT #[.int .i64 t1, .int .i32 n1] from P0.out)
      have P1D := Lib.hid (show Whole V.drew (w.heap.size + 1) kT #[.int .i64 t2, .int .i32 n2] from P1.out)
      have GD := Lib.hid (show Whole V.drew (w.heap.size + 2) kT #[.int .i64 0, .int .i32 0] from G.out)
      clear BA P0 P1 G
      have L1 : V.drew.cell? ⟨w.heap.size, 0, none⟩ = some (.int .i64 t1) ∧ V.drew.cell? ⟨w.heap.size, 1, none⟩ = some (.int .i32 n1) ∧ V.drew.cell? ⟨w.heap.size + 1, 0, none⟩ = some (.int .i64 t2) ∧ V.drew.cell? ⟨w.heap.size + 1, 1, none⟩ = some (.int .i32 n2) := L0
      go_region_held3 (fun y => y.cell? ⟨w.heap.size, 0, none⟩ = some (.int .i64 t1) ∧ y.cell? ⟨w.heap.size, 1, none⟩ = some (.int .i32 n1) ∧ y.cell? ⟨w.heap.size + 1, 0, none⟩ = some (.int .i64 t2) ∧ y.cell? ⟨w.heap.size + 1, 1, none⟩ = some (.int .i32 n2))
        (first | with_reducible assumption | with_reducible exact L1 | with_reducible exact keepK2 (by assumption) | fail)
        (first
          | (go_at_call 27; refine (TR.out _).mono ?_; rintro e y1 ⟨rfl, hb⟩; have B1 := Lib.hid (BD.out.trans (hb.mono BD.out.size)); have P01 := Lib.hid (P0D.out.below hb P0D.out.lt); have P11 := Lib.hid (P1D.out.below hb P1D.out.lt); have G1 := Lib.hid (GD.out.below hb GD.out.lt); have S1 : y1.cell? ⟨w.heap.size, 0, none⟩ = some (.int .i64 t1) ∧ y1.cell? ⟨w.heap.size, 1, none⟩ = some (.int .i32 n1) ∧ y1.cell? ⟨w.heap.size + 1, 0, none⟩ = some (.int .i64 t2) ∧ y1.cell? ⟨w.heap.size + 1, 1, none⟩ = some (.int .i32 n2) := ⟨P01.out.cell 0, P01.out.cell 1, P11.out.cell 0, P11.out.cell 1⟩; clear hb)
          | (go_at_call 24; refine (TY.out _).mono ?_; rintro e y2 ⟨rfl, hb⟩; have B2 := Lib.hid (B1.out.trans (hb.mono B1.out.size)); have P02 := Lib.hid (P01.out.below hb P01.out.lt); have P12 := Lib.hid (P11.out.below hb P11.out.lt); have G2 := Lib.hid (G1.out.below hb G1.out.lt); have S2 : y2.cell? ⟨w.heap.size, 0, none⟩ = some (.int .i64 t1) ∧ y2.cell? ⟨w.heap.size, 1, none⟩ = some (.int .i32 n1) ∧ y2.cell? ⟨w.heap.size + 1, 0, none⟩ = some (.int .i64 t2) ∧ y2.cell? ⟨w.heap.size + 1, 1, none⟩ = some (.int .i32 n2) := ⟨P02.out.cell 0, P02.out.cell 1, P12.out.cell 0, P12.out.cell 1⟩; have g0 : y2.cell? ⟨w.heap.size + 2, 0, none⟩ = some (.int .i64 0) := G2.out.cell 0; have g1 : y2.cell? ⟨w.heap.size + 2, 1, none⟩ = some (.int .i32 0) := G2.out.cell 1; have f0 := G2.out.free 0; have f1 := G2.out.free 1; clear hb))
      have H := Lib.hid ((G2.out.store 0 (.int .i64 r.t)).store 1 (.int .i32 r.n))
      have HB := Lib.hid ((B2.out.setCell (p := ⟨w.heap.size + 2, 0, none⟩) (show w.heap.size ≤ w.heap.size + 2 by omega) (.int .i64 r.t)).setCell (p := ⟨w.heap.size + 2, 1, none⟩) (show w.heap.size ≤ w.heap.size + 2 by omega) (.int .i32 r.n))
      go_wp2_with fail
      have q0 := H.out.cell 0
      have q1 := H.out.cell 1
      refine bodyPost_ret (v := .tuple #[.agg #[.int .i64 r.t, .int .i32 r.n], .int .i64 r.e]) ?_ rfl ⟨rfl, HB.out⟩
      simp [results, Try.results19, go_sem, q0, q1]
    case false =>
      show Calls _ _ _ _ fun e w' => e = .returned (kR (typedP (false && (t2 == 2)) 2 m)) ∧ _
      rw [Bool.false_and]
      have TY := Lib.hid (fun y => typed_any false 2 m y)
      generalize typedP false 2 m = r at *
      unfold kR at *
      go_enter Try.func19, Try.ntmps19
      go_wp2_with fail
      generalize (((w.alloc (.cells #[.int .i64 t1, .int .i32 n1] kT)).alloc (.cells #[.int .i64 t2, .int .i32 n2] kT)).alloc (.cells #[.int .i64 0, .int .i32 0] kT)) = V at *
      have BD := Lib.hid BA.out.drew
      have P0D := Lib.hid (show Whole V.drew (w.heap.size) kT #[.int .i64 t1, .int .i32 n1] from P0.out)
      have P1D := Lib.hid (show Whole V.drew (w.heap.size + 1) kT #[.int .i64 t2, .int .i32 n2] from P1.out)
      have GD := Lib.hid (show Whole V.drew (w.heap.size + 2) kT #[.int .i64 0, .int .i32 0] from G.out)
      have L1 : V.drew.cell? ⟨w.heap.size, 0, none⟩ = some (.int .i64 t1) ∧ V.drew.cell? ⟨w.heap.size, 1, none⟩ = some (.int .i32 n1) ∧ V.drew.cell? ⟨w.heap.size + 1, 0, none⟩ = some (.int .i64 t2) ∧ V.drew.cell? ⟨w.heap.size + 1, 1, none⟩ = some (.int .i32 n2) := ⟨P0D.out.cell 0, P0D.out.cell 1, P1D.out.cell 0, P1D.out.cell 1⟩
      clear BA P0 P1 G
      refine wp_region_noPanic ?_
      refine wp_region_held_drew (S := fun y => y.cell? ⟨w.heap.size, 0, none⟩ = some (.int .i64 t1) ∧ y.cell? ⟨w.heap.size, 1, none⟩ = some (.int .i32 n1) ∧ y.cell? ⟨w.heap.size + 1, 0, none⟩ = some (.int .i64 t2) ∧ y.cell? ⟨w.heap.size + 1, 1, none⟩ = some (.int .i32 n2)) (by kernel_rfl) L1 (fun hHeld => ?_)
      refine wpAnyH_take (i := 0) (oi := _) (v := .pointer (some ⟨w.heap.size, 0, none⟩)) rfl (by kernel_rfl) (by kernel_rfl) (by kernel_rfl) (fun _ _ _ h => h) (Or.inl ⟨by rfl, fun w hSw => by (try dsimp only at hSw); go_simp⟩) (by assumption) ?_
      try simp only [Act.put, List.getElem_toArray, List.getElem_cons_succ, List.getElem_cons_zero, List.setIfInBounds_toArray, List.set_cons_zero, List.set_cons_succ]
      refine wpAnyH_take (i := 1) (oi := _) (v := .int .i64 t1) rfl (by kernel_rfl) (by kernel_rfl) (by kernel_rfl) (fun _ _ _ h => h) (Or.inl ⟨by rfl, fun w hSw => by (try dsimp only at hSw); go_simp⟩) (by assumption) ?_
      try simp only [Act.put, List.getElem_toArray, List.getElem_cons_succ, List.getElem_cons_zero, List.setIfInBounds_toArray, List.set_cons_zero, List.set_cons_succ]
      refine wpAnyH_take (i := 2) (oi := _) (v := .bool false) rfl (by kernel_rfl) (by kernel_rfl) (by kernel_rfl) (fun _ _ _ h => h) (Or.inl ⟨by rfl, fun w hSw => by (try dsimp only at hSw); go_simp⟩) (by assumption) ?_
      try simp only [Act.put, List.getElem_toArray, List.getElem_cons_succ, List.getElem_cons_zero, List.setIfInBounds_toArray, List.set_cons_zero, List.set_cons_succ]
      refine wpAnyH_take (i := 3) (oi := _) (v := .bool false) rfl (by kernel_rfl) (by kernel_rfl) (by kernel_rfl) (fun _ _ _ h => h) (Or.inl ⟨by rfl, fun w hSw => by (try dsimp only at hSw); go_simp⟩) (by assumption) ?_
      try simp only [Act.put, List.getElem_toArray, List.getElem_cons_succ, List.getElem_cons_zero, List.setIfInBounds_toArray, List.set_cons_zero, List.set_cons_succ]
      refine wpAnyH_take (i := 4) (oi := _) (v := undef) rfl (by kernel_rfl) (by kernel_rfl) (by kernel_rfl) (fun _ _ _ h => h) (Or.inr ⟨by rfl, rfl⟩) (by assumption) ?_
      try simp only [Act.put, List.getElem_toArray, List.getElem_cons_succ, List.getElem_cons_zero, List.setIfInBounds_toArray, List.set_cons_zero, List.set_cons_succ]
      refine wpAnyH_take (i := 5) (oi := _) (v := undef) rfl (by kernel_rfl) (by kernel_rfl) (by kernel_rfl) (fun _ _ _ h => h) (Or.inr ⟨by rfl, rfl⟩) (by assumption) ?_
      try simp only [Act.put, List.getElem_toArray, List.getElem_cons_succ, List.getElem_cons_zero, List.setIfInBounds_toArray, List.set_cons_zero, List.set_cons_succ]
      refine wpAnyH_take (i := 6) (oi := _) (v := undef) rfl (by kernel_rfl) (by kernel_rfl) (by kernel_rfl) (fun _ _ _ h => h) (Or.inr ⟨by rfl, rfl⟩) (by assumption) ?_
      try simp only [Act.put, List.getElem_toArray, List.getElem_cons_succ, List.getElem_cons_zero, List.setIfInBounds_toArray, List.set_cons_zero, List.set_cons_succ]
      refine wpAnyH_take (i := 7) (oi := _) (v := .bool false) rfl (by kernel_rfl) (by kernel_rfl) (by kernel_rfl) (fun _ _ _ h => h) (Or.inl ⟨by rfl, fun w hSw => by (try dsimp only at hSw); go_simp⟩) (by assumption) ?_
      try simp only [Act.put, List.getElem_toArray, List.getElem_cons_succ, List.getElem_cons_zero, List.setIfInBounds_toArray, List.set_cons_zero, List.set_cons_succ]
      refine wpAnyH_take (i := 8) (oi := _) (v := .bool (n2 != 0)) rfl (by kernel_rfl) (by kernel_rfl) (by kernel_rfl) (fun _ _ _ h => h) (Or.inl ⟨by rfl, fun w hSw => by (try dsimp only at hSw); go_simp⟩) (by assumption) ?_
      try simp only [Act.put, List.getElem_toArray, List.getElem_cons_succ, List.getElem_cons_zero, List.setIfInBounds_toArray, List.set_cons_zero, List.set_cons_succ]
      refine wpAnyH_ready (rs := [9]) (by kernel_rfl) (by simp) (AllReadyH.cons (o := _) rfl (fun K hK => ?_) AllReadyH.nil)
      go_simp
      go_at_call 27
      refine (TR.out _).mono ?_
      rintro e y1 ⟨rfl, hb⟩
      have B1 := Lib.hid (BD.out.trans (hb.mono BD.out.size))
      have P01 := Lib.hid (P0D.out.below hb P0D.out.lt)
      have P11 := Lib.hid (P1D.out.below hb P1D.out.lt)
      have G1 := Lib.hid (GD.out.below hb GD.out.lt)
      have S1 : y1.cell? ⟨w.heap.size, 0, none⟩ = some (.int .i64 t1) ∧ y1.cell? ⟨w.heap.size, 1, none⟩ = some (.int .i32 n1) ∧ y1.cell? ⟨w.heap.size + 1, 0, none⟩ = some (.int .i64 t2) ∧ y1.cell? ⟨w.heap.size + 1, 1, none⟩ = some (.int .i32 n2) := ⟨P01.out.cell 0, P01.out.cell 1, P11.out.cell 0, P11.out.cell 1⟩
      clear hb
      refine hK.out _ _ S1 (fun hHeld => ?_)
      clear hK K
      try simp only [Act.put, List.getElem_toArray, List.getElem_cons_succ, List.getElem_cons_zero, List.setIfInBounds_toArray, List.set_cons_zero, List.set_cons_succ]
      refine wpAnyH_ready (rs := [10]) (by kernel_rfl) (by simp) (AllReadyH.cons (o := _) rfl (fun K hK => ?_) AllReadyH.nil)
      go_simp
      go_at_call 24
      refine (TY.out _).mono ?_
      rintro e y2 ⟨rfl, hb⟩
      have B2 := Lib.hid (B1.out.trans (hb.mono B1.out.size))
      have P02 := Lib.hid (P01.out.below hb P01.out.lt)
      have P12 := Lib.hid (P11.out.below hb P11.out.lt)
      have G2 := Lib.hid (G1.out.below hb G1.out.lt)
      have S2 : y2.cell? ⟨w.heap.size, 0, none⟩ = some (.int .i64 t1) ∧ y2.cell? ⟨w.heap.size, 1, none⟩ = some (.int .i32 n1) ∧ y2.cell? ⟨w.heap.size + 1, 0, none⟩ = some (.int .i64 t2) ∧ y2.cell? ⟨w.heap.size + 1, 1, none⟩ = some (.int .i32 n2) := ⟨P02.out.cell 0, P02.out.cell 1, P12.out.cell 0, P12.out.cell 1⟩
      have g0 : y2.cell? ⟨w.heap.size + 2, 0, none⟩ = some (.int .i64 0) := G2.out.cell 0
      have g1 : y2.cell? ⟨w.heap.size + 2, 1, none⟩ = some (.int .i32 0) := G2.out.cell 1
      have f0 := G2.out.free 0
      have f1 := G2.out.free 1
      clear hb
      refine hK.out _ _ S2 (fun hHeld => ?_)
      clear hK K
      try simp only [Act.put, List.getElem_toArray, List.getElem_cons_succ, List.getElem_cons_zero, List.setIfInBounds_toArray, List.set_cons_zero, List.set_cons_succ]
      refine wpAnyH_take (i := 11) (oi := _) (v := .agg #[.int .i64 r.t, .int .i32 r.n]) rfl (by kernel_rfl) (by kernel_rfl) (by kernel_rfl) (fun _ _ _ h => h) (Or.inl ⟨by rfl, fun w hSw => by (try dsimp only at hSw); go_simp⟩) (by assumption) ?_
      try simp only [Act.put, List.getElem_toArray, List.getElem_cons_succ, List.getElem_cons_zero, List.setIfInBounds_toArray, List.set_cons_zero, List.set_cons_succ]
      refine wpAnyH_take (i := 12) (oi := _) (v := .int .i64 r.e) rfl (by kernel_rfl) (by kernel_rfl) (by kernel_rfl) (fun _ _ _ h => h) (Or.inl ⟨by rfl, fun w hSw => by (try dsimp only at hSw); go_simp⟩) (by assumption) ?_
      try simp only [Act.put, List.getElem_toArray, List.getElem_cons_succ, List.getElem_cons_zero, List.setIfInBounds_toArray, List.set_cons_zero, List.set_cons_succ]
      refine wpAnyH_ready (rs := [13]) (by kernel_rfl) (by simp) (AllReadyH.cons (o := _) rfl (fun K hK => ?_) AllReadyH.nil)
      go_simp
      refine hK.out _ _ (keepK2 S2) (fun hHeld => ?_)
      clear hK K
      try simp only [Act.put, List.getElem_toArray, List.getElem_cons_succ, List.getElem_cons_zero, List.setIfInBounds_toArray, List.set_cons_zero, List.set_cons_succ]
      refine wpAnyH_take (i := 14) (oi := _) (v := .int .i64 r.e) rfl (by kernel_rfl) (by kernel_rfl) (by kernel_rfl) (fun _ _ _ h => h) (Or.inl ⟨by rfl, fun w hSw => by (try dsimp only at hSw); go_simp⟩) (by assumption) ?_
      try simp only [Act.put, List.getElem_toArray, List.getElem_cons_succ, List.getElem_cons_zero, List.setIfInBounds_toArray, List.set_cons_zero, List.set_cons_succ]
      refine wpAnyH_done (by kernel_rfl) ?_ _
      refine NoPanic.normal ?_
      have H := Lib.hid ((G2.out.store 0 (.int .i64 r.t)).store 1 (.int .i32 r.n))
      have HB := Lib.hid ((B2.out.setCell (p := ⟨w.heap.size + 2, 0, none⟩) (show w.heap.size ≤ w.heap.size + 2 by omega) (.int .i64 r.t)).setCell (p := ⟨w.heap.size + 2, 1, none⟩) (show w.heap.size ≤ w.heap.size + 2 by omega) (.int .i32 r.n))
      go_wp2_with fail
      have q0 := H.out.cell 0
      have q1 := H.out.cell 1
      refine bodyPost_ret (v := .tuple #[.agg #[.int .i64 r.t, .int .i32 r.n], .int .i64 r.e]) ?_ rfl ⟨rfl, HB.out⟩
      simp [results, Try.results19, go_sem, q0, q1]

end Go.Proofs.Ytmgjnalijmplcaa
