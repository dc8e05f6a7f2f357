/- The answers' Decode of package instr: shapes 0 to 2. -/
import Derived.Test.YtcijjmmckofckaaDoorInstrI
namespace Go.Proofs.YtcijjmmckofckaaDoor
open Go.ChangeShapes Go.WideShapes Go.ChangeAt Go.RowKit
set_option linter.unusedVariables false

set_option maxHeartbeats 4000000 in
set_option maxRecDepth 100000 in
theorem refdecode_0 (x : Int) (w : World) (h0 : 0 ≤ x) (h1 : x ≤ 4294967295) (h : shapeOf (x / 16777216) = 0) :
    Calls Tryd.prog 19 #[.int .u32 x] w fun e w' => e = .returned (decV x) ∧ Below w.heap.size w w' := by
  have hne : shapeOf (x / 16777216) ≠ -1 := by omega
  have hE : ∀ w, Calls Tryd.prog 30 #[instrV (x / 16777216) (decA x) (decB x) (decC x) (decN x)] w fun e w' => e = .returned (.tuple #[.int .u32 (wordOf (x / 16777216) (decA x) (decB x) (decC x) (decN x)), .int .i64 0]) ∧ Below w.heap.size w w' := fun w => by
    have hc := checkOf_good (op := x / 16777216) rfl hne (decGood h0 h1 hne)
    have := refencode_any (x / 16777216) (decA x) (decB x) (decC x) (decN x) w
    unfold encR encOf at this
    rw [hc, if_pos rfl] at this
    exact this
  have hA : decA x = 0 := by unfold decA; rw [h]; rfl
  have hB : decB x = 0 := by unfold decB; rw [h]; rfl
  have hC : decC x = 0 := by unfold decC; rw [h]; rfl
  have hn : decN x = 0 := by
    unfold decN numOf
    rw [h]
    show x % 1 = 0
    omega
  have hV := decV_yes hne
  have hU := decV_no (x := x)
  unfold instrV at hE hV hU
  rw [hA, hB, hC, hn] at hE hV hU
  have E := Lib.hid hE
  have V := Lib.hid hV
  have U := Lib.hid hU
  have H := Lib.hid h
  clear hE hV hU h hne hA hB hC hn
  generalize wordOf (x / 16777216) 0 0 0 0 = y at *
  go_enter Tryd.func19, Tryd.ntmps19
  go_wp2_with fail
  refine (refshape_any _ _).mono ?_
  rintro e w' ⟨rfl, rfl⟩
  rw [H.out]
  go_wp2_with fail
  refine (has_any _ _).mono ?_
  rintro e w' ⟨rfl, rfl⟩
  go_wp2_with fail
  refine (E.out _).mono ?_
  rintro e w1 ⟨rfl, hb1⟩
  have B1 := Lib.hid ((((Below.refl w.heap.size w).alloc (Nat.le_refl _) _).alloc (by simp) _).trans (hb1.mono (by simp; omega)))
  have hz1 : w.heap.size < w1.heap.size := Nat.lt_of_lt_of_le (by simp; omega) hb1.size
  have hz2 : w.heap.size + 1 < w1.heap.size := Nat.lt_of_lt_of_le (by simp) hb1.size
  have Q3 := ((Whole.made w 51 #[.int .i64 0, .int .i64 0, .int .i64 0, .int .i64 0, .int .i64 0] _ rfl).alloc (.cells #[.int .i64 (x / 16777216), .int .i64 0, .int .i64 0, .int .i64 0, .int .i64 0] 51)).below hb1 (by simp; omega)
  have P3 := (Whole.made (w.alloc (.cells #[.int .i64 0, .int .i64 0, .int .i64 0, .int .i64 0, .int .i64 0] 51)) 51 #[.int .i64 (x / 16777216), .int .i64 0, .int .i64 0, .int .i64 0, .int .i64 0] (w.heap.size + 1) (by simp)).below hb1 (by simp)
  have q0 : w1.cell? ⟨w.heap.size, 0, none⟩ = some (.int .i64 0) := Q3.cell 0
  have q1 : w1.cell? ⟨w.heap.size, 1, none⟩ = some (.int .i64 0) := Q3.cell 1
  have q2 : w1.cell? ⟨w.heap.size, 2, none⟩ = some (.int .i64 0) := Q3.cell 2
  have q3 : w1.cell? ⟨w.heap.size, 3, none⟩ = some (.int .i64 0) := Q3.cell 3
  have q4 : w1.cell? ⟨w.heap.size, 4, none⟩ = some (.int .i64 0) := Q3.cell 4
  have p0 : w1.cell? ⟨w.heap.size + 1, 0, none⟩ = some (.int .i64 (x / 16777216)) := P3.cell 0
  have p1 : w1.cell? ⟨w.heap.size + 1, 1, none⟩ = some (.int .i64 0) := P3.cell 1
  have p2 : w1.cell? ⟨w.heap.size + 1, 2, none⟩ = some (.int .i64 0) := P3.cell 2
  have p3 : w1.cell? ⟨w.heap.size + 1, 3, none⟩ = some (.int .i64 0) := P3.cell 3
  have p4 : w1.cell? ⟨w.heap.size + 1, 4, none⟩ = some (.int .i64 0) := P3.cell 4
  have f3 : ∀ i, w1.frozen? ⟨w.heap.size, i, none⟩ = false := Q3.free
  clear hb1 Q3 P3
  by_cases hy : y = x
  · have W := Lib.hid (V.out hy)
    have hne : (y != x) = false := by simpa using hy
    clear hy V U
    go_wp2
    refine bodyPost_ret (v := .tuple #[.agg #[.int .i64 (x / 16777216), .int .i64 0, .int .i64 0, .int .i64 0, .int .i64 0], .int .i64 0]) ?_ rfl ⟨congrArg Ending.returned W.out.symm, ?_⟩
    · simp [results, Tryd.results19, go_sem, q0, q1, q2, q3, q4]
    · repeat (first | exact B1.out | refine Below.setCell ?_ (Nat.le_refl w.heap.size) _)
  · have W := Lib.hid (U.out hy)
    have hne : (y != x) = true := by simpa using hy
    clear hy V U
    go_wp2
    refine bodyPost_ret (v := .tuple #[.agg #[.int .i64 0, .int .i64 0, .int .i64 0, .int .i64 0, .int .i64 0], .int .i64 21]) ?_ rfl ⟨congrArg Ending.returned W.out.symm, ?_⟩
    · simp [results, Tryd.results19, go_sem, q0, q1, q2, q3, q4]
    · repeat (first | exact B1.out | refine Below.setCell ?_ (Nat.le_refl w.heap.size) _)


set_option maxHeartbeats 4000000 in
set_option maxRecDepth 100000 in
theorem refdecode_1 (x : Int) (w : World) (h0 : 0 ≤ x) (h1 : x ≤ 4294967295) (h : shapeOf (x / 16777216) = 1) :
    Calls Tryd.prog 19 #[.int .u32 x] w fun e w' => e = .returned (decV x) ∧ Below w.heap.size w w' := by
  have hne : shapeOf (x / 16777216) ≠ -1 := by omega
  have hE : ∀ w, Calls Tryd.prog 30 #[instrV (x / 16777216) (decA x) (decB x) (decC x) (decN x)] w fun e w' => e = .returned (.tuple #[.int .u32 (wordOf (x / 16777216) (decA x) (decB x) (decC x) (decN x)), .int .i64 0]) ∧ Below w.heap.size w w' := fun w => by
    have hc := checkOf_good (op := x / 16777216) rfl hne (decGood h0 h1 hne)
    have := refencode_any (x / 16777216) (decA x) (decB x) (decC x) (decN x) w
    unfold encR encOf at this
    rw [hc, if_pos rfl] at this
    exact this
  have hA : decA x = x / 1048576 % 16 := by unfold decA; rw [h]; rfl
  have hB : decB x = 0 := by unfold decB; rw [h]; rfl
  have hC : decC x = 0 := by unfold decC; rw [h]; rfl
  have hn : decN x = sxt x 16 := by unfold decN numOf; rw [h]; rfl
  have hb : -8388608 ≤ decN x ∧ decN x ≤ 8388607 := by rw [hn]; unfold sxt; simp; omega
  have hX : ∀ w, Calls Tryd.prog 37 #[.int .u32 x, .int .i64 16] w fun e w' => e = .returned (.int .i32 (decN x)) ∧ w = w' := fun w => by
    have := refsext_any x 16 w h0 h1 (by decide) (by decide)
    rw [upto_lo (by decide) (by decide), show Int.toNat 16 = 16 from rfl, ← hn] at this
    have e : wrap32 (decN x) = decN x := by unfold wrap32; omega
    rw [e] at this
    exact this
  obtain ⟨hb0, hb1⟩ := hb
  have hV := decV_yes hne
  have hU := decV_no (x := x)
  unfold instrV at hE hV hU
  rw [hA, hB, hC] at hE hV hU
  have E := Lib.hid hE
  have V := Lib.hid hV
  have U := Lib.hid hU
  have H := Lib.hid h
  have X := Lib.hid hX
  clear hE hV hU h hne hA hB hC hn hX
  generalize decN x = num at *
  generalize wordOf (x / 16777216) (x / 1048576 % 16) 0 0 num = y at *
  go_enter Tryd.func19, Tryd.ntmps19
  go_wp2_with fail
  refine (refshape_any _ _).mono ?_
  rintro e w' ⟨rfl, rfl⟩
  rw [H.out]
  go_wp2_with fail
  refine (has_any _ _).mono ?_
  rintro e w' ⟨rfl, rfl⟩
  go_wp2_with fail
  refine (X.out _).mono ?_
  rintro e w' ⟨rfl, rfl⟩
  go_wp2_with fail
  refine (E.out _).mono ?_
  rintro e w1 ⟨rfl, hb1⟩
  have B1 := Lib.hid ((((Below.refl w.heap.size w).alloc (Nat.le_refl _) _).alloc (by simp) _).trans (hb1.mono (by simp; omega)))
  have hz1 : w.heap.size < w1.heap.size := Nat.lt_of_lt_of_le (by simp; omega) hb1.size
  have hz2 : w.heap.size + 1 < w1.heap.size := Nat.lt_of_lt_of_le (by simp) hb1.size
  have Q3 := ((Whole.made w 51 #[.int .i64 0, .int .i64 0, .int .i64 0, .int .i64 0, .int .i64 0] _ rfl).alloc (.cells #[.int .i64 (x / 16777216), .int .i64 (x / 1048576 % 16), .int .i64 0, .int .i64 0, .int .i64 num] 51)).below hb1 (by simp; omega)
  have P3 := (Whole.made (w.alloc (.cells #[.int .i64 0, .int .i64 0, .int .i64 0, .int .i64 0, .int .i64 0] 51)) 51 #[.int .i64 (x / 16777216), .int .i64 (x / 1048576 % 16), .int .i64 0, .int .i64 0, .int .i64 num] (w.heap.size + 1) (by simp)).below hb1 (by simp)
  have q0 : w1.cell? ⟨w.heap.size, 0, none⟩ = some (.int .i64 0) := Q3.cell 0
  have q1 : w1.cell? ⟨w.heap.size, 1, none⟩ = some (.int .i64 0) := Q3.cell 1
  have q2 : w1.cell? ⟨w.heap.size, 2, none⟩ = some (.int .i64 0) := Q3.cell 2
  have q3 : w1.cell? ⟨w.heap.size, 3, none⟩ = some (.int .i64 0) := Q3.cell 3
  have q4 : w1.cell? ⟨w.heap.size, 4, none⟩ = some (.int .i64 0) := Q3.cell 4
  have p0 : w1.cell? ⟨w.heap.size + 1, 0, none⟩ = some (.int .i64 (x / 16777216)) := P3.cell 0
  have p1 : w1.cell? ⟨w.heap.size + 1, 1, none⟩ = some (.int .i64 (x / 1048576 % 16)) := P3.cell 1
  have p2 : w1.cell? ⟨w.heap.size + 1, 2, none⟩ = some (.int .i64 0) := P3.cell 2
  have p3 : w1.cell? ⟨w.heap.size + 1, 3, none⟩ = some (.int .i64 0) := P3.cell 3
  have p4 : w1.cell? ⟨w.heap.size + 1, 4, none⟩ = some (.int .i64 num) := P3.cell 4
  have f3 : ∀ i, w1.frozen? ⟨w.heap.size, i, none⟩ = false := Q3.free
  clear hb1 Q3 P3
  by_cases hy : y = x
  · have W := Lib.hid (V.out hy)
    have hne : (y != x) = false := by simpa using hy
    clear hy V U
    go_wp2
    refine bodyPost_ret (v := .tuple #[.agg #[.int .i64 (x / 16777216), .int .i64 (x / 1048576 % 16), .int .i64 0, .int .i64 0, .int .i64 num], .int .i64 0]) ?_ rfl ⟨congrArg Ending.returned W.out.symm, ?_⟩
    · simp [results, Tryd.results19, go_sem, q0, q1, q2, q3, q4]
    · repeat (first | exact B1.out | refine Below.setCell ?_ (Nat.le_refl w.heap.size) _)
  · have W := Lib.hid (U.out hy)
    have hne : (y != x) = true := by simpa using hy
    clear hy V U
    go_wp2
    refine bodyPost_ret (v := .tuple #[.agg #[.int .i64 0, .int .i64 0, .int .i64 0, .int .i64 0, .int .i64 0], .int .i64 21]) ?_ rfl ⟨congrArg Ending.returned W.out.symm, ?_⟩
    · simp [results, Tryd.results19, go_sem, q0, q1, q2, q3, q4]
    · repeat (first | exact B1.out | refine Below.setCell ?_ (Nat.le_refl w.heap.size) _)


set_option maxHeartbeats 4000000 in
set_option maxRecDepth 100000 in
theorem refdecode_2 (x : Int) (w : World) (h0 : 0 ≤ x) (h1 : x ≤ 4294967295) (h : shapeOf (x / 16777216) = 2) :
    Calls Tryd.prog 19 #[.int .u32 x] w fun e w' => e = .returned (decV x) ∧ Below w.heap.size w w' := by
  have hne : shapeOf (x / 16777216) ≠ -1 := by omega
  have hE : ∀ w, Calls Tryd.prog 30 #[instrV (x / 16777216) (decA x) (decB x) (decC x) (decN x)] w fun e w' => e = .returned (.tuple #[.int .u32 (wordOf (x / 16777216) (decA x) (decB x) (decC x) (decN x)), .int .i64 0]) ∧ Below w.heap.size w w' := fun w => by
    have hc := checkOf_good (op := x / 16777216) rfl hne (decGood h0 h1 hne)
    have := refencode_any (x / 16777216) (decA x) (decB x) (decC x) (decN x) w
    unfold encR encOf at this
    rw [hc, if_pos rfl] at this
    exact this
  have hA : decA x = x / 1048576 % 16 := by unfold decA; rw [h]; rfl
  have hB : decB x = 0 := by unfold decB; rw [h]; rfl
  have hC : decC x = 0 := by unfold decC; rw [h]; rfl
  have hn : decN x = x % 65536 := by unfold decN numOf; rw [h]; rfl
  have hV := decV_yes hne
  have hU := decV_no (x := x)
  unfold instrV at hE hV hU
  rw [hA, hB, hC, hn] at hE hV hU
  have E := Lib.hid hE
  have V := Lib.hid hV
  have U := Lib.hid hU
  have H := Lib.hid h
  clear hE hV hU h hne hA hB hC hn
  generalize wordOf (x / 16777216) (x / 1048576 % 16) 0 0 (x % 65536) = y at *
  go_enter Tryd.func19, Tryd.ntmps19
  go_wp2_with fail
  refine (refshape_any _ _).mono ?_
  rintro e w' ⟨rfl, rfl⟩
  rw [H.out]
  go_wp2_with fail
  refine (has_any _ _).mono ?_
  rintro e w' ⟨rfl, rfl⟩
  go_wp2_with fail
  refine (E.out _).mono ?_
  rintro e w1 ⟨rfl, hb1⟩
  have B1 := Lib.hid ((((Below.refl w.heap.size w).alloc (Nat.le_refl _) _).alloc (by simp) _).trans (hb1.mono (by simp; omega)))
  have hz1 : w.heap.size < w1.heap.size := Nat.lt_of_lt_of_le (by simp; omega) hb1.size
  have hz2 : w.heap.size + 1 < w1.heap.size := Nat.lt_of_lt_of_le (by simp) hb1.size
  have Q3 := ((Whole.made w 51 #[.int .i64 0, .int .i64 0, .int .i64 0, .int .i64 0, .int .i64 0] _ rfl).alloc (.cells #[.int .i64 (x / 16777216), .int .i64 (x / 1048576 % 16), .int .i64 0, .int .i64 0, .int .i64 (x % 65536)] 51)).below hb1 (by simp; omega)
  have P3 := (Whole.made (w.alloc (.cells #[.int .i64 0, .int .i64 0, .int .i64 0, .int .i64 0, .int .i64 0] 51)) 51 #[.int .i64 (x / 16777216), .int .i64 (x / 1048576 % 16), .int .i64 0, .int .i64 0, .int .i64 (x % 65536)] (w.heap.size + 1) (by simp)).below hb1 (by simp)
  have q0 : w1.cell? ⟨w.heap.size, 0, none⟩ = some (.int .i64 0) := Q3.cell 0
  have q1 : w1.cell? ⟨w.heap.size, 1, none⟩ = some (.int .i64 0) := Q3.cell 1
  have q2 : w1.cell? ⟨w.heap.size, 2, none⟩ = some (.int .i64 0) := Q3.cell 2
  have q3 : w1.cell? ⟨w.heap.size, 3, none⟩ = some (.int .i64 0) := Q3.cell 3
  have q4 : w1.cell? ⟨w.heap.size, 4, none⟩ = some (.int .i64 0) := Q3.cell 4
  have p0 : w1.cell? ⟨w.heap.size + 1, 0, none⟩ = some (.int .i64 (x / 16777216)) := P3.cell 0
  have p1 : w1.cell? ⟨w.heap.size + 1, 1, none⟩ = some (.int .i64 (x / 1048576 % 16)) := P3.cell 1
  have p2 : w1.cell? ⟨w.heap.size + 1, 2, none⟩ = some (.int .i64 0) := P3.cell 2
  have p3 : w1.cell? ⟨w.heap.size + 1, 3, none⟩ = some (.int .i64 0) := P3.cell 3
  have p4 : w1.cell? ⟨w.heap.size + 1, 4, none⟩ = some (.int .i64 (x % 65536)) := P3.cell 4
  have f3 : ∀ i, w1.frozen? ⟨w.heap.size, i, none⟩ = false := Q3.free
  clear hb1 Q3 P3
  by_cases hy : y = x
  · have W := Lib.hid (V.out hy)
    have hne : (y != x) = false := by simpa using hy
    clear hy V U
    go_wp2
    refine bodyPost_ret (v := .tuple #[.agg #[.int .i64 (x / 16777216), .int .i64 (x / 1048576 % 16), .int .i64 0, .int .i64 0, .int .i64 (x % 65536)], .int .i64 0]) ?_ rfl ⟨congrArg Ending.returned W.out.symm, ?_⟩
    · simp [results, Tryd.results19, go_sem, q0, q1, q2, q3, q4]
    · repeat (first | exact B1.out | refine Below.setCell ?_ (Nat.le_refl w.heap.size) _)
  · have W := Lib.hid (U.out hy)
    have hne : (y != x) = true := by simpa using hy
    clear hy V U
    go_wp2
    refine bodyPost_ret (v := .tuple #[.agg #[.int .i64 0, .int .i64 0, .int .i64 0, .int .i64 0, .int .i64 0], .int .i64 21]) ?_ rfl ⟨congrArg Ending.returned W.out.symm, ?_⟩
    · simp [results, Tryd.results19, go_sem, q0, q1, q2, q3, q4]
    · repeat (first | exact B1.out | refine Below.setCell ?_ (Nat.le_refl w.heap.size) _)

end Go.Proofs.YtcijjmmckofckaaDoor
