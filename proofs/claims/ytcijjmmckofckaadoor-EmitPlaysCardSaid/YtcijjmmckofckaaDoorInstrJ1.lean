/- Package instr: Decode, by how many registers the operation has: 2 and 3. -/
import Derived.Test.YtcijjmmckofckaaDoorInstrI
namespace Go.Proofs.YtcijjmmckofckaaDoor
open Go.ChangeShapes Go.WideShapes Go.ChangeAt Go.RowKit
set_option linter.unusedVariables false

set_option maxHeartbeats 4000000 in
set_option maxRecDepth 100000 in
theorem decode_r2 (x : Int) (w : World) (hS : ShapesIn w) (h0 : 0 ≤ x) (h1 : x ≤ 4294967295) (h : shapeOf (x / 16777216) ≠ -1) (hreg : regsOf (shapeOf (x / 16777216)) = 2) :
    Calls Tryd.prog 63 #[.int .u32 x] w fun e w' => e = .returned (decV x) ∧ Below w.heap.size w w' := by
  have hr : fieldsR (x / 16777216) = .tuple #[.agg #[.int .i64 2, .int .i64 (bitsOf (shapeOf (x / 16777216))), .bool (signOf (shapeOf (x / 16777216)))], .bool true] := by
    unfold fieldsR fieldsV
    rw [hreg]
    simp [h]
  have hN := fun w => number_any (shapeOf (x / 16777216)) x w h0 h1 (by have := shapeOf_range (x / 16777216); omega) (shapeOf_range (x / 16777216)).2
  simp only [fieldsV, hreg] at hN
  have hE := fun w hs => encoded_any (x / 16777216) (decA x) (decB x) (decC x) (decN x) w hs h (decGood h0 h1 h)
  have hA : decA x = x / 1048576 % 16 := by unfold decA; rw [hreg]; rfl
  have hB : decB x = x / 65536 % 16 := by unfold decB; rw [hreg]; rfl
  have hC : decC x = 0 := by unfold decC; rw [hreg]; rfl
  have hV := decV_yes h
  have hU := decV_no (x := x)
  unfold instrV at hE hV hU
  rw [hA, hB, hC] at hE hV hU
  have hn : decN x = numOf (shapeOf (x / 16777216)) x := rfl
  rw [← hn] at hN
  have m0 := and_mask4 (x / 1048576)
  have m1 := and_mask4 (x / 65536)
  have m2 := and_mask4 x
  have R := Lib.hid hr
  have N := Lib.hid hN
  have E := Lib.hid hE
  have V := Lib.hid hV
  have U := Lib.hid hU
  have HS := Lib.hid hS
  clear hr hN hE hV hU hS h hreg hA hB hC hn
  generalize bitsOf (shapeOf (x / 16777216)) = bits at *
  generalize signOf (shapeOf (x / 16777216)) = sgn at *
  generalize decN x = num at *
  generalize wordOf (x / 16777216) (x / 1048576 % 16) (x / 65536 % 16) 0 num = y at *
  go_enter Tryd.func63, Tryd.ntmps63
  go_wp2_with fail
  refine (fieldsOf_any _ _ (HS.out.alloc _)).mono ?_
  rintro e w1 ⟨rfl, hb1⟩
  rw [R.out]
  obtain ⟨hk1, hf1⟩ := kept_cells hb1
  have hz1 : w.heap.size < w1.heap.size := Nat.lt_of_lt_of_le (by simp) hb1.size
  have HS1 := Lib.hid ((HS.out.alloc _).below hb1 (Nat.le_refl _))
  have B1 := Lib.hid (((Below.refl _ _).alloc (Nat.le_refl _) _).trans (hb1.mono (show w.heap.size ≤ _ by simp)))
  have Q1 := Lib.hid ((Whole.made w 58 #[.int .i64 0, .int .i64 0, .int .i64 0, .int .i64 0, .int .i64 0] _ rfl).below hb1 (by simp))
  clear hb1
  go_wp2_with fail
  refine (N.out _).mono ?_
  rintro e w2 ⟨rfl, hb2⟩
  obtain ⟨hk2, hf2⟩ := kept_cells hb2
  have hz2 : w1.heap.size < w2.heap.size := Nat.lt_of_lt_of_le (by simp) hb2.size
  have hz2' : w.heap.size < w2.heap.size := Nat.lt_trans hz1 hz2
  have HS2 := Lib.hid ((HS1.out.alloc _).below hb2 (Nat.le_refl _))
  have B2 := Lib.hid ((B1.out.alloc (Nat.le_of_lt hz1) _).trans (hb2.mono (show w.heap.size ≤ _ by simp; omega)))
  have Q2 := Lib.hid ((Q1.out.alloc _).below hb2 (by simp; omega))
  clear hb2
  go_wp2_with fail
  refine (E.out _ (HS2.out.alloc _)).mono ?_
  rintro e w3 ⟨rfl, hb3⟩
  obtain ⟨hk3, hf3⟩ := kept_cells hb3
  have hz3 : w2.heap.size < w3.heap.size := Nat.lt_of_lt_of_le (by simp) hb3.size
  have hz3' : w.heap.size < w3.heap.size := Nat.lt_trans hz2' hz3
  have B3 := Lib.hid ((B2.out.alloc (Nat.le_of_lt hz2') _).trans (hb3.mono (show w.heap.size ≤ _ by simp; omega)))
  have Q3 := (Q2.out.alloc _).below hb3 (by simp; omega)
  have q0 : w3.cell? ⟨w.heap.size, 0, none⟩ = some (.int .i64 0) := Q3.cell 0
  have q1 : w3.cell? ⟨w.heap.size, 1, none⟩ = some (.int .i64 0) := Q3.cell 1
  have q2 : w3.cell? ⟨w.heap.size, 2, none⟩ = some (.int .i64 0) := Q3.cell 2
  have q3 : w3.cell? ⟨w.heap.size, 3, none⟩ = some (.int .i64 0) := Q3.cell 3
  have q4 : w3.cell? ⟨w.heap.size, 4, none⟩ = some (.int .i64 0) := Q3.cell 4
  have P3 := (Whole.made w2 58 #[.int .i64 (x / 16777216), .int .i64 (x / 1048576 % 16), .int .i64 (x / 65536 % 16), .int .i64 0, .int .i64 num] _ rfl).below hb3 (by simp)
  have p0 : w3.cell? ⟨w2.heap.size, 0, none⟩ = some (.int .i64 (x / 16777216)) := P3.cell 0
  have p1 : w3.cell? ⟨w2.heap.size, 1, none⟩ = some (.int .i64 (x / 1048576 % 16)) := P3.cell 1
  have p2 : w3.cell? ⟨w2.heap.size, 2, none⟩ = some (.int .i64 (x / 65536 % 16)) := P3.cell 2
  have p3 : w3.cell? ⟨w2.heap.size, 3, none⟩ = some (.int .i64 0) := P3.cell 3
  have p4 : w3.cell? ⟨w2.heap.size, 4, none⟩ = some (.int .i64 num) := P3.cell 4
  have f3 : ∀ i, w3.frozen? ⟨w.heap.size, i, none⟩ = false := Q3.free
  clear hb3 Q3 P3 hk1 hk2 hk3 hf1 hf2 hf3
  by_cases hy : y = x
  · have W := Lib.hid (V.out hy)
    have hne : (y != x) = false := by simpa using hy
    clear hy V U
    go_wp2
    refine bodyPost_ret (v := .tuple #[.agg #[.int .i64 (x / 16777216), .int .i64 (x / 1048576 % 16), .int .i64 (x / 65536 % 16), .int .i64 0, .int .i64 num], .int .i64 0]) ?_ rfl ⟨congrArg Ending.returned W.out.symm, ?_⟩
    · simp [results, Tryd.results63, go_sem, q0, q1, q2, q3, q4]
    · repeat (first | exact B3.out | refine Below.setCell ?_ (Nat.le_refl w.heap.size) _)
  · have W := Lib.hid (U.out hy)
    have hne : (y != x) = true := by simpa using hy
    clear hy V U
    go_wp2
    refine bodyPost_ret (v := .tuple #[.agg #[.int .i64 0, .int .i64 0, .int .i64 0, .int .i64 0, .int .i64 0], .int .i64 21]) ?_ rfl ⟨congrArg Ending.returned W.out.symm, ?_⟩
    · simp [results, Tryd.results63, go_sem, q0, q1, q2, q3, q4]
    · repeat (first | exact B3.out | refine Below.setCell ?_ (Nat.le_refl w.heap.size) _)


set_option maxHeartbeats 4000000 in
set_option maxRecDepth 100000 in
theorem decode_r3 (x : Int) (w : World) (hS : ShapesIn w) (h0 : 0 ≤ x) (h1 : x ≤ 4294967295) (h : shapeOf (x / 16777216) ≠ -1) (hreg : regsOf (shapeOf (x / 16777216)) = 3) :
    Calls Tryd.prog 63 #[.int .u32 x] w fun e w' => e = .returned (decV x) ∧ Below w.heap.size w w' := by
  have hr : fieldsR (x / 16777216) = .tuple #[.agg #[.int .i64 3, .int .i64 (bitsOf (shapeOf (x / 16777216))), .bool (signOf (shapeOf (x / 16777216)))], .bool true] := by
    unfold fieldsR fieldsV
    rw [hreg]
    simp [h]
  have hN := fun w => number_any (shapeOf (x / 16777216)) x w h0 h1 (by have := shapeOf_range (x / 16777216); omega) (shapeOf_range (x / 16777216)).2
  simp only [fieldsV, hreg] at hN
  have hE := fun w hs => encoded_any (x / 16777216) (decA x) (decB x) (decC x) (decN x) w hs h (decGood h0 h1 h)
  have hA : decA x = x / 1048576 % 16 := by unfold decA; rw [hreg]; rfl
  have hB : decB x = x / 65536 % 16 := by unfold decB; rw [hreg]; rfl
  have hC : decC x = x % 16 := by unfold decC; rw [hreg]; rfl
  have hV := decV_yes h
  have hU := decV_no (x := x)
  unfold instrV at hE hV hU
  rw [hA, hB, hC] at hE hV hU
  have hn : decN x = numOf (shapeOf (x / 16777216)) x := rfl
  rw [← hn] at hN
  have m0 := and_mask4 (x / 1048576)
  have m1 := and_mask4 (x / 65536)
  have m2 := and_mask4 x
  have R := Lib.hid hr
  have N := Lib.hid hN
  have E := Lib.hid hE
  have V := Lib.hid hV
  have U := Lib.hid hU
  have HS := Lib.hid hS
  clear hr hN hE hV hU hS h hreg hA hB hC hn
  generalize bitsOf (shapeOf (x / 16777216)) = bits at *
  generalize signOf (shapeOf (x / 16777216)) = sgn at *
  generalize decN x = num at *
  generalize wordOf (x / 16777216) (x / 1048576 % 16) (x / 65536 % 16) (x % 16) num = y at *
  go_enter Tryd.func63, Tryd.ntmps63
  go_wp2_with fail
  refine (fieldsOf_any _ _ (HS.out.alloc _)).mono ?_
  rintro e w1 ⟨rfl, hb1⟩
  rw [R.out]
  obtain ⟨hk1, hf1⟩ := kept_cells hb1
  have hz1 : w.heap.size < w1.heap.size := Nat.lt_of_lt_of_le (by simp) hb1.size
  have HS1 := Lib.hid ((HS.out.alloc _).below hb1 (Nat.le_refl _))
  have B1 := Lib.hid (((Below.refl _ _).alloc (Nat.le_refl _) _).trans (hb1.mono (show w.heap.size ≤ _ by simp)))
  have Q1 := Lib.hid ((Whole.made w 58 #[.int .i64 0, .int .i64 0, .int .i64 0, .int .i64 0, .int .i64 0] _ rfl).below hb1 (by simp))
  clear hb1
  go_wp2_with fail
  refine (N.out _).mono ?_
  rintro e w2 ⟨rfl, hb2⟩
  obtain ⟨hk2, hf2⟩ := kept_cells hb2
  have hz2 : w1.heap.size < w2.heap.size := Nat.lt_of_lt_of_le (by simp) hb2.size
  have hz2' : w.heap.size < w2.heap.size := Nat.lt_trans hz1 hz2
  have HS2 := Lib.hid ((HS1.out.alloc _).below hb2 (Nat.le_refl _))
  have B2 := Lib.hid ((B1.out.alloc (Nat.le_of_lt hz1) _).trans (hb2.mono (show w.heap.size ≤ _ by simp; omega)))
  have Q2 := Lib.hid ((Q1.out.alloc _).below hb2 (by simp; omega))
  clear hb2
  go_wp2_with fail
  refine (E.out _ (HS2.out.alloc _)).mono ?_
  rintro e w3 ⟨rfl, hb3⟩
  obtain ⟨hk3, hf3⟩ := kept_cells hb3
  have hz3 : w2.heap.size < w3.heap.size := Nat.lt_of_lt_of_le (by simp) hb3.size
  have hz3' : w.heap.size < w3.heap.size := Nat.lt_trans hz2' hz3
  have B3 := Lib.hid ((B2.out.alloc (Nat.le_of_lt hz2') _).trans (hb3.mono (show w.heap.size ≤ _ by simp; omega)))
  have Q3 := (Q2.out.alloc _).below hb3 (by simp; omega)
  have q0 : w3.cell? ⟨w.heap.size, 0, none⟩ = some (.int .i64 0) := Q3.cell 0
  have q1 : w3.cell? ⟨w.heap.size, 1, none⟩ = some (.int .i64 0) := Q3.cell 1
  have q2 : w3.cell? ⟨w.heap.size, 2, none⟩ = some (.int .i64 0) := Q3.cell 2
  have q3 : w3.cell? ⟨w.heap.size, 3, none⟩ = some (.int .i64 0) := Q3.cell 3
  have q4 : w3.cell? ⟨w.heap.size, 4, none⟩ = some (.int .i64 0) := Q3.cell 4
  have P3 := (Whole.made w2 58 #[.int .i64 (x / 16777216), .int .i64 (x / 1048576 % 16), .int .i64 (x / 65536 % 16), .int .i64 (x % 16), .int .i64 num] _ rfl).below hb3 (by simp)
  have p0 : w3.cell? ⟨w2.heap.size, 0, none⟩ = some (.int .i64 (x / 16777216)) := P3.cell 0
  have p1 : w3.cell? ⟨w2.heap.size, 1, none⟩ = some (.int .i64 (x / 1048576 % 16)) := P3.cell 1
  have p2 : w3.cell? ⟨w2.heap.size, 2, none⟩ = some (.int .i64 (x / 65536 % 16)) := P3.cell 2
  have p3 : w3.cell? ⟨w2.heap.size, 3, none⟩ = some (.int .i64 (x % 16)) := P3.cell 3
  have p4 : w3.cell? ⟨w2.heap.size, 4, none⟩ = some (.int .i64 num) := P3.cell 4
  have f3 : ∀ i, w3.frozen? ⟨w.heap.size, i, none⟩ = false := Q3.free
  clear hb3 Q3 P3 hk1 hk2 hk3 hf1 hf2 hf3
  by_cases hy : y = x
  · have W := Lib.hid (V.out hy)
    have hne : (y != x) = false := by simpa using hy
    clear hy V U
    go_wp2
    refine bodyPost_ret (v := .tuple #[.agg #[.int .i64 (x / 16777216), .int .i64 (x / 1048576 % 16), .int .i64 (x / 65536 % 16), .int .i64 (x % 16), .int .i64 num], .int .i64 0]) ?_ rfl ⟨congrArg Ending.returned W.out.symm, ?_⟩
    · simp [results, Tryd.results63, go_sem, q0, q1, q2, q3, q4]
    · repeat (first | exact B3.out | refine Below.setCell ?_ (Nat.le_refl w.heap.size) _)
  · have W := Lib.hid (U.out hy)
    have hne : (y != x) = true := by simpa using hy
    clear hy V U
    go_wp2
    refine bodyPost_ret (v := .tuple #[.agg #[.int .i64 0, .int .i64 0, .int .i64 0, .int .i64 0, .int .i64 0], .int .i64 21]) ?_ rfl ⟨congrArg Ending.returned W.out.symm, ?_⟩
    · simp [results, Tryd.results63, go_sem, q0, q1, q2, q3, q4]
    · repeat (first | exact B3.out | refine Below.setCell ?_ (Nat.le_refl w.heap.size) _)

end Go.Proofs.YtcijjmmckofckaaDoor
