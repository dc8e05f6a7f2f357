/- InstrY in one. -/
import Derived.Test.YtnmpamfgkidmiaaDoorInstrG2
import Derived.Test.YtnmpamfgkidmiaaDoorInstrQS

/- The answers' Fill of package instr: a list of another length. -/
namespace Go.Proofs.YtnmpamfgkidmiaaDoor
open Go.ChangeShapes Go.WideShapes Go.ChangeAt Go.RowKit
set_option linter.unusedVariables false

set_option maxHeartbeats 8000000 in
set_option maxRecDepth 100000 in
theorem reflen_00 (op : Int) (A : Option Addr) (n cp : Nat) (ss : List ByteArray) (w : World) (hs : ss.length = n) (hn : n ≤ 1000000) (h : shapeOf op ≠ -1) (hreg : regsOf (shapeOf op) = 0) (himm : bitsOf (shapeOf op) = 0) (hl : ss.length ≠ fillCount op) :
    Calls Tryd.prog 76 #[.int .i64 op, .slice A n cp] w (FillPost op ss w) := by
  have hr := shapeOf_range op
  have hne : ((n : Int) != 0) = true := by
    unfold fillCount at hl
    rw [hreg, hs, himm] at hl
    simp at hl ⊢
    omega
  have NO := Lib.hid (fillOk_len hl)
  have hh : (decide (1 ≤ shapeOf op) && decide (shapeOf op ≤ 6)) = false ∧ (decide (3 ≤ shapeOf op) && decide (shapeOf op ≤ 5)) = false ∧ (shapeOf op == 5) = false := by
    unfold regsOf at hreg
    unfold bitsOf at himm
    generalize shapeOf op = s at *
    simp
    omega
  have hneg : decide (shapeOf op < 0) = false := by simp; omega
  have hs0 : shapeOf op = 0 := by unfold regsOf at hreg; unfold bitsOf at himm; omega
  obtain ⟨h1, h2, h3⟩ := hh
  have HAS := Lib.hid (fun w => has_any (shapeOf op) w)
  rw [h1, h2, h3] at HAS
  have SH := Lib.hid (fun w => refshape_any op w)
  rw [hs0] at HAS SH hneg
  clear hr hl hs h hreg himm h1 h2 h3 hs0
  generalize shapeOf op = sh at *
  go_enter Tryd.func76, Tryd.ntmps76
  go_wp2_with fail
  refine (SH.out _).mono ?_
  rintro e w' ⟨rfl, rfl⟩
  go_wp2_with fail
  refine (HAS.out _).mono ?_
  rintro e w' ⟨rfl, rfl⟩
  have T4 := Lib.hid ((Whole.made w 78 #[.int .i64 0, .int .i64 0, .int .i64 0, .int .i64 0, .int .i64 0] _ rfl).alloc (.cells #[.int .i64 op, .int .i64 0, .int .i64 0, .int .i64 0, .int .i64 0] 78))
  have T6 := Lib.hid (Whole.made (w.alloc (.cells #[.int .i64 0, .int .i64 0, .int .i64 0, .int .i64 0, .int .i64 0] 78)) 78 #[.int .i64 op, .int .i64 0, .int .i64 0, .int .i64 0, .int .i64 0] (w.heap.size + 1) (by simp))
  have B0 := Lib.hid (((Below.refl w.heap.size w).alloc (Nat.le_refl _) (.cells #[.int .i64 0, .int .i64 0, .int .i64 0, .int .i64 0, .int .i64 0] 78)).alloc (by simp) (.cells #[.int .i64 op, .int .i64 0, .int .i64 0, .int .i64 0, .int .i64 0] 78))
  have l4 := T4.out.lt
  have l6 := T6.out.lt
  generalize (w.alloc (.cells #[.int .i64 0, .int .i64 0, .int .i64 0, .int .i64 0, .int .i64 0] 78)).alloc (.cells #[.int .i64 op, .int .i64 0, .int .i64 0, .int .i64 0, .int .i64 0] 78) = V at *
  have n1 : w.heap.size ≤ w.heap.size + 1 := Nat.le_succ _
  have a46 : w.heap.size ≠ w.heap.size + 1 := Nat.ne_of_lt (Nat.lt_succ_self _)
  generalize w.heap.size + 1 = g6 at *
  have O0 := Lib.hid (ownsS_built 9 V [] #[] rfl 0 rfl (by decide) V.heap.size (Nat.le_refl _) _ rfl)
  have C0 := Lib.hid ((Below.refl V.heap.size V).alloc (Nat.le_refl _) (.cells #[] 9))
  have Q4 := Lib.hid T4.out
  have Q6 := Lib.hid T6.out
  have q0 : V.cell? ⟨w.heap.size, 0, none⟩ = some (.int .i64 0) := Q4.out.cell 0
  have q1 : V.cell? ⟨w.heap.size, 1, none⟩ = some (.int .i64 0) := Q4.out.cell 1
  have q2 : V.cell? ⟨w.heap.size, 2, none⟩ = some (.int .i64 0) := Q4.out.cell 2
  have q3 : V.cell? ⟨w.heap.size, 3, none⟩ = some (.int .i64 0) := Q4.out.cell 3
  have q4 : V.cell? ⟨w.heap.size, 4, none⟩ = some (.int .i64 0) := Q4.out.cell 4
  have r0 : V.cell? ⟨g6, 0, none⟩ = some (.int .i64 op) := Q6.out.cell 0
  have r1 : V.cell? ⟨g6, 1, none⟩ = some (.int .i64 0) := Q6.out.cell 1
  have r2 : V.cell? ⟨g6, 2, none⟩ = some (.int .i64 0) := Q6.out.cell 2
  have r3 : V.cell? ⟨g6, 3, none⟩ = some (.int .i64 0) := Q6.out.cell 3
  have r4 : V.cell? ⟨g6, 4, none⟩ = some (.int .i64 0) := Q6.out.cell 4
  have f4 : ∀ i, V.frozen? ⟨w.heap.size, i, none⟩ = false := Q4.out.free
  go_wp2_with fail
  have B_z := Lib.hid (B0.out.trans (C0.out.mono B0.out.size))
  refine bodyPost_ret (v := .tuple #[.agg #[.int .i64 op, .int .i64 0, .int .i64 0, .int .i64 0, .int .i64 0], .bool false]) ?_ rfl (fill_no NO.out ?_)
  · simp [results, Tryd.results76, go_sem, q0, q1, q2, q3, q4, l4]
  · repeat (first | exact B_z.out | refine Below.setCell ?_ (Nat.le_refl w.heap.size) _ | exact B0.out | refine Below.alloc ?_ (by simp; omega) _)

set_option maxHeartbeats 8000000 in
set_option maxRecDepth 100000 in
theorem reflen_01 (op : Int) (A : Option Addr) (n cp : Nat) (ss : List ByteArray) (w : World) (hs : ss.length = n) (hn : n ≤ 1000000) (h : shapeOf op ≠ -1) (hreg : regsOf (shapeOf op) = 0) (himm : 0 < bitsOf (shapeOf op)) (hl : ss.length ≠ fillCount op) :
    Calls Tryd.prog 76 #[.int .i64 op, .slice A n cp] w (FillPost op ss w) := by
  have hr := shapeOf_range op
  have hne : ((n : Int) != 1) = true := by
    unfold fillCount at hl
    rw [hreg, hs, if_pos himm] at hl
    simp at hl ⊢
    omega
  have NO := Lib.hid (fillOk_len hl)
  have hh : (decide (1 ≤ shapeOf op) && decide (shapeOf op ≤ 6)) = false ∧ (decide (3 ≤ shapeOf op) && decide (shapeOf op ≤ 5)) = false ∧ (shapeOf op == 5) = false := by
    unfold regsOf at hreg
    unfold bitsOf at himm
    generalize shapeOf op = s at *
    simp
    omega
  have hneg : decide (shapeOf op < 0) = false := by simp; omega
  have w0 : (shapeOf op != 0) = true := by unfold bitsOf at himm; simp; omega
  have w5 : (shapeOf op != 5) = true := by unfold bitsOf at himm; simp; omega
  have w6 : (shapeOf op != 6) = true := by unfold bitsOf at himm; simp; omega
  obtain ⟨h1, h2, h3⟩ := hh
  have HAS := Lib.hid (fun w => has_any (shapeOf op) w)
  rw [h1, h2, h3] at HAS
  have SH := Lib.hid (fun w => refshape_any op w)
  clear hr hl hs h hreg himm h1 h2 h3
  generalize shapeOf op = sh at *
  go_enter Tryd.func76, Tryd.ntmps76
  go_wp2_with fail
  refine (SH.out _).mono ?_
  rintro e w' ⟨rfl, rfl⟩
  go_wp2_with fail
  refine (HAS.out _).mono ?_
  rintro e w' ⟨rfl, rfl⟩
  have T4 := Lib.hid ((Whole.made w 78 #[.int .i64 0, .int .i64 0, .int .i64 0, .int .i64 0, .int .i64 0] _ rfl).alloc (.cells #[.int .i64 op, .int .i64 0, .int .i64 0, .int .i64 0, .int .i64 0] 78))
  have T6 := Lib.hid (Whole.made (w.alloc (.cells #[.int .i64 0, .int .i64 0, .int .i64 0, .int .i64 0, .int .i64 0] 78)) 78 #[.int .i64 op, .int .i64 0, .int .i64 0, .int .i64 0, .int .i64 0] (w.heap.size + 1) (by simp))
  have B0 := Lib.hid (((Below.refl w.heap.size w).alloc (Nat.le_refl _) (.cells #[.int .i64 0, .int .i64 0, .int .i64 0, .int .i64 0, .int .i64 0] 78)).alloc (by simp) (.cells #[.int .i64 op, .int .i64 0, .int .i64 0, .int .i64 0, .int .i64 0] 78))
  have l4 := T4.out.lt
  have l6 := T6.out.lt
  generalize (w.alloc (.cells #[.int .i64 0, .int .i64 0, .int .i64 0, .int .i64 0, .int .i64 0] 78)).alloc (.cells #[.int .i64 op, .int .i64 0, .int .i64 0, .int .i64 0, .int .i64 0] 78) = V at *
  have n1 : w.heap.size ≤ w.heap.size + 1 := Nat.le_succ _
  have a46 : w.heap.size ≠ w.heap.size + 1 := Nat.ne_of_lt (Nat.lt_succ_self _)
  generalize w.heap.size + 1 = g6 at *
  have O0 := Lib.hid (ownsS_built 9 V [] #[] rfl 0 rfl (by decide) V.heap.size (Nat.le_refl _) _ rfl)
  have C0 := Lib.hid ((Below.refl V.heap.size V).alloc (Nat.le_refl _) (.cells #[] 9))
  go_wp2_with (first | (at_builtin; refine wpList_append_strs _ rfl (.tmp 67) (.tmp 68) rfl rowStr V.heap.size (.slice (some ⟨V.heap.size, 0, none⟩) 0 0) (0) _ rfl (O0.out.alloc _) (some ⟨V.heap.size + 1, 0, none⟩) 1 1 [(⟨#[]⟩ : ByteArray)] rfl (strs_built 9 (V.alloc (.cells #[] 9)) [(⟨#[]⟩ : ByteArray)] _ rfl 1 rfl (by decide) _ (by simp)) (by omega) (Nat.le_trans C0.out.size (by simp)) ?_; intro v1 y1 ho1 hg1 _; have hb1 : Below V.heap.size (V.alloc (.cells #[] 9)) y1 := OwnsS.grown_below ((Below.refl _ _).alloc C0.out.size _) (O0.out.alloc _) hg1 (Nat.le_trans C0.out.size (by simp)); have C1 := Lib.hid (C0.out.trans hb1); have O1 := Lib.hid ho1; clear ho1 hg1 hb1; obtain ⟨gh, kh, hv1, hkh, hgl, hgc⟩ := O1.out.big (by omega); subst hv1; have Q4 := Lib.hid (T4.out.below C1.out l4); have Q6 := Lib.hid (T6.out.below C1.out l6); have q0 : y1.cell? ⟨w.heap.size, 0, none⟩ = some (.int .i64 0) := Q4.out.cell 0; have q1 : y1.cell? ⟨w.heap.size, 1, none⟩ = some (.int .i64 0) := Q4.out.cell 1; have q2 : y1.cell? ⟨w.heap.size, 2, none⟩ = some (.int .i64 0) := Q4.out.cell 2; have q3 : y1.cell? ⟨w.heap.size, 3, none⟩ = some (.int .i64 0) := Q4.out.cell 3; have q4 : y1.cell? ⟨w.heap.size, 4, none⟩ = some (.int .i64 0) := Q4.out.cell 4; have r0 : y1.cell? ⟨g6, 0, none⟩ = some (.int .i64 op) := Q6.out.cell 0; have r1 : y1.cell? ⟨g6, 1, none⟩ = some (.int .i64 0) := Q6.out.cell 1; have r2 : y1.cell? ⟨g6, 2, none⟩ = some (.int .i64 0) := Q6.out.cell 2; have r3 : y1.cell? ⟨g6, 3, none⟩ = some (.int .i64 0) := Q6.out.cell 3; have r4 : y1.cell? ⟨g6, 4, none⟩ = some (.int .i64 0) := Q6.out.cell 4; have f4 : ∀ i, y1.frozen? ⟨w.heap.size, i, none⟩ = false := Q4.out.free))
  have B_z := Lib.hid (B0.out.trans (C1.out.mono B0.out.size))
  refine bodyPost_ret (v := .tuple #[.agg #[.int .i64 op, .int .i64 0, .int .i64 0, .int .i64 0, .int .i64 0], .bool false]) ?_ rfl (fill_no NO.out ?_)
  · simp [results, Tryd.results76, go_sem, q0, q1, q2, q3, q4]
  · repeat (first | exact B_z.out | refine Below.setCell ?_ (Nat.le_refl w.heap.size) _)

set_option maxHeartbeats 8000000 in
set_option maxRecDepth 100000 in
theorem reflen_10 (op : Int) (A : Option Addr) (n cp : Nat) (ss : List ByteArray) (w : World) (hs : ss.length = n) (hn : n ≤ 1000000) (h : shapeOf op ≠ -1) (hreg : regsOf (shapeOf op) = 1) (himm : bitsOf (shapeOf op) = 0) (hl : ss.length ≠ fillCount op) :
    Calls Tryd.prog 76 #[.int .i64 op, .slice A n cp] w (FillPost op ss w) := by
  have hr := shapeOf_range op
  have hne : ((n : Int) != 1) = true := by
    unfold fillCount at hl
    rw [hreg, hs, himm] at hl
    simp at hl ⊢
    omega
  have NO := Lib.hid (fillOk_len hl)
  have hh : (decide (1 ≤ shapeOf op) && decide (shapeOf op ≤ 6)) = true ∧ (decide (3 ≤ shapeOf op) && decide (shapeOf op ≤ 5)) = false ∧ (shapeOf op == 5) = false := by
    unfold regsOf at hreg
    unfold bitsOf at himm
    generalize shapeOf op = s at *
    simp
    omega
  have hneg : decide (shapeOf op < 0) = false := by simp; omega
  have hs0 : shapeOf op = 6 := by unfold regsOf at hreg; unfold bitsOf at himm; omega
  obtain ⟨h1, h2, h3⟩ := hh
  have HAS := Lib.hid (fun w => has_any (shapeOf op) w)
  rw [h1, h2, h3] at HAS
  have SH := Lib.hid (fun w => refshape_any op w)
  rw [hs0] at HAS SH hneg
  clear hr hl hs h hreg himm h1 h2 h3 hs0
  generalize shapeOf op = sh at *
  go_enter Tryd.func76, Tryd.ntmps76
  go_wp2_with fail
  refine (SH.out _).mono ?_
  rintro e w' ⟨rfl, rfl⟩
  go_wp2_with fail
  refine (HAS.out _).mono ?_
  rintro e w' ⟨rfl, rfl⟩
  have T4 := Lib.hid ((Whole.made w 78 #[.int .i64 0, .int .i64 0, .int .i64 0, .int .i64 0, .int .i64 0] _ rfl).alloc (.cells #[.int .i64 op, .int .i64 0, .int .i64 0, .int .i64 0, .int .i64 0] 78))
  have T6 := Lib.hid (Whole.made (w.alloc (.cells #[.int .i64 0, .int .i64 0, .int .i64 0, .int .i64 0, .int .i64 0] 78)) 78 #[.int .i64 op, .int .i64 0, .int .i64 0, .int .i64 0, .int .i64 0] (w.heap.size + 1) (by simp))
  have B0 := Lib.hid (((Below.refl w.heap.size w).alloc (Nat.le_refl _) (.cells #[.int .i64 0, .int .i64 0, .int .i64 0, .int .i64 0, .int .i64 0] 78)).alloc (by simp) (.cells #[.int .i64 op, .int .i64 0, .int .i64 0, .int .i64 0, .int .i64 0] 78))
  have l4 := T4.out.lt
  have l6 := T6.out.lt
  generalize (w.alloc (.cells #[.int .i64 0, .int .i64 0, .int .i64 0, .int .i64 0, .int .i64 0] 78)).alloc (.cells #[.int .i64 op, .int .i64 0, .int .i64 0, .int .i64 0, .int .i64 0] 78) = V at *
  have n1 : w.heap.size ≤ w.heap.size + 1 := Nat.le_succ _
  have a46 : w.heap.size ≠ w.heap.size + 1 := Nat.ne_of_lt (Nat.lt_succ_self _)
  generalize w.heap.size + 1 = g6 at *
  have O0 := Lib.hid (ownsS_built 9 V [] #[] rfl 0 rfl (by decide) V.heap.size (Nat.le_refl _) _ rfl)
  have C0 := Lib.hid ((Below.refl V.heap.size V).alloc (Nat.le_refl _) (.cells #[] 9))
  go_wp2_with (first | (at_builtin; refine wpList_append_strs _ rfl (.tmp 33) (.tmp 34) rfl rowStr V.heap.size (.slice (some ⟨V.heap.size, 0, none⟩) 0 0) (0) _ rfl (O0.out.alloc _) (some ⟨V.heap.size + 1, 0, none⟩) 1 1 [(⟨#[114]⟩ : ByteArray)] rfl (strs_built 9 (V.alloc (.cells #[] 9)) [(⟨#[114]⟩ : ByteArray)] _ rfl 1 rfl (by decide) _ (by simp)) (by omega) (Nat.le_trans C0.out.size (by simp)) ?_; intro v1 y1 ho1 hg1 _; have hb1 : Below V.heap.size (V.alloc (.cells #[] 9)) y1 := OwnsS.grown_below ((Below.refl _ _).alloc C0.out.size _) (O0.out.alloc _) hg1 (Nat.le_trans C0.out.size (by simp)); have C1 := Lib.hid (C0.out.trans hb1); have O1 := Lib.hid ho1; clear ho1 hg1 hb1; obtain ⟨gh, kh, hv1, hkh, hgl, hgc⟩ := O1.out.big (by omega); subst hv1; have Q4 := Lib.hid (T4.out.below C1.out l4); have Q6 := Lib.hid (T6.out.below C1.out l6); have q0 : y1.cell? ⟨w.heap.size, 0, none⟩ = some (.int .i64 0) := Q4.out.cell 0; have q1 : y1.cell? ⟨w.heap.size, 1, none⟩ = some (.int .i64 0) := Q4.out.cell 1; have q2 : y1.cell? ⟨w.heap.size, 2, none⟩ = some (.int .i64 0) := Q4.out.cell 2; have q3 : y1.cell? ⟨w.heap.size, 3, none⟩ = some (.int .i64 0) := Q4.out.cell 3; have q4 : y1.cell? ⟨w.heap.size, 4, none⟩ = some (.int .i64 0) := Q4.out.cell 4; have r0 : y1.cell? ⟨g6, 0, none⟩ = some (.int .i64 op) := Q6.out.cell 0; have r1 : y1.cell? ⟨g6, 1, none⟩ = some (.int .i64 0) := Q6.out.cell 1; have r2 : y1.cell? ⟨g6, 2, none⟩ = some (.int .i64 0) := Q6.out.cell 2; have r3 : y1.cell? ⟨g6, 3, none⟩ = some (.int .i64 0) := Q6.out.cell 3; have r4 : y1.cell? ⟨g6, 4, none⟩ = some (.int .i64 0) := Q6.out.cell 4; have f4 : ∀ i, y1.frozen? ⟨w.heap.size, i, none⟩ = false := Q4.out.free))
  have B_z := Lib.hid (B0.out.trans (C1.out.mono B0.out.size))
  refine bodyPost_ret (v := .tuple #[.agg #[.int .i64 op, .int .i64 0, .int .i64 0, .int .i64 0, .int .i64 0], .bool false]) ?_ rfl (fill_no NO.out ?_)
  · simp [results, Tryd.results76, go_sem, q0, q1, q2, q3, q4]
  · repeat (first | exact B_z.out | refine Below.setCell ?_ (Nat.le_refl w.heap.size) _)

set_option maxHeartbeats 8000000 in
set_option maxRecDepth 100000 in
theorem reflen_11 (op : Int) (A : Option Addr) (n cp : Nat) (ss : List ByteArray) (w : World) (hs : ss.length = n) (hn : n ≤ 1000000) (h : shapeOf op ≠ -1) (hreg : regsOf (shapeOf op) = 1) (himm : 0 < bitsOf (shapeOf op)) (hl : ss.length ≠ fillCount op) :
    Calls Tryd.prog 76 #[.int .i64 op, .slice A n cp] w (FillPost op ss w) := by
  have hr := shapeOf_range op
  have hne : ((n : Int) != 2) = true := by
    unfold fillCount at hl
    rw [hreg, hs, if_pos himm] at hl
    simp at hl ⊢
    omega
  have NO := Lib.hid (fillOk_len hl)
  have hh : (decide (1 ≤ shapeOf op) && decide (shapeOf op ≤ 6)) = true ∧ (decide (3 ≤ shapeOf op) && decide (shapeOf op ≤ 5)) = false ∧ (shapeOf op == 5) = false := by
    unfold regsOf at hreg
    unfold bitsOf at himm
    generalize shapeOf op = s at *
    simp
    omega
  have hneg : decide (shapeOf op < 0) = false := by simp; omega
  have w0 : (shapeOf op != 0) = true := by unfold bitsOf at himm; simp; omega
  have w5 : (shapeOf op != 5) = true := by unfold bitsOf at himm; simp; omega
  have w6 : (shapeOf op != 6) = true := by unfold bitsOf at himm; simp; omega
  obtain ⟨h1, h2, h3⟩ := hh
  have HAS := Lib.hid (fun w => has_any (shapeOf op) w)
  rw [h1, h2, h3] at HAS
  have SH := Lib.hid (fun w => refshape_any op w)
  clear hr hl hs h hreg himm h1 h2 h3
  generalize shapeOf op = sh at *
  go_enter Tryd.func76, Tryd.ntmps76
  go_wp2_with fail
  refine (SH.out _).mono ?_
  rintro e w' ⟨rfl, rfl⟩
  go_wp2_with fail
  refine (HAS.out _).mono ?_
  rintro e w' ⟨rfl, rfl⟩
  have T4 := Lib.hid ((Whole.made w 78 #[.int .i64 0, .int .i64 0, .int .i64 0, .int .i64 0, .int .i64 0] _ rfl).alloc (.cells #[.int .i64 op, .int .i64 0, .int .i64 0, .int .i64 0, .int .i64 0] 78))
  have T6 := Lib.hid (Whole.made (w.alloc (.cells #[.int .i64 0, .int .i64 0, .int .i64 0, .int .i64 0, .int .i64 0] 78)) 78 #[.int .i64 op, .int .i64 0, .int .i64 0, .int .i64 0, .int .i64 0] (w.heap.size + 1) (by simp))
  have B0 := Lib.hid (((Below.refl w.heap.size w).alloc (Nat.le_refl _) (.cells #[.int .i64 0, .int .i64 0, .int .i64 0, .int .i64 0, .int .i64 0] 78)).alloc (by simp) (.cells #[.int .i64 op, .int .i64 0, .int .i64 0, .int .i64 0, .int .i64 0] 78))
  have l4 := T4.out.lt
  have l6 := T6.out.lt
  generalize (w.alloc (.cells #[.int .i64 0, .int .i64 0, .int .i64 0, .int .i64 0, .int .i64 0] 78)).alloc (.cells #[.int .i64 op, .int .i64 0, .int .i64 0, .int .i64 0, .int .i64 0] 78) = V at *
  have n1 : w.heap.size ≤ w.heap.size + 1 := Nat.le_succ _
  have a46 : w.heap.size ≠ w.heap.size + 1 := Nat.ne_of_lt (Nat.lt_succ_self _)
  generalize w.heap.size + 1 = g6 at *
  have O0 := Lib.hid (ownsS_built 9 V [] #[] rfl 0 rfl (by decide) V.heap.size (Nat.le_refl _) _ rfl)
  have C0 := Lib.hid ((Below.refl V.heap.size V).alloc (Nat.le_refl _) (.cells #[] 9))
  go_wp2_with (first | (at_builtin; refine wpList_append_strs _ rfl (.tmp 33) (.tmp 34) rfl rowStr V.heap.size (.slice (some ⟨V.heap.size, 0, none⟩) 0 0) (0) _ rfl (O0.out.alloc _) (some ⟨V.heap.size + 1, 0, none⟩) 1 1 [(⟨#[114]⟩ : ByteArray)] rfl (strs_built 9 (V.alloc (.cells #[] 9)) [(⟨#[114]⟩ : ByteArray)] _ rfl 1 rfl (by decide) _ (by simp)) (by omega) (Nat.le_trans C0.out.size (by simp)) ?_; intro v1 y1 ho1 hg1 _; have hb1 : Below V.heap.size (V.alloc (.cells #[] 9)) y1 := OwnsS.grown_below ((Below.refl _ _).alloc C0.out.size _) (O0.out.alloc _) hg1 (Nat.le_trans C0.out.size (by simp)); have C1 := Lib.hid (C0.out.trans hb1); have O1 := Lib.hid ho1; clear ho1 hg1 hb1) | (at_builtin; refine wpList_append_strs _ rfl (.tmp 67) (.tmp 68) rfl rowStr V.heap.size v1 (0 + 1) _ rfl (O1.out.alloc _) (some ⟨y1.heap.size, 0, none⟩) 1 1 [(⟨#[]⟩ : ByteArray)] rfl (strs_built 9 y1 [(⟨#[]⟩ : ByteArray)] _ rfl 1 rfl (by decide) _ (by simp)) (by omega) (Nat.le_trans C1.out.size (by simp)) ?_; intro v2 y2 ho2 hg2 _; have hb2 : Below V.heap.size y1 y2 := OwnsS.grown_below ((Below.refl _ _).alloc C1.out.size _) (O1.out.alloc _) hg2 (Nat.le_trans C1.out.size (by simp)); have C2 := Lib.hid (C1.out.trans hb2); have O2 := Lib.hid ho2; clear ho2 hg2 hb2; obtain ⟨gh, kh, hv2, hkh, hgl, hgc⟩ := O2.out.big (by omega); subst hv2; have Q4 := Lib.hid (T4.out.below C2.out l4); have Q6 := Lib.hid (T6.out.below C2.out l6); have q0 : y2.cell? ⟨w.heap.size, 0, none⟩ = some (.int .i64 0) := Q4.out.cell 0; have q1 : y2.cell? ⟨w.heap.size, 1, none⟩ = some (.int .i64 0) := Q4.out.cell 1; have q2 : y2.cell? ⟨w.heap.size, 2, none⟩ = some (.int .i64 0) := Q4.out.cell 2; have q3 : y2.cell? ⟨w.heap.size, 3, none⟩ = some (.int .i64 0) := Q4.out.cell 3; have q4 : y2.cell? ⟨w.heap.size, 4, none⟩ = some (.int .i64 0) := Q4.out.cell 4; have r0 : y2.cell? ⟨g6, 0, none⟩ = some (.int .i64 op) := Q6.out.cell 0; have r1 : y2.cell? ⟨g6, 1, none⟩ = some (.int .i64 0) := Q6.out.cell 1; have r2 : y2.cell? ⟨g6, 2, none⟩ = some (.int .i64 0) := Q6.out.cell 2; have r3 : y2.cell? ⟨g6, 3, none⟩ = some (.int .i64 0) := Q6.out.cell 3; have r4 : y2.cell? ⟨g6, 4, none⟩ = some (.int .i64 0) := Q6.out.cell 4; have f4 : ∀ i, y2.frozen? ⟨w.heap.size, i, none⟩ = false := Q4.out.free))
  have B_z := Lib.hid (B0.out.trans (C2.out.mono B0.out.size))
  refine bodyPost_ret (v := .tuple #[.agg #[.int .i64 op, .int .i64 0, .int .i64 0, .int .i64 0, .int .i64 0], .bool false]) ?_ rfl (fill_no NO.out ?_)
  · simp [results, Tryd.results76, go_sem, q0, q1, q2, q3, q4]
  · repeat (first | exact B_z.out | refine Below.setCell ?_ (Nat.le_refl w.heap.size) _)

set_option maxHeartbeats 8000000 in
set_option maxRecDepth 100000 in
theorem reflen_21 (op : Int) (A : Option Addr) (n cp : Nat) (ss : List ByteArray) (w : World) (hs : ss.length = n) (hn : n ≤ 1000000) (h : shapeOf op ≠ -1) (hreg : regsOf (shapeOf op) = 2) (himm : 0 < bitsOf (shapeOf op)) (hl : ss.length ≠ fillCount op) (hk : op ≠ 26) :
    Calls Tryd.prog 76 #[.int .i64 op, .slice A n cp] w (FillPost op ss w) := by
  have hr := shapeOf_range op
  have hne : ((n : Int) != 3) = true := by
    unfold fillCount at hl
    rw [hreg, hs, if_pos himm] at hl
    simp at hl ⊢
    omega
  have NO := Lib.hid (fillOk_len hl)
  have hh : (decide (1 ≤ shapeOf op) && decide (shapeOf op ≤ 6)) = true ∧ (decide (3 ≤ shapeOf op) && decide (shapeOf op ≤ 5)) = true ∧ (shapeOf op == 5) = false := by
    unfold regsOf at hreg
    unfold bitsOf at himm
    generalize shapeOf op = s at *
    simp
    omega
  have hneg : decide (shapeOf op < 0) = false := by simp; omega
  have w0 : (shapeOf op != 0) = true := by unfold bitsOf at himm; simp; omega
  have w5 : (shapeOf op != 5) = true := by unfold bitsOf at himm; simp; omega
  have w6 : (shapeOf op != 6) = true := by unfold bitsOf at himm; simp; omega
  have hkb : (op == 26) = false := by simpa using hk
  have hkn : (op != 26) = true := by simpa using hk
  obtain ⟨h1, h2, h3⟩ := hh
  have HAS := Lib.hid (fun w => has_any (shapeOf op) w)
  rw [h1, h2, h3] at HAS
  have SH := Lib.hid (fun w => refshape_any op w)
  clear hr hl hs h hreg himm h1 h2 h3 hk
  generalize shapeOf op = sh at *
  go_enter Tryd.func76, Tryd.ntmps76
  go_wp2_with fail
  refine (SH.out _).mono ?_
  rintro e w' ⟨rfl, rfl⟩
  go_wp2_with fail
  refine (HAS.out _).mono ?_
  rintro e w' ⟨rfl, rfl⟩
  have T4 := Lib.hid ((Whole.made w 78 #[.int .i64 0, .int .i64 0, .int .i64 0, .int .i64 0, .int .i64 0] _ rfl).alloc (.cells #[.int .i64 op, .int .i64 0, .int .i64 0, .int .i64 0, .int .i64 0] 78))
  have T6 := Lib.hid (Whole.made (w.alloc (.cells #[.int .i64 0, .int .i64 0, .int .i64 0, .int .i64 0, .int .i64 0] 78)) 78 #[.int .i64 op, .int .i64 0, .int .i64 0, .int .i64 0, .int .i64 0] (w.heap.size + 1) (by simp))
  have B0 := Lib.hid (((Below.refl w.heap.size w).alloc (Nat.le_refl _) (.cells #[.int .i64 0, .int .i64 0, .int .i64 0, .int .i64 0, .int .i64 0] 78)).alloc (by simp) (.cells #[.int .i64 op, .int .i64 0, .int .i64 0, .int .i64 0, .int .i64 0] 78))
  have l4 := T4.out.lt
  have l6 := T6.out.lt
  generalize (w.alloc (.cells #[.int .i64 0, .int .i64 0, .int .i64 0, .int .i64 0, .int .i64 0] 78)).alloc (.cells #[.int .i64 op, .int .i64 0, .int .i64 0, .int .i64 0, .int .i64 0] 78) = V at *
  have n1 : w.heap.size ≤ w.heap.size + 1 := Nat.le_succ _
  have a46 : w.heap.size ≠ w.heap.size + 1 := Nat.ne_of_lt (Nat.lt_succ_self _)
  generalize w.heap.size + 1 = g6 at *
  have O0 := Lib.hid (ownsS_built 9 V [] #[] rfl 0 rfl (by decide) V.heap.size (Nat.le_refl _) _ rfl)
  have C0 := Lib.hid ((Below.refl V.heap.size V).alloc (Nat.le_refl _) (.cells #[] 9))
  go_wp2_with (first | (at_builtin; refine wpList_append_strs _ rfl (.tmp 33) (.tmp 34) rfl rowStr V.heap.size (.slice (some ⟨V.heap.size, 0, none⟩) 0 0) (0) _ rfl (O0.out.alloc _) (some ⟨V.heap.size + 1, 0, none⟩) 1 1 [(⟨#[114]⟩ : ByteArray)] rfl (strs_built 9 (V.alloc (.cells #[] 9)) [(⟨#[114]⟩ : ByteArray)] _ rfl 1 rfl (by decide) _ (by simp)) (by omega) (Nat.le_trans C0.out.size (by simp)) ?_; intro v1 y1 ho1 hg1 _; have hb1 : Below V.heap.size (V.alloc (.cells #[] 9)) y1 := OwnsS.grown_below ((Below.refl _ _).alloc C0.out.size _) (O0.out.alloc _) hg1 (Nat.le_trans C0.out.size (by simp)); have C1 := Lib.hid (C0.out.trans hb1); have O1 := Lib.hid ho1; clear ho1 hg1 hb1) | (at_builtin; refine wpList_append_strs _ rfl (.tmp 49) (.tmp 50) rfl rowStr V.heap.size v1 (0 + 1) _ rfl (O1.out.alloc _) (some ⟨y1.heap.size, 0, none⟩) 1 1 [(⟨#[114]⟩ : ByteArray)] rfl (strs_built 9 y1 [(⟨#[114]⟩ : ByteArray)] _ rfl 1 rfl (by decide) _ (by simp)) (by omega) (Nat.le_trans C1.out.size (by simp)) ?_; intro v2 y2 ho2 hg2 _; have hb2 : Below V.heap.size y1 y2 := OwnsS.grown_below ((Below.refl _ _).alloc C1.out.size _) (O1.out.alloc _) hg2 (Nat.le_trans C1.out.size (by simp)); have C2 := Lib.hid (C1.out.trans hb2); have O2 := Lib.hid ho2; clear ho2 hg2 hb2) | (at_builtin; refine wpList_append_strs _ rfl (.tmp 67) (.tmp 68) rfl rowStr V.heap.size v2 (0 + 1 + 1) _ rfl (O2.out.alloc _) (some ⟨y2.heap.size, 0, none⟩) 1 1 [(⟨#[]⟩ : ByteArray)] rfl (strs_built 9 y2 [(⟨#[]⟩ : ByteArray)] _ rfl 1 rfl (by decide) _ (by simp)) (by omega) (Nat.le_trans C2.out.size (by simp)) ?_; intro v3 y3 ho3 hg3 _; have hb3 : Below V.heap.size y2 y3 := OwnsS.grown_below ((Below.refl _ _).alloc C2.out.size _) (O2.out.alloc _) hg3 (Nat.le_trans C2.out.size (by simp)); have C3 := Lib.hid (C2.out.trans hb3); have O3 := Lib.hid ho3; clear ho3 hg3 hb3; obtain ⟨gh, kh, hv3, hkh, hgl, hgc⟩ := O3.out.big (by omega); subst hv3; have Q4 := Lib.hid (T4.out.below C3.out l4); have Q6 := Lib.hid (T6.out.below C3.out l6); have q0 : y3.cell? ⟨w.heap.size, 0, none⟩ = some (.int .i64 0) := Q4.out.cell 0; have q1 : y3.cell? ⟨w.heap.size, 1, none⟩ = some (.int .i64 0) := Q4.out.cell 1; have q2 : y3.cell? ⟨w.heap.size, 2, none⟩ = some (.int .i64 0) := Q4.out.cell 2; have q3 : y3.cell? ⟨w.heap.size, 3, none⟩ = some (.int .i64 0) := Q4.out.cell 3; have q4 : y3.cell? ⟨w.heap.size, 4, none⟩ = some (.int .i64 0) := Q4.out.cell 4; have r0 : y3.cell? ⟨g6, 0, none⟩ = some (.int .i64 op) := Q6.out.cell 0; have r1 : y3.cell? ⟨g6, 1, none⟩ = some (.int .i64 0) := Q6.out.cell 1; have r2 : y3.cell? ⟨g6, 2, none⟩ = some (.int .i64 0) := Q6.out.cell 2; have r3 : y3.cell? ⟨g6, 3, none⟩ = some (.int .i64 0) := Q6.out.cell 3; have r4 : y3.cell? ⟨g6, 4, none⟩ = some (.int .i64 0) := Q6.out.cell 4; have f4 : ∀ i, y3.frozen? ⟨w.heap.size, i, none⟩ = false := Q4.out.free))
  have B_z := Lib.hid (B0.out.trans (C3.out.mono B0.out.size))
  refine bodyPost_ret (v := .tuple #[.agg #[.int .i64 op, .int .i64 0, .int .i64 0, .int .i64 0, .int .i64 0], .bool false]) ?_ rfl (fill_no NO.out ?_)
  · simp [results, Tryd.results76, go_sem, q0, q1, q2, q3, q4]
  · repeat (first | exact B_z.out | refine Below.setCell ?_ (Nat.le_refl w.heap.size) _)

set_option maxHeartbeats 8000000 in
set_option maxRecDepth 100000 in
theorem reflen_21c (op : Int) (A : Option Addr) (n cp : Nat) (ss : List ByteArray) (w : World) (hs : ss.length = n) (hn : n ≤ 1000000) (h : shapeOf op ≠ -1) (hreg : regsOf (shapeOf op) = 2) (himm : 0 < bitsOf (shapeOf op)) (hl : ss.length ≠ fillCount op) (hk : op = 26) :
    Calls Tryd.prog 76 #[.int .i64 op, .slice A n cp] w (FillPost op ss w) := by
  have hr := shapeOf_range op
  have hne : ((n : Int) != 3) = true := by
    unfold fillCount at hl
    rw [hreg, hs, if_pos himm] at hl
    simp at hl ⊢
    omega
  have NO := Lib.hid (fillOk_len hl)
  have hh : (decide (1 ≤ shapeOf op) && decide (shapeOf op ≤ 6)) = true ∧ (decide (3 ≤ shapeOf op) && decide (shapeOf op ≤ 5)) = true ∧ (shapeOf op == 5) = false := by
    unfold regsOf at hreg
    unfold bitsOf at himm
    generalize shapeOf op = s at *
    simp
    omega
  have hneg : decide (shapeOf op < 0) = false := by simp; omega
  have w0 : (shapeOf op != 0) = true := by unfold bitsOf at himm; simp; omega
  have w5 : (shapeOf op != 5) = true := by unfold bitsOf at himm; simp; omega
  have w6 : (shapeOf op != 6) = true := by unfold bitsOf at himm; simp; omega
  have hkb : (op == 26) = true := by simpa using hk
  have hkn : (op != 26) = false := by simpa using hk
  obtain ⟨h1, h2, h3⟩ := hh
  have HAS := Lib.hid (fun w => has_any (shapeOf op) w)
  rw [h1, h2, h3] at HAS
  have SH := Lib.hid (fun w => refshape_any op w)
  clear hr hl hs h hreg himm h1 h2 h3 hk
  generalize shapeOf op = sh at *
  go_enter Tryd.func76, Tryd.ntmps76
  go_wp2_with fail
  refine (SH.out _).mono ?_
  rintro e w' ⟨rfl, rfl⟩
  go_wp2_with fail
  refine (HAS.out _).mono ?_
  rintro e w' ⟨rfl, rfl⟩
  have T4 := Lib.hid ((Whole.made w 78 #[.int .i64 0, .int .i64 0, .int .i64 0, .int .i64 0, .int .i64 0] _ rfl).alloc (.cells #[.int .i64 op, .int .i64 0, .int .i64 0, .int .i64 0, .int .i64 0] 78))
  have T6 := Lib.hid (Whole.made (w.alloc (.cells #[.int .i64 0, .int .i64 0, .int .i64 0, .int .i64 0, .int .i64 0] 78)) 78 #[.int .i64 op, .int .i64 0, .int .i64 0, .int .i64 0, .int .i64 0] (w.heap.size + 1) (by simp))
  have B0 := Lib.hid (((Below.refl w.heap.size w).alloc (Nat.le_refl _) (.cells #[.int .i64 0, .int .i64 0, .int .i64 0, .int .i64 0, .int .i64 0] 78)).alloc (by simp) (.cells #[.int .i64 op, .int .i64 0, .int .i64 0, .int .i64 0, .int .i64 0] 78))
  have l4 := T4.out.lt
  have l6 := T6.out.lt
  generalize (w.alloc (.cells #[.int .i64 0, .int .i64 0, .int .i64 0, .int .i64 0, .int .i64 0] 78)).alloc (.cells #[.int .i64 op, .int .i64 0, .int .i64 0, .int .i64 0, .int .i64 0] 78) = V at *
  have n1 : w.heap.size ≤ w.heap.size + 1 := Nat.le_succ _
  have a46 : w.heap.size ≠ w.heap.size + 1 := Nat.ne_of_lt (Nat.lt_succ_self _)
  generalize w.heap.size + 1 = g6 at *
  have O0 := Lib.hid (ownsS_built 9 V [] #[] rfl 0 rfl (by decide) V.heap.size (Nat.le_refl _) _ rfl)
  have C0 := Lib.hid ((Below.refl V.heap.size V).alloc (Nat.le_refl _) (.cells #[] 9))
  go_wp2_with (first | (at_builtin; refine wpList_append_strs _ rfl (.tmp 33) (.tmp 34) rfl rowStr V.heap.size (.slice (some ⟨V.heap.size, 0, none⟩) 0 0) (0) _ rfl (O0.out.alloc _) (some ⟨V.heap.size + 1, 0, none⟩) 1 1 [(⟨#[114]⟩ : ByteArray)] rfl (strs_built 9 (V.alloc (.cells #[] 9)) [(⟨#[114]⟩ : ByteArray)] _ rfl 1 rfl (by decide) _ (by simp)) (by omega) (Nat.le_trans C0.out.size (by simp)) ?_; intro v1 y1 ho1 hg1 _; have hb1 : Below V.heap.size (V.alloc (.cells #[] 9)) y1 := OwnsS.grown_below ((Below.refl _ _).alloc C0.out.size _) (O0.out.alloc _) hg1 (Nat.le_trans C0.out.size (by simp)); have C1 := Lib.hid (C0.out.trans hb1); have O1 := Lib.hid ho1; clear ho1 hg1 hb1) | (at_builtin; refine wpList_append_strs _ rfl (.tmp 41) (.tmp 42) rfl rowStr V.heap.size v1 (0 + 1) _ rfl (O1.out.alloc _) (some ⟨y1.heap.size, 0, none⟩) 1 1 [(⟨#[]⟩ : ByteArray)] rfl (strs_built 9 y1 [(⟨#[]⟩ : ByteArray)] _ rfl 1 rfl (by decide) _ (by simp)) (by omega) (Nat.le_trans C1.out.size (by simp)) ?_; intro v2 y2 ho2 hg2 _; have hb2 : Below V.heap.size y1 y2 := OwnsS.grown_below ((Below.refl _ _).alloc C1.out.size _) (O1.out.alloc _) hg2 (Nat.le_trans C1.out.size (by simp)); have C2 := Lib.hid (C1.out.trans hb2); have O2 := Lib.hid ho2; clear ho2 hg2 hb2) | (at_builtin; refine wpList_append_strs _ rfl (.tmp 67) (.tmp 68) rfl rowStr V.heap.size v2 (0 + 1 + 1) _ rfl (O2.out.alloc _) (some ⟨y2.heap.size, 0, none⟩) 1 1 [(⟨#[]⟩ : ByteArray)] rfl (strs_built 9 y2 [(⟨#[]⟩ : ByteArray)] _ rfl 1 rfl (by decide) _ (by simp)) (by omega) (Nat.le_trans C2.out.size (by simp)) ?_; intro v3 y3 ho3 hg3 _; have hb3 : Below V.heap.size y2 y3 := OwnsS.grown_below ((Below.refl _ _).alloc C2.out.size _) (O2.out.alloc _) hg3 (Nat.le_trans C2.out.size (by simp)); have C3 := Lib.hid (C2.out.trans hb3); have O3 := Lib.hid ho3; clear ho3 hg3 hb3; obtain ⟨gh, kh, hv3, hkh, hgl, hgc⟩ := O3.out.big (by omega); subst hv3; have Q4 := Lib.hid (T4.out.below C3.out l4); have Q6 := Lib.hid (T6.out.below C3.out l6); have q0 : y3.cell? ⟨w.heap.size, 0, none⟩ = some (.int .i64 0) := Q4.out.cell 0; have q1 : y3.cell? ⟨w.heap.size, 1, none⟩ = some (.int .i64 0) := Q4.out.cell 1; have q2 : y3.cell? ⟨w.heap.size, 2, none⟩ = some (.int .i64 0) := Q4.out.cell 2; have q3 : y3.cell? ⟨w.heap.size, 3, none⟩ = some (.int .i64 0) := Q4.out.cell 3; have q4 : y3.cell? ⟨w.heap.size, 4, none⟩ = some (.int .i64 0) := Q4.out.cell 4; have r0 : y3.cell? ⟨g6, 0, none⟩ = some (.int .i64 op) := Q6.out.cell 0; have r1 : y3.cell? ⟨g6, 1, none⟩ = some (.int .i64 0) := Q6.out.cell 1; have r2 : y3.cell? ⟨g6, 2, none⟩ = some (.int .i64 0) := Q6.out.cell 2; have r3 : y3.cell? ⟨g6, 3, none⟩ = some (.int .i64 0) := Q6.out.cell 3; have r4 : y3.cell? ⟨g6, 4, none⟩ = some (.int .i64 0) := Q6.out.cell 4; have f4 : ∀ i, y3.frozen? ⟨w.heap.size, i, none⟩ = false := Q4.out.free))
  have B_z := Lib.hid (B0.out.trans (C3.out.mono B0.out.size))
  refine bodyPost_ret (v := .tuple #[.agg #[.int .i64 op, .int .i64 0, .int .i64 0, .int .i64 0, .int .i64 0], .bool false]) ?_ rfl (fill_no NO.out ?_)
  · simp [results, Tryd.results76, go_sem, q0, q1, q2, q3, q4]
  · repeat (first | exact B_z.out | refine Below.setCell ?_ (Nat.le_refl w.heap.size) _)

set_option maxHeartbeats 8000000 in
set_option maxRecDepth 100000 in
theorem reflen_30 (op : Int) (A : Option Addr) (n cp : Nat) (ss : List ByteArray) (w : World) (hs : ss.length = n) (hn : n ≤ 1000000) (h : shapeOf op ≠ -1) (hreg : regsOf (shapeOf op) = 3) (himm : bitsOf (shapeOf op) = 0) (hl : ss.length ≠ fillCount op) :
    Calls Tryd.prog 76 #[.int .i64 op, .slice A n cp] w (FillPost op ss w) := by
  have hr := shapeOf_range op
  have hne : ((n : Int) != 3) = true := by
    unfold fillCount at hl
    rw [hreg, hs, himm] at hl
    simp at hl ⊢
    omega
  have NO := Lib.hid (fillOk_len hl)
  have hk : op ≠ 26 := by
    intro e
    rw [e] at hreg
    exact absurd hreg (by decide)
  have hh : (decide (1 ≤ shapeOf op) && decide (shapeOf op ≤ 6)) = true ∧ (decide (3 ≤ shapeOf op) && decide (shapeOf op ≤ 5)) = true ∧ (shapeOf op == 5) = true := by
    unfold regsOf at hreg
    unfold bitsOf at himm
    generalize shapeOf op = s at *
    simp
    omega
  have hneg : decide (shapeOf op < 0) = false := by simp; omega
  have hs0 : shapeOf op = 5 := by unfold regsOf at hreg; unfold bitsOf at himm; omega
  have hkb : (op == 26) = false := by simpa using hk
  have hkn : (op != 26) = true := by simpa using hk
  obtain ⟨h1, h2, h3⟩ := hh
  have HAS := Lib.hid (fun w => has_any (shapeOf op) w)
  rw [h1, h2, h3] at HAS
  have SH := Lib.hid (fun w => refshape_any op w)
  rw [hs0] at HAS SH hneg
  clear hr hl hs h hreg himm h1 h2 h3 hk hs0
  generalize shapeOf op = sh at *
  go_enter Tryd.func76, Tryd.ntmps76
  go_wp2_with fail
  refine (SH.out _).mono ?_
  rintro e w' ⟨rfl, rfl⟩
  go_wp2_with fail
  refine (HAS.out _).mono ?_
  rintro e w' ⟨rfl, rfl⟩
  have T4 := Lib.hid ((Whole.made w 78 #[.int .i64 0, .int .i64 0, .int .i64 0, .int .i64 0, .int .i64 0] _ rfl).alloc (.cells #[.int .i64 op, .int .i64 0, .int .i64 0, .int .i64 0, .int .i64 0] 78))
  have T6 := Lib.hid (Whole.made (w.alloc (.cells #[.int .i64 0, .int .i64 0, .int .i64 0, .int .i64 0, .int .i64 0] 78)) 78 #[.int .i64 op, .int .i64 0, .int .i64 0, .int .i64 0, .int .i64 0] (w.heap.size + 1) (by simp))
  have B0 := Lib.hid (((Below.refl w.heap.size w).alloc (Nat.le_refl _) (.cells #[.int .i64 0, .int .i64 0, .int .i64 0, .int .i64 0, .int .i64 0] 78)).alloc (by simp) (.cells #[.int .i64 op, .int .i64 0, .int .i64 0, .int .i64 0, .int .i64 0] 78))
  have l4 := T4.out.lt
  have l6 := T6.out.lt
  generalize (w.alloc (.cells #[.int .i64 0, .int .i64 0, .int .i64 0, .int .i64 0, .int .i64 0] 78)).alloc (.cells #[.int .i64 op, .int .i64 0, .int .i64 0, .int .i64 0, .int .i64 0] 78) = V at *
  have n1 : w.heap.size ≤ w.heap.size + 1 := Nat.le_succ _
  have a46 : w.heap.size ≠ w.heap.size + 1 := Nat.ne_of_lt (Nat.lt_succ_self _)
  generalize w.heap.size + 1 = g6 at *
  have O0 := Lib.hid (ownsS_built 9 V [] #[] rfl 0 rfl (by decide) V.heap.size (Nat.le_refl _) _ rfl)
  have C0 := Lib.hid ((Below.refl V.heap.size V).alloc (Nat.le_refl _) (.cells #[] 9))
  go_wp2_with (first | (at_builtin; refine wpList_append_strs _ rfl (.tmp 33) (.tmp 34) rfl rowStr V.heap.size (.slice (some ⟨V.heap.size, 0, none⟩) 0 0) (0) _ rfl (O0.out.alloc _) (some ⟨V.heap.size + 1, 0, none⟩) 1 1 [(⟨#[114]⟩ : ByteArray)] rfl (strs_built 9 (V.alloc (.cells #[] 9)) [(⟨#[114]⟩ : ByteArray)] _ rfl 1 rfl (by decide) _ (by simp)) (by omega) (Nat.le_trans C0.out.size (by simp)) ?_; intro v1 y1 ho1 hg1 _; have hb1 : Below V.heap.size (V.alloc (.cells #[] 9)) y1 := OwnsS.grown_below ((Below.refl _ _).alloc C0.out.size _) (O0.out.alloc _) hg1 (Nat.le_trans C0.out.size (by simp)); have C1 := Lib.hid (C0.out.trans hb1); have O1 := Lib.hid ho1; clear ho1 hg1 hb1) | (at_builtin; refine wpList_append_strs _ rfl (.tmp 49) (.tmp 50) rfl rowStr V.heap.size v1 (0 + 1) _ rfl (O1.out.alloc _) (some ⟨y1.heap.size, 0, none⟩) 1 1 [(⟨#[114]⟩ : ByteArray)] rfl (strs_built 9 y1 [(⟨#[114]⟩ : ByteArray)] _ rfl 1 rfl (by decide) _ (by simp)) (by omega) (Nat.le_trans C1.out.size (by simp)) ?_; intro v2 y2 ho2 hg2 _; have hb2 : Below V.heap.size y1 y2 := OwnsS.grown_below ((Below.refl _ _).alloc C1.out.size _) (O1.out.alloc _) hg2 (Nat.le_trans C1.out.size (by simp)); have C2 := Lib.hid (C1.out.trans hb2); have O2 := Lib.hid ho2; clear ho2 hg2 hb2) | (at_builtin; refine wpList_append_strs _ rfl (.tmp 53) (.tmp 54) rfl rowStr V.heap.size v2 (0 + 1 + 1) _ rfl (O2.out.alloc _) (some ⟨y2.heap.size, 0, none⟩) 1 1 [(⟨#[114]⟩ : ByteArray)] rfl (strs_built 9 y2 [(⟨#[114]⟩ : ByteArray)] _ rfl 1 rfl (by decide) _ (by simp)) (by omega) (Nat.le_trans C2.out.size (by simp)) ?_; intro v3 y3 ho3 hg3 _; have hb3 : Below V.heap.size y2 y3 := OwnsS.grown_below ((Below.refl _ _).alloc C2.out.size _) (O2.out.alloc _) hg3 (Nat.le_trans C2.out.size (by simp)); have C3 := Lib.hid (C2.out.trans hb3); have O3 := Lib.hid ho3; clear ho3 hg3 hb3; obtain ⟨gh, kh, hv3, hkh, hgl, hgc⟩ := O3.out.big (by omega); subst hv3; have Q4 := Lib.hid (T4.out.below C3.out l4); have Q6 := Lib.hid (T6.out.below C3.out l6); have q0 : y3.cell? ⟨w.heap.size, 0, none⟩ = some (.int .i64 0) := Q4.out.cell 0; have q1 : y3.cell? ⟨w.heap.size, 1, none⟩ = some (.int .i64 0) := Q4.out.cell 1; have q2 : y3.cell? ⟨w.heap.size, 2, none⟩ = some (.int .i64 0) := Q4.out.cell 2; have q3 : y3.cell? ⟨w.heap.size, 3, none⟩ = some (.int .i64 0) := Q4.out.cell 3; have q4 : y3.cell? ⟨w.heap.size, 4, none⟩ = some (.int .i64 0) := Q4.out.cell 4; have r0 : y3.cell? ⟨g6, 0, none⟩ = some (.int .i64 op) := Q6.out.cell 0; have r1 : y3.cell? ⟨g6, 1, none⟩ = some (.int .i64 0) := Q6.out.cell 1; have r2 : y3.cell? ⟨g6, 2, none⟩ = some (.int .i64 0) := Q6.out.cell 2; have r3 : y3.cell? ⟨g6, 3, none⟩ = some (.int .i64 0) := Q6.out.cell 3; have r4 : y3.cell? ⟨g6, 4, none⟩ = some (.int .i64 0) := Q6.out.cell 4; have f4 : ∀ i, y3.frozen? ⟨w.heap.size, i, none⟩ = false := Q4.out.free))
  have B_z := Lib.hid (B0.out.trans (C3.out.mono B0.out.size))
  refine bodyPost_ret (v := .tuple #[.agg #[.int .i64 op, .int .i64 0, .int .i64 0, .int .i64 0, .int .i64 0], .bool false]) ?_ rfl (fill_no NO.out ?_)
  · simp [results, Tryd.results76, go_sem, q0, q1, q2, q3, q4]
  · repeat (first | exact B_z.out | refine Below.setCell ?_ (Nat.le_refl w.heap.size) _)
end Go.Proofs.YtnmpamfgkidmiaaDoor
