/- InstrQ0 InstrQ1 InstrQ2 InstrQ InstrR InstrT InstrS0 InstrS1 InstrS in one. -/
import Derived.Test.YtnmpamfgkidmiaaDoorInstrP
import Derived.Test.YtnmpamfgkidmiaaDoorBlocks
import Derived.Test.YtnmpamfgkidmiaaDoorShelf

/- The answers' Fields of package instr, by shapes: part 0. -/
namespace Go.Proofs.YtnmpamfgkidmiaaDoor
open Go.ChangeShapes Go.WideShapes Go.ChangeAt Go.RowKit
set_option linter.unusedVariables false

set_option maxHeartbeats 8000000 in
set_option maxRecDepth 100000 in
theorem fields_0 (op a b c n : Int) (w : World) (ha : I64 a) (hb : I64 b) (hc : I64 c) (hn : I64 n) (h : shapeOf op = 0) :
    Calls Tryd.prog 63 #[instrV op a b c n] w fun e w' => ∃ A m k, e = .returned (.slice A m k) ∧ OwnsS 9 w' w.heap.size (.slice A m k) m (fieldTexts op a b c n) ∧ Below w.heap.size w w' := by
  have hk : op ≠ 26 := by
    intro e
    rw [e] at h
    exact absurd h (by decide)
  have dk : (op == 26) = false := by simpa using hk
  have F := Lib.hid (show fieldTexts op a b c n = [] by
    unfold fieldTexts
    rw [h]
    show [] = _
    rfl)
  have H := Lib.hid h
  have sa := text_size a
  have sb := text_size b
  have sc := text_size c
  have sn := text_size n
  clear h hk
  unfold instrV
  go_enter Tryd.func63, Tryd.ntmps63
  go_wp2_with fail
  refine (refshape_any _ _).mono ?_
  rintro e w' ⟨rfl, rfl⟩
  rw [H.out]
  go_wp2_with fail
  refine (has_any _ _).mono ?_
  rintro e w' ⟨rfl, rfl⟩
  have Q := Lib.hid (Whole.made w 78 #[.int .i64 op, .int .i64 a, .int .i64 b, .int .i64 c, .int .i64 n] _ rfl)
  have hg := Q.out.lt
  have B0 := Lib.hid ((Below.refl w.heap.size w).alloc (Nat.le_refl _) (.cells #[.int .i64 op, .int .i64 a, .int .i64 b, .int .i64 c, .int .i64 n] 78))
  generalize w.alloc (.cells #[.int .i64 op, .int .i64 a, .int .i64 b, .int .i64 c, .int .i64 n] 78) = W at *
  have q0 : W.cell? ⟨w.heap.size, 0, none⟩ = some (.int .i64 op) := Q.out.cell 0
  have q1 : W.cell? ⟨w.heap.size, 1, none⟩ = some (.int .i64 a) := Q.out.cell 1
  have q2 : W.cell? ⟨w.heap.size, 2, none⟩ = some (.int .i64 b) := Q.out.cell 2
  have q3 : W.cell? ⟨w.heap.size, 3, none⟩ = some (.int .i64 c) := Q.out.cell 3
  have q4 : W.cell? ⟨w.heap.size, 4, none⟩ = some (.int .i64 n) := Q.out.cell 4
  have C0 := Lib.hid (Below.refl W.heap.size W)
  have O0 := Lib.hid (OwnsS.nil 9 W W.heap.size)
  go_wp2_with fail
  refine (refshape_any _ _).mono ?_
  rintro e w' ⟨rfl, rfl⟩
  rw [H.out]
  go_wp2_with fail
  have fin := O0.out.more (B' := w.heap.size) (Nat.le_of_lt hg)
  have finB := B0.out.trans (C0.out.mono (Nat.le_of_lt hg))
  go_ret
  refine ⟨none, 0, 0, rfl, ?_, finB⟩
  rw [F.out]
  exact fin

set_option maxHeartbeats 8000000 in
set_option maxRecDepth 100000 in
theorem fields_1 (op a b c n : Int) (w : World) (ha : I64 a) (hb : I64 b) (hc : I64 c) (hn : I64 n) (h : shapeOf op = 1) :
    Calls Tryd.prog 63 #[instrV op a b c n] w fun e w' => ∃ A m k, e = .returned (.slice A m k) ∧ OwnsS 9 w' w.heap.size (.slice A m k) m (fieldTexts op a b c n) ∧ Below w.heap.size w w' := by
  have hk : op ≠ 26 := by
    intro e
    rw [e] at h
    exact absurd h (by decide)
  have dk : (op == 26) = false := by simpa using hk
  have F := Lib.hid (show fieldTexts op a b c n = [(⟨#[114]⟩ : ByteArray) ++ strOfNums (textNums a), strOfNums (textNums n)] by
    unfold fieldTexts
    rw [h]
    show [rt op 0 a, nt n] = _
    rw [rt_0]
    rfl)
  have H := Lib.hid h
  have sa := text_size a
  have sb := text_size b
  have sc := text_size c
  have sn := text_size n
  clear h hk
  unfold instrV
  go_enter Tryd.func63, Tryd.ntmps63
  go_wp2_with fail
  refine (refshape_any _ _).mono ?_
  rintro e w' ⟨rfl, rfl⟩
  rw [H.out]
  go_wp2_with fail
  refine (has_any _ _).mono ?_
  rintro e w' ⟨rfl, rfl⟩
  have Q := Lib.hid (Whole.made w 78 #[.int .i64 op, .int .i64 a, .int .i64 b, .int .i64 c, .int .i64 n] _ rfl)
  have hg := Q.out.lt
  have B0 := Lib.hid ((Below.refl w.heap.size w).alloc (Nat.le_refl _) (.cells #[.int .i64 op, .int .i64 a, .int .i64 b, .int .i64 c, .int .i64 n] 78))
  generalize w.alloc (.cells #[.int .i64 op, .int .i64 a, .int .i64 b, .int .i64 c, .int .i64 n] 78) = W at *
  have q0 : W.cell? ⟨w.heap.size, 0, none⟩ = some (.int .i64 op) := Q.out.cell 0
  have q1 : W.cell? ⟨w.heap.size, 1, none⟩ = some (.int .i64 a) := Q.out.cell 1
  have q2 : W.cell? ⟨w.heap.size, 2, none⟩ = some (.int .i64 b) := Q.out.cell 2
  have q3 : W.cell? ⟨w.heap.size, 3, none⟩ = some (.int .i64 c) := Q.out.cell 3
  have q4 : W.cell? ⟨w.heap.size, 4, none⟩ = some (.int .i64 n) := Q.out.cell 4
  have C0 := Lib.hid (Below.refl W.heap.size W)
  have O0 := Lib.hid (OwnsS.nil 9 W W.heap.size)
  go_wp2_with fail
  refine (reftext_any a _ ha.1 ha.2).mono ?_
  rintro e w1 ⟨rfl, hb1⟩
  have C1 := Lib.hid (C0.out.trans (hb1.mono C0.out.size))
  have O1 := Lib.hid (O0.out.below hb1)
  have Q1 := Lib.hid (Q.out.below C1.out hg)
  have z1 : w.heap.size < w1.heap.size := Q1.out.lt
  clear hb1 q0 q1 q2 q3 q4
  have q0 : w1.cell? ⟨w.heap.size, 0, none⟩ = some (.int .i64 op) := Q1.out.cell 0
  have q1 : w1.cell? ⟨w.heap.size, 1, none⟩ = some (.int .i64 a) := Q1.out.cell 1
  have q2 : w1.cell? ⟨w.heap.size, 2, none⟩ = some (.int .i64 b) := Q1.out.cell 2
  have q3 : w1.cell? ⟨w.heap.size, 3, none⟩ = some (.int .i64 c) := Q1.out.cell 3
  have q4 : w1.cell? ⟨w.heap.size, 4, none⟩ = some (.int .i64 n) := Q1.out.cell 4
  go_wp2_with (at_builtin; refine wpList_append_strs _ rfl (.tmp 18) (.tmp 23) rfl rowStr W.heap.size (.slice none 0 0) (0) _ rfl (O1.out.alloc _) (some ⟨w1.heap.size, 0, none⟩) 1 1 [(⟨#[114]⟩ : ByteArray) ++ strOfNums (textNums a)] rfl (strs_built 9 w1 [(⟨#[114]⟩ : ByteArray) ++ strOfNums (textNums a)] _ rfl 1 rfl (by decide) _ rfl) (by omega) (Nat.le_trans C1.out.size (by simp)) ?_; intro v2 w2 ho2 hg2 _; have hb2 : Below W.heap.size w1 w2 := OwnsS.grown_below ((Below.refl _ _).alloc C1.out.size _) (O1.out.alloc _) hg2 (Nat.le_trans C1.out.size (by simp)); have C2 := Lib.hid (C1.out.trans hb2); have O2 := Lib.hid ho2; have Q2 := Lib.hid (Q.out.below C2.out hg); have z2 : w.heap.size < w2.heap.size := Q2.out.lt; clear ho2 hg2 hb2 q0 q1 q2 q3 q4; have q0 : w2.cell? ⟨w.heap.size, 0, none⟩ = some (.int .i64 op) := Q2.out.cell 0; have q1 : w2.cell? ⟨w.heap.size, 1, none⟩ = some (.int .i64 a) := Q2.out.cell 1; have q2 : w2.cell? ⟨w.heap.size, 2, none⟩ = some (.int .i64 b) := Q2.out.cell 2; have q3 : w2.cell? ⟨w.heap.size, 3, none⟩ = some (.int .i64 c) := Q2.out.cell 3; have q4 : w2.cell? ⟨w.heap.size, 4, none⟩ = some (.int .i64 n) := Q2.out.cell 4)
  go_wp2_with fail
  refine (refshape_any _ _).mono ?_
  rintro e w' ⟨rfl, rfl⟩
  rw [H.out]
  go_wp2_with fail
  refine (reftext_any n _ hn.1 hn.2).mono ?_
  rintro e w3 ⟨rfl, hb3⟩
  have C3 := Lib.hid (C2.out.trans (hb3.mono C2.out.size))
  have O3 := Lib.hid (O2.out.below hb3)
  have Q3 := Lib.hid (Q.out.below C3.out hg)
  have z3 : w.heap.size < w3.heap.size := Q3.out.lt
  clear hb3 q0 q1 q2 q3 q4
  have q0 : w3.cell? ⟨w.heap.size, 0, none⟩ = some (.int .i64 op) := Q3.out.cell 0
  have q1 : w3.cell? ⟨w.heap.size, 1, none⟩ = some (.int .i64 a) := Q3.out.cell 1
  have q2 : w3.cell? ⟨w.heap.size, 2, none⟩ = some (.int .i64 b) := Q3.out.cell 2
  have q3 : w3.cell? ⟨w.heap.size, 3, none⟩ = some (.int .i64 c) := Q3.out.cell 3
  have q4 : w3.cell? ⟨w.heap.size, 4, none⟩ = some (.int .i64 n) := Q3.out.cell 4
  go_wp2_with (at_builtin; refine wpList_append_strs _ rfl (.tmp 61) (.tmp 65) rfl rowStr W.heap.size v2 (0 + 1) _ rfl (O3.out.alloc _) (some ⟨w3.heap.size, 0, none⟩) 1 1 [strOfNums (textNums n)] rfl (strs_built 9 w3 [strOfNums (textNums n)] _ rfl 1 rfl (by decide) _ rfl) (by omega) (Nat.le_trans C3.out.size (by simp)) ?_; intro v4 w4 ho4 hg4 _; have hb4 : Below W.heap.size w3 w4 := OwnsS.grown_below ((Below.refl _ _).alloc C3.out.size _) (O3.out.alloc _) hg4 (Nat.le_trans C3.out.size (by simp)); have C4 := Lib.hid (C3.out.trans hb4); have O4 := Lib.hid ho4; have Q4 := Lib.hid (Q.out.below C4.out hg); have z4 : w.heap.size < w4.heap.size := Q4.out.lt; clear ho4 hg4 hb4 q0 q1 q2 q3 q4; have q0 : w4.cell? ⟨w.heap.size, 0, none⟩ = some (.int .i64 op) := Q4.out.cell 0; have q1 : w4.cell? ⟨w.heap.size, 1, none⟩ = some (.int .i64 a) := Q4.out.cell 1; have q2 : w4.cell? ⟨w.heap.size, 2, none⟩ = some (.int .i64 b) := Q4.out.cell 2; have q3 : w4.cell? ⟨w.heap.size, 3, none⟩ = some (.int .i64 c) := Q4.out.cell 3; have q4 : w4.cell? ⟨w.heap.size, 4, none⟩ = some (.int .i64 n) := Q4.out.cell 4)
  go_wp2_with fail
  have fin := O4.out.more (B' := w.heap.size) (Nat.le_of_lt hg)
  have finB := B0.out.trans (C4.out.mono (Nat.le_of_lt hg))
  obtain ⟨A, k, hv, _⟩ := fin.form
  subst hv
  go_ret
  refine ⟨A, _, k, rfl, ?_, finB⟩
  rw [F.out]
  exact fin

set_option maxHeartbeats 8000000 in
set_option maxRecDepth 100000 in
theorem fields_2 (op a b c n : Int) (w : World) (ha : I64 a) (hb : I64 b) (hc : I64 c) (hn : I64 n) (h : shapeOf op = 2) :
    Calls Tryd.prog 63 #[instrV op a b c n] w fun e w' => ∃ A m k, e = .returned (.slice A m k) ∧ OwnsS 9 w' w.heap.size (.slice A m k) m (fieldTexts op a b c n) ∧ Below w.heap.size w w' := by
  have hk : op ≠ 26 := by
    intro e
    rw [e] at h
    exact absurd h (by decide)
  have dk : (op == 26) = false := by simpa using hk
  have F := Lib.hid (show fieldTexts op a b c n = [(⟨#[114]⟩ : ByteArray) ++ strOfNums (textNums a), strOfNums (textNums n)] by
    unfold fieldTexts
    rw [h]
    show [rt op 0 a, nt n] = _
    rw [rt_0]
    rfl)
  have H := Lib.hid h
  have sa := text_size a
  have sb := text_size b
  have sc := text_size c
  have sn := text_size n
  clear h hk
  unfold instrV
  go_enter Tryd.func63, Tryd.ntmps63
  go_wp2_with fail
  refine (refshape_any _ _).mono ?_
  rintro e w' ⟨rfl, rfl⟩
  rw [H.out]
  go_wp2_with fail
  refine (has_any _ _).mono ?_
  rintro e w' ⟨rfl, rfl⟩
  have Q := Lib.hid (Whole.made w 78 #[.int .i64 op, .int .i64 a, .int .i64 b, .int .i64 c, .int .i64 n] _ rfl)
  have hg := Q.out.lt
  have B0 := Lib.hid ((Below.refl w.heap.size w).alloc (Nat.le_refl _) (.cells #[.int .i64 op, .int .i64 a, .int .i64 b, .int .i64 c, .int .i64 n] 78))
  generalize w.alloc (.cells #[.int .i64 op, .int .i64 a, .int .i64 b, .int .i64 c, .int .i64 n] 78) = W at *
  have q0 : W.cell? ⟨w.heap.size, 0, none⟩ = some (.int .i64 op) := Q.out.cell 0
  have q1 : W.cell? ⟨w.heap.size, 1, none⟩ = some (.int .i64 a) := Q.out.cell 1
  have q2 : W.cell? ⟨w.heap.size, 2, none⟩ = some (.int .i64 b) := Q.out.cell 2
  have q3 : W.cell? ⟨w.heap.size, 3, none⟩ = some (.int .i64 c) := Q.out.cell 3
  have q4 : W.cell? ⟨w.heap.size, 4, none⟩ = some (.int .i64 n) := Q.out.cell 4
  have C0 := Lib.hid (Below.refl W.heap.size W)
  have O0 := Lib.hid (OwnsS.nil 9 W W.heap.size)
  go_wp2_with fail
  refine (reftext_any a _ ha.1 ha.2).mono ?_
  rintro e w1 ⟨rfl, hb1⟩
  have C1 := Lib.hid (C0.out.trans (hb1.mono C0.out.size))
  have O1 := Lib.hid (O0.out.below hb1)
  have Q1 := Lib.hid (Q.out.below C1.out hg)
  have z1 : w.heap.size < w1.heap.size := Q1.out.lt
  clear hb1 q0 q1 q2 q3 q4
  have q0 : w1.cell? ⟨w.heap.size, 0, none⟩ = some (.int .i64 op) := Q1.out.cell 0
  have q1 : w1.cell? ⟨w.heap.size, 1, none⟩ = some (.int .i64 a) := Q1.out.cell 1
  have q2 : w1.cell? ⟨w.heap.size, 2, none⟩ = some (.int .i64 b) := Q1.out.cell 2
  have q3 : w1.cell? ⟨w.heap.size, 3, none⟩ = some (.int .i64 c) := Q1.out.cell 3
  have q4 : w1.cell? ⟨w.heap.size, 4, none⟩ = some (.int .i64 n) := Q1.out.cell 4
  go_wp2_with (at_builtin; refine wpList_append_strs _ rfl (.tmp 18) (.tmp 23) rfl rowStr W.heap.size (.slice none 0 0) (0) _ rfl (O1.out.alloc _) (some ⟨w1.heap.size, 0, none⟩) 1 1 [(⟨#[114]⟩ : ByteArray) ++ strOfNums (textNums a)] rfl (strs_built 9 w1 [(⟨#[114]⟩ : ByteArray) ++ strOfNums (textNums a)] _ rfl 1 rfl (by decide) _ rfl) (by omega) (Nat.le_trans C1.out.size (by simp)) ?_; intro v2 w2 ho2 hg2 _; have hb2 : Below W.heap.size w1 w2 := OwnsS.grown_below ((Below.refl _ _).alloc C1.out.size _) (O1.out.alloc _) hg2 (Nat.le_trans C1.out.size (by simp)); have C2 := Lib.hid (C1.out.trans hb2); have O2 := Lib.hid ho2; have Q2 := Lib.hid (Q.out.below C2.out hg); have z2 : w.heap.size < w2.heap.size := Q2.out.lt; clear ho2 hg2 hb2 q0 q1 q2 q3 q4; have q0 : w2.cell? ⟨w.heap.size, 0, none⟩ = some (.int .i64 op) := Q2.out.cell 0; have q1 : w2.cell? ⟨w.heap.size, 1, none⟩ = some (.int .i64 a) := Q2.out.cell 1; have q2 : w2.cell? ⟨w.heap.size, 2, none⟩ = some (.int .i64 b) := Q2.out.cell 2; have q3 : w2.cell? ⟨w.heap.size, 3, none⟩ = some (.int .i64 c) := Q2.out.cell 3; have q4 : w2.cell? ⟨w.heap.size, 4, none⟩ = some (.int .i64 n) := Q2.out.cell 4)
  go_wp2_with fail
  refine (refshape_any _ _).mono ?_
  rintro e w' ⟨rfl, rfl⟩
  rw [H.out]
  go_wp2_with fail
  refine (reftext_any n _ hn.1 hn.2).mono ?_
  rintro e w3 ⟨rfl, hb3⟩
  have C3 := Lib.hid (C2.out.trans (hb3.mono C2.out.size))
  have O3 := Lib.hid (O2.out.below hb3)
  have Q3 := Lib.hid (Q.out.below C3.out hg)
  have z3 : w.heap.size < w3.heap.size := Q3.out.lt
  clear hb3 q0 q1 q2 q3 q4
  have q0 : w3.cell? ⟨w.heap.size, 0, none⟩ = some (.int .i64 op) := Q3.out.cell 0
  have q1 : w3.cell? ⟨w.heap.size, 1, none⟩ = some (.int .i64 a) := Q3.out.cell 1
  have q2 : w3.cell? ⟨w.heap.size, 2, none⟩ = some (.int .i64 b) := Q3.out.cell 2
  have q3 : w3.cell? ⟨w.heap.size, 3, none⟩ = some (.int .i64 c) := Q3.out.cell 3
  have q4 : w3.cell? ⟨w.heap.size, 4, none⟩ = some (.int .i64 n) := Q3.out.cell 4
  go_wp2_with (at_builtin; refine wpList_append_strs _ rfl (.tmp 61) (.tmp 65) rfl rowStr W.heap.size v2 (0 + 1) _ rfl (O3.out.alloc _) (some ⟨w3.heap.size, 0, none⟩) 1 1 [strOfNums (textNums n)] rfl (strs_built 9 w3 [strOfNums (textNums n)] _ rfl 1 rfl (by decide) _ rfl) (by omega) (Nat.le_trans C3.out.size (by simp)) ?_; intro v4 w4 ho4 hg4 _; have hb4 : Below W.heap.size w3 w4 := OwnsS.grown_below ((Below.refl _ _).alloc C3.out.size _) (O3.out.alloc _) hg4 (Nat.le_trans C3.out.size (by simp)); have C4 := Lib.hid (C3.out.trans hb4); have O4 := Lib.hid ho4; have Q4 := Lib.hid (Q.out.below C4.out hg); have z4 : w.heap.size < w4.heap.size := Q4.out.lt; clear ho4 hg4 hb4 q0 q1 q2 q3 q4; have q0 : w4.cell? ⟨w.heap.size, 0, none⟩ = some (.int .i64 op) := Q4.out.cell 0; have q1 : w4.cell? ⟨w.heap.size, 1, none⟩ = some (.int .i64 a) := Q4.out.cell 1; have q2 : w4.cell? ⟨w.heap.size, 2, none⟩ = some (.int .i64 b) := Q4.out.cell 2; have q3 : w4.cell? ⟨w.heap.size, 3, none⟩ = some (.int .i64 c) := Q4.out.cell 3; have q4 : w4.cell? ⟨w.heap.size, 4, none⟩ = some (.int .i64 n) := Q4.out.cell 4)
  go_wp2_with fail
  have fin := O4.out.more (B' := w.heap.size) (Nat.le_of_lt hg)
  have finB := B0.out.trans (C4.out.mono (Nat.le_of_lt hg))
  obtain ⟨A, k, hv, _⟩ := fin.form
  subst hv
  go_ret
  refine ⟨A, _, k, rfl, ?_, finB⟩
  rw [F.out]
  exact fin

set_option maxHeartbeats 8000000 in
set_option maxRecDepth 100000 in
theorem fields_3 (op a b c n : Int) (w : World) (ha : I64 a) (hb : I64 b) (hc : I64 c) (hn : I64 n) (h : shapeOf op = 3) :
    Calls Tryd.prog 63 #[instrV op a b c n] w fun e w' => ∃ A m k, e = .returned (.slice A m k) ∧ OwnsS 9 w' w.heap.size (.slice A m k) m (fieldTexts op a b c n) ∧ Below w.heap.size w w' := by
  have hk : op ≠ 26 := by
    intro e
    rw [e] at h
    exact absurd h (by decide)
  have dk : (op == 26) = false := by simpa using hk
  have F := Lib.hid (show fieldTexts op a b c n = [(⟨#[114]⟩ : ByteArray) ++ strOfNums (textNums a), (⟨#[114]⟩ : ByteArray) ++ strOfNums (textNums b), strOfNums (textNums n)] by
    unfold fieldTexts
    rw [h]
    show [rt op 0 a, rt op 1 b, nt n] = _
    rw [rt_0, rt_1 hk]
    rfl)
  have H := Lib.hid h
  have sa := text_size a
  have sb := text_size b
  have sc := text_size c
  have sn := text_size n
  clear h hk
  unfold instrV
  go_enter Tryd.func63, Tryd.ntmps63
  go_wp2_with fail
  refine (refshape_any _ _).mono ?_
  rintro e w' ⟨rfl, rfl⟩
  rw [H.out]
  go_wp2_with fail
  refine (has_any _ _).mono ?_
  rintro e w' ⟨rfl, rfl⟩
  have Q := Lib.hid (Whole.made w 78 #[.int .i64 op, .int .i64 a, .int .i64 b, .int .i64 c, .int .i64 n] _ rfl)
  have hg := Q.out.lt
  have B0 := Lib.hid ((Below.refl w.heap.size w).alloc (Nat.le_refl _) (.cells #[.int .i64 op, .int .i64 a, .int .i64 b, .int .i64 c, .int .i64 n] 78))
  generalize w.alloc (.cells #[.int .i64 op, .int .i64 a, .int .i64 b, .int .i64 c, .int .i64 n] 78) = W at *
  have q0 : W.cell? ⟨w.heap.size, 0, none⟩ = some (.int .i64 op) := Q.out.cell 0
  have q1 : W.cell? ⟨w.heap.size, 1, none⟩ = some (.int .i64 a) := Q.out.cell 1
  have q2 : W.cell? ⟨w.heap.size, 2, none⟩ = some (.int .i64 b) := Q.out.cell 2
  have q3 : W.cell? ⟨w.heap.size, 3, none⟩ = some (.int .i64 c) := Q.out.cell 3
  have q4 : W.cell? ⟨w.heap.size, 4, none⟩ = some (.int .i64 n) := Q.out.cell 4
  have C0 := Lib.hid (Below.refl W.heap.size W)
  have O0 := Lib.hid (OwnsS.nil 9 W W.heap.size)
  go_wp2_with fail
  refine (reftext_any a _ ha.1 ha.2).mono ?_
  rintro e w1 ⟨rfl, hb1⟩
  have C1 := Lib.hid (C0.out.trans (hb1.mono C0.out.size))
  have O1 := Lib.hid (O0.out.below hb1)
  have Q1 := Lib.hid (Q.out.below C1.out hg)
  have z1 : w.heap.size < w1.heap.size := Q1.out.lt
  clear hb1 q0 q1 q2 q3 q4
  have q0 : w1.cell? ⟨w.heap.size, 0, none⟩ = some (.int .i64 op) := Q1.out.cell 0
  have q1 : w1.cell? ⟨w.heap.size, 1, none⟩ = some (.int .i64 a) := Q1.out.cell 1
  have q2 : w1.cell? ⟨w.heap.size, 2, none⟩ = some (.int .i64 b) := Q1.out.cell 2
  have q3 : w1.cell? ⟨w.heap.size, 3, none⟩ = some (.int .i64 c) := Q1.out.cell 3
  have q4 : w1.cell? ⟨w.heap.size, 4, none⟩ = some (.int .i64 n) := Q1.out.cell 4
  go_wp2_with (at_builtin; refine wpList_append_strs _ rfl (.tmp 18) (.tmp 23) rfl rowStr W.heap.size (.slice none 0 0) (0) _ rfl (O1.out.alloc _) (some ⟨w1.heap.size, 0, none⟩) 1 1 [(⟨#[114]⟩ : ByteArray) ++ strOfNums (textNums a)] rfl (strs_built 9 w1 [(⟨#[114]⟩ : ByteArray) ++ strOfNums (textNums a)] _ rfl 1 rfl (by decide) _ rfl) (by omega) (Nat.le_trans C1.out.size (by simp)) ?_; intro v2 w2 ho2 hg2 _; have hb2 : Below W.heap.size w1 w2 := OwnsS.grown_below ((Below.refl _ _).alloc C1.out.size _) (O1.out.alloc _) hg2 (Nat.le_trans C1.out.size (by simp)); have C2 := Lib.hid (C1.out.trans hb2); have O2 := Lib.hid ho2; have Q2 := Lib.hid (Q.out.below C2.out hg); have z2 : w.heap.size < w2.heap.size := Q2.out.lt; clear ho2 hg2 hb2 q0 q1 q2 q3 q4; have q0 : w2.cell? ⟨w.heap.size, 0, none⟩ = some (.int .i64 op) := Q2.out.cell 0; have q1 : w2.cell? ⟨w.heap.size, 1, none⟩ = some (.int .i64 a) := Q2.out.cell 1; have q2 : w2.cell? ⟨w.heap.size, 2, none⟩ = some (.int .i64 b) := Q2.out.cell 2; have q3 : w2.cell? ⟨w.heap.size, 3, none⟩ = some (.int .i64 c) := Q2.out.cell 3; have q4 : w2.cell? ⟨w.heap.size, 4, none⟩ = some (.int .i64 n) := Q2.out.cell 4)
  go_wp2_with fail
  refine (reftext_any b _ hb.1 hb.2).mono ?_
  rintro e w3 ⟨rfl, hb3⟩
  have C3 := Lib.hid (C2.out.trans (hb3.mono C2.out.size))
  have O3 := Lib.hid (O2.out.below hb3)
  have Q3 := Lib.hid (Q.out.below C3.out hg)
  have z3 : w.heap.size < w3.heap.size := Q3.out.lt
  clear hb3 q0 q1 q2 q3 q4
  have q0 : w3.cell? ⟨w.heap.size, 0, none⟩ = some (.int .i64 op) := Q3.out.cell 0
  have q1 : w3.cell? ⟨w.heap.size, 1, none⟩ = some (.int .i64 a) := Q3.out.cell 1
  have q2 : w3.cell? ⟨w.heap.size, 2, none⟩ = some (.int .i64 b) := Q3.out.cell 2
  have q3 : w3.cell? ⟨w.heap.size, 3, none⟩ = some (.int .i64 c) := Q3.out.cell 3
  have q4 : w3.cell? ⟨w.heap.size, 4, none⟩ = some (.int .i64 n) := Q3.out.cell 4
  go_wp2_with (at_builtin; refine wpList_append_strs _ rfl (.tmp 36) (.tmp 38) rfl rowStr W.heap.size v2 (0 + 1) _ rfl (O3.out.alloc _) (some ⟨w3.heap.size, 0, none⟩) 1 1 [(⟨#[114]⟩ : ByteArray) ++ strOfNums (textNums b)] rfl (strs_built 9 w3 [(⟨#[114]⟩ : ByteArray) ++ strOfNums (textNums b)] _ rfl 1 rfl (by decide) _ rfl) (by omega) (Nat.le_trans C3.out.size (by simp)) ?_; intro v4 w4 ho4 hg4 _; have hb4 : Below W.heap.size w3 w4 := OwnsS.grown_below ((Below.refl _ _).alloc C3.out.size _) (O3.out.alloc _) hg4 (Nat.le_trans C3.out.size (by simp)); have C4 := Lib.hid (C3.out.trans hb4); have O4 := Lib.hid ho4; have Q4 := Lib.hid (Q.out.below C4.out hg); have z4 : w.heap.size < w4.heap.size := Q4.out.lt; clear ho4 hg4 hb4 q0 q1 q2 q3 q4; have q0 : w4.cell? ⟨w.heap.size, 0, none⟩ = some (.int .i64 op) := Q4.out.cell 0; have q1 : w4.cell? ⟨w.heap.size, 1, none⟩ = some (.int .i64 a) := Q4.out.cell 1; have q2 : w4.cell? ⟨w.heap.size, 2, none⟩ = some (.int .i64 b) := Q4.out.cell 2; have q3 : w4.cell? ⟨w.heap.size, 3, none⟩ = some (.int .i64 c) := Q4.out.cell 3; have q4 : w4.cell? ⟨w.heap.size, 4, none⟩ = some (.int .i64 n) := Q4.out.cell 4)
  go_wp2_with fail
  refine (refshape_any _ _).mono ?_
  rintro e w' ⟨rfl, rfl⟩
  rw [H.out]
  go_wp2_with fail
  refine (reftext_any n _ hn.1 hn.2).mono ?_
  rintro e w5 ⟨rfl, hb5⟩
  have C5 := Lib.hid (C4.out.trans (hb5.mono C4.out.size))
  have O5 := Lib.hid (O4.out.below hb5)
  have Q5 := Lib.hid (Q.out.below C5.out hg)
  have z5 : w.heap.size < w5.heap.size := Q5.out.lt
  clear hb5 q0 q1 q2 q3 q4
  have q0 : w5.cell? ⟨w.heap.size, 0, none⟩ = some (.int .i64 op) := Q5.out.cell 0
  have q1 : w5.cell? ⟨w.heap.size, 1, none⟩ = some (.int .i64 a) := Q5.out.cell 1
  have q2 : w5.cell? ⟨w.heap.size, 2, none⟩ = some (.int .i64 b) := Q5.out.cell 2
  have q3 : w5.cell? ⟨w.heap.size, 3, none⟩ = some (.int .i64 c) := Q5.out.cell 3
  have q4 : w5.cell? ⟨w.heap.size, 4, none⟩ = some (.int .i64 n) := Q5.out.cell 4
  go_wp2_with (at_builtin; refine wpList_append_strs _ rfl (.tmp 61) (.tmp 65) rfl rowStr W.heap.size v4 (0 + 1 + 1) _ rfl (O5.out.alloc _) (some ⟨w5.heap.size, 0, none⟩) 1 1 [strOfNums (textNums n)] rfl (strs_built 9 w5 [strOfNums (textNums n)] _ rfl 1 rfl (by decide) _ rfl) (by omega) (Nat.le_trans C5.out.size (by simp)) ?_; intro v6 w6 ho6 hg6 _; have hb6 : Below W.heap.size w5 w6 := OwnsS.grown_below ((Below.refl _ _).alloc C5.out.size _) (O5.out.alloc _) hg6 (Nat.le_trans C5.out.size (by simp)); have C6 := Lib.hid (C5.out.trans hb6); have O6 := Lib.hid ho6; have Q6 := Lib.hid (Q.out.below C6.out hg); have z6 : w.heap.size < w6.heap.size := Q6.out.lt; clear ho6 hg6 hb6 q0 q1 q2 q3 q4; have q0 : w6.cell? ⟨w.heap.size, 0, none⟩ = some (.int .i64 op) := Q6.out.cell 0; have q1 : w6.cell? ⟨w.heap.size, 1, none⟩ = some (.int .i64 a) := Q6.out.cell 1; have q2 : w6.cell? ⟨w.heap.size, 2, none⟩ = some (.int .i64 b) := Q6.out.cell 2; have q3 : w6.cell? ⟨w.heap.size, 3, none⟩ = some (.int .i64 c) := Q6.out.cell 3; have q4 : w6.cell? ⟨w.heap.size, 4, none⟩ = some (.int .i64 n) := Q6.out.cell 4)
  go_wp2_with fail
  have fin := O6.out.more (B' := w.heap.size) (Nat.le_of_lt hg)
  have finB := B0.out.trans (C6.out.mono (Nat.le_of_lt hg))
  obtain ⟨A, k, hv, _⟩ := fin.form
  subst hv
  go_ret
  refine ⟨A, _, k, rfl, ?_, finB⟩
  rw [F.out]
  exact fin
end Go.Proofs.YtnmpamfgkidmiaaDoor

/- The answers' Fields of package instr, by shapes: part 1. -/
namespace Go.Proofs.YtnmpamfgkidmiaaDoor
open Go.ChangeShapes Go.WideShapes Go.ChangeAt Go.RowKit
set_option linter.unusedVariables false

set_option maxHeartbeats 8000000 in
set_option maxRecDepth 100000 in
theorem fields_4 (op a b c n : Int) (w : World) (ha : I64 a) (hb : I64 b) (hc : I64 c) (hn : I64 n) (h : shapeOf op = 4) (hk : op ≠ 26) :
    Calls Tryd.prog 63 #[instrV op a b c n] w fun e w' => ∃ A m k, e = .returned (.slice A m k) ∧ OwnsS 9 w' w.heap.size (.slice A m k) m (fieldTexts op a b c n) ∧ Below w.heap.size w w' := by
  have dk : (op == 26) = false := by simpa using hk
  have F := Lib.hid (show fieldTexts op a b c n = [(⟨#[114]⟩ : ByteArray) ++ strOfNums (textNums a), (⟨#[114]⟩ : ByteArray) ++ strOfNums (textNums b), strOfNums (textNums n)] by
    unfold fieldTexts
    rw [h]
    show [rt op 0 a, rt op 1 b, nt n] = _
    rw [rt_0, rt_1 hk]
    rfl)
  have H := Lib.hid h
  have sa := text_size a
  have sb := text_size b
  have sc := text_size c
  have sn := text_size n
  clear h hk
  unfold instrV
  go_enter Tryd.func63, Tryd.ntmps63
  go_wp2_with fail
  refine (refshape_any _ _).mono ?_
  rintro e w' ⟨rfl, rfl⟩
  rw [H.out]
  go_wp2_with fail
  refine (has_any _ _).mono ?_
  rintro e w' ⟨rfl, rfl⟩
  have Q := Lib.hid (Whole.made w 78 #[.int .i64 op, .int .i64 a, .int .i64 b, .int .i64 c, .int .i64 n] _ rfl)
  have hg := Q.out.lt
  have B0 := Lib.hid ((Below.refl w.heap.size w).alloc (Nat.le_refl _) (.cells #[.int .i64 op, .int .i64 a, .int .i64 b, .int .i64 c, .int .i64 n] 78))
  generalize w.alloc (.cells #[.int .i64 op, .int .i64 a, .int .i64 b, .int .i64 c, .int .i64 n] 78) = W at *
  have q0 : W.cell? ⟨w.heap.size, 0, none⟩ = some (.int .i64 op) := Q.out.cell 0
  have q1 : W.cell? ⟨w.heap.size, 1, none⟩ = some (.int .i64 a) := Q.out.cell 1
  have q2 : W.cell? ⟨w.heap.size, 2, none⟩ = some (.int .i64 b) := Q.out.cell 2
  have q3 : W.cell? ⟨w.heap.size, 3, none⟩ = some (.int .i64 c) := Q.out.cell 3
  have q4 : W.cell? ⟨w.heap.size, 4, none⟩ = some (.int .i64 n) := Q.out.cell 4
  have C0 := Lib.hid (Below.refl W.heap.size W)
  have O0 := Lib.hid (OwnsS.nil 9 W W.heap.size)
  go_wp2_with fail
  refine (reftext_any a _ ha.1 ha.2).mono ?_
  rintro e w1 ⟨rfl, hb1⟩
  have C1 := Lib.hid (C0.out.trans (hb1.mono C0.out.size))
  have O1 := Lib.hid (O0.out.below hb1)
  have Q1 := Lib.hid (Q.out.below C1.out hg)
  have z1 : w.heap.size < w1.heap.size := Q1.out.lt
  clear hb1 q0 q1 q2 q3 q4
  have q0 : w1.cell? ⟨w.heap.size, 0, none⟩ = some (.int .i64 op) := Q1.out.cell 0
  have q1 : w1.cell? ⟨w.heap.size, 1, none⟩ = some (.int .i64 a) := Q1.out.cell 1
  have q2 : w1.cell? ⟨w.heap.size, 2, none⟩ = some (.int .i64 b) := Q1.out.cell 2
  have q3 : w1.cell? ⟨w.heap.size, 3, none⟩ = some (.int .i64 c) := Q1.out.cell 3
  have q4 : w1.cell? ⟨w.heap.size, 4, none⟩ = some (.int .i64 n) := Q1.out.cell 4
  go_wp2_with (at_builtin; refine wpList_append_strs _ rfl (.tmp 18) (.tmp 23) rfl rowStr W.heap.size (.slice none 0 0) (0) _ rfl (O1.out.alloc _) (some ⟨w1.heap.size, 0, none⟩) 1 1 [(⟨#[114]⟩ : ByteArray) ++ strOfNums (textNums a)] rfl (strs_built 9 w1 [(⟨#[114]⟩ : ByteArray) ++ strOfNums (textNums a)] _ rfl 1 rfl (by decide) _ rfl) (by omega) (Nat.le_trans C1.out.size (by simp)) ?_; intro v2 w2 ho2 hg2 _; have hb2 : Below W.heap.size w1 w2 := OwnsS.grown_below ((Below.refl _ _).alloc C1.out.size _) (O1.out.alloc _) hg2 (Nat.le_trans C1.out.size (by simp)); have C2 := Lib.hid (C1.out.trans hb2); have O2 := Lib.hid ho2; have Q2 := Lib.hid (Q.out.below C2.out hg); have z2 : w.heap.size < w2.heap.size := Q2.out.lt; clear ho2 hg2 hb2 q0 q1 q2 q3 q4; have q0 : w2.cell? ⟨w.heap.size, 0, none⟩ = some (.int .i64 op) := Q2.out.cell 0; have q1 : w2.cell? ⟨w.heap.size, 1, none⟩ = some (.int .i64 a) := Q2.out.cell 1; have q2 : w2.cell? ⟨w.heap.size, 2, none⟩ = some (.int .i64 b) := Q2.out.cell 2; have q3 : w2.cell? ⟨w.heap.size, 3, none⟩ = some (.int .i64 c) := Q2.out.cell 3; have q4 : w2.cell? ⟨w.heap.size, 4, none⟩ = some (.int .i64 n) := Q2.out.cell 4)
  go_wp2_with fail
  refine (reftext_any b _ hb.1 hb.2).mono ?_
  rintro e w3 ⟨rfl, hb3⟩
  have C3 := Lib.hid (C2.out.trans (hb3.mono C2.out.size))
  have O3 := Lib.hid (O2.out.below hb3)
  have Q3 := Lib.hid (Q.out.below C3.out hg)
  have z3 : w.heap.size < w3.heap.size := Q3.out.lt
  clear hb3 q0 q1 q2 q3 q4
  have q0 : w3.cell? ⟨w.heap.size, 0, none⟩ = some (.int .i64 op) := Q3.out.cell 0
  have q1 : w3.cell? ⟨w.heap.size, 1, none⟩ = some (.int .i64 a) := Q3.out.cell 1
  have q2 : w3.cell? ⟨w.heap.size, 2, none⟩ = some (.int .i64 b) := Q3.out.cell 2
  have q3 : w3.cell? ⟨w.heap.size, 3, none⟩ = some (.int .i64 c) := Q3.out.cell 3
  have q4 : w3.cell? ⟨w.heap.size, 4, none⟩ = some (.int .i64 n) := Q3.out.cell 4
  go_wp2_with (at_builtin; refine wpList_append_strs _ rfl (.tmp 36) (.tmp 38) rfl rowStr W.heap.size v2 (0 + 1) _ rfl (O3.out.alloc _) (some ⟨w3.heap.size, 0, none⟩) 1 1 [(⟨#[114]⟩ : ByteArray) ++ strOfNums (textNums b)] rfl (strs_built 9 w3 [(⟨#[114]⟩ : ByteArray) ++ strOfNums (textNums b)] _ rfl 1 rfl (by decide) _ rfl) (by omega) (Nat.le_trans C3.out.size (by simp)) ?_; intro v4 w4 ho4 hg4 _; have hb4 : Below W.heap.size w3 w4 := OwnsS.grown_below ((Below.refl _ _).alloc C3.out.size _) (O3.out.alloc _) hg4 (Nat.le_trans C3.out.size (by simp)); have C4 := Lib.hid (C3.out.trans hb4); have O4 := Lib.hid ho4; have Q4 := Lib.hid (Q.out.below C4.out hg); have z4 : w.heap.size < w4.heap.size := Q4.out.lt; clear ho4 hg4 hb4 q0 q1 q2 q3 q4; have q0 : w4.cell? ⟨w.heap.size, 0, none⟩ = some (.int .i64 op) := Q4.out.cell 0; have q1 : w4.cell? ⟨w.heap.size, 1, none⟩ = some (.int .i64 a) := Q4.out.cell 1; have q2 : w4.cell? ⟨w.heap.size, 2, none⟩ = some (.int .i64 b) := Q4.out.cell 2; have q3 : w4.cell? ⟨w.heap.size, 3, none⟩ = some (.int .i64 c) := Q4.out.cell 3; have q4 : w4.cell? ⟨w.heap.size, 4, none⟩ = some (.int .i64 n) := Q4.out.cell 4)
  go_wp2_with fail
  refine (refshape_any _ _).mono ?_
  rintro e w' ⟨rfl, rfl⟩
  rw [H.out]
  go_wp2_with fail
  refine (reftext_any n _ hn.1 hn.2).mono ?_
  rintro e w5 ⟨rfl, hb5⟩
  have C5 := Lib.hid (C4.out.trans (hb5.mono C4.out.size))
  have O5 := Lib.hid (O4.out.below hb5)
  have Q5 := Lib.hid (Q.out.below C5.out hg)
  have z5 : w.heap.size < w5.heap.size := Q5.out.lt
  clear hb5 q0 q1 q2 q3 q4
  have q0 : w5.cell? ⟨w.heap.size, 0, none⟩ = some (.int .i64 op) := Q5.out.cell 0
  have q1 : w5.cell? ⟨w.heap.size, 1, none⟩ = some (.int .i64 a) := Q5.out.cell 1
  have q2 : w5.cell? ⟨w.heap.size, 2, none⟩ = some (.int .i64 b) := Q5.out.cell 2
  have q3 : w5.cell? ⟨w.heap.size, 3, none⟩ = some (.int .i64 c) := Q5.out.cell 3
  have q4 : w5.cell? ⟨w.heap.size, 4, none⟩ = some (.int .i64 n) := Q5.out.cell 4
  go_wp2_with (at_builtin; refine wpList_append_strs _ rfl (.tmp 61) (.tmp 65) rfl rowStr W.heap.size v4 (0 + 1 + 1) _ rfl (O5.out.alloc _) (some ⟨w5.heap.size, 0, none⟩) 1 1 [strOfNums (textNums n)] rfl (strs_built 9 w5 [strOfNums (textNums n)] _ rfl 1 rfl (by decide) _ rfl) (by omega) (Nat.le_trans C5.out.size (by simp)) ?_; intro v6 w6 ho6 hg6 _; have hb6 : Below W.heap.size w5 w6 := OwnsS.grown_below ((Below.refl _ _).alloc C5.out.size _) (O5.out.alloc _) hg6 (Nat.le_trans C5.out.size (by simp)); have C6 := Lib.hid (C5.out.trans hb6); have O6 := Lib.hid ho6; have Q6 := Lib.hid (Q.out.below C6.out hg); have z6 : w.heap.size < w6.heap.size := Q6.out.lt; clear ho6 hg6 hb6 q0 q1 q2 q3 q4; have q0 : w6.cell? ⟨w.heap.size, 0, none⟩ = some (.int .i64 op) := Q6.out.cell 0; have q1 : w6.cell? ⟨w.heap.size, 1, none⟩ = some (.int .i64 a) := Q6.out.cell 1; have q2 : w6.cell? ⟨w.heap.size, 2, none⟩ = some (.int .i64 b) := Q6.out.cell 2; have q3 : w6.cell? ⟨w.heap.size, 3, none⟩ = some (.int .i64 c) := Q6.out.cell 3; have q4 : w6.cell? ⟨w.heap.size, 4, none⟩ = some (.int .i64 n) := Q6.out.cell 4)
  go_wp2_with fail
  have fin := O6.out.more (B' := w.heap.size) (Nat.le_of_lt hg)
  have finB := B0.out.trans (C6.out.mono (Nat.le_of_lt hg))
  obtain ⟨A, k, hv, _⟩ := fin.form
  subst hv
  go_ret
  refine ⟨A, _, k, rfl, ?_, finB⟩
  rw [F.out]
  exact fin

set_option maxHeartbeats 8000000 in
set_option maxRecDepth 100000 in
theorem fields_4c (op a b c n : Int) (w : World) (ha : I64 a) (hb : I64 b) (hc : I64 c) (hn : I64 n) (h : shapeOf op = 4) (hk : op = 26) :
    Calls Tryd.prog 63 #[instrV op a b c n] w fun e w' => ∃ A m k, e = .returned (.slice A m k) ∧ OwnsS 9 w' w.heap.size (.slice A m k) m (fieldTexts op a b c n) ∧ Below w.heap.size w w' := by
  have dk : (op == 26) = true := by simpa using hk
  have F := Lib.hid (show fieldTexts op a b c n = [(⟨#[114]⟩ : ByteArray) ++ strOfNums (textNums a), strOfNums (textNums b), strOfNums (textNums n)] by
    unfold fieldTexts
    rw [h]
    show [rt op 0 a, rt op 1 b, nt n] = _
    rw [rt_0, rt_1c hk]
    rfl)
  have H := Lib.hid h
  have sa := text_size a
  have sb := text_size b
  have sc := text_size c
  have sn := text_size n
  clear h hk
  unfold instrV
  go_enter Tryd.func63, Tryd.ntmps63
  go_wp2_with fail
  refine (refshape_any _ _).mono ?_
  rintro e w' ⟨rfl, rfl⟩
  rw [H.out]
  go_wp2_with fail
  refine (has_any _ _).mono ?_
  rintro e w' ⟨rfl, rfl⟩
  have Q := Lib.hid (Whole.made w 78 #[.int .i64 op, .int .i64 a, .int .i64 b, .int .i64 c, .int .i64 n] _ rfl)
  have hg := Q.out.lt
  have B0 := Lib.hid ((Below.refl w.heap.size w).alloc (Nat.le_refl _) (.cells #[.int .i64 op, .int .i64 a, .int .i64 b, .int .i64 c, .int .i64 n] 78))
  generalize w.alloc (.cells #[.int .i64 op, .int .i64 a, .int .i64 b, .int .i64 c, .int .i64 n] 78) = W at *
  have q0 : W.cell? ⟨w.heap.size, 0, none⟩ = some (.int .i64 op) := Q.out.cell 0
  have q1 : W.cell? ⟨w.heap.size, 1, none⟩ = some (.int .i64 a) := Q.out.cell 1
  have q2 : W.cell? ⟨w.heap.size, 2, none⟩ = some (.int .i64 b) := Q.out.cell 2
  have q3 : W.cell? ⟨w.heap.size, 3, none⟩ = some (.int .i64 c) := Q.out.cell 3
  have q4 : W.cell? ⟨w.heap.size, 4, none⟩ = some (.int .i64 n) := Q.out.cell 4
  have C0 := Lib.hid (Below.refl W.heap.size W)
  have O0 := Lib.hid (OwnsS.nil 9 W W.heap.size)
  go_wp2_with fail
  refine (reftext_any a _ ha.1 ha.2).mono ?_
  rintro e w1 ⟨rfl, hb1⟩
  have C1 := Lib.hid (C0.out.trans (hb1.mono C0.out.size))
  have O1 := Lib.hid (O0.out.below hb1)
  have Q1 := Lib.hid (Q.out.below C1.out hg)
  have z1 : w.heap.size < w1.heap.size := Q1.out.lt
  clear hb1 q0 q1 q2 q3 q4
  have q0 : w1.cell? ⟨w.heap.size, 0, none⟩ = some (.int .i64 op) := Q1.out.cell 0
  have q1 : w1.cell? ⟨w.heap.size, 1, none⟩ = some (.int .i64 a) := Q1.out.cell 1
  have q2 : w1.cell? ⟨w.heap.size, 2, none⟩ = some (.int .i64 b) := Q1.out.cell 2
  have q3 : w1.cell? ⟨w.heap.size, 3, none⟩ = some (.int .i64 c) := Q1.out.cell 3
  have q4 : w1.cell? ⟨w.heap.size, 4, none⟩ = some (.int .i64 n) := Q1.out.cell 4
  go_wp2_with (at_builtin; refine wpList_append_strs _ rfl (.tmp 18) (.tmp 23) rfl rowStr W.heap.size (.slice none 0 0) (0) _ rfl (O1.out.alloc _) (some ⟨w1.heap.size, 0, none⟩) 1 1 [(⟨#[114]⟩ : ByteArray) ++ strOfNums (textNums a)] rfl (strs_built 9 w1 [(⟨#[114]⟩ : ByteArray) ++ strOfNums (textNums a)] _ rfl 1 rfl (by decide) _ rfl) (by omega) (Nat.le_trans C1.out.size (by simp)) ?_; intro v2 w2 ho2 hg2 _; have hb2 : Below W.heap.size w1 w2 := OwnsS.grown_below ((Below.refl _ _).alloc C1.out.size _) (O1.out.alloc _) hg2 (Nat.le_trans C1.out.size (by simp)); have C2 := Lib.hid (C1.out.trans hb2); have O2 := Lib.hid ho2; have Q2 := Lib.hid (Q.out.below C2.out hg); have z2 : w.heap.size < w2.heap.size := Q2.out.lt; clear ho2 hg2 hb2 q0 q1 q2 q3 q4; have q0 : w2.cell? ⟨w.heap.size, 0, none⟩ = some (.int .i64 op) := Q2.out.cell 0; have q1 : w2.cell? ⟨w.heap.size, 1, none⟩ = some (.int .i64 a) := Q2.out.cell 1; have q2 : w2.cell? ⟨w.heap.size, 2, none⟩ = some (.int .i64 b) := Q2.out.cell 2; have q3 : w2.cell? ⟨w.heap.size, 3, none⟩ = some (.int .i64 c) := Q2.out.cell 3; have q4 : w2.cell? ⟨w.heap.size, 4, none⟩ = some (.int .i64 n) := Q2.out.cell 4)
  go_wp2_with fail
  refine (reftext_any b _ hb.1 hb.2).mono ?_
  rintro e w3 ⟨rfl, hb3⟩
  have C3 := Lib.hid (C2.out.trans (hb3.mono C2.out.size))
  have O3 := Lib.hid (O2.out.below hb3)
  have Q3 := Lib.hid (Q.out.below C3.out hg)
  have z3 : w.heap.size < w3.heap.size := Q3.out.lt
  clear hb3 q0 q1 q2 q3 q4
  have q0 : w3.cell? ⟨w.heap.size, 0, none⟩ = some (.int .i64 op) := Q3.out.cell 0
  have q1 : w3.cell? ⟨w.heap.size, 1, none⟩ = some (.int .i64 a) := Q3.out.cell 1
  have q2 : w3.cell? ⟨w.heap.size, 2, none⟩ = some (.int .i64 b) := Q3.out.cell 2
  have q3 : w3.cell? ⟨w.heap.size, 3, none⟩ = some (.int .i64 c) := Q3.out.cell 3
  have q4 : w3.cell? ⟨w.heap.size, 4, none⟩ = some (.int .i64 n) := Q3.out.cell 4
  go_wp2_with fail
  refine (reftext_any b _ hb.1 hb.2).mono ?_
  rintro e w4 ⟨rfl, hb4⟩
  have C4 := Lib.hid (C3.out.trans (hb4.mono C3.out.size))
  have O4 := Lib.hid (O3.out.below hb4)
  have Q4 := Lib.hid (Q.out.below C4.out hg)
  have z4 : w.heap.size < w4.heap.size := Q4.out.lt
  clear hb4 q0 q1 q2 q3 q4
  have q0 : w4.cell? ⟨w.heap.size, 0, none⟩ = some (.int .i64 op) := Q4.out.cell 0
  have q1 : w4.cell? ⟨w.heap.size, 1, none⟩ = some (.int .i64 a) := Q4.out.cell 1
  have q2 : w4.cell? ⟨w.heap.size, 2, none⟩ = some (.int .i64 b) := Q4.out.cell 2
  have q3 : w4.cell? ⟨w.heap.size, 3, none⟩ = some (.int .i64 c) := Q4.out.cell 3
  have q4 : w4.cell? ⟨w.heap.size, 4, none⟩ = some (.int .i64 n) := Q4.out.cell 4
  go_wp2_with (at_builtin; refine wpList_append_strs _ rfl (.tmp 36) (.tmp 38) rfl rowStr W.heap.size v2 (0 + 1) _ rfl (O4.out.alloc _) (some ⟨w4.heap.size, 0, none⟩) 1 1 [strOfNums (textNums b)] rfl (strs_built 9 w4 [strOfNums (textNums b)] _ rfl 1 rfl (by decide) _ rfl) (by omega) (Nat.le_trans C4.out.size (by simp)) ?_; intro v5 w5 ho5 hg5 _; have hb5 : Below W.heap.size w4 w5 := OwnsS.grown_below ((Below.refl _ _).alloc C4.out.size _) (O4.out.alloc _) hg5 (Nat.le_trans C4.out.size (by simp)); have C5 := Lib.hid (C4.out.trans hb5); have O5 := Lib.hid ho5; have Q5 := Lib.hid (Q.out.below C5.out hg); have z5 : w.heap.size < w5.heap.size := Q5.out.lt; clear ho5 hg5 hb5 q0 q1 q2 q3 q4; have q0 : w5.cell? ⟨w.heap.size, 0, none⟩ = some (.int .i64 op) := Q5.out.cell 0; have q1 : w5.cell? ⟨w.heap.size, 1, none⟩ = some (.int .i64 a) := Q5.out.cell 1; have q2 : w5.cell? ⟨w.heap.size, 2, none⟩ = some (.int .i64 b) := Q5.out.cell 2; have q3 : w5.cell? ⟨w.heap.size, 3, none⟩ = some (.int .i64 c) := Q5.out.cell 3; have q4 : w5.cell? ⟨w.heap.size, 4, none⟩ = some (.int .i64 n) := Q5.out.cell 4)
  go_wp2_with fail
  refine (refshape_any _ _).mono ?_
  rintro e w' ⟨rfl, rfl⟩
  rw [H.out]
  go_wp2_with fail
  refine (reftext_any n _ hn.1 hn.2).mono ?_
  rintro e w6 ⟨rfl, hb6⟩
  have C6 := Lib.hid (C5.out.trans (hb6.mono C5.out.size))
  have O6 := Lib.hid (O5.out.below hb6)
  have Q6 := Lib.hid (Q.out.below C6.out hg)
  have z6 : w.heap.size < w6.heap.size := Q6.out.lt
  clear hb6 q0 q1 q2 q3 q4
  have q0 : w6.cell? ⟨w.heap.size, 0, none⟩ = some (.int .i64 op) := Q6.out.cell 0
  have q1 : w6.cell? ⟨w.heap.size, 1, none⟩ = some (.int .i64 a) := Q6.out.cell 1
  have q2 : w6.cell? ⟨w.heap.size, 2, none⟩ = some (.int .i64 b) := Q6.out.cell 2
  have q3 : w6.cell? ⟨w.heap.size, 3, none⟩ = some (.int .i64 c) := Q6.out.cell 3
  have q4 : w6.cell? ⟨w.heap.size, 4, none⟩ = some (.int .i64 n) := Q6.out.cell 4
  go_wp2_with (at_builtin; refine wpList_append_strs _ rfl (.tmp 61) (.tmp 65) rfl rowStr W.heap.size v5 (0 + 1 + 1) _ rfl (O6.out.alloc _) (some ⟨w6.heap.size, 0, none⟩) 1 1 [strOfNums (textNums n)] rfl (strs_built 9 w6 [strOfNums (textNums n)] _ rfl 1 rfl (by decide) _ rfl) (by omega) (Nat.le_trans C6.out.size (by simp)) ?_; intro v7 w7 ho7 hg7 _; have hb7 : Below W.heap.size w6 w7 := OwnsS.grown_below ((Below.refl _ _).alloc C6.out.size _) (O6.out.alloc _) hg7 (Nat.le_trans C6.out.size (by simp)); have C7 := Lib.hid (C6.out.trans hb7); have O7 := Lib.hid ho7; have Q7 := Lib.hid (Q.out.below C7.out hg); have z7 : w.heap.size < w7.heap.size := Q7.out.lt; clear ho7 hg7 hb7 q0 q1 q2 q3 q4; have q0 : w7.cell? ⟨w.heap.size, 0, none⟩ = some (.int .i64 op) := Q7.out.cell 0; have q1 : w7.cell? ⟨w.heap.size, 1, none⟩ = some (.int .i64 a) := Q7.out.cell 1; have q2 : w7.cell? ⟨w.heap.size, 2, none⟩ = some (.int .i64 b) := Q7.out.cell 2; have q3 : w7.cell? ⟨w.heap.size, 3, none⟩ = some (.int .i64 c) := Q7.out.cell 3; have q4 : w7.cell? ⟨w.heap.size, 4, none⟩ = some (.int .i64 n) := Q7.out.cell 4)
  go_wp2_with fail
  have fin := O7.out.more (B' := w.heap.size) (Nat.le_of_lt hg)
  have finB := B0.out.trans (C7.out.mono (Nat.le_of_lt hg))
  obtain ⟨A, k, hv, _⟩ := fin.form
  subst hv
  go_ret
  refine ⟨A, _, k, rfl, ?_, finB⟩
  rw [F.out]
  exact fin

set_option maxHeartbeats 8000000 in
set_option maxRecDepth 100000 in
theorem fields_5 (op a b c n : Int) (w : World) (ha : I64 a) (hb : I64 b) (hc : I64 c) (hn : I64 n) (h : shapeOf op = 5) :
    Calls Tryd.prog 63 #[instrV op a b c n] w fun e w' => ∃ A m k, e = .returned (.slice A m k) ∧ OwnsS 9 w' w.heap.size (.slice A m k) m (fieldTexts op a b c n) ∧ Below w.heap.size w w' := by
  have hk : op ≠ 26 := by
    intro e
    rw [e] at h
    exact absurd h (by decide)
  have dk : (op == 26) = false := by simpa using hk
  have F := Lib.hid (show fieldTexts op a b c n = [(⟨#[114]⟩ : ByteArray) ++ strOfNums (textNums a), (⟨#[114]⟩ : ByteArray) ++ strOfNums (textNums b), (⟨#[114]⟩ : ByteArray) ++ strOfNums (textNums c)] by
    unfold fieldTexts
    rw [h]
    show [rt op 0 a, rt op 1 b, rt op 2 c] = _
    rw [rt_0, rt_1 hk, rt_2])
  have H := Lib.hid h
  have sa := text_size a
  have sb := text_size b
  have sc := text_size c
  have sn := text_size n
  clear h hk
  unfold instrV
  go_enter Tryd.func63, Tryd.ntmps63
  go_wp2_with fail
  refine (refshape_any _ _).mono ?_
  rintro e w' ⟨rfl, rfl⟩
  rw [H.out]
  go_wp2_with fail
  refine (has_any _ _).mono ?_
  rintro e w' ⟨rfl, rfl⟩
  have Q := Lib.hid (Whole.made w 78 #[.int .i64 op, .int .i64 a, .int .i64 b, .int .i64 c, .int .i64 n] _ rfl)
  have hg := Q.out.lt
  have B0 := Lib.hid ((Below.refl w.heap.size w).alloc (Nat.le_refl _) (.cells #[.int .i64 op, .int .i64 a, .int .i64 b, .int .i64 c, .int .i64 n] 78))
  generalize w.alloc (.cells #[.int .i64 op, .int .i64 a, .int .i64 b, .int .i64 c, .int .i64 n] 78) = W at *
  have q0 : W.cell? ⟨w.heap.size, 0, none⟩ = some (.int .i64 op) := Q.out.cell 0
  have q1 : W.cell? ⟨w.heap.size, 1, none⟩ = some (.int .i64 a) := Q.out.cell 1
  have q2 : W.cell? ⟨w.heap.size, 2, none⟩ = some (.int .i64 b) := Q.out.cell 2
  have q3 : W.cell? ⟨w.heap.size, 3, none⟩ = some (.int .i64 c) := Q.out.cell 3
  have q4 : W.cell? ⟨w.heap.size, 4, none⟩ = some (.int .i64 n) := Q.out.cell 4
  have C0 := Lib.hid (Below.refl W.heap.size W)
  have O0 := Lib.hid (OwnsS.nil 9 W W.heap.size)
  go_wp2_with fail
  refine (reftext_any a _ ha.1 ha.2).mono ?_
  rintro e w1 ⟨rfl, hb1⟩
  have C1 := Lib.hid (C0.out.trans (hb1.mono C0.out.size))
  have O1 := Lib.hid (O0.out.below hb1)
  have Q1 := Lib.hid (Q.out.below C1.out hg)
  have z1 : w.heap.size < w1.heap.size := Q1.out.lt
  clear hb1 q0 q1 q2 q3 q4
  have q0 : w1.cell? ⟨w.heap.size, 0, none⟩ = some (.int .i64 op) := Q1.out.cell 0
  have q1 : w1.cell? ⟨w.heap.size, 1, none⟩ = some (.int .i64 a) := Q1.out.cell 1
  have q2 : w1.cell? ⟨w.heap.size, 2, none⟩ = some (.int .i64 b) := Q1.out.cell 2
  have q3 : w1.cell? ⟨w.heap.size, 3, none⟩ = some (.int .i64 c) := Q1.out.cell 3
  have q4 : w1.cell? ⟨w.heap.size, 4, none⟩ = some (.int .i64 n) := Q1.out.cell 4
  go_wp2_with (at_builtin; refine wpList_append_strs _ rfl (.tmp 18) (.tmp 23) rfl rowStr W.heap.size (.slice none 0 0) (0) _ rfl (O1.out.alloc _) (some ⟨w1.heap.size, 0, none⟩) 1 1 [(⟨#[114]⟩ : ByteArray) ++ strOfNums (textNums a)] rfl (strs_built 9 w1 [(⟨#[114]⟩ : ByteArray) ++ strOfNums (textNums a)] _ rfl 1 rfl (by decide) _ rfl) (by omega) (Nat.le_trans C1.out.size (by simp)) ?_; intro v2 w2 ho2 hg2 _; have hb2 : Below W.heap.size w1 w2 := OwnsS.grown_below ((Below.refl _ _).alloc C1.out.size _) (O1.out.alloc _) hg2 (Nat.le_trans C1.out.size (by simp)); have C2 := Lib.hid (C1.out.trans hb2); have O2 := Lib.hid ho2; have Q2 := Lib.hid (Q.out.below C2.out hg); have z2 : w.heap.size < w2.heap.size := Q2.out.lt; clear ho2 hg2 hb2 q0 q1 q2 q3 q4; have q0 : w2.cell? ⟨w.heap.size, 0, none⟩ = some (.int .i64 op) := Q2.out.cell 0; have q1 : w2.cell? ⟨w.heap.size, 1, none⟩ = some (.int .i64 a) := Q2.out.cell 1; have q2 : w2.cell? ⟨w.heap.size, 2, none⟩ = some (.int .i64 b) := Q2.out.cell 2; have q3 : w2.cell? ⟨w.heap.size, 3, none⟩ = some (.int .i64 c) := Q2.out.cell 3; have q4 : w2.cell? ⟨w.heap.size, 4, none⟩ = some (.int .i64 n) := Q2.out.cell 4)
  go_wp2_with fail
  refine (reftext_any b _ hb.1 hb.2).mono ?_
  rintro e w3 ⟨rfl, hb3⟩
  have C3 := Lib.hid (C2.out.trans (hb3.mono C2.out.size))
  have O3 := Lib.hid (O2.out.below hb3)
  have Q3 := Lib.hid (Q.out.below C3.out hg)
  have z3 : w.heap.size < w3.heap.size := Q3.out.lt
  clear hb3 q0 q1 q2 q3 q4
  have q0 : w3.cell? ⟨w.heap.size, 0, none⟩ = some (.int .i64 op) := Q3.out.cell 0
  have q1 : w3.cell? ⟨w.heap.size, 1, none⟩ = some (.int .i64 a) := Q3.out.cell 1
  have q2 : w3.cell? ⟨w.heap.size, 2, none⟩ = some (.int .i64 b) := Q3.out.cell 2
  have q3 : w3.cell? ⟨w.heap.size, 3, none⟩ = some (.int .i64 c) := Q3.out.cell 3
  have q4 : w3.cell? ⟨w.heap.size, 4, none⟩ = some (.int .i64 n) := Q3.out.cell 4
  go_wp2_with (at_builtin; refine wpList_append_strs _ rfl (.tmp 36) (.tmp 38) rfl rowStr W.heap.size v2 (0 + 1) _ rfl (O3.out.alloc _) (some ⟨w3.heap.size, 0, none⟩) 1 1 [(⟨#[114]⟩ : ByteArray) ++ strOfNums (textNums b)] rfl (strs_built 9 w3 [(⟨#[114]⟩ : ByteArray) ++ strOfNums (textNums b)] _ rfl 1 rfl (by decide) _ rfl) (by omega) (Nat.le_trans C3.out.size (by simp)) ?_; intro v4 w4 ho4 hg4 _; have hb4 : Below W.heap.size w3 w4 := OwnsS.grown_below ((Below.refl _ _).alloc C3.out.size _) (O3.out.alloc _) hg4 (Nat.le_trans C3.out.size (by simp)); have C4 := Lib.hid (C3.out.trans hb4); have O4 := Lib.hid ho4; have Q4 := Lib.hid (Q.out.below C4.out hg); have z4 : w.heap.size < w4.heap.size := Q4.out.lt; clear ho4 hg4 hb4 q0 q1 q2 q3 q4; have q0 : w4.cell? ⟨w.heap.size, 0, none⟩ = some (.int .i64 op) := Q4.out.cell 0; have q1 : w4.cell? ⟨w.heap.size, 1, none⟩ = some (.int .i64 a) := Q4.out.cell 1; have q2 : w4.cell? ⟨w.heap.size, 2, none⟩ = some (.int .i64 b) := Q4.out.cell 2; have q3 : w4.cell? ⟨w.heap.size, 3, none⟩ = some (.int .i64 c) := Q4.out.cell 3; have q4 : w4.cell? ⟨w.heap.size, 4, none⟩ = some (.int .i64 n) := Q4.out.cell 4)
  go_wp2_with fail
  refine (reftext_any c _ hc.1 hc.2).mono ?_
  rintro e w5 ⟨rfl, hb5⟩
  have C5 := Lib.hid (C4.out.trans (hb5.mono C4.out.size))
  have O5 := Lib.hid (O4.out.below hb5)
  have Q5 := Lib.hid (Q.out.below C5.out hg)
  have z5 : w.heap.size < w5.heap.size := Q5.out.lt
  clear hb5 q0 q1 q2 q3 q4
  have q0 : w5.cell? ⟨w.heap.size, 0, none⟩ = some (.int .i64 op) := Q5.out.cell 0
  have q1 : w5.cell? ⟨w.heap.size, 1, none⟩ = some (.int .i64 a) := Q5.out.cell 1
  have q2 : w5.cell? ⟨w.heap.size, 2, none⟩ = some (.int .i64 b) := Q5.out.cell 2
  have q3 : w5.cell? ⟨w.heap.size, 3, none⟩ = some (.int .i64 c) := Q5.out.cell 3
  have q4 : w5.cell? ⟨w.heap.size, 4, none⟩ = some (.int .i64 n) := Q5.out.cell 4
  go_wp2_with (at_builtin; refine wpList_append_strs _ rfl (.tmp 41) (.tmp 46) rfl rowStr W.heap.size v4 (0 + 1 + 1) _ rfl (O5.out.alloc _) (some ⟨w5.heap.size, 0, none⟩) 1 1 [(⟨#[114]⟩ : ByteArray) ++ strOfNums (textNums c)] rfl (strs_built 9 w5 [(⟨#[114]⟩ : ByteArray) ++ strOfNums (textNums c)] _ rfl 1 rfl (by decide) _ rfl) (by omega) (Nat.le_trans C5.out.size (by simp)) ?_; intro v6 w6 ho6 hg6 _; have hb6 : Below W.heap.size w5 w6 := OwnsS.grown_below ((Below.refl _ _).alloc C5.out.size _) (O5.out.alloc _) hg6 (Nat.le_trans C5.out.size (by simp)); have C6 := Lib.hid (C5.out.trans hb6); have O6 := Lib.hid ho6; have Q6 := Lib.hid (Q.out.below C6.out hg); have z6 : w.heap.size < w6.heap.size := Q6.out.lt; clear ho6 hg6 hb6 q0 q1 q2 q3 q4; have q0 : w6.cell? ⟨w.heap.size, 0, none⟩ = some (.int .i64 op) := Q6.out.cell 0; have q1 : w6.cell? ⟨w.heap.size, 1, none⟩ = some (.int .i64 a) := Q6.out.cell 1; have q2 : w6.cell? ⟨w.heap.size, 2, none⟩ = some (.int .i64 b) := Q6.out.cell 2; have q3 : w6.cell? ⟨w.heap.size, 3, none⟩ = some (.int .i64 c) := Q6.out.cell 3; have q4 : w6.cell? ⟨w.heap.size, 4, none⟩ = some (.int .i64 n) := Q6.out.cell 4)
  go_wp2_with fail
  refine (refshape_any _ _).mono ?_
  rintro e w' ⟨rfl, rfl⟩
  rw [H.out]
  go_wp2_with fail
  have fin := O6.out.more (B' := w.heap.size) (Nat.le_of_lt hg)
  have finB := B0.out.trans (C6.out.mono (Nat.le_of_lt hg))
  obtain ⟨A, k, hv, _⟩ := fin.form
  subst hv
  go_ret
  refine ⟨A, _, k, rfl, ?_, finB⟩
  rw [F.out]
  exact fin
end Go.Proofs.YtnmpamfgkidmiaaDoor

/- The answers' Fields of package instr, by shapes: part 2. -/
namespace Go.Proofs.YtnmpamfgkidmiaaDoor
open Go.ChangeShapes Go.WideShapes Go.ChangeAt Go.RowKit
set_option linter.unusedVariables false

set_option maxHeartbeats 8000000 in
set_option maxRecDepth 100000 in
theorem fields_6 (op a b c n : Int) (w : World) (ha : I64 a) (hb : I64 b) (hc : I64 c) (hn : I64 n) (h : shapeOf op = 6) :
    Calls Tryd.prog 63 #[instrV op a b c n] w fun e w' => ∃ A m k, e = .returned (.slice A m k) ∧ OwnsS 9 w' w.heap.size (.slice A m k) m (fieldTexts op a b c n) ∧ Below w.heap.size w w' := by
  have hk : op ≠ 26 := by
    intro e
    rw [e] at h
    exact absurd h (by decide)
  have dk : (op == 26) = false := by simpa using hk
  have F := Lib.hid (show fieldTexts op a b c n = [(⟨#[114]⟩ : ByteArray) ++ strOfNums (textNums a)] by
    unfold fieldTexts
    rw [h]
    show [rt op 0 a] = _
    rw [rt_0])
  have H := Lib.hid h
  have sa := text_size a
  have sb := text_size b
  have sc := text_size c
  have sn := text_size n
  clear h hk
  unfold instrV
  go_enter Tryd.func63, Tryd.ntmps63
  go_wp2_with fail
  refine (refshape_any _ _).mono ?_
  rintro e w' ⟨rfl, rfl⟩
  rw [H.out]
  go_wp2_with fail
  refine (has_any _ _).mono ?_
  rintro e w' ⟨rfl, rfl⟩
  have Q := Lib.hid (Whole.made w 78 #[.int .i64 op, .int .i64 a, .int .i64 b, .int .i64 c, .int .i64 n] _ rfl)
  have hg := Q.out.lt
  have B0 := Lib.hid ((Below.refl w.heap.size w).alloc (Nat.le_refl _) (.cells #[.int .i64 op, .int .i64 a, .int .i64 b, .int .i64 c, .int .i64 n] 78))
  generalize w.alloc (.cells #[.int .i64 op, .int .i64 a, .int .i64 b, .int .i64 c, .int .i64 n] 78) = W at *
  have q0 : W.cell? ⟨w.heap.size, 0, none⟩ = some (.int .i64 op) := Q.out.cell 0
  have q1 : W.cell? ⟨w.heap.size, 1, none⟩ = some (.int .i64 a) := Q.out.cell 1
  have q2 : W.cell? ⟨w.heap.size, 2, none⟩ = some (.int .i64 b) := Q.out.cell 2
  have q3 : W.cell? ⟨w.heap.size, 3, none⟩ = some (.int .i64 c) := Q.out.cell 3
  have q4 : W.cell? ⟨w.heap.size, 4, none⟩ = some (.int .i64 n) := Q.out.cell 4
  have C0 := Lib.hid (Below.refl W.heap.size W)
  have O0 := Lib.hid (OwnsS.nil 9 W W.heap.size)
  go_wp2_with fail
  refine (reftext_any a _ ha.1 ha.2).mono ?_
  rintro e w1 ⟨rfl, hb1⟩
  have C1 := Lib.hid (C0.out.trans (hb1.mono C0.out.size))
  have O1 := Lib.hid (O0.out.below hb1)
  have Q1 := Lib.hid (Q.out.below C1.out hg)
  have z1 : w.heap.size < w1.heap.size := Q1.out.lt
  clear hb1 q0 q1 q2 q3 q4
  have q0 : w1.cell? ⟨w.heap.size, 0, none⟩ = some (.int .i64 op) := Q1.out.cell 0
  have q1 : w1.cell? ⟨w.heap.size, 1, none⟩ = some (.int .i64 a) := Q1.out.cell 1
  have q2 : w1.cell? ⟨w.heap.size, 2, none⟩ = some (.int .i64 b) := Q1.out.cell 2
  have q3 : w1.cell? ⟨w.heap.size, 3, none⟩ = some (.int .i64 c) := Q1.out.cell 3
  have q4 : w1.cell? ⟨w.heap.size, 4, none⟩ = some (.int .i64 n) := Q1.out.cell 4
  go_wp2_with (at_builtin; refine wpList_append_strs _ rfl (.tmp 18) (.tmp 23) rfl rowStr W.heap.size (.slice none 0 0) (0) _ rfl (O1.out.alloc _) (some ⟨w1.heap.size, 0, none⟩) 1 1 [(⟨#[114]⟩ : ByteArray) ++ strOfNums (textNums a)] rfl (strs_built 9 w1 [(⟨#[114]⟩ : ByteArray) ++ strOfNums (textNums a)] _ rfl 1 rfl (by decide) _ rfl) (by omega) (Nat.le_trans C1.out.size (by simp)) ?_; intro v2 w2 ho2 hg2 _; have hb2 : Below W.heap.size w1 w2 := OwnsS.grown_below ((Below.refl _ _).alloc C1.out.size _) (O1.out.alloc _) hg2 (Nat.le_trans C1.out.size (by simp)); have C2 := Lib.hid (C1.out.trans hb2); have O2 := Lib.hid ho2; have Q2 := Lib.hid (Q.out.below C2.out hg); have z2 : w.heap.size < w2.heap.size := Q2.out.lt; clear ho2 hg2 hb2 q0 q1 q2 q3 q4; have q0 : w2.cell? ⟨w.heap.size, 0, none⟩ = some (.int .i64 op) := Q2.out.cell 0; have q1 : w2.cell? ⟨w.heap.size, 1, none⟩ = some (.int .i64 a) := Q2.out.cell 1; have q2 : w2.cell? ⟨w.heap.size, 2, none⟩ = some (.int .i64 b) := Q2.out.cell 2; have q3 : w2.cell? ⟨w.heap.size, 3, none⟩ = some (.int .i64 c) := Q2.out.cell 3; have q4 : w2.cell? ⟨w.heap.size, 4, none⟩ = some (.int .i64 n) := Q2.out.cell 4)
  go_wp2_with fail
  refine (refshape_any _ _).mono ?_
  rintro e w' ⟨rfl, rfl⟩
  rw [H.out]
  go_wp2_with fail
  have fin := O2.out.more (B' := w.heap.size) (Nat.le_of_lt hg)
  have finB := B0.out.trans (C2.out.mono (Nat.le_of_lt hg))
  obtain ⟨A, k, hv, _⟩ := fin.form
  subst hv
  go_ret
  refine ⟨A, _, k, rfl, ?_, finB⟩
  rw [F.out]
  exact fin

set_option maxHeartbeats 8000000 in
set_option maxRecDepth 100000 in
theorem fields_7 (op a b c n : Int) (w : World) (ha : I64 a) (hb : I64 b) (hc : I64 c) (hn : I64 n) (h : shapeOf op = 7) :
    Calls Tryd.prog 63 #[instrV op a b c n] w fun e w' => ∃ A m k, e = .returned (.slice A m k) ∧ OwnsS 9 w' w.heap.size (.slice A m k) m (fieldTexts op a b c n) ∧ Below w.heap.size w w' := by
  have hk : op ≠ 26 := by
    intro e
    rw [e] at h
    exact absurd h (by decide)
  have dk : (op == 26) = false := by simpa using hk
  have F := Lib.hid (show fieldTexts op a b c n = [strOfNums (textNums n)] by
    unfold fieldTexts
    rw [h]
    show [nt n] = _
    rfl)
  have H := Lib.hid h
  have sa := text_size a
  have sb := text_size b
  have sc := text_size c
  have sn := text_size n
  clear h hk
  unfold instrV
  go_enter Tryd.func63, Tryd.ntmps63
  go_wp2_with fail
  refine (refshape_any _ _).mono ?_
  rintro e w' ⟨rfl, rfl⟩
  rw [H.out]
  go_wp2_with fail
  refine (has_any _ _).mono ?_
  rintro e w' ⟨rfl, rfl⟩
  have Q := Lib.hid (Whole.made w 78 #[.int .i64 op, .int .i64 a, .int .i64 b, .int .i64 c, .int .i64 n] _ rfl)
  have hg := Q.out.lt
  have B0 := Lib.hid ((Below.refl w.heap.size w).alloc (Nat.le_refl _) (.cells #[.int .i64 op, .int .i64 a, .int .i64 b, .int .i64 c, .int .i64 n] 78))
  generalize w.alloc (.cells #[.int .i64 op, .int .i64 a, .int .i64 b, .int .i64 c, .int .i64 n] 78) = W at *
  have q0 : W.cell? ⟨w.heap.size, 0, none⟩ = some (.int .i64 op) := Q.out.cell 0
  have q1 : W.cell? ⟨w.heap.size, 1, none⟩ = some (.int .i64 a) := Q.out.cell 1
  have q2 : W.cell? ⟨w.heap.size, 2, none⟩ = some (.int .i64 b) := Q.out.cell 2
  have q3 : W.cell? ⟨w.heap.size, 3, none⟩ = some (.int .i64 c) := Q.out.cell 3
  have q4 : W.cell? ⟨w.heap.size, 4, none⟩ = some (.int .i64 n) := Q.out.cell 4
  have C0 := Lib.hid (Below.refl W.heap.size W)
  have O0 := Lib.hid (OwnsS.nil 9 W W.heap.size)
  go_wp2_with fail
  refine (refshape_any _ _).mono ?_
  rintro e w' ⟨rfl, rfl⟩
  rw [H.out]
  go_wp2_with fail
  refine (reftext_any n _ hn.1 hn.2).mono ?_
  rintro e w1 ⟨rfl, hb1⟩
  have C1 := Lib.hid (C0.out.trans (hb1.mono C0.out.size))
  have O1 := Lib.hid (O0.out.below hb1)
  have Q1 := Lib.hid (Q.out.below C1.out hg)
  have z1 : w.heap.size < w1.heap.size := Q1.out.lt
  clear hb1 q0 q1 q2 q3 q4
  have q0 : w1.cell? ⟨w.heap.size, 0, none⟩ = some (.int .i64 op) := Q1.out.cell 0
  have q1 : w1.cell? ⟨w.heap.size, 1, none⟩ = some (.int .i64 a) := Q1.out.cell 1
  have q2 : w1.cell? ⟨w.heap.size, 2, none⟩ = some (.int .i64 b) := Q1.out.cell 2
  have q3 : w1.cell? ⟨w.heap.size, 3, none⟩ = some (.int .i64 c) := Q1.out.cell 3
  have q4 : w1.cell? ⟨w.heap.size, 4, none⟩ = some (.int .i64 n) := Q1.out.cell 4
  go_wp2_with (at_builtin; refine wpList_append_strs _ rfl (.tmp 61) (.tmp 65) rfl rowStr W.heap.size (.slice none 0 0) (0) _ rfl (O1.out.alloc _) (some ⟨w1.heap.size, 0, none⟩) 1 1 [strOfNums (textNums n)] rfl (strs_built 9 w1 [strOfNums (textNums n)] _ rfl 1 rfl (by decide) _ rfl) (by omega) (Nat.le_trans C1.out.size (by simp)) ?_; intro v2 w2 ho2 hg2 _; have hb2 : Below W.heap.size w1 w2 := OwnsS.grown_below ((Below.refl _ _).alloc C1.out.size _) (O1.out.alloc _) hg2 (Nat.le_trans C1.out.size (by simp)); have C2 := Lib.hid (C1.out.trans hb2); have O2 := Lib.hid ho2; have Q2 := Lib.hid (Q.out.below C2.out hg); have z2 : w.heap.size < w2.heap.size := Q2.out.lt; clear ho2 hg2 hb2 q0 q1 q2 q3 q4; have q0 : w2.cell? ⟨w.heap.size, 0, none⟩ = some (.int .i64 op) := Q2.out.cell 0; have q1 : w2.cell? ⟨w.heap.size, 1, none⟩ = some (.int .i64 a) := Q2.out.cell 1; have q2 : w2.cell? ⟨w.heap.size, 2, none⟩ = some (.int .i64 b) := Q2.out.cell 2; have q3 : w2.cell? ⟨w.heap.size, 3, none⟩ = some (.int .i64 c) := Q2.out.cell 3; have q4 : w2.cell? ⟨w.heap.size, 4, none⟩ = some (.int .i64 n) := Q2.out.cell 4)
  go_wp2_with fail
  have fin := O2.out.more (B' := w.heap.size) (Nat.le_of_lt hg)
  have finB := B0.out.trans (C2.out.mono (Nat.le_of_lt hg))
  obtain ⟨A, k, hv, _⟩ := fin.form
  subst hv
  go_ret
  refine ⟨A, _, k, rfl, ?_, finB⟩
  rw [F.out]
  exact fin

set_option maxHeartbeats 8000000 in
set_option maxRecDepth 100000 in
theorem fields_8 (op a b c n : Int) (w : World) (ha : I64 a) (hb : I64 b) (hc : I64 c) (hn : I64 n) (h : shapeOf op = 8) :
    Calls Tryd.prog 63 #[instrV op a b c n] w fun e w' => ∃ A m k, e = .returned (.slice A m k) ∧ OwnsS 9 w' w.heap.size (.slice A m k) m (fieldTexts op a b c n) ∧ Below w.heap.size w w' := by
  have hk : op ≠ 26 := by
    intro e
    rw [e] at h
    exact absurd h (by decide)
  have dk : (op == 26) = false := by simpa using hk
  have F := Lib.hid (show fieldTexts op a b c n = [strOfNums (textNums n)] by
    unfold fieldTexts
    rw [h]
    show [nt n] = _
    rfl)
  have H := Lib.hid h
  have sa := text_size a
  have sb := text_size b
  have sc := text_size c
  have sn := text_size n
  clear h hk
  unfold instrV
  go_enter Tryd.func63, Tryd.ntmps63
  go_wp2_with fail
  refine (refshape_any _ _).mono ?_
  rintro e w' ⟨rfl, rfl⟩
  rw [H.out]
  go_wp2_with fail
  refine (has_any _ _).mono ?_
  rintro e w' ⟨rfl, rfl⟩
  have Q := Lib.hid (Whole.made w 78 #[.int .i64 op, .int .i64 a, .int .i64 b, .int .i64 c, .int .i64 n] _ rfl)
  have hg := Q.out.lt
  have B0 := Lib.hid ((Below.refl w.heap.size w).alloc (Nat.le_refl _) (.cells #[.int .i64 op, .int .i64 a, .int .i64 b, .int .i64 c, .int .i64 n] 78))
  generalize w.alloc (.cells #[.int .i64 op, .int .i64 a, .int .i64 b, .int .i64 c, .int .i64 n] 78) = W at *
  have q0 : W.cell? ⟨w.heap.size, 0, none⟩ = some (.int .i64 op) := Q.out.cell 0
  have q1 : W.cell? ⟨w.heap.size, 1, none⟩ = some (.int .i64 a) := Q.out.cell 1
  have q2 : W.cell? ⟨w.heap.size, 2, none⟩ = some (.int .i64 b) := Q.out.cell 2
  have q3 : W.cell? ⟨w.heap.size, 3, none⟩ = some (.int .i64 c) := Q.out.cell 3
  have q4 : W.cell? ⟨w.heap.size, 4, none⟩ = some (.int .i64 n) := Q.out.cell 4
  have C0 := Lib.hid (Below.refl W.heap.size W)
  have O0 := Lib.hid (OwnsS.nil 9 W W.heap.size)
  go_wp2_with fail
  refine (refshape_any _ _).mono ?_
  rintro e w' ⟨rfl, rfl⟩
  rw [H.out]
  go_wp2_with fail
  refine (reftext_any n _ hn.1 hn.2).mono ?_
  rintro e w1 ⟨rfl, hb1⟩
  have C1 := Lib.hid (C0.out.trans (hb1.mono C0.out.size))
  have O1 := Lib.hid (O0.out.below hb1)
  have Q1 := Lib.hid (Q.out.below C1.out hg)
  have z1 : w.heap.size < w1.heap.size := Q1.out.lt
  clear hb1 q0 q1 q2 q3 q4
  have q0 : w1.cell? ⟨w.heap.size, 0, none⟩ = some (.int .i64 op) := Q1.out.cell 0
  have q1 : w1.cell? ⟨w.heap.size, 1, none⟩ = some (.int .i64 a) := Q1.out.cell 1
  have q2 : w1.cell? ⟨w.heap.size, 2, none⟩ = some (.int .i64 b) := Q1.out.cell 2
  have q3 : w1.cell? ⟨w.heap.size, 3, none⟩ = some (.int .i64 c) := Q1.out.cell 3
  have q4 : w1.cell? ⟨w.heap.size, 4, none⟩ = some (.int .i64 n) := Q1.out.cell 4
  go_wp2_with (at_builtin; refine wpList_append_strs _ rfl (.tmp 61) (.tmp 65) rfl rowStr W.heap.size (.slice none 0 0) (0) _ rfl (O1.out.alloc _) (some ⟨w1.heap.size, 0, none⟩) 1 1 [strOfNums (textNums n)] rfl (strs_built 9 w1 [strOfNums (textNums n)] _ rfl 1 rfl (by decide) _ rfl) (by omega) (Nat.le_trans C1.out.size (by simp)) ?_; intro v2 w2 ho2 hg2 _; have hb2 : Below W.heap.size w1 w2 := OwnsS.grown_below ((Below.refl _ _).alloc C1.out.size _) (O1.out.alloc _) hg2 (Nat.le_trans C1.out.size (by simp)); have C2 := Lib.hid (C1.out.trans hb2); have O2 := Lib.hid ho2; have Q2 := Lib.hid (Q.out.below C2.out hg); have z2 : w.heap.size < w2.heap.size := Q2.out.lt; clear ho2 hg2 hb2 q0 q1 q2 q3 q4; have q0 : w2.cell? ⟨w.heap.size, 0, none⟩ = some (.int .i64 op) := Q2.out.cell 0; have q1 : w2.cell? ⟨w.heap.size, 1, none⟩ = some (.int .i64 a) := Q2.out.cell 1; have q2 : w2.cell? ⟨w.heap.size, 2, none⟩ = some (.int .i64 b) := Q2.out.cell 2; have q3 : w2.cell? ⟨w.heap.size, 3, none⟩ = some (.int .i64 c) := Q2.out.cell 3; have q4 : w2.cell? ⟨w.heap.size, 4, none⟩ = some (.int .i64 n) := Q2.out.cell 4)
  go_wp2_with fail
  have fin := O2.out.more (B' := w.heap.size) (Nat.le_of_lt hg)
  have finB := B0.out.trans (C2.out.mono (Nat.le_of_lt hg))
  obtain ⟨A, k, hv, _⟩ := fin.form
  subst hv
  go_ret
  refine ⟨A, _, k, rfl, ?_, finB⟩
  rw [F.out]
  exact fin
end Go.Proofs.YtnmpamfgkidmiaaDoor

/- The answers' Fields of package instr. -/
namespace Go.Proofs.YtnmpamfgkidmiaaDoor
open Go.ChangeShapes Go.WideShapes Go.ChangeAt Go.RowKit
set_option linter.unusedVariables false

theorem fields_any (op a b c n : Int) (w : World) (ha : I64 a) (hb : I64 b) (hc : I64 c) (hn : I64 n) (h : shapeOf op ≠ -1) :
    Calls Tryd.prog 63 #[instrV op a b c n] w fun e w' => ∃ A m k, e = .returned (.slice A m k) ∧ OwnsS 9 w' w.heap.size (.slice A m k) m (fieldTexts op a b c n) ∧ Below w.heap.size w w' := by
  rcases shape_cases op with g | g | g | g | g | g | g | g | g | g
  · exact absurd g h
  · exact fields_0 op a b c n w ha hb hc hn g
  · exact fields_1 op a b c n w ha hb hc hn g
  · exact fields_2 op a b c n w ha hb hc hn g
  · exact fields_3 op a b c n w ha hb hc hn g
  · by_cases hk : op = 26
    · exact fields_4c op a b c n w ha hb hc hn g hk
    · exact fields_4 op a b c n w ha hb hc hn g hk
  · exact fields_5 op a b c n w ha hb hc hn g
  · exact fields_6 op a b c n w ha hb hc hn g
  · exact fields_7 op a b c n w ha hb hc hn g
  · exact fields_8 op a b c n w ha hb hc hn g
end Go.Proofs.YtnmpamfgkidmiaaDoor

/- The answers' Text of package instr. -/
namespace Go.Proofs.YtnmpamfgkidmiaaDoor
open Go.ChangeShapes Go.WideShapes Go.ChangeAt Go.RowKit
set_option linter.unusedVariables false

/-- The name and the first k fields, as the answers put them together. -/
def joinUp (s : ByteArray) (l : List ByteArray) : Nat → ByteArray
  | 0 => s
  | k + 1 => (if 0 < k then joinUp s l k ++ ⟨#[44]⟩ else joinUp s l k) ++ ⟨#[32]⟩ ++ l.getD k ⟨#[]⟩

/-- The text of an instruction. -/
def textOf (op a b c n : Int) : ByteArray := joinUp (nameOf op) (fieldTexts op a b c n) (fieldTexts op a b c n).length

theorem name_size (op : Int) : (nameOf op).size ≤ 5 := by
  unfold nameOf
  split
  · have h : (nameRow.all fun x => decide (x.size ≤ 5)) = true := by decide +kernel
    rcases Nat.lt_or_ge op.toNat nameRow.length with hl | hl
    · have := List.all_eq_true.1 h nameRow[op.toNat] (List.getElem_mem hl)
      simpa [List.getD, hl] using this
    · simp only [List.getD, List.getElem?_eq_none hl, Option.getD_none]
      exact Nat.zero_le 5
  · decide

theorem rt_size (op k r : Int) : (rt op k r).size ≤ 22 := by
  have := text_size r
  have e0 : (⟨#[]⟩ : ByteArray).size = 0 := rfl
  have e1 : (⟨#[114]⟩ : ByteArray).size = 1 := rfl
  unfold rt pfx
  split <;> simp only [ByteArray.size_append] <;> omega

theorem fields_small (op a b c n : Int) : (fieldTexts op a b c n).length ≤ 4 ∧ ∀ x ∈ fieldTexts op a b c n, x.size ≤ 22 := by
  have h0 := rt_size op 0 a
  have h1 := rt_size op 1 b
  have h2 := rt_size op 2 c
  have h3 : (nt n).size ≤ 22 := Nat.le_trans (text_size n) (by omega)
  unfold fieldTexts
  constructor
  · split <;> split <;> split <;> split <;> simp
  · intro x hx
    simp only [List.mem_append] at hx
    rcases hx with hx | hx | hx | hx <;> split at hx <;> simp at hx <;> subst hx <;> assumption

theorem getD_small {l : List ByteArray} (h : ∀ x ∈ l, x.size ≤ 22) (k : Nat) : (l.getD k ⟨#[]⟩).size ≤ 22 := by
  rcases Nat.lt_or_ge k l.length with hk | hk
  · have := h l[k] (List.getElem_mem hk)
    simpa [List.getD, hk] using this
  · simp only [List.getD, List.getElem?_eq_none hk, Option.getD_none]
    exact Nat.zero_le 22

theorem join_small (s : ByteArray) (l : List ByteArray) (hs : s.size ≤ 5) (h : ∀ x ∈ l, x.size ≤ 22) : ∀ k, (joinUp s l k).size ≤ 5 + 24 * k
  | 0 => by simpa [joinUp] using hs
  | k + 1 => by
    have ih := join_small s l hs h k
    have hg := getD_small h k
    unfold joinUp
    split
    · simp only [ByteArray.size_append]
      have e1 : (⟨#[44]⟩ : ByteArray).size = 1 := rfl
      have e2 : (⟨#[32]⟩ : ByteArray).size = 1 := rfl
      omega
    · simp only [ByteArray.size_append]
      have e2 : (⟨#[32]⟩ : ByteArray).size = 1 := rfl
      omega

set_option maxHeartbeats 4000000 in
set_option maxRecDepth 100000 in
theorem reftext02_any (op a b c n : Int) (w : World) (ha : I64 a) (hb : I64 b) (hc : I64 c) (hn : I64 n) :
    Calls Tryd.prog 32 #[instrV op a b c n] w fun e w' => e = .returned (.tuple #[.string (if checkOf op a b c n = 0 then textOf op a b c n else ⟨#[]⟩), .int .i64 (checkOf op a b c n)]) ∧ Below w.heap.size w w' := by
  by_cases hk : checkOf op a b c n = 0
  · rw [if_pos hk, hk]
    have hC := fun w => refcheck_any op a b c n w
    rw [hk] at hC
    have hF := fun w => fields_any op a b c n w ha hb hc hn (good_of_check hk).1
    obtain ⟨hl4, hsm⟩ := fields_small op a b c n
    have hns := name_size op
    have T := Lib.hid (show textOf op a b c n = joinUp (nameOf op) (fieldTexts op a b c n) (fieldTexts op a b c n).length from rfl)
    have C := Lib.hid hC
    have F := Lib.hid hF
    have SM := Lib.hid hsm
    clear hC hF hk hsm ha hb hc hn
    unfold instrV at *
    generalize textOf op a b c n = tx at *
    generalize fieldTexts op a b c n = ft at *
    have N := Lib.hid (fun w => refname_any op w)
    generalize nameOf op = nm at *
    go_enter Tryd.func32, Tryd.ntmps32
    go_wp2_with fail
    refine (C.out _).mono ?_
    rintro e w1 ⟨rfl, hb1⟩
    have Q1 := Lib.hid ((Whole.made w 78 #[.int .i64 op, .int .i64 a, .int .i64 b, .int .i64 c, .int .i64 n] _ rfl).below hb1 (by simp))
    have B1 := Lib.hid (((Below.refl _ _).alloc (Nat.le_refl _) _).trans (hb1.mono (show w.heap.size ≤ _ by simp)))
    have z1 : w.heap.size < w1.heap.size := Q1.out.lt
    have q0 : w1.cell? ⟨w.heap.size, 0, none⟩ = some (.int .i64 op) := Q1.out.cell 0
    clear hb1
    go_wp2_with fail
    refine (N.out _).mono ?_
    rintro e w2 ⟨rfl, hb2⟩
    have Q2 := Lib.hid (Q1.out.below hb2 z1)
    have B2 := Lib.hid (B1.out.trans (hb2.mono (Nat.le_of_lt z1)))
    have z2 : w.heap.size < w2.heap.size := Q2.out.lt
    clear hb2 q0
    have q0 : w2.cell? ⟨w.heap.size, 0, none⟩ = some (.int .i64 op) := Q2.out.cell 0
    have q1 : w2.cell? ⟨w.heap.size, 1, none⟩ = some (.int .i64 a) := Q2.out.cell 1
    have q2 : w2.cell? ⟨w.heap.size, 2, none⟩ = some (.int .i64 b) := Q2.out.cell 2
    have q3 : w2.cell? ⟨w.heap.size, 3, none⟩ = some (.int .i64 c) := Q2.out.cell 3
    have q4 : w2.cell? ⟨w.heap.size, 4, none⟩ = some (.int .i64 n) := Q2.out.cell 4
    go_wp2_with fail
    refine (F.out _).mono ?_
    rintro e w3 ⟨A, m, k, rfl, ho3, hb3⟩
    have hlen := ho3.len
    have O3 := Lib.hid ho3.nums
    have B3 := Lib.hid (B2.out.trans (hb3.mono (Nat.le_of_lt z2)))
    clear ho3 hb3 q0 q1 q2 q3 q4
    subst hlen
    go_wp2_with fail
    go_loop [5, 7] (fun s i => ∃ j : Nat, j ≤ ft.length ∧ i = .int .i64 j ∧ s = .string (joinUp nm ft j)) (fun _ i => ft.length - (intOf i).toNat)
    case atStart => exact ⟨0, Nat.zero_le _, rfl, rfl⟩
    case round =>
      obtain ⟨j, hj, rfl, rfl⟩ := hrel
      by_cases hlt : j < ft.length
      · obtain ⟨bb, off, rfl, hbb, hcell⟩ := O3.out.2 (by omega)
        have hc := hcell j hlt
        have hs1 := join_small nm ft hns SM.out j
        have hs2 := getD_small SM.out j
        have hd : (j : Int) < (ft.length : Int) := by omega
        have HJ := Lib.hid (show joinUp nm ft (j + 1) = (if 0 < j then joinUp nm ft j ++ ⟨#[44]⟩ else joinUp nm ft j) ++ ⟨#[32]⟩ ++ ft.getD j ⟨#[]⟩ from rfl)
        generalize ft.getD j ⟨#[]⟩ = x at *
        generalize joinUp nm ft j = y at *
        clear hcell
        by_cases h0 : 0 < j
        · have d0 : decide (0 < (j : Int)) = true := by simp; omega
          have hs3 : y.size ≤ 125 := by omega
          go_wp2
          go_round
          case rel => exact ⟨j + 1, by omega, by go_num, by rw [HJ.out, if_pos h0]⟩
          case measure => simp [intOf]; omega
        · have d0 : decide (0 < (j : Int)) = false := by simp; omega
          have hs3 : y.size ≤ 125 := by omega
          go_wp2
          go_round
          case rel => exact ⟨j + 1, by omega, by go_num, by rw [HJ.out, if_neg h0]⟩
          case measure => simp [intOf]; omega
      · obtain rfl : j = ft.length := by omega
        rw [← T.out]
        go_wp2
        go_ret2
        exact ⟨rfl, B3.out⟩
  · rw [if_neg hk]
    have C := Lib.hid (fun w => refcheck_any op a b c n w)
    have hne : (checkOf op a b c n != 0) = true := by simpa using hk
    clear hk
    generalize checkOf op a b c n = v at *
    unfold instrV at *
    go_enter Tryd.func32, Tryd.ntmps32
    go_wp2_with fail
    refine (C.out _).mono ?_
    rintro e w1 ⟨rfl, hb1⟩
    have B1 := Lib.hid (((Below.refl _ _).alloc (Nat.le_refl _) _).trans (hb1.mono (show w.heap.size ≤ _ by simp)))
    clear hb1
    go_wp2
    go_ret2
    exact ⟨rfl, B1.out⟩
end Go.Proofs.YtnmpamfgkidmiaaDoor

/- Package instr: Text: what the walks lean on. -/
namespace Go.Proofs.YtnmpamfgkidmiaaDoor
open Go.ChangeShapes Go.WideShapes Go.ChangeAt Go.RowKit
set_option linter.unusedVariables false

theorem OwnsS.big {e : TypeId} {w : World} {B : Nat} {v : Value} {n : Nat} {zs : List ByteArray} (h : OwnsS e w B v n zs) (h0 : 0 < n) :
    ∃ g cap, v = .slice (some ⟨g, 0, none⟩) n cap ∧ n ≤ cap ∧ g < w.heap.size ∧ ∀ (j : Nat) x, zs[j]? = some x → w.cell? ⟨g, 0 + j, none⟩ = some (.string x) := by
  obtain ⟨A, m, hv, hz⟩ := h.form
  rcases h.2 with ⟨_, hn⟩ | ⟨g, cap, cur, h1, hb, hg, hn, hm, hs, ht⟩
  · omega
  · refine ⟨g, cap, h1, hn, ?_, fun j x hx => ?_⟩
    · rcases Nat.lt_or_ge g w.heap.size with h2 | h2
      · exact h2
      · rw [Array.getElem?_eq_none h2] at hg; cases hg
    · rw [h1] at hv
      injection hv with hA _ _
      obtain ⟨b, off, hA2, _, hc⟩ := hz.2 h0
      rw [hA2] at hA
      injection hA with hA
      injection hA with e1 e2 _
      subst e1 e2
      have hj : j < zs.length := (List.getElem?_eq_some_iff.1 hx).1
      rw [hc j (by have := hz.1; omega)]
      simp [List.getD, hx]

/-- What strings.Join makes of the fields. -/
def joinS (xs : List ByteArray) : ByteArray := ⟨(Lib.join (xs.map (·.data.toList)) (⟨#[44, 32]⟩ : ByteArray).data.toList).toArray⟩

theorem join1 (nm x : ByteArray) : nm ++ ⟨#[32]⟩ ++ joinS [x] = joinUp nm [x] 1 := by
  apply ByteArray.ext
  apply Array.ext'
  simp [joinS, joinUp, Lib.join, List.intercalate]

theorem join2 (nm x y : ByteArray) : nm ++ ⟨#[32]⟩ ++ joinS [x, y] = joinUp nm [x, y] 2 := by
  apply ByteArray.ext
  apply Array.ext'
  simp [joinS, joinUp, Lib.join, List.intercalate]

theorem join3 (nm x y z : ByteArray) : nm ++ ⟨#[32]⟩ ++ joinS [x, y, z] = joinUp nm [x, y, z] 3 := by
  apply ByteArray.ext
  apply Array.ext'
  simp [joinS, joinUp, Lib.join, List.intercalate]

theorem joinS_size {op a b c n : Int} {nm : ByteArray} (hn : nm.size ≤ 5) {k : Nat} (hk : k ≤ 4) (h : nm ++ ⟨#[32]⟩ ++ joinS (fieldTexts op a b c n) = joinUp nm (fieldTexts op a b c n) k) : (joinS (fieldTexts op a b c n)).size ≤ 101 := by
  have h1 := join_small nm (fieldTexts op a b c n) hn (fields_small op a b c n).2 k
  rw [← h] at h1
  simp only [ByteArray.size_append] at h1
  omega

theorem pfx_size (op k : Int) : (pfx op k).size ≤ 1 := by
  have e0 : (⟨#[]⟩ : ByteArray).size = 0 := rfl
  have e1 : (⟨#[114]⟩ : ByteArray).size = 1 := rfl
  unfold pfx
  split <;> omega
end Go.Proofs.YtnmpamfgkidmiaaDoor

/- Package instr: Text, by how many registers and whether there is a number: part 0. -/
namespace Go.Proofs.YtnmpamfgkidmiaaDoor
open Go.ChangeShapes Go.WideShapes Go.ChangeAt Go.RowKit
set_option linter.unusedVariables false

set_option maxHeartbeats 8000000 in
set_option maxRecDepth 100000 in
theorem text_00 (op a b c n : Int) (w : World) (hS : ShapesIn w) (hN : NamesIn w) (ha : I64 a) (hb : I64 b) (hc : I64 c) (hn : I64 n) (hk : checkOf op a b c n = 0) (hreg : regsOf (shapeOf op) = 0) (himm : bitsOf (shapeOf op) = 0) :
    Calls Tryd.prog 56 #[instrV op a b c n] w fun e w' => e = .returned (.tuple #[.string (textOf op a b c n), .int .i64 0]) ∧ Below w.heap.size w w' := by
  have h := (good_of_check hk).1
  have hr : fieldsR op = .tuple #[.agg #[.int .i64 0, .int .i64 0, .bool (signOf (shapeOf op))], .bool true] := by
    unfold fieldsR fieldsV
    rw [hreg, himm]
    simp [h]
  have hft : fieldTexts op a b c n = [] := by
    unfold fieldTexts
    rw [hreg, himm]
    rfl
  have hC := fun w hs => check_any op a b c n w hs ha hb hc hn
  rw [hk] at hC
  have J := Lib.hid (show nameOf op = textOf op a b c n by unfold textOf; rw [hft]; rfl)
  have R := Lib.hid hr
  have C := Lib.hid hC
  have HS := Lib.hid hS
  have HN := Lib.hid hN
  have hns := name_size op
  clear hr hC hS hN hk h hreg himm hft
  generalize signOf (shapeOf op) = sgn at *
  generalize textOf op a b c n = tx at *
  have i0 : ∀ w, (Instr.index 137 (.agg #[.int .i64 a, .int .i64 b, .int .i64 c]) (.int .i64 0)).run Tryd.prog w = .ok (.int .i64 a) w := fun w =>
    run_index_arr Tryd.underlying137 Tryd.underlying3 (by kernel_rfl) _ 0 _ (by decide) rfl w
  have i1 : ∀ w, (Instr.index 137 (.agg #[.int .i64 a, .int .i64 b, .int .i64 c]) (.int .i64 1)).run Tryd.prog w = .ok (.int .i64 b) w := fun w =>
    run_index_arr Tryd.underlying137 Tryd.underlying3 (by kernel_rfl) _ 1 _ (by decide) rfl w
  have i2 : ∀ w, (Instr.index 137 (.agg #[.int .i64 a, .int .i64 b, .int .i64 c]) (.int .i64 2)).run Tryd.prog w = .ok (.int .i64 c) w := fun w =>
    run_index_arr Tryd.underlying137 Tryd.underlying3 (by kernel_rfl) _ 2 _ (by decide) rfl w
  unfold instrV at *
  go_enter Tryd.func56, Tryd.ntmps56
  go_wp2_with fail
  refine (C.out _ (HS.out.alloc _)).mono ?_
  rintro e w1 ⟨rfl, hb1⟩
  have Q1 := Lib.hid ((Whole.made w 93 #[.int .i64 op, .int .i64 a, .int .i64 b, .int .i64 c, .int .i64 n] _ rfl).below hb1 (by simp))
  have B1 := Lib.hid (((Below.refl _ _).alloc (Nat.le_refl _) _).trans (hb1.mono (show w.heap.size ≤ _ by simp)))
  have HS1 := Lib.hid ((HS.out.alloc _).below hb1 (Nat.le_refl _))
  have HN1 := Lib.hid ((HN.out.alloc _).below hb1 (Nat.le_refl _))
  have z1 : w.heap.size < w1.heap.size := Q1.out.lt
  have q0 : w1.cell? ⟨w.heap.size, 0, none⟩ = some (.int .i64 op) := Q1.out.cell 0
  clear hb1
  go_wp2_with fail
  refine (fieldsOf_any _ _ HS1.out).mono ?_
  rintro e w2 ⟨rfl, hb2⟩
  rw [R.out]
  clear q0
  have Q := Lib.hid ((Q1.out.below hb2 z1).alloc (.cells #[.int .i64 0, .int .i64 0, .bool sgn] 133))
  have z2 : w.heap.size < w2.heap.size := (Q1.out.below hb2 z1).lt
  have P := Lib.hid (Whole.made w2 133 #[.int .i64 0, .int .i64 0, .bool sgn] _ rfl)
  have B2 := Lib.hid ((B1.out.trans (hb2.mono (Nat.le_of_lt z1))).alloc (Nat.le_of_lt z2) (.cells #[.int .i64 0, .int .i64 0, .bool sgn] 133))
  have HN2 := Lib.hid ((HN1.out.below hb2 (Nat.le_refl _)).alloc (.cells #[.int .i64 0, .int .i64 0, .bool sgn] 133))
  have q0 : w2.cell? ⟨w.heap.size, 0, none⟩ = some (.int .i64 op) := (Q1.out.below hb2 z1).cell 0
  have q1 : w2.cell? ⟨w.heap.size, 1, none⟩ = some (.int .i64 a) := (Q1.out.below hb2 z1).cell 1
  have q2 : w2.cell? ⟨w.heap.size, 2, none⟩ = some (.int .i64 b) := (Q1.out.below hb2 z1).cell 2
  have q3 : w2.cell? ⟨w.heap.size, 3, none⟩ = some (.int .i64 c) := (Q1.out.below hb2 z1).cell 3
  have q4 : w2.cell? ⟨w.heap.size, 4, none⟩ = some (.int .i64 n) := (Q1.out.below hb2 z1).cell 4
  clear hb2
  go_wp2_with fail
  have hg := Q.out.lt
  have hp := P.out.lt
  generalize w2.heap.size = g5 at *
  generalize w2.alloc (.cells #[.int .i64 0, .int .i64 0, .bool sgn] 133) = W at *
  clear q0 q1 q2 q3 q4
  have q0 : W.cell? ⟨w.heap.size, 0, none⟩ = some (.int .i64 op) := Q.out.cell 0
  have q1 : W.cell? ⟨w.heap.size, 1, none⟩ = some (.int .i64 a) := Q.out.cell 1
  have q2 : W.cell? ⟨w.heap.size, 2, none⟩ = some (.int .i64 b) := Q.out.cell 2
  have q3 : W.cell? ⟨w.heap.size, 3, none⟩ = some (.int .i64 c) := Q.out.cell 3
  have q4 : W.cell? ⟨w.heap.size, 4, none⟩ = some (.int .i64 n) := Q.out.cell 4
  have p0 : W.cell? ⟨g5, 0, none⟩ = some (.int .i64 0) := P.out.cell 0
  have p1 : W.cell? ⟨g5, 1, none⟩ = some (.int .i64 0) := P.out.cell 1
  have C0 := Lib.hid (Below.refl W.heap.size W)
  have O0 := Lib.hid (OwnsS.nil 9 W W.heap.size)
  refine wp_loop_rounds 4 ?_
  rw [rounds_succ]
  go_wp2_with fail
  rw [rounds_succ]
  go_wp2_with fail
  rw [rounds_succ]
  go_wp2_with fail
  rw [rounds_succ]
  go_wp2_with fail
  refine (name_any _ _ (HN2.out.below C0.out (Nat.le_refl _))).mono ?_
  rintro e w' ⟨rfl, rfl⟩
  go_wp2_with fail
  have fin := B2.out.trans (C0.out.mono B2.out.size)
  go_ret2
  exact ⟨congrArg (fun z => Ending.returned (.tuple #[.string z, .int .i64 0])) J.out, fin⟩

set_option maxHeartbeats 8000000 in
set_option maxRecDepth 100000 in
theorem text_01 (op a b c n : Int) (w : World) (hS : ShapesIn w) (hN : NamesIn w) (ha : I64 a) (hb : I64 b) (hc : I64 c) (hn : I64 n) (hk : checkOf op a b c n = 0) (hreg : regsOf (shapeOf op) = 0) (himm : 0 < bitsOf (shapeOf op)) :
    Calls Tryd.prog 56 #[instrV op a b c n] w fun e w' => e = .returned (.tuple #[.string (textOf op a b c n), .int .i64 0]) ∧ Below w.heap.size w w' := by
  have h := (good_of_check hk).1
  have hr : fieldsR op = .tuple #[.agg #[.int .i64 0, .int .i64 (bitsOf (shapeOf op)), .bool (signOf (shapeOf op))], .bool true] := by
    unfold fieldsR fieldsV
    rw [hreg]
    simp [h]
  have hft : fieldTexts op a b c n = [nt n] := by
    unfold fieldTexts
    rw [hreg, if_pos himm]
    rfl
  have hC := fun w hs => check_any op a b c n w hs ha hb hc hn
  rw [hk] at hC
  have hj : nameOf op ++ ⟨#[32]⟩ ++ joinS (fieldTexts op a b c n) = textOf op a b c n := by
    unfold textOf
    rw [hft]
    exact join1 _ _
  have hjs : (joinS (fieldTexts op a b c n)).size ≤ 101 := joinS_size (k := 1) (name_size op) (by decide) (by rw [hj]; unfold textOf; rw [hft]; rfl)
  rw [hft] at hj hjs
  have J := Lib.hid hj
  have JS := Lib.hid (show (Lib.join (([nt n] : List ByteArray).map (·.data.toList)) (⟨#[44, 32]⟩ : ByteArray).data.toList).length ≤ 101 by
    have e : (joinS [nt n]).size = (Lib.join (([nt n] : List ByteArray).map (·.data.toList)) (⟨#[44, 32]⟩ : ByteArray).data.toList).length := by
      show (List.toArray _).size = _
      simp
    omega)
  clear hj
  have R := Lib.hid hr
  have C := Lib.hid hC
  have HS := Lib.hid hS
  have HN := Lib.hid hN
  have hns := name_size op
  have dm : decide (0 < bitsOf (shapeOf op)) = true := by simpa using himm
  have sn := text_size n
  clear hr hC hS hN hk h hreg himm hft
  generalize bitsOf (shapeOf op) = bits at *
  generalize signOf (shapeOf op) = sgn at *
  generalize textOf op a b c n = tx at *
  have i0 : ∀ w, (Instr.index 137 (.agg #[.int .i64 a, .int .i64 b, .int .i64 c]) (.int .i64 0)).run Tryd.prog w = .ok (.int .i64 a) w := fun w =>
    run_index_arr Tryd.underlying137 Tryd.underlying3 (by kernel_rfl) _ 0 _ (by decide) rfl w
  have i1 : ∀ w, (Instr.index 137 (.agg #[.int .i64 a, .int .i64 b, .int .i64 c]) (.int .i64 1)).run Tryd.prog w = .ok (.int .i64 b) w := fun w =>
    run_index_arr Tryd.underlying137 Tryd.underlying3 (by kernel_rfl) _ 1 _ (by decide) rfl w
  have i2 : ∀ w, (Instr.index 137 (.agg #[.int .i64 a, .int .i64 b, .int .i64 c]) (.int .i64 2)).run Tryd.prog w = .ok (.int .i64 c) w := fun w =>
    run_index_arr Tryd.underlying137 Tryd.underlying3 (by kernel_rfl) _ 2 _ (by decide) rfl w
  unfold instrV at *
  go_enter Tryd.func56, Tryd.ntmps56
  go_wp2_with fail
  refine (C.out _ (HS.out.alloc _)).mono ?_
  rintro e w1 ⟨rfl, hb1⟩
  have Q1 := Lib.hid ((Whole.made w 93 #[.int .i64 op, .int .i64 a, .int .i64 b, .int .i64 c, .int .i64 n] _ rfl).below hb1 (by simp))
  have B1 := Lib.hid (((Below.refl _ _).alloc (Nat.le_refl _) _).trans (hb1.mono (show w.heap.size ≤ _ by simp)))
  have HS1 := Lib.hid ((HS.out.alloc _).below hb1 (Nat.le_refl _))
  have HN1 := Lib.hid ((HN.out.alloc _).below hb1 (Nat.le_refl _))
  have z1 : w.heap.size < w1.heap.size := Q1.out.lt
  have q0 : w1.cell? ⟨w.heap.size, 0, none⟩ = some (.int .i64 op) := Q1.out.cell 0
  clear hb1
  go_wp2_with fail
  refine (fieldsOf_any _ _ HS1.out).mono ?_
  rintro e w2 ⟨rfl, hb2⟩
  rw [R.out]
  clear q0
  have Q := Lib.hid ((Q1.out.below hb2 z1).alloc (.cells #[.int .i64 0, .int .i64 bits, .bool sgn] 133))
  have z2 : w.heap.size < w2.heap.size := (Q1.out.below hb2 z1).lt
  have P := Lib.hid (Whole.made w2 133 #[.int .i64 0, .int .i64 bits, .bool sgn] _ rfl)
  have B2 := Lib.hid ((B1.out.trans (hb2.mono (Nat.le_of_lt z1))).alloc (Nat.le_of_lt z2) (.cells #[.int .i64 0, .int .i64 bits, .bool sgn] 133))
  have HN2 := Lib.hid ((HN1.out.below hb2 (Nat.le_refl _)).alloc (.cells #[.int .i64 0, .int .i64 bits, .bool sgn] 133))
  have q0 : w2.cell? ⟨w.heap.size, 0, none⟩ = some (.int .i64 op) := (Q1.out.below hb2 z1).cell 0
  have q1 : w2.cell? ⟨w.heap.size, 1, none⟩ = some (.int .i64 a) := (Q1.out.below hb2 z1).cell 1
  have q2 : w2.cell? ⟨w.heap.size, 2, none⟩ = some (.int .i64 b) := (Q1.out.below hb2 z1).cell 2
  have q3 : w2.cell? ⟨w.heap.size, 3, none⟩ = some (.int .i64 c) := (Q1.out.below hb2 z1).cell 3
  have q4 : w2.cell? ⟨w.heap.size, 4, none⟩ = some (.int .i64 n) := (Q1.out.below hb2 z1).cell 4
  clear hb2
  go_wp2_with fail
  have hg := Q.out.lt
  have hp := P.out.lt
  generalize w2.heap.size = g5 at *
  generalize w2.alloc (.cells #[.int .i64 0, .int .i64 bits, .bool sgn] 133) = W at *
  clear q0 q1 q2 q3 q4
  have q0 : W.cell? ⟨w.heap.size, 0, none⟩ = some (.int .i64 op) := Q.out.cell 0
  have q1 : W.cell? ⟨w.heap.size, 1, none⟩ = some (.int .i64 a) := Q.out.cell 1
  have q2 : W.cell? ⟨w.heap.size, 2, none⟩ = some (.int .i64 b) := Q.out.cell 2
  have q3 : W.cell? ⟨w.heap.size, 3, none⟩ = some (.int .i64 c) := Q.out.cell 3
  have q4 : W.cell? ⟨w.heap.size, 4, none⟩ = some (.int .i64 n) := Q.out.cell 4
  have p0 : W.cell? ⟨g5, 0, none⟩ = some (.int .i64 0) := P.out.cell 0
  have p1 : W.cell? ⟨g5, 1, none⟩ = some (.int .i64 bits) := P.out.cell 1
  have C0 := Lib.hid (Below.refl W.heap.size W)
  have O0 := Lib.hid (OwnsS.nil 9 W W.heap.size)
  refine wp_loop_rounds 4 ?_
  rw [rounds_succ]
  go_wp2_with fail
  rw [rounds_succ]
  go_wp2_with fail
  rw [rounds_succ]
  go_wp2_with fail
  rw [rounds_succ]
  go_wp2_with fail
  refine (text_any n _ hn.1 hn.2).mono ?_
  rintro e y1 ⟨rfl, hb1⟩
  have C1 := Lib.hid (C0.out.trans (hb1.mono C0.out.size))
  have O1 := Lib.hid (O0.out.below hb1)
  clear hb1 q0 q1 q2 q3 q4 p0 p1
  have q0 : y1.cell? ⟨w.heap.size, 0, none⟩ = some (.int .i64 op) := (Q.out.below C1.out hg).cell 0
  have q1 : y1.cell? ⟨w.heap.size, 1, none⟩ = some (.int .i64 a) := (Q.out.below C1.out hg).cell 1
  have q2 : y1.cell? ⟨w.heap.size, 2, none⟩ = some (.int .i64 b) := (Q.out.below C1.out hg).cell 2
  have q3 : y1.cell? ⟨w.heap.size, 3, none⟩ = some (.int .i64 c) := (Q.out.below C1.out hg).cell 3
  have q4 : y1.cell? ⟨w.heap.size, 4, none⟩ = some (.int .i64 n) := (Q.out.below C1.out hg).cell 4
  have p0 : y1.cell? ⟨g5, 0, none⟩ = some (.int .i64 0) := (P.out.below C1.out hp).cell 0
  have p1 : y1.cell? ⟨g5, 1, none⟩ = some (.int .i64 bits) := (P.out.below C1.out hp).cell 1
  go_wp2_with (at_builtin; refine wpList_append_strs _ rfl (.tmp 50) (.tmp 54) rfl rowStr W.heap.size (.slice none 0 0) (0) _ rfl (O1.out.alloc _) (some ⟨y1.heap.size, 0, none⟩) 1 1 [nt n] rfl (strs_built 9 y1 [nt n] _ rfl 1 rfl (by decide) _ rfl) (by omega) (Nat.le_trans C1.out.size (by simp)) ?_; intro v2 y2 ho2 hg2 _; have hb2 : Below W.heap.size y1 y2 := OwnsS.grown_below ((Below.refl _ _).alloc C1.out.size _) (O1.out.alloc _) hg2 (Nat.le_trans C1.out.size (by simp)); have C2 := Lib.hid (C1.out.trans hb2); have O2 := Lib.hid ho2; clear ho2 hg2 hb2 q0 q1 q2 q3 q4 p0 p1; have q0 : y2.cell? ⟨w.heap.size, 0, none⟩ = some (.int .i64 op) := (Q.out.below C2.out hg).cell 0; have q1 : y2.cell? ⟨w.heap.size, 1, none⟩ = some (.int .i64 a) := (Q.out.below C2.out hg).cell 1; have q2 : y2.cell? ⟨w.heap.size, 2, none⟩ = some (.int .i64 b) := (Q.out.below C2.out hg).cell 2; have q3 : y2.cell? ⟨w.heap.size, 3, none⟩ = some (.int .i64 c) := (Q.out.below C2.out hg).cell 3; have q4 : y2.cell? ⟨w.heap.size, 4, none⟩ = some (.int .i64 n) := (Q.out.below C2.out hg).cell 4; have p0 : y2.cell? ⟨g5, 0, none⟩ = some (.int .i64 0) := (P.out.below C2.out hp).cell 0; have p1 : y2.cell? ⟨g5, 1, none⟩ = some (.int .i64 bits) := (P.out.below C2.out hp).cell 1; obtain ⟨g2, k2, hv2, hk2, hl2, hc2⟩ := O2.out.big (by omega); subst hv2)
  go_wp2_with fail
  refine (name_any _ _ (HN2.out.below C2.out (Nat.le_refl _))).mono ?_
  rintro e w' ⟨rfl, rfl⟩
  go_wp2_with fail
  have hjn : Calls Tryd.prog 83 #[.slice (some ⟨g2, 0, none⟩) 1 k2, .string ⟨#[44, 32]⟩] y2 fun e w' => e = .returned (.string (joinS [nt n])) ∧ Below y2.heap.size y2 w' :=
    Tryd.strings_Join g2 0 k2 [nt n] ⟨#[44, 32]⟩ _ hc2 hl2 (show 1 ≤ 140737488355328 by decide) hk2 (Nat.le_trans JS.out (by decide))
  clear hc2
  generalize joinS [nt n] = jz at *
  refine hjn.mono ?_
  rintro e wz ⟨rfl, hbz⟩
  have fin := B2.out.trans ((C2.out.trans (hbz.mono C2.out.size)).mono B2.out.size)
  clear hbz
  go_wp2_with fail
  go_ret2
  exact ⟨congrArg (fun z => Ending.returned (.tuple #[.string z, .int .i64 0])) J.out, fin⟩

set_option maxHeartbeats 8000000 in
set_option maxRecDepth 100000 in
theorem text_10 (op a b c n : Int) (w : World) (hS : ShapesIn w) (hN : NamesIn w) (ha : I64 a) (hb : I64 b) (hc : I64 c) (hn : I64 n) (hk : checkOf op a b c n = 0) (hreg : regsOf (shapeOf op) = 1) (himm : bitsOf (shapeOf op) = 0) :
    Calls Tryd.prog 56 #[instrV op a b c n] w fun e w' => e = .returned (.tuple #[.string (textOf op a b c n), .int .i64 0]) ∧ Below w.heap.size w w' := by
  have h := (good_of_check hk).1
  have hr : fieldsR op = .tuple #[.agg #[.int .i64 1, .int .i64 0, .bool (signOf (shapeOf op))], .bool true] := by
    unfold fieldsR fieldsV
    rw [hreg, himm]
    simp [h]
  have hft : fieldTexts op a b c n = [rt op 0 a] := by
    unfold fieldTexts
    rw [hreg, himm]
    rfl
  have hC := fun w hs => check_any op a b c n w hs ha hb hc hn
  rw [hk] at hC
  have hj : nameOf op ++ ⟨#[32]⟩ ++ joinS (fieldTexts op a b c n) = textOf op a b c n := by
    unfold textOf
    rw [hft]
    exact join1 _ _
  have hjs : (joinS (fieldTexts op a b c n)).size ≤ 101 := joinS_size (k := 1) (name_size op) (by decide) (by rw [hj]; unfold textOf; rw [hft]; rfl)
  rw [hft] at hj hjs
  have J := Lib.hid hj
  have JS := Lib.hid (show (Lib.join (([rt op 0 a] : List ByteArray).map (·.data.toList)) (⟨#[44, 32]⟩ : ByteArray).data.toList).length ≤ 101 by
    have e : (joinS [rt op 0 a]).size = (Lib.join (([rt op 0 a] : List ByteArray).map (·.data.toList)) (⟨#[44, 32]⟩ : ByteArray).data.toList).length := by
      show (List.toArray _).size = _
      simp
    omega)
  clear hj
  have R := Lib.hid hr
  have C := Lib.hid hC
  have HS := Lib.hid hS
  have HN := Lib.hid hN
  have hns := name_size op
  have sa := text_size a
  have hp0 := pfx_size op 0
  clear hr hC hS hN hk h hreg himm hft
  generalize signOf (shapeOf op) = sgn at *
  generalize textOf op a b c n = tx at *
  have i0 : ∀ w, (Instr.index 137 (.agg #[.int .i64 a, .int .i64 b, .int .i64 c]) (.int .i64 0)).run Tryd.prog w = .ok (.int .i64 a) w := fun w =>
    run_index_arr Tryd.underlying137 Tryd.underlying3 (by kernel_rfl) _ 0 _ (by decide) rfl w
  have i1 : ∀ w, (Instr.index 137 (.agg #[.int .i64 a, .int .i64 b, .int .i64 c]) (.int .i64 1)).run Tryd.prog w = .ok (.int .i64 b) w := fun w =>
    run_index_arr Tryd.underlying137 Tryd.underlying3 (by kernel_rfl) _ 1 _ (by decide) rfl w
  have i2 : ∀ w, (Instr.index 137 (.agg #[.int .i64 a, .int .i64 b, .int .i64 c]) (.int .i64 2)).run Tryd.prog w = .ok (.int .i64 c) w := fun w =>
    run_index_arr Tryd.underlying137 Tryd.underlying3 (by kernel_rfl) _ 2 _ (by decide) rfl w
  unfold instrV at *
  go_enter Tryd.func56, Tryd.ntmps56
  go_wp2_with fail
  refine (C.out _ (HS.out.alloc _)).mono ?_
  rintro e w1 ⟨rfl, hb1⟩
  have Q1 := Lib.hid ((Whole.made w 93 #[.int .i64 op, .int .i64 a, .int .i64 b, .int .i64 c, .int .i64 n] _ rfl).below hb1 (by simp))
  have B1 := Lib.hid (((Below.refl _ _).alloc (Nat.le_refl _) _).trans (hb1.mono (show w.heap.size ≤ _ by simp)))
  have HS1 := Lib.hid ((HS.out.alloc _).below hb1 (Nat.le_refl _))
  have HN1 := Lib.hid ((HN.out.alloc _).below hb1 (Nat.le_refl _))
  have z1 : w.heap.size < w1.heap.size := Q1.out.lt
  have q0 : w1.cell? ⟨w.heap.size, 0, none⟩ = some (.int .i64 op) := Q1.out.cell 0
  clear hb1
  go_wp2_with fail
  refine (fieldsOf_any _ _ HS1.out).mono ?_
  rintro e w2 ⟨rfl, hb2⟩
  rw [R.out]
  clear q0
  have Q := Lib.hid ((Q1.out.below hb2 z1).alloc (.cells #[.int .i64 1, .int .i64 0, .bool sgn] 133))
  have z2 : w.heap.size < w2.heap.size := (Q1.out.below hb2 z1).lt
  have P := Lib.hid (Whole.made w2 133 #[.int .i64 1, .int .i64 0, .bool sgn] _ rfl)
  have B2 := Lib.hid ((B1.out.trans (hb2.mono (Nat.le_of_lt z1))).alloc (Nat.le_of_lt z2) (.cells #[.int .i64 1, .int .i64 0, .bool sgn] 133))
  have HN2 := Lib.hid ((HN1.out.below hb2 (Nat.le_refl _)).alloc (.cells #[.int .i64 1, .int .i64 0, .bool sgn] 133))
  have q0 : w2.cell? ⟨w.heap.size, 0, none⟩ = some (.int .i64 op) := (Q1.out.below hb2 z1).cell 0
  have q1 : w2.cell? ⟨w.heap.size, 1, none⟩ = some (.int .i64 a) := (Q1.out.below hb2 z1).cell 1
  have q2 : w2.cell? ⟨w.heap.size, 2, none⟩ = some (.int .i64 b) := (Q1.out.below hb2 z1).cell 2
  have q3 : w2.cell? ⟨w.heap.size, 3, none⟩ = some (.int .i64 c) := (Q1.out.below hb2 z1).cell 3
  have q4 : w2.cell? ⟨w.heap.size, 4, none⟩ = some (.int .i64 n) := (Q1.out.below hb2 z1).cell 4
  clear hb2
  go_wp2_with fail
  have hg := Q.out.lt
  have hp := P.out.lt
  generalize w2.heap.size = g5 at *
  generalize w2.alloc (.cells #[.int .i64 1, .int .i64 0, .bool sgn] 133) = W at *
  clear q0 q1 q2 q3 q4
  have q0 : W.cell? ⟨w.heap.size, 0, none⟩ = some (.int .i64 op) := Q.out.cell 0
  have q1 : W.cell? ⟨w.heap.size, 1, none⟩ = some (.int .i64 a) := Q.out.cell 1
  have q2 : W.cell? ⟨w.heap.size, 2, none⟩ = some (.int .i64 b) := Q.out.cell 2
  have q3 : W.cell? ⟨w.heap.size, 3, none⟩ = some (.int .i64 c) := Q.out.cell 3
  have q4 : W.cell? ⟨w.heap.size, 4, none⟩ = some (.int .i64 n) := Q.out.cell 4
  have p0 : W.cell? ⟨g5, 0, none⟩ = some (.int .i64 1) := P.out.cell 0
  have p1 : W.cell? ⟨g5, 1, none⟩ = some (.int .i64 0) := P.out.cell 1
  have C0 := Lib.hid (Below.refl W.heap.size W)
  have O0 := Lib.hid (OwnsS.nil 9 W W.heap.size)
  refine wp_loop_rounds 4 ?_
  rw [rounds_succ]
  go_wp2_with fail
  refine (prefix_any _ _ _).mono ?_
  rintro e w' ⟨rfl, rfl⟩
  go_wp2_with fail
  refine (text_any a _ ha.1 ha.2).mono ?_
  rintro e y1 ⟨rfl, hb1⟩
  have C1 := Lib.hid (C0.out.trans (hb1.mono C0.out.size))
  have O1 := Lib.hid (O0.out.below hb1)
  clear hb1 q0 q1 q2 q3 q4 p0 p1
  have q0 : y1.cell? ⟨w.heap.size, 0, none⟩ = some (.int .i64 op) := (Q.out.below C1.out hg).cell 0
  have q1 : y1.cell? ⟨w.heap.size, 1, none⟩ = some (.int .i64 a) := (Q.out.below C1.out hg).cell 1
  have q2 : y1.cell? ⟨w.heap.size, 2, none⟩ = some (.int .i64 b) := (Q.out.below C1.out hg).cell 2
  have q3 : y1.cell? ⟨w.heap.size, 3, none⟩ = some (.int .i64 c) := (Q.out.below C1.out hg).cell 3
  have q4 : y1.cell? ⟨w.heap.size, 4, none⟩ = some (.int .i64 n) := (Q.out.below C1.out hg).cell 4
  have p0 : y1.cell? ⟨g5, 0, none⟩ = some (.int .i64 1) := (P.out.below C1.out hp).cell 0
  have p1 : y1.cell? ⟨g5, 1, none⟩ = some (.int .i64 0) := (P.out.below C1.out hp).cell 1
  go_wp2_with (at_builtin; refine wpList_append_strs _ rfl (.tmp 36) (.tmp 44) rfl rowStr W.heap.size (.slice none 0 0) (0) _ rfl (O1.out.alloc _) (some ⟨y1.heap.size, 0, none⟩) 1 1 [rt op 0 a] rfl (strs_built 9 y1 [rt op 0 a] _ rfl 1 rfl (by decide) _ rfl) (by omega) (Nat.le_trans C1.out.size (by simp)) ?_; intro v2 y2 ho2 hg2 _; have hb2 : Below W.heap.size y1 y2 := OwnsS.grown_below ((Below.refl _ _).alloc C1.out.size _) (O1.out.alloc _) hg2 (Nat.le_trans C1.out.size (by simp)); have C2 := Lib.hid (C1.out.trans hb2); have O2 := Lib.hid ho2; clear ho2 hg2 hb2 q0 q1 q2 q3 q4 p0 p1; have q0 : y2.cell? ⟨w.heap.size, 0, none⟩ = some (.int .i64 op) := (Q.out.below C2.out hg).cell 0; have q1 : y2.cell? ⟨w.heap.size, 1, none⟩ = some (.int .i64 a) := (Q.out.below C2.out hg).cell 1; have q2 : y2.cell? ⟨w.heap.size, 2, none⟩ = some (.int .i64 b) := (Q.out.below C2.out hg).cell 2; have q3 : y2.cell? ⟨w.heap.size, 3, none⟩ = some (.int .i64 c) := (Q.out.below C2.out hg).cell 3; have q4 : y2.cell? ⟨w.heap.size, 4, none⟩ = some (.int .i64 n) := (Q.out.below C2.out hg).cell 4; have p0 : y2.cell? ⟨g5, 0, none⟩ = some (.int .i64 1) := (P.out.below C2.out hp).cell 0; have p1 : y2.cell? ⟨g5, 1, none⟩ = some (.int .i64 0) := (P.out.below C2.out hp).cell 1; obtain ⟨g2, k2, hv2, hk2, hl2, hc2⟩ := O2.out.big (by omega); subst hv2)
  rw [rounds_succ]
  go_wp2_with fail
  rw [rounds_succ]
  go_wp2_with fail
  rw [rounds_succ]
  go_wp2_with fail
  refine (name_any _ _ (HN2.out.below C2.out (Nat.le_refl _))).mono ?_
  rintro e w' ⟨rfl, rfl⟩
  go_wp2_with fail
  have hjn : Calls Tryd.prog 83 #[.slice (some ⟨g2, 0, none⟩) 1 k2, .string ⟨#[44, 32]⟩] y2 fun e w' => e = .returned (.string (joinS [rt op 0 a])) ∧ Below y2.heap.size y2 w' :=
    Tryd.strings_Join g2 0 k2 [rt op 0 a] ⟨#[44, 32]⟩ _ hc2 hl2 (show 1 ≤ 140737488355328 by decide) hk2 (Nat.le_trans JS.out (by decide))
  clear hc2
  generalize joinS [rt op 0 a] = jz at *
  refine hjn.mono ?_
  rintro e wz ⟨rfl, hbz⟩
  have fin := B2.out.trans ((C2.out.trans (hbz.mono C2.out.size)).mono B2.out.size)
  clear hbz
  go_wp2_with fail
  go_ret2
  exact ⟨congrArg (fun z => Ending.returned (.tuple #[.string z, .int .i64 0])) J.out, fin⟩

set_option maxHeartbeats 8000000 in
set_option maxRecDepth 100000 in
theorem text_11 (op a b c n : Int) (w : World) (hS : ShapesIn w) (hN : NamesIn w) (ha : I64 a) (hb : I64 b) (hc : I64 c) (hn : I64 n) (hk : checkOf op a b c n = 0) (hreg : regsOf (shapeOf op) = 1) (himm : 0 < bitsOf (shapeOf op)) :
    Calls Tryd.prog 56 #[instrV op a b c n] w fun e w' => e = .returned (.tuple #[.string (textOf op a b c n), .int .i64 0]) ∧ Below w.heap.size w w' := by
  have h := (good_of_check hk).1
  have hr : fieldsR op = .tuple #[.agg #[.int .i64 1, .int .i64 (bitsOf (shapeOf op)), .bool (signOf (shapeOf op))], .bool true] := by
    unfold fieldsR fieldsV
    rw [hreg]
    simp [h]
  have hft : fieldTexts op a b c n = [rt op 0 a, nt n] := by
    unfold fieldTexts
    rw [hreg, if_pos himm]
    rfl
  have hC := fun w hs => check_any op a b c n w hs ha hb hc hn
  rw [hk] at hC
  have hj : nameOf op ++ ⟨#[32]⟩ ++ joinS (fieldTexts op a b c n) = textOf op a b c n := by
    unfold textOf
    rw [hft]
    exact join2 _ _ _
  have hjs : (joinS (fieldTexts op a b c n)).size ≤ 101 := joinS_size (k := 2) (name_size op) (by decide) (by rw [hj]; unfold textOf; rw [hft]; rfl)
  rw [hft] at hj hjs
  have J := Lib.hid hj
  have JS := Lib.hid (show (Lib.join (([rt op 0 a, nt n] : List ByteArray).map (·.data.toList)) (⟨#[44, 32]⟩ : ByteArray).data.toList).length ≤ 101 by
    have e : (joinS [rt op 0 a, nt n]).size = (Lib.join (([rt op 0 a, nt n] : List ByteArray).map (·.data.toList)) (⟨#[44, 32]⟩ : ByteArray).data.toList).length := by
      show (List.toArray _).size = _
      simp
    omega)
  clear hj
  have R := Lib.hid hr
  have C := Lib.hid hC
  have HS := Lib.hid hS
  have HN := Lib.hid hN
  have hns := name_size op
  have dm : decide (0 < bitsOf (shapeOf op)) = true := by simpa using himm
  have sa := text_size a
  have hp0 := pfx_size op 0
  have sn := text_size n
  clear hr hC hS hN hk h hreg himm hft
  generalize bitsOf (shapeOf op) = bits at *
  generalize signOf (shapeOf op) = sgn at *
  generalize textOf op a b c n = tx at *
  have i0 : ∀ w, (Instr.index 137 (.agg #[.int .i64 a, .int .i64 b, .int .i64 c]) (.int .i64 0)).run Tryd.prog w = .ok (.int .i64 a) w := fun w =>
    run_index_arr Tryd.underlying137 Tryd.underlying3 (by kernel_rfl) _ 0 _ (by decide) rfl w
  have i1 : ∀ w, (Instr.index 137 (.agg #[.int .i64 a, .int .i64 b, .int .i64 c]) (.int .i64 1)).run Tryd.prog w = .ok (.int .i64 b) w := fun w =>
    run_index_arr Tryd.underlying137 Tryd.underlying3 (by kernel_rfl) _ 1 _ (by decide) rfl w
  have i2 : ∀ w, (Instr.index 137 (.agg #[.int .i64 a, .int .i64 b, .int .i64 c]) (.int .i64 2)).run Tryd.prog w = .ok (.int .i64 c) w := fun w =>
    run_index_arr Tryd.underlying137 Tryd.underlying3 (by kernel_rfl) _ 2 _ (by decide) rfl w
  unfold instrV at *
  go_enter Tryd.func56, Tryd.ntmps56
  go_wp2_with fail
  refine (C.out _ (HS.out.alloc _)).mono ?_
  rintro e w1 ⟨rfl, hb1⟩
  have Q1 := Lib.hid ((Whole.made w 93 #[.int .i64 op, .int .i64 a, .int .i64 b, .int .i64 c, .int .i64 n] _ rfl).below hb1 (by simp))
  have B1 := Lib.hid (((Below.refl _ _).alloc (Nat.le_refl _) _).trans (hb1.mono (show w.heap.size ≤ _ by simp)))
  have HS1 := Lib.hid ((HS.out.alloc _).below hb1 (Nat.le_refl _))
  have HN1 := Lib.hid ((HN.out.alloc _).below hb1 (Nat.le_refl _))
  have z1 : w.heap.size < w1.heap.size := Q1.out.lt
  have q0 : w1.cell? ⟨w.heap.size, 0, none⟩ = some (.int .i64 op) := Q1.out.cell 0
  clear hb1
  go_wp2_with fail
  refine (fieldsOf_any _ _ HS1.out).mono ?_
  rintro e w2 ⟨rfl, hb2⟩
  rw [R.out]
  clear q0
  have Q := Lib.hid ((Q1.out.below hb2 z1).alloc (.cells #[.int .i64 1, .int .i64 bits, .bool sgn] 133))
  have z2 : w.heap.size < w2.heap.size := (Q1.out.below hb2 z1).lt
  have P := Lib.hid (Whole.made w2 133 #[.int .i64 1, .int .i64 bits, .bool sgn] _ rfl)
  have B2 := Lib.hid ((B1.out.trans (hb2.mono (Nat.le_of_lt z1))).alloc (Nat.le_of_lt z2) (.cells #[.int .i64 1, .int .i64 bits, .bool sgn] 133))
  have HN2 := Lib.hid ((HN1.out.below hb2 (Nat.le_refl _)).alloc (.cells #[.int .i64 1, .int .i64 bits, .bool sgn] 133))
  have q0 : w2.cell? ⟨w.heap.size, 0, none⟩ = some (.int .i64 op) := (Q1.out.below hb2 z1).cell 0
  have q1 : w2.cell? ⟨w.heap.size, 1, none⟩ = some (.int .i64 a) := (Q1.out.below hb2 z1).cell 1
  have q2 : w2.cell? ⟨w.heap.size, 2, none⟩ = some (.int .i64 b) := (Q1.out.below hb2 z1).cell 2
  have q3 : w2.cell? ⟨w.heap.size, 3, none⟩ = some (.int .i64 c) := (Q1.out.below hb2 z1).cell 3
  have q4 : w2.cell? ⟨w.heap.size, 4, none⟩ = some (.int .i64 n) := (Q1.out.below hb2 z1).cell 4
  clear hb2
  go_wp2_with fail
  have hg := Q.out.lt
  have hp := P.out.lt
  generalize w2.heap.size = g5 at *
  generalize w2.alloc (.cells #[.int .i64 1, .int .i64 bits, .bool sgn] 133) = W at *
  clear q0 q1 q2 q3 q4
  have q0 : W.cell? ⟨w.heap.size, 0, none⟩ = some (.int .i64 op) := Q.out.cell 0
  have q1 : W.cell? ⟨w.heap.size, 1, none⟩ = some (.int .i64 a) := Q.out.cell 1
  have q2 : W.cell? ⟨w.heap.size, 2, none⟩ = some (.int .i64 b) := Q.out.cell 2
  have q3 : W.cell? ⟨w.heap.size, 3, none⟩ = some (.int .i64 c) := Q.out.cell 3
  have q4 : W.cell? ⟨w.heap.size, 4, none⟩ = some (.int .i64 n) := Q.out.cell 4
  have p0 : W.cell? ⟨g5, 0, none⟩ = some (.int .i64 1) := P.out.cell 0
  have p1 : W.cell? ⟨g5, 1, none⟩ = some (.int .i64 bits) := P.out.cell 1
  have C0 := Lib.hid (Below.refl W.heap.size W)
  have O0 := Lib.hid (OwnsS.nil 9 W W.heap.size)
  refine wp_loop_rounds 4 ?_
  rw [rounds_succ]
  go_wp2_with fail
  refine (prefix_any _ _ _).mono ?_
  rintro e w' ⟨rfl, rfl⟩
  go_wp2_with fail
  refine (text_any a _ ha.1 ha.2).mono ?_
  rintro e y1 ⟨rfl, hb1⟩
  have C1 := Lib.hid (C0.out.trans (hb1.mono C0.out.size))
  have O1 := Lib.hid (O0.out.below hb1)
  clear hb1 q0 q1 q2 q3 q4 p0 p1
  have q0 : y1.cell? ⟨w.heap.size, 0, none⟩ = some (.int .i64 op) := (Q.out.below C1.out hg).cell 0
  have q1 : y1.cell? ⟨w.heap.size, 1, none⟩ = some (.int .i64 a) := (Q.out.below C1.out hg).cell 1
  have q2 : y1.cell? ⟨w.heap.size, 2, none⟩ = some (.int .i64 b) := (Q.out.below C1.out hg).cell 2
  have q3 : y1.cell? ⟨w.heap.size, 3, none⟩ = some (.int .i64 c) := (Q.out.below C1.out hg).cell 3
  have q4 : y1.cell? ⟨w.heap.size, 4, none⟩ = some (.int .i64 n) := (Q.out.below C1.out hg).cell 4
  have p0 : y1.cell? ⟨g5, 0, none⟩ = some (.int .i64 1) := (P.out.below C1.out hp).cell 0
  have p1 : y1.cell? ⟨g5, 1, none⟩ = some (.int .i64 bits) := (P.out.below C1.out hp).cell 1
  go_wp2_with (at_builtin; refine wpList_append_strs _ rfl (.tmp 36) (.tmp 44) rfl rowStr W.heap.size (.slice none 0 0) (0) _ rfl (O1.out.alloc _) (some ⟨y1.heap.size, 0, none⟩) 1 1 [rt op 0 a] rfl (strs_built 9 y1 [rt op 0 a] _ rfl 1 rfl (by decide) _ rfl) (by omega) (Nat.le_trans C1.out.size (by simp)) ?_; intro v2 y2 ho2 hg2 _; have hb2 : Below W.heap.size y1 y2 := OwnsS.grown_below ((Below.refl _ _).alloc C1.out.size _) (O1.out.alloc _) hg2 (Nat.le_trans C1.out.size (by simp)); have C2 := Lib.hid (C1.out.trans hb2); have O2 := Lib.hid ho2; clear ho2 hg2 hb2 q0 q1 q2 q3 q4 p0 p1; have q0 : y2.cell? ⟨w.heap.size, 0, none⟩ = some (.int .i64 op) := (Q.out.below C2.out hg).cell 0; have q1 : y2.cell? ⟨w.heap.size, 1, none⟩ = some (.int .i64 a) := (Q.out.below C2.out hg).cell 1; have q2 : y2.cell? ⟨w.heap.size, 2, none⟩ = some (.int .i64 b) := (Q.out.below C2.out hg).cell 2; have q3 : y2.cell? ⟨w.heap.size, 3, none⟩ = some (.int .i64 c) := (Q.out.below C2.out hg).cell 3; have q4 : y2.cell? ⟨w.heap.size, 4, none⟩ = some (.int .i64 n) := (Q.out.below C2.out hg).cell 4; have p0 : y2.cell? ⟨g5, 0, none⟩ = some (.int .i64 1) := (P.out.below C2.out hp).cell 0; have p1 : y2.cell? ⟨g5, 1, none⟩ = some (.int .i64 bits) := (P.out.below C2.out hp).cell 1)
  rw [rounds_succ]
  go_wp2_with fail
  rw [rounds_succ]
  go_wp2_with fail
  rw [rounds_succ]
  go_wp2_with fail
  refine (text_any n _ hn.1 hn.2).mono ?_
  rintro e y3 ⟨rfl, hb3⟩
  have C3 := Lib.hid (C2.out.trans (hb3.mono C2.out.size))
  have O3 := Lib.hid (O2.out.below hb3)
  clear hb3 q0 q1 q2 q3 q4 p0 p1
  have q0 : y3.cell? ⟨w.heap.size, 0, none⟩ = some (.int .i64 op) := (Q.out.below C3.out hg).cell 0
  have q1 : y3.cell? ⟨w.heap.size, 1, none⟩ = some (.int .i64 a) := (Q.out.below C3.out hg).cell 1
  have q2 : y3.cell? ⟨w.heap.size, 2, none⟩ = some (.int .i64 b) := (Q.out.below C3.out hg).cell 2
  have q3 : y3.cell? ⟨w.heap.size, 3, none⟩ = some (.int .i64 c) := (Q.out.below C3.out hg).cell 3
  have q4 : y3.cell? ⟨w.heap.size, 4, none⟩ = some (.int .i64 n) := (Q.out.below C3.out hg).cell 4
  have p0 : y3.cell? ⟨g5, 0, none⟩ = some (.int .i64 1) := (P.out.below C3.out hp).cell 0
  have p1 : y3.cell? ⟨g5, 1, none⟩ = some (.int .i64 bits) := (P.out.below C3.out hp).cell 1
  go_wp2_with (at_builtin; refine wpList_append_strs _ rfl (.tmp 50) (.tmp 54) rfl rowStr W.heap.size v2 (0 + 1) _ rfl (O3.out.alloc _) (some ⟨y3.heap.size, 0, none⟩) 1 1 [nt n] rfl (strs_built 9 y3 [nt n] _ rfl 1 rfl (by decide) _ rfl) (by omega) (Nat.le_trans C3.out.size (by simp)) ?_; intro v4 y4 ho4 hg4 _; have hb4 : Below W.heap.size y3 y4 := OwnsS.grown_below ((Below.refl _ _).alloc C3.out.size _) (O3.out.alloc _) hg4 (Nat.le_trans C3.out.size (by simp)); have C4 := Lib.hid (C3.out.trans hb4); have O4 := Lib.hid ho4; clear ho4 hg4 hb4 q0 q1 q2 q3 q4 p0 p1; have q0 : y4.cell? ⟨w.heap.size, 0, none⟩ = some (.int .i64 op) := (Q.out.below C4.out hg).cell 0; have q1 : y4.cell? ⟨w.heap.size, 1, none⟩ = some (.int .i64 a) := (Q.out.below C4.out hg).cell 1; have q2 : y4.cell? ⟨w.heap.size, 2, none⟩ = some (.int .i64 b) := (Q.out.below C4.out hg).cell 2; have q3 : y4.cell? ⟨w.heap.size, 3, none⟩ = some (.int .i64 c) := (Q.out.below C4.out hg).cell 3; have q4 : y4.cell? ⟨w.heap.size, 4, none⟩ = some (.int .i64 n) := (Q.out.below C4.out hg).cell 4; have p0 : y4.cell? ⟨g5, 0, none⟩ = some (.int .i64 1) := (P.out.below C4.out hp).cell 0; have p1 : y4.cell? ⟨g5, 1, none⟩ = some (.int .i64 bits) := (P.out.below C4.out hp).cell 1; obtain ⟨g4, k4, hv4, hk4, hl4, hc4⟩ := O4.out.big (by omega); subst hv4)
  go_wp2_with fail
  refine (name_any _ _ (HN2.out.below C4.out (Nat.le_refl _))).mono ?_
  rintro e w' ⟨rfl, rfl⟩
  go_wp2_with fail
  have hjn : Calls Tryd.prog 83 #[.slice (some ⟨g4, 0, none⟩) 2 k4, .string ⟨#[44, 32]⟩] y4 fun e w' => e = .returned (.string (joinS [rt op 0 a, nt n])) ∧ Below y4.heap.size y4 w' :=
    Tryd.strings_Join g4 0 k4 [rt op 0 a, nt n] ⟨#[44, 32]⟩ _ hc4 hl4 (show 2 ≤ 140737488355328 by decide) hk4 (Nat.le_trans JS.out (by decide))
  clear hc4
  generalize joinS [rt op 0 a, nt n] = jz at *
  refine hjn.mono ?_
  rintro e wz ⟨rfl, hbz⟩
  have fin := B2.out.trans ((C4.out.trans (hbz.mono C4.out.size)).mono B2.out.size)
  clear hbz
  go_wp2_with fail
  go_ret2
  exact ⟨congrArg (fun z => Ending.returned (.tuple #[.string z, .int .i64 0])) J.out, fin⟩
end Go.Proofs.YtnmpamfgkidmiaaDoor

/- Package instr: Text, by how many registers and whether there is a number: part 1. -/
namespace Go.Proofs.YtnmpamfgkidmiaaDoor
open Go.ChangeShapes Go.WideShapes Go.ChangeAt Go.RowKit
set_option linter.unusedVariables false

set_option maxHeartbeats 8000000 in
set_option maxRecDepth 100000 in
theorem text_21 (op a b c n : Int) (w : World) (hS : ShapesIn w) (hN : NamesIn w) (ha : I64 a) (hb : I64 b) (hc : I64 c) (hn : I64 n) (hk : checkOf op a b c n = 0) (hreg : regsOf (shapeOf op) = 2) (himm : 0 < bitsOf (shapeOf op)) :
    Calls Tryd.prog 56 #[instrV op a b c n] w fun e w' => e = .returned (.tuple #[.string (textOf op a b c n), .int .i64 0]) ∧ Below w.heap.size w w' := by
  have h := (good_of_check hk).1
  have hr : fieldsR op = .tuple #[.agg #[.int .i64 2, .int .i64 (bitsOf (shapeOf op)), .bool (signOf (shapeOf op))], .bool true] := by
    unfold fieldsR fieldsV
    rw [hreg]
    simp [h]
  have hft : fieldTexts op a b c n = [rt op 0 a, rt op 1 b, nt n] := by
    unfold fieldTexts
    rw [hreg, if_pos himm]
    rfl
  have hC := fun w hs => check_any op a b c n w hs ha hb hc hn
  rw [hk] at hC
  have hj : nameOf op ++ ⟨#[32]⟩ ++ joinS (fieldTexts op a b c n) = textOf op a b c n := by
    unfold textOf
    rw [hft]
    exact join3 _ _ _ _
  have hjs : (joinS (fieldTexts op a b c n)).size ≤ 101 := joinS_size (k := 3) (name_size op) (by decide) (by rw [hj]; unfold textOf; rw [hft]; rfl)
  rw [hft] at hj hjs
  have J := Lib.hid hj
  have JS := Lib.hid (show (Lib.join (([rt op 0 a, rt op 1 b, nt n] : List ByteArray).map (·.data.toList)) (⟨#[44, 32]⟩ : ByteArray).data.toList).length ≤ 101 by
    have e : (joinS [rt op 0 a, rt op 1 b, nt n]).size = (Lib.join (([rt op 0 a, rt op 1 b, nt n] : List ByteArray).map (·.data.toList)) (⟨#[44, 32]⟩ : ByteArray).data.toList).length := by
      show (List.toArray _).size = _
      simp
    omega)
  clear hj
  have R := Lib.hid hr
  have C := Lib.hid hC
  have HS := Lib.hid hS
  have HN := Lib.hid hN
  have hns := name_size op
  have dm : decide (0 < bitsOf (shapeOf op)) = true := by simpa using himm
  have sa := text_size a
  have hp0 := pfx_size op 0
  have sb := text_size b
  have hp1 := pfx_size op 1
  have sn := text_size n
  clear hr hC hS hN hk h hreg himm hft
  generalize bitsOf (shapeOf op) = bits at *
  generalize signOf (shapeOf op) = sgn at *
  generalize textOf op a b c n = tx at *
  have i0 : ∀ w, (Instr.index 137 (.agg #[.int .i64 a, .int .i64 b, .int .i64 c]) (.int .i64 0)).run Tryd.prog w = .ok (.int .i64 a) w := fun w =>
    run_index_arr Tryd.underlying137 Tryd.underlying3 (by kernel_rfl) _ 0 _ (by decide) rfl w
  have i1 : ∀ w, (Instr.index 137 (.agg #[.int .i64 a, .int .i64 b, .int .i64 c]) (.int .i64 1)).run Tryd.prog w = .ok (.int .i64 b) w := fun w =>
    run_index_arr Tryd.underlying137 Tryd.underlying3 (by kernel_rfl) _ 1 _ (by decide) rfl w
  have i2 : ∀ w, (Instr.index 137 (.agg #[.int .i64 a, .int .i64 b, .int .i64 c]) (.int .i64 2)).run Tryd.prog w = .ok (.int .i64 c) w := fun w =>
    run_index_arr Tryd.underlying137 Tryd.underlying3 (by kernel_rfl) _ 2 _ (by decide) rfl w
  unfold instrV at *
  go_enter Tryd.func56, Tryd.ntmps56
  go_wp2_with fail
  refine (C.out _ (HS.out.alloc _)).mono ?_
  rintro e w1 ⟨rfl, hb1⟩
  have Q1 := Lib.hid ((Whole.made w 93 #[.int .i64 op, .int .i64 a, .int .i64 b, .int .i64 c, .int .i64 n] _ rfl).below hb1 (by simp))
  have B1 := Lib.hid (((Below.refl _ _).alloc (Nat.le_refl _) _).trans (hb1.mono (show w.heap.size ≤ _ by simp)))
  have HS1 := Lib.hid ((HS.out.alloc _).below hb1 (Nat.le_refl _))
  have HN1 := Lib.hid ((HN.out.alloc _).below hb1 (Nat.le_refl _))
  have z1 : w.heap.size < w1.heap.size := Q1.out.lt
  have q0 : w1.cell? ⟨w.heap.size, 0, none⟩ = some (.int .i64 op) := Q1.out.cell 0
  clear hb1
  go_wp2_with fail
  refine (fieldsOf_any _ _ HS1.out).mono ?_
  rintro e w2 ⟨rfl, hb2⟩
  rw [R.out]
  clear q0
  have Q := Lib.hid ((Q1.out.below hb2 z1).alloc (.cells #[.int .i64 2, .int .i64 bits, .bool sgn] 133))
  have z2 : w.heap.size < w2.heap.size := (Q1.out.below hb2 z1).lt
  have P := Lib.hid (Whole.made w2 133 #[.int .i64 2, .int .i64 bits, .bool sgn] _ rfl)
  have B2 := Lib.hid ((B1.out.trans (hb2.mono (Nat.le_of_lt z1))).alloc (Nat.le_of_lt z2) (.cells #[.int .i64 2, .int .i64 bits, .bool sgn] 133))
  have HN2 := Lib.hid ((HN1.out.below hb2 (Nat.le_refl _)).alloc (.cells #[.int .i64 2, .int .i64 bits, .bool sgn] 133))
  have q0 : w2.cell? ⟨w.heap.size, 0, none⟩ = some (.int .i64 op) := (Q1.out.below hb2 z1).cell 0
  have q1 : w2.cell? ⟨w.heap.size, 1, none⟩ = some (.int .i64 a) := (Q1.out.below hb2 z1).cell 1
  have q2 : w2.cell? ⟨w.heap.size, 2, none⟩ = some (.int .i64 b) := (Q1.out.below hb2 z1).cell 2
  have q3 : w2.cell? ⟨w.heap.size, 3, none⟩ = some (.int .i64 c) := (Q1.out.below hb2 z1).cell 3
  have q4 : w2.cell? ⟨w.heap.size, 4, none⟩ = some (.int .i64 n) := (Q1.out.below hb2 z1).cell 4
  clear hb2
  go_wp2_with fail
  have hg := Q.out.lt
  have hp := P.out.lt
  generalize w2.heap.size = g5 at *
  generalize w2.alloc (.cells #[.int .i64 2, .int .i64 bits, .bool sgn] 133) = W at *
  clear q0 q1 q2 q3 q4
  have q0 : W.cell? ⟨w.heap.size, 0, none⟩ = some (.int .i64 op) := Q.out.cell 0
  have q1 : W.cell? ⟨w.heap.size, 1, none⟩ = some (.int .i64 a) := Q.out.cell 1
  have q2 : W.cell? ⟨w.heap.size, 2, none⟩ = some (.int .i64 b) := Q.out.cell 2
  have q3 : W.cell? ⟨w.heap.size, 3, none⟩ = some (.int .i64 c) := Q.out.cell 3
  have q4 : W.cell? ⟨w.heap.size, 4, none⟩ = some (.int .i64 n) := Q.out.cell 4
  have p0 : W.cell? ⟨g5, 0, none⟩ = some (.int .i64 2) := P.out.cell 0
  have p1 : W.cell? ⟨g5, 1, none⟩ = some (.int .i64 bits) := P.out.cell 1
  have C0 := Lib.hid (Below.refl W.heap.size W)
  have O0 := Lib.hid (OwnsS.nil 9 W W.heap.size)
  refine wp_loop_rounds 4 ?_
  rw [rounds_succ]
  go_wp2_with fail
  refine (prefix_any _ _ _).mono ?_
  rintro e w' ⟨rfl, rfl⟩
  go_wp2_with fail
  refine (text_any a _ ha.1 ha.2).mono ?_
  rintro e y1 ⟨rfl, hb1⟩
  have C1 := Lib.hid (C0.out.trans (hb1.mono C0.out.size))
  have O1 := Lib.hid (O0.out.below hb1)
  clear hb1 q0 q1 q2 q3 q4 p0 p1
  have q0 : y1.cell? ⟨w.heap.size, 0, none⟩ = some (.int .i64 op) := (Q.out.below C1.out hg).cell 0
  have q1 : y1.cell? ⟨w.heap.size, 1, none⟩ = some (.int .i64 a) := (Q.out.below C1.out hg).cell 1
  have q2 : y1.cell? ⟨w.heap.size, 2, none⟩ = some (.int .i64 b) := (Q.out.below C1.out hg).cell 2
  have q3 : y1.cell? ⟨w.heap.size, 3, none⟩ = some (.int .i64 c) := (Q.out.below C1.out hg).cell 3
  have q4 : y1.cell? ⟨w.heap.size, 4, none⟩ = some (.int .i64 n) := (Q.out.below C1.out hg).cell 4
  have p0 : y1.cell? ⟨g5, 0, none⟩ = some (.int .i64 2) := (P.out.below C1.out hp).cell 0
  have p1 : y1.cell? ⟨g5, 1, none⟩ = some (.int .i64 bits) := (P.out.below C1.out hp).cell 1
  go_wp2_with (at_builtin; refine wpList_append_strs _ rfl (.tmp 36) (.tmp 44) rfl rowStr W.heap.size (.slice none 0 0) (0) _ rfl (O1.out.alloc _) (some ⟨y1.heap.size, 0, none⟩) 1 1 [rt op 0 a] rfl (strs_built 9 y1 [rt op 0 a] _ rfl 1 rfl (by decide) _ rfl) (by omega) (Nat.le_trans C1.out.size (by simp)) ?_; intro v2 y2 ho2 hg2 _; have hb2 : Below W.heap.size y1 y2 := OwnsS.grown_below ((Below.refl _ _).alloc C1.out.size _) (O1.out.alloc _) hg2 (Nat.le_trans C1.out.size (by simp)); have C2 := Lib.hid (C1.out.trans hb2); have O2 := Lib.hid ho2; clear ho2 hg2 hb2 q0 q1 q2 q3 q4 p0 p1; have q0 : y2.cell? ⟨w.heap.size, 0, none⟩ = some (.int .i64 op) := (Q.out.below C2.out hg).cell 0; have q1 : y2.cell? ⟨w.heap.size, 1, none⟩ = some (.int .i64 a) := (Q.out.below C2.out hg).cell 1; have q2 : y2.cell? ⟨w.heap.size, 2, none⟩ = some (.int .i64 b) := (Q.out.below C2.out hg).cell 2; have q3 : y2.cell? ⟨w.heap.size, 3, none⟩ = some (.int .i64 c) := (Q.out.below C2.out hg).cell 3; have q4 : y2.cell? ⟨w.heap.size, 4, none⟩ = some (.int .i64 n) := (Q.out.below C2.out hg).cell 4; have p0 : y2.cell? ⟨g5, 0, none⟩ = some (.int .i64 2) := (P.out.below C2.out hp).cell 0; have p1 : y2.cell? ⟨g5, 1, none⟩ = some (.int .i64 bits) := (P.out.below C2.out hp).cell 1)
  rw [rounds_succ]
  go_wp2_with fail
  refine (prefix_any _ _ _).mono ?_
  rintro e w' ⟨rfl, rfl⟩
  go_wp2_with fail
  refine (text_any b _ hb.1 hb.2).mono ?_
  rintro e y3 ⟨rfl, hb3⟩
  have C3 := Lib.hid (C2.out.trans (hb3.mono C2.out.size))
  have O3 := Lib.hid (O2.out.below hb3)
  clear hb3 q0 q1 q2 q3 q4 p0 p1
  have q0 : y3.cell? ⟨w.heap.size, 0, none⟩ = some (.int .i64 op) := (Q.out.below C3.out hg).cell 0
  have q1 : y3.cell? ⟨w.heap.size, 1, none⟩ = some (.int .i64 a) := (Q.out.below C3.out hg).cell 1
  have q2 : y3.cell? ⟨w.heap.size, 2, none⟩ = some (.int .i64 b) := (Q.out.below C3.out hg).cell 2
  have q3 : y3.cell? ⟨w.heap.size, 3, none⟩ = some (.int .i64 c) := (Q.out.below C3.out hg).cell 3
  have q4 : y3.cell? ⟨w.heap.size, 4, none⟩ = some (.int .i64 n) := (Q.out.below C3.out hg).cell 4
  have p0 : y3.cell? ⟨g5, 0, none⟩ = some (.int .i64 2) := (P.out.below C3.out hp).cell 0
  have p1 : y3.cell? ⟨g5, 1, none⟩ = some (.int .i64 bits) := (P.out.below C3.out hp).cell 1
  go_wp2_with (at_builtin; refine wpList_append_strs _ rfl (.tmp 36) (.tmp 44) rfl rowStr W.heap.size v2 (0 + 1) _ rfl (O3.out.alloc _) (some ⟨y3.heap.size, 0, none⟩) 1 1 [rt op 1 b] rfl (strs_built 9 y3 [rt op 1 b] _ rfl 1 rfl (by decide) _ rfl) (by omega) (Nat.le_trans C3.out.size (by simp)) ?_; intro v4 y4 ho4 hg4 _; have hb4 : Below W.heap.size y3 y4 := OwnsS.grown_below ((Below.refl _ _).alloc C3.out.size _) (O3.out.alloc _) hg4 (Nat.le_trans C3.out.size (by simp)); have C4 := Lib.hid (C3.out.trans hb4); have O4 := Lib.hid ho4; clear ho4 hg4 hb4 q0 q1 q2 q3 q4 p0 p1; have q0 : y4.cell? ⟨w.heap.size, 0, none⟩ = some (.int .i64 op) := (Q.out.below C4.out hg).cell 0; have q1 : y4.cell? ⟨w.heap.size, 1, none⟩ = some (.int .i64 a) := (Q.out.below C4.out hg).cell 1; have q2 : y4.cell? ⟨w.heap.size, 2, none⟩ = some (.int .i64 b) := (Q.out.below C4.out hg).cell 2; have q3 : y4.cell? ⟨w.heap.size, 3, none⟩ = some (.int .i64 c) := (Q.out.below C4.out hg).cell 3; have q4 : y4.cell? ⟨w.heap.size, 4, none⟩ = some (.int .i64 n) := (Q.out.below C4.out hg).cell 4; have p0 : y4.cell? ⟨g5, 0, none⟩ = some (.int .i64 2) := (P.out.below C4.out hp).cell 0; have p1 : y4.cell? ⟨g5, 1, none⟩ = some (.int .i64 bits) := (P.out.below C4.out hp).cell 1)
  rw [rounds_succ]
  go_wp2_with fail
  rw [rounds_succ]
  go_wp2_with fail
  refine (text_any n _ hn.1 hn.2).mono ?_
  rintro e y5 ⟨rfl, hb5⟩
  have C5 := Lib.hid (C4.out.trans (hb5.mono C4.out.size))
  have O5 := Lib.hid (O4.out.below hb5)
  clear hb5 q0 q1 q2 q3 q4 p0 p1
  have q0 : y5.cell? ⟨w.heap.size, 0, none⟩ = some (.int .i64 op) := (Q.out.below C5.out hg).cell 0
  have q1 : y5.cell? ⟨w.heap.size, 1, none⟩ = some (.int .i64 a) := (Q.out.below C5.out hg).cell 1
  have q2 : y5.cell? ⟨w.heap.size, 2, none⟩ = some (.int .i64 b) := (Q.out.below C5.out hg).cell 2
  have q3 : y5.cell? ⟨w.heap.size, 3, none⟩ = some (.int .i64 c) := (Q.out.below C5.out hg).cell 3
  have q4 : y5.cell? ⟨w.heap.size, 4, none⟩ = some (.int .i64 n) := (Q.out.below C5.out hg).cell 4
  have p0 : y5.cell? ⟨g5, 0, none⟩ = some (.int .i64 2) := (P.out.below C5.out hp).cell 0
  have p1 : y5.cell? ⟨g5, 1, none⟩ = some (.int .i64 bits) := (P.out.below C5.out hp).cell 1
  go_wp2_with (at_builtin; refine wpList_append_strs _ rfl (.tmp 50) (.tmp 54) rfl rowStr W.heap.size v4 (0 + 1 + 1) _ rfl (O5.out.alloc _) (some ⟨y5.heap.size, 0, none⟩) 1 1 [nt n] rfl (strs_built 9 y5 [nt n] _ rfl 1 rfl (by decide) _ rfl) (by omega) (Nat.le_trans C5.out.size (by simp)) ?_; intro v6 y6 ho6 hg6 _; have hb6 : Below W.heap.size y5 y6 := OwnsS.grown_below ((Below.refl _ _).alloc C5.out.size _) (O5.out.alloc _) hg6 (Nat.le_trans C5.out.size (by simp)); have C6 := Lib.hid (C5.out.trans hb6); have O6 := Lib.hid ho6; clear ho6 hg6 hb6 q0 q1 q2 q3 q4 p0 p1; have q0 : y6.cell? ⟨w.heap.size, 0, none⟩ = some (.int .i64 op) := (Q.out.below C6.out hg).cell 0; have q1 : y6.cell? ⟨w.heap.size, 1, none⟩ = some (.int .i64 a) := (Q.out.below C6.out hg).cell 1; have q2 : y6.cell? ⟨w.heap.size, 2, none⟩ = some (.int .i64 b) := (Q.out.below C6.out hg).cell 2; have q3 : y6.cell? ⟨w.heap.size, 3, none⟩ = some (.int .i64 c) := (Q.out.below C6.out hg).cell 3; have q4 : y6.cell? ⟨w.heap.size, 4, none⟩ = some (.int .i64 n) := (Q.out.below C6.out hg).cell 4; have p0 : y6.cell? ⟨g5, 0, none⟩ = some (.int .i64 2) := (P.out.below C6.out hp).cell 0; have p1 : y6.cell? ⟨g5, 1, none⟩ = some (.int .i64 bits) := (P.out.below C6.out hp).cell 1; obtain ⟨g6, k6, hv6, hk6, hl6, hc6⟩ := O6.out.big (by omega); subst hv6)
  go_wp2_with fail
  refine (name_any _ _ (HN2.out.below C6.out (Nat.le_refl _))).mono ?_
  rintro e w' ⟨rfl, rfl⟩
  go_wp2_with fail
  have hjn : Calls Tryd.prog 83 #[.slice (some ⟨g6, 0, none⟩) 3 k6, .string ⟨#[44, 32]⟩] y6 fun e w' => e = .returned (.string (joinS [rt op 0 a, rt op 1 b, nt n])) ∧ Below y6.heap.size y6 w' :=
    Tryd.strings_Join g6 0 k6 [rt op 0 a, rt op 1 b, nt n] ⟨#[44, 32]⟩ _ hc6 hl6 (show 3 ≤ 140737488355328 by decide) hk6 (Nat.le_trans JS.out (by decide))
  clear hc6
  generalize joinS [rt op 0 a, rt op 1 b, nt n] = jz at *
  refine hjn.mono ?_
  rintro e wz ⟨rfl, hbz⟩
  have fin := B2.out.trans ((C6.out.trans (hbz.mono C6.out.size)).mono B2.out.size)
  clear hbz
  go_wp2_with fail
  go_ret2
  exact ⟨congrArg (fun z => Ending.returned (.tuple #[.string z, .int .i64 0])) J.out, fin⟩

set_option maxHeartbeats 8000000 in
set_option maxRecDepth 100000 in
theorem text_30 (op a b c n : Int) (w : World) (hS : ShapesIn w) (hN : NamesIn w) (ha : I64 a) (hb : I64 b) (hc : I64 c) (hn : I64 n) (hk : checkOf op a b c n = 0) (hreg : regsOf (shapeOf op) = 3) (himm : bitsOf (shapeOf op) = 0) :
    Calls Tryd.prog 56 #[instrV op a b c n] w fun e w' => e = .returned (.tuple #[.string (textOf op a b c n), .int .i64 0]) ∧ Below w.heap.size w w' := by
  have h := (good_of_check hk).1
  have hr : fieldsR op = .tuple #[.agg #[.int .i64 3, .int .i64 0, .bool (signOf (shapeOf op))], .bool true] := by
    unfold fieldsR fieldsV
    rw [hreg, himm]
    simp [h]
  have hft : fieldTexts op a b c n = [rt op 0 a, rt op 1 b, rt op 2 c] := by
    unfold fieldTexts
    rw [hreg, himm]
    rfl
  have hC := fun w hs => check_any op a b c n w hs ha hb hc hn
  rw [hk] at hC
  have hj : nameOf op ++ ⟨#[32]⟩ ++ joinS (fieldTexts op a b c n) = textOf op a b c n := by
    unfold textOf
    rw [hft]
    exact join3 _ _ _ _
  have hjs : (joinS (fieldTexts op a b c n)).size ≤ 101 := joinS_size (k := 3) (name_size op) (by decide) (by rw [hj]; unfold textOf; rw [hft]; rfl)
  rw [hft] at hj hjs
  have J := Lib.hid hj
  have JS := Lib.hid (show (Lib.join (([rt op 0 a, rt op 1 b, rt op 2 c] : List ByteArray).map (·.data.toList)) (⟨#[44, 32]⟩ : ByteArray).data.toList).length ≤ 101 by
    have e : (joinS [rt op 0 a, rt op 1 b, rt op 2 c]).size = (Lib.join (([rt op 0 a, rt op 1 b, rt op 2 c] : List ByteArray).map (·.data.toList)) (⟨#[44, 32]⟩ : ByteArray).data.toList).length := by
      show (List.toArray _).size = _
      simp
    omega)
  clear hj
  have R := Lib.hid hr
  have C := Lib.hid hC
  have HS := Lib.hid hS
  have HN := Lib.hid hN
  have hns := name_size op
  have sa := text_size a
  have hp0 := pfx_size op 0
  have sb := text_size b
  have hp1 := pfx_size op 1
  have sc := text_size c
  have hp2 := pfx_size op 2
  clear hr hC hS hN hk h hreg himm hft
  generalize signOf (shapeOf op) = sgn at *
  generalize textOf op a b c n = tx at *
  have i0 : ∀ w, (Instr.index 137 (.agg #[.int .i64 a, .int .i64 b, .int .i64 c]) (.int .i64 0)).run Tryd.prog w = .ok (.int .i64 a) w := fun w =>
    run_index_arr Tryd.underlying137 Tryd.underlying3 (by kernel_rfl) _ 0 _ (by decide) rfl w
  have i1 : ∀ w, (Instr.index 137 (.agg #[.int .i64 a, .int .i64 b, .int .i64 c]) (.int .i64 1)).run Tryd.prog w = .ok (.int .i64 b) w := fun w =>
    run_index_arr Tryd.underlying137 Tryd.underlying3 (by kernel_rfl) _ 1 _ (by decide) rfl w
  have i2 : ∀ w, (Instr.index 137 (.agg #[.int .i64 a, .int .i64 b, .int .i64 c]) (.int .i64 2)).run Tryd.prog w = .ok (.int .i64 c) w := fun w =>
    run_index_arr Tryd.underlying137 Tryd.underlying3 (by kernel_rfl) _ 2 _ (by decide) rfl w
  unfold instrV at *
  go_enter Tryd.func56, Tryd.ntmps56
  go_wp2_with fail
  refine (C.out _ (HS.out.alloc _)).mono ?_
  rintro e w1 ⟨rfl, hb1⟩
  have Q1 := Lib.hid ((Whole.made w 93 #[.int .i64 op, .int .i64 a, .int .i64 b, .int .i64 c, .int .i64 n] _ rfl).below hb1 (by simp))
  have B1 := Lib.hid (((Below.refl _ _).alloc (Nat.le_refl _) _).trans (hb1.mono (show w.heap.size ≤ _ by simp)))
  have HS1 := Lib.hid ((HS.out.alloc _).below hb1 (Nat.le_refl _))
  have HN1 := Lib.hid ((HN.out.alloc _).below hb1 (Nat.le_refl _))
  have z1 : w.heap.size < w1.heap.size := Q1.out.lt
  have q0 : w1.cell? ⟨w.heap.size, 0, none⟩ = some (.int .i64 op) := Q1.out.cell 0
  clear hb1
  go_wp2_with fail
  refine (fieldsOf_any _ _ HS1.out).mono ?_
  rintro e w2 ⟨rfl, hb2⟩
  rw [R.out]
  clear q0
  have Q := Lib.hid ((Q1.out.below hb2 z1).alloc (.cells #[.int .i64 3, .int .i64 0, .bool sgn] 133))
  have z2 : w.heap.size < w2.heap.size := (Q1.out.below hb2 z1).lt
  have P := Lib.hid (Whole.made w2 133 #[.int .i64 3, .int .i64 0, .bool sgn] _ rfl)
  have B2 := Lib.hid ((B1.out.trans (hb2.mono (Nat.le_of_lt z1))).alloc (Nat.le_of_lt z2) (.cells #[.int .i64 3, .int .i64 0, .bool sgn] 133))
  have HN2 := Lib.hid ((HN1.out.below hb2 (Nat.le_refl _)).alloc (.cells #[.int .i64 3, .int .i64 0, .bool sgn] 133))
  have q0 : w2.cell? ⟨w.heap.size, 0, none⟩ = some (.int .i64 op) := (Q1.out.below hb2 z1).cell 0
  have q1 : w2.cell? ⟨w.heap.size, 1, none⟩ = some (.int .i64 a) := (Q1.out.below hb2 z1).cell 1
  have q2 : w2.cell? ⟨w.heap.size, 2, none⟩ = some (.int .i64 b) := (Q1.out.below hb2 z1).cell 2
  have q3 : w2.cell? ⟨w.heap.size, 3, none⟩ = some (.int .i64 c) := (Q1.out.below hb2 z1).cell 3
  have q4 : w2.cell? ⟨w.heap.size, 4, none⟩ = some (.int .i64 n) := (Q1.out.below hb2 z1).cell 4
  clear hb2
  go_wp2_with fail
  have hg := Q.out.lt
  have hp := P.out.lt
  generalize w2.heap.size = g5 at *
  generalize w2.alloc (.cells #[.int .i64 3, .int .i64 0, .bool sgn] 133) = W at *
  clear q0 q1 q2 q3 q4
  have q0 : W.cell? ⟨w.heap.size, 0, none⟩ = some (.int .i64 op) := Q.out.cell 0
  have q1 : W.cell? ⟨w.heap.size, 1, none⟩ = some (.int .i64 a) := Q.out.cell 1
  have q2 : W.cell? ⟨w.heap.size, 2, none⟩ = some (.int .i64 b) := Q.out.cell 2
  have q3 : W.cell? ⟨w.heap.size, 3, none⟩ = some (.int .i64 c) := Q.out.cell 3
  have q4 : W.cell? ⟨w.heap.size, 4, none⟩ = some (.int .i64 n) := Q.out.cell 4
  have p0 : W.cell? ⟨g5, 0, none⟩ = some (.int .i64 3) := P.out.cell 0
  have p1 : W.cell? ⟨g5, 1, none⟩ = some (.int .i64 0) := P.out.cell 1
  have C0 := Lib.hid (Below.refl W.heap.size W)
  have O0 := Lib.hid (OwnsS.nil 9 W W.heap.size)
  refine wp_loop_rounds 4 ?_
  rw [rounds_succ]
  go_wp2_with fail
  refine (prefix_any _ _ _).mono ?_
  rintro e w' ⟨rfl, rfl⟩
  go_wp2_with fail
  refine (text_any a _ ha.1 ha.2).mono ?_
  rintro e y1 ⟨rfl, hb1⟩
  have C1 := Lib.hid (C0.out.trans (hb1.mono C0.out.size))
  have O1 := Lib.hid (O0.out.below hb1)
  clear hb1 q0 q1 q2 q3 q4 p0 p1
  have q0 : y1.cell? ⟨w.heap.size, 0, none⟩ = some (.int .i64 op) := (Q.out.below C1.out hg).cell 0
  have q1 : y1.cell? ⟨w.heap.size, 1, none⟩ = some (.int .i64 a) := (Q.out.below C1.out hg).cell 1
  have q2 : y1.cell? ⟨w.heap.size, 2, none⟩ = some (.int .i64 b) := (Q.out.below C1.out hg).cell 2
  have q3 : y1.cell? ⟨w.heap.size, 3, none⟩ = some (.int .i64 c) := (Q.out.below C1.out hg).cell 3
  have q4 : y1.cell? ⟨w.heap.size, 4, none⟩ = some (.int .i64 n) := (Q.out.below C1.out hg).cell 4
  have p0 : y1.cell? ⟨g5, 0, none⟩ = some (.int .i64 3) := (P.out.below C1.out hp).cell 0
  have p1 : y1.cell? ⟨g5, 1, none⟩ = some (.int .i64 0) := (P.out.below C1.out hp).cell 1
  go_wp2_with (at_builtin; refine wpList_append_strs _ rfl (.tmp 36) (.tmp 44) rfl rowStr W.heap.size (.slice none 0 0) (0) _ rfl (O1.out.alloc _) (some ⟨y1.heap.size, 0, none⟩) 1 1 [rt op 0 a] rfl (strs_built 9 y1 [rt op 0 a] _ rfl 1 rfl (by decide) _ rfl) (by omega) (Nat.le_trans C1.out.size (by simp)) ?_; intro v2 y2 ho2 hg2 _; have hb2 : Below W.heap.size y1 y2 := OwnsS.grown_below ((Below.refl _ _).alloc C1.out.size _) (O1.out.alloc _) hg2 (Nat.le_trans C1.out.size (by simp)); have C2 := Lib.hid (C1.out.trans hb2); have O2 := Lib.hid ho2; clear ho2 hg2 hb2 q0 q1 q2 q3 q4 p0 p1; have q0 : y2.cell? ⟨w.heap.size, 0, none⟩ = some (.int .i64 op) := (Q.out.below C2.out hg).cell 0; have q1 : y2.cell? ⟨w.heap.size, 1, none⟩ = some (.int .i64 a) := (Q.out.below C2.out hg).cell 1; have q2 : y2.cell? ⟨w.heap.size, 2, none⟩ = some (.int .i64 b) := (Q.out.below C2.out hg).cell 2; have q3 : y2.cell? ⟨w.heap.size, 3, none⟩ = some (.int .i64 c) := (Q.out.below C2.out hg).cell 3; have q4 : y2.cell? ⟨w.heap.size, 4, none⟩ = some (.int .i64 n) := (Q.out.below C2.out hg).cell 4; have p0 : y2.cell? ⟨g5, 0, none⟩ = some (.int .i64 3) := (P.out.below C2.out hp).cell 0; have p1 : y2.cell? ⟨g5, 1, none⟩ = some (.int .i64 0) := (P.out.below C2.out hp).cell 1)
  rw [rounds_succ]
  go_wp2_with fail
  refine (prefix_any _ _ _).mono ?_
  rintro e w' ⟨rfl, rfl⟩
  go_wp2_with fail
  refine (text_any b _ hb.1 hb.2).mono ?_
  rintro e y3 ⟨rfl, hb3⟩
  have C3 := Lib.hid (C2.out.trans (hb3.mono C2.out.size))
  have O3 := Lib.hid (O2.out.below hb3)
  clear hb3 q0 q1 q2 q3 q4 p0 p1
  have q0 : y3.cell? ⟨w.heap.size, 0, none⟩ = some (.int .i64 op) := (Q.out.below C3.out hg).cell 0
  have q1 : y3.cell? ⟨w.heap.size, 1, none⟩ = some (.int .i64 a) := (Q.out.below C3.out hg).cell 1
  have q2 : y3.cell? ⟨w.heap.size, 2, none⟩ = some (.int .i64 b) := (Q.out.below C3.out hg).cell 2
  have q3 : y3.cell? ⟨w.heap.size, 3, none⟩ = some (.int .i64 c) := (Q.out.below C3.out hg).cell 3
  have q4 : y3.cell? ⟨w.heap.size, 4, none⟩ = some (.int .i64 n) := (Q.out.below C3.out hg).cell 4
  have p0 : y3.cell? ⟨g5, 0, none⟩ = some (.int .i64 3) := (P.out.below C3.out hp).cell 0
  have p1 : y3.cell? ⟨g5, 1, none⟩ = some (.int .i64 0) := (P.out.below C3.out hp).cell 1
  go_wp2_with (at_builtin; refine wpList_append_strs _ rfl (.tmp 36) (.tmp 44) rfl rowStr W.heap.size v2 (0 + 1) _ rfl (O3.out.alloc _) (some ⟨y3.heap.size, 0, none⟩) 1 1 [rt op 1 b] rfl (strs_built 9 y3 [rt op 1 b] _ rfl 1 rfl (by decide) _ rfl) (by omega) (Nat.le_trans C3.out.size (by simp)) ?_; intro v4 y4 ho4 hg4 _; have hb4 : Below W.heap.size y3 y4 := OwnsS.grown_below ((Below.refl _ _).alloc C3.out.size _) (O3.out.alloc _) hg4 (Nat.le_trans C3.out.size (by simp)); have C4 := Lib.hid (C3.out.trans hb4); have O4 := Lib.hid ho4; clear ho4 hg4 hb4 q0 q1 q2 q3 q4 p0 p1; have q0 : y4.cell? ⟨w.heap.size, 0, none⟩ = some (.int .i64 op) := (Q.out.below C4.out hg).cell 0; have q1 : y4.cell? ⟨w.heap.size, 1, none⟩ = some (.int .i64 a) := (Q.out.below C4.out hg).cell 1; have q2 : y4.cell? ⟨w.heap.size, 2, none⟩ = some (.int .i64 b) := (Q.out.below C4.out hg).cell 2; have q3 : y4.cell? ⟨w.heap.size, 3, none⟩ = some (.int .i64 c) := (Q.out.below C4.out hg).cell 3; have q4 : y4.cell? ⟨w.heap.size, 4, none⟩ = some (.int .i64 n) := (Q.out.below C4.out hg).cell 4; have p0 : y4.cell? ⟨g5, 0, none⟩ = some (.int .i64 3) := (P.out.below C4.out hp).cell 0; have p1 : y4.cell? ⟨g5, 1, none⟩ = some (.int .i64 0) := (P.out.below C4.out hp).cell 1)
  rw [rounds_succ]
  go_wp2_with fail
  refine (prefix_any _ _ _).mono ?_
  rintro e w' ⟨rfl, rfl⟩
  go_wp2_with fail
  refine (text_any c _ hc.1 hc.2).mono ?_
  rintro e y5 ⟨rfl, hb5⟩
  have C5 := Lib.hid (C4.out.trans (hb5.mono C4.out.size))
  have O5 := Lib.hid (O4.out.below hb5)
  clear hb5 q0 q1 q2 q3 q4 p0 p1
  have q0 : y5.cell? ⟨w.heap.size, 0, none⟩ = some (.int .i64 op) := (Q.out.below C5.out hg).cell 0
  have q1 : y5.cell? ⟨w.heap.size, 1, none⟩ = some (.int .i64 a) := (Q.out.below C5.out hg).cell 1
  have q2 : y5.cell? ⟨w.heap.size, 2, none⟩ = some (.int .i64 b) := (Q.out.below C5.out hg).cell 2
  have q3 : y5.cell? ⟨w.heap.size, 3, none⟩ = some (.int .i64 c) := (Q.out.below C5.out hg).cell 3
  have q4 : y5.cell? ⟨w.heap.size, 4, none⟩ = some (.int .i64 n) := (Q.out.below C5.out hg).cell 4
  have p0 : y5.cell? ⟨g5, 0, none⟩ = some (.int .i64 3) := (P.out.below C5.out hp).cell 0
  have p1 : y5.cell? ⟨g5, 1, none⟩ = some (.int .i64 0) := (P.out.below C5.out hp).cell 1
  go_wp2_with (at_builtin; refine wpList_append_strs _ rfl (.tmp 36) (.tmp 44) rfl rowStr W.heap.size v4 (0 + 1 + 1) _ rfl (O5.out.alloc _) (some ⟨y5.heap.size, 0, none⟩) 1 1 [rt op 2 c] rfl (strs_built 9 y5 [rt op 2 c] _ rfl 1 rfl (by decide) _ rfl) (by omega) (Nat.le_trans C5.out.size (by simp)) ?_; intro v6 y6 ho6 hg6 _; have hb6 : Below W.heap.size y5 y6 := OwnsS.grown_below ((Below.refl _ _).alloc C5.out.size _) (O5.out.alloc _) hg6 (Nat.le_trans C5.out.size (by simp)); have C6 := Lib.hid (C5.out.trans hb6); have O6 := Lib.hid ho6; clear ho6 hg6 hb6 q0 q1 q2 q3 q4 p0 p1; have q0 : y6.cell? ⟨w.heap.size, 0, none⟩ = some (.int .i64 op) := (Q.out.below C6.out hg).cell 0; have q1 : y6.cell? ⟨w.heap.size, 1, none⟩ = some (.int .i64 a) := (Q.out.below C6.out hg).cell 1; have q2 : y6.cell? ⟨w.heap.size, 2, none⟩ = some (.int .i64 b) := (Q.out.below C6.out hg).cell 2; have q3 : y6.cell? ⟨w.heap.size, 3, none⟩ = some (.int .i64 c) := (Q.out.below C6.out hg).cell 3; have q4 : y6.cell? ⟨w.heap.size, 4, none⟩ = some (.int .i64 n) := (Q.out.below C6.out hg).cell 4; have p0 : y6.cell? ⟨g5, 0, none⟩ = some (.int .i64 3) := (P.out.below C6.out hp).cell 0; have p1 : y6.cell? ⟨g5, 1, none⟩ = some (.int .i64 0) := (P.out.below C6.out hp).cell 1; obtain ⟨g6, k6, hv6, hk6, hl6, hc6⟩ := O6.out.big (by omega); subst hv6)
  rw [rounds_succ]
  go_wp2_with fail
  refine (name_any _ _ (HN2.out.below C6.out (Nat.le_refl _))).mono ?_
  rintro e w' ⟨rfl, rfl⟩
  go_wp2_with fail
  have hjn : Calls Tryd.prog 83 #[.slice (some ⟨g6, 0, none⟩) 3 k6, .string ⟨#[44, 32]⟩] y6 fun e w' => e = .returned (.string (joinS [rt op 0 a, rt op 1 b, rt op 2 c])) ∧ Below y6.heap.size y6 w' :=
    Tryd.strings_Join g6 0 k6 [rt op 0 a, rt op 1 b, rt op 2 c] ⟨#[44, 32]⟩ _ hc6 hl6 (show 3 ≤ 140737488355328 by decide) hk6 (Nat.le_trans JS.out (by decide))
  clear hc6
  generalize joinS [rt op 0 a, rt op 1 b, rt op 2 c] = jz at *
  refine hjn.mono ?_
  rintro e wz ⟨rfl, hbz⟩
  have fin := B2.out.trans ((C6.out.trans (hbz.mono C6.out.size)).mono B2.out.size)
  clear hbz
  go_wp2_with fail
  go_ret2
  exact ⟨congrArg (fun z => Ending.returned (.tuple #[.string z, .int .i64 0])) J.out, fin⟩
end Go.Proofs.YtnmpamfgkidmiaaDoor

/- Package instr: Text, of any instruction. -/
namespace Go.Proofs.YtnmpamfgkidmiaaDoor
open Go.ChangeShapes Go.WideShapes Go.ChangeAt Go.RowKit
set_option linter.unusedVariables false

set_option maxHeartbeats 4000000 in
set_option maxRecDepth 100000 in
theorem text02_bad (op a b c n : Int) (w : World) (hS : ShapesIn w) (ha : I64 a) (hb : I64 b) (hc : I64 c) (hn : I64 n) (hk : checkOf op a b c n ≠ 0) :
    Calls Tryd.prog 56 #[instrV op a b c n] w fun e w' => e = .returned (.tuple #[.string ⟨#[]⟩, .int .i64 (checkOf op a b c n)]) ∧ Below w.heap.size w w' := by
  have C := Lib.hid (fun w hs => check_any op a b c n w hs ha hb hc hn)
  have HS := Lib.hid hS
  have hne : (checkOf op a b c n != 0) = true := by simpa using hk
  clear hk hS ha hb hc hn
  generalize checkOf op a b c n = v at *
  unfold instrV at *
  go_enter Tryd.func56, Tryd.ntmps56
  go_wp2_with fail
  refine (C.out _ (HS.out.alloc _)).mono ?_
  rintro e w1 ⟨rfl, hb1⟩
  have B1 := Lib.hid (((Below.refl _ _).alloc (Nat.le_refl _) _).trans (hb1.mono (show w.heap.size ≤ _ by simp)))
  clear hb1
  go_wp2
  go_ret2
  exact ⟨rfl, B1.out⟩

theorem text02_any (op a b c n : Int) (w : World) (hS : ShapesIn w) (hN : NamesIn w) (ha : I64 a) (hb : I64 b) (hc : I64 c) (hn : I64 n) :
    Calls Tryd.prog 56 #[instrV op a b c n] w fun e w' => e = .returned (.tuple #[.string (if checkOf op a b c n = 0 then textOf op a b c n else ⟨#[]⟩), .int .i64 (checkOf op a b c n)]) ∧ Below w.heap.size w w' := by
  by_cases hk : checkOf op a b c n = 0
  · rw [if_pos hk, hk]
    have h := (good_of_check hk).1
    have hr := shapeOf_range op
    rcases (show (regsOf (shapeOf op) = 0 ∧ bitsOf (shapeOf op) = 0) ∨ (regsOf (shapeOf op) = 0 ∧ 0 < bitsOf (shapeOf op)) ∨ (regsOf (shapeOf op) = 1 ∧ bitsOf (shapeOf op) = 0) ∨ (regsOf (shapeOf op) = 1 ∧ 0 < bitsOf (shapeOf op)) ∨ (regsOf (shapeOf op) = 2 ∧ 0 < bitsOf (shapeOf op)) ∨ (regsOf (shapeOf op) = 3 ∧ bitsOf (shapeOf op) = 0) by unfold regsOf bitsOf; omega) with ⟨g1, g2⟩ | ⟨g1, g2⟩ | ⟨g1, g2⟩ | ⟨g1, g2⟩ | ⟨g1, g2⟩ | ⟨g1, g2⟩
    · exact text_00 op a b c n w hS hN ha hb hc hn hk g1 g2
    · exact text_01 op a b c n w hS hN ha hb hc hn hk g1 g2
    · exact text_10 op a b c n w hS hN ha hb hc hn hk g1 g2
    · exact text_11 op a b c n w hS hN ha hb hc hn hk g1 g2
    · exact text_21 op a b c n w hS hN ha hb hc hn hk g1 g2
    · exact text_30 op a b c n w hS hN ha hb hc hn hk g1 g2
  · rw [if_neg hk]
    exact text02_bad op a b c n w hS ha hb hc hn hk
end Go.Proofs.YtnmpamfgkidmiaaDoor
