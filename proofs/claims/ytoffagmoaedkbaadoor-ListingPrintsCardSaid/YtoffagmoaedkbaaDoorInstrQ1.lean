/- The answers' Fields of package instr, by shapes: part 1. -/
import Derived.Test.YtoffagmoaedkbaaDoorInstrP
import Derived.Test.YtoffagmoaedkbaaDoorBlocks
namespace Go.Proofs.YtoffagmoaedkbaaDoor
open Go.ChangeShapes Go.WideShapes Go.ChangeAt Go.RowKit
set_option linter.unusedVariables false

set_option maxHeartbeats 8000000 in
set_option maxRecDepth 100000 in
theorem fields_4 (op a b c n : Int) (w : World) (ha : I64 a) (hb : I64 b) (hc : I64 c) (hn : I64 n) (h : shapeOf op = 4) (hk : op ≠ 26) :
    Calls Tryd.prog 80 #[instrV op a b c n] w fun e w' => ∃ A m k, e = .returned (.slice A m k) ∧ OwnsS 9 w' w.heap.size (.slice A m k) m (fieldTexts op a b c n) ∧ Below w.heap.size w w' := by
  have dk : (op == 26) = false := by simpa using hk
  have F := Lib.hid (show fieldTexts op a b c n = [(⟨#[114]⟩ : ByteArray) ++ strOfNums (textNums a), (⟨#[114]⟩ : ByteArray) ++ strOfNums (textNums b), strOfNums (textNums n)] by
    unfold fieldTexts
    rw [h]
    show [rt op 0 a, rt op 1 b, nt n] = _
    rw [rt_0, rt_1 hk]
    rfl)
  have H := Lib.hid h
  have sa := text_size a
  have sb := text_size b
  have sc := text_size c
  have sn := text_size n
  clear h hk
  unfold instrV
  go_enter Tryd.func80, Tryd.ntmps80
  go_wp2_with fail
  refine (refshape_any _ _).mono ?_
  rintro e w' ⟨rfl, rfl⟩
  rw [H.out]
  go_wp2_with fail
  refine (has_any _ _).mono ?_
  rintro e w' ⟨rfl, rfl⟩
  have Q := Lib.hid (Whole.made w 91 #[.int .i64 op, .int .i64 a, .int .i64 b, .int .i64 c, .int .i64 n] _ rfl)
  have hg := Q.out.lt
  have B0 := Lib.hid ((Below.refl w.heap.size w).alloc (Nat.le_refl _) (.cells #[.int .i64 op, .int .i64 a, .int .i64 b, .int .i64 c, .int .i64 n] 91))
  generalize w.alloc (.cells #[.int .i64 op, .int .i64 a, .int .i64 b, .int .i64 c, .int .i64 n] 91) = W at *
  have q0 : W.cell? ⟨w.heap.size, 0, none⟩ = some (.int .i64 op) := Q.out.cell 0
  have q1 : W.cell? ⟨w.heap.size, 1, none⟩ = some (.int .i64 a) := Q.out.cell 1
  have q2 : W.cell? ⟨w.heap.size, 2, none⟩ = some (.int .i64 b) := Q.out.cell 2
  have q3 : W.cell? ⟨w.heap.size, 3, none⟩ = some (.int .i64 c) := Q.out.cell 3
  have q4 : W.cell? ⟨w.heap.size, 4, none⟩ = some (.int .i64 n) := Q.out.cell 4
  have C0 := Lib.hid (Below.refl W.heap.size W)
  have O0 := Lib.hid (OwnsS.nil 9 W W.heap.size)
  go_wp2_with fail
  refine (reftext_any a _ ha.1 ha.2).mono ?_
  rintro e w1 ⟨rfl, hb1⟩
  have C1 := Lib.hid (C0.out.trans (hb1.mono C0.out.size))
  have O1 := Lib.hid (O0.out.below hb1)
  have Q1 := Lib.hid (Q.out.below C1.out hg)
  have z1 : w.heap.size < w1.heap.size := Q1.out.lt
  clear hb1 q0 q1 q2 q3 q4
  have q0 : w1.cell? ⟨w.heap.size, 0, none⟩ = some (.int .i64 op) := Q1.out.cell 0
  have q1 : w1.cell? ⟨w.heap.size, 1, none⟩ = some (.int .i64 a) := Q1.out.cell 1
  have q2 : w1.cell? ⟨w.heap.size, 2, none⟩ = some (.int .i64 b) := Q1.out.cell 2
  have q3 : w1.cell? ⟨w.heap.size, 3, none⟩ = some (.int .i64 c) := Q1.out.cell 3
  have q4 : w1.cell? ⟨w.heap.size, 4, none⟩ = some (.int .i64 n) := Q1.out.cell 4
  go_wp2_with (at_builtin; refine wpList_append_strs _ rfl (.tmp 18) (.tmp 23) rfl rowStr W.heap.size (.slice none 0 0) (0) _ rfl (O1.out.alloc _) (some ⟨w1.heap.size, 0, none⟩) 1 1 [(⟨#[114]⟩ : ByteArray) ++ strOfNums (textNums a)] rfl (strs_built 9 w1 [(⟨#[114]⟩ : ByteArray) ++ strOfNums (textNums a)] _ rfl 1 rfl (by decide) _ rfl) (by omega) (Nat.le_trans C1.out.size (by simp)) ?_; intro v2 w2 ho2 hg2 _; have hb2 : Below W.heap.size w1 w2 := OwnsS.grown_below ((Below.refl _ _).alloc C1.out.size _) (O1.out.alloc _) hg2 (Nat.le_trans C1.out.size (by simp)); have C2 := Lib.hid (C1.out.trans hb2); have O2 := Lib.hid ho2; have Q2 := Lib.hid (Q.out.below C2.out hg); have z2 : w.heap.size < w2.heap.size := Q2.out.lt; clear ho2 hg2 hb2 q0 q1 q2 q3 q4; have q0 : w2.cell? ⟨w.heap.size, 0, none⟩ = some (.int .i64 op) := Q2.out.cell 0; have q1 : w2.cell? ⟨w.heap.size, 1, none⟩ = some (.int .i64 a) := Q2.out.cell 1; have q2 : w2.cell? ⟨w.heap.size, 2, none⟩ = some (.int .i64 b) := Q2.out.cell 2; have q3 : w2.cell? ⟨w.heap.size, 3, none⟩ = some (.int .i64 c) := Q2.out.cell 3; have q4 : w2.cell? ⟨w.heap.size, 4, none⟩ = some (.int .i64 n) := Q2.out.cell 4)
  go_wp2_with fail
  refine (reftext_any b _ hb.1 hb.2).mono ?_
  rintro e w3 ⟨rfl, hb3⟩
  have C3 := Lib.hid (C2.out.trans (hb3.mono C2.out.size))
  have O3 := Lib.hid (O2.out.below hb3)
  have Q3 := Lib.hid (Q.out.below C3.out hg)
  have z3 : w.heap.size < w3.heap.size := Q3.out.lt
  clear hb3 q0 q1 q2 q3 q4
  have q0 : w3.cell? ⟨w.heap.size, 0, none⟩ = some (.int .i64 op) := Q3.out.cell 0
  have q1 : w3.cell? ⟨w.heap.size, 1, none⟩ = some (.int .i64 a) := Q3.out.cell 1
  have q2 : w3.cell? ⟨w.heap.size, 2, none⟩ = some (.int .i64 b) := Q3.out.cell 2
  have q3 : w3.cell? ⟨w.heap.size, 3, none⟩ = some (.int .i64 c) := Q3.out.cell 3
  have q4 : w3.cell? ⟨w.heap.size, 4, none⟩ = some (.int .i64 n) := Q3.out.cell 4
  go_wp2_with (at_builtin; refine wpList_append_strs _ rfl (.tmp 36) (.tmp 38) rfl rowStr W.heap.size v2 (0 + 1) _ rfl (O3.out.alloc _) (some ⟨w3.heap.size, 0, none⟩) 1 1 [(⟨#[114]⟩ : ByteArray) ++ strOfNums (textNums b)] rfl (strs_built 9 w3 [(⟨#[114]⟩ : ByteArray) ++ strOfNums (textNums b)] _ rfl 1 rfl (by decide) _ rfl) (by omega) (Nat.le_trans C3.out.size (by simp)) ?_; intro v4 w4 ho4 hg4 _; have hb4 : Below W.heap.size w3 w4 := OwnsS.grown_below ((Below.refl _ _).alloc C3.out.size _) (O3.out.alloc _) hg4 (Nat.le_trans C3.out.size (by simp)); have C4 := Lib.hid (C3.out.trans hb4); have O4 := Lib.hid ho4; have Q4 := Lib.hid (Q.out.below C4.out hg); have z4 : w.heap.size < w4.heap.size := Q4.out.lt; clear ho4 hg4 hb4 q0 q1 q2 q3 q4; have q0 : w4.cell? ⟨w.heap.size, 0, none⟩ = some (.int .i64 op) := Q4.out.cell 0; have q1 : w4.cell? ⟨w.heap.size, 1, none⟩ = some (.int .i64 a) := Q4.out.cell 1; have q2 : w4.cell? ⟨w.heap.size, 2, none⟩ = some (.int .i64 b) := Q4.out.cell 2; have q3 : w4.cell? ⟨w.heap.size, 3, none⟩ = some (.int .i64 c) := Q4.out.cell 3; have q4 : w4.cell? ⟨w.heap.size, 4, none⟩ = some (.int .i64 n) := Q4.out.cell 4)
  go_wp2_with fail
  refine (refshape_any _ _).mono ?_
  rintro e w' ⟨rfl, rfl⟩
  rw [H.out]
  go_wp2_with fail
  refine (reftext_any n _ hn.1 hn.2).mono ?_
  rintro e w5 ⟨rfl, hb5⟩
  have C5 := Lib.hid (C4.out.trans (hb5.mono C4.out.size))
  have O5 := Lib.hid (O4.out.below hb5)
  have Q5 := Lib.hid (Q.out.below C5.out hg)
  have z5 : w.heap.size < w5.heap.size := Q5.out.lt
  clear hb5 q0 q1 q2 q3 q4
  have q0 : w5.cell? ⟨w.heap.size, 0, none⟩ = some (.int .i64 op) := Q5.out.cell 0
  have q1 : w5.cell? ⟨w.heap.size, 1, none⟩ = some (.int .i64 a) := Q5.out.cell 1
  have q2 : w5.cell? ⟨w.heap.size, 2, none⟩ = some (.int .i64 b) := Q5.out.cell 2
  have q3 : w5.cell? ⟨w.heap.size, 3, none⟩ = some (.int .i64 c) := Q5.out.cell 3
  have q4 : w5.cell? ⟨w.heap.size, 4, none⟩ = some (.int .i64 n) := Q5.out.cell 4
  go_wp2_with (at_builtin; refine wpList_append_strs _ rfl (.tmp 61) (.tmp 65) rfl rowStr W.heap.size v4 (0 + 1 + 1) _ rfl (O5.out.alloc _) (some ⟨w5.heap.size, 0, none⟩) 1 1 [strOfNums (textNums n)] rfl (strs_built 9 w5 [strOfNums (textNums n)] _ rfl 1 rfl (by decide) _ rfl) (by omega) (Nat.le_trans C5.out.size (by simp)) ?_; intro v6 w6 ho6 hg6 _; have hb6 : Below W.heap.size w5 w6 := OwnsS.grown_below ((Below.refl _ _).alloc C5.out.size _) (O5.out.alloc _) hg6 (Nat.le_trans C5.out.size (by simp)); have C6 := Lib.hid (C5.out.trans hb6); have O6 := Lib.hid ho6; have Q6 := Lib.hid (Q.out.below C6.out hg); have z6 : w.heap.size < w6.heap.size := Q6.out.lt; clear ho6 hg6 hb6 q0 q1 q2 q3 q4; have q0 : w6.cell? ⟨w.heap.size, 0, none⟩ = some (.int .i64 op) := Q6.out.cell 0; have q1 : w6.cell? ⟨w.heap.size, 1, none⟩ = some (.int .i64 a) := Q6.out.cell 1; have q2 : w6.cell? ⟨w.heap.size, 2, none⟩ = some (.int .i64 b) := Q6.out.cell 2; have q3 : w6.cell? ⟨w.heap.size, 3, none⟩ = some (.int .i64 c) := Q6.out.cell 3; have q4 : w6.cell? ⟨w.heap.size, 4, none⟩ = some (.int .i64 n) := Q6.out.cell 4)
  go_wp2_with fail
  have fin := O6.out.more (B' := w.heap.size) (Nat.le_of_lt hg)
  have finB := B0.out.trans (C6.out.mono (Nat.le_of_lt hg))
  obtain ⟨A, k, hv, _⟩ := fin.form
  subst hv
  go_ret
  refine ⟨A, _, k, rfl, ?_, finB⟩
  rw [F.out]
  exact fin

set_option maxHeartbeats 8000000 in
set_option maxRecDepth 100000 in
theorem fields_4c (op a b c n : Int) (w : World) (ha : I64 a) (hb : I64 b) (hc : I64 c) (hn : I64 n) (h : shapeOf op = 4) (hk : op = 26) :
    Calls Tryd.prog 80 #[instrV op a b c n] w fun e w' => ∃ A m k, e = .returned (.slice A m k) ∧ OwnsS 9 w' w.heap.size (.slice A m k) m (fieldTexts op a b c n) ∧ Below w.heap.size w w' := by
  have dk : (op == 26) = true := by simpa using hk
  have F := Lib.hid (show fieldTexts op a b c n = [(⟨#[114]⟩ : ByteArray) ++ strOfNums (textNums a), strOfNums (textNums b), strOfNums (textNums n)] by
    unfold fieldTexts
    rw [h]
    show [rt op 0 a, rt op 1 b, nt n] = _
    rw [rt_0, rt_1c hk]
    rfl)
  have H := Lib.hid h
  have sa := text_size a
  have sb := text_size b
  have sc := text_size c
  have sn := text_size n
  clear h hk
  unfold instrV
  go_enter Tryd.func80, Tryd.ntmps80
  go_wp2_with fail
  refine (refshape_any _ _).mono ?_
  rintro e w' ⟨rfl, rfl⟩
  rw [H.out]
  go_wp2_with fail
  refine (has_any _ _).mono ?_
  rintro e w' ⟨rfl, rfl⟩
  have Q := Lib.hid (Whole.made w 91 #[.int .i64 op, .int .i64 a, .int .i64 b, .int .i64 c, .int .i64 n] _ rfl)
  have hg := Q.out.lt
  have B0 := Lib.hid ((Below.refl w.heap.size w).alloc (Nat.le_refl _) (.cells #[.int .i64 op, .int .i64 a, .int .i64 b, .int .i64 c, .int .i64 n] 91))
  generalize w.alloc (.cells #[.int .i64 op, .int .i64 a, .int .i64 b, .int .i64 c, .int .i64 n] 91) = W at *
  have q0 : W.cell? ⟨w.heap.size, 0, none⟩ = some (.int .i64 op) := Q.out.cell 0
  have q1 : W.cell? ⟨w.heap.size, 1, none⟩ = some (.int .i64 a) := Q.out.cell 1
  have q2 : W.cell? ⟨w.heap.size, 2, none⟩ = some (.int .i64 b) := Q.out.cell 2
  have q3 : W.cell? ⟨w.heap.size, 3, none⟩ = some (.int .i64 c) := Q.out.cell 3
  have q4 : W.cell? ⟨w.heap.size, 4, none⟩ = some (.int .i64 n) := Q.out.cell 4
  have C0 := Lib.hid (Below.refl W.heap.size W)
  have O0 := Lib.hid (OwnsS.nil 9 W W.heap.size)
  go_wp2_with fail
  refine (reftext_any a _ ha.1 ha.2).mono ?_
  rintro e w1 ⟨rfl, hb1⟩
  have C1 := Lib.hid (C0.out.trans (hb1.mono C0.out.size))
  have O1 := Lib.hid (O0.out.below hb1)
  have Q1 := Lib.hid (Q.out.below C1.out hg)
  have z1 : w.heap.size < w1.heap.size := Q1.out.lt
  clear hb1 q0 q1 q2 q3 q4
  have q0 : w1.cell? ⟨w.heap.size, 0, none⟩ = some (.int .i64 op) := Q1.out.cell 0
  have q1 : w1.cell? ⟨w.heap.size, 1, none⟩ = some (.int .i64 a) := Q1.out.cell 1
  have q2 : w1.cell? ⟨w.heap.size, 2, none⟩ = some (.int .i64 b) := Q1.out.cell 2
  have q3 : w1.cell? ⟨w.heap.size, 3, none⟩ = some (.int .i64 c) := Q1.out.cell 3
  have q4 : w1.cell? ⟨w.heap.size, 4, none⟩ = some (.int .i64 n) := Q1.out.cell 4
  go_wp2_with (at_builtin; refine wpList_append_strs _ rfl (.tmp 18) (.tmp 23) rfl rowStr W.heap.size (.slice none 0 0) (0) _ rfl (O1.out.alloc _) (some ⟨w1.heap.size, 0, none⟩) 1 1 [(⟨#[114]⟩ : ByteArray) ++ strOfNums (textNums a)] rfl (strs_built 9 w1 [(⟨#[114]⟩ : ByteArray) ++ strOfNums (textNums a)] _ rfl 1 rfl (by decide) _ rfl) (by omega) (Nat.le_trans C1.out.size (by simp)) ?_; intro v2 w2 ho2 hg2 _; have hb2 : Below W.heap.size w1 w2 := OwnsS.grown_below ((Below.refl _ _).alloc C1.out.size _) (O1.out.alloc _) hg2 (Nat.le_trans C1.out.size (by simp)); have C2 := Lib.hid (C1.out.trans hb2); have O2 := Lib.hid ho2; have Q2 := Lib.hid (Q.out.below C2.out hg); have z2 : w.heap.size < w2.heap.size := Q2.out.lt; clear ho2 hg2 hb2 q0 q1 q2 q3 q4; have q0 : w2.cell? ⟨w.heap.size, 0, none⟩ = some (.int .i64 op) := Q2.out.cell 0; have q1 : w2.cell? ⟨w.heap.size, 1, none⟩ = some (.int .i64 a) := Q2.out.cell 1; have q2 : w2.cell? ⟨w.heap.size, 2, none⟩ = some (.int .i64 b) := Q2.out.cell 2; have q3 : w2.cell? ⟨w.heap.size, 3, none⟩ = some (.int .i64 c) := Q2.out.cell 3; have q4 : w2.cell? ⟨w.heap.size, 4, none⟩ = some (.int .i64 n) := Q2.out.cell 4)
  go_wp2_with fail
  refine (reftext_any b _ hb.1 hb.2).mono ?_
  rintro e w3 ⟨rfl, hb3⟩
  have C3 := Lib.hid (C2.out.trans (hb3.mono C2.out.size))
  have O3 := Lib.hid (O2.out.below hb3)
  have Q3 := Lib.hid (Q.out.below C3.out hg)
  have z3 : w.heap.size < w3.heap.size := Q3.out.lt
  clear hb3 q0 q1 q2 q3 q4
  have q0 : w3.cell? ⟨w.heap.size, 0, none⟩ = some (.int .i64 op) := Q3.out.cell 0
  have q1 : w3.cell? ⟨w.heap.size, 1, none⟩ = some (.int .i64 a) := Q3.out.cell 1
  have q2 : w3.cell? ⟨w.heap.size, 2, none⟩ = some (.int .i64 b) := Q3.out.cell 2
  have q3 : w3.cell? ⟨w.heap.size, 3, none⟩ = some (.int .i64 c) := Q3.out.cell 3
  have q4 : w3.cell? ⟨w.heap.size, 4, none⟩ = some (.int .i64 n) := Q3.out.cell 4
  go_wp2_with fail
  refine (reftext_any b _ hb.1 hb.2).mono ?_
  rintro e w4 ⟨rfl, hb4⟩
  have C4 := Lib.hid (C3.out.trans (hb4.mono C3.out.size))
  have O4 := Lib.hid (O3.out.below hb4)
  have Q4 := Lib.hid (Q.out.below C4.out hg)
  have z4 : w.heap.size < w4.heap.size := Q4.out.lt
  clear hb4 q0 q1 q2 q3 q4
  have q0 : w4.cell? ⟨w.heap.size, 0, none⟩ = some (.int .i64 op) := Q4.out.cell 0
  have q1 : w4.cell? ⟨w.heap.size, 1, none⟩ = some (.int .i64 a) := Q4.out.cell 1
  have q2 : w4.cell? ⟨w.heap.size, 2, none⟩ = some (.int .i64 b) := Q4.out.cell 2
  have q3 : w4.cell? ⟨w.heap.size, 3, none⟩ = some (.int .i64 c) := Q4.out.cell 3
  have q4 : w4.cell? ⟨w.heap.size, 4, none⟩ = some (.int .i64 n) := Q4.out.cell 4
  go_wp2_with (at_builtin; refine wpList_append_strs _ rfl (.tmp 36) (.tmp 38) rfl rowStr W.heap.size v2 (0 + 1) _ rfl (O4.out.alloc _) (some ⟨w4.heap.size, 0, none⟩) 1 1 [strOfNums (textNums b)] rfl (strs_built 9 w4 [strOfNums (textNums b)] _ rfl 1 rfl (by decide) _ rfl) (by omega) (Nat.le_trans C4.out.size (by simp)) ?_; intro v5 w5 ho5 hg5 _; have hb5 : Below W.heap.size w4 w5 := OwnsS.grown_below ((Below.refl _ _).alloc C4.out.size _) (O4.out.alloc _) hg5 (Nat.le_trans C4.out.size (by simp)); have C5 := Lib.hid (C4.out.trans hb5); have O5 := Lib.hid ho5; have Q5 := Lib.hid (Q.out.below C5.out hg); have z5 : w.heap.size < w5.heap.size := Q5.out.lt; clear ho5 hg5 hb5 q0 q1 q2 q3 q4; have q0 : w5.cell? ⟨w.heap.size, 0, none⟩ = some (.int .i64 op) := Q5.out.cell 0; have q1 : w5.cell? ⟨w.heap.size, 1, none⟩ = some (.int .i64 a) := Q5.out.cell 1; have q2 : w5.cell? ⟨w.heap.size, 2, none⟩ = some (.int .i64 b) := Q5.out.cell 2; have q3 : w5.cell? ⟨w.heap.size, 3, none⟩ = some (.int .i64 c) := Q5.out.cell 3; have q4 : w5.cell? ⟨w.heap.size, 4, none⟩ = some (.int .i64 n) := Q5.out.cell 4)
  go_wp2_with fail
  refine (refshape_any _ _).mono ?_
  rintro e w' ⟨rfl, rfl⟩
  rw [H.out]
  go_wp2_with fail
  refine (reftext_any n _ hn.1 hn.2).mono ?_
  rintro e w6 ⟨rfl, hb6⟩
  have C6 := Lib.hid (C5.out.trans (hb6.mono C5.out.size))
  have O6 := Lib.hid (O5.out.below hb6)
  have Q6 := Lib.hid (Q.out.below C6.out hg)
  have z6 : w.heap.size < w6.heap.size := Q6.out.lt
  clear hb6 q0 q1 q2 q3 q4
  have q0 : w6.cell? ⟨w.heap.size, 0, none⟩ = some (.int .i64 op) := Q6.out.cell 0
  have q1 : w6.cell? ⟨w.heap.size, 1, none⟩ = some (.int .i64 a) := Q6.out.cell 1
  have q2 : w6.cell? ⟨w.heap.size, 2, none⟩ = some (.int .i64 b) := Q6.out.cell 2
  have q3 : w6.cell? ⟨w.heap.size, 3, none⟩ = some (.int .i64 c) := Q6.out.cell 3
  have q4 : w6.cell? ⟨w.heap.size, 4, none⟩ = some (.int .i64 n) := Q6.out.cell 4
  go_wp2_with (at_builtin; refine wpList_append_strs _ rfl (.tmp 61) (.tmp 65) rfl rowStr W.heap.size v5 (0 + 1 + 1) _ rfl (O6.out.alloc _) (some ⟨w6.heap.size, 0, none⟩) 1 1 [strOfNums (textNums n)] rfl (strs_built 9 w6 [strOfNums (textNums n)] _ rfl 1 rfl (by decide) _ rfl) (by omega) (Nat.le_trans C6.out.size (by simp)) ?_; intro v7 w7 ho7 hg7 _; have hb7 : Below W.heap.size w6 w7 := OwnsS.grown_below ((Below.refl _ _).alloc C6.out.size _) (O6.out.alloc _) hg7 (Nat.le_trans C6.out.size (by simp)); have C7 := Lib.hid (C6.out.trans hb7); have O7 := Lib.hid ho7; have Q7 := Lib.hid (Q.out.below C7.out hg); have z7 : w.heap.size < w7.heap.size := Q7.out.lt; clear ho7 hg7 hb7 q0 q1 q2 q3 q4; have q0 : w7.cell? ⟨w.heap.size, 0, none⟩ = some (.int .i64 op) := Q7.out.cell 0; have q1 : w7.cell? ⟨w.heap.size, 1, none⟩ = some (.int .i64 a) := Q7.out.cell 1; have q2 : w7.cell? ⟨w.heap.size, 2, none⟩ = some (.int .i64 b) := Q7.out.cell 2; have q3 : w7.cell? ⟨w.heap.size, 3, none⟩ = some (.int .i64 c) := Q7.out.cell 3; have q4 : w7.cell? ⟨w.heap.size, 4, none⟩ = some (.int .i64 n) := Q7.out.cell 4)
  go_wp2_with fail
  have fin := O7.out.more (B' := w.heap.size) (Nat.le_of_lt hg)
  have finB := B0.out.trans (C7.out.mono (Nat.le_of_lt hg))
  obtain ⟨A, k, hv, _⟩ := fin.form
  subst hv
  go_ret
  refine ⟨A, _, k, rfl, ?_, finB⟩
  rw [F.out]
  exact fin

set_option maxHeartbeats 8000000 in
set_option maxRecDepth 100000 in
theorem fields_5 (op a b c n : Int) (w : World) (ha : I64 a) (hb : I64 b) (hc : I64 c) (hn : I64 n) (h : shapeOf op = 5) :
    Calls Tryd.prog 80 #[instrV op a b c n] w fun e w' => ∃ A m k, e = .returned (.slice A m k) ∧ OwnsS 9 w' w.heap.size (.slice A m k) m (fieldTexts op a b c n) ∧ Below w.heap.size w w' := by
  have hk : op ≠ 26 := by
    intro e
    rw [e] at h
    exact absurd h (by decide)
  have dk : (op == 26) = false := by simpa using hk
  have F := Lib.hid (show fieldTexts op a b c n = [(⟨#[114]⟩ : ByteArray) ++ strOfNums (textNums a), (⟨#[114]⟩ : ByteArray) ++ strOfNums (textNums b), (⟨#[114]⟩ : ByteArray) ++ strOfNums (textNums c)] by
    unfold fieldTexts
    rw [h]
    show [rt op 0 a, rt op 1 b, rt op 2 c] = _
    rw [rt_0, rt_1 hk, rt_2])
  have H := Lib.hid h
  have sa := text_size a
  have sb := text_size b
  have sc := text_size c
  have sn := text_size n
  clear h hk
  unfold instrV
  go_enter Tryd.func80, Tryd.ntmps80
  go_wp2_with fail
  refine (refshape_any _ _).mono ?_
  rintro e w' ⟨rfl, rfl⟩
  rw [H.out]
  go_wp2_with fail
  refine (has_any _ _).mono ?_
  rintro e w' ⟨rfl, rfl⟩
  have Q := Lib.hid (Whole.made w 91 #[.int .i64 op, .int .i64 a, .int .i64 b, .int .i64 c, .int .i64 n] _ rfl)
  have hg := Q.out.lt
  have B0 := Lib.hid ((Below.refl w.heap.size w).alloc (Nat.le_refl _) (.cells #[.int .i64 op, .int .i64 a, .int .i64 b, .int .i64 c, .int .i64 n] 91))
  generalize w.alloc (.cells #[.int .i64 op, .int .i64 a, .int .i64 b, .int .i64 c, .int .i64 n] 91) = W at *
  have q0 : W.cell? ⟨w.heap.size, 0, none⟩ = some (.int .i64 op) := Q.out.cell 0
  have q1 : W.cell? ⟨w.heap.size, 1, none⟩ = some (.int .i64 a) := Q.out.cell 1
  have q2 : W.cell? ⟨w.heap.size, 2, none⟩ = some (.int .i64 b) := Q.out.cell 2
  have q3 : W.cell? ⟨w.heap.size, 3, none⟩ = some (.int .i64 c) := Q.out.cell 3
  have q4 : W.cell? ⟨w.heap.size, 4, none⟩ = some (.int .i64 n) := Q.out.cell 4
  have C0 := Lib.hid (Below.refl W.heap.size W)
  have O0 := Lib.hid (OwnsS.nil 9 W W.heap.size)
  go_wp2_with fail
  refine (reftext_any a _ ha.1 ha.2).mono ?_
  rintro e w1 ⟨rfl, hb1⟩
  have C1 := Lib.hid (C0.out.trans (hb1.mono C0.out.size))
  have O1 := Lib.hid (O0.out.below hb1)
  have Q1 := Lib.hid (Q.out.below C1.out hg)
  have z1 : w.heap.size < w1.heap.size := Q1.out.lt
  clear hb1 q0 q1 q2 q3 q4
  have q0 : w1.cell? ⟨w.heap.size, 0, none⟩ = some (.int .i64 op) := Q1.out.cell 0
  have q1 : w1.cell? ⟨w.heap.size, 1, none⟩ = some (.int .i64 a) := Q1.out.cell 1
  have q2 : w1.cell? ⟨w.heap.size, 2, none⟩ = some (.int .i64 b) := Q1.out.cell 2
  have q3 : w1.cell? ⟨w.heap.size, 3, none⟩ = some (.int .i64 c) := Q1.out.cell 3
  have q4 : w1.cell? ⟨w.heap.size, 4, none⟩ = some (.int .i64 n) := Q1.out.cell 4
  go_wp2_with (at_builtin; refine wpList_append_strs _ rfl (.tmp 18) (.tmp 23) rfl rowStr W.heap.size (.slice none 0 0) (0) _ rfl (O1.out.alloc _) (some ⟨w1.heap.size, 0, none⟩) 1 1 [(⟨#[114]⟩ : ByteArray) ++ strOfNums (textNums a)] rfl (strs_built 9 w1 [(⟨#[114]⟩ : ByteArray) ++ strOfNums (textNums a)] _ rfl 1 rfl (by decide) _ rfl) (by omega) (Nat.le_trans C1.out.size (by simp)) ?_; intro v2 w2 ho2 hg2 _; have hb2 : Below W.heap.size w1 w2 := OwnsS.grown_below ((Below.refl _ _).alloc C1.out.size _) (O1.out.alloc _) hg2 (Nat.le_trans C1.out.size (by simp)); have C2 := Lib.hid (C1.out.trans hb2); have O2 := Lib.hid ho2; have Q2 := Lib.hid (Q.out.below C2.out hg); have z2 : w.heap.size < w2.heap.size := Q2.out.lt; clear ho2 hg2 hb2 q0 q1 q2 q3 q4; have q0 : w2.cell? ⟨w.heap.size, 0, none⟩ = some (.int .i64 op) := Q2.out.cell 0; have q1 : w2.cell? ⟨w.heap.size, 1, none⟩ = some (.int .i64 a) := Q2.out.cell 1; have q2 : w2.cell? ⟨w.heap.size, 2, none⟩ = some (.int .i64 b) := Q2.out.cell 2; have q3 : w2.cell? ⟨w.heap.size, 3, none⟩ = some (.int .i64 c) := Q2.out.cell 3; have q4 : w2.cell? ⟨w.heap.size, 4, none⟩ = some (.int .i64 n) := Q2.out.cell 4)
  go_wp2_with fail
  refine (reftext_any b _ hb.1 hb.2).mono ?_
  rintro e w3 ⟨rfl, hb3⟩
  have C3 := Lib.hid (C2.out.trans (hb3.mono C2.out.size))
  have O3 := Lib.hid (O2.out.below hb3)
  have Q3 := Lib.hid (Q.out.below C3.out hg)
  have z3 : w.heap.size < w3.heap.size := Q3.out.lt
  clear hb3 q0 q1 q2 q3 q4
  have q0 : w3.cell? ⟨w.heap.size, 0, none⟩ = some (.int .i64 op) := Q3.out.cell 0
  have q1 : w3.cell? ⟨w.heap.size, 1, none⟩ = some (.int .i64 a) := Q3.out.cell 1
  have q2 : w3.cell? ⟨w.heap.size, 2, none⟩ = some (.int .i64 b) := Q3.out.cell 2
  have q3 : w3.cell? ⟨w.heap.size, 3, none⟩ = some (.int .i64 c) := Q3.out.cell 3
  have q4 : w3.cell? ⟨w.heap.size, 4, none⟩ = some (.int .i64 n) := Q3.out.cell 4
  go_wp2_with (at_builtin; refine wpList_append_strs _ rfl (.tmp 36) (.tmp 38) rfl rowStr W.heap.size v2 (0 + 1) _ rfl (O3.out.alloc _) (some ⟨w3.heap.size, 0, none⟩) 1 1 [(⟨#[114]⟩ : ByteArray) ++ strOfNums (textNums b)] rfl (strs_built 9 w3 [(⟨#[114]⟩ : ByteArray) ++ strOfNums (textNums b)] _ rfl 1 rfl (by decide) _ rfl) (by omega) (Nat.le_trans C3.out.size (by simp)) ?_; intro v4 w4 ho4 hg4 _; have hb4 : Below W.heap.size w3 w4 := OwnsS.grown_below ((Below.refl _ _).alloc C3.out.size _) (O3.out.alloc _) hg4 (Nat.le_trans C3.out.size (by simp)); have C4 := Lib.hid (C3.out.trans hb4); have O4 := Lib.hid ho4; have Q4 := Lib.hid (Q.out.below C4.out hg); have z4 : w.heap.size < w4.heap.size := Q4.out.lt; clear ho4 hg4 hb4 q0 q1 q2 q3 q4; have q0 : w4.cell? ⟨w.heap.size, 0, none⟩ = some (.int .i64 op) := Q4.out.cell 0; have q1 : w4.cell? ⟨w.heap.size, 1, none⟩ = some (.int .i64 a) := Q4.out.cell 1; have q2 : w4.cell? ⟨w.heap.size, 2, none⟩ = some (.int .i64 b) := Q4.out.cell 2; have q3 : w4.cell? ⟨w.heap.size, 3, none⟩ = some (.int .i64 c) := Q4.out.cell 3; have q4 : w4.cell? ⟨w.heap.size, 4, none⟩ = some (.int .i64 n) := Q4.out.cell 4)
  go_wp2_with fail
  refine (reftext_any c _ hc.1 hc.2).mono ?_
  rintro e w5 ⟨rfl, hb5⟩
  have C5 := Lib.hid (C4.out.trans (hb5.mono C4.out.size))
  have O5 := Lib.hid (O4.out.below hb5)
  have Q5 := Lib.hid (Q.out.below C5.out hg)
  have z5 : w.heap.size < w5.heap.size := Q5.out.lt
  clear hb5 q0 q1 q2 q3 q4
  have q0 : w5.cell? ⟨w.heap.size, 0, none⟩ = some (.int .i64 op) := Q5.out.cell 0
  have q1 : w5.cell? ⟨w.heap.size, 1, none⟩ = some (.int .i64 a) := Q5.out.cell 1
  have q2 : w5.cell? ⟨w.heap.size, 2, none⟩ = some (.int .i64 b) := Q5.out.cell 2
  have q3 : w5.cell? ⟨w.heap.size, 3, none⟩ = some (.int .i64 c) := Q5.out.cell 3
  have q4 : w5.cell? ⟨w.heap.size, 4, none⟩ = some (.int .i64 n) := Q5.out.cell 4
  go_wp2_with (at_builtin; refine wpList_append_strs _ rfl (.tmp 41) (.tmp 46) rfl rowStr W.heap.size v4 (0 + 1 + 1) _ rfl (O5.out.alloc _) (some ⟨w5.heap.size, 0, none⟩) 1 1 [(⟨#[114]⟩ : ByteArray) ++ strOfNums (textNums c)] rfl (strs_built 9 w5 [(⟨#[114]⟩ : ByteArray) ++ strOfNums (textNums c)] _ rfl 1 rfl (by decide) _ rfl) (by omega) (Nat.le_trans C5.out.size (by simp)) ?_; intro v6 w6 ho6 hg6 _; have hb6 : Below W.heap.size w5 w6 := OwnsS.grown_below ((Below.refl _ _).alloc C5.out.size _) (O5.out.alloc _) hg6 (Nat.le_trans C5.out.size (by simp)); have C6 := Lib.hid (C5.out.trans hb6); have O6 := Lib.hid ho6; have Q6 := Lib.hid (Q.out.below C6.out hg); have z6 : w.heap.size < w6.heap.size := Q6.out.lt; clear ho6 hg6 hb6 q0 q1 q2 q3 q4; have q0 : w6.cell? ⟨w.heap.size, 0, none⟩ = some (.int .i64 op) := Q6.out.cell 0; have q1 : w6.cell? ⟨w.heap.size, 1, none⟩ = some (.int .i64 a) := Q6.out.cell 1; have q2 : w6.cell? ⟨w.heap.size, 2, none⟩ = some (.int .i64 b) := Q6.out.cell 2; have q3 : w6.cell? ⟨w.heap.size, 3, none⟩ = some (.int .i64 c) := Q6.out.cell 3; have q4 : w6.cell? ⟨w.heap.size, 4, none⟩ = some (.int .i64 n) := Q6.out.cell 4)
  go_wp2_with fail
  refine (refshape_any _ _).mono ?_
  rintro e w' ⟨rfl, rfl⟩
  rw [H.out]
  go_wp2_with fail
  have fin := O6.out.more (B' := w.heap.size) (Nat.le_of_lt hg)
  have finB := B0.out.trans (C6.out.mono (Nat.le_of_lt hg))
  obtain ⟨A, k, hv, _⟩ := fin.form
  subst hv
  go_ret
  refine ⟨A, _, k, rfl, ?_, finB⟩
  rw [F.out]
  exact fin
end Go.Proofs.YtoffagmoaedkbaaDoor
