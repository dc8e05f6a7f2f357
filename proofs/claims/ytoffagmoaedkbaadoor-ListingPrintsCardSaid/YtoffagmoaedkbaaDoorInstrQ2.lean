/- The answers' Fields of package instr, by shapes: part 2. -/
import Derived.Test.YtoffagmoaedkbaaDoorInstrP
import Derived.Test.YtoffagmoaedkbaaDoorBlocks
namespace Go.Proofs.YtoffagmoaedkbaaDoor
open Go.ChangeShapes Go.WideShapes Go.ChangeAt Go.RowKit
set_option linter.unusedVariables false

set_option maxHeartbeats 8000000 in
set_option maxRecDepth 100000 in
theorem fields_6 (op a b c n : Int) (w : World) (ha : I64 a) (hb : I64 b) (hc : I64 c) (hn : I64 n) (h : shapeOf op = 6) :
    Calls Tryd.prog 80 #[instrV op a b c n] w fun e w' => ∃ A m k, e = .returned (.slice A m k) ∧ OwnsS 9 w' w.heap.size (.slice A m k) m (fieldTexts op a b c n) ∧ Below w.heap.size w w' := by
  have hk : op ≠ 26 := by
    intro e
    rw [e] at h
    exact absurd h (by decide)
  have dk : (op == 26) = false := by simpa using hk
  have F := Lib.hid (show fieldTexts op a b c n = [(⟨#[114]⟩ : ByteArray) ++ strOfNums (textNums a)] by
    unfold fieldTexts
    rw [h]
    show [rt op 0 a] = _
    rw [rt_0])
  have H := Lib.hid h
  have sa := text_size a
  have sb := text_size b
  have sc := text_size c
  have sn := text_size n
  clear h hk
  unfold instrV
  go_enter Tryd.func80, Tryd.ntmps80
  go_wp2_with fail
  refine (refshape_any _ _).mono ?_
  rintro e w' ⟨rfl, rfl⟩
  rw [H.out]
  go_wp2_with fail
  refine (has_any _ _).mono ?_
  rintro e w' ⟨rfl, rfl⟩
  have Q := Lib.hid (Whole.made w 91 #[.int .i64 op, .int .i64 a, .int .i64 b, .int .i64 c, .int .i64 n] _ rfl)
  have hg := Q.out.lt
  have B0 := Lib.hid ((Below.refl w.heap.size w).alloc (Nat.le_refl _) (.cells #[.int .i64 op, .int .i64 a, .int .i64 b, .int .i64 c, .int .i64 n] 91))
  generalize w.alloc (.cells #[.int .i64 op, .int .i64 a, .int .i64 b, .int .i64 c, .int .i64 n] 91) = W at *
  have q0 : W.cell? ⟨w.heap.size, 0, none⟩ = some (.int .i64 op) := Q.out.cell 0
  have q1 : W.cell? ⟨w.heap.size, 1, none⟩ = some (.int .i64 a) := Q.out.cell 1
  have q2 : W.cell? ⟨w.heap.size, 2, none⟩ = some (.int .i64 b) := Q.out.cell 2
  have q3 : W.cell? ⟨w.heap.size, 3, none⟩ = some (.int .i64 c) := Q.out.cell 3
  have q4 : W.cell? ⟨w.heap.size, 4, none⟩ = some (.int .i64 n) := Q.out.cell 4
  have C0 := Lib.hid (Below.refl W.heap.size W)
  have O0 := Lib.hid (OwnsS.nil 9 W W.heap.size)
  go_wp2_with fail
  refine (reftext_any a _ ha.1 ha.2).mono ?_
  rintro e w1 ⟨rfl, hb1⟩
  have C1 := Lib.hid (C0.out.trans (hb1.mono C0.out.size))
  have O1 := Lib.hid (O0.out.below hb1)
  have Q1 := Lib.hid (Q.out.below C1.out hg)
  have z1 : w.heap.size < w1.heap.size := Q1.out.lt
  clear hb1 q0 q1 q2 q3 q4
  have q0 : w1.cell? ⟨w.heap.size, 0, none⟩ = some (.int .i64 op) := Q1.out.cell 0
  have q1 : w1.cell? ⟨w.heap.size, 1, none⟩ = some (.int .i64 a) := Q1.out.cell 1
  have q2 : w1.cell? ⟨w.heap.size, 2, none⟩ = some (.int .i64 b) := Q1.out.cell 2
  have q3 : w1.cell? ⟨w.heap.size, 3, none⟩ = some (.int .i64 c) := Q1.out.cell 3
  have q4 : w1.cell? ⟨w.heap.size, 4, none⟩ = some (.int .i64 n) := Q1.out.cell 4
  go_wp2_with (at_builtin; refine wpList_append_strs _ rfl (.tmp 18) (.tmp 23) rfl rowStr W.heap.size (.slice none 0 0) (0) _ rfl (O1.out.alloc _) (some ⟨w1.heap.size, 0, none⟩) 1 1 [(⟨#[114]⟩ : ByteArray) ++ strOfNums (textNums a)] rfl (strs_built 9 w1 [(⟨#[114]⟩ : ByteArray) ++ strOfNums (textNums a)] _ rfl 1 rfl (by decide) _ rfl) (by omega) (Nat.le_trans C1.out.size (by simp)) ?_; intro v2 w2 ho2 hg2 _; have hb2 : Below W.heap.size w1 w2 := OwnsS.grown_below ((Below.refl _ _).alloc C1.out.size _) (O1.out.alloc _) hg2 (Nat.le_trans C1.out.size (by simp)); have C2 := Lib.hid (C1.out.trans hb2); have O2 := Lib.hid ho2; have Q2 := Lib.hid (Q.out.below C2.out hg); have z2 : w.heap.size < w2.heap.size := Q2.out.lt; clear ho2 hg2 hb2 q0 q1 q2 q3 q4; have q0 : w2.cell? ⟨w.heap.size, 0, none⟩ = some (.int .i64 op) := Q2.out.cell 0; have q1 : w2.cell? ⟨w.heap.size, 1, none⟩ = some (.int .i64 a) := Q2.out.cell 1; have q2 : w2.cell? ⟨w.heap.size, 2, none⟩ = some (.int .i64 b) := Q2.out.cell 2; have q3 : w2.cell? ⟨w.heap.size, 3, none⟩ = some (.int .i64 c) := Q2.out.cell 3; have q4 : w2.cell? ⟨w.heap.size, 4, none⟩ = some (.int .i64 n) := Q2.out.cell 4)
  go_wp2_with fail
  refine (refshape_any _ _).mono ?_
  rintro e w' ⟨rfl, rfl⟩
  rw [H.out]
  go_wp2_with fail
  have fin := O2.out.more (B' := w.heap.size) (Nat.le_of_lt hg)
  have finB := B0.out.trans (C2.out.mono (Nat.le_of_lt hg))
  obtain ⟨A, k, hv, _⟩ := fin.form
  subst hv
  go_ret
  refine ⟨A, _, k, rfl, ?_, finB⟩
  rw [F.out]
  exact fin

set_option maxHeartbeats 8000000 in
set_option maxRecDepth 100000 in
theorem fields_7 (op a b c n : Int) (w : World) (ha : I64 a) (hb : I64 b) (hc : I64 c) (hn : I64 n) (h : shapeOf op = 7) :
    Calls Tryd.prog 80 #[instrV op a b c n] w fun e w' => ∃ A m k, e = .returned (.slice A m k) ∧ OwnsS 9 w' w.heap.size (.slice A m k) m (fieldTexts op a b c n) ∧ Below w.heap.size w w' := by
  have hk : op ≠ 26 := by
    intro e
    rw [e] at h
    exact absurd h (by decide)
  have dk : (op == 26) = false := by simpa using hk
  have F := Lib.hid (show fieldTexts op a b c n = [strOfNums (textNums n)] by
    unfold fieldTexts
    rw [h]
    show [nt n] = _
    rfl)
  have H := Lib.hid h
  have sa := text_size a
  have sb := text_size b
  have sc := text_size c
  have sn := text_size n
  clear h hk
  unfold instrV
  go_enter Tryd.func80, Tryd.ntmps80
  go_wp2_with fail
  refine (refshape_any _ _).mono ?_
  rintro e w' ⟨rfl, rfl⟩
  rw [H.out]
  go_wp2_with fail
  refine (has_any _ _).mono ?_
  rintro e w' ⟨rfl, rfl⟩
  have Q := Lib.hid (Whole.made w 91 #[.int .i64 op, .int .i64 a, .int .i64 b, .int .i64 c, .int .i64 n] _ rfl)
  have hg := Q.out.lt
  have B0 := Lib.hid ((Below.refl w.heap.size w).alloc (Nat.le_refl _) (.cells #[.int .i64 op, .int .i64 a, .int .i64 b, .int .i64 c, .int .i64 n] 91))
  generalize w.alloc (.cells #[.int .i64 op, .int .i64 a, .int .i64 b, .int .i64 c, .int .i64 n] 91) = W at *
  have q0 : W.cell? ⟨w.heap.size, 0, none⟩ = some (.int .i64 op) := Q.out.cell 0
  have q1 : W.cell? ⟨w.heap.size, 1, none⟩ = some (.int .i64 a) := Q.out.cell 1
  have q2 : W.cell? ⟨w.heap.size, 2, none⟩ = some (.int .i64 b) := Q.out.cell 2
  have q3 : W.cell? ⟨w.heap.size, 3, none⟩ = some (.int .i64 c) := Q.out.cell 3
  have q4 : W.cell? ⟨w.heap.size, 4, none⟩ = some (.int .i64 n) := Q.out.cell 4
  have C0 := Lib.hid (Below.refl W.heap.size W)
  have O0 := Lib.hid (OwnsS.nil 9 W W.heap.size)
  go_wp2_with fail
  refine (refshape_any _ _).mono ?_
  rintro e w' ⟨rfl, rfl⟩
  rw [H.out]
  go_wp2_with fail
  refine (reftext_any n _ hn.1 hn.2).mono ?_
  rintro e w1 ⟨rfl, hb1⟩
  have C1 := Lib.hid (C0.out.trans (hb1.mono C0.out.size))
  have O1 := Lib.hid (O0.out.below hb1)
  have Q1 := Lib.hid (Q.out.below C1.out hg)
  have z1 : w.heap.size < w1.heap.size := Q1.out.lt
  clear hb1 q0 q1 q2 q3 q4
  have q0 : w1.cell? ⟨w.heap.size, 0, none⟩ = some (.int .i64 op) := Q1.out.cell 0
  have q1 : w1.cell? ⟨w.heap.size, 1, none⟩ = some (.int .i64 a) := Q1.out.cell 1
  have q2 : w1.cell? ⟨w.heap.size, 2, none⟩ = some (.int .i64 b) := Q1.out.cell 2
  have q3 : w1.cell? ⟨w.heap.size, 3, none⟩ = some (.int .i64 c) := Q1.out.cell 3
  have q4 : w1.cell? ⟨w.heap.size, 4, none⟩ = some (.int .i64 n) := Q1.out.cell 4
  go_wp2_with (at_builtin; refine wpList_append_strs _ rfl (.tmp 61) (.tmp 65) rfl rowStr W.heap.size (.slice none 0 0) (0) _ rfl (O1.out.alloc _) (some ⟨w1.heap.size, 0, none⟩) 1 1 [strOfNums (textNums n)] rfl (strs_built 9 w1 [strOfNums (textNums n)] _ rfl 1 rfl (by decide) _ rfl) (by omega) (Nat.le_trans C1.out.size (by simp)) ?_; intro v2 w2 ho2 hg2 _; have hb2 : Below W.heap.size w1 w2 := OwnsS.grown_below ((Below.refl _ _).alloc C1.out.size _) (O1.out.alloc _) hg2 (Nat.le_trans C1.out.size (by simp)); have C2 := Lib.hid (C1.out.trans hb2); have O2 := Lib.hid ho2; have Q2 := Lib.hid (Q.out.below C2.out hg); have z2 : w.heap.size < w2.heap.size := Q2.out.lt; clear ho2 hg2 hb2 q0 q1 q2 q3 q4; have q0 : w2.cell? ⟨w.heap.size, 0, none⟩ = some (.int .i64 op) := Q2.out.cell 0; have q1 : w2.cell? ⟨w.heap.size, 1, none⟩ = some (.int .i64 a) := Q2.out.cell 1; have q2 : w2.cell? ⟨w.heap.size, 2, none⟩ = some (.int .i64 b) := Q2.out.cell 2; have q3 : w2.cell? ⟨w.heap.size, 3, none⟩ = some (.int .i64 c) := Q2.out.cell 3; have q4 : w2.cell? ⟨w.heap.size, 4, none⟩ = some (.int .i64 n) := Q2.out.cell 4)
  go_wp2_with fail
  have fin := O2.out.more (B' := w.heap.size) (Nat.le_of_lt hg)
  have finB := B0.out.trans (C2.out.mono (Nat.le_of_lt hg))
  obtain ⟨A, k, hv, _⟩ := fin.form
  subst hv
  go_ret
  refine ⟨A, _, k, rfl, ?_, finB⟩
  rw [F.out]
  exact fin

set_option maxHeartbeats 8000000 in
set_option maxRecDepth 100000 in
theorem fields_8 (op a b c n : Int) (w : World) (ha : I64 a) (hb : I64 b) (hc : I64 c) (hn : I64 n) (h : shapeOf op = 8) :
    Calls Tryd.prog 80 #[instrV op a b c n] w fun e w' => ∃ A m k, e = .returned (.slice A m k) ∧ OwnsS 9 w' w.heap.size (.slice A m k) m (fieldTexts op a b c n) ∧ Below w.heap.size w w' := by
  have hk : op ≠ 26 := by
    intro e
    rw [e] at h
    exact absurd h (by decide)
  have dk : (op == 26) = false := by simpa using hk
  have F := Lib.hid (show fieldTexts op a b c n = [strOfNums (textNums n)] by
    unfold fieldTexts
    rw [h]
    show [nt n] = _
    rfl)
  have H := Lib.hid h
  have sa := text_size a
  have sb := text_size b
  have sc := text_size c
  have sn := text_size n
  clear h hk
  unfold instrV
  go_enter Tryd.func80, Tryd.ntmps80
  go_wp2_with fail
  refine (refshape_any _ _).mono ?_
  rintro e w' ⟨rfl, rfl⟩
  rw [H.out]
  go_wp2_with fail
  refine (has_any _ _).mono ?_
  rintro e w' ⟨rfl, rfl⟩
  have Q := Lib.hid (Whole.made w 91 #[.int .i64 op, .int .i64 a, .int .i64 b, .int .i64 c, .int .i64 n] _ rfl)
  have hg := Q.out.lt
  have B0 := Lib.hid ((Below.refl w.heap.size w).alloc (Nat.le_refl _) (.cells #[.int .i64 op, .int .i64 a, .int .i64 b, .int .i64 c, .int .i64 n] 91))
  generalize w.alloc (.cells #[.int .i64 op, .int .i64 a, .int .i64 b, .int .i64 c, .int .i64 n] 91) = W at *
  have q0 : W.cell? ⟨w.heap.size, 0, none⟩ = some (.int .i64 op) := Q.out.cell 0
  have q1 : W.cell? ⟨w.heap.size, 1, none⟩ = some (.int .i64 a) := Q.out.cell 1
  have q2 : W.cell? ⟨w.heap.size, 2, none⟩ = some (.int .i64 b) := Q.out.cell 2
  have q3 : W.cell? ⟨w.heap.size, 3, none⟩ = some (.int .i64 c) := Q.out.cell 3
  have q4 : W.cell? ⟨w.heap.size, 4, none⟩ = some (.int .i64 n) := Q.out.cell 4
  have C0 := Lib.hid (Below.refl W.heap.size W)
  have O0 := Lib.hid (OwnsS.nil 9 W W.heap.size)
  go_wp2_with fail
  refine (refshape_any _ _).mono ?_
  rintro e w' ⟨rfl, rfl⟩
  rw [H.out]
  go_wp2_with fail
  refine (reftext_any n _ hn.1 hn.2).mono ?_
  rintro e w1 ⟨rfl, hb1⟩
  have C1 := Lib.hid (C0.out.trans (hb1.mono C0.out.size))
  have O1 := Lib.hid (O0.out.below hb1)
  have Q1 := Lib.hid (Q.out.below C1.out hg)
  have z1 : w.heap.size < w1.heap.size := Q1.out.lt
  clear hb1 q0 q1 q2 q3 q4
  have q0 : w1.cell? ⟨w.heap.size, 0, none⟩ = some (.int .i64 op) := Q1.out.cell 0
  have q1 : w1.cell? ⟨w.heap.size, 1, none⟩ = some (.int .i64 a) := Q1.out.cell 1
  have q2 : w1.cell? ⟨w.heap.size, 2, none⟩ = some (.int .i64 b) := Q1.out.cell 2
  have q3 : w1.cell? ⟨w.heap.size, 3, none⟩ = some (.int .i64 c) := Q1.out.cell 3
  have q4 : w1.cell? ⟨w.heap.size, 4, none⟩ = some (.int .i64 n) := Q1.out.cell 4
  go_wp2_with (at_builtin; refine wpList_append_strs _ rfl (.tmp 61) (.tmp 65) rfl rowStr W.heap.size (.slice none 0 0) (0) _ rfl (O1.out.alloc _) (some ⟨w1.heap.size, 0, none⟩) 1 1 [strOfNums (textNums n)] rfl (strs_built 9 w1 [strOfNums (textNums n)] _ rfl 1 rfl (by decide) _ rfl) (by omega) (Nat.le_trans C1.out.size (by simp)) ?_; intro v2 w2 ho2 hg2 _; have hb2 : Below W.heap.size w1 w2 := OwnsS.grown_below ((Below.refl _ _).alloc C1.out.size _) (O1.out.alloc _) hg2 (Nat.le_trans C1.out.size (by simp)); have C2 := Lib.hid (C1.out.trans hb2); have O2 := Lib.hid ho2; have Q2 := Lib.hid (Q.out.below C2.out hg); have z2 : w.heap.size < w2.heap.size := Q2.out.lt; clear ho2 hg2 hb2 q0 q1 q2 q3 q4; have q0 : w2.cell? ⟨w.heap.size, 0, none⟩ = some (.int .i64 op) := Q2.out.cell 0; have q1 : w2.cell? ⟨w.heap.size, 1, none⟩ = some (.int .i64 a) := Q2.out.cell 1; have q2 : w2.cell? ⟨w.heap.size, 2, none⟩ = some (.int .i64 b) := Q2.out.cell 2; have q3 : w2.cell? ⟨w.heap.size, 3, none⟩ = some (.int .i64 c) := Q2.out.cell 3; have q4 : w2.cell? ⟨w.heap.size, 4, none⟩ = some (.int .i64 n) := Q2.out.cell 4)
  go_wp2_with fail
  have fin := O2.out.more (B' := w.heap.size) (Nat.le_of_lt hg)
  have finB := B0.out.trans (C2.out.mono (Nat.le_of_lt hg))
  obtain ⟨A, k, hv, _⟩ := fin.form
  subst hv
  go_ret
  refine ⟨A, _, k, rfl, ?_, finB⟩
  rw [F.out]
  exact fin
end Go.Proofs.YtoffagmoaedkbaaDoor
