/- Package instr: Text, by how many registers and whether there is a number: part 1. -/
import Derived.Test.YtoffagmoaedkbaaDoorInstrT
import Derived.Test.YtoffagmoaedkbaaDoorBlocks
import Derived.Test.YtoffagmoaedkbaaDoorShelf
namespace Go.Proofs.YtoffagmoaedkbaaDoor
open Go.ChangeShapes Go.WideShapes Go.ChangeAt Go.RowKit
set_option linter.unusedVariables false

set_option maxHeartbeats 8000000 in
set_option maxRecDepth 100000 in
theorem text_21 (op a b c n : Int) (w : World) (hS : ShapesIn w) (hN : NamesIn w) (ha : I64 a) (hb : I64 b) (hc : I64 c) (hn : I64 n) (hk : checkOf op a b c n = 0) (hreg : regsOf (shapeOf op) = 2) (himm : 0 < bitsOf (shapeOf op)) :
    Calls Tryd.prog 73 #[instrV op a b c n] w fun e w' => e = .returned (.tuple #[.string (textOf op a b c n), .int .i64 0]) ∧ Below w.heap.size w w' := by
  have h := (good_of_check hk).1
  have hr : fieldsR op = .tuple #[.agg #[.int .i64 2, .int .i64 (bitsOf (shapeOf op)), .bool (signOf (shapeOf op))], .bool true] := by
    unfold fieldsR fieldsV
    rw [hreg]
    simp [h]
  have hft : fieldTexts op a b c n = [rt op 0 a, rt op 1 b, nt n] := by
    unfold fieldTexts
    rw [hreg, if_pos himm]
    rfl
  have hC := fun w hs => check_any op a b c n w hs ha hb hc hn
  rw [hk] at hC
  have hj : nameOf op ++ ⟨#[32]⟩ ++ joinS (fieldTexts op a b c n) = textOf op a b c n := by
    unfold textOf
    rw [hft]
    exact join3 _ _ _ _
  have hjs : (joinS (fieldTexts op a b c n)).size ≤ 101 := joinS_size (k := 3) (name_size op) (by decide) (by rw [hj]; unfold textOf; rw [hft]; rfl)
  rw [hft] at hj hjs
  have J := Lib.hid hj
  have JS := Lib.hid (show (Lib.join (([rt op 0 a, rt op 1 b, nt n] : List ByteArray).map (·.data.toList)) (⟨#[44, 32]⟩ : ByteArray).data.toList).length ≤ 101 by
    have e : (joinS [rt op 0 a, rt op 1 b, nt n]).size = (Lib.join (([rt op 0 a, rt op 1 b, nt n] : List ByteArray).map (·.data.toList)) (⟨#[44, 32]⟩ : ByteArray).data.toList).length := by
      show (List.toArray _).size = _
      simp
    omega)
  clear hj
  have R := Lib.hid hr
  have C := Lib.hid hC
  have HS := Lib.hid hS
  have HN := Lib.hid hN
  have hns := name_size op
  have dm : decide (0 < bitsOf (shapeOf op)) = true := by simpa using himm
  have sa := text_size a
  have hp0 := pfx_size op 0
  have sb := text_size b
  have hp1 := pfx_size op 1
  have sn := text_size n
  clear hr hC hS hN hk h hreg himm hft
  generalize bitsOf (shapeOf op) = bits at *
  generalize signOf (shapeOf op) = sgn at *
  generalize textOf op a b c n = tx at *
  have i0 : ∀ w, (Instr.index 157 (.agg #[.int .i64 a, .int .i64 b, .int .i64 c]) (.int .i64 0)).run Tryd.prog w = .ok (.int .i64 a) w := fun w =>
    run_index_arr Tryd.underlying157 Tryd.underlying3 (by kernel_rfl) _ 0 _ (by decide) rfl w
  have i1 : ∀ w, (Instr.index 157 (.agg #[.int .i64 a, .int .i64 b, .int .i64 c]) (.int .i64 1)).run Tryd.prog w = .ok (.int .i64 b) w := fun w =>
    run_index_arr Tryd.underlying157 Tryd.underlying3 (by kernel_rfl) _ 1 _ (by decide) rfl w
  have i2 : ∀ w, (Instr.index 157 (.agg #[.int .i64 a, .int .i64 b, .int .i64 c]) (.int .i64 2)).run Tryd.prog w = .ok (.int .i64 c) w := fun w =>
    run_index_arr Tryd.underlying157 Tryd.underlying3 (by kernel_rfl) _ 2 _ (by decide) rfl w
  unfold instrV at *
  go_enter Tryd.func73, Tryd.ntmps73
  go_wp2_with fail
  refine (C.out _ (HS.out.alloc _)).mono ?_
  rintro e w1 ⟨rfl, hb1⟩
  have Q1 := Lib.hid ((Whole.made w 104 #[.int .i64 op, .int .i64 a, .int .i64 b, .int .i64 c, .int .i64 n] _ rfl).below hb1 (by simp))
  have B1 := Lib.hid (((Below.refl _ _).alloc (Nat.le_refl _) _).trans (hb1.mono (show w.heap.size ≤ _ by simp)))
  have HS1 := Lib.hid ((HS.out.alloc _).below hb1 (Nat.le_refl _))
  have HN1 := Lib.hid ((HN.out.alloc _).below hb1 (Nat.le_refl _))
  have z1 : w.heap.size < w1.heap.size := Q1.out.lt
  have q0 : w1.cell? ⟨w.heap.size, 0, none⟩ = some (.int .i64 op) := Q1.out.cell 0
  clear hb1
  go_wp2_with fail
  refine (fieldsOf_any _ _ HS1.out).mono ?_
  rintro e w2 ⟨rfl, hb2⟩
  rw [R.out]
  clear q0
  have Q := Lib.hid ((Q1.out.below hb2 z1).alloc (.cells #[.int .i64 2, .int .i64 bits, .bool sgn] 142))
  have z2 : w.heap.size < w2.heap.size := (Q1.out.below hb2 z1).lt
  have P := Lib.hid (Whole.made w2 142 #[.int .i64 2, .int .i64 bits, .bool sgn] _ rfl)
  have B2 := Lib.hid ((B1.out.trans (hb2.mono (Nat.le_of_lt z1))).alloc (Nat.le_of_lt z2) (.cells #[.int .i64 2, .int .i64 bits, .bool sgn] 142))
  have HN2 := Lib.hid ((HN1.out.below hb2 (Nat.le_refl _)).alloc (.cells #[.int .i64 2, .int .i64 bits, .bool sgn] 142))
  have q0 : w2.cell? ⟨w.heap.size, 0, none⟩ = some (.int .i64 op) := (Q1.out.below hb2 z1).cell 0
  have q1 : w2.cell? ⟨w.heap.size, 1, none⟩ = some (.int .i64 a) := (Q1.out.below hb2 z1).cell 1
  have q2 : w2.cell? ⟨w.heap.size, 2, none⟩ = some (.int .i64 b) := (Q1.out.below hb2 z1).cell 2
  have q3 : w2.cell? ⟨w.heap.size, 3, none⟩ = some (.int .i64 c) := (Q1.out.below hb2 z1).cell 3
  have q4 : w2.cell? ⟨w.heap.size, 4, none⟩ = some (.int .i64 n) := (Q1.out.below hb2 z1).cell 4
  clear hb2
  go_wp2_with fail
  have hg := Q.out.lt
  have hp := P.out.lt
  generalize w2.heap.size = g5 at *
  generalize w2.alloc (.cells #[.int .i64 2, .int .i64 bits, .bool sgn] 142) = W at *
  clear q0 q1 q2 q3 q4
  have q0 : W.cell? ⟨w.heap.size, 0, none⟩ = some (.int .i64 op) := Q.out.cell 0
  have q1 : W.cell? ⟨w.heap.size, 1, none⟩ = some (.int .i64 a) := Q.out.cell 1
  have q2 : W.cell? ⟨w.heap.size, 2, none⟩ = some (.int .i64 b) := Q.out.cell 2
  have q3 : W.cell? ⟨w.heap.size, 3, none⟩ = some (.int .i64 c) := Q.out.cell 3
  have q4 : W.cell? ⟨w.heap.size, 4, none⟩ = some (.int .i64 n) := Q.out.cell 4
  have p0 : W.cell? ⟨g5, 0, none⟩ = some (.int .i64 2) := P.out.cell 0
  have p1 : W.cell? ⟨g5, 1, none⟩ = some (.int .i64 bits) := P.out.cell 1
  have C0 := Lib.hid (Below.refl W.heap.size W)
  have O0 := Lib.hid (OwnsS.nil 9 W W.heap.size)
  refine wp_loop_rounds 4 ?_
  rw [rounds_succ]
  go_wp2_with fail
  refine (prefix_any _ _ _).mono ?_
  rintro e w' ⟨rfl, rfl⟩
  go_wp2_with fail
  refine (text_any a _ ha.1 ha.2).mono ?_
  rintro e y1 ⟨rfl, hb1⟩
  have C1 := Lib.hid (C0.out.trans (hb1.mono C0.out.size))
  have O1 := Lib.hid (O0.out.below hb1)
  clear hb1 q0 q1 q2 q3 q4 p0 p1
  have q0 : y1.cell? ⟨w.heap.size, 0, none⟩ = some (.int .i64 op) := (Q.out.below C1.out hg).cell 0
  have q1 : y1.cell? ⟨w.heap.size, 1, none⟩ = some (.int .i64 a) := (Q.out.below C1.out hg).cell 1
  have q2 : y1.cell? ⟨w.heap.size, 2, none⟩ = some (.int .i64 b) := (Q.out.below C1.out hg).cell 2
  have q3 : y1.cell? ⟨w.heap.size, 3, none⟩ = some (.int .i64 c) := (Q.out.below C1.out hg).cell 3
  have q4 : y1.cell? ⟨w.heap.size, 4, none⟩ = some (.int .i64 n) := (Q.out.below C1.out hg).cell 4
  have p0 : y1.cell? ⟨g5, 0, none⟩ = some (.int .i64 2) := (P.out.below C1.out hp).cell 0
  have p1 : y1.cell? ⟨g5, 1, none⟩ = some (.int .i64 bits) := (P.out.below C1.out hp).cell 1
  go_wp2_with (at_builtin; refine wpList_append_strs _ rfl (.tmp 36) (.tmp 44) rfl rowStr W.heap.size (.slice none 0 0) (0) _ rfl (O1.out.alloc _) (some ⟨y1.heap.size, 0, none⟩) 1 1 [rt op 0 a] rfl (strs_built 9 y1 [rt op 0 a] _ rfl 1 rfl (by decide) _ rfl) (by omega) (Nat.le_trans C1.out.size (by simp)) ?_; intro v2 y2 ho2 hg2 _; have hb2 : Below W.heap.size y1 y2 := OwnsS.grown_below ((Below.refl _ _).alloc C1.out.size _) (O1.out.alloc _) hg2 (Nat.le_trans C1.out.size (by simp)); have C2 := Lib.hid (C1.out.trans hb2); have O2 := Lib.hid ho2; clear ho2 hg2 hb2 q0 q1 q2 q3 q4 p0 p1; have q0 : y2.cell? ⟨w.heap.size, 0, none⟩ = some (.int .i64 op) := (Q.out.below C2.out hg).cell 0; have q1 : y2.cell? ⟨w.heap.size, 1, none⟩ = some (.int .i64 a) := (Q.out.below C2.out hg).cell 1; have q2 : y2.cell? ⟨w.heap.size, 2, none⟩ = some (.int .i64 b) := (Q.out.below C2.out hg).cell 2; have q3 : y2.cell? ⟨w.heap.size, 3, none⟩ = some (.int .i64 c) := (Q.out.below C2.out hg).cell 3; have q4 : y2.cell? ⟨w.heap.size, 4, none⟩ = some (.int .i64 n) := (Q.out.below C2.out hg).cell 4; have p0 : y2.cell? ⟨g5, 0, none⟩ = some (.int .i64 2) := (P.out.below C2.out hp).cell 0; have p1 : y2.cell? ⟨g5, 1, none⟩ = some (.int .i64 bits) := (P.out.below C2.out hp).cell 1)
  rw [rounds_succ]
  go_wp2_with fail
  refine (prefix_any _ _ _).mono ?_
  rintro e w' ⟨rfl, rfl⟩
  go_wp2_with fail
  refine (text_any b _ hb.1 hb.2).mono ?_
  rintro e y3 ⟨rfl, hb3⟩
  have C3 := Lib.hid (C2.out.trans (hb3.mono C2.out.size))
  have O3 := Lib.hid (O2.out.below hb3)
  clear hb3 q0 q1 q2 q3 q4 p0 p1
  have q0 : y3.cell? ⟨w.heap.size, 0, none⟩ = some (.int .i64 op) := (Q.out.below C3.out hg).cell 0
  have q1 : y3.cell? ⟨w.heap.size, 1, none⟩ = some (.int .i64 a) := (Q.out.below C3.out hg).cell 1
  have q2 : y3.cell? ⟨w.heap.size, 2, none⟩ = some (.int .i64 b) := (Q.out.below C3.out hg).cell 2
  have q3 : y3.cell? ⟨w.heap.size, 3, none⟩ = some (.int .i64 c) := (Q.out.below C3.out hg).cell 3
  have q4 : y3.cell? ⟨w.heap.size, 4, none⟩ = some (.int .i64 n) := (Q.out.below C3.out hg).cell 4
  have p0 : y3.cell? ⟨g5, 0, none⟩ = some (.int .i64 2) := (P.out.below C3.out hp).cell 0
  have p1 : y3.cell? ⟨g5, 1, none⟩ = some (.int .i64 bits) := (P.out.below C3.out hp).cell 1
  go_wp2_with (at_builtin; refine wpList_append_strs _ rfl (.tmp 36) (.tmp 44) rfl rowStr W.heap.size v2 (0 + 1) _ rfl (O3.out.alloc _) (some ⟨y3.heap.size, 0, none⟩) 1 1 [rt op 1 b] rfl (strs_built 9 y3 [rt op 1 b] _ rfl 1 rfl (by decide) _ rfl) (by omega) (Nat.le_trans C3.out.size (by simp)) ?_; intro v4 y4 ho4 hg4 _; have hb4 : Below W.heap.size y3 y4 := OwnsS.grown_below ((Below.refl _ _).alloc C3.out.size _) (O3.out.alloc _) hg4 (Nat.le_trans C3.out.size (by simp)); have C4 := Lib.hid (C3.out.trans hb4); have O4 := Lib.hid ho4; clear ho4 hg4 hb4 q0 q1 q2 q3 q4 p0 p1; have q0 : y4.cell? ⟨w.heap.size, 0, none⟩ = some (.int .i64 op) := (Q.out.below C4.out hg).cell 0; have q1 : y4.cell? ⟨w.heap.size, 1, none⟩ = some (.int .i64 a) := (Q.out.below C4.out hg).cell 1; have q2 : y4.cell? ⟨w.heap.size, 2, none⟩ = some (.int .i64 b) := (Q.out.below C4.out hg).cell 2; have q3 : y4.cell? ⟨w.heap.size, 3, none⟩ = some (.int .i64 c) := (Q.out.below C4.out hg).cell 3; have q4 : y4.cell? ⟨w.heap.size, 4, none⟩ = some (.int .i64 n) := (Q.out.below C4.out hg).cell 4; have p0 : y4.cell? ⟨g5, 0, none⟩ = some (.int .i64 2) := (P.out.below C4.out hp).cell 0; have p1 : y4.cell? ⟨g5, 1, none⟩ = some (.int .i64 bits) := (P.out.below C4.out hp).cell 1)
  rw [rounds_succ]
  go_wp2_with fail
  rw [rounds_succ]
  go_wp2_with fail
  refine (text_any n _ hn.1 hn.2).mono ?_
  rintro e y5 ⟨rfl, hb5⟩
  have C5 := Lib.hid (C4.out.trans (hb5.mono C4.out.size))
  have O5 := Lib.hid (O4.out.below hb5)
  clear hb5 q0 q1 q2 q3 q4 p0 p1
  have q0 : y5.cell? ⟨w.heap.size, 0, none⟩ = some (.int .i64 op) := (Q.out.below C5.out hg).cell 0
  have q1 : y5.cell? ⟨w.heap.size, 1, none⟩ = some (.int .i64 a) := (Q.out.below C5.out hg).cell 1
  have q2 : y5.cell? ⟨w.heap.size, 2, none⟩ = some (.int .i64 b) := (Q.out.below C5.out hg).cell 2
  have q3 : y5.cell? ⟨w.heap.size, 3, none⟩ = some (.int .i64 c) := (Q.out.below C5.out hg).cell 3
  have q4 : y5.cell? ⟨w.heap.size, 4, none⟩ = some (.int .i64 n) := (Q.out.below C5.out hg).cell 4
  have p0 : y5.cell? ⟨g5, 0, none⟩ = some (.int .i64 2) := (P.out.below C5.out hp).cell 0
  have p1 : y5.cell? ⟨g5, 1, none⟩ = some (.int .i64 bits) := (P.out.below C5.out hp).cell 1
  go_wp2_with (at_builtin; refine wpList_append_strs _ rfl (.tmp 50) (.tmp 54) rfl rowStr W.heap.size v4 (0 + 1 + 1) _ rfl (O5.out.alloc _) (some ⟨y5.heap.size, 0, none⟩) 1 1 [nt n] rfl (strs_built 9 y5 [nt n] _ rfl 1 rfl (by decide) _ rfl) (by omega) (Nat.le_trans C5.out.size (by simp)) ?_; intro v6 y6 ho6 hg6 _; have hb6 : Below W.heap.size y5 y6 := OwnsS.grown_below ((Below.refl _ _).alloc C5.out.size _) (O5.out.alloc _) hg6 (Nat.le_trans C5.out.size (by simp)); have C6 := Lib.hid (C5.out.trans hb6); have O6 := Lib.hid ho6; clear ho6 hg6 hb6 q0 q1 q2 q3 q4 p0 p1; have q0 : y6.cell? ⟨w.heap.size, 0, none⟩ = some (.int .i64 op) := (Q.out.below C6.out hg).cell 0; have q1 : y6.cell? ⟨w.heap.size, 1, none⟩ = some (.int .i64 a) := (Q.out.below C6.out hg).cell 1; have q2 : y6.cell? ⟨w.heap.size, 2, none⟩ = some (.int .i64 b) := (Q.out.below C6.out hg).cell 2; have q3 : y6.cell? ⟨w.heap.size, 3, none⟩ = some (.int .i64 c) := (Q.out.below C6.out hg).cell 3; have q4 : y6.cell? ⟨w.heap.size, 4, none⟩ = some (.int .i64 n) := (Q.out.below C6.out hg).cell 4; have p0 : y6.cell? ⟨g5, 0, none⟩ = some (.int .i64 2) := (P.out.below C6.out hp).cell 0; have p1 : y6.cell? ⟨g5, 1, none⟩ = some (.int .i64 bits) := (P.out.below C6.out hp).cell 1; obtain ⟨g6, k6, hv6, hk6, hl6, hc6⟩ := O6.out.big (by omega); subst hv6)
  go_wp2_with fail
  refine (name_any _ _ (HN2.out.below C6.out (Nat.le_refl _))).mono ?_
  rintro e w' ⟨rfl, rfl⟩
  go_wp2_with fail
  have hjn : Calls Tryd.prog 103 #[.slice (some ⟨g6, 0, none⟩) 3 k6, .string ⟨#[44, 32]⟩] y6 fun e w' => e = .returned (.string (joinS [rt op 0 a, rt op 1 b, nt n])) ∧ Below y6.heap.size y6 w' :=
    Tryd.strings_Join g6 0 k6 [rt op 0 a, rt op 1 b, nt n] ⟨#[44, 32]⟩ _ hc6 hl6 (show 3 ≤ 140737488355328 by decide) hk6 (Nat.le_trans JS.out (by decide))
  clear hc6
  generalize joinS [rt op 0 a, rt op 1 b, nt n] = jz at *
  refine hjn.mono ?_
  rintro e wz ⟨rfl, hbz⟩
  have fin := B2.out.trans ((C6.out.trans (hbz.mono C6.out.size)).mono B2.out.size)
  clear hbz
  go_wp2_with fail
  go_ret2
  exact ⟨congrArg (fun z => Ending.returned (.tuple #[.string z, .int .i64 0])) J.out, fin⟩

set_option maxHeartbeats 8000000 in
set_option maxRecDepth 100000 in
theorem text_30 (op a b c n : Int) (w : World) (hS : ShapesIn w) (hN : NamesIn w) (ha : I64 a) (hb : I64 b) (hc : I64 c) (hn : I64 n) (hk : checkOf op a b c n = 0) (hreg : regsOf (shapeOf op) = 3) (himm : bitsOf (shapeOf op) = 0) :
    Calls Tryd.prog 73 #[instrV op a b c n] w fun e w' => e = .returned (.tuple #[.string (textOf op a b c n), .int .i64 0]) ∧ Below w.heap.size w w' := by
  have h := (good_of_check hk).1
  have hr : fieldsR op = .tuple #[.agg #[.int .i64 3, .int .i64 0, .bool (signOf (shapeOf op))], .bool true] := by
    unfold fieldsR fieldsV
    rw [hreg, himm]
    simp [h]
  have hft : fieldTexts op a b c n = [rt op 0 a, rt op 1 b, rt op 2 c] := by
    unfold fieldTexts
    rw [hreg, himm]
    rfl
  have hC := fun w hs => check_any op a b c n w hs ha hb hc hn
  rw [hk] at hC
  have hj : nameOf op ++ ⟨#[32]⟩ ++ joinS (fieldTexts op a b c n) = textOf op a b c n := by
    unfold textOf
    rw [hft]
    exact join3 _ _ _ _
  have hjs : (joinS (fieldTexts op a b c n)).size ≤ 101 := joinS_size (k := 3) (name_size op) (by decide) (by rw [hj]; unfold textOf; rw [hft]; rfl)
  rw [hft] at hj hjs
  have J := Lib.hid hj
  have JS := Lib.hid (show (Lib.join (([rt op 0 a, rt op 1 b, rt op 2 c] : List ByteArray).map (·.data.toList)) (⟨#[44, 32]⟩ : ByteArray).data.toList).length ≤ 101 by
    have e : (joinS [rt op 0 a, rt op 1 b, rt op 2 c]).size = (Lib.join (([rt op 0 a, rt op 1 b, rt op 2 c] : List ByteArray).map (·.data.toList)) (⟨#[44, 32]⟩ : ByteArray).data.toList).length := by
      show (List.toArray _).size = _
      simp
    omega)
  clear hj
  have R := Lib.hid hr
  have C := Lib.hid hC
  have HS := Lib.hid hS
  have HN := Lib.hid hN
  have hns := name_size op
  have sa := text_size a
  have hp0 := pfx_size op 0
  have sb := text_size b
  have hp1 := pfx_size op 1
  have sc := text_size c
  have hp2 := pfx_size op 2
  clear hr hC hS hN hk h hreg himm hft
  generalize signOf (shapeOf op) = sgn at *
  generalize textOf op a b c n = tx at *
  have i0 : ∀ w, (Instr.index 157 (.agg #[.int .i64 a, .int .i64 b, .int .i64 c]) (.int .i64 0)).run Tryd.prog w = .ok (.int .i64 a) w := fun w =>
    run_index_arr Tryd.underlying157 Tryd.underlying3 (by kernel_rfl) _ 0 _ (by decide) rfl w
  have i1 : ∀ w, (Instr.index 157 (.agg #[.int .i64 a, .int .i64 b, .int .i64 c]) (.int .i64 1)).run Tryd.prog w = .ok (.int .i64 b) w := fun w =>
    run_index_arr Tryd.underlying157 Tryd.underlying3 (by kernel_rfl) _ 1 _ (by decide) rfl w
  have i2 : ∀ w, (Instr.index 157 (.agg #[.int .i64 a, .int .i64 b, .int .i64 c]) (.int .i64 2)).run Tryd.prog w = .ok (.int .i64 c) w := fun w =>
    run_index_arr Tryd.underlying157 Tryd.underlying3 (by kernel_rfl) _ 2 _ (by decide) rfl w
  unfold instrV at *
  go_enter Tryd.func73, Tryd.ntmps73
  go_wp2_with fail
  refine (C.out _ (HS.out.alloc _)).mono ?_
  rintro e w1 ⟨rfl, hb1⟩
  have Q1 := Lib.hid ((Whole.made w 104 #[.int .i64 op, .int .i64 a, .int .i64 b, .int .i64 c, .int .i64 n] _ rfl).below hb1 (by simp))
  have B1 := Lib.hid (((Below.refl _ _).alloc (Nat.le_refl _) _).trans (hb1.mono (show w.heap.size ≤ _ by simp)))
  have HS1 := Lib.hid ((HS.out.alloc _).below hb1 (Nat.le_refl _))
  have HN1 := Lib.hid ((HN.out.alloc _).below hb1 (Nat.le_refl _))
  have z1 : w.heap.size < w1.heap.size := Q1.out.lt
  have q0 : w1.cell? ⟨w.heap.size, 0, none⟩ = some (.int .i64 op) := Q1.out.cell 0
  clear hb1
  go_wp2_with fail
  refine (fieldsOf_any _ _ HS1.out).mono ?_
  rintro e w2 ⟨rfl, hb2⟩
  rw [R.out]
  clear q0
  have Q := Lib.hid ((Q1.out.below hb2 z1).alloc (.cells #[.int .i64 3, .int .i64 0, .bool sgn] 142))
  have z2 : w.heap.size < w2.heap.size := (Q1.out.below hb2 z1).lt
  have P := Lib.hid (Whole.made w2 142 #[.int .i64 3, .int .i64 0, .bool sgn] _ rfl)
  have B2 := Lib.hid ((B1.out.trans (hb2.mono (Nat.le_of_lt z1))).alloc (Nat.le_of_lt z2) (.cells #[.int .i64 3, .int .i64 0, .bool sgn] 142))
  have HN2 := Lib.hid ((HN1.out.below hb2 (Nat.le_refl _)).alloc (.cells #[.int .i64 3, .int .i64 0, .bool sgn] 142))
  have q0 : w2.cell? ⟨w.heap.size, 0, none⟩ = some (.int .i64 op) := (Q1.out.below hb2 z1).cell 0
  have q1 : w2.cell? ⟨w.heap.size, 1, none⟩ = some (.int .i64 a) := (Q1.out.below hb2 z1).cell 1
  have q2 : w2.cell? ⟨w.heap.size, 2, none⟩ = some (.int .i64 b) := (Q1.out.below hb2 z1).cell 2
  have q3 : w2.cell? ⟨w.heap.size, 3, none⟩ = some (.int .i64 c) := (Q1.out.below hb2 z1).cell 3
  have q4 : w2.cell? ⟨w.heap.size, 4, none⟩ = some (.int .i64 n) := (Q1.out.below hb2 z1).cell 4
  clear hb2
  go_wp2_with fail
  have hg := Q.out.lt
  have hp := P.out.lt
  generalize w2.heap.size = g5 at *
  generalize w2.alloc (.cells #[.int .i64 3, .int .i64 0, .bool sgn] 142) = W at *
  clear q0 q1 q2 q3 q4
  have q0 : W.cell? ⟨w.heap.size, 0, none⟩ = some (.int .i64 op) := Q.out.cell 0
  have q1 : W.cell? ⟨w.heap.size, 1, none⟩ = some (.int .i64 a) := Q.out.cell 1
  have q2 : W.cell? ⟨w.heap.size, 2, none⟩ = some (.int .i64 b) := Q.out.cell 2
  have q3 : W.cell? ⟨w.heap.size, 3, none⟩ = some (.int .i64 c) := Q.out.cell 3
  have q4 : W.cell? ⟨w.heap.size, 4, none⟩ = some (.int .i64 n) := Q.out.cell 4
  have p0 : W.cell? ⟨g5, 0, none⟩ = some (.int .i64 3) := P.out.cell 0
  have p1 : W.cell? ⟨g5, 1, none⟩ = some (.int .i64 0) := P.out.cell 1
  have C0 := Lib.hid (Below.refl W.heap.size W)
  have O0 := Lib.hid (OwnsS.nil 9 W W.heap.size)
  refine wp_loop_rounds 4 ?_
  rw [rounds_succ]
  go_wp2_with fail
  refine (prefix_any _ _ _).mono ?_
  rintro e w' ⟨rfl, rfl⟩
  go_wp2_with fail
  refine (text_any a _ ha.1 ha.2).mono ?_
  rintro e y1 ⟨rfl, hb1⟩
  have C1 := Lib.hid (C0.out.trans (hb1.mono C0.out.size))
  have O1 := Lib.hid (O0.out.below hb1)
  clear hb1 q0 q1 q2 q3 q4 p0 p1
  have q0 : y1.cell? ⟨w.heap.size, 0, none⟩ = some (.int .i64 op) := (Q.out.below C1.out hg).cell 0
  have q1 : y1.cell? ⟨w.heap.size, 1, none⟩ = some (.int .i64 a) := (Q.out.below C1.out hg).cell 1
  have q2 : y1.cell? ⟨w.heap.size, 2, none⟩ = some (.int .i64 b) := (Q.out.below C1.out hg).cell 2
  have q3 : y1.cell? ⟨w.heap.size, 3, none⟩ = some (.int .i64 c) := (Q.out.below C1.out hg).cell 3
  have q4 : y1.cell? ⟨w.heap.size, 4, none⟩ = some (.int .i64 n) := (Q.out.below C1.out hg).cell 4
  have p0 : y1.cell? ⟨g5, 0, none⟩ = some (.int .i64 3) := (P.out.below C1.out hp).cell 0
  have p1 : y1.cell? ⟨g5, 1, none⟩ = some (.int .i64 0) := (P.out.below C1.out hp).cell 1
  go_wp2_with (at_builtin; refine wpList_append_strs _ rfl (.tmp 36) (.tmp 44) rfl rowStr W.heap.size (.slice none 0 0) (0) _ rfl (O1.out.alloc _) (some ⟨y1.heap.size, 0, none⟩) 1 1 [rt op 0 a] rfl (strs_built 9 y1 [rt op 0 a] _ rfl 1 rfl (by decide) _ rfl) (by omega) (Nat.le_trans C1.out.size (by simp)) ?_; intro v2 y2 ho2 hg2 _; have hb2 : Below W.heap.size y1 y2 := OwnsS.grown_below ((Below.refl _ _).alloc C1.out.size _) (O1.out.alloc _) hg2 (Nat.le_trans C1.out.size (by simp)); have C2 := Lib.hid (C1.out.trans hb2); have O2 := Lib.hid ho2; clear ho2 hg2 hb2 q0 q1 q2 q3 q4 p0 p1; have q0 : y2.cell? ⟨w.heap.size, 0, none⟩ = some (.int .i64 op) := (Q.out.below C2.out hg).cell 0; have q1 : y2.cell? ⟨w.heap.size, 1, none⟩ = some (.int .i64 a) := (Q.out.below C2.out hg).cell 1; have q2 : y2.cell? ⟨w.heap.size, 2, none⟩ = some (.int .i64 b) := (Q.out.below C2.out hg).cell 2; have q3 : y2.cell? ⟨w.heap.size, 3, none⟩ = some (.int .i64 c) := (Q.out.below C2.out hg).cell 3; have q4 : y2.cell? ⟨w.heap.size, 4, none⟩ = some (.int .i64 n) := (Q.out.below C2.out hg).cell 4; have p0 : y2.cell? ⟨g5, 0, none⟩ = some (.int .i64 3) := (P.out.below C2.out hp).cell 0; have p1 : y2.cell? ⟨g5, 1, none⟩ = some (.int .i64 0) := (P.out.below C2.out hp).cell 1)
  rw [rounds_succ]
  go_wp2_with fail
  refine (prefix_any _ _ _).mono ?_
  rintro e w' ⟨rfl, rfl⟩
  go_wp2_with fail
  refine (text_any b _ hb.1 hb.2).mono ?_
  rintro e y3 ⟨rfl, hb3⟩
  have C3 := Lib.hid (C2.out.trans (hb3.mono C2.out.size))
  have O3 := Lib.hid (O2.out.below hb3)
  clear hb3 q0 q1 q2 q3 q4 p0 p1
  have q0 : y3.cell? ⟨w.heap.size, 0, none⟩ = some (.int .i64 op) := (Q.out.below C3.out hg).cell 0
  have q1 : y3.cell? ⟨w.heap.size, 1, none⟩ = some (.int .i64 a) := (Q.out.below C3.out hg).cell 1
  have q2 : y3.cell? ⟨w.heap.size, 2, none⟩ = some (.int .i64 b) := (Q.out.below C3.out hg).cell 2
  have q3 : y3.cell? ⟨w.heap.size, 3, none⟩ = some (.int .i64 c) := (Q.out.below C3.out hg).cell 3
  have q4 : y3.cell? ⟨w.heap.size, 4, none⟩ = some (.int .i64 n) := (Q.out.below C3.out hg).cell 4
  have p0 : y3.cell? ⟨g5, 0, none⟩ = some (.int .i64 3) := (P.out.below C3.out hp).cell 0
  have p1 : y3.cell? ⟨g5, 1, none⟩ = some (.int .i64 0) := (P.out.below C3.out hp).cell 1
  go_wp2_with (at_builtin; refine wpList_append_strs _ rfl (.tmp 36) (.tmp 44) rfl rowStr W.heap.size v2 (0 + 1) _ rfl (O3.out.alloc _) (some ⟨y3.heap.size, 0, none⟩) 1 1 [rt op 1 b] rfl (strs_built 9 y3 [rt op 1 b] _ rfl 1 rfl (by decide) _ rfl) (by omega) (Nat.le_trans C3.out.size (by simp)) ?_; intro v4 y4 ho4 hg4 _; have hb4 : Below W.heap.size y3 y4 := OwnsS.grown_below ((Below.refl _ _).alloc C3.out.size _) (O3.out.alloc _) hg4 (Nat.le_trans C3.out.size (by simp)); have C4 := Lib.hid (C3.out.trans hb4); have O4 := Lib.hid ho4; clear ho4 hg4 hb4 q0 q1 q2 q3 q4 p0 p1; have q0 : y4.cell? ⟨w.heap.size, 0, none⟩ = some (.int .i64 op) := (Q.out.below C4.out hg).cell 0; have q1 : y4.cell? ⟨w.heap.size, 1, none⟩ = some (.int .i64 a) := (Q.out.below C4.out hg).cell 1; have q2 : y4.cell? ⟨w.heap.size, 2, none⟩ = some (.int .i64 b) := (Q.out.below C4.out hg).cell 2; have q3 : y4.cell? ⟨w.heap.size, 3, none⟩ = some (.int .i64 c) := (Q.out.below C4.out hg).cell 3; have q4 : y4.cell? ⟨w.heap.size, 4, none⟩ = some (.int .i64 n) := (Q.out.below C4.out hg).cell 4; have p0 : y4.cell? ⟨g5, 0, none⟩ = some (.int .i64 3) := (P.out.below C4.out hp).cell 0; have p1 : y4.cell? ⟨g5, 1, none⟩ = some (.int .i64 0) := (P.out.below C4.out hp).cell 1)
  rw [rounds_succ]
  go_wp2_with fail
  refine (prefix_any _ _ _).mono ?_
  rintro e w' ⟨rfl, rfl⟩
  go_wp2_with fail
  refine (text_any c _ hc.1 hc.2).mono ?_
  rintro e y5 ⟨rfl, hb5⟩
  have C5 := Lib.hid (C4.out.trans (hb5.mono C4.out.size))
  have O5 := Lib.hid (O4.out.below hb5)
  clear hb5 q0 q1 q2 q3 q4 p0 p1
  have q0 : y5.cell? ⟨w.heap.size, 0, none⟩ = some (.int .i64 op) := (Q.out.below C5.out hg).cell 0
  have q1 : y5.cell? ⟨w.heap.size, 1, none⟩ = some (.int .i64 a) := (Q.out.below C5.out hg).cell 1
  have q2 : y5.cell? ⟨w.heap.size, 2, none⟩ = some (.int .i64 b) := (Q.out.below C5.out hg).cell 2
  have q3 : y5.cell? ⟨w.heap.size, 3, none⟩ = some (.int .i64 c) := (Q.out.below C5.out hg).cell 3
  have q4 : y5.cell? ⟨w.heap.size, 4, none⟩ = some (.int .i64 n) := (Q.out.below C5.out hg).cell 4
  have p0 : y5.cell? ⟨g5, 0, none⟩ = some (.int .i64 3) := (P.out.below C5.out hp).cell 0
  have p1 : y5.cell? ⟨g5, 1, none⟩ = some (.int .i64 0) := (P.out.below C5.out hp).cell 1
  go_wp2_with (at_builtin; refine wpList_append_strs _ rfl (.tmp 36) (.tmp 44) rfl rowStr W.heap.size v4 (0 + 1 + 1) _ rfl (O5.out.alloc _) (some ⟨y5.heap.size, 0, none⟩) 1 1 [rt op 2 c] rfl (strs_built 9 y5 [rt op 2 c] _ rfl 1 rfl (by decide) _ rfl) (by omega) (Nat.le_trans C5.out.size (by simp)) ?_; intro v6 y6 ho6 hg6 _; have hb6 : Below W.heap.size y5 y6 := OwnsS.grown_below ((Below.refl _ _).alloc C5.out.size _) (O5.out.alloc _) hg6 (Nat.le_trans C5.out.size (by simp)); have C6 := Lib.hid (C5.out.trans hb6); have O6 := Lib.hid ho6; clear ho6 hg6 hb6 q0 q1 q2 q3 q4 p0 p1; have q0 : y6.cell? ⟨w.heap.size, 0, none⟩ = some (.int .i64 op) := (Q.out.below C6.out hg).cell 0; have q1 : y6.cell? ⟨w.heap.size, 1, none⟩ = some (.int .i64 a) := (Q.out.below C6.out hg).cell 1; have q2 : y6.cell? ⟨w.heap.size, 2, none⟩ = some (.int .i64 b) := (Q.out.below C6.out hg).cell 2; have q3 : y6.cell? ⟨w.heap.size, 3, none⟩ = some (.int .i64 c) := (Q.out.below C6.out hg).cell 3; have q4 : y6.cell? ⟨w.heap.size, 4, none⟩ = some (.int .i64 n) := (Q.out.below C6.out hg).cell 4; have p0 : y6.cell? ⟨g5, 0, none⟩ = some (.int .i64 3) := (P.out.below C6.out hp).cell 0; have p1 : y6.cell? ⟨g5, 1, none⟩ = some (.int .i64 0) := (P.out.below C6.out hp).cell 1; obtain ⟨g6, k6, hv6, hk6, hl6, hc6⟩ := O6.out.big (by omega); subst hv6)
  rw [rounds_succ]
  go_wp2_with fail
  refine (name_any _ _ (HN2.out.below C6.out (Nat.le_refl _))).mono ?_
  rintro e w' ⟨rfl, rfl⟩
  go_wp2_with fail
  have hjn : Calls Tryd.prog 103 #[.slice (some ⟨g6, 0, none⟩) 3 k6, .string ⟨#[44, 32]⟩] y6 fun e w' => e = .returned (.string (joinS [rt op 0 a, rt op 1 b, rt op 2 c])) ∧ Below y6.heap.size y6 w' :=
    Tryd.strings_Join g6 0 k6 [rt op 0 a, rt op 1 b, rt op 2 c] ⟨#[44, 32]⟩ _ hc6 hl6 (show 3 ≤ 140737488355328 by decide) hk6 (Nat.le_trans JS.out (by decide))
  clear hc6
  generalize joinS [rt op 0 a, rt op 1 b, rt op 2 c] = jz at *
  refine hjn.mono ?_
  rintro e wz ⟨rfl, hbz⟩
  have fin := B2.out.trans ((C6.out.trans (hbz.mono C6.out.size)).mono B2.out.size)
  clear hbz
  go_wp2_with fail
  go_ret2
  exact ⟨congrArg (fun z => Ending.returned (.tuple #[.string z, .int .i64 0])) J.out, fin⟩
end Go.Proofs.YtoffagmoaedkbaaDoor
