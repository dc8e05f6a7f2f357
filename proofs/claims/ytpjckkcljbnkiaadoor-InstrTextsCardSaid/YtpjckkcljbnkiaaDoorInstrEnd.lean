/- InstrTexts: Text, both Fills, and the law's four ways. -/
import Derived.Test.YtpjckkcljbnkiaaDoorInstrT
import Derived.Test.YtpjckkcljbnkiaaDoorBlocks
import Derived.Test.YtpjckkcljbnkiaaDoorShelf
import Derived.Test.YtpjckkcljbnkiaaDoorInstrW0
import Derived.Test.YtpjckkcljbnkiaaDoorInstrW1
import Derived.Test.YtpjckkcljbnkiaaDoorInstrW2
import Derived.Test.YtpjckkcljbnkiaaDoorInstrW3
import Derived.Test.YtpjckkcljbnkiaaDoorInstrW4
import Derived.Test.YtpjckkcljbnkiaaDoorInstrW5
import Derived.Test.YtpjckkcljbnkiaaDoorInstrX03
import Derived.Test.YtpjckkcljbnkiaaDoorInstrX4
import Derived.Test.YtpjckkcljbnkiaaDoorInstrX5
import Derived.Test.YtpjckkcljbnkiaaDoorInstrX6
import Derived.Test.YtpjckkcljbnkiaaDoorInstrY
import Derived.Test.YtpjckkcljbnkiaaDoorInstrV
import Derived.Test.YtpjckkcljbnkiaaDoorInstrG
import Derived.Test.YtpjckkcljbnkiaaDoorWordI

/- Package instr: Text, by how many registers and whether there is a number: part 0. -/
namespace Go.Proofs.YtpjckkcljbnkiaaDoor
open Go.ChangeShapes Go.WideShapes Go.ChangeAt Go.RowKit
set_option linter.unusedVariables false

set_option maxHeartbeats 8000000 in
set_option maxRecDepth 100000 in
theorem text_00 (op a b c n : Int) (w : World) (hS : ShapesIn w) (hN : NamesIn w) (ha : I64 a) (hb : I64 b) (hc : I64 c) (hn : I64 n) (hk : checkOf op a b c n = 0) (hreg : regsOf (shapeOf op) = 0) (himm : bitsOf (shapeOf op) = 0) :
    Calls Tryd.prog 5 #[instrV op a b c n] w fun e w' => e = .returned (.tuple #[.string (textOf op a b c n), .int .i64 0]) ∧ Below w.heap.size w w' := by
  have h := (good_of_check hk).1
  have hr : fieldsR op = .tuple #[.agg #[.int .i64 0, .int .i64 0, .bool (signOf (shapeOf op))], .bool true] := by
    unfold fieldsR fieldsV
    rw [hreg, himm]
    simp [h]
  have hft : fieldTexts op a b c n = [] := by
    unfold fieldTexts
    rw [hreg, himm]
    rfl
  have hC := fun w hs => check_any op a b c n w hs ha hb hc hn
  rw [hk] at hC
  have J := Lib.hid (show nameOf op = textOf op a b c n by unfold textOf; rw [hft]; rfl)
  have R := Lib.hid hr
  have C := Lib.hid hC
  have HS := Lib.hid hS
  have HN := Lib.hid hN
  have hns := name_size op
  clear hr hC hS hN hk h hreg himm hft
  generalize signOf (shapeOf op) = sgn at *
  generalize textOf op a b c n = tx at *
  have i0 : ∀ w, (Instr.index 47 (.agg #[.int .i64 a, .int .i64 b, .int .i64 c]) (.int .i64 0)).run Tryd.prog w = .ok (.int .i64 a) w := fun w =>
    run_index_arr Tryd.underlying47 Tryd.underlying3 (by kernel_rfl) _ 0 _ (by decide) rfl w
  have i1 : ∀ w, (Instr.index 47 (.agg #[.int .i64 a, .int .i64 b, .int .i64 c]) (.int .i64 1)).run Tryd.prog w = .ok (.int .i64 b) w := fun w =>
    run_index_arr Tryd.underlying47 Tryd.underlying3 (by kernel_rfl) _ 1 _ (by decide) rfl w
  have i2 : ∀ w, (Instr.index 47 (.agg #[.int .i64 a, .int .i64 b, .int .i64 c]) (.int .i64 2)).run Tryd.prog w = .ok (.int .i64 c) w := fun w =>
    run_index_arr Tryd.underlying47 Tryd.underlying3 (by kernel_rfl) _ 2 _ (by decide) rfl w
  unfold instrV at *
  go_enter Tryd.func5, Tryd.ntmps5
  go_wp2_with fail
  refine (C.out _ (HS.out.alloc _)).mono ?_
  rintro e w1 ⟨rfl, hb1⟩
  have Q1 := Lib.hid ((Whole.made w 23 #[.int .i64 op, .int .i64 a, .int .i64 b, .int .i64 c, .int .i64 n] _ rfl).below hb1 (by simp))
  have B1 := Lib.hid (((Below.refl _ _).alloc (Nat.le_refl _) _).trans (hb1.mono (show w.heap.size ≤ _ by simp)))
  have HS1 := Lib.hid ((HS.out.alloc _).below hb1 (Nat.le_refl _))
  have HN1 := Lib.hid ((HN.out.alloc _).below hb1 (Nat.le_refl _))
  have z1 : w.heap.size < w1.heap.size := Q1.out.lt
  have q0 : w1.cell? ⟨w.heap.size, 0, none⟩ = some (.int .i64 op) := Q1.out.cell 0
  clear hb1
  go_wp2_with fail
  refine (fieldsOf_any _ _ HS1.out).mono ?_
  rintro e w2 ⟨rfl, hb2⟩
  rw [R.out]
  clear q0
  have Q := Lib.hid ((Q1.out.below hb2 z1).alloc (.cells #[.int .i64 0, .int .i64 0, .bool sgn] 44))
  have z2 : w.heap.size < w2.heap.size := (Q1.out.below hb2 z1).lt
  have P := Lib.hid (Whole.made w2 44 #[.int .i64 0, .int .i64 0, .bool sgn] _ rfl)
  have B2 := Lib.hid ((B1.out.trans (hb2.mono (Nat.le_of_lt z1))).alloc (Nat.le_of_lt z2) (.cells #[.int .i64 0, .int .i64 0, .bool sgn] 44))
  have HN2 := Lib.hid ((HN1.out.below hb2 (Nat.le_refl _)).alloc (.cells #[.int .i64 0, .int .i64 0, .bool sgn] 44))
  have q0 : w2.cell? ⟨w.heap.size, 0, none⟩ = some (.int .i64 op) := (Q1.out.below hb2 z1).cell 0
  have q1 : w2.cell? ⟨w.heap.size, 1, none⟩ = some (.int .i64 a) := (Q1.out.below hb2 z1).cell 1
  have q2 : w2.cell? ⟨w.heap.size, 2, none⟩ = some (.int .i64 b) := (Q1.out.below hb2 z1).cell 2
  have q3 : w2.cell? ⟨w.heap.size, 3, none⟩ = some (.int .i64 c) := (Q1.out.below hb2 z1).cell 3
  have q4 : w2.cell? ⟨w.heap.size, 4, none⟩ = some (.int .i64 n) := (Q1.out.below hb2 z1).cell 4
  clear hb2
  go_wp2_with fail
  have hg := Q.out.lt
  have hp := P.out.lt
  generalize w2.heap.size = g5 at *
  generalize w2.alloc (.cells #[.int .i64 0, .int .i64 0, .bool sgn] 44) = W at *
  clear q0 q1 q2 q3 q4
  have q0 : W.cell? ⟨w.heap.size, 0, none⟩ = some (.int .i64 op) := Q.out.cell 0
  have q1 : W.cell? ⟨w.heap.size, 1, none⟩ = some (.int .i64 a) := Q.out.cell 1
  have q2 : W.cell? ⟨w.heap.size, 2, none⟩ = some (.int .i64 b) := Q.out.cell 2
  have q3 : W.cell? ⟨w.heap.size, 3, none⟩ = some (.int .i64 c) := Q.out.cell 3
  have q4 : W.cell? ⟨w.heap.size, 4, none⟩ = some (.int .i64 n) := Q.out.cell 4
  have p0 : W.cell? ⟨g5, 0, none⟩ = some (.int .i64 0) := P.out.cell 0
  have p1 : W.cell? ⟨g5, 1, none⟩ = some (.int .i64 0) := P.out.cell 1
  have C0 := Lib.hid (Below.refl W.heap.size W)
  have O0 := Lib.hid (OwnsS.nil 9 W W.heap.size)
  refine wp_loop_rounds 4 ?_
  rw [rounds_succ]
  go_wp2_with fail
  rw [rounds_succ]
  go_wp2_with fail
  rw [rounds_succ]
  go_wp2_with fail
  rw [rounds_succ]
  go_wp2_with fail
  refine (name_any _ _ (HN2.out.below C0.out (Nat.le_refl _))).mono ?_
  rintro e w' ⟨rfl, rfl⟩
  go_wp2_with fail
  have fin := B2.out.trans (C0.out.mono B2.out.size)
  go_ret2
  exact ⟨congrArg (fun z => Ending.returned (.tuple #[.string z, .int .i64 0])) J.out, fin⟩

set_option maxHeartbeats 8000000 in
set_option maxRecDepth 100000 in
theorem text_01 (op a b c n : Int) (w : World) (hS : ShapesIn w) (hN : NamesIn w) (ha : I64 a) (hb : I64 b) (hc : I64 c) (hn : I64 n) (hk : checkOf op a b c n = 0) (hreg : regsOf (shapeOf op) = 0) (himm : 0 < bitsOf (shapeOf op)) :
    Calls Tryd.prog 5 #[instrV op a b c n] w fun e w' => e = .returned (.tuple #[.string (textOf op a b c n), .int .i64 0]) ∧ Below w.heap.size w w' := by
  have h := (good_of_check hk).1
  have hr : fieldsR op = .tuple #[.agg #[.int .i64 0, .int .i64 (bitsOf (shapeOf op)), .bool (signOf (shapeOf op))], .bool true] := by
    unfold fieldsR fieldsV
    rw [hreg]
    simp [h]
  have hft : fieldTexts op a b c n = [nt n] := by
    unfold fieldTexts
    rw [hreg, if_pos himm]
    rfl
  have hC := fun w hs => check_any op a b c n w hs ha hb hc hn
  rw [hk] at hC
  have hj : nameOf op ++ ⟨#[32]⟩ ++ joinS (fieldTexts op a b c n) = textOf op a b c n := by
    unfold textOf
    rw [hft]
    exact join1 _ _
  have hjs : (joinS (fieldTexts op a b c n)).size ≤ 101 := joinS_size (k := 1) (name_size op) (by decide) (by rw [hj]; unfold textOf; rw [hft]; rfl)
  rw [hft] at hj hjs
  have J := Lib.hid hj
  have JS := Lib.hid (show (Lib.join (([nt n] : List ByteArray).map (·.data.toList)) (⟨#[44, 32]⟩ : ByteArray).data.toList).length ≤ 101 by
    have e : (joinS [nt n]).size = (Lib.join (([nt n] : List ByteArray).map (·.data.toList)) (⟨#[44, 32]⟩ : ByteArray).data.toList).length := by
      show (List.toArray _).size = _
      simp
    omega)
  clear hj
  have R := Lib.hid hr
  have C := Lib.hid hC
  have HS := Lib.hid hS
  have HN := Lib.hid hN
  have hns := name_size op
  have dm : decide (0 < bitsOf (shapeOf op)) = true := by simpa using himm
  have sn := text_size n
  clear hr hC hS hN hk h hreg himm hft
  generalize bitsOf (shapeOf op) = bits at *
  generalize signOf (shapeOf op) = sgn at *
  generalize textOf op a b c n = tx at *
  have i0 : ∀ w, (Instr.index 47 (.agg #[.int .i64 a, .int .i64 b, .int .i64 c]) (.int .i64 0)).run Tryd.prog w = .ok (.int .i64 a) w := fun w =>
    run_index_arr Tryd.underlying47 Tryd.underlying3 (by kernel_rfl) _ 0 _ (by decide) rfl w
  have i1 : ∀ w, (Instr.index 47 (.agg #[.int .i64 a, .int .i64 b, .int .i64 c]) (.int .i64 1)).run Tryd.prog w = .ok (.int .i64 b) w := fun w =>
    run_index_arr Tryd.underlying47 Tryd.underlying3 (by kernel_rfl) _ 1 _ (by decide) rfl w
  have i2 : ∀ w, (Instr.index 47 (.agg #[.int .i64 a, .int .i64 b, .int .i64 c]) (.int .i64 2)).run Tryd.prog w = .ok (.int .i64 c) w := fun w =>
    run_index_arr Tryd.underlying47 Tryd.underlying3 (by kernel_rfl) _ 2 _ (by decide) rfl w
  unfold instrV at *
  go_enter Tryd.func5, Tryd.ntmps5
  go_wp2_with fail
  refine (C.out _ (HS.out.alloc _)).mono ?_
  rintro e w1 ⟨rfl, hb1⟩
  have Q1 := Lib.hid ((Whole.made w 23 #[.int .i64 op, .int .i64 a, .int .i64 b, .int .i64 c, .int .i64 n] _ rfl).below hb1 (by simp))
  have B1 := Lib.hid (((Below.refl _ _).alloc (Nat.le_refl _) _).trans (hb1.mono (show w.heap.size ≤ _ by simp)))
  have HS1 := Lib.hid ((HS.out.alloc _).below hb1 (Nat.le_refl _))
  have HN1 := Lib.hid ((HN.out.alloc _).below hb1 (Nat.le_refl _))
  have z1 : w.heap.size < w1.heap.size := Q1.out.lt
  have q0 : w1.cell? ⟨w.heap.size, 0, none⟩ = some (.int .i64 op) := Q1.out.cell 0
  clear hb1
  go_wp2_with fail
  refine (fieldsOf_any _ _ HS1.out).mono ?_
  rintro e w2 ⟨rfl, hb2⟩
  rw [R.out]
  clear q0
  have Q := Lib.hid ((Q1.out.below hb2 z1).alloc (.cells #[.int .i64 0, .int .i64 bits, .bool sgn] 44))
  have z2 : w.heap.size < w2.heap.size := (Q1.out.below hb2 z1).lt
  have P := Lib.hid (Whole.made w2 44 #[.int .i64 0, .int .i64 bits, .bool sgn] _ rfl)
  have B2 := Lib.hid ((B1.out.trans (hb2.mono (Nat.le_of_lt z1))).alloc (Nat.le_of_lt z2) (.cells #[.int .i64 0, .int .i64 bits, .bool sgn] 44))
  have HN2 := Lib.hid ((HN1.out.below hb2 (Nat.le_refl _)).alloc (.cells #[.int .i64 0, .int .i64 bits, .bool sgn] 44))
  have q0 : w2.cell? ⟨w.heap.size, 0, none⟩ = some (.int .i64 op) := (Q1.out.below hb2 z1).cell 0
  have q1 : w2.cell? ⟨w.heap.size, 1, none⟩ = some (.int .i64 a) := (Q1.out.below hb2 z1).cell 1
  have q2 : w2.cell? ⟨w.heap.size, 2, none⟩ = some (.int .i64 b) := (Q1.out.below hb2 z1).cell 2
  have q3 : w2.cell? ⟨w.heap.size, 3, none⟩ = some (.int .i64 c) := (Q1.out.below hb2 z1).cell 3
  have q4 : w2.cell? ⟨w.heap.size, 4, none⟩ = some (.int .i64 n) := (Q1.out.below hb2 z1).cell 4
  clear hb2
  go_wp2_with fail
  have hg := Q.out.lt
  have hp := P.out.lt
  generalize w2.heap.size = g5 at *
  generalize w2.alloc (.cells #[.int .i64 0, .int .i64 bits, .bool sgn] 44) = W at *
  clear q0 q1 q2 q3 q4
  have q0 : W.cell? ⟨w.heap.size, 0, none⟩ = some (.int .i64 op) := Q.out.cell 0
  have q1 : W.cell? ⟨w.heap.size, 1, none⟩ = some (.int .i64 a) := Q.out.cell 1
  have q2 : W.cell? ⟨w.heap.size, 2, none⟩ = some (.int .i64 b) := Q.out.cell 2
  have q3 : W.cell? ⟨w.heap.size, 3, none⟩ = some (.int .i64 c) := Q.out.cell 3
  have q4 : W.cell? ⟨w.heap.size, 4, none⟩ = some (.int .i64 n) := Q.out.cell 4
  have p0 : W.cell? ⟨g5, 0, none⟩ = some (.int .i64 0) := P.out.cell 0
  have p1 : W.cell? ⟨g5, 1, none⟩ = some (.int .i64 bits) := P.out.cell 1
  have C0 := Lib.hid (Below.refl W.heap.size W)
  have O0 := Lib.hid (OwnsS.nil 9 W W.heap.size)
  refine wp_loop_rounds 4 ?_
  rw [rounds_succ]
  go_wp2_with fail
  rw [rounds_succ]
  go_wp2_with fail
  rw [rounds_succ]
  go_wp2_with fail
  rw [rounds_succ]
  go_wp2_with fail
  refine (text_any n _ hn.1 hn.2).mono ?_
  rintro e y1 ⟨rfl, hb1⟩
  have C1 := Lib.hid (C0.out.trans (hb1.mono C0.out.size))
  have O1 := Lib.hid (O0.out.below hb1)
  clear hb1 q0 q1 q2 q3 q4 p0 p1
  have q0 : y1.cell? ⟨w.heap.size, 0, none⟩ = some (.int .i64 op) := (Q.out.below C1.out hg).cell 0
  have q1 : y1.cell? ⟨w.heap.size, 1, none⟩ = some (.int .i64 a) := (Q.out.below C1.out hg).cell 1
  have q2 : y1.cell? ⟨w.heap.size, 2, none⟩ = some (.int .i64 b) := (Q.out.below C1.out hg).cell 2
  have q3 : y1.cell? ⟨w.heap.size, 3, none⟩ = some (.int .i64 c) := (Q.out.below C1.out hg).cell 3
  have q4 : y1.cell? ⟨w.heap.size, 4, none⟩ = some (.int .i64 n) := (Q.out.below C1.out hg).cell 4
  have p0 : y1.cell? ⟨g5, 0, none⟩ = some (.int .i64 0) := (P.out.below C1.out hp).cell 0
  have p1 : y1.cell? ⟨g5, 1, none⟩ = some (.int .i64 bits) := (P.out.below C1.out hp).cell 1
  go_wp2_with (at_builtin; refine wpList_append_strs _ rfl (.tmp 50) (.tmp 54) rfl rowStr W.heap.size (.slice none 0 0) (0) _ rfl (O1.out.alloc _) (some ⟨y1.heap.size, 0, none⟩) 1 1 [nt n] rfl (strs_built 9 y1 [nt n] _ rfl 1 rfl (by decide) _ rfl) (by omega) (Nat.le_trans C1.out.size (by simp)) ?_; intro v2 y2 ho2 hg2 _; have hb2 : Below W.heap.size y1 y2 := OwnsS.grown_below ((Below.refl _ _).alloc C1.out.size _) (O1.out.alloc _) hg2 (Nat.le_trans C1.out.size (by simp)); have C2 := Lib.hid (C1.out.trans hb2); have O2 := Lib.hid ho2; clear ho2 hg2 hb2 q0 q1 q2 q3 q4 p0 p1; have q0 : y2.cell? ⟨w.heap.size, 0, none⟩ = some (.int .i64 op) := (Q.out.below C2.out hg).cell 0; have q1 : y2.cell? ⟨w.heap.size, 1, none⟩ = some (.int .i64 a) := (Q.out.below C2.out hg).cell 1; have q2 : y2.cell? ⟨w.heap.size, 2, none⟩ = some (.int .i64 b) := (Q.out.below C2.out hg).cell 2; have q3 : y2.cell? ⟨w.heap.size, 3, none⟩ = some (.int .i64 c) := (Q.out.below C2.out hg).cell 3; have q4 : y2.cell? ⟨w.heap.size, 4, none⟩ = some (.int .i64 n) := (Q.out.below C2.out hg).cell 4; have p0 : y2.cell? ⟨g5, 0, none⟩ = some (.int .i64 0) := (P.out.below C2.out hp).cell 0; have p1 : y2.cell? ⟨g5, 1, none⟩ = some (.int .i64 bits) := (P.out.below C2.out hp).cell 1; obtain ⟨g2, k2, hv2, hk2, hl2, hc2⟩ := O2.out.big (by omega); subst hv2)
  go_wp2_with fail
  refine (name_any _ _ (HN2.out.below C2.out (Nat.le_refl _))).mono ?_
  rintro e w' ⟨rfl, rfl⟩
  go_wp2_with fail
  have hjn : Calls Tryd.prog 17 #[.slice (some ⟨g2, 0, none⟩) 1 k2, .string ⟨#[44, 32]⟩] y2 fun e w' => e = .returned (.string (joinS [nt n])) ∧ Below y2.heap.size y2 w' :=
    Tryd.strings_Join g2 0 k2 [nt n] ⟨#[44, 32]⟩ _ hc2 hl2 (show 1 ≤ 140737488355328 by decide) hk2 (Nat.le_trans JS.out (by decide))
  clear hc2
  generalize joinS [nt n] = jz at *
  refine hjn.mono ?_
  rintro e wz ⟨rfl, hbz⟩
  have fin := B2.out.trans ((C2.out.trans (hbz.mono C2.out.size)).mono B2.out.size)
  clear hbz
  go_wp2_with fail
  go_ret2
  exact ⟨congrArg (fun z => Ending.returned (.tuple #[.string z, .int .i64 0])) J.out, fin⟩

set_option maxHeartbeats 8000000 in
set_option maxRecDepth 100000 in
theorem text_10 (op a b c n : Int) (w : World) (hS : ShapesIn w) (hN : NamesIn w) (ha : I64 a) (hb : I64 b) (hc : I64 c) (hn : I64 n) (hk : checkOf op a b c n = 0) (hreg : regsOf (shapeOf op) = 1) (himm : bitsOf (shapeOf op) = 0) :
    Calls Tryd.prog 5 #[instrV op a b c n] w fun e w' => e = .returned (.tuple #[.string (textOf op a b c n), .int .i64 0]) ∧ Below w.heap.size w w' := by
  have h := (good_of_check hk).1
  have hr : fieldsR op = .tuple #[.agg #[.int .i64 1, .int .i64 0, .bool (signOf (shapeOf op))], .bool true] := by
    unfold fieldsR fieldsV
    rw [hreg, himm]
    simp [h]
  have hft : fieldTexts op a b c n = [rt op 0 a] := by
    unfold fieldTexts
    rw [hreg, himm]
    rfl
  have hC := fun w hs => check_any op a b c n w hs ha hb hc hn
  rw [hk] at hC
  have hj : nameOf op ++ ⟨#[32]⟩ ++ joinS (fieldTexts op a b c n) = textOf op a b c n := by
    unfold textOf
    rw [hft]
    exact join1 _ _
  have hjs : (joinS (fieldTexts op a b c n)).size ≤ 101 := joinS_size (k := 1) (name_size op) (by decide) (by rw [hj]; unfold textOf; rw [hft]; rfl)
  rw [hft] at hj hjs
  have J := Lib.hid hj
  have JS := Lib.hid (show (Lib.join (([rt op 0 a] : List ByteArray).map (·.data.toList)) (⟨#[44, 32]⟩ : ByteArray).data.toList).length ≤ 101 by
    have e : (joinS [rt op 0 a]).size = (Lib.join (([rt op 0 a] : List ByteArray).map (·.data.toList)) (⟨#[44, 32]⟩ : ByteArray).data.toList).length := by
      show (List.toArray _).size = _
      simp
    omega)
  clear hj
  have R := Lib.hid hr
  have C := Lib.hid hC
  have HS := Lib.hid hS
  have HN := Lib.hid hN
  have hns := name_size op
  have sa := text_size a
  have hp0 := pfx_size op 0
  clear hr hC hS hN hk h hreg himm hft
  generalize signOf (shapeOf op) = sgn at *
  generalize textOf op a b c n = tx at *
  have i0 : ∀ w, (Instr.index 47 (.agg #[.int .i64 a, .int .i64 b, .int .i64 c]) (.int .i64 0)).run Tryd.prog w = .ok (.int .i64 a) w := fun w =>
    run_index_arr Tryd.underlying47 Tryd.underlying3 (by kernel_rfl) _ 0 _ (by decide) rfl w
  have i1 : ∀ w, (Instr.index 47 (.agg #[.int .i64 a, .int .i64 b, .int .i64 c]) (.int .i64 1)).run Tryd.prog w = .ok (.int .i64 b) w := fun w =>
    run_index_arr Tryd.underlying47 Tryd.underlying3 (by kernel_rfl) _ 1 _ (by decide) rfl w
  have i2 : ∀ w, (Instr.index 47 (.agg #[.int .i64 a, .int .i64 b, .int .i64 c]) (.int .i64 2)).run Tryd.prog w = .ok (.int .i64 c) w := fun w =>
    run_index_arr Tryd.underlying47 Tryd.underlying3 (by kernel_rfl) _ 2 _ (by decide) rfl w
  unfold instrV at *
  go_enter Tryd.func5, Tryd.ntmps5
  go_wp2_with fail
  refine (C.out _ (HS.out.alloc _)).mono ?_
  rintro e w1 ⟨rfl, hb1⟩
  have Q1 := Lib.hid ((Whole.made w 23 #[.int .i64 op, .int .i64 a, .int .i64 b, .int .i64 c, .int .i64 n] _ rfl).below hb1 (by simp))
  have B1 := Lib.hid (((Below.refl _ _).alloc (Nat.le_refl _) _).trans (hb1.mono (show w.heap.size ≤ _ by simp)))
  have HS1 := Lib.hid ((HS.out.alloc _).below hb1 (Nat.le_refl _))
  have HN1 := Lib.hid ((HN.out.alloc _).below hb1 (Nat.le_refl _))
  have z1 : w.heap.size < w1.heap.size := Q1.out.lt
  have q0 : w1.cell? ⟨w.heap.size, 0, none⟩ = some (.int .i64 op) := Q1.out.cell 0
  clear hb1
  go_wp2_with fail
  refine (fieldsOf_any _ _ HS1.out).mono ?_
  rintro e w2 ⟨rfl, hb2⟩
  rw [R.out]
  clear q0
  have Q := Lib.hid ((Q1.out.below hb2 z1).alloc (.cells #[.int .i64 1, .int .i64 0, .bool sgn] 44))
  have z2 : w.heap.size < w2.heap.size := (Q1.out.below hb2 z1).lt
  have P := Lib.hid (Whole.made w2 44 #[.int .i64 1, .int .i64 0, .bool sgn] _ rfl)
  have B2 := Lib.hid ((B1.out.trans (hb2.mono (Nat.le_of_lt z1))).alloc (Nat.le_of_lt z2) (.cells #[.int .i64 1, .int .i64 0, .bool sgn] 44))
  have HN2 := Lib.hid ((HN1.out.below hb2 (Nat.le_refl _)).alloc (.cells #[.int .i64 1, .int .i64 0, .bool sgn] 44))
  have q0 : w2.cell? ⟨w.heap.size, 0, none⟩ = some (.int .i64 op) := (Q1.out.below hb2 z1).cell 0
  have q1 : w2.cell? ⟨w.heap.size, 1, none⟩ = some (.int .i64 a) := (Q1.out.below hb2 z1).cell 1
  have q2 : w2.cell? ⟨w.heap.size, 2, none⟩ = some (.int .i64 b) := (Q1.out.below hb2 z1).cell 2
  have q3 : w2.cell? ⟨w.heap.size, 3, none⟩ = some (.int .i64 c) := (Q1.out.below hb2 z1).cell 3
  have q4 : w2.cell? ⟨w.heap.size, 4, none⟩ = some (.int .i64 n) := (Q1.out.below hb2 z1).cell 4
  clear hb2
  go_wp2_with fail
  have hg := Q.out.lt
  have hp := P.out.lt
  generalize w2.heap.size = g5 at *
  generalize w2.alloc (.cells #[.int .i64 1, .int .i64 0, .bool sgn] 44) = W at *
  clear q0 q1 q2 q3 q4
  have q0 : W.cell? ⟨w.heap.size, 0, none⟩ = some (.int .i64 op) := Q.out.cell 0
  have q1 : W.cell? ⟨w.heap.size, 1, none⟩ = some (.int .i64 a) := Q.out.cell 1
  have q2 : W.cell? ⟨w.heap.size, 2, none⟩ = some (.int .i64 b) := Q.out.cell 2
  have q3 : W.cell? ⟨w.heap.size, 3, none⟩ = some (.int .i64 c) := Q.out.cell 3
  have q4 : W.cell? ⟨w.heap.size, 4, none⟩ = some (.int .i64 n) := Q.out.cell 4
  have p0 : W.cell? ⟨g5, 0, none⟩ = some (.int .i64 1) := P.out.cell 0
  have p1 : W.cell? ⟨g5, 1, none⟩ = some (.int .i64 0) := P.out.cell 1
  have C0 := Lib.hid (Below.refl W.heap.size W)
  have O0 := Lib.hid (OwnsS.nil 9 W W.heap.size)
  refine wp_loop_rounds 4 ?_
  rw [rounds_succ]
  go_wp2_with fail
  refine (prefix_any _ _ _).mono ?_
  rintro e w' ⟨rfl, rfl⟩
  go_wp2_with fail
  refine (text_any a _ ha.1 ha.2).mono ?_
  rintro e y1 ⟨rfl, hb1⟩
  have C1 := Lib.hid (C0.out.trans (hb1.mono C0.out.size))
  have O1 := Lib.hid (O0.out.below hb1)
  clear hb1 q0 q1 q2 q3 q4 p0 p1
  have q0 : y1.cell? ⟨w.heap.size, 0, none⟩ = some (.int .i64 op) := (Q.out.below C1.out hg).cell 0
  have q1 : y1.cell? ⟨w.heap.size, 1, none⟩ = some (.int .i64 a) := (Q.out.below C1.out hg).cell 1
  have q2 : y1.cell? ⟨w.heap.size, 2, none⟩ = some (.int .i64 b) := (Q.out.below C1.out hg).cell 2
  have q3 : y1.cell? ⟨w.heap.size, 3, none⟩ = some (.int .i64 c) := (Q.out.below C1.out hg).cell 3
  have q4 : y1.cell? ⟨w.heap.size, 4, none⟩ = some (.int .i64 n) := (Q.out.below C1.out hg).cell 4
  have p0 : y1.cell? ⟨g5, 0, none⟩ = some (.int .i64 1) := (P.out.below C1.out hp).cell 0
  have p1 : y1.cell? ⟨g5, 1, none⟩ = some (.int .i64 0) := (P.out.below C1.out hp).cell 1
  go_wp2_with (at_builtin; refine wpList_append_strs _ rfl (.tmp 36) (.tmp 44) rfl rowStr W.heap.size (.slice none 0 0) (0) _ rfl (O1.out.alloc _) (some ⟨y1.heap.size, 0, none⟩) 1 1 [rt op 0 a] rfl (strs_built 9 y1 [rt op 0 a] _ rfl 1 rfl (by decide) _ rfl) (by omega) (Nat.le_trans C1.out.size (by simp)) ?_; intro v2 y2 ho2 hg2 _; have hb2 : Below W.heap.size y1 y2 := OwnsS.grown_below ((Below.refl _ _).alloc C1.out.size _) (O1.out.alloc _) hg2 (Nat.le_trans C1.out.size (by simp)); have C2 := Lib.hid (C1.out.trans hb2); have O2 := Lib.hid ho2; clear ho2 hg2 hb2 q0 q1 q2 q3 q4 p0 p1; have q0 : y2.cell? ⟨w.heap.size, 0, none⟩ = some (.int .i64 op) := (Q.out.below C2.out hg).cell 0; have q1 : y2.cell? ⟨w.heap.size, 1, none⟩ = some (.int .i64 a) := (Q.out.below C2.out hg).cell 1; have q2 : y2.cell? ⟨w.heap.size, 2, none⟩ = some (.int .i64 b) := (Q.out.below C2.out hg).cell 2; have q3 : y2.cell? ⟨w.heap.size, 3, none⟩ = some (.int .i64 c) := (Q.out.below C2.out hg).cell 3; have q4 : y2.cell? ⟨w.heap.size, 4, none⟩ = some (.int .i64 n) := (Q.out.below C2.out hg).cell 4; have p0 : y2.cell? ⟨g5, 0, none⟩ = some (.int .i64 1) := (P.out.below C2.out hp).cell 0; have p1 : y2.cell? ⟨g5, 1, none⟩ = some (.int .i64 0) := (P.out.below C2.out hp).cell 1; obtain ⟨g2, k2, hv2, hk2, hl2, hc2⟩ := O2.out.big (by omega); subst hv2)
  rw [rounds_succ]
  go_wp2_with fail
  rw [rounds_succ]
  go_wp2_with fail
  rw [rounds_succ]
  go_wp2_with fail
  refine (name_any _ _ (HN2.out.below C2.out (Nat.le_refl _))).mono ?_
  rintro e w' ⟨rfl, rfl⟩
  go_wp2_with fail
  have hjn : Calls Tryd.prog 17 #[.slice (some ⟨g2, 0, none⟩) 1 k2, .string ⟨#[44, 32]⟩] y2 fun e w' => e = .returned (.string (joinS [rt op 0 a])) ∧ Below y2.heap.size y2 w' :=
    Tryd.strings_Join g2 0 k2 [rt op 0 a] ⟨#[44, 32]⟩ _ hc2 hl2 (show 1 ≤ 140737488355328 by decide) hk2 (Nat.le_trans JS.out (by decide))
  clear hc2
  generalize joinS [rt op 0 a] = jz at *
  refine hjn.mono ?_
  rintro e wz ⟨rfl, hbz⟩
  have fin := B2.out.trans ((C2.out.trans (hbz.mono C2.out.size)).mono B2.out.size)
  clear hbz
  go_wp2_with fail
  go_ret2
  exact ⟨congrArg (fun z => Ending.returned (.tuple #[.string z, .int .i64 0])) J.out, fin⟩

set_option maxHeartbeats 8000000 in
set_option maxRecDepth 100000 in
theorem text_11 (op a b c n : Int) (w : World) (hS : ShapesIn w) (hN : NamesIn w) (ha : I64 a) (hb : I64 b) (hc : I64 c) (hn : I64 n) (hk : checkOf op a b c n = 0) (hreg : regsOf (shapeOf op) = 1) (himm : 0 < bitsOf (shapeOf op)) :
    Calls Tryd.prog 5 #[instrV op a b c n] w fun e w' => e = .returned (.tuple #[.string (textOf op a b c n), .int .i64 0]) ∧ Below w.heap.size w w' := by
  have h := (good_of_check hk).1
  have hr : fieldsR op = .tuple #[.agg #[.int .i64 1, .int .i64 (bitsOf (shapeOf op)), .bool (signOf (shapeOf op))], .bool true] := by
    unfold fieldsR fieldsV
    rw [hreg]
    simp [h]
  have hft : fieldTexts op a b c n = [rt op 0 a, nt n] := by
    unfold fieldTexts
    rw [hreg, if_pos himm]
    rfl
  have hC := fun w hs => check_any op a b c n w hs ha hb hc hn
  rw [hk] at hC
  have hj : nameOf op ++ ⟨#[32]⟩ ++ joinS (fieldTexts op a b c n) = textOf op a b c n := by
    unfold textOf
    rw [hft]
    exact join2 _ _ _
  have hjs : (joinS (fieldTexts op a b c n)).size ≤ 101 := joinS_size (k := 2) (name_size op) (by decide) (by rw [hj]; unfold textOf; rw [hft]; rfl)
  rw [hft] at hj hjs
  have J := Lib.hid hj
  have JS := Lib.hid (show (Lib.join (([rt op 0 a, nt n] : List ByteArray).map (·.data.toList)) (⟨#[44, 32]⟩ : ByteArray).data.toList).length ≤ 101 by
    have e : (joinS [rt op 0 a, nt n]).size = (Lib.join (([rt op 0 a, nt n] : List ByteArray).map (·.data.toList)) (⟨#[44, 32]⟩ : ByteArray).data.toList).length := by
      show (List.toArray _).size = _
      simp
    omega)
  clear hj
  have R := Lib.hid hr
  have C := Lib.hid hC
  have HS := Lib.hid hS
  have HN := Lib.hid hN
  have hns := name_size op
  have dm : decide (0 < bitsOf (shapeOf op)) = true := by simpa using himm
  have sa := text_size a
  have hp0 := pfx_size op 0
  have sn := text_size n
  clear hr hC hS hN hk h hreg himm hft
  generalize bitsOf (shapeOf op) = bits at *
  generalize signOf (shapeOf op) = sgn at *
  generalize textOf op a b c n = tx at *
  have i0 : ∀ w, (Instr.index 47 (.agg #[.int .i64 a, .int .i64 b, .int .i64 c]) (.int .i64 0)).run Tryd.prog w = .ok (.int .i64 a) w := fun w =>
    run_index_arr Tryd.underlying47 Tryd.underlying3 (by kernel_rfl) _ 0 _ (by decide) rfl w
  have i1 : ∀ w, (Instr.index 47 (.agg #[.int .i64 a, .int .i64 b, .int .i64 c]) (.int .i64 1)).run Tryd.prog w = .ok (.int .i64 b) w := fun w =>
    run_index_arr Tryd.underlying47 Tryd.underlying3 (by kernel_rfl) _ 1 _ (by decide) rfl w
  have i2 : ∀ w, (Instr.index 47 (.agg #[.int .i64 a, .int .i64 b, .int .i64 c]) (.int .i64 2)).run Tryd.prog w = .ok (.int .i64 c) w := fun w =>
    run_index_arr Tryd.underlying47 Tryd.underlying3 (by kernel_rfl) _ 2 _ (by decide) rfl w
  unfold instrV at *
  go_enter Tryd.func5, Tryd.ntmps5
  go_wp2_with fail
  refine (C.out _ (HS.out.alloc _)).mono ?_
  rintro e w1 ⟨rfl, hb1⟩
  have Q1 := Lib.hid ((Whole.made w 23 #[.int .i64 op, .int .i64 a, .int .i64 b, .int .i64 c, .int .i64 n] _ rfl).below hb1 (by simp))
  have B1 := Lib.hid (((Below.refl _ _).alloc (Nat.le_refl _) _).trans (hb1.mono (show w.heap.size ≤ _ by simp)))
  have HS1 := Lib.hid ((HS.out.alloc _).below hb1 (Nat.le_refl _))
  have HN1 := Lib.hid ((HN.out.alloc _).below hb1 (Nat.le_refl _))
  have z1 : w.heap.size < w1.heap.size := Q1.out.lt
  have q0 : w1.cell? ⟨w.heap.size, 0, none⟩ = some (.int .i64 op) := Q1.out.cell 0
  clear hb1
  go_wp2_with fail
  refine (fieldsOf_any _ _ HS1.out).mono ?_
  rintro e w2 ⟨rfl, hb2⟩
  rw [R.out]
  clear q0
  have Q := Lib.hid ((Q1.out.below hb2 z1).alloc (.cells #[.int .i64 1, .int .i64 bits, .bool sgn] 44))
  have z2 : w.heap.size < w2.heap.size := (Q1.out.below hb2 z1).lt
  have P := Lib.hid (Whole.made w2 44 #[.int .i64 1, .int .i64 bits, .bool sgn] _ rfl)
  have B2 := Lib.hid ((B1.out.trans (hb2.mono (Nat.le_of_lt z1))).alloc (Nat.le_of_lt z2) (.cells #[.int .i64 1, .int .i64 bits, .bool sgn] 44))
  have HN2 := Lib.hid ((HN1.out.below hb2 (Nat.le_refl _)).alloc (.cells #[.int .i64 1, .int .i64 bits, .bool sgn] 44))
  have q0 : w2.cell? ⟨w.heap.size, 0, none⟩ = some (.int .i64 op) := (Q1.out.below hb2 z1).cell 0
  have q1 : w2.cell? ⟨w.heap.size, 1, none⟩ = some (.int .i64 a) := (Q1.out.below hb2 z1).cell 1
  have q2 : w2.cell? ⟨w.heap.size, 2, none⟩ = some (.int .i64 b) := (Q1.out.below hb2 z1).cell 2
  have q3 : w2.cell? ⟨w.heap.size, 3, none⟩ = some (.int .i64 c) := (Q1.out.below hb2 z1).cell 3
  have q4 : w2.cell? ⟨w.heap.size, 4, none⟩ = some (.int .i64 n) := (Q1.out.below hb2 z1).cell 4
  clear hb2
  go_wp2_with fail
  have hg := Q.out.lt
  have hp := P.out.lt
  generalize w2.heap.size = g5 at *
  generalize w2.alloc (.cells #[.int .i64 1, .int .i64 bits, .bool sgn] 44) = W at *
  clear q0 q1 q2 q3 q4
  have q0 : W.cell? ⟨w.heap.size, 0, none⟩ = some (.int .i64 op) := Q.out.cell 0
  have q1 : W.cell? ⟨w.heap.size, 1, none⟩ = some (.int .i64 a) := Q.out.cell 1
  have q2 : W.cell? ⟨w.heap.size, 2, none⟩ = some (.int .i64 b) := Q.out.cell 2
  have q3 : W.cell? ⟨w.heap.size, 3, none⟩ = some (.int .i64 c) := Q.out.cell 3
  have q4 : W.cell? ⟨w.heap.size, 4, none⟩ = some (.int .i64 n) := Q.out.cell 4
  have p0 : W.cell? ⟨g5, 0, none⟩ = some (.int .i64 1) := P.out.cell 0
  have p1 : W.cell? ⟨g5, 1, none⟩ = some (.int .i64 bits) := P.out.cell 1
  have C0 := Lib.hid (Below.refl W.heap.size W)
  have O0 := Lib.hid (OwnsS.nil 9 W W.heap.size)
  refine wp_loop_rounds 4 ?_
  rw [rounds_succ]
  go_wp2_with fail
  refine (prefix_any _ _ _).mono ?_
  rintro e w' ⟨rfl, rfl⟩
  go_wp2_with fail
  refine (text_any a _ ha.1 ha.2).mono ?_
  rintro e y1 ⟨rfl, hb1⟩
  have C1 := Lib.hid (C0.out.trans (hb1.mono C0.out.size))
  have O1 := Lib.hid (O0.out.below hb1)
  clear hb1 q0 q1 q2 q3 q4 p0 p1
  have q0 : y1.cell? ⟨w.heap.size, 0, none⟩ = some (.int .i64 op) := (Q.out.below C1.out hg).cell 0
  have q1 : y1.cell? ⟨w.heap.size, 1, none⟩ = some (.int .i64 a) := (Q.out.below C1.out hg).cell 1
  have q2 : y1.cell? ⟨w.heap.size, 2, none⟩ = some (.int .i64 b) := (Q.out.below C1.out hg).cell 2
  have q3 : y1.cell? ⟨w.heap.size, 3, none⟩ = some (.int .i64 c) := (Q.out.below C1.out hg).cell 3
  have q4 : y1.cell? ⟨w.heap.size, 4, none⟩ = some (.int .i64 n) := (Q.out.below C1.out hg).cell 4
  have p0 : y1.cell? ⟨g5, 0, none⟩ = some (.int .i64 1) := (P.out.below C1.out hp).cell 0
  have p1 : y1.cell? ⟨g5, 1, none⟩ = some (.int .i64 bits) := (P.out.below C1.out hp).cell 1
  go_wp2_with (at_builtin; refine wpList_append_strs _ rfl (.tmp 36) (.tmp 44) rfl rowStr W.heap.size (.slice none 0 0) (0) _ rfl (O1.out.alloc _) (some ⟨y1.heap.size, 0, none⟩) 1 1 [rt op 0 a] rfl (strs_built 9 y1 [rt op 0 a] _ rfl 1 rfl (by decide) _ rfl) (by omega) (Nat.le_trans C1.out.size (by simp)) ?_; intro v2 y2 ho2 hg2 _; have hb2 : Below W.heap.size y1 y2 := OwnsS.grown_below ((Below.refl _ _).alloc C1.out.size _) (O1.out.alloc _) hg2 (Nat.le_trans C1.out.size (by simp)); have C2 := Lib.hid (C1.out.trans hb2); have O2 := Lib.hid ho2; clear ho2 hg2 hb2 q0 q1 q2 q3 q4 p0 p1; have q0 : y2.cell? ⟨w.heap.size, 0, none⟩ = some (.int .i64 op) := (Q.out.below C2.out hg).cell 0; have q1 : y2.cell? ⟨w.heap.size, 1, none⟩ = some (.int .i64 a) := (Q.out.below C2.out hg).cell 1; have q2 : y2.cell? ⟨w.heap.size, 2, none⟩ = some (.int .i64 b) := (Q.out.below C2.out hg).cell 2; have q3 : y2.cell? ⟨w.heap.size, 3, none⟩ = some (.int .i64 c) := (Q.out.below C2.out hg).cell 3; have q4 : y2.cell? ⟨w.heap.size, 4, none⟩ = some (.int .i64 n) := (Q.out.below C2.out hg).cell 4; have p0 : y2.cell? ⟨g5, 0, none⟩ = some (.int .i64 1) := (P.out.below C2.out hp).cell 0; have p1 : y2.cell? ⟨g5, 1, none⟩ = some (.int .i64 bits) := (P.out.below C2.out hp).cell 1)
  rw [rounds_succ]
  go_wp2_with fail
  rw [rounds_succ]
  go_wp2_with fail
  rw [rounds_succ]
  go_wp2_with fail
  refine (text_any n _ hn.1 hn.2).mono ?_
  rintro e y3 ⟨rfl, hb3⟩
  have C3 := Lib.hid (C2.out.trans (hb3.mono C2.out.size))
  have O3 := Lib.hid (O2.out.below hb3)
  clear hb3 q0 q1 q2 q3 q4 p0 p1
  have q0 : y3.cell? ⟨w.heap.size, 0, none⟩ = some (.int .i64 op) := (Q.out.below C3.out hg).cell 0
  have q1 : y3.cell? ⟨w.heap.size, 1, none⟩ = some (.int .i64 a) := (Q.out.below C3.out hg).cell 1
  have q2 : y3.cell? ⟨w.heap.size, 2, none⟩ = some (.int .i64 b) := (Q.out.below C3.out hg).cell 2
  have q3 : y3.cell? ⟨w.heap.size, 3, none⟩ = some (.int .i64 c) := (Q.out.below C3.out hg).cell 3
  have q4 : y3.cell? ⟨w.heap.size, 4, none⟩ = some (.int .i64 n) := (Q.out.below C3.out hg).cell 4
  have p0 : y3.cell? ⟨g5, 0, none⟩ = some (.int .i64 1) := (P.out.below C3.out hp).cell 0
  have p1 : y3.cell? ⟨g5, 1, none⟩ = some (.int .i64 bits) := (P.out.below C3.out hp).cell 1
  go_wp2_with (at_builtin; refine wpList_append_strs _ rfl (.tmp 50) (.tmp 54) rfl rowStr W.heap.size v2 (0 + 1) _ rfl (O3.out.alloc _) (some ⟨y3.heap.size, 0, none⟩) 1 1 [nt n] rfl (strs_built 9 y3 [nt n] _ rfl 1 rfl (by decide) _ rfl) (by omega) (Nat.le_trans C3.out.size (by simp)) ?_; intro v4 y4 ho4 hg4 _; have hb4 : Below W.heap.size y3 y4 := OwnsS.grown_below ((Below.refl _ _).alloc C3.out.size _) (O3.out.alloc _) hg4 (Nat.le_trans C3.out.size (by simp)); have C4 := Lib.hid (C3.out.trans hb4); have O4 := Lib.hid ho4; clear ho4 hg4 hb4 q0 q1 q2 q3 q4 p0 p1; have q0 : y4.cell? ⟨w.heap.size, 0, none⟩ = some (.int .i64 op) := (Q.out.below C4.out hg).cell 0; have q1 : y4.cell? ⟨w.heap.size, 1, none⟩ = some (.int .i64 a) := (Q.out.below C4.out hg).cell 1; have q2 : y4.cell? ⟨w.heap.size, 2, none⟩ = some (.int .i64 b) := (Q.out.below C4.out hg).cell 2; have q3 : y4.cell? ⟨w.heap.size, 3, none⟩ = some (.int .i64 c) := (Q.out.below C4.out hg).cell 3; have q4 : y4.cell? ⟨w.heap.size, 4, none⟩ = some (.int .i64 n) := (Q.out.below C4.out hg).cell 4; have p0 : y4.cell? ⟨g5, 0, none⟩ = some (.int .i64 1) := (P.out.below C4.out hp).cell 0; have p1 : y4.cell? ⟨g5, 1, none⟩ = some (.int .i64 bits) := (P.out.below C4.out hp).cell 1; obtain ⟨g4, k4, hv4, hk4, hl4, hc4⟩ := O4.out.big (by omega); subst hv4)
  go_wp2_with fail
  refine (name_any _ _ (HN2.out.below C4.out (Nat.le_refl _))).mono ?_
  rintro e w' ⟨rfl, rfl⟩
  go_wp2_with fail
  have hjn : Calls Tryd.prog 17 #[.slice (some ⟨g4, 0, none⟩) 2 k4, .string ⟨#[44, 32]⟩] y4 fun e w' => e = .returned (.string (joinS [rt op 0 a, nt n])) ∧ Below y4.heap.size y4 w' :=
    Tryd.strings_Join g4 0 k4 [rt op 0 a, nt n] ⟨#[44, 32]⟩ _ hc4 hl4 (show 2 ≤ 140737488355328 by decide) hk4 (Nat.le_trans JS.out (by decide))
  clear hc4
  generalize joinS [rt op 0 a, nt n] = jz at *
  refine hjn.mono ?_
  rintro e wz ⟨rfl, hbz⟩
  have fin := B2.out.trans ((C4.out.trans (hbz.mono C4.out.size)).mono B2.out.size)
  clear hbz
  go_wp2_with fail
  go_ret2
  exact ⟨congrArg (fun z => Ending.returned (.tuple #[.string z, .int .i64 0])) J.out, fin⟩
end Go.Proofs.YtpjckkcljbnkiaaDoor

/- Package instr: Text, by how many registers and whether there is a number: part 1. -/
namespace Go.Proofs.YtpjckkcljbnkiaaDoor
open Go.ChangeShapes Go.WideShapes Go.ChangeAt Go.RowKit
set_option linter.unusedVariables false

set_option maxHeartbeats 8000000 in
set_option maxRecDepth 100000 in
theorem text_21 (op a b c n : Int) (w : World) (hS : ShapesIn w) (hN : NamesIn w) (ha : I64 a) (hb : I64 b) (hc : I64 c) (hn : I64 n) (hk : checkOf op a b c n = 0) (hreg : regsOf (shapeOf op) = 2) (himm : 0 < bitsOf (shapeOf op)) :
    Calls Tryd.prog 5 #[instrV op a b c n] w fun e w' => e = .returned (.tuple #[.string (textOf op a b c n), .int .i64 0]) ∧ Below w.heap.size w w' := by
  have h := (good_of_check hk).1
  have hr : fieldsR op = .tuple #[.agg #[.int .i64 2, .int .i64 (bitsOf (shapeOf op)), .bool (signOf (shapeOf op))], .bool true] := by
    unfold fieldsR fieldsV
    rw [hreg]
    simp [h]
  have hft : fieldTexts op a b c n = [rt op 0 a, rt op 1 b, nt n] := by
    unfold fieldTexts
    rw [hreg, if_pos himm]
    rfl
  have hC := fun w hs => check_any op a b c n w hs ha hb hc hn
  rw [hk] at hC
  have hj : nameOf op ++ ⟨#[32]⟩ ++ joinS (fieldTexts op a b c n) = textOf op a b c n := by
    unfold textOf
    rw [hft]
    exact join3 _ _ _ _
  have hjs : (joinS (fieldTexts op a b c n)).size ≤ 101 := joinS_size (k := 3) (name_size op) (by decide) (by rw [hj]; unfold textOf; rw [hft]; rfl)
  rw [hft] at hj hjs
  have J := Lib.hid hj
  have JS := Lib.hid (show (Lib.join (([rt op 0 a, rt op 1 b, nt n] : List ByteArray).map (·.data.toList)) (⟨#[44, 32]⟩ : ByteArray).data.toList).length ≤ 101 by
    have e : (joinS [rt op 0 a, rt op 1 b, nt n]).size = (Lib.join (([rt op 0 a, rt op 1 b, nt n] : List ByteArray).map (·.data.toList)) (⟨#[44, 32]⟩ : ByteArray).data.toList).length := by
      show (List.toArray _).size = _
      simp
    omega)
  clear hj
  have R := Lib.hid hr
  have C := Lib.hid hC
  have HS := Lib.hid hS
  have HN := Lib.hid hN
  have hns := name_size op
  have dm : decide (0 < bitsOf (shapeOf op)) = true := by simpa using himm
  have sa := text_size a
  have hp0 := pfx_size op 0
  have sb := text_size b
  have hp1 := pfx_size op 1
  have sn := text_size n
  clear hr hC hS hN hk h hreg himm hft
  generalize bitsOf (shapeOf op) = bits at *
  generalize signOf (shapeOf op) = sgn at *
  generalize textOf op a b c n = tx at *
  have i0 : ∀ w, (Instr.index 47 (.agg #[.int .i64 a, .int .i64 b, .int .i64 c]) (.int .i64 0)).run Tryd.prog w = .ok (.int .i64 a) w := fun w =>
    run_index_arr Tryd.underlying47 Tryd.underlying3 (by kernel_rfl) _ 0 _ (by decide) rfl w
  have i1 : ∀ w, (Instr.index 47 (.agg #[.int .i64 a, .int .i64 b, .int .i64 c]) (.int .i64 1)).run Tryd.prog w = .ok (.int .i64 b) w := fun w =>
    run_index_arr Tryd.underlying47 Tryd.underlying3 (by kernel_rfl) _ 1 _ (by decide) rfl w
  have i2 : ∀ w, (Instr.index 47 (.agg #[.int .i64 a, .int .i64 b, .int .i64 c]) (.int .i64 2)).run Tryd.prog w = .ok (.int .i64 c) w := fun w =>
    run_index_arr Tryd.underlying47 Tryd.underlying3 (by kernel_rfl) _ 2 _ (by decide) rfl w
  unfold instrV at *
  go_enter Tryd.func5, Tryd.ntmps5
  go_wp2_with fail
  refine (C.out _ (HS.out.alloc _)).mono ?_
  rintro e w1 ⟨rfl, hb1⟩
  have Q1 := Lib.hid ((Whole.made w 23 #[.int .i64 op, .int .i64 a, .int .i64 b, .int .i64 c, .int .i64 n] _ rfl).below hb1 (by simp))
  have B1 := Lib.hid (((Below.refl _ _).alloc (Nat.le_refl _) _).trans (hb1.mono (show w.heap.size ≤ _ by simp)))
  have HS1 := Lib.hid ((HS.out.alloc _).below hb1 (Nat.le_refl _))
  have HN1 := Lib.hid ((HN.out.alloc _).below hb1 (Nat.le_refl _))
  have z1 : w.heap.size < w1.heap.size := Q1.out.lt
  have q0 : w1.cell? ⟨w.heap.size, 0, none⟩ = some (.int .i64 op) := Q1.out.cell 0
  clear hb1
  go_wp2_with fail
  refine (fieldsOf_any _ _ HS1.out).mono ?_
  rintro e w2 ⟨rfl, hb2⟩
  rw [R.out]
  clear q0
  have Q := Lib.hid ((Q1.out.below hb2 z1).alloc (.cells #[.int .i64 2, .int .i64 bits, .bool sgn] 44))
  have z2 : w.heap.size < w2.heap.size := (Q1.out.below hb2 z1).lt
  have P := Lib.hid (Whole.made w2 44 #[.int .i64 2, .int .i64 bits, .bool sgn] _ rfl)
  have B2 := Lib.hid ((B1.out.trans (hb2.mono (Nat.le_of_lt z1))).alloc (Nat.le_of_lt z2) (.cells #[.int .i64 2, .int .i64 bits, .bool sgn] 44))
  have HN2 := Lib.hid ((HN1.out.below hb2 (Nat.le_refl _)).alloc (.cells #[.int .i64 2, .int .i64 bits, .bool sgn] 44))
  have q0 : w2.cell? ⟨w.heap.size, 0, none⟩ = some (.int .i64 op) := (Q1.out.below hb2 z1).cell 0
  have q1 : w2.cell? ⟨w.heap.size, 1, none⟩ = some (.int .i64 a) := (Q1.out.below hb2 z1).cell 1
  have q2 : w2.cell? ⟨w.heap.size, 2, none⟩ = some (.int .i64 b) := (Q1.out.below hb2 z1).cell 2
  have q3 : w2.cell? ⟨w.heap.size, 3, none⟩ = some (.int .i64 c) := (Q1.out.below hb2 z1).cell 3
  have q4 : w2.cell? ⟨w.heap.size, 4, none⟩ = some (.int .i64 n) := (Q1.out.below hb2 z1).cell 4
  clear hb2
  go_wp2_with fail
  have hg := Q.out.lt
  have hp := P.out.lt
  generalize w2.heap.size = g5 at *
  generalize w2.alloc (.cells #[.int .i64 2, .int .i64 bits, .bool sgn] 44) = W at *
  clear q0 q1 q2 q3 q4
  have q0 : W.cell? ⟨w.heap.size, 0, none⟩ = some (.int .i64 op) := Q.out.cell 0
  have q1 : W.cell? ⟨w.heap.size, 1, none⟩ = some (.int .i64 a) := Q.out.cell 1
  have q2 : W.cell? ⟨w.heap.size, 2, none⟩ = some (.int .i64 b) := Q.out.cell 2
  have q3 : W.cell? ⟨w.heap.size, 3, none⟩ = some (.int .i64 c) := Q.out.cell 3
  have q4 : W.cell? ⟨w.heap.size, 4, none⟩ = some (.int .i64 n) := Q.out.cell 4
  have p0 : W.cell? ⟨g5, 0, none⟩ = some (.int .i64 2) := P.out.cell 0
  have p1 : W.cell? ⟨g5, 1, none⟩ = some (.int .i64 bits) := P.out.cell 1
  have C0 := Lib.hid (Below.refl W.heap.size W)
  have O0 := Lib.hid (OwnsS.nil 9 W W.heap.size)
  refine wp_loop_rounds 4 ?_
  rw [rounds_succ]
  go_wp2_with fail
  refine (prefix_any _ _ _).mono ?_
  rintro e w' ⟨rfl, rfl⟩
  go_wp2_with fail
  refine (text_any a _ ha.1 ha.2).mono ?_
  rintro e y1 ⟨rfl, hb1⟩
  have C1 := Lib.hid (C0.out.trans (hb1.mono C0.out.size))
  have O1 := Lib.hid (O0.out.below hb1)
  clear hb1 q0 q1 q2 q3 q4 p0 p1
  have q0 : y1.cell? ⟨w.heap.size, 0, none⟩ = some (.int .i64 op) := (Q.out.below C1.out hg).cell 0
  have q1 : y1.cell? ⟨w.heap.size, 1, none⟩ = some (.int .i64 a) := (Q.out.below C1.out hg).cell 1
  have q2 : y1.cell? ⟨w.heap.size, 2, none⟩ = some (.int .i64 b) := (Q.out.below C1.out hg).cell 2
  have q3 : y1.cell? ⟨w.heap.size, 3, none⟩ = some (.int .i64 c) := (Q.out.below C1.out hg).cell 3
  have q4 : y1.cell? ⟨w.heap.size, 4, none⟩ = some (.int .i64 n) := (Q.out.below C1.out hg).cell 4
  have p0 : y1.cell? ⟨g5, 0, none⟩ = some (.int .i64 2) := (P.out.below C1.out hp).cell 0
  have p1 : y1.cell? ⟨g5, 1, none⟩ = some (.int .i64 bits) := (P.out.below C1.out hp).cell 1
  go_wp2_with (at_builtin; refine wpList_append_strs _ rfl (.tmp 36) (.tmp 44) rfl rowStr W.heap.size (.slice none 0 0) (0) _ rfl (O1.out.alloc _) (some ⟨y1.heap.size, 0, none⟩) 1 1 [rt op 0 a] rfl (strs_built 9 y1 [rt op 0 a] _ rfl 1 rfl (by decide) _ rfl) (by omega) (Nat.le_trans C1.out.size (by simp)) ?_; intro v2 y2 ho2 hg2 _; have hb2 : Below W.heap.size y1 y2 := OwnsS.grown_below ((Below.refl _ _).alloc C1.out.size _) (O1.out.alloc _) hg2 (Nat.le_trans C1.out.size (by simp)); have C2 := Lib.hid (C1.out.trans hb2); have O2 := Lib.hid ho2; clear ho2 hg2 hb2 q0 q1 q2 q3 q4 p0 p1; have q0 : y2.cell? ⟨w.heap.size, 0, none⟩ = some (.int .i64 op) := (Q.out.below C2.out hg).cell 0; have q1 : y2.cell? ⟨w.heap.size, 1, none⟩ = some (.int .i64 a) := (Q.out.below C2.out hg).cell 1; have q2 : y2.cell? ⟨w.heap.size, 2, none⟩ = some (.int .i64 b) := (Q.out.below C2.out hg).cell 2; have q3 : y2.cell? ⟨w.heap.size, 3, none⟩ = some (.int .i64 c) := (Q.out.below C2.out hg).cell 3; have q4 : y2.cell? ⟨w.heap.size, 4, none⟩ = some (.int .i64 n) := (Q.out.below C2.out hg).cell 4; have p0 : y2.cell? ⟨g5, 0, none⟩ = some (.int .i64 2) := (P.out.below C2.out hp).cell 0; have p1 : y2.cell? ⟨g5, 1, none⟩ = some (.int .i64 bits) := (P.out.below C2.out hp).cell 1)
  rw [rounds_succ]
  go_wp2_with fail
  refine (prefix_any _ _ _).mono ?_
  rintro e w' ⟨rfl, rfl⟩
  go_wp2_with fail
  refine (text_any b _ hb.1 hb.2).mono ?_
  rintro e y3 ⟨rfl, hb3⟩
  have C3 := Lib.hid (C2.out.trans (hb3.mono C2.out.size))
  have O3 := Lib.hid (O2.out.below hb3)
  clear hb3 q0 q1 q2 q3 q4 p0 p1
  have q0 : y3.cell? ⟨w.heap.size, 0, none⟩ = some (.int .i64 op) := (Q.out.below C3.out hg).cell 0
  have q1 : y3.cell? ⟨w.heap.size, 1, none⟩ = some (.int .i64 a) := (Q.out.below C3.out hg).cell 1
  have q2 : y3.cell? ⟨w.heap.size, 2, none⟩ = some (.int .i64 b) := (Q.out.below C3.out hg).cell 2
  have q3 : y3.cell? ⟨w.heap.size, 3, none⟩ = some (.int .i64 c) := (Q.out.below C3.out hg).cell 3
  have q4 : y3.cell? ⟨w.heap.size, 4, none⟩ = some (.int .i64 n) := (Q.out.below C3.out hg).cell 4
  have p0 : y3.cell? ⟨g5, 0, none⟩ = some (.int .i64 2) := (P.out.below C3.out hp).cell 0
  have p1 : y3.cell? ⟨g5, 1, none⟩ = some (.int .i64 bits) := (P.out.below C3.out hp).cell 1
  go_wp2_with (at_builtin; refine wpList_append_strs _ rfl (.tmp 36) (.tmp 44) rfl rowStr W.heap.size v2 (0 + 1) _ rfl (O3.out.alloc _) (some ⟨y3.heap.size, 0, none⟩) 1 1 [rt op 1 b] rfl (strs_built 9 y3 [rt op 1 b] _ rfl 1 rfl (by decide) _ rfl) (by omega) (Nat.le_trans C3.out.size (by simp)) ?_; intro v4 y4 ho4 hg4 _; have hb4 : Below W.heap.size y3 y4 := OwnsS.grown_below ((Below.refl _ _).alloc C3.out.size _) (O3.out.alloc _) hg4 (Nat.le_trans C3.out.size (by simp)); have C4 := Lib.hid (C3.out.trans hb4); have O4 := Lib.hid ho4; clear ho4 hg4 hb4 q0 q1 q2 q3 q4 p0 p1; have q0 : y4.cell? ⟨w.heap.size, 0, none⟩ = some (.int .i64 op) := (Q.out.below C4.out hg).cell 0; have q1 : y4.cell? ⟨w.heap.size, 1, none⟩ = some (.int .i64 a) := (Q.out.below C4.out hg).cell 1; have q2 : y4.cell? ⟨w.heap.size, 2, none⟩ = some (.int .i64 b) := (Q.out.below C4.out hg).cell 2; have q3 : y4.cell? ⟨w.heap.size, 3, none⟩ = some (.int .i64 c) := (Q.out.below C4.out hg).cell 3; have q4 : y4.cell? ⟨w.heap.size, 4, none⟩ = some (.int .i64 n) := (Q.out.below C4.out hg).cell 4; have p0 : y4.cell? ⟨g5, 0, none⟩ = some (.int .i64 2) := (P.out.below C4.out hp).cell 0; have p1 : y4.cell? ⟨g5, 1, none⟩ = some (.int .i64 bits) := (P.out.below C4.out hp).cell 1)
  rw [rounds_succ]
  go_wp2_with fail
  rw [rounds_succ]
  go_wp2_with fail
  refine (text_any n _ hn.1 hn.2).mono ?_
  rintro e y5 ⟨rfl, hb5⟩
  have C5 := Lib.hid (C4.out.trans (hb5.mono C4.out.size))
  have O5 := Lib.hid (O4.out.below hb5)
  clear hb5 q0 q1 q2 q3 q4 p0 p1
  have q0 : y5.cell? ⟨w.heap.size, 0, none⟩ = some (.int .i64 op) := (Q.out.below C5.out hg).cell 0
  have q1 : y5.cell? ⟨w.heap.size, 1, none⟩ = some (.int .i64 a) := (Q.out.below C5.out hg).cell 1
  have q2 : y5.cell? ⟨w.heap.size, 2, none⟩ = some (.int .i64 b) := (Q.out.below C5.out hg).cell 2
  have q3 : y5.cell? ⟨w.heap.size, 3, none⟩ = some (.int .i64 c) := (Q.out.below C5.out hg).cell 3
  have q4 : y5.cell? ⟨w.heap.size, 4, none⟩ = some (.int .i64 n) := (Q.out.below C5.out hg).cell 4
  have p0 : y5.cell? ⟨g5, 0, none⟩ = some (.int .i64 2) := (P.out.below C5.out hp).cell 0
  have p1 : y5.cell? ⟨g5, 1, none⟩ = some (.int .i64 bits) := (P.out.below C5.out hp).cell 1
  go_wp2_with (at_builtin; refine wpList_append_strs _ rfl (.tmp 50) (.tmp 54) rfl rowStr W.heap.size v4 (0 + 1 + 1) _ rfl (O5.out.alloc _) (some ⟨y5.heap.size, 0, none⟩) 1 1 [nt n] rfl (strs_built 9 y5 [nt n] _ rfl 1 rfl (by decide) _ rfl) (by omega) (Nat.le_trans C5.out.size (by simp)) ?_; intro v6 y6 ho6 hg6 _; have hb6 : Below W.heap.size y5 y6 := OwnsS.grown_below ((Below.refl _ _).alloc C5.out.size _) (O5.out.alloc _) hg6 (Nat.le_trans C5.out.size (by simp)); have C6 := Lib.hid (C5.out.trans hb6); have O6 := Lib.hid ho6; clear ho6 hg6 hb6 q0 q1 q2 q3 q4 p0 p1; have q0 : y6.cell? ⟨w.heap.size, 0, none⟩ = some (.int .i64 op) := (Q.out.below C6.out hg).cell 0; have q1 : y6.cell? ⟨w.heap.size, 1, none⟩ = some (.int .i64 a) := (Q.out.below C6.out hg).cell 1; have q2 : y6.cell? ⟨w.heap.size, 2, none⟩ = some (.int .i64 b) := (Q.out.below C6.out hg).cell 2; have q3 : y6.cell? ⟨w.heap.size, 3, none⟩ = some (.int .i64 c) := (Q.out.below C6.out hg).cell 3; have q4 : y6.cell? ⟨w.heap.size, 4, none⟩ = some (.int .i64 n) := (Q.out.below C6.out hg).cell 4; have p0 : y6.cell? ⟨g5, 0, none⟩ = some (.int .i64 2) := (P.out.below C6.out hp).cell 0; have p1 : y6.cell? ⟨g5, 1, none⟩ = some (.int .i64 bits) := (P.out.below C6.out hp).cell 1; obtain ⟨g6, k6, hv6, hk6, hl6, hc6⟩ := O6.out.big (by omega); subst hv6)
  go_wp2_with fail
  refine (name_any _ _ (HN2.out.below C6.out (Nat.le_refl _))).mono ?_
  rintro e w' ⟨rfl, rfl⟩
  go_wp2_with fail
  have hjn : Calls Tryd.prog 17 #[.slice (some ⟨g6, 0, none⟩) 3 k6, .string ⟨#[44, 32]⟩] y6 fun e w' => e = .returned (.string (joinS [rt op 0 a, rt op 1 b, nt n])) ∧ Below y6.heap.size y6 w' :=
    Tryd.strings_Join g6 0 k6 [rt op 0 a, rt op 1 b, nt n] ⟨#[44, 32]⟩ _ hc6 hl6 (show 3 ≤ 140737488355328 by decide) hk6 (Nat.le_trans JS.out (by decide))
  clear hc6
  generalize joinS [rt op 0 a, rt op 1 b, nt n] = jz at *
  refine hjn.mono ?_
  rintro e wz ⟨rfl, hbz⟩
  have fin := B2.out.trans ((C6.out.trans (hbz.mono C6.out.size)).mono B2.out.size)
  clear hbz
  go_wp2_with fail
  go_ret2
  exact ⟨congrArg (fun z => Ending.returned (.tuple #[.string z, .int .i64 0])) J.out, fin⟩

set_option maxHeartbeats 8000000 in
set_option maxRecDepth 100000 in
theorem text_30 (op a b c n : Int) (w : World) (hS : ShapesIn w) (hN : NamesIn w) (ha : I64 a) (hb : I64 b) (hc : I64 c) (hn : I64 n) (hk : checkOf op a b c n = 0) (hreg : regsOf (shapeOf op) = 3) (himm : bitsOf (shapeOf op) = 0) :
    Calls Tryd.prog 5 #[instrV op a b c n] w fun e w' => e = .returned (.tuple #[.string (textOf op a b c n), .int .i64 0]) ∧ Below w.heap.size w w' := by
  have h := (good_of_check hk).1
  have hr : fieldsR op = .tuple #[.agg #[.int .i64 3, .int .i64 0, .bool (signOf (shapeOf op))], .bool true] := by
    unfold fieldsR fieldsV
    rw [hreg, himm]
    simp [h]
  have hft : fieldTexts op a b c n = [rt op 0 a, rt op 1 b, rt op 2 c] := by
    unfold fieldTexts
    rw [hreg, himm]
    rfl
  have hC := fun w hs => check_any op a b c n w hs ha hb hc hn
  rw [hk] at hC
  have hj : nameOf op ++ ⟨#[32]⟩ ++ joinS (fieldTexts op a b c n) = textOf op a b c n := by
    unfold textOf
    rw [hft]
    exact join3 _ _ _ _
  have hjs : (joinS (fieldTexts op a b c n)).size ≤ 101 := joinS_size (k := 3) (name_size op) (by decide) (by rw [hj]; unfold textOf; rw [hft]; rfl)
  rw [hft] at hj hjs
  have J := Lib.hid hj
  have JS := Lib.hid (show (Lib.join (([rt op 0 a, rt op 1 b, rt op 2 c] : List ByteArray).map (·.data.toList)) (⟨#[44, 32]⟩ : ByteArray).data.toList).length ≤ 101 by
    have e : (joinS [rt op 0 a, rt op 1 b, rt op 2 c]).size = (Lib.join (([rt op 0 a, rt op 1 b, rt op 2 c] : List ByteArray).map (·.data.toList)) (⟨#[44, 32]⟩ : ByteArray).data.toList).length := by
      show (List.toArray _).size = _
      simp
    omega)
  clear hj
  have R := Lib.hid hr
  have C := Lib.hid hC
  have HS := Lib.hid hS
  have HN := Lib.hid hN
  have hns := name_size op
  have sa := text_size a
  have hp0 := pfx_size op 0
  have sb := text_size b
  have hp1 := pfx_size op 1
  have sc := text_size c
  have hp2 := pfx_size op 2
  clear hr hC hS hN hk h hreg himm hft
  generalize signOf (shapeOf op) = sgn at *
  generalize textOf op a b c n = tx at *
  have i0 : ∀ w, (Instr.index 47 (.agg #[.int .i64 a, .int .i64 b, .int .i64 c]) (.int .i64 0)).run Tryd.prog w = .ok (.int .i64 a) w := fun w =>
    run_index_arr Tryd.underlying47 Tryd.underlying3 (by kernel_rfl) _ 0 _ (by decide) rfl w
  have i1 : ∀ w, (Instr.index 47 (.agg #[.int .i64 a, .int .i64 b, .int .i64 c]) (.int .i64 1)).run Tryd.prog w = .ok (.int .i64 b) w := fun w =>
    run_index_arr Tryd.underlying47 Tryd.underlying3 (by kernel_rfl) _ 1 _ (by decide) rfl w
  have i2 : ∀ w, (Instr.index 47 (.agg #[.int .i64 a, .int .i64 b, .int .i64 c]) (.int .i64 2)).run Tryd.prog w = .ok (.int .i64 c) w := fun w =>
    run_index_arr Tryd.underlying47 Tryd.underlying3 (by kernel_rfl) _ 2 _ (by decide) rfl w
  unfold instrV at *
  go_enter Tryd.func5, Tryd.ntmps5
  go_wp2_with fail
  refine (C.out _ (HS.out.alloc _)).mono ?_
  rintro e w1 ⟨rfl, hb1⟩
  have Q1 := Lib.hid ((Whole.made w 23 #[.int .i64 op, .int .i64 a, .int .i64 b, .int .i64 c, .int .i64 n] _ rfl).below hb1 (by simp))
  have B1 := Lib.hid (((Below.refl _ _).alloc (Nat.le_refl _) _).trans (hb1.mono (show w.heap.size ≤ _ by simp)))
  have HS1 := Lib.hid ((HS.out.alloc _).below hb1 (Nat.le_refl _))
  have HN1 := Lib.hid ((HN.out.alloc _).below hb1 (Nat.le_refl _))
  have z1 : w.heap.size < w1.heap.size := Q1.out.lt
  have q0 : w1.cell? ⟨w.heap.size, 0, none⟩ = some (.int .i64 op) := Q1.out.cell 0
  clear hb1
  go_wp2_with fail
  refine (fieldsOf_any _ _ HS1.out).mono ?_
  rintro e w2 ⟨rfl, hb2⟩
  rw [R.out]
  clear q0
  have Q := Lib.hid ((Q1.out.below hb2 z1).alloc (.cells #[.int .i64 3, .int .i64 0, .bool sgn] 44))
  have z2 : w.heap.size < w2.heap.size := (Q1.out.below hb2 z1).lt
  have P := Lib.hid (Whole.made w2 44 #[.int .i64 3, .int .i64 0, .bool sgn] _ rfl)
  have B2 := Lib.hid ((B1.out.trans (hb2.mono (Nat.le_of_lt z1))).alloc (Nat.le_of_lt z2) (.cells #[.int .i64 3, .int .i64 0, .bool sgn] 44))
  have HN2 := Lib.hid ((HN1.out.below hb2 (Nat.le_refl _)).alloc (.cells #[.int .i64 3, .int .i64 0, .bool sgn] 44))
  have q0 : w2.cell? ⟨w.heap.size, 0, none⟩ = some (.int .i64 op) := (Q1.out.below hb2 z1).cell 0
  have q1 : w2.cell? ⟨w.heap.size, 1, none⟩ = some (.int .i64 a) := (Q1.out.below hb2 z1).cell 1
  have q2 : w2.cell? ⟨w.heap.size, 2, none⟩ = some (.int .i64 b) := (Q1.out.below hb2 z1).cell 2
  have q3 : w2.cell? ⟨w.heap.size, 3, none⟩ = some (.int .i64 c) := (Q1.out.below hb2 z1).cell 3
  have q4 : w2.cell? ⟨w.heap.size, 4, none⟩ = some (.int .i64 n) := (Q1.out.below hb2 z1).cell 4
  clear hb2
  go_wp2_with fail
  have hg := Q.out.lt
  have hp := P.out.lt
  generalize w2.heap.size = g5 at *
  generalize w2.alloc (.cells #[.int .i64 3, .int .i64 0, .bool sgn] 44) = W at *
  clear q0 q1 q2 q3 q4
  have q0 : W.cell? ⟨w.heap.size, 0, none⟩ = some (.int .i64 op) := Q.out.cell 0
  have q1 : W.cell? ⟨w.heap.size, 1, none⟩ = some (.int .i64 a) := Q.out.cell 1
  have q2 : W.cell? ⟨w.heap.size, 2, none⟩ = some (.int .i64 b) := Q.out.cell 2
  have q3 : W.cell? ⟨w.heap.size, 3, none⟩ = some (.int .i64 c) := Q.out.cell 3
  have q4 : W.cell? ⟨w.heap.size, 4, none⟩ = some (.int .i64 n) := Q.out.cell 4
  have p0 : W.cell? ⟨g5, 0, none⟩ = some (.int .i64 3) := P.out.cell 0
  have p1 : W.cell? ⟨g5, 1, none⟩ = some (.int .i64 0) := P.out.cell 1
  have C0 := Lib.hid (Below.refl W.heap.size W)
  have O0 := Lib.hid (OwnsS.nil 9 W W.heap.size)
  refine wp_loop_rounds 4 ?_
  rw [rounds_succ]
  go_wp2_with fail
  refine (prefix_any _ _ _).mono ?_
  rintro e w' ⟨rfl, rfl⟩
  go_wp2_with fail
  refine (text_any a _ ha.1 ha.2).mono ?_
  rintro e y1 ⟨rfl, hb1⟩
  have C1 := Lib.hid (C0.out.trans (hb1.mono C0.out.size))
  have O1 := Lib.hid (O0.out.below hb1)
  clear hb1 q0 q1 q2 q3 q4 p0 p1
  have q0 : y1.cell? ⟨w.heap.size, 0, none⟩ = some (.int .i64 op) := (Q.out.below C1.out hg).cell 0
  have q1 : y1.cell? ⟨w.heap.size, 1, none⟩ = some (.int .i64 a) := (Q.out.below C1.out hg).cell 1
  have q2 : y1.cell? ⟨w.heap.size, 2, none⟩ = some (.int .i64 b) := (Q.out.below C1.out hg).cell 2
  have q3 : y1.cell? ⟨w.heap.size, 3, none⟩ = some (.int .i64 c) := (Q.out.below C1.out hg).cell 3
  have q4 : y1.cell? ⟨w.heap.size, 4, none⟩ = some (.int .i64 n) := (Q.out.below C1.out hg).cell 4
  have p0 : y1.cell? ⟨g5, 0, none⟩ = some (.int .i64 3) := (P.out.below C1.out hp).cell 0
  have p1 : y1.cell? ⟨g5, 1, none⟩ = some (.int .i64 0) := (P.out.below C1.out hp).cell 1
  go_wp2_with (at_builtin; refine wpList_append_strs _ rfl (.tmp 36) (.tmp 44) rfl rowStr W.heap.size (.slice none 0 0) (0) _ rfl (O1.out.alloc _) (some ⟨y1.heap.size, 0, none⟩) 1 1 [rt op 0 a] rfl (strs_built 9 y1 [rt op 0 a] _ rfl 1 rfl (by decide) _ rfl) (by omega) (Nat.le_trans C1.out.size (by simp)) ?_; intro v2 y2 ho2 hg2 _; have hb2 : Below W.heap.size y1 y2 := OwnsS.grown_below ((Below.refl _ _).alloc C1.out.size _) (O1.out.alloc _) hg2 (Nat.le_trans C1.out.size (by simp)); have C2 := Lib.hid (C1.out.trans hb2); have O2 := Lib.hid ho2; clear ho2 hg2 hb2 q0 q1 q2 q3 q4 p0 p1; have q0 : y2.cell? ⟨w.heap.size, 0, none⟩ = some (.int .i64 op) := (Q.out.below C2.out hg).cell 0; have q1 : y2.cell? ⟨w.heap.size, 1, none⟩ = some (.int .i64 a) := (Q.out.below C2.out hg).cell 1; have q2 : y2.cell? ⟨w.heap.size, 2, none⟩ = some (.int .i64 b) := (Q.out.below C2.out hg).cell 2; have q3 : y2.cell? ⟨w.heap.size, 3, none⟩ = some (.int .i64 c) := (Q.out.below C2.out hg).cell 3; have q4 : y2.cell? ⟨w.heap.size, 4, none⟩ = some (.int .i64 n) := (Q.out.below C2.out hg).cell 4; have p0 : y2.cell? ⟨g5, 0, none⟩ = some (.int .i64 3) := (P.out.below C2.out hp).cell 0; have p1 : y2.cell? ⟨g5, 1, none⟩ = some (.int .i64 0) := (P.out.below C2.out hp).cell 1)
  rw [rounds_succ]
  go_wp2_with fail
  refine (prefix_any _ _ _).mono ?_
  rintro e w' ⟨rfl, rfl⟩
  go_wp2_with fail
  refine (text_any b _ hb.1 hb.2).mono ?_
  rintro e y3 ⟨rfl, hb3⟩
  have C3 := Lib.hid (C2.out.trans (hb3.mono C2.out.size))
  have O3 := Lib.hid (O2.out.below hb3)
  clear hb3 q0 q1 q2 q3 q4 p0 p1
  have q0 : y3.cell? ⟨w.heap.size, 0, none⟩ = some (.int .i64 op) := (Q.out.below C3.out hg).cell 0
  have q1 : y3.cell? ⟨w.heap.size, 1, none⟩ = some (.int .i64 a) := (Q.out.below C3.out hg).cell 1
  have q2 : y3.cell? ⟨w.heap.size, 2, none⟩ = some (.int .i64 b) := (Q.out.below C3.out hg).cell 2
  have q3 : y3.cell? ⟨w.heap.size, 3, none⟩ = some (.int .i64 c) := (Q.out.below C3.out hg).cell 3
  have q4 : y3.cell? ⟨w.heap.size, 4, none⟩ = some (.int .i64 n) := (Q.out.below C3.out hg).cell 4
  have p0 : y3.cell? ⟨g5, 0, none⟩ = some (.int .i64 3) := (P.out.below C3.out hp).cell 0
  have p1 : y3.cell? ⟨g5, 1, none⟩ = some (.int .i64 0) := (P.out.below C3.out hp).cell 1
  go_wp2_with (at_builtin; refine wpList_append_strs _ rfl (.tmp 36) (.tmp 44) rfl rowStr W.heap.size v2 (0 + 1) _ rfl (O3.out.alloc _) (some ⟨y3.heap.size, 0, none⟩) 1 1 [rt op 1 b] rfl (strs_built 9 y3 [rt op 1 b] _ rfl 1 rfl (by decide) _ rfl) (by omega) (Nat.le_trans C3.out.size (by simp)) ?_; intro v4 y4 ho4 hg4 _; have hb4 : Below W.heap.size y3 y4 := OwnsS.grown_below ((Below.refl _ _).alloc C3.out.size _) (O3.out.alloc _) hg4 (Nat.le_trans C3.out.size (by simp)); have C4 := Lib.hid (C3.out.trans hb4); have O4 := Lib.hid ho4; clear ho4 hg4 hb4 q0 q1 q2 q3 q4 p0 p1; have q0 : y4.cell? ⟨w.heap.size, 0, none⟩ = some (.int .i64 op) := (Q.out.below C4.out hg).cell 0; have q1 : y4.cell? ⟨w.heap.size, 1, none⟩ = some (.int .i64 a) := (Q.out.below C4.out hg).cell 1; have q2 : y4.cell? ⟨w.heap.size, 2, none⟩ = some (.int .i64 b) := (Q.out.below C4.out hg).cell 2; have q3 : y4.cell? ⟨w.heap.size, 3, none⟩ = some (.int .i64 c) := (Q.out.below C4.out hg).cell 3; have q4 : y4.cell? ⟨w.heap.size, 4, none⟩ = some (.int .i64 n) := (Q.out.below C4.out hg).cell 4; have p0 : y4.cell? ⟨g5, 0, none⟩ = some (.int .i64 3) := (P.out.below C4.out hp).cell 0; have p1 : y4.cell? ⟨g5, 1, none⟩ = some (.int .i64 0) := (P.out.below C4.out hp).cell 1)
  rw [rounds_succ]
  go_wp2_with fail
  refine (prefix_any _ _ _).mono ?_
  rintro e w' ⟨rfl, rfl⟩
  go_wp2_with fail
  refine (text_any c _ hc.1 hc.2).mono ?_
  rintro e y5 ⟨rfl, hb5⟩
  have C5 := Lib.hid (C4.out.trans (hb5.mono C4.out.size))
  have O5 := Lib.hid (O4.out.below hb5)
  clear hb5 q0 q1 q2 q3 q4 p0 p1
  have q0 : y5.cell? ⟨w.heap.size, 0, none⟩ = some (.int .i64 op) := (Q.out.below C5.out hg).cell 0
  have q1 : y5.cell? ⟨w.heap.size, 1, none⟩ = some (.int .i64 a) := (Q.out.below C5.out hg).cell 1
  have q2 : y5.cell? ⟨w.heap.size, 2, none⟩ = some (.int .i64 b) := (Q.out.below C5.out hg).cell 2
  have q3 : y5.cell? ⟨w.heap.size, 3, none⟩ = some (.int .i64 c) := (Q.out.below C5.out hg).cell 3
  have q4 : y5.cell? ⟨w.heap.size, 4, none⟩ = some (.int .i64 n) := (Q.out.below C5.out hg).cell 4
  have p0 : y5.cell? ⟨g5, 0, none⟩ = some (.int .i64 3) := (P.out.below C5.out hp).cell 0
  have p1 : y5.cell? ⟨g5, 1, none⟩ = some (.int .i64 0) := (P.out.below C5.out hp).cell 1
  go_wp2_with (at_builtin; refine wpList_append_strs _ rfl (.tmp 36) (.tmp 44) rfl rowStr W.heap.size v4 (0 + 1 + 1) _ rfl (O5.out.alloc _) (some ⟨y5.heap.size, 0, none⟩) 1 1 [rt op 2 c] rfl (strs_built 9 y5 [rt op 2 c] _ rfl 1 rfl (by decide) _ rfl) (by omega) (Nat.le_trans C5.out.size (by simp)) ?_; intro v6 y6 ho6 hg6 _; have hb6 : Below W.heap.size y5 y6 := OwnsS.grown_below ((Below.refl _ _).alloc C5.out.size _) (O5.out.alloc _) hg6 (Nat.le_trans C5.out.size (by simp)); have C6 := Lib.hid (C5.out.trans hb6); have O6 := Lib.hid ho6; clear ho6 hg6 hb6 q0 q1 q2 q3 q4 p0 p1; have q0 : y6.cell? ⟨w.heap.size, 0, none⟩ = some (.int .i64 op) := (Q.out.below C6.out hg).cell 0; have q1 : y6.cell? ⟨w.heap.size, 1, none⟩ = some (.int .i64 a) := (Q.out.below C6.out hg).cell 1; have q2 : y6.cell? ⟨w.heap.size, 2, none⟩ = some (.int .i64 b) := (Q.out.below C6.out hg).cell 2; have q3 : y6.cell? ⟨w.heap.size, 3, none⟩ = some (.int .i64 c) := (Q.out.below C6.out hg).cell 3; have q4 : y6.cell? ⟨w.heap.size, 4, none⟩ = some (.int .i64 n) := (Q.out.below C6.out hg).cell 4; have p0 : y6.cell? ⟨g5, 0, none⟩ = some (.int .i64 3) := (P.out.below C6.out hp).cell 0; have p1 : y6.cell? ⟨g5, 1, none⟩ = some (.int .i64 0) := (P.out.below C6.out hp).cell 1; obtain ⟨g6, k6, hv6, hk6, hl6, hc6⟩ := O6.out.big (by omega); subst hv6)
  rw [rounds_succ]
  go_wp2_with fail
  refine (name_any _ _ (HN2.out.below C6.out (Nat.le_refl _))).mono ?_
  rintro e w' ⟨rfl, rfl⟩
  go_wp2_with fail
  have hjn : Calls Tryd.prog 17 #[.slice (some ⟨g6, 0, none⟩) 3 k6, .string ⟨#[44, 32]⟩] y6 fun e w' => e = .returned (.string (joinS [rt op 0 a, rt op 1 b, rt op 2 c])) ∧ Below y6.heap.size y6 w' :=
    Tryd.strings_Join g6 0 k6 [rt op 0 a, rt op 1 b, rt op 2 c] ⟨#[44, 32]⟩ _ hc6 hl6 (show 3 ≤ 140737488355328 by decide) hk6 (Nat.le_trans JS.out (by decide))
  clear hc6
  generalize joinS [rt op 0 a, rt op 1 b, rt op 2 c] = jz at *
  refine hjn.mono ?_
  rintro e wz ⟨rfl, hbz⟩
  have fin := B2.out.trans ((C6.out.trans (hbz.mono C6.out.size)).mono B2.out.size)
  clear hbz
  go_wp2_with fail
  go_ret2
  exact ⟨congrArg (fun z => Ending.returned (.tuple #[.string z, .int .i64 0])) J.out, fin⟩
end Go.Proofs.YtpjckkcljbnkiaaDoor

/- Package instr: Text, of any instruction. -/
namespace Go.Proofs.YtpjckkcljbnkiaaDoor
open Go.ChangeShapes Go.WideShapes Go.ChangeAt Go.RowKit
set_option linter.unusedVariables false

set_option maxHeartbeats 4000000 in
set_option maxRecDepth 100000 in
theorem text02_bad (op a b c n : Int) (w : World) (hS : ShapesIn w) (ha : I64 a) (hb : I64 b) (hc : I64 c) (hn : I64 n) (hk : checkOf op a b c n ≠ 0) :
    Calls Tryd.prog 5 #[instrV op a b c n] w fun e w' => e = .returned (.tuple #[.string ⟨#[]⟩, .int .i64 (checkOf op a b c n)]) ∧ Below w.heap.size w w' := by
  have C := Lib.hid (fun w hs => check_any op a b c n w hs ha hb hc hn)
  have HS := Lib.hid hS
  have hne : (checkOf op a b c n != 0) = true := by simpa using hk
  clear hk hS ha hb hc hn
  generalize checkOf op a b c n = v at *
  unfold instrV at *
  go_enter Tryd.func5, Tryd.ntmps5
  go_wp2_with fail
  refine (C.out _ (HS.out.alloc _)).mono ?_
  rintro e w1 ⟨rfl, hb1⟩
  have B1 := Lib.hid (((Below.refl _ _).alloc (Nat.le_refl _) _).trans (hb1.mono (show w.heap.size ≤ _ by simp)))
  clear hb1
  go_wp2
  go_ret2
  exact ⟨rfl, B1.out⟩

theorem text02_any (op a b c n : Int) (w : World) (hS : ShapesIn w) (hN : NamesIn w) (ha : I64 a) (hb : I64 b) (hc : I64 c) (hn : I64 n) :
    Calls Tryd.prog 5 #[instrV op a b c n] w fun e w' => e = .returned (.tuple #[.string (if checkOf op a b c n = 0 then textOf op a b c n else ⟨#[]⟩), .int .i64 (checkOf op a b c n)]) ∧ Below w.heap.size w w' := by
  by_cases hk : checkOf op a b c n = 0
  · rw [if_pos hk, hk]
    have h := (good_of_check hk).1
    have hr := shapeOf_range op
    rcases (show (regsOf (shapeOf op) = 0 ∧ bitsOf (shapeOf op) = 0) ∨ (regsOf (shapeOf op) = 0 ∧ 0 < bitsOf (shapeOf op)) ∨ (regsOf (shapeOf op) = 1 ∧ bitsOf (shapeOf op) = 0) ∨ (regsOf (shapeOf op) = 1 ∧ 0 < bitsOf (shapeOf op)) ∨ (regsOf (shapeOf op) = 2 ∧ 0 < bitsOf (shapeOf op)) ∨ (regsOf (shapeOf op) = 3 ∧ bitsOf (shapeOf op) = 0) by unfold regsOf bitsOf; omega) with ⟨g1, g2⟩ | ⟨g1, g2⟩ | ⟨g1, g2⟩ | ⟨g1, g2⟩ | ⟨g1, g2⟩ | ⟨g1, g2⟩
    · exact text_00 op a b c n w hS hN ha hb hc hn hk g1 g2
    · exact text_01 op a b c n w hS hN ha hb hc hn hk g1 g2
    · exact text_10 op a b c n w hS hN ha hb hc hn hk g1 g2
    · exact text_11 op a b c n w hS hN ha hb hc hn hk g1 g2
    · exact text_21 op a b c n w hS hN ha hb hc hn hk g1 g2
    · exact text_30 op a b c n w hS hN ha hb hc hn hk g1 g2
  · rw [if_neg hk]
    exact text02_bad op a b c n w hS ha hb hc hn hk
end Go.Proofs.YtpjckkcljbnkiaaDoor

/- Package instr: Fill, of any texts. -/
namespace Go.Proofs.YtpjckkcljbnkiaaDoor
open Go.ChangeShapes Go.WideShapes Go.ChangeAt Go.RowKit
set_option linter.unusedVariables false

set_option maxHeartbeats 4000000 in
set_option maxRecDepth 100000 in
theorem fill_none (op : Int) (A : Option Addr) (n cp : Nat) (ss : List ByteArray) (w : World) (hS : ShapesIn w) (h : shapeOf op = -1) :
    Calls Tryd.prog 8 #[.int .i64 op, .slice A n cp] w (FillPost op ss w) := by
  have R := Lib.hid (fieldsR_of h)
  have NO := Lib.hid (fillOk_shape (ss := ss) h)
  have HS := Lib.hid hS
  clear h hS
  go_enter Tryd.func8, Tryd.ntmps8
  go_wp2_with fail
  refine (fieldsOf_any _ _ (HS.out.alloc _)).mono ?_
  rintro e w1 ⟨rfl, hb1⟩
  rw [R.out, show fieldsV (-1) = .agg #[.int .i64 0, .int .i64 0, .bool false] from rfl]
  have T4 := Lib.hid ((Whole.made w 23 #[.int .i64 0, .int .i64 0, .int .i64 0, .int .i64 0, .int .i64 0] _ rfl).below hb1 (by simp))
  have B1 := Lib.hid (((Below.refl _ _).alloc (Nat.le_refl _) _).trans (hb1.mono (show w.heap.size ≤ _ by simp)))
  have hz := T4.out.lt
  clear hb1
  have q0 : w1.cell? ⟨w.heap.size, 0, none⟩ = some (.int .i64 0) := T4.out.cell 0
  have q1 : w1.cell? ⟨w.heap.size, 1, none⟩ = some (.int .i64 0) := T4.out.cell 1
  have q2 : w1.cell? ⟨w.heap.size, 2, none⟩ = some (.int .i64 0) := T4.out.cell 2
  have q3 : w1.cell? ⟨w.heap.size, 3, none⟩ = some (.int .i64 0) := T4.out.cell 3
  have q4 : w1.cell? ⟨w.heap.size, 4, none⟩ = some (.int .i64 0) := T4.out.cell 4
  have f4 : ∀ i, w1.frozen? ⟨w.heap.size, i, none⟩ = false := T4.out.free
  go_wp2_with fail
  refine bodyPost_ret (v := .tuple #[.agg #[.int .i64 0, .int .i64 0, .int .i64 0, .int .i64 0, .int .i64 0], .bool false]) ?_ rfl (fill_no NO.out ?_)
  · simp [results, Tryd.results8, go_sem, q0, q1, q2, q3, q4, hz]
  · repeat (first | exact B1.out | refine Below.setCell ?_ (Nat.le_refl w.heap.size) _ | refine Below.alloc ?_ (by simp; omega) _)

set_option maxHeartbeats 4000000 in
set_option maxRecDepth 100000 in
theorem fill_len (op : Int) (A : Option Addr) (n cp : Nat) (ss : List ByteArray) (w : World) (hS : ShapesIn w) (hs : ss.length = n) (hn : n ≤ 20) (h : shapeOf op ≠ -1) (hl : ss.length ≠ fillCount op) :
    Calls Tryd.prog 8 #[.int .i64 op, .slice A n cp] w (FillPost op ss w) := by
  have hr := shapeOf_range op
  have hR : fieldsR op = .tuple #[.agg #[.int .i64 (regsOf (shapeOf op)), .int .i64 (bitsOf (shapeOf op)), .bool (signOf (shapeOf op))], .bool true] := by
    unfold fieldsR fieldsV
    simp [h]
  have hr0 : 0 ≤ regsOf (shapeOf op) ∧ regsOf (shapeOf op) ≤ 3 := by unfold regsOf; omega
  have hne : ((n : Int) != (if 0 < bitsOf (shapeOf op) then regsOf (shapeOf op) + 1 else regsOf (shapeOf op))) = true := by
    unfold fillCount at hl
    rw [hs] at hl
    simp only [bne_iff_ne, ne_eq]
    intro e
    apply hl
    split at e <;> rename_i hh <;> simp [hh] <;> omega
  have NO := Lib.hid (fillOk_len hl)
  have R := Lib.hid hR
  have HS := Lib.hid hS
  have CT := Lib.hid (fun w => count_any (regsOf (shapeOf op)) (bitsOf (shapeOf op)) (signOf (shapeOf op)) w hr0.1 hr0.2)
  clear h hS hR hl hs hr hr0
  generalize (if 0 < bitsOf (shapeOf op) then regsOf (shapeOf op) + 1 else regsOf (shapeOf op)) = ct at *
  generalize regsOf (shapeOf op) = r at *
  generalize bitsOf (shapeOf op) = bits at *
  generalize signOf (shapeOf op) = sgn at *
  go_enter Tryd.func8, Tryd.ntmps8
  go_wp2_with fail
  refine (fieldsOf_any _ _ (HS.out.alloc _)).mono ?_
  rintro e w1 ⟨rfl, hb1⟩
  rw [R.out]
  have T4a := Lib.hid ((Whole.made w 23 #[.int .i64 0, .int .i64 0, .int .i64 0, .int .i64 0, .int .i64 0] _ rfl).below hb1 (by simp))
  have B1 := Lib.hid (((Below.refl _ _).alloc (Nat.le_refl _) _).trans (hb1.mono (show w.heap.size ≤ _ by simp)))
  have hz := T4a.out.lt
  clear hb1
  go_wp2_with fail
  refine (CT.out _).mono ?_
  rintro e w2 ⟨rfl, hb2⟩
  have T4 := Lib.hid ((T4a.out.alloc (.cells #[.int .i64 r, .int .i64 bits, .bool sgn] 44)).below hb2 (by simp; omega))
  have B2 := Lib.hid ((B1.out.alloc (Nat.le_of_lt hz) _).trans (hb2.mono (show w.heap.size ≤ _ by simp; omega)))
  clear hb2
  have q0 : w2.cell? ⟨w.heap.size, 0, none⟩ = some (.int .i64 0) := T4.out.cell 0
  have q1 : w2.cell? ⟨w.heap.size, 1, none⟩ = some (.int .i64 0) := T4.out.cell 1
  have q2 : w2.cell? ⟨w.heap.size, 2, none⟩ = some (.int .i64 0) := T4.out.cell 2
  have q3 : w2.cell? ⟨w.heap.size, 3, none⟩ = some (.int .i64 0) := T4.out.cell 3
  have q4 : w2.cell? ⟨w.heap.size, 4, none⟩ = some (.int .i64 0) := T4.out.cell 4
  have f4 : ∀ i, w2.frozen? ⟨w.heap.size, i, none⟩ = false := T4.out.free
  go_wp2_with fail
  refine bodyPost_ret (v := .tuple #[.agg #[.int .i64 0, .int .i64 0, .int .i64 0, .int .i64 0, .int .i64 0], .bool false]) ?_ rfl (fill_no NO.out ?_)
  · simp [results, Tryd.results8, go_sem, q0, q1, q2, q3, q4]
  · repeat (first | exact B2.out | refine Below.setCell ?_ (Nat.le_refl w.heap.size) _)

theorem fill_any (op : Int) (A : Option Addr) (n cp : Nat) (ss : List ByteArray) (w : World) (hS : ShapesIn w) (hs : Strs w A n ss) (hz : ∀ z ∈ ss, z.size ≤ maxLen) (hn : n ≤ 20) :
    Calls Tryd.prog 8 #[.int .i64 op, .slice A n cp] w (FillPost op ss w) := by
  by_cases h : shapeOf op = -1
  · exact fill_none op A n cp ss w hS h
  · by_cases hl : ss.length = fillCount op
    · have hr := shapeOf_range op
      rcases (show (regsOf (shapeOf op) = 0 ∧ bitsOf (shapeOf op) = 0) ∨ (regsOf (shapeOf op) = 0 ∧ 0 < bitsOf (shapeOf op)) ∨ (regsOf (shapeOf op) = 1 ∧ bitsOf (shapeOf op) = 0) ∨ (regsOf (shapeOf op) = 1 ∧ 0 < bitsOf (shapeOf op)) ∨ (regsOf (shapeOf op) = 2 ∧ 0 < bitsOf (shapeOf op)) ∨ (regsOf (shapeOf op) = 3 ∧ bitsOf (shapeOf op) = 0) by unfold regsOf bitsOf; omega) with ⟨g1, g2⟩ | ⟨g1, g2⟩ | ⟨g1, g2⟩ | ⟨g1, g2⟩ | ⟨g1, g2⟩ | ⟨g1, g2⟩
      all_goals
        have hc := hs.1
        rw [hl] at hc
        unfold fillCount at hc
        rw [g1] at hc
        first | rw [if_pos g2] at hc | rw [g2] at hc
        simp at hc
        subst hc
      · exact fill_00 op A cp ss w hS hs hz h g1 g2
      · exact fill_01 op A cp ss w hS hs hz h g1 g2
      · exact fill_10 op A cp ss w hS hs hz h g1 g2
      · exact fill_11 op A cp ss w hS hs hz h g1 g2
      · exact fill_21 op A cp ss w hS hs hz h g1 g2
      · exact fill_30 op A cp ss w hS hs hz h g1 g2
    · exact fill_len op A n cp ss w hS hs.1 hn h hl
end Go.Proofs.YtpjckkcljbnkiaaDoor

/- The answers' Fill of package instr, of any texts. -/
namespace Go.Proofs.YtpjckkcljbnkiaaDoor
open Go.ChangeShapes Go.WideShapes Go.ChangeAt Go.RowKit
set_option linter.unusedVariables false

set_option maxHeartbeats 4000000 in
set_option maxRecDepth 100000 in
theorem reffill_none (op : Int) (A : Option Addr) (n cp : Nat) (ss : List ByteArray) (w : World) (h : shapeOf op = -1) :
    Calls Tryd.prog 9 #[.int .i64 op, .slice A n cp] w (FillPost op ss w) := by
  have NO := Lib.hid (fillOk_shape (ss := ss) h)
  have SH := Lib.hid (fun w => refshape_any op w)
  rw [h] at SH
  clear h
  go_enter Tryd.func9, Tryd.ntmps9
  go_wp2_with fail
  refine (SH.out _).mono ?_
  rintro e w' ⟨rfl, rfl⟩
  have T4 := Lib.hid ((Whole.made w 31 #[.int .i64 0, .int .i64 0, .int .i64 0, .int .i64 0, .int .i64 0] _ rfl).alloc (.cells #[.int .i64 op, .int .i64 0, .int .i64 0, .int .i64 0, .int .i64 0] 31))
  have T6 := Lib.hid (Whole.made (w.alloc (.cells #[.int .i64 0, .int .i64 0, .int .i64 0, .int .i64 0, .int .i64 0] 31)) 31 #[.int .i64 op, .int .i64 0, .int .i64 0, .int .i64 0, .int .i64 0] (w.heap.size + 1) (by simp))
  have B0 := Lib.hid (((Below.refl w.heap.size w).alloc (Nat.le_refl _) (.cells #[.int .i64 0, .int .i64 0, .int .i64 0, .int .i64 0, .int .i64 0] 31)).alloc (by simp) (.cells #[.int .i64 op, .int .i64 0, .int .i64 0, .int .i64 0, .int .i64 0] 31))
  have l4 := T4.out.lt
  generalize (w.alloc (.cells #[.int .i64 0, .int .i64 0, .int .i64 0, .int .i64 0, .int .i64 0] 31)).alloc (.cells #[.int .i64 op, .int .i64 0, .int .i64 0, .int .i64 0, .int .i64 0] 31) = V at *
  generalize w.heap.size + 1 = g6 at *
  have q0 : V.cell? ⟨w.heap.size, 0, none⟩ = some (.int .i64 0) := T4.out.cell 0
  have q1 : V.cell? ⟨w.heap.size, 1, none⟩ = some (.int .i64 0) := T4.out.cell 1
  have q2 : V.cell? ⟨w.heap.size, 2, none⟩ = some (.int .i64 0) := T4.out.cell 2
  have q3 : V.cell? ⟨w.heap.size, 3, none⟩ = some (.int .i64 0) := T4.out.cell 3
  have q4 : V.cell? ⟨w.heap.size, 4, none⟩ = some (.int .i64 0) := T4.out.cell 4
  have r0 : V.cell? ⟨g6, 0, none⟩ = some (.int .i64 op) := T6.out.cell 0
  have r1 : V.cell? ⟨g6, 1, none⟩ = some (.int .i64 0) := T6.out.cell 1
  have r2 : V.cell? ⟨g6, 2, none⟩ = some (.int .i64 0) := T6.out.cell 2
  have r3 : V.cell? ⟨g6, 3, none⟩ = some (.int .i64 0) := T6.out.cell 3
  have r4 : V.cell? ⟨g6, 4, none⟩ = some (.int .i64 0) := T6.out.cell 4
  have f4 : ∀ i, V.frozen? ⟨w.heap.size, i, none⟩ = false := T4.out.free
  go_wp2_with fail
  refine bodyPost_ret (v := .tuple #[.agg #[.int .i64 op, .int .i64 0, .int .i64 0, .int .i64 0, .int .i64 0], .bool false]) ?_ rfl (fill_no NO.out ?_)
  · simp [results, Tryd.results9, go_sem, q0, q1, q2, q3, q4]
  · repeat (first | exact B0.out | refine Below.setCell ?_ (Nat.le_refl w.heap.size) _)

theorem reffill_any (op : Int) (A : Option Addr) (n cp : Nat) (ss : List ByteArray) (w : World) (hs : Strs w A n ss) (hz : ∀ z ∈ ss, z.size ≤ maxLen) (hn : n ≤ 20) :
    Calls Tryd.prog 9 #[.int .i64 op, .slice A n cp] w (FillPost op ss w) := by
  by_cases h : shapeOf op = -1
  · exact reffill_none op A n cp ss w h
  · have hr := shapeOf_range op
    by_cases hl : ss.length = fillCount op
    · rcases (show (regsOf (shapeOf op) = 0 ∧ bitsOf (shapeOf op) = 0) ∨ (regsOf (shapeOf op) = 0 ∧ 0 < bitsOf (shapeOf op)) ∨ (regsOf (shapeOf op) = 1 ∧ bitsOf (shapeOf op) = 0) ∨ (regsOf (shapeOf op) = 1 ∧ 0 < bitsOf (shapeOf op)) ∨ (regsOf (shapeOf op) = 2 ∧ 0 < bitsOf (shapeOf op)) ∨ (regsOf (shapeOf op) = 3 ∧ bitsOf (shapeOf op) = 0) by unfold regsOf bitsOf; omega) with ⟨g1, g2⟩ | ⟨g1, g2⟩ | ⟨g1, g2⟩ | ⟨g1, g2⟩ | ⟨g1, g2⟩ | ⟨g1, g2⟩
      all_goals
        have hc := hs.1
        rw [hl] at hc
        unfold fillCount at hc
        rw [g1] at hc
        first | rw [if_pos g2] at hc | rw [g2] at hc
        simp at hc
        subst hc
      · exact reffill_00 op A cp ss w hs hz h g1 g2
      · exact reffill_01 op A cp ss w hs hz h g1 g2
      · exact reffill_10 op A cp ss w hs hz h g1 g2
      · exact reffill_11 op A cp ss w hs hz h g1 g2
      · by_cases hk : op = 26
        · exact reffill_21c op A cp ss w hs hz h g1 g2 hk
        · exact reffill_21 op A cp ss w hs hz h g1 g2 hk
      · exact reffill_30 op A cp ss w hs hz h g1 g2
    · rcases (show (regsOf (shapeOf op) = 0 ∧ bitsOf (shapeOf op) = 0) ∨ (regsOf (shapeOf op) = 0 ∧ 0 < bitsOf (shapeOf op)) ∨ (regsOf (shapeOf op) = 1 ∧ bitsOf (shapeOf op) = 0) ∨ (regsOf (shapeOf op) = 1 ∧ 0 < bitsOf (shapeOf op)) ∨ (regsOf (shapeOf op) = 2 ∧ 0 < bitsOf (shapeOf op)) ∨ (regsOf (shapeOf op) = 3 ∧ bitsOf (shapeOf op) = 0) by unfold regsOf bitsOf; omega) with ⟨g1, g2⟩ | ⟨g1, g2⟩ | ⟨g1, g2⟩ | ⟨g1, g2⟩ | ⟨g1, g2⟩ | ⟨g1, g2⟩
      · exact reflen_00 op A n cp ss w hs.1 hn h g1 g2 hl
      · exact reflen_01 op A n cp ss w hs.1 hn h g1 g2 hl
      · exact reflen_10 op A n cp ss w hs.1 hn h g1 g2 hl
      · exact reflen_11 op A n cp ss w hs.1 hn h g1 g2 hl
      · by_cases hk : op = 26
        · exact reflen_21c op A n cp ss w hs.1 hn h g1 g2 hl hk
        · exact reflen_21 op A n cp ss w hs.1 hn h g1 g2 hl hk
      · exact reflen_30 op A n cp ss w hs.1 hn h g1 g2 hl
end Go.Proofs.YtpjckkcljbnkiaaDoor

/- Package instr, plain: an instruction's own fields' texts are that instruction. -/
namespace Go.Proofs.YtpjckkcljbnkiaaDoor
open Go.ChangeShapes Go.WideShapes Go.ChangeAt Go.RowKit
set_option linter.unusedVariables false

theorem has_app (p t : ByteArray) : Lib.hasPrefix (p ++ t).data.toList p.data.toList = true := by
  rw [ByteArray.data_append, Array.toList_append]
  unfold Lib.hasPrefix
  simp

theorem rest_app (p t : ByteArray) : restOf p (p ++ t) = t := by
  apply ByteArray.ext
  apply Array.ext'
  show Lib.trimPrefix (p ++ t).data.toList p.data.toList = _
  unfold Lib.trimPrefix
  rw [if_pos (has_app p t), ByteArray.data_append, Array.toList_append]
  simp

theorem pf_text (p : ByteArray) (r : Int) (h0 : -2147483648 ≤ r) (h1 : r ≤ 2147483647) : pfB p (p ++ strOfNums (textNums r)) = true ∧ pfN p (p ++ strOfNums (textNums r)) = r := by
  have hp := parseOf_text r (by omega) (by omega)
  have hk : parseOk (bys (restOf p (p ++ strOfNums (textNums r)))) = true := by
    rw [rest_app, bys_nums _ (textNums_byte r)]
    exact yes_text (digAll_text r) (by omega) (by omega) (by rw [hp])
  obtain ⟨a, b⟩ := pf_yes (has_app p (strOfNums (textNums r))) hk
  refine ⟨a, b.trans ?_⟩
  rw [rest_app, bys_nums _ (textNums_byte r)]
  exact hp

theorem pf_nt (r : Int) (h0 : -2147483648 ≤ r) (h1 : r ≤ 2147483647) : pfB ⟨#[]⟩ (nt r) = true ∧ pfN ⟨#[]⟩ (nt r) = r := by
  have h := pf_text ⟨#[]⟩ r h0 h1
  rw [show (⟨#[]⟩ : ByteArray) ++ strOfNums (textNums r) = nt r from ByteArray.empty_append] at h
  exact h

theorem good_imm {s a b c n : Int} (h : GoodP s a b c n) (h1 : 0 < bitsOf s) (h2 : s ≤ 8) : -2147483648 ≤ n ∧ n ≤ 2147483647 := by
  obtain ⟨_, _, _, _, _, _, _, _, _, l, u⟩ := h
  unfold lowOf at l
  unfold highOf at u
  omega

theorem own_texts {op a b c n : Int} (h : checkOf op a b c n = 0) :
    fillOk op (fieldTexts op a b c n) = true ∧ fa op (fieldTexts op a b c n) = a ∧ fb op (fieldTexts op a b c n) = b ∧ fc op (fieldTexts op a b c n) = c ∧ fn op (fieldTexts op a b c n) = n := by
  obtain ⟨hs, hg⟩ := good_of_check h
  have hr := shapeOf_range op
  have hG := hg
  obtain ⟨a0, a1, b0, b1, c0, c1, ga, gb, gc, gl, gh⟩ := hg
  have hgl : bitsOf (shapeOf op) = 0 → n = 0 := by
    unfold lowOf at gl
    unfold highOf at gh
    unfold bitsOf
    omega
  have P := fun k r (h0 : 0 ≤ r) (h1 : r ≤ 15) => pf_text (pfx op k) r (by omega) (by omega)
  have hk : ∀ ss, (checkOf op (fa op ss) (fb op ss) (fc op ss) (fn op ss) = 0 → ss.length = fillCount op → ka op ss = true → kb op ss = true → kc op ss = true → kn op ss = true → fillOk op ss = true) := fun ss h6 h1 h2 h3 h4 h5 => fillOk_yes hs h1 h2 h3 h4 h5 h6
  suffices H : ∀ ss, ss = fieldTexts op a b c n → ss.length = fillCount op ∧ ka op ss = true ∧ kb op ss = true ∧ kc op ss = true ∧ kn op ss = true ∧ fa op ss = a ∧ fb op ss = b ∧ fc op ss = c ∧ fn op ss = n by
    obtain ⟨k0, k1, k2, k3, k4, k5, k6, k7, k8⟩ := H _ rfl
    exact ⟨hk _ (by rw [k5, k6, k7, k8]; exact h) k0 k1 k2 k3 k4, k5, k6, k7, k8⟩
  clear hk h
  intro ss hss
  rcases (show (regsOf (shapeOf op) = 0 ∧ bitsOf (shapeOf op) = 0) ∨ (regsOf (shapeOf op) = 0 ∧ 0 < bitsOf (shapeOf op)) ∨ (regsOf (shapeOf op) = 1 ∧ bitsOf (shapeOf op) = 0) ∨ (regsOf (shapeOf op) = 1 ∧ 0 < bitsOf (shapeOf op)) ∨ (regsOf (shapeOf op) = 2 ∧ 0 < bitsOf (shapeOf op)) ∨ (regsOf (shapeOf op) = 3 ∧ bitsOf (shapeOf op) = 0) by unfold regsOf bitsOf; omega) with ⟨g1, g2⟩ | ⟨g1, g2⟩ | ⟨g1, g2⟩ | ⟨g1, g2⟩ | ⟨g1, g2⟩ | ⟨g1, g2⟩
  all_goals
    unfold fieldTexts at hss
    unfold fillCount ka kb kc kn fa fb fc fn
    rw [g1] at hss ga gb gc ⊢
  · rw [g2] at hss ⊢
    subst hss
    refine ⟨rfl, rfl, rfl, rfl, rfl, ?_, ?_, ?_, ?_⟩ <;> simp <;> omega
  · obtain ⟨n0, n1⟩ := good_imm hG g2 hr.2
    obtain ⟨x, y⟩ := pf_nt n n0 n1
    rw [if_pos g2] at hss ⊢
    rw [if_pos g2, if_pos g2]
    subst hss
    exact ⟨rfl, rfl, rfl, rfl, x, by simp; omega, by simp; omega, by simp; omega, y⟩
  · obtain ⟨x, y⟩ := P 0 a a0 a1
    rw [g2] at hss ⊢
    subst hss
    exact ⟨rfl, x, rfl, rfl, rfl, y, by simp; omega, by simp; omega, by simp; omega⟩
  · obtain ⟨x, y⟩ := P 0 a a0 a1
    obtain ⟨n0, n1⟩ := good_imm hG g2 hr.2
    obtain ⟨x4, y4⟩ := pf_nt n n0 n1
    rw [if_pos g2] at hss ⊢
    rw [if_pos g2, if_pos g2]
    subst hss
    exact ⟨rfl, x, rfl, rfl, x4, y, by simp; omega, by simp; omega, y4⟩
  · obtain ⟨x, y⟩ := P 0 a a0 a1
    obtain ⟨x2, y2⟩ := P 1 b b0 b1
    obtain ⟨n0, n1⟩ := good_imm hG g2 hr.2
    obtain ⟨x4, y4⟩ := pf_nt n n0 n1
    rw [if_pos g2] at hss ⊢
    rw [if_pos g2, if_pos g2]
    subst hss
    exact ⟨rfl, x, x2, rfl, x4, y, y2, by simp; omega, y4⟩
  · obtain ⟨x, y⟩ := P 0 a a0 a1
    obtain ⟨x2, y2⟩ := P 1 b b0 b1
    obtain ⟨x3, y3⟩ := P 2 c c0 c1
    rw [g2] at hss ⊢
    subst hss
    exact ⟨rfl, x, x2, x3, rfl, y, y2, y3, by simp; omega⟩
end Go.Proofs.YtpjckkcljbnkiaaDoor

/- InstrTexts: what the walks lean on. -/
namespace Go.Proofs.YtpjckkcljbnkiaaDoor
open Go.ChangeShapes Go.WideShapes Go.ChangeAt Go.RowKit
set_option linter.unusedVariables false

theorem ShapesIn.set {w : World} (h : ShapesIn w) {p : Addr} (hp : 0 ≠ p.block) (u : Value) : ShapesIn (w.setCell p u) := fun i => by
  rw [World.cell?_setCell_far w p ⟨0, i, none⟩ u (Ne.symm hp)]
  exact h i

theorem ShapesIn.drawn {w : World} (h : ShapesIn w) (n : Nat) : ShapesIn (w.drewN n) := h

/-- What Fill leaves of its own fields' texts. -/
def OwnPost (op a b c n : Int) (w : World) (e : Ending) (w' : World) : Prop := e = .returned (.tuple #[.agg #[.int .i64 op, .int .i64 a, .int .i64 b, .int .i64 c, .int .i64 n], .bool true]) ∧ Below w.heap.size w w'

theorem own_fill {op a b c n : Int} (hk : checkOf op a b c n = 0) (A : Option Addr) (m cp : Nat) (w : World) (hS : ShapesIn w) (hs : Strs w A m (fieldTexts op a b c n)) :
    Calls Tryd.prog 8 #[.int .i64 op, .slice A m cp] w (OwnPost op a b c n w) := by
  obtain ⟨k0, k1, k2, k3, k4⟩ := own_texts hk
  obtain ⟨l4, sm⟩ := fields_small op a b c n
  have hm : m ≤ 20 := by have := hs.1; omega
  refine (fill_any op A m cp (fieldTexts op a b c n) w hS hs (fun z hz => Nat.le_trans (sm z hz) (by decide)) hm).mono ?_
  rintro e w' ⟨o, x, y, z, t, rfl, hf, hb⟩
  obtain ⟨rfl, rfl, rfl, rfl, rfl⟩ := hf k0
  rw [k0, k1, k2, k3, k4]
  exact ⟨rfl, hb⟩

theorem below_step {w x y : World} (h : Below w.heap.size w x) (hk : Below x.heap.size x y) : Below w.heap.size w y := h.trans (hk.mono h.size)

theorem made_drew (w : World) (t : TypeId) (cs : Array Value) : Whole (w.drew.alloc (.cells cs t)) w.heap.size t cs := Whole.made w.drew t cs _ rfl

theorem Whole.drew {w : World} {g : Nat} {t : TypeId} {cs : Array Value} (h : Whole w g t cs) : Whole w.drew g t cs := h

/-- What both Fills leave of a list, where ok. -/
theorem fill_ok {op : Int} {ss : List ByteArray} (h : fillOk op ss = true) (A : Option Addr) (n cp : Nat) (w : World) (hS : ShapesIn w) (hs : Strs w A n ss) (hz : ∀ z ∈ ss, z.size ≤ maxLen) (hn : n ≤ 20) :
    Calls Tryd.prog 8 #[.int .i64 op, .slice A n cp] w fun e w' => e = .returned (.tuple #[.agg #[.int .i64 op, .int .i64 (fa op ss), .int .i64 (fb op ss), .int .i64 (fc op ss), .int .i64 (fn op ss)], .bool true]) ∧ Below w.heap.size w w' := by
  refine (fill_any op A n cp ss w hS hs hz hn).mono ?_
  rintro e w' ⟨o, x, y, z, t, rfl, hf, hb⟩
  obtain ⟨rfl, rfl, rfl, rfl, rfl⟩ := hf h
  rw [h]
  exact ⟨rfl, hb⟩

theorem reffill_ok {op : Int} {ss : List ByteArray} (h : fillOk op ss = true) (A : Option Addr) (n cp : Nat) (w : World) (hs : Strs w A n ss) (hz : ∀ z ∈ ss, z.size ≤ maxLen) (hn : n ≤ 20) :
    Calls Tryd.prog 9 #[.int .i64 op, .slice A n cp] w fun e w' => e = .returned (.tuple #[.agg #[.int .i64 op, .int .i64 (fa op ss), .int .i64 (fb op ss), .int .i64 (fc op ss), .int .i64 (fn op ss)], .bool true]) ∧ Below w.heap.size w w' := by
  refine (reffill_any op A n cp ss w hs hz hn).mono ?_
  rintro e w' ⟨o, x, y, z, t, rfl, hf, hb⟩
  obtain ⟨rfl, rfl, rfl, rfl, rfl⟩ := hf h
  rw [h]
  exact ⟨rfl, hb⟩

theorem fill_bad {op : Int} {ss : List ByteArray} (h : fillOk op ss = false) (A : Option Addr) (n cp : Nat) (w : World) (hS : ShapesIn w) (hs : Strs w A n ss) (hz : ∀ z ∈ ss, z.size ≤ maxLen) (hn : n ≤ 20) :
    Calls Tryd.prog 8 #[.int .i64 op, .slice A n cp] w fun e w' => ∃ o a b c n, e = .returned (.tuple #[.agg #[.int .i64 o, .int .i64 a, .int .i64 b, .int .i64 c, .int .i64 n], .bool false]) ∧ Below w.heap.size w w' := by
  refine (fill_any op A n cp ss w hS hs hz hn).mono ?_
  rintro e w' ⟨o, x, y, z, t, rfl, hf, hb⟩
  rw [h]
  exact ⟨_, _, _, _, _, rfl, hb⟩

theorem reffill_bad {op : Int} {ss : List ByteArray} (h : fillOk op ss = false) (A : Option Addr) (n cp : Nat) (w : World) (hs : Strs w A n ss) (hz : ∀ z ∈ ss, z.size ≤ maxLen) (hn : n ≤ 20) :
    Calls Tryd.prog 9 #[.int .i64 op, .slice A n cp] w fun e w' => ∃ o a b c n, e = .returned (.tuple #[.agg #[.int .i64 o, .int .i64 a, .int .i64 b, .int .i64 c, .int .i64 n], .bool false]) ∧ Below w.heap.size w w' := by
  refine (reffill_any op A n cp ss w hs hz hn).mono ?_
  rintro e w' ⟨o, x, y, z, t, rfl, hf, hb⟩
  rw [h]
  exact ⟨_, _, _, _, _, rfl, hb⟩

/-- What the last region reads: the instruction's cells; the table of shapes stands. -/
theorem keepT_call {x y : World} {B : Nat} {v0 v1 v2 v3 v4 : Value} (h : x.cell? ⟨B, 0, none⟩ = some v0 ∧ x.cell? ⟨B, 1, none⟩ = some v1 ∧ x.cell? ⟨B, 2, none⟩ = some v2 ∧ x.cell? ⟨B, 3, none⟩ = some v3 ∧ x.cell? ⟨B, 4, none⟩ = some v4 ∧ Hid (ShapesIn x)) (hb : Below x.heap.size x y) :
    y.cell? ⟨B, 0, none⟩ = some v0 ∧ y.cell? ⟨B, 1, none⟩ = some v1 ∧ y.cell? ⟨B, 2, none⟩ = some v2 ∧ y.cell? ⟨B, 3, none⟩ = some v3 ∧ y.cell? ⟨B, 4, none⟩ = some v4 ∧ Hid (ShapesIn y) := by
  obtain ⟨h0, h1, h2, h3, h4, hs⟩ := h
  have l0 : B < x.heap.size := block_lt h0
  exact ⟨(hb.cell (p := ⟨B, 0, none⟩) l0).trans h0, (hb.cell (p := ⟨B, 1, none⟩) l0).trans h1, (hb.cell (p := ⟨B, 2, none⟩) l0).trans h2, (hb.cell (p := ⟨B, 3, none⟩) l0).trans h3, (hb.cell (p := ⟨B, 4, none⟩) l0).trans h4, hs.out.below hb (Nat.le_refl _)⟩

theorem keepT_shapes {x : World} {B : Nat} {v0 v1 v2 v3 v4 : Value} (h : x.cell? ⟨B, 0, none⟩ = some v0 ∧ x.cell? ⟨B, 1, none⟩ = some v1 ∧ x.cell? ⟨B, 2, none⟩ = some v2 ∧ x.cell? ⟨B, 3, none⟩ = some v3 ∧ x.cell? ⟨B, 4, none⟩ = some v4 ∧ Hid (ShapesIn x)) : ShapesIn x := h.2.2.2.2.2.out

theorem keepT_set {x z : World} {B : Nat} {v0 v1 v2 v3 v4 u0 u1 u2 u3 u4 : Value} (hz : z.cell? ⟨B, 0, none⟩ = some v0 ∧ z.cell? ⟨B, 1, none⟩ = some v1 ∧ z.cell? ⟨B, 2, none⟩ = some v2 ∧ z.cell? ⟨B, 3, none⟩ = some v3 ∧ z.cell? ⟨B, 4, none⟩ = some v4 ∧ Hid (ShapesIn z)) (h : x.cell? ⟨B, 0, none⟩ = some v0 ∧ x.cell? ⟨B, 1, none⟩ = some v1 ∧ x.cell? ⟨B, 2, none⟩ = some v2 ∧ x.cell? ⟨B, 3, none⟩ = some v3 ∧ x.cell? ⟨B, 4, none⟩ = some v4 ∧ Hid (ShapesIn x)) :
    (((((x.setCell ⟨z.heap.size, 0, none⟩ u0).setCell ⟨z.heap.size, 1, none⟩ u1).setCell ⟨z.heap.size, 2, none⟩ u2).setCell ⟨z.heap.size, 3, none⟩ u3).setCell ⟨z.heap.size, 4, none⟩ u4).cell? ⟨B, 0, none⟩ = some v0 ∧ (((((x.setCell ⟨z.heap.size, 0, none⟩ u0).setCell ⟨z.heap.size, 1, none⟩ u1).setCell ⟨z.heap.size, 2, none⟩ u2).setCell ⟨z.heap.size, 3, none⟩ u3).setCell ⟨z.heap.size, 4, none⟩ u4).cell? ⟨B, 1, none⟩ = some v1 ∧ (((((x.setCell ⟨z.heap.size, 0, none⟩ u0).setCell ⟨z.heap.size, 1, none⟩ u1).setCell ⟨z.heap.size, 2, none⟩ u2).setCell ⟨z.heap.size, 3, none⟩ u3).setCell ⟨z.heap.size, 4, none⟩ u4).cell? ⟨B, 2, none⟩ = some v2 ∧ (((((x.setCell ⟨z.heap.size, 0, none⟩ u0).setCell ⟨z.heap.size, 1, none⟩ u1).setCell ⟨z.heap.size, 2, none⟩ u2).setCell ⟨z.heap.size, 3, none⟩ u3).setCell ⟨z.heap.size, 4, none⟩ u4).cell? ⟨B, 3, none⟩ = some v3 ∧ (((((x.setCell ⟨z.heap.size, 0, none⟩ u0).setCell ⟨z.heap.size, 1, none⟩ u1).setCell ⟨z.heap.size, 2, none⟩ u2).setCell ⟨z.heap.size, 3, none⟩ u3).setCell ⟨z.heap.size, 4, none⟩ u4).cell? ⟨B, 4, none⟩ = some v4 ∧ Hid (ShapesIn (((((x.setCell ⟨z.heap.size, 0, none⟩ u0).setCell ⟨z.heap.size, 1, none⟩ u1).setCell ⟨z.heap.size, 2, none⟩ u2).setCell ⟨z.heap.size, 3, none⟩ u3).setCell ⟨z.heap.size, 4, none⟩ u4)) := by
  obtain ⟨h0, h1, h2, h3, h4, hs⟩ := h
  have l0 : B < z.heap.size := block_lt hz.1
  have hne : z.heap.size ≠ B := by omega
  have hgs : 0 ≠ z.heap.size := Nat.ne_of_lt (keepT_shapes hz).lt
  have far : ∀ (y : World) (i j : Nat) (v : Value), (y.setCell ⟨z.heap.size, i, none⟩ v).cell? ⟨B, j, none⟩ = y.cell? ⟨B, j, none⟩ := fun y i j v => World.cell?_setCell_far y ⟨z.heap.size, i, none⟩ ⟨B, j, none⟩ v hne
  refine ⟨?_, ?_, ?_, ?_, ?_, ?_⟩
  · rw [far, far, far, far, far]
    exact h0
  · rw [far, far, far, far, far]
    exact h1
  · rw [far, far, far, far, far]
    exact h2
  · rw [far, far, far, far, far]
    exact h3
  · rw [far, far, far, far, far]
    exact h4
  · exact ((((hs.out.set (p := ⟨z.heap.size, 0, none⟩) hgs u0).set (p := ⟨z.heap.size, 1, none⟩) hgs u1).set (p := ⟨z.heap.size, 2, none⟩) hgs u2).set (p := ⟨z.heap.size, 3, none⟩) hgs u3).set (p := ⟨z.heap.size, 4, none⟩) hgs u4

theorem keep10 {x y : World} {p q : Nat} {u0 u1 u2 u3 u4 v0 v1 v2 v3 v4 : Value} (h : x.cell? ⟨p, 0, none⟩ = some u0 ∧ x.cell? ⟨p, 1, none⟩ = some u1 ∧ x.cell? ⟨p, 2, none⟩ = some u2 ∧ x.cell? ⟨p, 3, none⟩ = some u3 ∧ x.cell? ⟨p, 4, none⟩ = some u4 ∧ x.cell? ⟨q, 0, none⟩ = some v0 ∧ x.cell? ⟨q, 1, none⟩ = some v1 ∧ x.cell? ⟨q, 2, none⟩ = some v2 ∧ x.cell? ⟨q, 3, none⟩ = some v3 ∧ x.cell? ⟨q, 4, none⟩ = some v4) (hb : Below x.heap.size x y) :
    y.cell? ⟨p, 0, none⟩ = some u0 ∧ y.cell? ⟨p, 1, none⟩ = some u1 ∧ y.cell? ⟨p, 2, none⟩ = some u2 ∧ y.cell? ⟨p, 3, none⟩ = some u3 ∧ y.cell? ⟨p, 4, none⟩ = some u4 ∧ y.cell? ⟨q, 0, none⟩ = some v0 ∧ y.cell? ⟨q, 1, none⟩ = some v1 ∧ y.cell? ⟨q, 2, none⟩ = some v2 ∧ y.cell? ⟨q, 3, none⟩ = some v3 ∧ y.cell? ⟨q, 4, none⟩ = some v4 := by
  obtain ⟨h0, h1, h2, h3, h4, g0, g1, g2, g3, g4⟩ := h
  have lp : p < x.heap.size := block_lt h0
  have lq : q < x.heap.size := block_lt g0
  exact ⟨(hb.cell (p := ⟨p, 0, none⟩) lp).trans h0, (hb.cell (p := ⟨p, 1, none⟩) lp).trans h1, (hb.cell (p := ⟨p, 2, none⟩) lp).trans h2, (hb.cell (p := ⟨p, 3, none⟩) lp).trans h3, (hb.cell (p := ⟨p, 4, none⟩) lp).trans h4, (hb.cell (p := ⟨q, 0, none⟩) lq).trans g0, (hb.cell (p := ⟨q, 1, none⟩) lq).trans g1, (hb.cell (p := ⟨q, 2, none⟩) lq).trans g2, (hb.cell (p := ⟨q, 3, none⟩) lq).trans g3, (hb.cell (p := ⟨q, 4, none⟩) lq).trans g4⟩

end Go.Proofs.YtpjckkcljbnkiaaDoor

/- InstrTexts: one of its four ways. -/
namespace Go.Proofs.YtpjckkcljbnkiaaDoor
open Go.ChangeShapes Go.WideShapes Go.ChangeAt Go.RowKit
set_option linter.unusedVariables false

set_option maxHeartbeats 8000000 in
set_option maxRecDepth 100000 in
theorem texts_bn (w : World) (hS : ShapesIn w) (hN : NamesIn w) (op a b c n : Int) (ia : I64 a) (ib : I64 b) (ic : I64 c) (inn : I64 n) (op2 : Int) (A : Option Addr) (n2 c2 : Nat) (ss : List ByteArray) (hs : Strs w A n2 ss) (hz : ∀ z ∈ ss, z.size ≤ maxLen) (hn20 : n2 ≤ 20) (hk : checkOf op a b c n ≠ 0) (hok : fillOk op2 ss = false) :
    Calls Tryd.prog 3 #[instrV op a b c n, .int .i64 op2, .slice A n2 c2] w fun e w' => e = .returned (.bool true) ∧ Below w.heap.size w w' := by
  have HS := Lib.hid hS
  have HN := Lib.hid hN
  have LL := Lib.hid hs
  have hT := fun w hs hn => text02_any op a b c n w hs hn ia ib ic inn
  have hRT := fun w => reftext02_any op a b c n w ia ib ic inn
  have RR := Lib.hid (fun w => ref_any op a b c n w)
  have FI := Lib.hid (fun w h1 h2 => fill_bad hok A n2 c2 w h1 h2 hz hn20)
  have RF := Lib.hid (fun w h2 => reffill_bad hok A n2 c2 w h2 hz hn20)
  have hne : (checkOf op a b c n != 0) = true := by simpa using hk
  simp only [hk, if_false] at hT hRT
  generalize checkOf op a b c n = er at *
  have TX := Lib.hid hT
  have RT := Lib.hid hRT
  have dl : decide ((20 : Int) < (n2 : Int)) = false := by simp; omega
  clear hT hRT hk hok hs hz hS hN ia ib ic inn
  unfold instrV at *
  go_enter Tryd.func3, Tryd.ntmps3
  go_wp2_with fail
  refine (awake02_any _ (HS.out.alloc _)).mono ?_
  rintro e w1 ⟨rfl, hb1⟩
  have Q1 := Lib.hid ((Whole.made w 23 #[.int .i64 op, .int .i64 a, .int .i64 b, .int .i64 c, .int .i64 n] _ rfl).below hb1 (by simp))
  have HS1 := Lib.hid ((HS.out.alloc _).below hb1 (Nat.le_refl _))
  have HN1 := Lib.hid ((HN.out.alloc _).below hb1 (Nat.le_refl _))
  have B1 := Lib.hid (((Below.refl _ _).alloc (Nat.le_refl _) _).trans (hb1.mono (show w.heap.size ≤ _ by simp)))
  have hz1 := Q1.out.lt
  clear hb1
  have q0 : w1.cell? ⟨w.heap.size, 0, none⟩ = some (.int .i64 op) := Q1.out.cell 0
  have q1 : w1.cell? ⟨w.heap.size, 1, none⟩ = some (.int .i64 a) := Q1.out.cell 1
  have q2 : w1.cell? ⟨w.heap.size, 2, none⟩ = some (.int .i64 b) := Q1.out.cell 2
  have q3 : w1.cell? ⟨w.heap.size, 3, none⟩ = some (.int .i64 c) := Q1.out.cell 3
  have q4 : w1.cell? ⟨w.heap.size, 4, none⟩ = some (.int .i64 n) := Q1.out.cell 4
  go_wp2_with fail
  refine (TX.out _ HS1.out HN1.out).mono ?_
  rintro e w2 ⟨rfl, hb2⟩
  clear q0 q1 q2 q3 q4
  have Q2 := Lib.hid (Q1.out.below hb2 hz1)
  have HS2 := Lib.hid (HS1.out.below hb2 (Nat.le_refl _))
  have B2 := Lib.hid (B1.out.trans (hb2.mono (Nat.le_of_lt hz1)))
  have hz2 := Q2.out.lt
  clear hb2
  have q0 : w2.cell? ⟨w.heap.size, 0, none⟩ = some (.int .i64 op) := Q2.out.cell 0
  have q1 : w2.cell? ⟨w.heap.size, 1, none⟩ = some (.int .i64 a) := Q2.out.cell 1
  have q2 : w2.cell? ⟨w.heap.size, 2, none⟩ = some (.int .i64 b) := Q2.out.cell 2
  have q3 : w2.cell? ⟨w.heap.size, 3, none⟩ = some (.int .i64 c) := Q2.out.cell 3
  have q4 : w2.cell? ⟨w.heap.size, 4, none⟩ = some (.int .i64 n) := Q2.out.cell 4
  go_wp2_with fail
  refine (RR.out _).mono ?_
  rintro e w3 ⟨rfl, hb3⟩
  clear q0 q1 q2 q3 q4
  have Q3 := Lib.hid (Q2.out.below hb3 hz2)
  have HS3 := Lib.hid (HS2.out.below hb3 (Nat.le_refl _))
  have B3 := Lib.hid (B2.out.trans (hb3.mono (Nat.le_of_lt hz2)))
  have hz3 := Q3.out.lt
  clear hb3
  have q0 : w3.cell? ⟨w.heap.size, 0, none⟩ = some (.int .i64 op) := Q3.out.cell 0
  have q1 : w3.cell? ⟨w.heap.size, 1, none⟩ = some (.int .i64 a) := Q3.out.cell 1
  have q2 : w3.cell? ⟨w.heap.size, 2, none⟩ = some (.int .i64 b) := Q3.out.cell 2
  have q3 : w3.cell? ⟨w.heap.size, 3, none⟩ = some (.int .i64 c) := Q3.out.cell 3
  have q4 : w3.cell? ⟨w.heap.size, 4, none⟩ = some (.int .i64 n) := Q3.out.cell 4
  go_wp2_with fail
  refine (RT.out _).mono ?_
  rintro e w4 ⟨rfl, hb4⟩
  clear q0 q1 q2 q3 q4
  have Q4 := Lib.hid (Q3.out.below hb4 hz3)
  have HS4 := Lib.hid (HS3.out.below hb4 (Nat.le_refl _))
  have B4 := Lib.hid (B3.out.trans (hb4.mono (Nat.le_of_lt hz3)))
  have hz4 := Q4.out.lt
  clear hb4
  have q0 : w4.cell? ⟨w.heap.size, 0, none⟩ = some (.int .i64 op) := Q4.out.cell 0
  have q1 : w4.cell? ⟨w.heap.size, 1, none⟩ = some (.int .i64 a) := Q4.out.cell 1
  have q2 : w4.cell? ⟨w.heap.size, 2, none⟩ = some (.int .i64 b) := Q4.out.cell 2
  have q3 : w4.cell? ⟨w.heap.size, 3, none⟩ = some (.int .i64 c) := Q4.out.cell 3
  have q4 : w4.cell? ⟨w.heap.size, 4, none⟩ = some (.int .i64 n) := Q4.out.cell 4
  go_wp2_with fail
  refine (FI.out _ HS4.out (LL.out.below (B4.out))).mono ?_
  rintro e w5 ⟨o5, a5, b5, c5, n5, rfl, hb5⟩
  clear q0 q1 q2 q3 q4
  have Q5 := Lib.hid (Q4.out.below hb5 hz4)
  have HS5 := Lib.hid (HS4.out.below hb5 (Nat.le_refl _))
  have B5 := Lib.hid (B4.out.trans (hb5.mono (Nat.le_of_lt hz4)))
  have hz5 := Q5.out.lt
  clear hb5
  have q0 : w5.cell? ⟨w.heap.size, 0, none⟩ = some (.int .i64 op) := Q5.out.cell 0
  have q1 : w5.cell? ⟨w.heap.size, 1, none⟩ = some (.int .i64 a) := Q5.out.cell 1
  have q2 : w5.cell? ⟨w.heap.size, 2, none⟩ = some (.int .i64 b) := Q5.out.cell 2
  have q3 : w5.cell? ⟨w.heap.size, 3, none⟩ = some (.int .i64 c) := Q5.out.cell 3
  have q4 : w5.cell? ⟨w.heap.size, 4, none⟩ = some (.int .i64 n) := Q5.out.cell 4
  have ne5 : w.heap.size ≠ w5.heap.size := Nat.ne_of_lt hz5
  go_wp2_with fail
  have T11 := Lib.hid (Whole.made w5 23 #[.int .i64 o5, .int .i64 a5, .int .i64 b5, .int .i64 c5, .int .i64 n5] w5.heap.size rfl)
  have Q6 := Lib.hid (Q5.out.alloc (.cells #[.int .i64 o5, .int .i64 a5, .int .i64 b5, .int .i64 c5, .int .i64 n5] 23))
  have B6 := Lib.hid (B5.out.alloc (Nat.le_of_lt hz5) (.cells #[.int .i64 o5, .int .i64 a5, .int .i64 b5, .int .i64 c5, .int .i64 n5] 23))
  have HS6 := Lib.hid (HS5.out.alloc (.cells #[.int .i64 o5, .int .i64 a5, .int .i64 b5, .int .i64 c5, .int .i64 n5] 23))
  generalize (w5.alloc (.cells #[.int .i64 o5, .int .i64 a5, .int .i64 b5, .int .i64 c5, .int .i64 n5] 23)) = W6 at *
  generalize w5.heap.size = g11 at *
  clear q0 q1 q2 q3 q4 Q5 HS5 B5
  have hz6 := T11.out.lt
  refine (RF.out _ (LL.out.below B6.out)).mono ?_
  rintro e w7 ⟨o6, a6, b6, c6, n6, rfl, hb6⟩
  have T11b := Lib.hid (T11.out.below hb6 hz6)
  have Q7 := Lib.hid (Q6.out.below hb6 Q6.out.lt)
  have HS7 := Lib.hid (HS6.out.below hb6 (Nat.le_refl _))
  have B7 := Lib.hid (B6.out.trans (hb6.mono (Nat.le_of_lt Q6.out.lt)))
  have hz7 := T11b.out.lt
  have hy7 := Q7.out.lt
  have ne7 : w.heap.size ≠ w7.heap.size := Nat.ne_of_lt hy7
  have ne8 : g11 ≠ w7.heap.size := Nat.ne_of_lt hz7
  clear hb6 T11 Q6 HS6 B6
  go_wp2_with fail
  have T13 := Lib.hid (Whole.made w7 31 #[.int .i64 o6, .int .i64 a6, .int .i64 b6, .int .i64 c6, .int .i64 n6] w7.heap.size rfl)
  have T12 := Lib.hid (T11b.out.alloc (.cells #[.int .i64 o6, .int .i64 a6, .int .i64 b6, .int .i64 c6, .int .i64 n6] 31))
  have Q8 := Lib.hid (Q7.out.alloc (.cells #[.int .i64 o6, .int .i64 a6, .int .i64 b6, .int .i64 c6, .int .i64 n6] 31))
  have B8 := Lib.hid (B7.out.alloc (Nat.le_of_lt hy7) (.cells #[.int .i64 o6, .int .i64 a6, .int .i64 b6, .int .i64 c6, .int .i64 n6] 31))
  have HS8 := Lib.hid (HS7.out.alloc (.cells #[.int .i64 o6, .int .i64 a6, .int .i64 b6, .int .i64 c6, .int .i64 n6] 31))
  generalize (w7.alloc (.cells #[.int .i64 o6, .int .i64 a6, .int .i64 b6, .int .i64 c6, .int .i64 n6] 31)) = W8 at *
  generalize w7.heap.size = g13 at *
  clear Q7 HS7 B7 T11b
  go_quiet (fail)
  have Q9 := Lib.hid (Q8.out.drawn nq)
  have HS9 := Lib.hid (HS8.out.drawn nq)
  have B9 := Lib.hid (below_drawn B8.out nq)
  clear T12 T13 Q8 HS8 B8
  generalize W8.drewN nq = y9 at *
  go_wp2_with fail
  go_ret
  exact ⟨rfl, B9.out⟩
end Go.Proofs.YtpjckkcljbnkiaaDoor

/- InstrTexts: one of its four ways. -/
namespace Go.Proofs.YtpjckkcljbnkiaaDoor
open Go.ChangeShapes Go.WideShapes Go.ChangeAt Go.RowKit
set_option linter.unusedVariables false

set_option maxHeartbeats 8000000 in
set_option maxRecDepth 100000 in
theorem texts_by (w : World) (hS : ShapesIn w) (hN : NamesIn w) (op a b c n : Int) (ia : I64 a) (ib : I64 b) (ic : I64 c) (inn : I64 n) (op2 : Int) (A : Option Addr) (n2 c2 : Nat) (ss : List ByteArray) (hs : Strs w A n2 ss) (hz : ∀ z ∈ ss, z.size ≤ maxLen) (hn20 : n2 ≤ 20) (hk : checkOf op a b c n ≠ 0) (hok : fillOk op2 ss = true) :
    Calls Tryd.prog 3 #[instrV op a b c n, .int .i64 op2, .slice A n2 c2] w fun e w' => e = .returned (.bool true) ∧ Below w.heap.size w w' := by
  have HS := Lib.hid hS
  have HN := Lib.hid hN
  have LL := Lib.hid hs
  have hT := fun w hs hn => text02_any op a b c n w hs hn ia ib ic inn
  have hRT := fun w => reftext02_any op a b c n w ia ib ic inn
  have RR := Lib.hid (fun w => ref_any op a b c n w)
  have FI := Lib.hid (fun w h1 h2 => fill_ok hok A n2 c2 w h1 h2 hz hn20)
  have RF := Lib.hid (fun w h2 => reffill_ok hok A n2 c2 w h2 hz hn20)
  have RX := Lib.hid (fun w => ref_any op2 (fa op2 ss) (fb op2 ss) (fc op2 ss) (fn op2 ss) w)
  have hne : (checkOf op a b c n != 0) = true := by simpa using hk
  simp only [hk, if_false] at hT hRT
  generalize checkOf op a b c n = er at *
  have TX := Lib.hid hT
  have RT := Lib.hid hRT
  have dl : decide ((20 : Int) < (n2 : Int)) = false := by simp; omega
  clear hT hRT hk hok hs hz hS hN ia ib ic inn
  unfold instrV at *
  generalize fa op2 ss = a2 at *
  generalize fb op2 ss = b2 at *
  generalize fc op2 ss = d2 at *
  generalize fn op2 ss = m2 at *
  go_enter Tryd.func3, Tryd.ntmps3
  go_wp2_with fail
  refine (awake02_any _ (HS.out.alloc _)).mono ?_
  rintro e w1 ⟨rfl, hb1⟩
  have Q1 := Lib.hid ((Whole.made w 23 #[.int .i64 op, .int .i64 a, .int .i64 b, .int .i64 c, .int .i64 n] _ rfl).below hb1 (by simp))
  have HS1 := Lib.hid ((HS.out.alloc _).below hb1 (Nat.le_refl _))
  have HN1 := Lib.hid ((HN.out.alloc _).below hb1 (Nat.le_refl _))
  have B1 := Lib.hid (((Below.refl _ _).alloc (Nat.le_refl _) _).trans (hb1.mono (show w.heap.size ≤ _ by simp)))
  have hz1 := Q1.out.lt
  clear hb1
  have q0 : w1.cell? ⟨w.heap.size, 0, none⟩ = some (.int .i64 op) := Q1.out.cell 0
  have q1 : w1.cell? ⟨w.heap.size, 1, none⟩ = some (.int .i64 a) := Q1.out.cell 1
  have q2 : w1.cell? ⟨w.heap.size, 2, none⟩ = some (.int .i64 b) := Q1.out.cell 2
  have q3 : w1.cell? ⟨w.heap.size, 3, none⟩ = some (.int .i64 c) := Q1.out.cell 3
  have q4 : w1.cell? ⟨w.heap.size, 4, none⟩ = some (.int .i64 n) := Q1.out.cell 4
  go_wp2_with fail
  refine (TX.out _ HS1.out HN1.out).mono ?_
  rintro e w2 ⟨rfl, hb2⟩
  clear q0 q1 q2 q3 q4
  have Q2 := Lib.hid (Q1.out.below hb2 hz1)
  have HS2 := Lib.hid (HS1.out.below hb2 (Nat.le_refl _))
  have B2 := Lib.hid (B1.out.trans (hb2.mono (Nat.le_of_lt hz1)))
  have hz2 := Q2.out.lt
  clear hb2
  have q0 : w2.cell? ⟨w.heap.size, 0, none⟩ = some (.int .i64 op) := Q2.out.cell 0
  have q1 : w2.cell? ⟨w.heap.size, 1, none⟩ = some (.int .i64 a) := Q2.out.cell 1
  have q2 : w2.cell? ⟨w.heap.size, 2, none⟩ = some (.int .i64 b) := Q2.out.cell 2
  have q3 : w2.cell? ⟨w.heap.size, 3, none⟩ = some (.int .i64 c) := Q2.out.cell 3
  have q4 : w2.cell? ⟨w.heap.size, 4, none⟩ = some (.int .i64 n) := Q2.out.cell 4
  go_wp2_with fail
  refine (RR.out _).mono ?_
  rintro e w3 ⟨rfl, hb3⟩
  clear q0 q1 q2 q3 q4
  have Q3 := Lib.hid (Q2.out.below hb3 hz2)
  have HS3 := Lib.hid (HS2.out.below hb3 (Nat.le_refl _))
  have B3 := Lib.hid (B2.out.trans (hb3.mono (Nat.le_of_lt hz2)))
  have hz3 := Q3.out.lt
  clear hb3
  have q0 : w3.cell? ⟨w.heap.size, 0, none⟩ = some (.int .i64 op) := Q3.out.cell 0
  have q1 : w3.cell? ⟨w.heap.size, 1, none⟩ = some (.int .i64 a) := Q3.out.cell 1
  have q2 : w3.cell? ⟨w.heap.size, 2, none⟩ = some (.int .i64 b) := Q3.out.cell 2
  have q3 : w3.cell? ⟨w.heap.size, 3, none⟩ = some (.int .i64 c) := Q3.out.cell 3
  have q4 : w3.cell? ⟨w.heap.size, 4, none⟩ = some (.int .i64 n) := Q3.out.cell 4
  go_wp2_with fail
  refine (RT.out _).mono ?_
  rintro e w4 ⟨rfl, hb4⟩
  clear q0 q1 q2 q3 q4
  have Q4 := Lib.hid (Q3.out.below hb4 hz3)
  have HS4 := Lib.hid (HS3.out.below hb4 (Nat.le_refl _))
  have B4 := Lib.hid (B3.out.trans (hb4.mono (Nat.le_of_lt hz3)))
  have hz4 := Q4.out.lt
  clear hb4
  have q0 : w4.cell? ⟨w.heap.size, 0, none⟩ = some (.int .i64 op) := Q4.out.cell 0
  have q1 : w4.cell? ⟨w.heap.size, 1, none⟩ = some (.int .i64 a) := Q4.out.cell 1
  have q2 : w4.cell? ⟨w.heap.size, 2, none⟩ = some (.int .i64 b) := Q4.out.cell 2
  have q3 : w4.cell? ⟨w.heap.size, 3, none⟩ = some (.int .i64 c) := Q4.out.cell 3
  have q4 : w4.cell? ⟨w.heap.size, 4, none⟩ = some (.int .i64 n) := Q4.out.cell 4
  go_wp2_with fail
  refine (FI.out _ HS4.out (LL.out.below (B4.out))).mono ?_
  rintro e w5 ⟨rfl, hb5⟩
  clear q0 q1 q2 q3 q4
  have Q5 := Lib.hid (Q4.out.below hb5 hz4)
  have HS5 := Lib.hid (HS4.out.below hb5 (Nat.le_refl _))
  have B5 := Lib.hid (B4.out.trans (hb5.mono (Nat.le_of_lt hz4)))
  have hz5 := Q5.out.lt
  clear hb5
  have q0 : w5.cell? ⟨w.heap.size, 0, none⟩ = some (.int .i64 op) := Q5.out.cell 0
  have q1 : w5.cell? ⟨w.heap.size, 1, none⟩ = some (.int .i64 a) := Q5.out.cell 1
  have q2 : w5.cell? ⟨w.heap.size, 2, none⟩ = some (.int .i64 b) := Q5.out.cell 2
  have q3 : w5.cell? ⟨w.heap.size, 3, none⟩ = some (.int .i64 c) := Q5.out.cell 3
  have q4 : w5.cell? ⟨w.heap.size, 4, none⟩ = some (.int .i64 n) := Q5.out.cell 4
  have ne5 : w.heap.size ≠ w5.heap.size := Nat.ne_of_lt hz5
  go_wp2_with fail
  have T11 := Lib.hid (Whole.made w5 23 #[.int .i64 op2, .int .i64 a2, .int .i64 b2, .int .i64 d2, .int .i64 m2] w5.heap.size rfl)
  have Q6 := Lib.hid (Q5.out.alloc (.cells #[.int .i64 op2, .int .i64 a2, .int .i64 b2, .int .i64 d2, .int .i64 m2] 23))
  have B6 := Lib.hid (B5.out.alloc (Nat.le_of_lt hz5) (.cells #[.int .i64 op2, .int .i64 a2, .int .i64 b2, .int .i64 d2, .int .i64 m2] 23))
  have HS6 := Lib.hid (HS5.out.alloc (.cells #[.int .i64 op2, .int .i64 a2, .int .i64 b2, .int .i64 d2, .int .i64 m2] 23))
  generalize (w5.alloc (.cells #[.int .i64 op2, .int .i64 a2, .int .i64 b2, .int .i64 d2, .int .i64 m2] 23)) = W6 at *
  generalize w5.heap.size = g11 at *
  clear q0 q1 q2 q3 q4 Q5 HS5 B5
  have hz6 := T11.out.lt
  refine (RF.out _ (LL.out.below B6.out)).mono ?_
  rintro e w7 ⟨rfl, hb6⟩
  have T11b := Lib.hid (T11.out.below hb6 hz6)
  have Q7 := Lib.hid (Q6.out.below hb6 Q6.out.lt)
  have HS7 := Lib.hid (HS6.out.below hb6 (Nat.le_refl _))
  have B7 := Lib.hid (B6.out.trans (hb6.mono (Nat.le_of_lt Q6.out.lt)))
  have hz7 := T11b.out.lt
  have hy7 := Q7.out.lt
  have ne7 : w.heap.size ≠ w7.heap.size := Nat.ne_of_lt hy7
  have ne8 : g11 ≠ w7.heap.size := Nat.ne_of_lt hz7
  clear hb6 T11 Q6 HS6 B6
  go_wp2_with fail
  have T13 := Lib.hid (Whole.made w7 31 #[.int .i64 op2, .int .i64 a2, .int .i64 b2, .int .i64 d2, .int .i64 m2] w7.heap.size rfl)
  have T12 := Lib.hid (T11b.out.alloc (.cells #[.int .i64 op2, .int .i64 a2, .int .i64 b2, .int .i64 d2, .int .i64 m2] 31))
  have Q8 := Lib.hid (Q7.out.alloc (.cells #[.int .i64 op2, .int .i64 a2, .int .i64 b2, .int .i64 d2, .int .i64 m2] 31))
  have B8 := Lib.hid (B7.out.alloc (Nat.le_of_lt hy7) (.cells #[.int .i64 op2, .int .i64 a2, .int .i64 b2, .int .i64 d2, .int .i64 m2] 31))
  have HS8 := Lib.hid (HS7.out.alloc (.cells #[.int .i64 op2, .int .i64 a2, .int .i64 b2, .int .i64 d2, .int .i64 m2] 31))
  generalize (w7.alloc (.cells #[.int .i64 op2, .int .i64 a2, .int .i64 b2, .int .i64 d2, .int .i64 m2] 31)) = W8 at *
  generalize w7.heap.size = g13 at *
  clear Q7 HS7 B7 T11b
  have LS : W8.cell? ⟨g11, 0, none⟩ = some (.int .i64 op2) ∧ W8.cell? ⟨g11, 1, none⟩ = some (.int .i64 a2) ∧ W8.cell? ⟨g11, 2, none⟩ = some (.int .i64 b2) ∧ W8.cell? ⟨g11, 3, none⟩ = some (.int .i64 d2) ∧ W8.cell? ⟨g11, 4, none⟩ = some (.int .i64 m2) ∧ W8.cell? ⟨g13, 0, none⟩ = some (.int .i64 op2) ∧ W8.cell? ⟨g13, 1, none⟩ = some (.int .i64 a2) ∧ W8.cell? ⟨g13, 2, none⟩ = some (.int .i64 b2) ∧ W8.cell? ⟨g13, 3, none⟩ = some (.int .i64 d2) ∧ W8.cell? ⟨g13, 4, none⟩ = some (.int .i64 m2) := ⟨T12.out.cell 0, T12.out.cell 1, T12.out.cell 2, T12.out.cell 3, T12.out.cell 4, T13.out.cell 0, T13.out.cell 1, T13.out.cell 2, T13.out.cell 3, T13.out.cell 4⟩
  go_region_held3 (fun y => y.cell? ⟨g11, 0, none⟩ = some (.int .i64 op2) ∧ y.cell? ⟨g11, 1, none⟩ = some (.int .i64 a2) ∧ y.cell? ⟨g11, 2, none⟩ = some (.int .i64 b2) ∧ y.cell? ⟨g11, 3, none⟩ = some (.int .i64 d2) ∧ y.cell? ⟨g11, 4, none⟩ = some (.int .i64 m2) ∧ y.cell? ⟨g13, 0, none⟩ = some (.int .i64 op2) ∧ y.cell? ⟨g13, 1, none⟩ = some (.int .i64 a2) ∧ y.cell? ⟨g13, 2, none⟩ = some (.int .i64 b2) ∧ y.cell? ⟨g13, 3, none⟩ = some (.int .i64 d2) ∧ y.cell? ⟨g13, 4, none⟩ = some (.int .i64 m2))
    (first
      | with_reducible assumption
      | exact keep10 (by assumption) (Below.refl _ _).drew
      | exact keep10 (by assumption) hbm)
    (first
      | (refine (RX.out _).mono ?_; rintro e y9 ⟨rfl, hbm⟩))
  rename _ ∧ _ => hHl
  clear hHl LS
  have Q9 := Lib.hid (Whole.below (w := W8.drew) Q8.out hbm Q8.out.lt)
  have HS9 := Lib.hid (ShapesIn.below (w := W8.drew) HS8.out hbm (Nat.le_refl _))
  have B9 := Lib.hid (B8.out.drew.trans (hbm.mono (Nat.le_of_lt Q8.out.lt)))
  clear hbm T12 T13
  go_wp2_with fail
  go_ret
  exact ⟨rfl, B9.out⟩
end Go.Proofs.YtpjckkcljbnkiaaDoor

/- InstrTexts: one of its four ways. -/
namespace Go.Proofs.YtpjckkcljbnkiaaDoor
open Go.ChangeShapes Go.WideShapes Go.ChangeAt Go.RowKit
set_option linter.unusedVariables false

set_option maxHeartbeats 8000000 in
set_option maxRecDepth 100000 in
theorem texts_gn (w : World) (hS : ShapesIn w) (hN : NamesIn w) (op a b c n : Int) (ia : I64 a) (ib : I64 b) (ic : I64 c) (inn : I64 n) (op2 : Int) (A : Option Addr) (n2 c2 : Nat) (ss : List ByteArray) (hs : Strs w A n2 ss) (hz : ∀ z ∈ ss, z.size ≤ maxLen) (hn20 : n2 ≤ 20) (hk : checkOf op a b c n = 0) (hok : fillOk op2 ss = false) :
    Calls Tryd.prog 3 #[instrV op a b c n, .int .i64 op2, .slice A n2 c2] w fun e w' => e = .returned (.bool true) ∧ Below w.heap.size w w' := by
  have HS := Lib.hid hS
  have HN := Lib.hid hN
  have LL := Lib.hid hs
  have hT := fun w hs hn => text02_any op a b c n w hs hn ia ib ic inn
  have hRT := fun w => reftext02_any op a b c n w ia ib ic inn
  have RR := Lib.hid (fun w => ref_any op a b c n w)
  have FI := Lib.hid (fun w h1 h2 => fill_bad hok A n2 c2 w h1 h2 hz hn20)
  have RF := Lib.hid (fun w h2 => reffill_bad hok A n2 c2 w h2 hz hn20)
  have FD := Lib.hid (fun w => fields_any op a b c n w ia ib ic inn (good_of_check hk).1)
  have OF := Lib.hid (fun A m cp w => own_fill hk A m cp w)
  simp only [hk, if_true] at hT hRT
  generalize textOf op a b c n = tx at *
  have TX := Lib.hid hT
  have RT := Lib.hid hRT
  have dl : decide ((20 : Int) < (n2 : Int)) = false := by simp; omega
  clear hT hRT hk hok hs hz hS hN ia ib ic inn
  unfold instrV at *
  unfold OwnPost at OF
  go_enter Tryd.func3, Tryd.ntmps3
  go_wp2_with fail
  refine (awake02_any _ (HS.out.alloc _)).mono ?_
  rintro e w1 ⟨rfl, hb1⟩
  have Q1 := Lib.hid ((Whole.made w 23 #[.int .i64 op, .int .i64 a, .int .i64 b, .int .i64 c, .int .i64 n] _ rfl).below hb1 (by simp))
  have HS1 := Lib.hid ((HS.out.alloc _).below hb1 (Nat.le_refl _))
  have HN1 := Lib.hid ((HN.out.alloc _).below hb1 (Nat.le_refl _))
  have B1 := Lib.hid (((Below.refl _ _).alloc (Nat.le_refl _) _).trans (hb1.mono (show w.heap.size ≤ _ by simp)))
  have hz1 := Q1.out.lt
  clear hb1
  have q0 : w1.cell? ⟨w.heap.size, 0, none⟩ = some (.int .i64 op) := Q1.out.cell 0
  have q1 : w1.cell? ⟨w.heap.size, 1, none⟩ = some (.int .i64 a) := Q1.out.cell 1
  have q2 : w1.cell? ⟨w.heap.size, 2, none⟩ = some (.int .i64 b) := Q1.out.cell 2
  have q3 : w1.cell? ⟨w.heap.size, 3, none⟩ = some (.int .i64 c) := Q1.out.cell 3
  have q4 : w1.cell? ⟨w.heap.size, 4, none⟩ = some (.int .i64 n) := Q1.out.cell 4
  go_wp2_with fail
  refine (TX.out _ HS1.out HN1.out).mono ?_
  rintro e w2 ⟨rfl, hb2⟩
  clear q0 q1 q2 q3 q4
  have Q2 := Lib.hid (Q1.out.below hb2 hz1)
  have HS2 := Lib.hid (HS1.out.below hb2 (Nat.le_refl _))
  have B2 := Lib.hid (B1.out.trans (hb2.mono (Nat.le_of_lt hz1)))
  have hz2 := Q2.out.lt
  clear hb2
  have q0 : w2.cell? ⟨w.heap.size, 0, none⟩ = some (.int .i64 op) := Q2.out.cell 0
  have q1 : w2.cell? ⟨w.heap.size, 1, none⟩ = some (.int .i64 a) := Q2.out.cell 1
  have q2 : w2.cell? ⟨w.heap.size, 2, none⟩ = some (.int .i64 b) := Q2.out.cell 2
  have q3 : w2.cell? ⟨w.heap.size, 3, none⟩ = some (.int .i64 c) := Q2.out.cell 3
  have q4 : w2.cell? ⟨w.heap.size, 4, none⟩ = some (.int .i64 n) := Q2.out.cell 4
  go_wp2_with fail
  refine (RR.out _).mono ?_
  rintro e w3 ⟨rfl, hb3⟩
  clear q0 q1 q2 q3 q4
  have Q3 := Lib.hid (Q2.out.below hb3 hz2)
  have HS3 := Lib.hid (HS2.out.below hb3 (Nat.le_refl _))
  have B3 := Lib.hid (B2.out.trans (hb3.mono (Nat.le_of_lt hz2)))
  have hz3 := Q3.out.lt
  clear hb3
  have q0 : w3.cell? ⟨w.heap.size, 0, none⟩ = some (.int .i64 op) := Q3.out.cell 0
  have q1 : w3.cell? ⟨w.heap.size, 1, none⟩ = some (.int .i64 a) := Q3.out.cell 1
  have q2 : w3.cell? ⟨w.heap.size, 2, none⟩ = some (.int .i64 b) := Q3.out.cell 2
  have q3 : w3.cell? ⟨w.heap.size, 3, none⟩ = some (.int .i64 c) := Q3.out.cell 3
  have q4 : w3.cell? ⟨w.heap.size, 4, none⟩ = some (.int .i64 n) := Q3.out.cell 4
  go_wp2_with fail
  refine (RT.out _).mono ?_
  rintro e w4 ⟨rfl, hb4⟩
  clear q0 q1 q2 q3 q4
  have Q4 := Lib.hid (Q3.out.below hb4 hz3)
  have HS4 := Lib.hid (HS3.out.below hb4 (Nat.le_refl _))
  have B4 := Lib.hid (B3.out.trans (hb4.mono (Nat.le_of_lt hz3)))
  have hz4 := Q4.out.lt
  clear hb4
  have q0 : w4.cell? ⟨w.heap.size, 0, none⟩ = some (.int .i64 op) := Q4.out.cell 0
  have q1 : w4.cell? ⟨w.heap.size, 1, none⟩ = some (.int .i64 a) := Q4.out.cell 1
  have q2 : w4.cell? ⟨w.heap.size, 2, none⟩ = some (.int .i64 b) := Q4.out.cell 2
  have q3 : w4.cell? ⟨w.heap.size, 3, none⟩ = some (.int .i64 c) := Q4.out.cell 3
  have q4 : w4.cell? ⟨w.heap.size, 4, none⟩ = some (.int .i64 n) := Q4.out.cell 4
  go_wp2_with fail
  refine (FI.out _ HS4.out (LL.out.below (B4.out))).mono ?_
  rintro e w5 ⟨o5, a5, b5, c5, n5, rfl, hb5⟩
  clear q0 q1 q2 q3 q4
  have Q5 := Lib.hid (Q4.out.below hb5 hz4)
  have HS5 := Lib.hid (HS4.out.below hb5 (Nat.le_refl _))
  have B5 := Lib.hid (B4.out.trans (hb5.mono (Nat.le_of_lt hz4)))
  have hz5 := Q5.out.lt
  clear hb5
  have q0 : w5.cell? ⟨w.heap.size, 0, none⟩ = some (.int .i64 op) := Q5.out.cell 0
  have q1 : w5.cell? ⟨w.heap.size, 1, none⟩ = some (.int .i64 a) := Q5.out.cell 1
  have q2 : w5.cell? ⟨w.heap.size, 2, none⟩ = some (.int .i64 b) := Q5.out.cell 2
  have q3 : w5.cell? ⟨w.heap.size, 3, none⟩ = some (.int .i64 c) := Q5.out.cell 3
  have q4 : w5.cell? ⟨w.heap.size, 4, none⟩ = some (.int .i64 n) := Q5.out.cell 4
  have ne5 : w.heap.size ≠ w5.heap.size := Nat.ne_of_lt hz5
  go_wp2_with fail
  have T11 := Lib.hid (Whole.made w5 23 #[.int .i64 o5, .int .i64 a5, .int .i64 b5, .int .i64 c5, .int .i64 n5] w5.heap.size rfl)
  have Q6 := Lib.hid (Q5.out.alloc (.cells #[.int .i64 o5, .int .i64 a5, .int .i64 b5, .int .i64 c5, .int .i64 n5] 23))
  have B6 := Lib.hid (B5.out.alloc (Nat.le_of_lt hz5) (.cells #[.int .i64 o5, .int .i64 a5, .int .i64 b5, .int .i64 c5, .int .i64 n5] 23))
  have HS6 := Lib.hid (HS5.out.alloc (.cells #[.int .i64 o5, .int .i64 a5, .int .i64 b5, .int .i64 c5, .int .i64 n5] 23))
  generalize (w5.alloc (.cells #[.int .i64 o5, .int .i64 a5, .int .i64 b5, .int .i64 c5, .int .i64 n5] 23)) = W6 at *
  generalize w5.heap.size = g11 at *
  clear q0 q1 q2 q3 q4 Q5 HS5 B5
  have hz6 := T11.out.lt
  refine (RF.out _ (LL.out.below B6.out)).mono ?_
  rintro e w7 ⟨o6, a6, b6, c6, n6, rfl, hb6⟩
  have T11b := Lib.hid (T11.out.below hb6 hz6)
  have Q7 := Lib.hid (Q6.out.below hb6 Q6.out.lt)
  have HS7 := Lib.hid (HS6.out.below hb6 (Nat.le_refl _))
  have B7 := Lib.hid (B6.out.trans (hb6.mono (Nat.le_of_lt Q6.out.lt)))
  have hz7 := T11b.out.lt
  have hy7 := Q7.out.lt
  have ne7 : w.heap.size ≠ w7.heap.size := Nat.ne_of_lt hy7
  have ne8 : g11 ≠ w7.heap.size := Nat.ne_of_lt hz7
  clear hb6 T11 Q6 HS6 B6
  go_wp2_with fail
  have T13 := Lib.hid (Whole.made w7 31 #[.int .i64 o6, .int .i64 a6, .int .i64 b6, .int .i64 c6, .int .i64 n6] w7.heap.size rfl)
  have T12 := Lib.hid (T11b.out.alloc (.cells #[.int .i64 o6, .int .i64 a6, .int .i64 b6, .int .i64 c6, .int .i64 n6] 31))
  have Q8 := Lib.hid (Q7.out.alloc (.cells #[.int .i64 o6, .int .i64 a6, .int .i64 b6, .int .i64 c6, .int .i64 n6] 31))
  have B8 := Lib.hid (B7.out.alloc (Nat.le_of_lt hy7) (.cells #[.int .i64 o6, .int .i64 a6, .int .i64 b6, .int .i64 c6, .int .i64 n6] 31))
  have HS8 := Lib.hid (HS7.out.alloc (.cells #[.int .i64 o6, .int .i64 a6, .int .i64 b6, .int .i64 c6, .int .i64 n6] 31))
  generalize (w7.alloc (.cells #[.int .i64 o6, .int .i64 a6, .int .i64 b6, .int .i64 c6, .int .i64 n6] 31)) = W8 at *
  generalize w7.heap.size = g13 at *
  clear Q7 HS7 B7 T11b
  go_quiet (fail)
  have Q9 := Lib.hid (Q8.out.drawn nq)
  have HS9 := Lib.hid (HS8.out.drawn nq)
  have B9 := Lib.hid (below_drawn B8.out nq)
  clear T12 T13 Q8 HS8 B8
  generalize W8.drewN nq = y9 at *
  go_wp2_with fail
  have hz9 := Q9.out.lt
  have B9d := Lib.hid B9.out.drew
  have LS : y9.cell? ⟨w.heap.size, 0, none⟩ = some (.int .i64 op) ∧ y9.cell? ⟨w.heap.size, 1, none⟩ = some (.int .i64 a) ∧ y9.cell? ⟨w.heap.size, 2, none⟩ = some (.int .i64 b) ∧ y9.cell? ⟨w.heap.size, 3, none⟩ = some (.int .i64 c) ∧ y9.cell? ⟨w.heap.size, 4, none⟩ = some (.int .i64 n) ∧ Hid (ShapesIn y9) := ⟨Q9.out.cell 0, Q9.out.cell 1, Q9.out.cell 2, Q9.out.cell 3, Q9.out.cell 4, HS9⟩
  go_region_held3 (fun y => y.cell? ⟨w.heap.size, 0, none⟩ = some (.int .i64 op) ∧ y.cell? ⟨w.heap.size, 1, none⟩ = some (.int .i64 a) ∧ y.cell? ⟨w.heap.size, 2, none⟩ = some (.int .i64 b) ∧ y.cell? ⟨w.heap.size, 3, none⟩ = some (.int .i64 c) ∧ y.cell? ⟨w.heap.size, 4, none⟩ = some (.int .i64 n) ∧ Hid (ShapesIn y))
    (first
      | with_reducible assumption
      | with_reducible exact keepT_set LS SF
      | with_reducible exact keepT_set SA SF
      | with_reducible exact keepT_set SB SF
      | with_reducible exact keepT_call (by assumption) (Below.refl _ _).drew
      | with_reducible exact keepT_call (by assumption) ((Below.refl _ _).alloc (Nat.le_refl _) _)
      | with_reducible exact keepT_call (by assumption) hbm
      | with_reducible exact keepT_call (by assumption) hbk
      | with_reducible exact keepT_call (by assumption) hbf
      | with_reducible exact keepT_call SF ((Below.refl _ _).alloc (Nat.le_refl _) _)
      | (trace_state; fail))
    (first
      | (go_at_call 7; refine (RR.out _).mono ?_; rintro e ya ⟨rfl, hbm⟩; have SA := keepT_call (by assumption) hbm; (first | (with_reducible have BA := Lib.hid (below_step B9d.out hbm)) | (with_reducible have BA := Lib.hid (below_step (B9d.out.alloc B9d.out.size _) hbm)) | (with_reducible have BA := Lib.hid (below_step (B9.out.alloc B9.out.size _).drew hbm))); first | (with_reducible have TA := Whole.below (made_drew y9 23 #[.int .i64 0, .int .i64 0, .int .i64 0, .int .i64 0, .int .i64 0]) hbm (by simp)) | (with_reducible have TA := Whole.below (Whole.drew (Whole.made y9 23 #[.int .i64 0, .int .i64 0, .int .i64 0, .int .i64 0, .int .i64 0] y9.heap.size rfl)) hbm (by simp)) | skip)
      | (go_at_call 10; refine (FD.out _).mono ?_; rintro e yb ⟨A3, m3, k3, rfl, ho, hbk⟩; have SB := keepT_call (by assumption) hbk; (first | (with_reducible have BB := Lib.hid (below_step BA.out hbk)) | (with_reducible have BB := Lib.hid (below_step (BA.out.alloc BA.out.size _) hbk))); first | (with_reducible have TB := Whole.below TA hbk TA.lt) | (with_reducible have TB := Whole.below (Whole.made ya 23 #[.int .i64 0, .int .i64 0, .int .i64 0, .int .i64 0, .int .i64 0] ya.heap.size rfl) hbk (by simp)) | skip)
      | (go_at_call 8; refine (OF.out _ _ _ _ (by exact keepT_shapes (by assumption)) (by first | with_reducible exact ho.nums | with_reducible exact (ho.alloc _).nums)).mono ?_; rintro e yc ⟨rfl, hbf⟩; have SF := keepT_call (by assumption) hbf; (first | (with_reducible have BF := Lib.hid (below_step BB.out hbf)) | (with_reducible have BF := Lib.hid (below_step (BB.out.alloc BB.out.size _) hbf))); first | ((with_reducible have TF := (show Whole yc y9.heap.size 23 #[.int .i64 0, .int .i64 0, .int .i64 0, .int .i64 0, .int .i64 0] from Whole.below TB hbf TB.lt)); have c0 : yc.cell? ⟨y9.heap.size, 0, none⟩ = some (.int .i64 0) := TF.cell 0; have c1 : yc.cell? ⟨y9.heap.size, 1, none⟩ = some (.int .i64 0) := TF.cell 1; have c2 : yc.cell? ⟨y9.heap.size, 2, none⟩ = some (.int .i64 0) := TF.cell 2; have c3 : yc.cell? ⟨y9.heap.size, 3, none⟩ = some (.int .i64 0) := TF.cell 3; have c4 : yc.cell? ⟨y9.heap.size, 4, none⟩ = some (.int .i64 0) := TF.cell 4; have cf : ∀ i, yc.frozen? ⟨y9.heap.size, i, none⟩ = false := TF.free; clear TF) | ((with_reducible have TF := (show Whole yc ya.heap.size 23 #[.int .i64 0, .int .i64 0, .int .i64 0, .int .i64 0, .int .i64 0] from Whole.below TB hbf TB.lt)); have c0 : yc.cell? ⟨ya.heap.size, 0, none⟩ = some (.int .i64 0) := TF.cell 0; have c1 : yc.cell? ⟨ya.heap.size, 1, none⟩ = some (.int .i64 0) := TF.cell 1; have c2 : yc.cell? ⟨ya.heap.size, 2, none⟩ = some (.int .i64 0) := TF.cell 2; have c3 : yc.cell? ⟨ya.heap.size, 3, none⟩ = some (.int .i64 0) := TF.cell 3; have c4 : yc.cell? ⟨ya.heap.size, 4, none⟩ = some (.int .i64 0) := TF.cell 4; have cf : ∀ i, yc.frozen? ⟨ya.heap.size, i, none⟩ = false := TF.free; clear TF) | ((with_reducible have TF := Whole.below (Whole.made yb 23 #[.int .i64 0, .int .i64 0, .int .i64 0, .int .i64 0, .int .i64 0] yb.heap.size rfl) hbf (by simp)); have c0 : yc.cell? ⟨yb.heap.size, 0, none⟩ = some (.int .i64 0) := TF.cell 0; have c1 : yc.cell? ⟨yb.heap.size, 1, none⟩ = some (.int .i64 0) := TF.cell 1; have c2 : yc.cell? ⟨yb.heap.size, 2, none⟩ = some (.int .i64 0) := TF.cell 2; have c3 : yc.cell? ⟨yb.heap.size, 3, none⟩ = some (.int .i64 0) := TF.cell 3; have c4 : yc.cell? ⟨yb.heap.size, 4, none⟩ = some (.int .i64 0) := TF.cell 4; have cf : ∀ i, yc.frozen? ⟨yb.heap.size, i, none⟩ = false := TF.free; clear TF) | skip))
  all_goals
    go_wp2_with fail
    go_ret
    refine ⟨rfl, ?_⟩
    repeat (first | exact BF.out.alloc BF.out.size _ | exact BF.out | refine Below.setCell ?_ (by first | exact BB.out.size | exact BA.out.size | exact B9.out.size) _)

end Go.Proofs.YtpjckkcljbnkiaaDoor

/- InstrTexts: one of its four ways. -/
namespace Go.Proofs.YtpjckkcljbnkiaaDoor
open Go.ChangeShapes Go.WideShapes Go.ChangeAt Go.RowKit
set_option linter.unusedVariables false

set_option maxHeartbeats 8000000 in
set_option maxRecDepth 100000 in
theorem texts_gy (w : World) (hS : ShapesIn w) (hN : NamesIn w) (op a b c n : Int) (ia : I64 a) (ib : I64 b) (ic : I64 c) (inn : I64 n) (op2 : Int) (A : Option Addr) (n2 c2 : Nat) (ss : List ByteArray) (hs : Strs w A n2 ss) (hz : ∀ z ∈ ss, z.size ≤ maxLen) (hn20 : n2 ≤ 20) (hk : checkOf op a b c n = 0) (hok : fillOk op2 ss = true) :
    Calls Tryd.prog 3 #[instrV op a b c n, .int .i64 op2, .slice A n2 c2] w fun e w' => e = .returned (.bool true) ∧ Below w.heap.size w w' := by
  have HS := Lib.hid hS
  have HN := Lib.hid hN
  have LL := Lib.hid hs
  have hT := fun w hs hn => text02_any op a b c n w hs hn ia ib ic inn
  have hRT := fun w => reftext02_any op a b c n w ia ib ic inn
  have RR := Lib.hid (fun w => ref_any op a b c n w)
  have FI := Lib.hid (fun w h1 h2 => fill_ok hok A n2 c2 w h1 h2 hz hn20)
  have RF := Lib.hid (fun w h2 => reffill_ok hok A n2 c2 w h2 hz hn20)
  have RX := Lib.hid (fun w => ref_any op2 (fa op2 ss) (fb op2 ss) (fc op2 ss) (fn op2 ss) w)
  have FD := Lib.hid (fun w => fields_any op a b c n w ia ib ic inn (good_of_check hk).1)
  have OF := Lib.hid (fun A m cp w => own_fill hk A m cp w)
  simp only [hk, if_true] at hT hRT
  generalize textOf op a b c n = tx at *
  have TX := Lib.hid hT
  have RT := Lib.hid hRT
  have dl : decide ((20 : Int) < (n2 : Int)) = false := by simp; omega
  clear hT hRT hk hok hs hz hS hN ia ib ic inn
  unfold instrV at *
  unfold OwnPost at OF
  generalize fa op2 ss = a2 at *
  generalize fb op2 ss = b2 at *
  generalize fc op2 ss = d2 at *
  generalize fn op2 ss = m2 at *
  go_enter Tryd.func3, Tryd.ntmps3
  go_wp2_with fail
  refine (awake02_any _ (HS.out.alloc _)).mono ?_
  rintro e w1 ⟨rfl, hb1⟩
  have Q1 := Lib.hid ((Whole.made w 23 #[.int .i64 op, .int .i64 a, .int .i64 b, .int .i64 c, .int .i64 n] _ rfl).below hb1 (by simp))
  have HS1 := Lib.hid ((HS.out.alloc _).below hb1 (Nat.le_refl _))
  have HN1 := Lib.hid ((HN.out.alloc _).below hb1 (Nat.le_refl _))
  have B1 := Lib.hid (((Below.refl _ _).alloc (Nat.le_refl _) _).trans (hb1.mono (show w.heap.size ≤ _ by simp)))
  have hz1 := Q1.out.lt
  clear hb1
  have q0 : w1.cell? ⟨w.heap.size, 0, none⟩ = some (.int .i64 op) := Q1.out.cell 0
  have q1 : w1.cell? ⟨w.heap.size, 1, none⟩ = some (.int .i64 a) := Q1.out.cell 1
  have q2 : w1.cell? ⟨w.heap.size, 2, none⟩ = some (.int .i64 b) := Q1.out.cell 2
  have q3 : w1.cell? ⟨w.heap.size, 3, none⟩ = some (.int .i64 c) := Q1.out.cell 3
  have q4 : w1.cell? ⟨w.heap.size, 4, none⟩ = some (.int .i64 n) := Q1.out.cell 4
  go_wp2_with fail
  refine (TX.out _ HS1.out HN1.out).mono ?_
  rintro e w2 ⟨rfl, hb2⟩
  clear q0 q1 q2 q3 q4
  have Q2 := Lib.hid (Q1.out.below hb2 hz1)
  have HS2 := Lib.hid (HS1.out.below hb2 (Nat.le_refl _))
  have B2 := Lib.hid (B1.out.trans (hb2.mono (Nat.le_of_lt hz1)))
  have hz2 := Q2.out.lt
  clear hb2
  have q0 : w2.cell? ⟨w.heap.size, 0, none⟩ = some (.int .i64 op) := Q2.out.cell 0
  have q1 : w2.cell? ⟨w.heap.size, 1, none⟩ = some (.int .i64 a) := Q2.out.cell 1
  have q2 : w2.cell? ⟨w.heap.size, 2, none⟩ = some (.int .i64 b) := Q2.out.cell 2
  have q3 : w2.cell? ⟨w.heap.size, 3, none⟩ = some (.int .i64 c) := Q2.out.cell 3
  have q4 : w2.cell? ⟨w.heap.size, 4, none⟩ = some (.int .i64 n) := Q2.out.cell 4
  go_wp2_with fail
  refine (RR.out _).mono ?_
  rintro e w3 ⟨rfl, hb3⟩
  clear q0 q1 q2 q3 q4
  have Q3 := Lib.hid (Q2.out.below hb3 hz2)
  have HS3 := Lib.hid (HS2.out.below hb3 (Nat.le_refl _))
  have B3 := Lib.hid (B2.out.trans (hb3.mono (Nat.le_of_lt hz2)))
  have hz3 := Q3.out.lt
  clear hb3
  have q0 : w3.cell? ⟨w.heap.size, 0, none⟩ = some (.int .i64 op) := Q3.out.cell 0
  have q1 : w3.cell? ⟨w.heap.size, 1, none⟩ = some (.int .i64 a) := Q3.out.cell 1
  have q2 : w3.cell? ⟨w.heap.size, 2, none⟩ = some (.int .i64 b) := Q3.out.cell 2
  have q3 : w3.cell? ⟨w.heap.size, 3, none⟩ = some (.int .i64 c) := Q3.out.cell 3
  have q4 : w3.cell? ⟨w.heap.size, 4, none⟩ = some (.int .i64 n) := Q3.out.cell 4
  go_wp2_with fail
  refine (RT.out _).mono ?_
  rintro e w4 ⟨rfl, hb4⟩
  clear q0 q1 q2 q3 q4
  have Q4 := Lib.hid (Q3.out.below hb4 hz3)
  have HS4 := Lib.hid (HS3.out.below hb4 (Nat.le_refl _))
  have B4 := Lib.hid (B3.out.trans (hb4.mono (Nat.le_of_lt hz3)))
  have hz4 := Q4.out.lt
  clear hb4
  have q0 : w4.cell? ⟨w.heap.size, 0, none⟩ = some (.int .i64 op) := Q4.out.cell 0
  have q1 : w4.cell? ⟨w.heap.size, 1, none⟩ = some (.int .i64 a) := Q4.out.cell 1
  have q2 : w4.cell? ⟨w.heap.size, 2, none⟩ = some (.int .i64 b) := Q4.out.cell 2
  have q3 : w4.cell? ⟨w.heap.size, 3, none⟩ = some (.int .i64 c) := Q4.out.cell 3
  have q4 : w4.cell? ⟨w.heap.size, 4, none⟩ = some (.int .i64 n) := Q4.out.cell 4
  go_wp2_with fail
  refine (FI.out _ HS4.out (LL.out.below (B4.out))).mono ?_
  rintro e w5 ⟨rfl, hb5⟩
  clear q0 q1 q2 q3 q4
  have Q5 := Lib.hid (Q4.out.below hb5 hz4)
  have HS5 := Lib.hid (HS4.out.below hb5 (Nat.le_refl _))
  have B5 := Lib.hid (B4.out.trans (hb5.mono (Nat.le_of_lt hz4)))
  have hz5 := Q5.out.lt
  clear hb5
  have q0 : w5.cell? ⟨w.heap.size, 0, none⟩ = some (.int .i64 op) := Q5.out.cell 0
  have q1 : w5.cell? ⟨w.heap.size, 1, none⟩ = some (.int .i64 a) := Q5.out.cell 1
  have q2 : w5.cell? ⟨w.heap.size, 2, none⟩ = some (.int .i64 b) := Q5.out.cell 2
  have q3 : w5.cell? ⟨w.heap.size, 3, none⟩ = some (.int .i64 c) := Q5.out.cell 3
  have q4 : w5.cell? ⟨w.heap.size, 4, none⟩ = some (.int .i64 n) := Q5.out.cell 4
  have ne5 : w.heap.size ≠ w5.heap.size := Nat.ne_of_lt hz5
  go_wp2_with fail
  have T11 := Lib.hid (Whole.made w5 23 #[.int .i64 op2, .int .i64 a2, .int .i64 b2, .int .i64 d2, .int .i64 m2] w5.heap.size rfl)
  have Q6 := Lib.hid (Q5.out.alloc (.cells #[.int .i64 op2, .int .i64 a2, .int .i64 b2, .int .i64 d2, .int .i64 m2] 23))
  have B6 := Lib.hid (B5.out.alloc (Nat.le_of_lt hz5) (.cells #[.int .i64 op2, .int .i64 a2, .int .i64 b2, .int .i64 d2, .int .i64 m2] 23))
  have HS6 := Lib.hid (HS5.out.alloc (.cells #[.int .i64 op2, .int .i64 a2, .int .i64 b2, .int .i64 d2, .int .i64 m2] 23))
  generalize (w5.alloc (.cells #[.int .i64 op2, .int .i64 a2, .int .i64 b2, .int .i64 d2, .int .i64 m2] 23)) = W6 at *
  generalize w5.heap.size = g11 at *
  clear q0 q1 q2 q3 q4 Q5 HS5 B5
  have hz6 := T11.out.lt
  refine (RF.out _ (LL.out.below B6.out)).mono ?_
  rintro e w7 ⟨rfl, hb6⟩
  have T11b := Lib.hid (T11.out.below hb6 hz6)
  have Q7 := Lib.hid (Q6.out.below hb6 Q6.out.lt)
  have HS7 := Lib.hid (HS6.out.below hb6 (Nat.le_refl _))
  have B7 := Lib.hid (B6.out.trans (hb6.mono (Nat.le_of_lt Q6.out.lt)))
  have hz7 := T11b.out.lt
  have hy7 := Q7.out.lt
  have ne7 : w.heap.size ≠ w7.heap.size := Nat.ne_of_lt hy7
  have ne8 : g11 ≠ w7.heap.size := Nat.ne_of_lt hz7
  clear hb6 T11 Q6 HS6 B6
  go_wp2_with fail
  have T13 := Lib.hid (Whole.made w7 31 #[.int .i64 op2, .int .i64 a2, .int .i64 b2, .int .i64 d2, .int .i64 m2] w7.heap.size rfl)
  have T12 := Lib.hid (T11b.out.alloc (.cells #[.int .i64 op2, .int .i64 a2, .int .i64 b2, .int .i64 d2, .int .i64 m2] 31))
  have Q8 := Lib.hid (Q7.out.alloc (.cells #[.int .i64 op2, .int .i64 a2, .int .i64 b2, .int .i64 d2, .int .i64 m2] 31))
  have B8 := Lib.hid (B7.out.alloc (Nat.le_of_lt hy7) (.cells #[.int .i64 op2, .int .i64 a2, .int .i64 b2, .int .i64 d2, .int .i64 m2] 31))
  have HS8 := Lib.hid (HS7.out.alloc (.cells #[.int .i64 op2, .int .i64 a2, .int .i64 b2, .int .i64 d2, .int .i64 m2] 31))
  generalize (w7.alloc (.cells #[.int .i64 op2, .int .i64 a2, .int .i64 b2, .int .i64 d2, .int .i64 m2] 31)) = W8 at *
  generalize w7.heap.size = g13 at *
  clear Q7 HS7 B7 T11b
  have LS : W8.cell? ⟨g11, 0, none⟩ = some (.int .i64 op2) ∧ W8.cell? ⟨g11, 1, none⟩ = some (.int .i64 a2) ∧ W8.cell? ⟨g11, 2, none⟩ = some (.int .i64 b2) ∧ W8.cell? ⟨g11, 3, none⟩ = some (.int .i64 d2) ∧ W8.cell? ⟨g11, 4, none⟩ = some (.int .i64 m2) ∧ W8.cell? ⟨g13, 0, none⟩ = some (.int .i64 op2) ∧ W8.cell? ⟨g13, 1, none⟩ = some (.int .i64 a2) ∧ W8.cell? ⟨g13, 2, none⟩ = some (.int .i64 b2) ∧ W8.cell? ⟨g13, 3, none⟩ = some (.int .i64 d2) ∧ W8.cell? ⟨g13, 4, none⟩ = some (.int .i64 m2) := ⟨T12.out.cell 0, T12.out.cell 1, T12.out.cell 2, T12.out.cell 3, T12.out.cell 4, T13.out.cell 0, T13.out.cell 1, T13.out.cell 2, T13.out.cell 3, T13.out.cell 4⟩
  go_region_held3 (fun y => y.cell? ⟨g11, 0, none⟩ = some (.int .i64 op2) ∧ y.cell? ⟨g11, 1, none⟩ = some (.int .i64 a2) ∧ y.cell? ⟨g11, 2, none⟩ = some (.int .i64 b2) ∧ y.cell? ⟨g11, 3, none⟩ = some (.int .i64 d2) ∧ y.cell? ⟨g11, 4, none⟩ = some (.int .i64 m2) ∧ y.cell? ⟨g13, 0, none⟩ = some (.int .i64 op2) ∧ y.cell? ⟨g13, 1, none⟩ = some (.int .i64 a2) ∧ y.cell? ⟨g13, 2, none⟩ = some (.int .i64 b2) ∧ y.cell? ⟨g13, 3, none⟩ = some (.int .i64 d2) ∧ y.cell? ⟨g13, 4, none⟩ = some (.int .i64 m2))
    (first
      | with_reducible assumption
      | exact keep10 (by assumption) (Below.refl _ _).drew
      | exact keep10 (by assumption) hbm)
    (first
      | (refine (RX.out _).mono ?_; rintro e y9 ⟨rfl, hbm⟩))
  rename _ ∧ _ => hHl
  clear hHl LS
  have Q9 := Lib.hid (Whole.below (w := W8.drew) Q8.out hbm Q8.out.lt)
  have HS9 := Lib.hid (ShapesIn.below (w := W8.drew) HS8.out hbm (Nat.le_refl _))
  have B9 := Lib.hid (B8.out.drew.trans (hbm.mono (Nat.le_of_lt Q8.out.lt)))
  clear hbm T12 T13
  go_wp2_with fail
  have hz9 := Q9.out.lt
  have B9d := Lib.hid B9.out.drew
  have LS : y9.cell? ⟨w.heap.size, 0, none⟩ = some (.int .i64 op) ∧ y9.cell? ⟨w.heap.size, 1, none⟩ = some (.int .i64 a) ∧ y9.cell? ⟨w.heap.size, 2, none⟩ = some (.int .i64 b) ∧ y9.cell? ⟨w.heap.size, 3, none⟩ = some (.int .i64 c) ∧ y9.cell? ⟨w.heap.size, 4, none⟩ = some (.int .i64 n) ∧ Hid (ShapesIn y9) := ⟨Q9.out.cell 0, Q9.out.cell 1, Q9.out.cell 2, Q9.out.cell 3, Q9.out.cell 4, HS9⟩
  go_region_held3 (fun y => y.cell? ⟨w.heap.size, 0, none⟩ = some (.int .i64 op) ∧ y.cell? ⟨w.heap.size, 1, none⟩ = some (.int .i64 a) ∧ y.cell? ⟨w.heap.size, 2, none⟩ = some (.int .i64 b) ∧ y.cell? ⟨w.heap.size, 3, none⟩ = some (.int .i64 c) ∧ y.cell? ⟨w.heap.size, 4, none⟩ = some (.int .i64 n) ∧ Hid (ShapesIn y))
    (first
      | with_reducible assumption
      | with_reducible exact keepT_set LS SF
      | with_reducible exact keepT_set SA SF
      | with_reducible exact keepT_set SB SF
      | with_reducible exact keepT_call (by assumption) (Below.refl _ _).drew
      | with_reducible exact keepT_call (by assumption) ((Below.refl _ _).alloc (Nat.le_refl _) _)
      | with_reducible exact keepT_call (by assumption) hbm
      | with_reducible exact keepT_call (by assumption) hbk
      | with_reducible exact keepT_call (by assumption) hbf
      | with_reducible exact keepT_call SF ((Below.refl _ _).alloc (Nat.le_refl _) _)
      | (trace_state; fail))
    (first
      | (go_at_call 7; refine (RR.out _).mono ?_; rintro e ya ⟨rfl, hbm⟩; have SA := keepT_call (by assumption) hbm; (first | (with_reducible have BA := Lib.hid (below_step B9d.out hbm)) | (with_reducible have BA := Lib.hid (below_step (B9d.out.alloc B9d.out.size _) hbm)) | (with_reducible have BA := Lib.hid (below_step (B9.out.alloc B9.out.size _).drew hbm))); first | (with_reducible have TA := Whole.below (made_drew y9 23 #[.int .i64 0, .int .i64 0, .int .i64 0, .int .i64 0, .int .i64 0]) hbm (by simp)) | (with_reducible have TA := Whole.below (Whole.drew (Whole.made y9 23 #[.int .i64 0, .int .i64 0, .int .i64 0, .int .i64 0, .int .i64 0] y9.heap.size rfl)) hbm (by simp)) | skip)
      | (go_at_call 10; refine (FD.out _).mono ?_; rintro e yb ⟨A3, m3, k3, rfl, ho, hbk⟩; have SB := keepT_call (by assumption) hbk; (first | (with_reducible have BB := Lib.hid (below_step BA.out hbk)) | (with_reducible have BB := Lib.hid (below_step (BA.out.alloc BA.out.size _) hbk))); first | (with_reducible have TB := Whole.below TA hbk TA.lt) | (with_reducible have TB := Whole.below (Whole.made ya 23 #[.int .i64 0, .int .i64 0, .int .i64 0, .int .i64 0, .int .i64 0] ya.heap.size rfl) hbk (by simp)) | skip)
      | (go_at_call 8; refine (OF.out _ _ _ _ (by exact keepT_shapes (by assumption)) (by first | with_reducible exact ho.nums | with_reducible exact (ho.alloc _).nums)).mono ?_; rintro e yc ⟨rfl, hbf⟩; have SF := keepT_call (by assumption) hbf; (first | (with_reducible have BF := Lib.hid (below_step BB.out hbf)) | (with_reducible have BF := Lib.hid (below_step (BB.out.alloc BB.out.size _) hbf))); first | ((with_reducible have TF := (show Whole yc y9.heap.size 23 #[.int .i64 0, .int .i64 0, .int .i64 0, .int .i64 0, .int .i64 0] from Whole.below TB hbf TB.lt)); have c0 : yc.cell? ⟨y9.heap.size, 0, none⟩ = some (.int .i64 0) := TF.cell 0; have c1 : yc.cell? ⟨y9.heap.size, 1, none⟩ = some (.int .i64 0) := TF.cell 1; have c2 : yc.cell? ⟨y9.heap.size, 2, none⟩ = some (.int .i64 0) := TF.cell 2; have c3 : yc.cell? ⟨y9.heap.size, 3, none⟩ = some (.int .i64 0) := TF.cell 3; have c4 : yc.cell? ⟨y9.heap.size, 4, none⟩ = some (.int .i64 0) := TF.cell 4; have cf : ∀ i, yc.frozen? ⟨y9.heap.size, i, none⟩ = false := TF.free; clear TF) | ((with_reducible have TF := (show Whole yc ya.heap.size 23 #[.int .i64 0, .int .i64 0, .int .i64 0, .int .i64 0, .int .i64 0] from Whole.below TB hbf TB.lt)); have c0 : yc.cell? ⟨ya.heap.size, 0, none⟩ = some (.int .i64 0) := TF.cell 0; have c1 : yc.cell? ⟨ya.heap.size, 1, none⟩ = some (.int .i64 0) := TF.cell 1; have c2 : yc.cell? ⟨ya.heap.size, 2, none⟩ = some (.int .i64 0) := TF.cell 2; have c3 : yc.cell? ⟨ya.heap.size, 3, none⟩ = some (.int .i64 0) := TF.cell 3; have c4 : yc.cell? ⟨ya.heap.size, 4, none⟩ = some (.int .i64 0) := TF.cell 4; have cf : ∀ i, yc.frozen? ⟨ya.heap.size, i, none⟩ = false := TF.free; clear TF) | ((with_reducible have TF := Whole.below (Whole.made yb 23 #[.int .i64 0, .int .i64 0, .int .i64 0, .int .i64 0, .int .i64 0] yb.heap.size rfl) hbf (by simp)); have c0 : yc.cell? ⟨yb.heap.size, 0, none⟩ = some (.int .i64 0) := TF.cell 0; have c1 : yc.cell? ⟨yb.heap.size, 1, none⟩ = some (.int .i64 0) := TF.cell 1; have c2 : yc.cell? ⟨yb.heap.size, 2, none⟩ = some (.int .i64 0) := TF.cell 2; have c3 : yc.cell? ⟨yb.heap.size, 3, none⟩ = some (.int .i64 0) := TF.cell 3; have c4 : yc.cell? ⟨yb.heap.size, 4, none⟩ = some (.int .i64 0) := TF.cell 4; have cf : ∀ i, yc.frozen? ⟨yb.heap.size, i, none⟩ = false := TF.free; clear TF) | skip))
  all_goals
    go_wp2_with fail
    go_ret
    refine ⟨rfl, ?_⟩
    repeat (first | exact BF.out.alloc BF.out.size _ | exact BF.out | refine Below.setCell ?_ (by first | exact BB.out.size | exact BA.out.size | exact B9.out.size) _)

end Go.Proofs.YtpjckkcljbnkiaaDoor
