/- Ranges: the law RangesJoin. -/
import Derived.Test.YtmahnhghfanhpaaRngK
import Derived.Test.YtmahnhghfanhpaaRngG
import Derived.Test.YtmahnhghfanhpaaRngH
import Derived.Test.YtmahnhghfanhpaaRngJ
import Derived.BigQuiet
namespace Go.Proofs.Ytmahnhghfanhpaa
open Go.ChangeShapes Go.WideShapes Go.ChangeAt Go.RowKit
set_option linter.unusedVariables false
set_option linter.unusedSimpArgs false

theorem lists_two {B : Nat} (w : World) (v1 : Value) (l1 : List Sg) (v2 : Value) (l2 : List Sg) (h1 : LstV sgCells B w v1 l1) (h2 : LstV sgCells B w v2 l2) : ListsAt (w.alloc (.cells #[v1, v2] stT)) B w.heap.size 0 [(v1, l1), (v2, l2)] := by
  have X := Whole.made w stT #[v1, v2] _ rfl
  have b := (Below.refl w.heap.size w).alloc (Nat.le_refl _) (.cells #[v1, v2] stT)
  refine ⟨X.lt, fun t ht => ?_, fun t ht => ?_⟩
  · match t, ht with
    | 0, _ => exact X.cell 0
    | 1, _ => exact X.cell 1
  · match t, ht with
    | 0, _ => exact h1.below b
    | 1, _ => exact h2.below b

theorem all_two (v1 : Value) (l1 : List Sg) (v2 : Value) (l2 : List Sg) : allS [(v1, l1), (v2, l2)] = l1 ++ l2 := by
  simp [allS]

theorem join_two (B b : Nat) (v1 : Value) (l1 : List Sg) (v2 : Value) (l2 : List Sg) (w : World) (h : ListsAt w B b 0 [(v1, l1), (v2, l2)]) (hm : (l1 ++ l2).length ≤ 1000000) :
    Calls Try.prog 22 #[.slice (some ⟨b, 0, none⟩) 2 2] w fun e w' => ∃ v', e = .returned v' ∧ Below w.heap.size w w' ∧ w'.ownsRow w.heap.size sgT 2 v' (marksP [] (l1 ++ l2)).length ((marksP [] (l1 ++ l2)).flatMap sgCells) := by
  have e := join_any B b 0 2 [(v1, l1), (v2, l2)] w h (by simp) (by rw [all_two]; exact hm)
  rw [all_two] at e
  exact e

theorem refjoin_two (B b : Nat) (v1 : Value) (l1 : List Sg) (v2 : Value) (l2 : List Sg) (w : World) (h : ListsAt w B b 0 [(v1, l1), (v2, l2)]) (hm : (l1 ++ l2).length ≤ 1000000) :
    Calls Try.prog 23 #[.slice (some ⟨b, 0, none⟩) 2 2] w fun e w' => ∃ v', e = .returned v' ∧ Below w.heap.size w w' ∧ w'.ownsRow w.heap.size sgT 2 v' (marksP [] (l1 ++ l2)).length ((marksP [] (l1 ++ l2)).flatMap sgCells) := by
  have e := refjoin_any B b 0 2 [(v1, l1), (v2, l2)] w h (by simp) (by rw [all_two]; exact hm)
  rw [all_two] at e
  exact e

set_option maxHeartbeats 16000000 in
set_option maxRecDepth 100000 in
theorem joins_walk (W : World) (A1 : Option Addr) (l1 : List Sg) (c1 : Nat) (hO1 : LstV sgCells W.heap.size W (.slice A1 l1.length c1) l1) (hm1 : l1.length * 16 ≤ 140737488355328) (A2 : Option Addr) (l2 : List Sg) (c2 : Nat) (hO2 : LstV sgCells W.heap.size W (.slice A2 l2.length c2) l2) (hm2 : l2.length * 16 ≤ 140737488355328) (y z : Int) :
    Calls Try.prog 5 #[.slice A1 l1.length c1, .slice A2 l2.length c2, .agg #[.int .i64 y, .int .i64 z]] W fun e w' => e = .returned (.bool true) ∧ Below W.heap.size W w' := by
  have B0 := Lib.hid ((Below.refl W.heap.size W).alloc (Nat.le_refl _) (.cells #[.int .i64 y, .int .i64 z] 36))
  have X0 := Lib.hid (Whole.made W 36 #[.int .i64 y, .int .i64 z] _ rfl)
  have AW := Lib.hid (fun q (_ : Below W.heap.size W q) => awake16_any q)
  have FA := Lib.hid (fun q (hq : Below W.heap.size W q) => few_any A1 l1 c1 _ q (hO1.below hq) (by omega))
  have FB := Lib.hid (fun q (hq : Below W.heap.size W q) => few_any A2 l2 c2 _ q (hO2.below hq) (by omega))
  have H1 := Lib.hid hO1
  have H2 := Lib.hid hO2
  clear hO1 hO2 hm1 hm2
  by_cases hf : FewS l1
  case neg =>
    rw [decide_eq_false hf] at FA
    clear hf
    go_enter Try.func5, Try.ntmps5
    go_wp2_with fail
    refine (AW.out _ B0.out).mono ?_
    rintro e y1 ⟨rfl, hb⟩
    have B1 := Lib.hid (B0.out.trans (hb.mono B0.out.size))
    have X1 := Lib.hid (X0.out.below hb X0.out.lt)
    have e0 : y1.cell? ⟨W.heap.size, 0, none⟩ = some (.int .i64 y) := X1.out.cell 0
    have e1 : y1.cell? ⟨W.heap.size, 1, none⟩ = some (.int .i64 z) := X1.out.cell 1
    clear hb X1
    go_wp2_with fail
    go_quiet (fail)
    rename_i nq
    have B2 := Lib.hid (below_drawn B1.out nq)
    clear e0 e1 B1
    generalize y1.drewN nq = y2 at *
    go_wp2_with fail
    refine (FA.out _ B2.out).mono ?_
    rintro e y3 ⟨rfl, hb⟩
    have B3 := Lib.hid (B2.out.trans (hb.mono B2.out.size))
    clear hb
    go_wp2_with fail
    go_ret
    exact ⟨rfl, B3.out⟩
  rw [decide_eq_true hf] at FA
  have HF1 := Lib.hid hf
  clear hf
  by_cases hf : FewS l2
  case neg =>
    rw [decide_eq_false hf] at FB
    clear hf
    go_enter Try.func5, Try.ntmps5
    go_wp2_with fail
    refine (AW.out _ B0.out).mono ?_
    rintro e y1 ⟨rfl, hb⟩
    have B1 := Lib.hid (B0.out.trans (hb.mono B0.out.size))
    have X1 := Lib.hid (X0.out.below hb X0.out.lt)
    have e0 : y1.cell? ⟨W.heap.size, 0, none⟩ = some (.int .i64 y) := X1.out.cell 0
    have e1 : y1.cell? ⟨W.heap.size, 1, none⟩ = some (.int .i64 z) := X1.out.cell 1
    clear hb X1
    go_wp2_with fail
    go_quiet (fail)
    rename_i nq
    have B2 := Lib.hid (below_drawn B1.out nq)
    clear e0 e1 B1
    generalize y1.drewN nq = y2 at *
    go_wp2_with fail
    refine (FA.out _ B2.out).mono ?_
    rintro e y3 ⟨rfl, hb⟩
    have B3 := Lib.hid (B2.out.trans (hb.mono B2.out.size))
    clear hb
    go_wp2_with fail
    refine (FB.out _ B3.out).mono ?_
    rintro e y4 ⟨rfl, hb⟩
    have B4 := Lib.hid (B3.out.trans (hb.mono B3.out.size))
    clear hb
    go_wp2_with fail
    go_ret
    exact ⟨rfl, B4.out⟩
  rw [decide_eq_true hf] at FB
  have HF2 := Lib.hid hf
  clear hf
  by_cases h1 : y < -1000000
  · have d1 : decide (y < -1000000) = true := decide_eq_true h1
    clear h1
    go_enter Try.func5, Try.ntmps5
    go_wp2_with fail
    refine (AW.out _ B0.out).mono ?_
    rintro e y1 ⟨rfl, hb⟩
    have B1 := Lib.hid (B0.out.trans (hb.mono B0.out.size))
    have X1 := Lib.hid (X0.out.below hb X0.out.lt)
    have e0 : y1.cell? ⟨W.heap.size, 0, none⟩ = some (.int .i64 y) := X1.out.cell 0
    have e1 : y1.cell? ⟨W.heap.size, 1, none⟩ = some (.int .i64 z) := X1.out.cell 1
    clear hb X1
    go_wp2_with fail
    go_quiet (fail)
    rename_i nq
    have B2 := Lib.hid (below_drawn B1.out nq)
    clear e0 e1 B1
    generalize y1.drewN nq = y2 at *
    go_wp2_with fail
    refine (FA.out _ B2.out).mono ?_
    rintro e y3 ⟨rfl, hb⟩
    have B3 := Lib.hid (B2.out.trans (hb.mono B2.out.size))
    clear hb
    go_wp2_with fail
    refine (FB.out _ B3.out).mono ?_
    rintro e y4 ⟨rfl, hb⟩
    have B4 := Lib.hid (B3.out.trans (hb.mono B3.out.size))
    clear hb
    go_wp2_with fail
    go_ret
    exact ⟨rfl, B4.out⟩
  have d1 : decide (y < -1000000) = false := decide_eq_false h1
  by_cases h2 : 1000000 < y
  · have d2 : decide (1000000 < y) = true := decide_eq_true h2
    clear h1 h2
    go_enter Try.func5, Try.ntmps5
    go_wp2_with fail
    refine (AW.out _ B0.out).mono ?_
    rintro e y1 ⟨rfl, hb⟩
    have B1 := Lib.hid (B0.out.trans (hb.mono B0.out.size))
    have X1 := Lib.hid (X0.out.below hb X0.out.lt)
    have e0 : y1.cell? ⟨W.heap.size, 0, none⟩ = some (.int .i64 y) := X1.out.cell 0
    have e1 : y1.cell? ⟨W.heap.size, 1, none⟩ = some (.int .i64 z) := X1.out.cell 1
    clear hb X1
    go_wp2_with fail
    go_quiet (fail)
    rename_i nq
    have B2 := Lib.hid (below_drawn B1.out nq)
    clear e0 e1 B1
    generalize y1.drewN nq = y2 at *
    go_wp2_with fail
    refine (FA.out _ B2.out).mono ?_
    rintro e y3 ⟨rfl, hb⟩
    have B3 := Lib.hid (B2.out.trans (hb.mono B2.out.size))
    clear hb
    go_wp2_with fail
    refine (FB.out _ B3.out).mono ?_
    rintro e y4 ⟨rfl, hb⟩
    have B4 := Lib.hid (B3.out.trans (hb.mono B3.out.size))
    clear hb
    go_wp2_with fail
    go_ret
    exact ⟨rfl, B4.out⟩
  have d2 : decide (1000000 < y) = false := decide_eq_false h2
  by_cases h3 : 1000000 < z
  · have d3 : decide (1000000 < z) = true := decide_eq_true h3
    clear h1 h2 h3
    go_enter Try.func5, Try.ntmps5
    go_wp2_with fail
    refine (AW.out _ B0.out).mono ?_
    rintro e y1 ⟨rfl, hb⟩
    have B1 := Lib.hid (B0.out.trans (hb.mono B0.out.size))
    have X1 := Lib.hid (X0.out.below hb X0.out.lt)
    have e0 : y1.cell? ⟨W.heap.size, 0, none⟩ = some (.int .i64 y) := X1.out.cell 0
    have e1 : y1.cell? ⟨W.heap.size, 1, none⟩ = some (.int .i64 z) := X1.out.cell 1
    clear hb X1
    go_wp2_with fail
    go_quiet (fail)
    rename_i nq
    have B2 := Lib.hid (below_drawn B1.out nq)
    clear e0 e1 B1
    generalize y1.drewN nq = y2 at *
    go_wp2_with fail
    refine (FA.out _ B2.out).mono ?_
    rintro e y3 ⟨rfl, hb⟩
    have B3 := Lib.hid (B2.out.trans (hb.mono B2.out.size))
    clear hb
    go_wp2_with fail
    refine (FB.out _ B3.out).mono ?_
    rintro e y4 ⟨rfl, hb⟩
    have B4 := Lib.hid (B3.out.trans (hb.mono B3.out.size))
    clear hb
    go_wp2_with fail
    go_ret
    exact ⟨rfl, B4.out⟩
  have d3 : decide (1000000 < z) = false := decide_eq_false h3
  have SA := Lib.hid (fun q (hq : Below W.heap.size W q) => shift_any A1 l1 c1 _ y q (H1.out.below hq) HF1.out ⟨by omega, by omega⟩)
  have SB := Lib.hid (fun q (hq : Below W.heap.size W q) => refshift_any A1 l1 c1 _ y q (H1.out.below hq) HF1.out ⟨by omega, by omega⟩)
  have CA := Lib.hid (fun q (hq : Below W.heap.size W q) => cov_any A1 l1 c1 _ z q (H1.out.below hq) HF1.out (by omega))
  have CB := Lib.hid (fun q (hq : Below W.heap.size W q) => (refcov_any A1 l1 c1 _ z q (H1.out.below hq) HF1.out (by omega)).mono (fun e w' h => show e = .returned (.int .i64 (covP z l1)) ∧ Below q.heap.size q w' from ⟨h.1, h.2 ▸ Below.refl _ _⟩))
  have SL := Lib.hid (shift_len y l1)
  have n1 : l1.length ≤ 100 := HF1.out.1
  have n2 : l2.length ≤ 100 := HF2.out.1
  generalize covP z l1 = cv at *
  have dc : (cv != cv) = false := by simp
  clear h1 h2 h3
  go_enter Try.func5, Try.ntmps5
  go_wp2_with fail
  refine (AW.out _ B0.out).mono ?_
  rintro e y1 ⟨rfl, hb⟩
  have B1 := Lib.hid (B0.out.trans (hb.mono B0.out.size))
  have X1 := Lib.hid (X0.out.below hb X0.out.lt)
  have e0 : y1.cell? ⟨W.heap.size, 0, none⟩ = some (.int .i64 y) := X1.out.cell 0
  have e1 : y1.cell? ⟨W.heap.size, 1, none⟩ = some (.int .i64 z) := X1.out.cell 1
  clear hb X1
  go_wp2_with fail
  go_quiet (fail)
  rename_i nq
  have B2 := Lib.hid (below_drawn B1.out nq)
  clear e0 e1 B1
  generalize y1.drewN nq = y2 at *
  go_wp2_with fail
  refine (FA.out _ B2.out).mono ?_
  rintro e y3 ⟨rfl, hb⟩
  have B3 := Lib.hid (B2.out.trans (hb.mono B2.out.size))
  clear hb
  go_wp2_with fail
  refine (FB.out _ B3.out).mono ?_
  rintro e y4 ⟨rfl, hb⟩
  have B4 := Lib.hid (B3.out.trans (hb.mono B3.out.size))
  clear hb
  go_wp2_with fail
  refine (SA.out _ B4.out).mono ?_
  rintro e y5 ⟨v5, rfl, hb, ho⟩
  have B5 := Lib.hid (B4.out.trans (hb.mono B4.out.size))
  have RA := Lib.hid ho
  obtain ⟨Aa, ca, hv⟩ := row_form RA.out
  subst hv
  have HB5 := Lib.hid hb
  clear hb ho
  go_wp2_with fail
  refine (SB.out _ B5.out).mono ?_
  rintro e y6 ⟨v6, rfl, hb, ho⟩
  have B6 := Lib.hid (B5.out.trans (hb.mono B5.out.size))
  have RB := Lib.hid ho
  obtain ⟨Ab, cb, hv⟩ := row_form RB.out
  subst hv
  have HB6 := Lib.hid hb
  clear hb ho
  have SAM := Lib.hid (same16_any (.slice Aa l1.length ca) (.slice Ab l1.length cb) _ _ (shiftP y l1) y6 (LstV.own (k := 2) (fun _ => rfl) (by decide) zSg (show y6.ownsRow y4.heap.size sgT 2 (.slice Aa l1.length ca) (shiftP y l1).length ((shiftP y l1).flatMap sgCells) from by rw [SL.out]; exact row_below RA.out HB6.out)) (LstV.own (k := 2) (fun _ => rfl) (by decide) zSg (show y6.ownsRow y5.heap.size sgT 2 (.slice Ab l1.length cb) (shiftP y l1).length ((shiftP y l1).flatMap sgCells) from by rw [SL.out]; exact RB.out)) (by rw [SL.out]; omega))
  clear RA RB HB5 HB6 SA SB SL
  go_wp2_with fail
  refine SAM.out.mono ?_
  rintro e y7 ⟨rfl, hb⟩
  have B7 := Lib.hid (B6.out.trans (hb.mono B6.out.size))
  clear hb SAM B3 B4 B5 B6
  go_wp2_with fail
  refine (CA.out _ B7.out).mono ?_
  rintro e y8 ⟨rfl, hb⟩
  have B8 := Lib.hid (B7.out.trans (hb.mono B7.out.size))
  clear hb
  go_wp2_with fail
  refine (CB.out _ B8.out).mono ?_
  rintro e y9 ⟨rfl, hb⟩
  have B9 := Lib.hid (B8.out.trans (hb.mono B8.out.size))
  clear hb
  have BT := Lib.hid (B9.out.alloc B9.out.size (.cells #[.slice A1 l1.length c1, .slice A2 l2.length c2] stT))
  have LT := Lib.hid (lists_two y9 (.slice A1 l1.length c1) l1 (.slice A2 l2.length c2) l2 (H1.out.below B9.out) (H2.out.below B9.out))
  have JA := Lib.hid (join_two W.heap.size y9.heap.size (.slice A1 l1.length c1) l1 (.slice A2 l2.length c2) l2 _ LT.out (by rw [List.length_append]; omega))
  have ML := Lib.hid (show (marksP [] (l1 ++ l2)).length ≤ 1000 from by have := marks_len (l1 ++ l2); rw [List.length_append] at this; omega)
  go_wp2_with fail
  refine JA.out.mono ?_
  rintro e y10 ⟨v10, rfl, hb, ho⟩
  have B10 := Lib.hid (BT.out.trans (hb.mono BT.out.size))
  have RA := Lib.hid ho
  obtain ⟨Aj, cj, hv⟩ := row_form RA.out
  subst hv
  clear hb ho JA BT LT
  have BT := Lib.hid (B10.out.alloc B10.out.size (.cells #[.slice A1 l1.length c1, .slice A2 l2.length c2] stT))
  have RA2 := Lib.hid (row_below RA.out ((Below.refl y10.heap.size y10).alloc (Nat.le_refl _) (.cells #[.slice A1 l1.length c1, .slice A2 l2.length c2] stT)))
  have LT := Lib.hid (lists_two y10 (.slice A1 l1.length c1) l1 (.slice A2 l2.length c2) l2 (H1.out.below B10.out) (H2.out.below B10.out))
  have JB := Lib.hid (refjoin_two W.heap.size y10.heap.size (.slice A1 l1.length c1) l1 (.slice A2 l2.length c2) l2 _ LT.out (by rw [List.length_append]; omega))
  clear RA
  go_wp2_with fail
  refine JB.out.mono ?_
  rintro e y11 ⟨v11, rfl, hb, ho⟩
  have B11 := Lib.hid (BT.out.trans (hb.mono BT.out.size))
  have SAM := Lib.hid (same16_any (.slice Aj (marksP [] (l1 ++ l2)).length cj) v11 _ _ (marksP [] (l1 ++ l2)) y11 (LstV.own (k := 2) (fun _ => rfl) (by decide) zSg (row_below RA2.out hb)) (LstV.own (k := 2) (fun _ => rfl) (by decide) zSg ho) (by have := ML.out; omega))
  obtain ⟨Ak, ck, hv⟩ := row_form ho
  subst hv
  clear hb ho JB BT LT RA2
  go_wp2_with fail
  refine SAM.out.mono ?_
  rintro e y12 ⟨rfl, hb⟩
  have B12 := Lib.hid (B11.out.trans (hb.mono B11.out.size))
  clear hb SAM
  go_wp2_with fail
  go_ret
  exact ⟨rfl, B12.out⟩
end Go.Proofs.Ytmahnhghfanhpaa
