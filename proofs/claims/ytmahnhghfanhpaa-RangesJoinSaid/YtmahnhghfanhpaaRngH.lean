/- Ranges: Covered of both. -/
import Derived.Test.YtmahnhghfanhpaaRngG
import Derived.Laws.Small
namespace Go.Proofs.Ytmahnhghfanhpaa
open Go.ChangeShapes Go.WideShapes Go.ChangeAt Go.RowKit
set_option linter.unusedVariables false
set_option linter.unusedSimpArgs false

theorem cov_at (size : Int) (l : List Sg) {t : Nat} (ht : t < l.length) : covP size (l.drop t) = (if (l.getD t zSg).pd ≠ -1 ∧ (l.getD t zSg).st < endS size (l.drop (t + 1)) then endS size (l.drop (t + 1)) - (l.getD t zSg).st else 0) + covP size (l.drop (t + 1)) := by
  rw [dropL l zSg ht]
  rfl

theorem end_at (size : Int) (l : List Sg) {t : Nat} (ht : t < l.length) : endS size (l.drop t) = if (l.getD t zSg).st < size then (l.getD t zSg).st else size := by
  rw [dropL l zSg ht]
  rfl

theorem end_past (size : Int) (l : List Sg) {t : Nat} (ht : l.length ≤ t) : endS size (l.drop t) = size := by
  rw [List.drop_of_length_le ht]
  rfl

theorem cov_past (size : Int) (l : List Sg) {t : Nat} (ht : l.length ≤ t) : covP size (l.drop t) = 0 := by
  rw [List.drop_of_length_le ht]
  rfl

set_option maxHeartbeats 16000000 in
set_option maxRecDepth 100000 in
theorem cov_any (A : Option Addr) (l : List Sg) (c B : Nat) (z : Int) (w : World) (h : LstV sgCells B w (.slice A l.length c) l) (hf : FewS l) (hz : z ≤ 1000000) :
    Calls Try.prog 20 #[.slice A l.length c, .int .i64 z] w fun e w' => e = .returned (.int .i64 (covP z l)) ∧ Below w.heap.size w w' := by
  have hn : l.length ≤ 100 := hf.1
  have H := Lib.hid h
  have HF := Lib.hid hf
  have R0 := Lib.hid (show covP z l = 0 + covP z (l.drop 0) from (Int.zero_add _).symm)
  generalize covP z l = r at *
  clear h hf
  go_enter Try.func20, Try.ntmps20
  go_wp2_with fail
  go_loopw [5, 12] (fun v i wr => ∃ (t : Nat) (sm : Int), t ≤ l.length ∧ v = .int .i64 sm ∧ i = .int .i64 t ∧ (0 ≤ sm ∧ sm ≤ 2000000 * ((t : Nat) : Int)) ∧ r = sm + covP z (l.drop t) ∧ Below w.heap.size w wr) (fun _ i _ => l.length - (intOf i).toNat)
  case atStart => exact ⟨0, 0, Nat.zero_le _, rfl, rfl, by decide, R0.out, Below.refl _ _⟩
  case round =>
    obtain ⟨t, sm, ht, rfl, rfl, hsm, hrt, hb⟩ := hrel
    have RT := Lib.hid hrt
    have SM := Lib.hid hsm
    have hs0 : 0 ≤ sm := hsm.1
    have hs1 : sm ≤ 200000000 := by omega
    have HB := Lib.hid hb
    clear hrt hsm R0 hb
    by_cases hlt : t < l.length
    · have hI : (t : Int) < l.length := by omega
      have KB := Lib.hid (H.out.below HB.out)
      obtain ⟨b, off, rfl, hbl, x0, x1⟩ := sg_at KB.out hlt
      have CA := Lib.hid (cov_at z l hlt)
      have hp1 := few_part HF.out hlt
      obtain ⟨⟨ht0, ht1⟩, _⟩ := hp1
      generalize l.getD t zSg = s at *
      obtain ⟨st, pd⟩ := s
      simp only at x0 x1 ht0 ht1 CA
      have Y := Lib.hid (Whole.made wr sgT #[.int .i64 st, .int .i64 pd] _ rfl)
      have B1 := Lib.hid (HB.out.alloc HB.out.size (.cells #[.int .i64 st, .int .i64 pd] sgT))
      have y0 : (wr.alloc (.cells #[.int .i64 st, .int .i64 pd] sgT)).cell? ⟨wr.heap.size, 0, none⟩ = some (.int .i64 st) := Y.out.cell 0
      have y1 : (wr.alloc (.cells #[.int .i64 st, .int .i64 pd] sgT)).cell? ⟨wr.heap.size, 1, none⟩ = some (.int .i64 pd) := Y.out.cell 1
      have KB := Lib.hid (KB.out.below ((Below.refl wr.heap.size wr).alloc (Nat.le_refl _) (.cells #[.int .i64 st, .int .i64 pd] sgT)))
      by_cases hnx : t + 1 < l.length
      · have hI2 : (t : Int) + 1 < l.length := by omega
        obtain ⟨_, _, e1, _, n0, _⟩ := sg_at KB.out hnx
        injection e1 with e1
        injection e1 with e1 e2
        subst e1 e2
        have EA := Lib.hid (end_at z l hnx)
        have hq := few_part HF.out hnx
        obtain ⟨⟨hq0, hq1⟩, _⟩ := hq
        generalize (l.getD (t + 1) zSg).st = nst at *
        by_cases hns : nst < z
        · have dn : decide (nst < z) = true := decide_eq_true hns
          have EN := Lib.hid (show endS z (l.drop (t + 1)) = nst from EA.out.trans (if_pos hns))
          clear EA
          by_cases hp : pd = -1
          · have dp : (pd == -1) = true := by simp [hp]
            have RF := Lib.hid (show r = sm + covP z (l.drop (t + 1)) from by rw [RT.out, CA.out, if_neg (fun h => h.1 hp), Int.zero_add])
            have SB := Lib.hid (show 0 ≤ sm ∧ sm ≤ 2000000 * ((t + 1 : Nat) : Int) from by have := SM.out; omega)
            clear hp CA RT SM
            go_wp2_with fail
            go_roundw
            case rel => exact ⟨t + 1, sm, by omega, rfl, by go_num, SB.out, RF.out, B1.out⟩
            case measure => simp [intOf]; omega
          have dp : (pd == -1) = false := by simp [hp]
          by_cases he : nst ≤ st
          · have de : decide (nst ≤ st) = true := decide_eq_true he
            have de2 : decide (st < nst) = false := decide_eq_false (by omega)
            have RF := Lib.hid (show r = sm + covP z (l.drop (t + 1)) from by rw [RT.out, CA.out, if_neg (fun h => by have h2 := h.2; rw [EN.out] at h2; omega), Int.zero_add])
            have SB := Lib.hid (show 0 ≤ sm ∧ sm ≤ 2000000 * ((t + 1 : Nat) : Int) from by have := SM.out; omega)
            clear hp he CA RT SM EN
            go_wp2_with fail
            go_roundw
            case rel => exact ⟨t + 1, sm, by omega, rfl, by go_num, SB.out, RF.out, B1.out⟩
            case measure => simp [intOf]; omega
          have de : decide (nst ≤ st) = false := decide_eq_false he
          have de2 : decide (st < nst) = true := decide_eq_true (by omega)
          have RF := Lib.hid (show r = (sm + (nst - st)) + covP z (l.drop (t + 1)) from by rw [RT.out, CA.out, if_pos ⟨hp, by rw [EN.out]; show st < _; omega⟩, EN.out]; show sm + (nst - st + _) = _; omega)
          have SB := Lib.hid (show 0 ≤ sm + (nst - st) ∧ sm + (nst - st) ≤ 2000000 * ((t + 1 : Nat) : Int) from by have := SM.out; omega)
          have d5 : decide (nst - st < 0) = false := decide_eq_false (by omega)
          have d6 : decide (9223372036854775807 - sm < nst - st) = false := decide_eq_false (by omega)
          have he1 : st < nst := by omega
          clear hp he CA RT SM EN
          go_wp2_with fail
          go_roundw
          case rel => exact ⟨t + 1, (sm + (nst - st)), by omega, by go_num, by go_num, SB.out, RF.out, B1.out⟩
          case measure => simp [intOf]; omega
        · have dn : decide (nst < z) = false := decide_eq_false hns
          have EN := Lib.hid (show endS z (l.drop (t + 1)) = z from EA.out.trans (if_neg hns))
          clear EA
          by_cases hp : pd = -1
          · have dp : (pd == -1) = true := by simp [hp]
            have RF := Lib.hid (show r = sm + covP z (l.drop (t + 1)) from by rw [RT.out, CA.out, if_neg (fun h => h.1 hp), Int.zero_add])
            have SB := Lib.hid (show 0 ≤ sm ∧ sm ≤ 2000000 * ((t + 1 : Nat) : Int) from by have := SM.out; omega)
            clear hp CA RT SM
            go_wp2_with fail
            go_roundw
            case rel => exact ⟨t + 1, sm, by omega, rfl, by go_num, SB.out, RF.out, B1.out⟩
            case measure => simp [intOf]; omega
          have dp : (pd == -1) = false := by simp [hp]
          by_cases he : z ≤ st
          · have de : decide (z ≤ st) = true := decide_eq_true he
            have de2 : decide (st < z) = false := decide_eq_false (by omega)
            have RF := Lib.hid (show r = sm + covP z (l.drop (t + 1)) from by rw [RT.out, CA.out, if_neg (fun h => by have h2 := h.2; rw [EN.out] at h2; omega), Int.zero_add])
            have SB := Lib.hid (show 0 ≤ sm ∧ sm ≤ 2000000 * ((t + 1 : Nat) : Int) from by have := SM.out; omega)
            clear hp he CA RT SM EN
            go_wp2_with fail
            go_roundw
            case rel => exact ⟨t + 1, sm, by omega, rfl, by go_num, SB.out, RF.out, B1.out⟩
            case measure => simp [intOf]; omega
          have de : decide (z ≤ st) = false := decide_eq_false he
          have de2 : decide (st < z) = true := decide_eq_true (by omega)
          have RF := Lib.hid (show r = (sm + (z - st)) + covP z (l.drop (t + 1)) from by rw [RT.out, CA.out, if_pos ⟨hp, by rw [EN.out]; show st < _; omega⟩, EN.out]; show sm + (z - st + _) = _; omega)
          have SB := Lib.hid (show 0 ≤ sm + (z - st) ∧ sm + (z - st) ≤ 2000000 * ((t + 1 : Nat) : Int) from by have := SM.out; omega)
          have d5 : decide (z - st < 0) = false := decide_eq_false (by omega)
          have d6 : decide (9223372036854775807 - sm < z - st) = false := decide_eq_false (by omega)
          have he1 : st < z := by omega
          clear hp he CA RT SM EN
          go_wp2_with fail
          go_roundw
          case rel => exact ⟨t + 1, (sm + (z - st)), by omega, by go_num, by go_num, SB.out, RF.out, B1.out⟩
          case measure => simp [intOf]; omega
      · have hI2 : ¬ (t : Int) + 1 < l.length := by omega
        have EN := Lib.hid (show endS z (l.drop (t + 1)) = z from end_past z l (by omega))
        by_cases hp : pd = -1
        · have dp : (pd == -1) = true := by simp [hp]
          have RF := Lib.hid (show r = sm + covP z (l.drop (t + 1)) from by rw [RT.out, CA.out, if_neg (fun h => h.1 hp), Int.zero_add])
          have SB := Lib.hid (show 0 ≤ sm ∧ sm ≤ 2000000 * ((t + 1 : Nat) : Int) from by have := SM.out; omega)
          clear hp CA RT SM
          go_wp2_with fail
          go_roundw
          case rel => exact ⟨t + 1, sm, by omega, rfl, by go_num, SB.out, RF.out, B1.out⟩
          case measure => simp [intOf]; omega
        have dp : (pd == -1) = false := by simp [hp]
        by_cases he : z ≤ st
        · have de : decide (z ≤ st) = true := decide_eq_true he
          have de2 : decide (st < z) = false := decide_eq_false (by omega)
          have RF := Lib.hid (show r = sm + covP z (l.drop (t + 1)) from by rw [RT.out, CA.out, if_neg (fun h => by have h2 := h.2; rw [EN.out] at h2; omega), Int.zero_add])
          have SB := Lib.hid (show 0 ≤ sm ∧ sm ≤ 2000000 * ((t + 1 : Nat) : Int) from by have := SM.out; omega)
          clear hp he CA RT SM EN
          go_wp2_with fail
          go_roundw
          case rel => exact ⟨t + 1, sm, by omega, rfl, by go_num, SB.out, RF.out, B1.out⟩
          case measure => simp [intOf]; omega
        have de : decide (z ≤ st) = false := decide_eq_false he
        have de2 : decide (st < z) = true := decide_eq_true (by omega)
        have RF := Lib.hid (show r = (sm + (z - st)) + covP z (l.drop (t + 1)) from by rw [RT.out, CA.out, if_pos ⟨hp, by rw [EN.out]; show st < _; omega⟩, EN.out]; show sm + (z - st + _) = _; omega)
        have SB := Lib.hid (show 0 ≤ sm + (z - st) ∧ sm + (z - st) ≤ 2000000 * ((t + 1 : Nat) : Int) from by have := SM.out; omega)
        have d5 : decide (z - st < 0) = false := decide_eq_false (by omega)
        have d6 : decide (9223372036854775807 - sm < z - st) = false := decide_eq_false (by omega)
        have he1 : st < z := by omega
        clear hp he CA RT SM EN
        go_wp2_with fail
        go_roundw
        case rel => exact ⟨t + 1, (sm + (z - st)), by omega, by go_num, by go_num, SB.out, RF.out, B1.out⟩
        case measure => simp [intOf]; omega
    · have hI : ¬ (t : Int) < l.length := by omega
      have R := Lib.hid (show r = sm from by rw [RT.out, cov_past z l (by omega), Int.add_zero])
      go_wp2_with fail
      go_ret
      rw [R.out]
      exact ⟨rfl, HB.out⟩

set_option maxHeartbeats 16000000 in
set_option maxRecDepth 100000 in
theorem refcov_any (A : Option Addr) (l : List Sg) (c B : Nat) (z : Int) (w : World) (h : LstV sgCells B w (.slice A l.length c) l) (hf : FewS l) (hz : z ≤ 1000000) :
    Calls Try.prog 21 #[.slice A l.length c, .int .i64 z] w fun e w' => e = .returned (.int .i64 (covP z l)) ∧ w = w' := by
  have hn : l.length ≤ 100 := hf.1
  have H := Lib.hid h
  have HF := Lib.hid hf
  have R0 := Lib.hid (show covP z l = 0 + covP z (l.drop 0) from (Int.zero_add _).symm)
  generalize covP z l = r at *
  clear h hf
  go_enter Try.func21, Try.ntmps21
  go_wp2_with fail
  go_loopw [5, 6] (fun v i wr => ∃ (t : Nat) (sm : Int), t ≤ l.length ∧ v = .int .i64 sm ∧ i = .int .i64 t ∧ (0 ≤ sm ∧ sm ≤ 2000000 * ((t : Nat) : Int)) ∧ r = sm + covP z (l.drop t) ∧ w = wr) (fun _ i _ => l.length - (intOf i).toNat)
  case atStart => exact ⟨0, 0, Nat.zero_le _, rfl, rfl, by decide, R0.out, rfl⟩
  case round =>
    obtain ⟨t, sm, ht, rfl, rfl, hsm, hrt, rfl⟩ := hrel
    have RT := Lib.hid hrt
    have SM := Lib.hid hsm
    have hs0 : 0 ≤ sm := hsm.1
    have hs1 : sm ≤ 200000000 := by omega
    have HB := Lib.hid (Below.refl w.heap.size w)
    clear hrt hsm R0
    by_cases hlt : t < l.length
    · have hI : (t : Int) < l.length := by omega
      have KB := Lib.hid (H.out.below HB.out)
      obtain ⟨b, off, rfl, hbl, x0, x1⟩ := sg_at KB.out hlt
      have CA := Lib.hid (cov_at z l hlt)
      have hp1 := few_part HF.out hlt
      obtain ⟨⟨ht0, ht1⟩, _⟩ := hp1
      generalize l.getD t zSg = s at *
      obtain ⟨st, pd⟩ := s
      simp only at x0 x1 ht0 ht1 CA
      by_cases hnx : t + 1 < l.length
      · have hI2 : (t : Int) + 1 < l.length := by omega
        obtain ⟨_, _, e1, _, n0, _⟩ := sg_at KB.out hnx
        injection e1 with e1
        injection e1 with e1 e2
        subst e1 e2
        have EA := Lib.hid (end_at z l hnx)
        have hq := few_part HF.out hnx
        obtain ⟨⟨hq0, hq1⟩, _⟩ := hq
        generalize (l.getD (t + 1) zSg).st = nst at *
        by_cases hns : nst < z
        · have dn : decide (nst < z) = true := decide_eq_true hns
          have EN := Lib.hid (show endS z (l.drop (t + 1)) = nst from EA.out.trans (if_pos hns))
          clear EA
          by_cases hp : pd = -1
          · have dp : (pd != -1) = false := by simp [hp]
            have RF := Lib.hid (show r = sm + covP z (l.drop (t + 1)) from by rw [RT.out, CA.out, if_neg (fun h => h.1 hp), Int.zero_add])
            have SB := Lib.hid (show 0 ≤ sm ∧ sm ≤ 2000000 * ((t + 1 : Nat) : Int) from by have := SM.out; omega)
            clear hp CA RT SM
            go_wp2_with fail
            go_roundw
            case rel => exact ⟨t + 1, sm, by omega, rfl, by go_num, SB.out, RF.out, by first | rfl | trivial⟩
            case measure => simp [intOf]; omega
          have dp : (pd != -1) = true := by simp [hp]
          by_cases he : nst ≤ st
          · have de : decide (nst ≤ st) = true := decide_eq_true he
            have de2 : decide (st < nst) = false := decide_eq_false (by omega)
            have RF := Lib.hid (show r = sm + covP z (l.drop (t + 1)) from by rw [RT.out, CA.out, if_neg (fun h => by have h2 := h.2; rw [EN.out] at h2; omega), Int.zero_add])
            have SB := Lib.hid (show 0 ≤ sm ∧ sm ≤ 2000000 * ((t + 1 : Nat) : Int) from by have := SM.out; omega)
            clear hp he CA RT SM EN
            go_wp2_with fail
            go_roundw
            case rel => exact ⟨t + 1, sm, by omega, rfl, by go_num, SB.out, RF.out, by first | rfl | trivial⟩
            case measure => simp [intOf]; omega
          have de : decide (nst ≤ st) = false := decide_eq_false he
          have de2 : decide (st < nst) = true := decide_eq_true (by omega)
          have RF := Lib.hid (show r = (sm + (nst - st)) + covP z (l.drop (t + 1)) from by rw [RT.out, CA.out, if_pos ⟨hp, by rw [EN.out]; show st < _; omega⟩, EN.out]; show sm + (nst - st + _) = _; omega)
          have SB := Lib.hid (show 0 ≤ sm + (nst - st) ∧ sm + (nst - st) ≤ 2000000 * ((t + 1 : Nat) : Int) from by have := SM.out; omega)
          have d5 : decide (nst - st < 0) = false := decide_eq_false (by omega)
          have d6 : decide (9223372036854775807 - sm < nst - st) = false := decide_eq_false (by omega)
          have he1 : st < nst := by omega
          clear hp he CA RT SM EN
          go_wp2_with fail
          go_roundw
          case rel => exact ⟨t + 1, (sm + (nst - st)), by omega, by go_num, by go_num, SB.out, RF.out, by first | rfl | trivial⟩
          case measure => simp [intOf]; omega
        · have dn : decide (nst < z) = false := decide_eq_false hns
          have EN := Lib.hid (show endS z (l.drop (t + 1)) = z from EA.out.trans (if_neg hns))
          clear EA
          by_cases hp : pd = -1
          · have dp : (pd != -1) = false := by simp [hp]
            have RF := Lib.hid (show r = sm + covP z (l.drop (t + 1)) from by rw [RT.out, CA.out, if_neg (fun h => h.1 hp), Int.zero_add])
            have SB := Lib.hid (show 0 ≤ sm ∧ sm ≤ 2000000 * ((t + 1 : Nat) : Int) from by have := SM.out; omega)
            clear hp CA RT SM
            go_wp2_with fail
            go_roundw
            case rel => exact ⟨t + 1, sm, by omega, rfl, by go_num, SB.out, RF.out, by first | rfl | trivial⟩
            case measure => simp [intOf]; omega
          have dp : (pd != -1) = true := by simp [hp]
          by_cases he : z ≤ st
          · have de : decide (z ≤ st) = true := decide_eq_true he
            have de2 : decide (st < z) = false := decide_eq_false (by omega)
            have RF := Lib.hid (show r = sm + covP z (l.drop (t + 1)) from by rw [RT.out, CA.out, if_neg (fun h => by have h2 := h.2; rw [EN.out] at h2; omega), Int.zero_add])
            have SB := Lib.hid (show 0 ≤ sm ∧ sm ≤ 2000000 * ((t + 1 : Nat) : Int) from by have := SM.out; omega)
            clear hp he CA RT SM EN
            go_wp2_with fail
            go_roundw
            case rel => exact ⟨t + 1, sm, by omega, rfl, by go_num, SB.out, RF.out, by first | rfl | trivial⟩
            case measure => simp [intOf]; omega
          have de : decide (z ≤ st) = false := decide_eq_false he
          have de2 : decide (st < z) = true := decide_eq_true (by omega)
          have RF := Lib.hid (show r = (sm + (z - st)) + covP z (l.drop (t + 1)) from by rw [RT.out, CA.out, if_pos ⟨hp, by rw [EN.out]; show st < _; omega⟩, EN.out]; show sm + (z - st + _) = _; omega)
          have SB := Lib.hid (show 0 ≤ sm + (z - st) ∧ sm + (z - st) ≤ 2000000 * ((t + 1 : Nat) : Int) from by have := SM.out; omega)
          have d5 : decide (z - st < 0) = false := decide_eq_false (by omega)
          have d6 : decide (9223372036854775807 - sm < z - st) = false := decide_eq_false (by omega)
          have he1 : st < z := by omega
          clear hp he CA RT SM EN
          go_wp2_with fail
          go_roundw
          case rel => exact ⟨t + 1, (sm + (z - st)), by omega, by go_num, by go_num, SB.out, RF.out, by first | rfl | trivial⟩
          case measure => simp [intOf]; omega
      · have hI2 : ¬ (t : Int) + 1 < l.length := by omega
        have EN := Lib.hid (show endS z (l.drop (t + 1)) = z from end_past z l (by omega))
        by_cases hp : pd = -1
        · have dp : (pd != -1) = false := by simp [hp]
          have RF := Lib.hid (show r = sm + covP z (l.drop (t + 1)) from by rw [RT.out, CA.out, if_neg (fun h => h.1 hp), Int.zero_add])
          have SB := Lib.hid (show 0 ≤ sm ∧ sm ≤ 2000000 * ((t + 1 : Nat) : Int) from by have := SM.out; omega)
          clear hp CA RT SM
          go_wp2_with fail
          go_roundw
          case rel => exact ⟨t + 1, sm, by omega, rfl, by go_num, SB.out, RF.out, by first | rfl | trivial⟩
          case measure => simp [intOf]; omega
        have dp : (pd != -1) = true := by simp [hp]
        by_cases he : z ≤ st
        · have de : decide (z ≤ st) = true := decide_eq_true he
          have de2 : decide (st < z) = false := decide_eq_false (by omega)
          have RF := Lib.hid (show r = sm + covP z (l.drop (t + 1)) from by rw [RT.out, CA.out, if_neg (fun h => by have h2 := h.2; rw [EN.out] at h2; omega), Int.zero_add])
          have SB := Lib.hid (show 0 ≤ sm ∧ sm ≤ 2000000 * ((t + 1 : Nat) : Int) from by have := SM.out; omega)
          clear hp he CA RT SM EN
          go_wp2_with fail
          go_roundw
          case rel => exact ⟨t + 1, sm, by omega, rfl, by go_num, SB.out, RF.out, by first | rfl | trivial⟩
          case measure => simp [intOf]; omega
        have de : decide (z ≤ st) = false := decide_eq_false he
        have de2 : decide (st < z) = true := decide_eq_true (by omega)
        have RF := Lib.hid (show r = (sm + (z - st)) + covP z (l.drop (t + 1)) from by rw [RT.out, CA.out, if_pos ⟨hp, by rw [EN.out]; show st < _; omega⟩, EN.out]; show sm + (z - st + _) = _; omega)
        have SB := Lib.hid (show 0 ≤ sm + (z - st) ∧ sm + (z - st) ≤ 2000000 * ((t + 1 : Nat) : Int) from by have := SM.out; omega)
        have d5 : decide (z - st < 0) = false := decide_eq_false (by omega)
        have d6 : decide (9223372036854775807 - sm < z - st) = false := decide_eq_false (by omega)
        have he1 : st < z := by omega
        clear hp he CA RT SM EN
        go_wp2_with fail
        go_roundw
        case rel => exact ⟨t + 1, (sm + (z - st)), by omega, by go_num, by go_num, SB.out, RF.out, by first | rfl | trivial⟩
        case measure => simp [intOf]; omega
    · have hI : ¬ (t : Int) < l.length := by omega
      have R := Lib.hid (show r = sm from by rw [RT.out, cov_past z l (by omega), Int.add_zero])
      go_wp2_with fail
      go_ret
      rw [R.out]
      exact ⟨rfl, rfl⟩
end Go.Proofs.Ytmahnhghfanhpaa
