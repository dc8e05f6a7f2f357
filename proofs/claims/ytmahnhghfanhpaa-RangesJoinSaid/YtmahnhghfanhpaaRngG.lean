/- Ranges: Shift of both. -/
import Derived.Test.YtmahnhghfanhpaaRngE
namespace Go.Proofs.Ytmahnhghfanhpaa
open Go.ChangeShapes Go.WideShapes Go.ChangeAt Go.RowKit
set_option linter.unusedVariables false
set_option linter.unusedSimpArgs false

/-- A segment moved. -/
def shift1 (y : Int) (s : Sg) : Sg := ⟨s.st + y, if s.pd = -1 then -1 else s.pd + y⟩

/-- The first t segments moved. -/
def mixS (y : Int) (l : List Sg) (t : Nat) : List Sg := shiftP y (l.take t) ++ l.drop t

theorem shift_len (y : Int) (l : List Sg) : (shiftP y l).length = l.length := List.length_map _

theorem mix_len (y : Int) (l : List Sg) {t : Nat} (ht : t ≤ l.length) : (mixS y l t).length = l.length := by
  unfold mixS
  rw [List.length_append, shift_len, List.length_take, List.length_drop]
  omega

theorem mix_end (y : Int) (l : List Sg) : mixS y l l.length = shiftP y l := by
  unfold mixS
  rw [List.take_length, List.drop_length, List.append_nil]

theorem mix_at (y : Int) (l : List Sg) {t : Nat} (ht : t < l.length) : (mixS y l t).getD t zSg = l.getD t zSg := by
  unfold mixS
  have e : (shiftP y (l.take t)).length = t := by rw [shift_len, List.length_take]; omega
  rw [List.getD_eq_getElem?_getD, List.getElem?_append_right (by omega), e, Nat.sub_self, List.getElem?_drop, Nat.add_zero, ← List.getD_eq_getElem?_getD]

theorem shift_snoc (y : Int) (l : List Sg) {t : Nat} (ht : t < l.length) : shiftP y (l.take (t + 1)) = shiftP y (l.take t) ++ [shift1 y (l.getD t zSg)] := by
  unfold shiftP
  rw [takeL l zSg ht, List.map_append]
  rfl

theorem mix_set (y : Int) (l : List Sg) {t : Nat} (ht : t < l.length) : (mixS y l t).set t (shift1 y (l.getD t zSg)) = mixS y l (t + 1) := by
  have e : (shiftP y (l.take t)).length = t := by rw [shift_len, List.length_take]; omega
  unfold mixS
  rw [List.set_append_right _ _ (by omega), e, Nat.sub_self, dropL l zSg ht, List.set_cons_zero, shift_snoc y l ht, List.append_assoc]
  rfl

theorem few_part {l : List Sg} (h : FewS l) {t : Nat} (ht : t < l.length) : (-1000000 ≤ (l.getD t zSg).st ∧ (l.getD t zSg).st ≤ 1000000) ∧ (-1000000 ≤ (l.getD t zSg).pd ∧ (l.getD t zSg).pd ≤ 1000000) := by
  have h1 := few_at h ht
  unfold okS at h1
  omega

/-- A segment's first cell stored into. -/
theorem sg_set0 {w : World} {B g c : Nat} {l : List Sg} {t : Nat} (h : w.ownsRow B sgT 2 (.slice (some ⟨g, 0, none⟩) l.length c) l.length (l.flatMap sgCells)) (ht : t < l.length) (z : Int) :
    (w.setCell ⟨g, t * 2, none⟩ (.int .i64 z)).ownsRow B sgT 2 (.slice (some ⟨g, 0, none⟩) l.length c) l.length ((l.set t ⟨z, (l.getD t zSg).pd⟩).flatMap sgCells) := by
  have hr := row_set h (.int .i64 z) (j := t * 2 + 0)
  rw [flat_set sgCells 2 (fun _ => rfl) zSg ⟨z, (l.getD t zSg).pd⟩ 0 (.int .i64 z) l t ht (by decide) rfl] at hr
  exact hr

/-- A segment's second cell stored into. -/
theorem sg_set1 {w : World} {B g c : Nat} {l : List Sg} {t : Nat} (h : w.ownsRow B sgT 2 (.slice (some ⟨g, 0, none⟩) l.length c) l.length (l.flatMap sgCells)) (ht : t < l.length) (z : Int) :
    (w.setCell ⟨g, t * 2 + 1, none⟩ (.int .i64 z)).ownsRow B sgT 2 (.slice (some ⟨g, 0, none⟩) l.length c) l.length ((l.set t ⟨(l.getD t zSg).st, z⟩).flatMap sgCells) := by
  have hr := row_set h (.int .i64 z) (j := t * 2 + 1)
  rw [flat_set sgCells 2 (fun _ => rfl) zSg ⟨(l.getD t zSg).st, z⟩ 1 (.int .i64 z) l t ht (by decide) rfl] at hr
  exact hr

/-- The cells of a segment of an own row. -/
theorem sg_row {w : World} {B c : Nat} {A : Option Addr} {l : List Sg} {t : Nat} (h : w.ownsRow B sgT 2 (.slice A l.length c) l.length (l.flatMap sgCells)) (ht : t < l.length) : ∃ g, A = some ⟨g, 0, none⟩ ∧ B ≤ g ∧ g < w.heap.size ∧ w.cell? ⟨g, t * 2, none⟩ = some (.int .i64 (l.getD t zSg).st) ∧ w.cell? ⟨g, t * 2 + 1, none⟩ = some (.int .i64 (l.getD t zSg).pd) ∧ w.frozen? ⟨g, t * 2, none⟩ = false ∧ w.frozen? ⟨g, t * 2 + 1, none⟩ = false := by
  obtain ⟨_, g, e, h1, h2, hc⟩ := row_cell (f := sgCells) (fun _ => rfl) zSg h rfl ht
  exact ⟨g, e, h1, h2, (hc 0 (by decide)).1, (hc 1 (by decide)).1, (hc 0 (by decide)).2, (hc 1 (by decide)).2⟩

set_option maxHeartbeats 16000000 in
set_option maxRecDepth 100000 in
theorem shift_any (A : Option Addr) (l : List Sg) (c B : Nat) (y : Int) (w : World) (h : LstV sgCells B w (.slice A l.length c) l) (hf : FewS l) (hy : -1000000 ≤ y ∧ y ≤ 1000000) :
    Calls Try.prog 18 #[.slice A l.length c, .int .i64 y] w fun e w' => ∃ v', e = .returned v' ∧ Below w.heap.size w w' ∧ w'.ownsRow w.heap.size sgT 2 v' l.length ((shiftP y l).flatMap sgCells) := by
  have hn : l.length ≤ 100 := hf.1
  have CL := Lib.hid (sgclone_any _ B l w h (by omega))
  have HF := Lib.hid hf
  obtain ⟨hy0, hy1⟩ := hy
  clear h hf
  go_enter Try.func18, Try.ntmps18
  go_wp2_with fail
  refine CL.out.mono ?_
  rintro e w1 ⟨v', rfl, hb1, ho1⟩
  obtain ⟨A', c', rfl⟩ := row_form ho1
  have B1 := Lib.hid hb1
  have O1 := Lib.hid (show w1.ownsRow w.heap.size sgT 2 (.slice A' l.length c') l.length ((mixS y l 0).flatMap sgCells) from ho1)
  clear hb1 ho1 CL
  go_wp2_with fail
  go_loopw [11] (fun i wr => ∃ t : Nat, t ≤ l.length ∧ i = .int .i64 t ∧ Below w.heap.size w wr ∧ wr.ownsRow w.heap.size sgT 2 (.slice A' l.length c') l.length ((mixS y l t).flatMap sgCells)) (fun i _ => l.length - (intOf i).toNat)
  case atStart => exact ⟨0, Nat.zero_le _, rfl, B1.out, O1.out⟩
  case round =>
    obtain ⟨t, ht, rfl, hb, ho⟩ := hrel
    have HB := Lib.hid hb
    have HO := Lib.hid ho
    clear hb ho B1 O1
    by_cases hlt : t < l.length
    · have hI : (t : Int) < l.length := by omega
      have ML := Lib.hid (mix_len y l ht)
      have MA := Lib.hid (mix_at y l hlt)
      have MS := Lib.hid (mix_set y l hlt)
      obtain ⟨⟨hs0, hs1⟩, hp0, hp1⟩ := few_part HF.out hlt
      have HO2 := Lib.hid (show wr.ownsRow w.heap.size sgT 2 (.slice A' (mixS y l t).length c') (mixS y l t).length ((mixS y l t).flatMap sgCells) from by rw [ML.out]; exact HO.out)
      obtain ⟨g, rfl, hBg, hg, x0, x1, f0, f1⟩ := sg_row HO2.out (t := t) (by rw [ML.out]; exact hlt)
      rw [MA.out] at x0 x1
      have W1 := Lib.hid (sg_set0 HO2.out (t := t) (by rw [ML.out]; exact hlt) ((l.getD t zSg).st + y))
      rw [MA.out] at W1
      have W1' := Lib.hid (show (wr.setCell ⟨g, t * 2, none⟩ (.int .i64 ((l.getD t zSg).st + y))).ownsRow w.heap.size sgT 2 (.slice (some ⟨g, 0, none⟩) ((mixS y l t).set t ⟨(l.getD t zSg).st + y, (l.getD t zSg).pd⟩).length c') ((mixS y l t).set t ⟨(l.getD t zSg).st + y, (l.getD t zSg).pd⟩).length (((mixS y l t).set t ⟨(l.getD t zSg).st + y, (l.getD t zSg).pd⟩).flatMap sgCells) from by rw [List.length_set]; exact W1.out)
      have hlt2 : t < ((mixS y l t).set t ⟨(l.getD t zSg).st + y, (l.getD t zSg).pd⟩).length := by rw [List.length_set, ML.out]; exact hlt
      obtain ⟨_, e2, _, _, u0, u1, f2, f3⟩ := sg_row W1'.out hlt2
      injection e2 with e2
      injection e2 with e2 _ _
      subst e2
      have hat : ((mixS y l t).set t ⟨(l.getD t zSg).st + y, (l.getD t zSg).pd⟩).getD t zSg = ⟨(l.getD t zSg).st + y, (l.getD t zSg).pd⟩ := by
        rw [List.getD_eq_getElem?_getD, List.getElem?_set_self (by rw [ML.out]; exact hlt)]
        rfl
      rw [hat] at u0 u1
      have W2 := Lib.hid (show ∀ z, ((wr.setCell ⟨g, t * 2, none⟩ (.int .i64 ((l.getD t zSg).st + y))).setCell ⟨g, t * 2 + 1, none⟩ (.int .i64 z)).ownsRow w.heap.size sgT 2 (.slice (some ⟨g, 0, none⟩) l.length c') l.length (((mixS y l t).set t ⟨(l.getD t zSg).st + y, z⟩).flatMap sgCells) from fun z => by
        have e := sg_set1 W1'.out hlt2 z
        rw [hat, List.set_set, List.length_set, ML.out] at e
        exact e)
      rw [ML.out] at W1
      have B2 := Lib.hid (show Below w.heap.size w (wr.setCell ⟨g, t * 2, none⟩ (.int .i64 ((l.getD t zSg).st + y))) from HB.out.setCell hBg _)
      clear hat hlt2 W1' HO2 MA ML
      generalize l.getD t zSg = s at *
      obtain ⟨st, pd⟩ := s
      simp only at hs0 hs1 hp0 hp1 x0 x1 u0 u1 f0 f1 f2 f3
      by_cases hp : pd = -1
      · have dp : (pd != -1) = false := by simp [hp]
        have E := Lib.hid (show ((mixS y l t).set t ⟨st + y, pd⟩) = mixS y l (t + 1) from by rw [← MS.out, shift1]; simp only; rw [if_pos hp, hp])
        have O3 := Lib.hid W1.out
        simp only at O3 E
        rw [E.out] at O3
        clear hp MS E W1 W2 HO
        go_wp2_with fail
        go_roundw
        case rel => exact ⟨t + 1, by omega, by go_num, B2.out, O3.out⟩
        case measure => simp [intOf]; omega
      · have dp : (pd != -1) = true := by simp [hp]
        have E := Lib.hid (show ((mixS y l t).set t ⟨st + y, pd + y⟩) = mixS y l (t + 1) from by rw [← MS.out, shift1]; simp only; rw [if_neg hp])
        have O3 := Lib.hid (W2.out (pd + y))
        simp only at O3 E
        rw [E.out] at O3
        have B3 := Lib.hid (show Below w.heap.size w ((wr.setCell ⟨g, t * 2, none⟩ (.int .i64 (st + y))).setCell ⟨g, t * 2 + 1, none⟩ (.int .i64 (pd + y))) from B2.out.setCell hBg _)
        clear hp MS E W1 W2 HO
        go_wp2_with fail
        go_roundw
        case rel => exact ⟨t + 1, by omega, by go_num, B3.out, O3.out⟩
        case measure => simp [intOf]; omega
    · have hI : ¬ (t : Int) < l.length := by omega
      obtain rfl : t = l.length := by omega
      rw [mix_end] at HO
      go_wp2_with fail
      go_ret
      exact ⟨_, rfl, HB.out, HO.out⟩

set_option maxHeartbeats 16000000 in
set_option maxRecDepth 100000 in
theorem refshift_any (A : Option Addr) (l : List Sg) (c B : Nat) (y : Int) (w : World) (h : LstV sgCells B w (.slice A l.length c) l) (hf : FewS l) (hy : -1000000 ≤ y ∧ y ≤ 1000000) :
    Calls Try.prog 19 #[.slice A l.length c, .int .i64 y] w fun e w' => ∃ v', e = .returned v' ∧ Below w.heap.size w w' ∧ w'.ownsRow w.heap.size sgT 2 v' l.length ((shiftP y l).flatMap sgCells) := by
  obtain ⟨i0, hi, hz0, hz1, hz2⟩ := info_parts sgInfo
  have hn : l.length ≤ 100 := hf.1
  have H := Lib.hid h
  have HF := Lib.hid hf
  obtain ⟨hy0, hy1⟩ := hy
  clear h hf
  go_enter Try.func19, Try.ntmps19
  go_wp2_with fail
  go_loopw [5, 6] (fun v i wr => ∃ (t : Nat) (A' : Option Addr) (c' : Nat), t ≤ l.length ∧ v = .slice A' t c' ∧ i = .int .i64 t ∧ Below w.heap.size w wr ∧ wr.ownsRow w.heap.size sgT 2 (.slice A' t c') t ((shiftP y (l.take t)).flatMap sgCells)) (fun _ i _ => l.length - (intOf i).toNat)
  case atStart => exact ⟨0, none, 0, Nat.zero_le _, rfl, rfl, Below.refl _ _, row_nil _ _ _ _⟩
  case round =>
    obtain ⟨t, A', c', ht, rfl, rfl, hb, ho⟩ := hrel
    have HB := Lib.hid hb
    have HO := Lib.hid ho
    clear hb ho
    by_cases hlt : t < l.length
    · have hI : (t : Int) < l.length := by omega
      obtain ⟨b, off, rfl, hbl, x0, x1⟩ := sg_at (H.out.below HB.out) hlt
      obtain ⟨⟨hs0, hs1⟩, hp0, hp1⟩ := few_part HF.out hlt
      have SN := Lib.hid (shift_snoc y l hlt)
      generalize l.getD t zSg = s at *
      obtain ⟨st, pd⟩ := s
      simp only at hs0 hs1 hp0 hp1 x0 x1
      by_cases hp : pd = -1
      · have dp : (pd != -1) = false := by simp [hp]
        have S1 := Lib.hid (show shift1 y ⟨st, pd⟩ = ⟨st + y, pd⟩ from by unfold shift1; simp only; rw [if_pos hp, hp])
        clear hp
        go_wp2_with (at_builtin; have OA := Lib.hid (row_below HO.out ((Below.refl wr.heap.size wr).alloc (Nat.le_refl _) (.cells #[.int .i64 (st + y), .int .i64 pd] sgT))); have NB := Lib.hid (sg_news wr (st + y) pd); have BB := Lib.hid (HB.out.alloc HB.out.size (.cells #[.int .i64 (st + y), .int .i64 pd] sgT)); refine wpList_append_own_at _ rfl _ _ stT rfl w.heap.size sgT i0 _ 2 16 Try.underlying22 hi hz0 hz1 hz2 rfl (by decide) (.slice A' t c') t ((shiftP y (l.take t)).flatMap sgCells) rfl OA.out ⟨wr.heap.size, 0, none⟩ 1 1 (sgCells ⟨st + y, pd⟩) rfl rfl NB.out (sg_one _) (by unfold maxLen; omega) (by omega) BB.out.size ?_; intro v3 w3 ho3 hg3 hnl hat; obtain ⟨A3, c3, rfl⟩ := row_form ho3; have O3 := Lib.hid ho3; have B3 := Lib.hid (BB.out.grown hg3 BB.out.size (fun b hb => (World.ownsRow.lt OA.out b hb).1)); clear ho3 hg3 hat hnl)
        go_roundw
        case rel => exact ⟨t + 1, A3, c3, by omega, rfl, by go_num, B3.out, by rw [SN.out, S1.out, List.flatMap_append, List.flatMap_singleton]; exact O3.out⟩
        case measure => simp [intOf]; omega
      · have dp : (pd != -1) = true := by simp [hp]
        have S1 := Lib.hid (show shift1 y ⟨st, pd⟩ = ⟨st + y, pd + y⟩ from by unfold shift1; simp only; rw [if_neg hp])
        clear hp
        go_wp2_with (at_builtin; have OA := Lib.hid (row_below HO.out ((Below.refl wr.heap.size wr).alloc (Nat.le_refl _) (.cells #[.int .i64 (st + y), .int .i64 (pd + y)] sgT))); have NB := Lib.hid (sg_news wr (st + y) (pd + y)); have BB := Lib.hid (HB.out.alloc HB.out.size (.cells #[.int .i64 (st + y), .int .i64 (pd + y)] sgT)); refine wpList_append_own_at _ rfl _ _ stT rfl w.heap.size sgT i0 _ 2 16 Try.underlying22 hi hz0 hz1 hz2 rfl (by decide) (.slice A' t c') t ((shiftP y (l.take t)).flatMap sgCells) rfl OA.out ⟨wr.heap.size, 0, none⟩ 1 1 (sgCells ⟨st + y, (pd + y)⟩) rfl rfl NB.out (sg_one _) (by unfold maxLen; omega) (by omega) BB.out.size ?_; intro v3 w3 ho3 hg3 hnl hat; obtain ⟨A3, c3, rfl⟩ := row_form ho3; have O3 := Lib.hid ho3; have B3 := Lib.hid (BB.out.grown hg3 BB.out.size (fun b hb => (World.ownsRow.lt OA.out b hb).1)); clear ho3 hg3 hat hnl)
        go_roundw
        case rel => exact ⟨t + 1, A3, c3, by omega, rfl, by go_num, B3.out, by rw [SN.out, S1.out, List.flatMap_append, List.flatMap_singleton]; exact O3.out⟩
        case measure => simp [intOf]; omega
    · have hI : ¬ (t : Int) < l.length := by omega
      obtain rfl : t = l.length := by omega
      rw [List.take_length] at HO
      go_wp2_with fail
      go_ret
      exact ⟨_, rfl, HB.out, HO.out⟩
end Go.Proofs.Ytmahnhghfanhpaa
