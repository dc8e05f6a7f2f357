/- Ranges: the answers' Mark. -/
import Derived.Test.YtmahnhghfanhpaaRngE
namespace Go.Proofs.Ytmahnhghfanhpaa
open Go.ChangeShapes Go.WideShapes Go.ChangeAt Go.RowKit
set_option linter.unusedVariables false
set_option linter.unusedSimpArgs false

set_option maxHeartbeats 16000000 in
set_option maxRecDepth 100000 in
theorem refmark_any (x pad : Int) (B : Nat) (v : Value) (l : List Sg) (w : World) (hv : w.ownsRow B sgT 2 v l.length (l.flatMap sgCells)) (hn : l.length ≤ 1000000) :
    Calls Try.prog 15 #[v, .int .i64 x, .int .i64 pad] w fun e w' => ∃ v', e = .returned v' ∧ Below w.heap.size w w' ∧ w'.ownsRow w.heap.size sgT 2 v' (markP l x pad).length ((markP l x pad).flatMap sgCells) := by
  obtain ⟨i0, hi, hz0, hz1, hz2⟩ := info_parts sgInfo
  have HN := Lib.hid hn
  have BA := Lib.hid ((Below.refl w.heap.size w).alloc (Nat.le_refl _) (.cells #[] sgT))
  have OE := Lib.hid (row_built (e := sgT) (sz := 2) w #[] 0 0 rfl (Nat.le_refl _) (Nat.zero_le _) w.heap.size (Nat.le_refl _) _ rfl [] rfl)
  have HV := Lib.hid (row_below hv BA.out)
  have HZ := Lib.hid (show w.heap.size ≤ (w.alloc (.cells #[] sgT)).heap.size from BA.out.size)
  clear hn hv
  rcases hln : l.length with _ | m
  · have hl : l = [] := List.length_eq_zero_iff.1 hln
    have R := Lib.hid (show markP l x pad = l ++ [⟨x, pad⟩] from mark_push (fun h => h.1 hl) (fun h => h.1 hl))
    have LN := Lib.hid hln
    clear hln hl
    go_enter Try.func15, Try.ntmps15
    repeat (first | (go_big_may; first | (at_builtin; refine wp_app_any _ rfl _ _ stT rfl w.heap.size sgT i0 _ 2 16 Try.underlying22 hi hz0 hz1 hz2 rfl (by decide) (.slice (some ⟨w.heap.size, 0, none⟩) 0 0) 0 [] rfl OE.out v l.length (l.flatMap sgCells) rfl HV.out (one_flat sg_one _) (by have := HN.out; unfold maxLen; omega) (by have := HN.out; omega) HZ.out ?_; intro v1 w1 ho1 hg1 hat1; have O1 := Lib.hid (show w1.ownsRow w.heap.size sgT 2 v1 l.length (l.flatMap sgCells) from (by rw [Nat.zero_add, List.nil_append] at ho1; exact ho1)); have B1 := Lib.hid (BA.out.grown hg1 HZ.out (fun b hb => (World.ownsRow.lt OE.out b hb).1)); clear ho1 hg1 hat1; obtain ⟨A1, c1, rfl⟩ := row_form O1.out; have O2 := Lib.hid (show w1.ownsRow w.heap.size sgT 2 (.slice A1 0 c1) 0 (l.flatMap sgCells) from (by have := O1.out; rw [LN.out] at this; exact this)); have HL := Lib.hid LN.out; rw [LN.out]) | (at_builtin; have OA := Lib.hid (row_below O2.out ((Below.refl w1.heap.size w1).alloc (Nat.le_refl _) (.cells #[.int .i64 x, .int .i64 pad] sgT))); have NB := Lib.hid (sg_news w1 x pad); have BB := Lib.hid (B1.out.alloc B1.out.size (.cells #[.int .i64 x, .int .i64 pad] sgT)); refine wpList_append_own_at _ rfl _ _ stT rfl w.heap.size sgT i0 _ 2 16 Try.underlying22 hi hz0 hz1 hz2 rfl (by decide) (.slice A1 0 c1) 0 (l.flatMap sgCells) rfl OA.out ⟨w1.heap.size, 0, none⟩ 1 1 (sgCells ⟨x, pad⟩) rfl rfl NB.out (sg_one _) (by have := HN.out; have := HL.out; unfold maxLen; omega) (by have := HN.out; have := HL.out; omega) BB.out.size ?_; intro v3 w3 ho3 hg3 hnl hat; obtain ⟨A', c', rfl⟩ := row_form ho3; have O3 := Lib.hid ho3; have B3 := Lib.hid (BB.out.grown hg3 BB.out.size (fun b hb => (World.ownsRow.lt OA.out b hb).1)); clear ho3 hg3 hat hnl)) | go_values | go_skip | go_guarded | go_step | go_upon)
    go_ret
    refine ⟨_, rfl, B3.out, ?_⟩
    rw [R.out, List.length_append, List.flatMap_append, List.flatMap_singleton, LN.out]
    exact O3.out
  have LA := Lib.hid (last_at hln)
  have NN := Lib.hid (ne_nil hln)
  have HM := Lib.hid (show m < l.length by omega)
  have hbm : m + 1 ≤ 1000000 := hln ▸ HN.out
  have dm : decide ((0 : Int) < (m : Int) + 1) = true := decide_eq_true (by omega)
  by_cases hcut : x ≤ (l.getD m zSg).st
  case neg =>
    have NC := Lib.hid (show ¬ (l ≠ [] ∧ x ≤ (lastS l).st) from fun h => hcut (by rw [← LA.out]; exact h.2))
    by_cases hp : (l.getD m zSg).pd = pad
    · have R := Lib.hid (show markP l x pad = l from mark_same NC.out ⟨NN.out, by rw [LA.out]; exact hp⟩)
      generalize hle : l.getD m zSg = s at *
      obtain ⟨st, pd⟩ := s
      have LE := Lib.hid hle
      have LN := Lib.hid hln
      have dc : decide (x ≤ st) = false := decide_eq_false hcut
      have dp : (pd == pad) = true := beq_iff_eq.2 hp
      clear hp hcut LA NC NN hln hle
      go_enter Try.func15, Try.ntmps15
      repeat (first | (go_big_may; first | (at_builtin; refine wp_app_any _ rfl _ _ stT rfl w.heap.size sgT i0 _ 2 16 Try.underlying22 hi hz0 hz1 hz2 rfl (by decide) (.slice (some ⟨w.heap.size, 0, none⟩) 0 0) 0 [] rfl OE.out v l.length (l.flatMap sgCells) rfl HV.out (one_flat sg_one _) (by have := HN.out; unfold maxLen; omega) (by have := HN.out; omega) HZ.out ?_; intro v1 w1 ho1 hg1 hat1; have O1 := Lib.hid (show w1.ownsRow w.heap.size sgT 2 v1 l.length (l.flatMap sgCells) from (by rw [Nat.zero_add, List.nil_append] at ho1; exact ho1)); have B1 := Lib.hid (BA.out.grown hg1 HZ.out (fun b hb => (World.ownsRow.lt OE.out b hb).1)); clear ho1 hg1 hat1; obtain ⟨A1, c1, rfl⟩ := row_form O1.out; obtain ⟨hcap, g2, rfl, _, hg2, hcell⟩ := row_cell (f := sgCells) (fun _ => rfl) zSg O1.out rfl HM.out; have x0 : w1.cell? ⟨g2, m * 2, none⟩ = some (.int .i64 st) := (hcell 0 (by decide)).1.trans (congrArg (fun s : Sg => some (Value.int .i64 s.st)) LE.out); have x1 : w1.cell? ⟨g2, m * 2 + 1, none⟩ = some (.int .i64 pd) := (hcell 1 (by decide)).1.trans (congrArg (fun s : Sg => some (Value.int .i64 s.pd)) LE.out); have O2 := Lib.hid (show w1.ownsRow w.heap.size sgT 2 (.slice (some ⟨g2, 0, none⟩) (m + 1) c1) (m + 1) (l.flatMap sgCells) from (by have := O1.out; rw [LN.out] at this; exact this)); rw [LN.out] at hcap ⊢; clear hcell)) | go_values | go_skip | go_guarded | go_step | go_upon)
      go_ret
      refine ⟨_, rfl, B1.out, ?_⟩
      rw [R.out, LN.out]
      exact O2.out
    · have R := Lib.hid (show markP l x pad = l ++ [⟨x, pad⟩] from mark_push NC.out (fun h => hp (by rw [← LA.out]; exact h.2)))
      generalize hle : l.getD m zSg = s at *
      obtain ⟨st, pd⟩ := s
      have LE := Lib.hid hle
      have LN := Lib.hid hln
      have dc : decide (x ≤ st) = false := decide_eq_false hcut
      have dp : (pd == pad) = false := beq_eq_false_iff_ne.2 hp
      clear hp hcut LA NC NN hln hle
      go_enter Try.func15, Try.ntmps15
      repeat (first | (go_big_may; first | (at_builtin; refine wp_app_any _ rfl _ _ stT rfl w.heap.size sgT i0 _ 2 16 Try.underlying22 hi hz0 hz1 hz2 rfl (by decide) (.slice (some ⟨w.heap.size, 0, none⟩) 0 0) 0 [] rfl OE.out v l.length (l.flatMap sgCells) rfl HV.out (one_flat sg_one _) (by have := HN.out; unfold maxLen; omega) (by have := HN.out; omega) HZ.out ?_; intro v1 w1 ho1 hg1 hat1; have O1 := Lib.hid (show w1.ownsRow w.heap.size sgT 2 v1 l.length (l.flatMap sgCells) from (by rw [Nat.zero_add, List.nil_append] at ho1; exact ho1)); have B1 := Lib.hid (BA.out.grown hg1 HZ.out (fun b hb => (World.ownsRow.lt OE.out b hb).1)); clear ho1 hg1 hat1; obtain ⟨A1, c1, rfl⟩ := row_form O1.out; obtain ⟨hcap, g2, rfl, _, hg2, hcell⟩ := row_cell (f := sgCells) (fun _ => rfl) zSg O1.out rfl HM.out; have x0 : w1.cell? ⟨g2, m * 2, none⟩ = some (.int .i64 st) := (hcell 0 (by decide)).1.trans (congrArg (fun s : Sg => some (Value.int .i64 s.st)) LE.out); have x1 : w1.cell? ⟨g2, m * 2 + 1, none⟩ = some (.int .i64 pd) := (hcell 1 (by decide)).1.trans (congrArg (fun s : Sg => some (Value.int .i64 s.pd)) LE.out); have O2 := Lib.hid (show w1.ownsRow w.heap.size sgT 2 (.slice (some ⟨g2, 0, none⟩) (m + 1) c1) (m + 1) (l.flatMap sgCells) from (by have := O1.out; rw [LN.out] at this; exact this)); have HL := Lib.hid LN.out; rw [LN.out] at hcap ⊢; clear hcell) | (at_builtin; have OA := Lib.hid (row_below O2.out ((Below.refl w1.heap.size w1).alloc (Nat.le_refl _) (.cells #[.int .i64 x, .int .i64 pad] sgT))); have NB := Lib.hid (sg_news w1 x pad); have BB := Lib.hid (B1.out.alloc B1.out.size (.cells #[.int .i64 x, .int .i64 pad] sgT)); refine wpList_append_own_at _ rfl _ _ stT rfl w.heap.size sgT i0 _ 2 16 Try.underlying22 hi hz0 hz1 hz2 rfl (by decide) (.slice (some ⟨g2, 0, none⟩) (m + 1) c1) (m + 1) (l.flatMap sgCells) rfl OA.out ⟨w1.heap.size, 0, none⟩ 1 1 (sgCells ⟨x, pad⟩) rfl rfl NB.out (sg_one _) (by have := HN.out; have := HL.out; unfold maxLen; omega) (by have := HN.out; have := HL.out; omega) BB.out.size ?_; intro v3 w3 ho3 hg3 hnl hat; obtain ⟨A', c', rfl⟩ := row_form ho3; have O3 := Lib.hid ho3; have B3 := Lib.hid (BB.out.grown hg3 BB.out.size (fun b hb => (World.ownsRow.lt OA.out b hb).1)); clear ho3 hg3 hat hnl)) | go_values | go_skip | go_guarded | go_step | go_upon)
      go_ret
      refine ⟨_, rfl, B3.out, ?_⟩
      rw [R.out, List.length_append, List.flatMap_append, List.flatMap_singleton, LN.out]
      exact O3.out
  have HC := Lib.hid (show l ≠ [] ∧ x ≤ (lastS l).st from ⟨NN.out, by rw [LA.out]; exact hcut⟩)
  have LT := Lib.hid (show l.take (l.length - 1) = l.take m by rw [hln, Nat.add_sub_cancel])
  have LL := Lib.hid (show (l.take m).length = m by rw [List.length_take, hln]; omega)
  rcases m with _ | k
  · have R := Lib.hid (show markP l x pad = l.take 0 ++ [⟨(l.getD 0 zSg).st, pad⟩] from by
      rw [mark_cut_push HC.out (fun h => by rw [LT.out] at h; exact h.1 rfl), LT.out, LA.out])
    generalize hle : l.getD 0 zSg = s at *
    obtain ⟨st, pd⟩ := s
    have LE := Lib.hid hle
    have LN0 := Lib.hid hln
    have LN := Lib.hid LL.out
    have dc : decide (x ≤ st) = true := decide_eq_true hcut
    simp only at R
    clear hcut LA NN hln hle HC LT LL
    go_enter Try.func15, Try.ntmps15
    repeat (first | (go_big_may; first | (at_builtin; refine wp_app_any _ rfl _ _ stT rfl w.heap.size sgT i0 _ 2 16 Try.underlying22 hi hz0 hz1 hz2 rfl (by decide) (.slice (some ⟨w.heap.size, 0, none⟩) 0 0) 0 [] rfl OE.out v l.length (l.flatMap sgCells) rfl HV.out (one_flat sg_one _) (by have := HN.out; unfold maxLen; omega) (by have := HN.out; omega) HZ.out ?_; intro v1 w1 ho1 hg1 hat1; have O1 := Lib.hid (show w1.ownsRow w.heap.size sgT 2 v1 l.length (l.flatMap sgCells) from (by rw [Nat.zero_add, List.nil_append] at ho1; exact ho1)); have B1 := Lib.hid (BA.out.grown hg1 HZ.out (fun b hb => (World.ownsRow.lt OE.out b hb).1)); clear ho1 hg1 hat1; obtain ⟨A1, c1, rfl⟩ := row_form O1.out; obtain ⟨hcap, g2, rfl, _, hg2, hcell⟩ := row_cell (f := sgCells) (fun _ => rfl) zSg O1.out rfl HM.out; have x0 : w1.cell? ⟨g2, 0 * 2, none⟩ = some (.int .i64 st) := (hcell 0 (by decide)).1.trans (congrArg (fun s : Sg => some (Value.int .i64 s.st)) LE.out); have x1 : w1.cell? ⟨g2, 0 * 2 + 1, none⟩ = some (.int .i64 pd) := (hcell 1 (by decide)).1.trans (congrArg (fun s : Sg => some (Value.int .i64 s.pd)) LE.out); have O2 := Lib.hid (show w1.ownsRow w.heap.size sgT 2 (.slice (some ⟨g2, 0, none⟩) 0 c1) 0 ((l.take 0).flatMap sgCells) from row_front (f := sgCells) (k := 2) (l := l) (fun _ => rfl) O1.out (by have := LN0.out; omega)); have hsl : ∀ W, (Instr.slice stT (.slice (some ⟨g2, 0, none⟩) 1 c1) none (some (.int .i64 0)) none).run Try.prog W = .ok (.slice (some ⟨g2, 0, none⟩) 0 c1) W := slice_front g2 0 1 c1 (by have := LN0.out; omega) (by have := LN0.out; omega); have HL := Lib.hid LN0.out; rw [LN0.out] at hcap ⊢; clear hcell; rw [Nat.zero_mul] at x0 x1) | (at_builtin; have OA := Lib.hid (row_below O2.out ((Below.refl w1.heap.size w1).alloc (Nat.le_refl _) (.cells #[.int .i64 st, .int .i64 pad] sgT))); have NB := Lib.hid (sg_news w1 st pad); have BB := Lib.hid (B1.out.alloc B1.out.size (.cells #[.int .i64 st, .int .i64 pad] sgT)); refine wpList_append_own_at _ rfl _ _ stT rfl w.heap.size sgT i0 _ 2 16 Try.underlying22 hi hz0 hz1 hz2 rfl (by decide) (.slice (some ⟨g2, 0, none⟩) 0 c1) 0 ((l.take 0).flatMap sgCells) rfl OA.out ⟨w1.heap.size, 0, none⟩ 1 1 (sgCells ⟨st, pad⟩) rfl rfl NB.out (sg_one _) (by have := HN.out; have := HL.out; unfold maxLen; omega) (by have := HN.out; have := HL.out; omega) BB.out.size ?_; intro v3 w3 ho3 hg3 hnl hat; obtain ⟨A', c', rfl⟩ := row_form ho3; have O3 := Lib.hid ho3; have B3 := Lib.hid (BB.out.grown hg3 BB.out.size (fun b hb => (World.ownsRow.lt OA.out b hb).1)); clear ho3 hg3 hat hnl)) | go_values | go_skip | go_guarded | go_step | go_upon)
    go_ret
    refine ⟨_, rfl, B3.out, ?_⟩
    rw [R.out, List.length_append, List.flatMap_append, List.flatMap_singleton, LN.out]
    exact O3.out
  · have LA2 := Lib.hid (last_take (l := l) (m := k) (by omega))
    have NN2 := Lib.hid (show l.take (k + 1) ≠ [] from ne_nil LL.out)
    have HK := Lib.hid (show k < l.length by omega)
    have dk : decide ((0 : Int) < (k : Int) + 1) = true := decide_eq_true (by omega)
    by_cases hp : (l.getD k zSg).pd = pad
    · have R := Lib.hid (show markP l x pad = l.take (k + 1) from by
        rw [mark_cut_same HC.out (by rw [LT.out]; exact ⟨NN2.out, by rw [LA2.out]; exact hp⟩), LT.out])
      have dp : ((l.getD k zSg).pd == pad) = true := beq_iff_eq.2 hp
      generalize hpk : (l.getD k zSg).pd = ppd at *
      generalize hle : l.getD (k + 1) zSg = s at *
      obtain ⟨st, pd⟩ := s
      have LE := Lib.hid hle
      have LP := Lib.hid hpk
      have LN0 := Lib.hid hln
      have LN := Lib.hid LL.out
      have dc : decide (x ≤ st) = true := decide_eq_true hcut
      clear hp hcut LA NN hln hle hpk HC LT LL LA2 NN2
      go_enter Try.func15, Try.ntmps15
      repeat (first | (go_big_may; first | (at_builtin; refine wp_app_any _ rfl _ _ stT rfl w.heap.size sgT i0 _ 2 16 Try.underlying22 hi hz0 hz1 hz2 rfl (by decide) (.slice (some ⟨w.heap.size, 0, none⟩) 0 0) 0 [] rfl OE.out v l.length (l.flatMap sgCells) rfl HV.out (one_flat sg_one _) (by have := HN.out; unfold maxLen; omega) (by have := HN.out; omega) HZ.out ?_; intro v1 w1 ho1 hg1 hat1; have O1 := Lib.hid (show w1.ownsRow w.heap.size sgT 2 v1 l.length (l.flatMap sgCells) from (by rw [Nat.zero_add, List.nil_append] at ho1; exact ho1)); have B1 := Lib.hid (BA.out.grown hg1 HZ.out (fun b hb => (World.ownsRow.lt OE.out b hb).1)); clear ho1 hg1 hat1; obtain ⟨A1, c1, rfl⟩ := row_form O1.out; obtain ⟨hcap, g2, rfl, _, hg2, hcell⟩ := row_cell (f := sgCells) (fun _ => rfl) zSg O1.out rfl HM.out; have x0 : w1.cell? ⟨g2, (k + 1) * 2, none⟩ = some (.int .i64 st) := (hcell 0 (by decide)).1.trans (congrArg (fun s : Sg => some (Value.int .i64 s.st)) LE.out); have x1 : w1.cell? ⟨g2, (k + 1) * 2 + 1, none⟩ = some (.int .i64 pd) := (hcell 1 (by decide)).1.trans (congrArg (fun s : Sg => some (Value.int .i64 s.pd)) LE.out); have p1 : w1.cell? ⟨g2, k * 2 + 1, none⟩ = some (.int .i64 ppd) := (by have hq := (row_cell (f := sgCells) (fun _ => rfl) zSg O1.out rfl HK.out).2; obtain ⟨g3, e3, _, _, hq⟩ := hq; injection e3 with e3; injection e3 with e3 _ _; subst e3; exact (hq 1 (by decide)).1.trans (congrArg (fun s : Int => some (Value.int .i64 s)) LP.out)); have O2 := Lib.hid (show w1.ownsRow w.heap.size sgT 2 (.slice (some ⟨g2, 0, none⟩) (k + 1) c1) (k + 1) ((l.take (k + 1)).flatMap sgCells) from row_front (f := sgCells) (k := 2) (l := l) (fun _ => rfl) O1.out (by have := LN0.out; omega)); have hsl : ∀ W, (Instr.slice stT (.slice (some ⟨g2, 0, none⟩) (k + 1 + 1) c1) none (some (.int .i64 ((k : Int) + 1))) none).run Try.prog W = .ok (.slice (some ⟨g2, 0, none⟩) (k + 1) c1) W := slice_front g2 (k + 1) (k + 1 + 1) c1 (by have := LN0.out; omega) (by have := LN0.out; omega); have HL := Lib.hid LN0.out; rw [LN0.out] at hcap ⊢; clear hcell)) | go_values | go_skip | go_guarded | go_step | go_upon)
      go_ret
      refine ⟨_, rfl, B1.out, ?_⟩
      rw [R.out, LN.out]
      exact O2.out
    · have R := Lib.hid (show markP l x pad = l.take (k + 1) ++ [⟨(l.getD (k + 1) zSg).st, pad⟩] from by
        rw [mark_cut_push HC.out (fun h => by rw [LT.out] at h; exact hp (by rw [← LA2.out]; exact h.2)), LT.out, LA.out])
      have dp : ((l.getD k zSg).pd == pad) = false := beq_eq_false_iff_ne.2 hp
      generalize hpk : (l.getD k zSg).pd = ppd at *
      generalize hle : l.getD (k + 1) zSg = s at *
      obtain ⟨st, pd⟩ := s
      have LE := Lib.hid hle
      have LP := Lib.hid hpk
      have LN0 := Lib.hid hln
      have LN := Lib.hid LL.out
      have dc : decide (x ≤ st) = true := decide_eq_true hcut
      simp only at R
      clear hp hcut LA NN hln hle hpk HC LT LL LA2 NN2
      go_enter Try.func15, Try.ntmps15
      repeat (first | (go_big_may; first | (at_builtin; refine wp_app_any _ rfl _ _ stT rfl w.heap.size sgT i0 _ 2 16 Try.underlying22 hi hz0 hz1 hz2 rfl (by decide) (.slice (some ⟨w.heap.size, 0, none⟩) 0 0) 0 [] rfl OE.out v l.length (l.flatMap sgCells) rfl HV.out (one_flat sg_one _) (by have := HN.out; unfold maxLen; omega) (by have := HN.out; omega) HZ.out ?_; intro v1 w1 ho1 hg1 hat1; have O1 := Lib.hid (show w1.ownsRow w.heap.size sgT 2 v1 l.length (l.flatMap sgCells) from (by rw [Nat.zero_add, List.nil_append] at ho1; exact ho1)); have B1 := Lib.hid (BA.out.grown hg1 HZ.out (fun b hb => (World.ownsRow.lt OE.out b hb).1)); clear ho1 hg1 hat1; obtain ⟨A1, c1, rfl⟩ := row_form O1.out; obtain ⟨hcap, g2, rfl, _, hg2, hcell⟩ := row_cell (f := sgCells) (fun _ => rfl) zSg O1.out rfl HM.out; have x0 : w1.cell? ⟨g2, (k + 1) * 2, none⟩ = some (.int .i64 st) := (hcell 0 (by decide)).1.trans (congrArg (fun s : Sg => some (Value.int .i64 s.st)) LE.out); have x1 : w1.cell? ⟨g2, (k + 1) * 2 + 1, none⟩ = some (.int .i64 pd) := (hcell 1 (by decide)).1.trans (congrArg (fun s : Sg => some (Value.int .i64 s.pd)) LE.out); have p1 : w1.cell? ⟨g2, k * 2 + 1, none⟩ = some (.int .i64 ppd) := (by have hq := (row_cell (f := sgCells) (fun _ => rfl) zSg O1.out rfl HK.out).2; obtain ⟨g3, e3, _, _, hq⟩ := hq; injection e3 with e3; injection e3 with e3 _ _; subst e3; exact (hq 1 (by decide)).1.trans (congrArg (fun s : Int => some (Value.int .i64 s)) LP.out)); have O2 := Lib.hid (show w1.ownsRow w.heap.size sgT 2 (.slice (some ⟨g2, 0, none⟩) (k + 1) c1) (k + 1) ((l.take (k + 1)).flatMap sgCells) from row_front (f := sgCells) (k := 2) (l := l) (fun _ => rfl) O1.out (by have := LN0.out; omega)); have hsl : ∀ W, (Instr.slice stT (.slice (some ⟨g2, 0, none⟩) (k + 1 + 1) c1) none (some (.int .i64 ((k : Int) + 1))) none).run Try.prog W = .ok (.slice (some ⟨g2, 0, none⟩) (k + 1) c1) W := slice_front g2 (k + 1) (k + 1 + 1) c1 (by have := LN0.out; omega) (by have := LN0.out; omega); have HL := Lib.hid LN0.out; rw [LN0.out] at hcap ⊢; clear hcell) | (at_builtin; have OA := Lib.hid (row_below O2.out ((Below.refl w1.heap.size w1).alloc (Nat.le_refl _) (.cells #[.int .i64 st, .int .i64 pad] sgT))); have NB := Lib.hid (sg_news w1 st pad); have BB := Lib.hid (B1.out.alloc B1.out.size (.cells #[.int .i64 st, .int .i64 pad] sgT)); refine wpList_append_own_at _ rfl _ _ stT rfl w.heap.size sgT i0 _ 2 16 Try.underlying22 hi hz0 hz1 hz2 rfl (by decide) (.slice (some ⟨g2, 0, none⟩) (k + 1) c1) (k + 1) ((l.take (k + 1)).flatMap sgCells) rfl OA.out ⟨w1.heap.size, 0, none⟩ 1 1 (sgCells ⟨st, pad⟩) rfl rfl NB.out (sg_one _) (by have := HN.out; have := HL.out; unfold maxLen; omega) (by have := HN.out; have := HL.out; omega) BB.out.size ?_; intro v3 w3 ho3 hg3 hnl hat; obtain ⟨A', c', rfl⟩ := row_form ho3; have O3 := Lib.hid ho3; have B3 := Lib.hid (BB.out.grown hg3 BB.out.size (fun b hb => (World.ownsRow.lt OA.out b hb).1)); clear ho3 hg3 hat hnl)) | go_values | go_skip | go_guarded | go_step | go_upon)
      go_ret
      refine ⟨_, rfl, B3.out, ?_⟩
      rw [R.out, List.length_append, List.flatMap_append, List.flatMap_singleton, LN.out]
      exact O3.out
end Go.Proofs.Ytmahnhghfanhpaa
