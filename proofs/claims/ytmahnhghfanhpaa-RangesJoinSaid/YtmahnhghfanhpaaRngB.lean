/- Ranges: the law's few, rising; lists alike; slices.Clone of segments. -/
import Derived.Test.YtmahnhghfanhpaaRngA
import Derived.Test.YtmahnhghfanhpaaRowCnt
import Derived.Test.YtmahnhghfanhpaaLaid
import Derived.Deep.QuietTactic
import Derived.Deep.RegionHeld3
import Derived.BigQuiet
import Derived.Laws.Cover3
namespace Go.Proofs.Ytmahnhghfanhpaa
open Go.ChangeShapes Go.WideShapes Go.ChangeAt Go.RowKit
set_option linter.unusedVariables false
set_option linter.unusedSimpArgs false

/-- A segment that is tried. -/
def okS (s : Sg) : Prop := ((-1000000 ≤ s.st ∧ s.st ≤ 1000000) ∧ -1000000 ≤ s.pd) ∧ s.pd ≤ 1000000

instance (s : Sg) : Decidable (okS s) := by unfold okS; infer_instance

def okAll (l : List Sg) : Prop := ∀ s ∈ l, okS s

instance decOkAll (l : List Sg) : Decidable (okAll l) := by unfold okAll; infer_instance

/-- Segments that are tried. -/
def FewS (l : List Sg) : Prop := l.length ≤ 100 ∧ okAll l

instance (l : List Sg) : Decidable (FewS l) := by unfold FewS; infer_instance

instance (l : List Sg) : Decidable (riseS l) := by unfold riseS; infer_instance

/-- Each start below the next one. -/
def riseC : List Sg → Prop
  | a :: b :: l => a.st < b.st ∧ riseC (b :: l)
  | _ => True

instance decRise : ∀ l : List Sg, Decidable (riseC l)
  | [] => isTrue trivial
  | [_] => isTrue trivial
  | a :: b :: l => @instDecidableAnd _ _ (inferInstanceAs (Decidable (a.st < b.st))) (decRise (b :: l))

theorem rise_iff : ∀ l : List Sg, riseS l ↔ riseC l
  | [] => ⟨fun _ => trivial, fun _ => List.Pairwise.nil⟩
  | [a] => ⟨fun _ => trivial, fun _ => List.pairwise_singleton _ _⟩
  | a :: b :: l => by
    have ih := rise_iff (b :: l)
    constructor
    · intro h
      obtain ⟨h1, h2⟩ := List.pairwise_cons.1 h
      exact ⟨h1 b (by simp), ih.1 h2⟩
    · rintro ⟨h1, h2⟩
      have h3 := ih.2 h2
      refine List.pairwise_cons.2 ⟨fun x hx => ?_, h3⟩
      rcases List.mem_cons.1 hx with rfl | hx
      · exact h1
      · have := (List.pairwise_cons.1 h3).1 x hx
        show a.st < x.st
        have h4 : b.st < x.st := this
        omega

theorem riseC_drop (l : List Sg) {t : Nat} (ht : t + 1 < l.length) : riseC (l.drop t) ↔ (l.getD t zSg).st < (l.getD (t + 1) zSg).st ∧ riseC (l.drop (t + 1)) := by
  rw [dropL l zSg (show t < l.length by omega), dropL l zSg ht]
  exact Iff.rfl

theorem riseC_end (l : List Sg) {t : Nat} (ht : l.length ≤ t + 1) : riseC (l.drop t) := by
  by_cases h : t < l.length
  · rw [dropL l zSg h, List.drop_of_length_le ht]
    trivial
  · rw [List.drop_of_length_le (by omega)]
    trivial

theorem few_drop (l : List Sg) {t : Nat} (ht : t < l.length) : okAll (l.drop t) ↔ okS (l.getD t zSg) ∧ okAll (l.drop (t + 1)) := by
  rw [dropL l zSg ht]
  exact List.forall_mem_cons

theorem few_at {l : List Sg} (h : FewS l) {t : Nat} (ht : t < l.length) : okS (l.getD t zSg) := h.2 _ (getD_memS ht)

theorem sg_one (x : Sg) : ∀ u ∈ sgCells x, u.oneCell' = true := by
  intro u hu
  simp [sgCells] at hu
  rcases hu with rfl | rfl <;> rfl

theorem sg_len (l : List Sg) : (l.flatMap sgCells).length = l.length * 2 := flat_len (f := sgCells) (k := 2) (fun _ => rfl) l

set_option maxHeartbeats 16000000 in
set_option maxRecDepth 100000 in
theorem few_any (A : Option Addr) (l : List Sg) (c B : Nat) (w : World) (h : LstV sgCells B w (.slice A l.length c) l) (hn : l.length ≤ 140737488355328) :
    Calls Try.prog 8 #[.slice A l.length c] w fun e w' => e = .returned (.bool (decide (FewS l))) ∧ Below w.heap.size w w' := by
  have H := Lib.hid h
  generalize hr : decide (FewS l) = r
  have HR := Lib.hid hr.symm
  clear hr h
  by_cases h0 : l.length ≤ 100
  case neg =>
    have d0 : decide ((100 : Int) < l.length) = true := decide_eq_true (by omega)
    have R := Lib.hid (show r = false from dec_no HR.out (fun h => h0 h.1))
    clear h0 HR
    go_enter Try.func8, Try.ntmps8
    go_wp2_with fail
    go_ret
    rw [R.out]
    exact ⟨rfl, Below.refl _ _⟩
  have d0 : decide ((100 : Int) < l.length) = false := decide_eq_false (by omega)
  have R0 := Lib.hid (show r = decide (okAll (l.drop 0)) from dec_iff HR.out ⟨fun h => h.2, fun h => ⟨h0, h⟩⟩)
  clear HR h0
  go_enter Try.func8, Try.ntmps8
  go_wp2_with fail
  clear d0
  go_loopw [3] (fun i wr => ∃ t : Nat, t ≤ l.length ∧ i = .int .i64 t ∧ r = decide (okAll (l.drop t)) ∧ Below w.heap.size w wr) (fun i _ => l.length - (intOf i).toNat)
  case atStart => exact ⟨0, Nat.zero_le _, rfl, R0.out, Below.refl _ _⟩
  case round =>
    obtain ⟨t, ht, rfl, hrt, hb⟩ := hrel
    have RT := Lib.hid hrt
    have HB := Lib.hid hb
    clear hrt hb R0
    by_cases hlt : t < l.length
    · have hI : (t : Int) < l.length := by omega
      obtain ⟨b, off, rfl, hbl, x0, x1⟩ := sg_at (H.out.below HB.out) hlt
      have FD := Lib.hid (few_drop l hlt)
      generalize l.getD t zSg = s at *
      obtain ⟨st, pd⟩ := s
      simp only at x0 x1
      have RN := Lib.hid (show ¬ (okS ⟨st, pd⟩ ∧ okAll (l.drop (t + 1))) → r = false from fun h => dec_no RT.out (fun h' => h (FD.out.1 h')))
      have RY := Lib.hid (show okS ⟨st, pd⟩ → r = decide (okAll (l.drop (t + 1))) from fun h => dec_iff RT.out ⟨fun h' => (FD.out.1 h').2, fun h' => FD.out.2 ⟨h, h'⟩⟩)
      clear FD RT
      have Y := Lib.hid (Whole.made wr sgT #[.int .i64 st, .int .i64 pd] _ rfl)
      have B1 := Lib.hid (HB.out.alloc HB.out.size (.cells #[.int .i64 st, .int .i64 pd] sgT))
      have y0 : (wr.alloc (.cells #[.int .i64 st, .int .i64 pd] sgT)).cell? ⟨wr.heap.size, 0, none⟩ = some (.int .i64 st) := Y.out.cell 0
      have y1 : (wr.alloc (.cells #[.int .i64 st, .int .i64 pd] sgT)).cell? ⟨wr.heap.size, 1, none⟩ = some (.int .i64 pd) := Y.out.cell 1
      by_cases e0 : st < -1000000
      · have d0 : decide (st < -1000000) = true := decide_eq_true e0
        have R := Lib.hid (RN.out (fun h => by have := h.1; unfold okS at this; dsimp only at this; omega))
        clear RN RY e0
        go_wp2_with fail
        go_ret
        rw [R.out]
        exact ⟨rfl, B1.out⟩
      have d0 : decide (st < -1000000) = false := decide_eq_false e0
      by_cases e1 : 1000000 < st
      · have d1 : decide (1000000 < st) = true := decide_eq_true e1
        have R := Lib.hid (RN.out (fun h => by have := h.1; unfold okS at this; dsimp only at this; omega))
        clear RN RY e0 e1
        go_wp2_with fail
        go_ret
        rw [R.out]
        exact ⟨rfl, B1.out⟩
      have d1 : decide (1000000 < st) = false := decide_eq_false e1
      by_cases e2 : pd < -1000000
      · have d2 : decide (pd < -1000000) = true := decide_eq_true e2
        have R := Lib.hid (RN.out (fun h => by have := h.1; unfold okS at this; dsimp only at this; omega))
        clear RN RY e0 e1 e2
        go_wp2_with fail
        go_ret
        rw [R.out]
        exact ⟨rfl, B1.out⟩
      have d2 : decide (pd < -1000000) = false := decide_eq_false e2
      by_cases e3 : 1000000 < pd
      · have d3 : decide (1000000 < pd) = true := decide_eq_true e3
        have R := Lib.hid (RN.out (fun h => by have := h.1; unfold okS at this; dsimp only at this; omega))
        clear RN RY e0 e1 e2 e3
        go_wp2_with fail
        go_ret
        rw [R.out]
        exact ⟨rfl, B1.out⟩
      have d3 : decide (1000000 < pd) = false := decide_eq_false e3
      have RF := Lib.hid (RY.out ⟨⟨⟨by show -1000000 ≤ st; omega, by show st ≤ 1000000; omega⟩, by show -1000000 ≤ pd; omega⟩, by show pd ≤ 1000000; omega⟩)
      clear RN RY e0 e1 e2 e3
      go_wp2_with fail
      go_roundw
      case rel => exact ⟨t + 1, by omega, by go_num, RF.out, B1.out⟩
      case measure => simp [intOf]; omega
    · have hI : ¬ (t : Int) < l.length := by omega
      obtain rfl : t = l.length := by omega
      have R := Lib.hid (show r = true from dec_yes RT.out (by rw [List.drop_length]; exact fun s h => (List.not_mem_nil h).elim))
      clear RT
      go_wp2_with fail
      go_ret
      rw [R.out]
      exact ⟨rfl, HB.out⟩

set_option maxHeartbeats 16000000 in
set_option maxRecDepth 100000 in
theorem rising_any (A : Option Addr) (l : List Sg) (c B : Nat) (w : World) (h : LstV sgCells B w (.slice A l.length c) l) (hn : l.length ≤ 140737488355328) :
    Calls Try.prog 11 #[.slice A l.length c] w fun e w' => e = .returned (.bool (decide (riseS l))) ∧ Below w.heap.size w w' := by
  have H := Lib.hid h
  have R0 := Lib.hid (show decide (riseS l) = decide (riseC (l.drop 0)) from dec_iff rfl (rise_iff l))
  generalize decide (riseS l) = r at *
  clear h
  go_enter Try.func11, Try.ntmps11
  go_wp2_with fail
  go_loopw [3] (fun i wr => ∃ t : Nat, t ≤ l.length ∧ i = .int .i64 ((t : Int) + 1) ∧ r = decide (riseC (l.drop t)) ∧ Below w.heap.size w wr) (fun i _ => l.length + 1 - (intOf i).toNat)
  case atStart => exact ⟨0, Nat.zero_le _, rfl, R0.out, Below.refl _ _⟩
  case round =>
    obtain ⟨t, ht, rfl, hrt, hb⟩ := hrel
    have RT := Lib.hid hrt
    have HB := Lib.hid hb
    clear hrt hb R0
    by_cases hlt : t + 1 < l.length
    · have hI : (t : Int) + 1 < l.length := by omega
      have KB := Lib.hid (H.out.below HB.out)
      obtain ⟨b, off, rfl, hbl, x0, _⟩ := sg_at KB.out hlt
      obtain ⟨_, _, e1, _, p0, _⟩ := sg_at KB.out (show t < l.length by omega)
      injection e1 with e1
      injection e1 with e1 e2
      subst e1 e2
      have FD := Lib.hid (riseC_drop l hlt)
      generalize (l.getD t zSg).st = s at *
      generalize (l.getD (t + 1) zSg).st = s2 at *
      clear KB
      by_cases hs : s2 ≤ s
      · have ds : decide (s2 ≤ s) = true := decide_eq_true hs
        have R := Lib.hid (show r = false from dec_no RT.out (fun h' => by have := (FD.out.1 h').1; omega))
        clear FD RT hs
        go_wp2_with fail
        go_quiet (fail)
        rename_i nq
        have BF := Lib.hid (below_drawn HB.out nq)
        go_wp2_with fail
        go_ret
        rw [R.out]
        exact ⟨rfl, BF.out⟩
      · have ds : decide (s2 ≤ s) = false := decide_eq_false hs
        have RF := Lib.hid (show r = decide (riseC (l.drop (t + 1))) from dec_iff RT.out ⟨fun h' => (FD.out.1 h').2, fun h' => FD.out.2 ⟨by omega, h'⟩⟩)
        clear FD RT hs
        go_wp2_with fail
        go_quiet (fail)
        rename_i nq
        have BF := Lib.hid (below_drawn HB.out nq)
        go_wp2_with fail
        go_roundw
        case rel => exact ⟨t + 1, by omega, by go_num, RF.out, BF.out⟩
        case measure => simp [intOf]; omega
    · have hI : ¬ (t : Int) + 1 < l.length := by omega
      have R := Lib.hid (show r = true from dec_yes RT.out (riseC_end l (by omega)))
      clear RT
      go_wp2_with fail
      go_ret
      rw [R.out]
      exact ⟨rfl, HB.out⟩

set_option maxHeartbeats 16000000 in
set_option maxRecDepth 100000 in
theorem same16_any (v1 v2 : Value) (B B' : Nat) (l : List Sg) (w : World) (h : LstV sgCells B w v1 l) (h' : LstV sgCells B' w v2 l) (hn : l.length ≤ 140737488355328) :
    Calls Try.prog 16 #[v1, v2] w fun e w' => e = .returned (.bool true) ∧ Below w.heap.size w w' := by
  obtain ⟨A1, c1, rfl⟩ := h.form
  obtain ⟨A2, c2, rfl⟩ := h'.form
  have H1 := Lib.hid h
  have H2 := Lib.hid h'
  have dl : ((l.length : Int) != (l.length : Int)) = false := by simp
  clear h h'
  go_enter Try.func16, Try.ntmps16
  go_wp2_with fail
  go_loopw [5] (fun i wr => ∃ t : Nat, t ≤ l.length ∧ i = .int .i64 t ∧ Below w.heap.size w wr) (fun i _ => l.length - (intOf i).toNat)
  case atStart => exact ⟨0, Nat.zero_le _, rfl, Below.refl _ _⟩
  case round =>
    obtain ⟨t, ht, rfl, hb⟩ := hrel
    have HB := Lib.hid hb
    have K1 := Lib.hid (H1.out.below hb)
    have K2 := Lib.hid (H2.out.below hb)
    clear hb
    by_cases hlt : t < l.length
    · have hI : (t : Int) < l.length := by omega
      have B0 := Lib.hid (fun nq => below_drawn HB.out nq)
      obtain ⟨b1, o1, rfl, _, x0, x1⟩ := sg_at K1.out hlt
      obtain ⟨b2, o2, rfl, _, y0, y1⟩ := sg_at K2.out hlt
      generalize l.getD t zSg = s at *
      obtain ⟨st, pd⟩ := s
      simp only at x0 x1 y0 y1
      clear K1 K2
      go_wp2_with fail
      go_quiet (fail)
      rename_i nq
      go_wp2_with fail
      go_roundw
      case rel => exact ⟨t + 1, by omega, by go_num, B0.out nq⟩
      case measure => simp [intOf]; omega
    · have hI : ¬ (t : Int) < l.length := by omega
      go_wp2_with fail
      go_ret
      exact ⟨rfl, HB.out⟩

set_option maxHeartbeats 16000000 in
set_option maxRecDepth 100000 in
/-- slices.Clone of segments: a row of its own. -/
theorem sgclone_any (v : Value) (B : Nat) (l : List Sg) (w : World) (h : LstV sgCells B w v l) (hn : l.length * 16 ≤ 140737488355328) :
    Calls Try.prog 26 #[v] w fun e w' => ∃ v', e = .returned v' ∧ Below w.heap.size w w' ∧ w'.ownsRow w.heap.size sgT 2 v' l.length (l.flatMap sgCells) := by
  obtain ⟨i0, hi, hz0, hz1, hz2⟩ := info_parts sgInfo
  obtain ⟨A, c, rfl, hcell⟩ := h
  have HN := Lib.hid hn
  clear hn
  cases A with
  | none =>
    have hl : l = [] := Classical.byContradiction fun h => by
      obtain ⟨b, off, e, _⟩ := hcell h
      cases e
    subst hl
    have hnil : ∀ W : World, (binOp .eql 22 (.slice none 0 c) (.slice none 0 0)).run Try.prog W = .ok (.bool true) W := fun W => by
      simp only [binOp]
      simp [run_equal_slice_nil W 22 sgT none 0 c Try.underlying22]
    clear hcell
    go_enter Try.func26, Try.ntmps26
    go_wp2_with fail
    go_ret
    exact ⟨_, rfl, Below.refl _ _, row_nil _ _ _ _⟩
  | some a =>
    have hnil : ∀ W : World, (binOp .eql 22 (.slice (some a) l.length c) (.slice none 0 0)).run Try.prog W = .ok (.bool false) W := fun W => by
      simp only [binOp]
      simp [run_equal_slice_nil W 22 sgT (some a) l.length c Try.underlying22]
    have BA := Lib.hid ((Below.refl w.heap.size w).alloc (Nat.le_refl _) (.cells #[] sgT))
    have OE := Lib.hid (row_built (e := sgT) (sz := 2) w #[] 0 0 rfl (Nat.le_refl _) (Nat.zero_le _) w.heap.size (Nat.le_refl _) _ rfl [] rfl)
    have hzz : w.heap.size ≤ (w.alloc (.cells #[] sgT)).heap.size := BA.out.size
    have NC := Lib.hid (show ∀ (j : Nat) u, (l.flatMap sgCells)[j]? = some u → (w.alloc (.cells #[] sgT)).cell? (a.add j) = some u from fun j u hj => by
      by_cases hp : l = []
      · subst hp
        simp at hj
      · obtain ⟨b, off, hA, _, hb, hc⟩ := hcell hp
        injection hA with hA
        subst hA
        rw [Go.WideShapes.add_plain]
        exact (BA.out.cell (p := ⟨b, off + j, none⟩) hb).trans (hc j u hj))
    clear hcell
    go_enter Try.func26, Try.ntmps26
    go_wp2_with (first | (at_builtin; refine wpList_append_own_at _ rfl _ _ 22 rfl w.heap.size sgT i0 _ 2 16 Try.underlying22 hi hz0 hz1 hz2 rfl (by decide) (.slice (some ⟨w.heap.size, 0, none⟩) 0 0) 0 [] rfl OE.out a l.length c (l.flatMap sgCells) rfl (sg_len l) NC.out (one_flat sg_one _) (by have := HN.out; unfold maxLen; omega) (by have := HN.out; omega) hzz ?_; intro v3 w3 ho3 hg3 hnl hat; have B3 := Lib.hid (BA.out.grown hg3 hzz (fun b hb => (World.ownsRow.lt OE.out b hb).1)); have O3 := Lib.hid ho3; clear ho3 hg3 hat hnl))
    go_ret
    exact ⟨_, rfl, B3.out, by have := O3.out; rwa [Nat.zero_add, List.nil_append] at this⟩
end Go.Proofs.Ytmahnhghfanhpaa
