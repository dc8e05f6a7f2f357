/- Package frame: places of variables and parameters: the program's functions, and the answers'. -/
import Derived.Test.YtdpkkfmnnegpiaaBlocks
import Derived.Lib.MinMax
import Derived.Lib.Hide
import Derived.IntWalk
namespace Go.Proofs.Ytdpkkfmnnegpiaa
open Go.ChangeShapes Go.WideShapes Go.ChangeAt Go.RowKit
set_option linter.unusedVariables false
set_option linter.unusedSimpArgs false

/-- A size, rounded up to a multiple of 4. -/
def up4 (s : Int) : Int := (s + 3) / 4 * 4

/-- How many bytes are used then. -/
def nextP (was size : Int) : Int := if size < 0 ∨ size > 16384 then was else if was + up4 size > 16384 then was else was + up4 size

/-- The error. -/
def codeP (was size : Int) : Int := if size < 0 ∨ size > 16384 then 90 else if was + up4 size > 16384 then 244 else 0

/-- What is told if there is no error, else 0. -/
def partP (c n : Int) : Int := if c = 0 then n else 0

theorem part_ok (n : Int) : partP 0 n = n := rfl

theorem part_no {c : Int} (h : c ≠ 0) (n : Int) : partP c n = 0 := if_neg h

theorem grow_size {was size : Int} (h : size < 0 ∨ size > 16384) : nextP was size = was ∧ codeP was size = 90 := ⟨if_pos h, if_pos h⟩

theorem grow_data {was size : Int} (h : ¬ (size < 0 ∨ size > 16384)) (h2 : was + up4 size > 16384) : nextP was size = was ∧ codeP was size = 244 :=
  ⟨(if_neg h).trans (if_pos h2), (if_neg h).trans (if_pos h2)⟩

theorem grow_ok {was size : Int} (h : ¬ (size < 0 ∨ size > 16384)) (h2 : ¬ was + up4 size > 16384) : nextP was size = was + up4 size ∧ codeP was size = 0 :=
  ⟨(if_neg h).trans (if_neg h2), (if_neg h).trans (if_neg h2)⟩

theorem grow_bad {was size : Int} (h : codeP was size ≠ 0) : nextP was size = was := by
  by_cases h1 : size < 0 ∨ size > 16384
  · exact (grow_size h1).1
  · by_cases h2 : was + up4 size > 16384
    · exact (grow_data h1 h2).1
    · exact absurd (grow_ok h1 h2).2 h

theorem up4_in {s : Int} (h : 0 ≤ s) : s ≤ up4 s ∧ up4 s ≤ s + 3 ∧ up4 s % 4 = 0 := by unfold up4; omega

/-- Where what is used lies. -/
def UseP (n : Int) : Prop := (0 ≤ n ∧ n ≤ 16384) ∧ n % 4 = 0

theorem next_use {was size : Int} (h : UseP was) : UseP (nextP was size) := by
  unfold UseP at *
  by_cases h1 : size < 0 ∨ size > 16384
  · rw [(grow_size h1).1]; exact h
  · have h0 := up4_in (s := size) (by omega)
    by_cases h2 : was + up4 size > 16384
    · rw [(grow_data h1 h2).1]; exact h
    · rw [(grow_ok h1 h2).1]; omega

/-- A number in the range from 0 to m. -/
def limP (n m : Int) : Int := if n < 0 then 0 else if n > m then m else n

theorem lim_in (n : Int) {m : Int} (h : 0 ≤ m) : 0 ≤ limP n m ∧ limP n m ≤ m := by
  unfold limP
  split
  · omega
  · split <;> omega

theorem lim_a (n : Int) {m : Int} (h : 0 ≤ m) : max 0 (min n m) = limP n m := by
  unfold limP
  split
  · omega
  · split <;> omega

theorem lim_b (n : Int) {m : Int} (h : 0 ≤ m) : min (max n 0) m = limP n m := by
  unfold limP
  split
  · omega
  · split <;> omega

set_option maxHeartbeats 4000000 in
set_option maxRecDepth 100000 in
theorem limit_any (n m : Int) (hm : 0 ≤ m) (w : World) :
    Calls Try.prog 15 #[.int .i64 n, .int .i64 m] w fun e w' => e = .returned (.int .i64 (limP n m)) ∧ w = w' := by
  have L := Lib.hid (lim_a n hm)
  go_enter Try.func15, Try.ntmps15
  go_wp2_with fail
  go_ret
  exact ⟨congrArg (fun x => Ending.returned (Value.int .i64 x)) L.out, rfl⟩

set_option maxHeartbeats 4000000 in
set_option maxRecDepth 100000 in
theorem gone_any (n : Int) (w : World) :
    Calls Try.prog 12 #[.int .i64 n] w fun e w' => e = .returned (.int .i64 (4 + 4 * limP n 16)) ∧ w = w' := by
  have L := Lib.hid (limit_any n 16 (by decide) w)
  have h := lim_in n (m := 16) (by decide)
  generalize limP n 16 = l at *
  go_enter Try.func12, Try.ntmps12
  go_wp2_with fail
  refine L.out.mono ?_
  rintro e w1 ⟨rfl, rfl⟩
  go_wp2_with fail
  go_ret
  exact ⟨rfl, rfl⟩

set_option maxHeartbeats 4000000 in
set_option maxRecDepth 100000 in
theorem need_any (n m : Int) (w : World) :
    Calls Try.prog 13 #[.int .i64 n, .int .i64 m] w fun e w' => e = .returned (.int .i64 (limP n 16384 + 4 * limP m 16384 + 64)) ∧ w = w' := by
  have L := Lib.hid (limit_any n 16384 (by decide) w)
  have M := Lib.hid (limit_any m 16384 (by decide) w)
  have h := lim_in n (m := 16384) (by decide)
  have h2 := lim_in m (m := 16384) (by decide)
  generalize limP n 16384 = l at *
  generalize limP m 16384 = k at *
  go_enter Try.func13, Try.ntmps13
  go_wp2_with fail
  refine L.out.mono ?_
  rintro e w1 ⟨rfl, rfl⟩
  go_wp2_with fail
  refine M.out.mono ?_
  rintro e w1 ⟨rfl, rfl⟩
  go_wp2_with fail
  go_ret
  exact ⟨rfl, rfl⟩

set_option maxHeartbeats 4000000 in
set_option maxRecDepth 100000 in
theorem extend_any (was size : Int) (w : World) (hw : 0 ≤ was ∧ was ≤ 16384) :
    Calls Try.prog 14 #[.int .i64 was, .int .i64 size] w fun e w' => e = .returned (.tuple #[.int .i64 (partP (codeP was size) (nextP was size)), .int .i64 (codeP was size)]) ∧ w = w' := by
  by_cases h1 : size < 0
  · have R := Lib.hid (grow_size (was := was) (size := size) (.inl h1))
    have d0 : decide (size < 0) = true := decide_eq_true h1
    clear hw
    generalize nextP was size = n at *
    generalize codeP was size = c at *
    go_enter Try.func14, Try.ntmps14
    go_wp2_with fail
    go_ret2
    rw [R.out.2, part_no (by decide)]
    exact ⟨rfl, rfl⟩
  have d0 : decide (size < 0) = false := decide_eq_false h1
  by_cases h2 : size > 16384
  · have R := Lib.hid (grow_size (was := was) (size := size) (.inr h2))
    have d1 : decide (16384 < size) = true := decide_eq_true h2
    clear hw
    generalize nextP was size = n at *
    generalize codeP was size = c at *
    go_enter Try.func14, Try.ntmps14
    go_wp2_with fail
    go_ret2
    rw [R.out.2, part_no (by decide)]
    exact ⟨rfl, rfl⟩
  have d1 : decide (16384 < size) = false := decide_eq_false h2
  have hs : ¬ (size < 0 ∨ size > 16384) := by omega
  have hu := up4_in (s := size) (by omega)
  have m1 : (size + 4 - 1).tdiv 4 * 4 = up4 size := by rw [Int.tdiv_eq_ediv_of_nonneg (by omega)]; unfold up4; omega
  have m2 : (size + 4 - 1).tdiv 4 = up4 size / 4 := by rw [Int.tdiv_eq_ediv_of_nonneg (by omega)]; unfold up4; omega
  have m3 : up4 size / 4 * 4 = up4 size := by unfold up4; omega
  by_cases h3 : was + up4 size > 16384
  · have R := Lib.hid (grow_data hs h3)
    generalize nextP was size = n at *
    generalize codeP was size = c at *
    have e0 : decide (was < 0) = false := decide_eq_false (by omega)
    generalize up4 size = u at *
    have e1 : decide (16384 - u < was) = true := decide_eq_true (by omega)
    go_enter Try.func14, Try.ntmps14
    go_wp2_with fail
    go_ret2
    rw [R.out.2, part_no (by decide)]
    exact ⟨rfl, rfl⟩
  · have R := Lib.hid (grow_ok hs h3)
    generalize nextP was size = n at *
    generalize codeP was size = c at *
    have e0 : decide (was < 0) = false := decide_eq_false (by omega)
    generalize up4 size = u at *
    have e1 : decide (16384 - u < was) = false := decide_eq_false (by omega)
    go_enter Try.func14, Try.ntmps14
    go_wp2_with fail
    go_ret2
    rw [R.out.1, R.out.2, part_ok]
    exact ⟨rfl, rfl⟩

abbrev frT : TypeId := 25

abbrev dtT : TypeId := 26

set_option maxHeartbeats 4000000 in
set_option maxRecDepth 100000 in
theorem local_any (g : Nat) (was size : Int) (w : World) (h : Whole w g frT #[.int .i64 was]) (hu : UseP was) :
    Calls Try.prog 8 #[.pointer (some ⟨g, 0, none⟩), .int .i64 size] w fun e w' => e = .returned (.tuple #[.int .i64 (partP (codeP was size) (-nextP was size)), .int .i64 (codeP was size)]) ∧ Whole w' g frT #[.int .i64 (nextP was size)] ∧ (w' = w ∨ ∃ u, w' = w.setCell ⟨g, 0, none⟩ u) := by
  have c0 : w.cell? ⟨g, 0, none⟩ = some (.int .i64 was) := h.cell 0
  have f0 : w.frozen? ⟨g, 0, none⟩ = false := h.free 0
  have E := Lib.hid (extend_any was size w hu.1)
  have hN := (next_use (size := size) hu).1
  have B := Lib.hid (grow_bad (was := was) (size := size))
  have W := Lib.hid h
  have WS := Lib.hid (h.store 0 (.int .i64 (nextP was size)))
  clear hu h
  generalize nextP was size = n at *
  generalize codeP was size = c at *
  by_cases hc : c = 0
  · subst hc
    rw [part_ok] at E ⊢
    clear B
    go_enter Try.func8, Try.ntmps8
    go_wp2_with fail
    refine E.out.mono ?_
    rintro e w1 ⟨rfl, rfl⟩
    go_wp2_with fail
    go_ret2
    exact ⟨rfl, WS.out, .inr ⟨_, rfl⟩⟩
  · have dc : (c == 0) = false := beq_eq_false_iff_ne.2 hc
    have dn : (c != 0) = true := by simp [hc]
    have R := Lib.hid (B.out hc)
    rw [part_no hc] at E ⊢
    clear B hc
    go_enter Try.func8, Try.ntmps8
    go_wp2_with fail
    refine E.out.mono ?_
    rintro e w1 ⟨rfl, rfl⟩
    go_wp2_with fail
    go_ret2
    rw [R.out]
    exact ⟨rfl, W.out, .inl rfl⟩

set_option maxHeartbeats 4000000 in
set_option maxRecDepth 100000 in
theorem global_any (g : Nat) (was size : Int) (w : World) (h : Whole w g dtT #[.int .i64 was]) (hu : UseP was) :
    Calls Try.prog 9 #[.pointer (some ⟨g, 0, none⟩), .int .i64 size] w fun e w' => e = .returned (.tuple #[.int .i64 (partP (codeP was size) was), .int .i64 (codeP was size)]) ∧ Whole w' g dtT #[.int .i64 (nextP was size)] ∧ (w' = w ∨ ∃ u, w' = w.setCell ⟨g, 0, none⟩ u) := by
  have c0 : w.cell? ⟨g, 0, none⟩ = some (.int .i64 was) := h.cell 0
  have f0 : w.frozen? ⟨g, 0, none⟩ = false := h.free 0
  have E := Lib.hid (extend_any was size w hu.1)
  have hN := (next_use (size := size) hu).1
  have B := Lib.hid (grow_bad (was := was) (size := size))
  have W := Lib.hid h
  have WS := Lib.hid (h.store 0 (.int .i64 (nextP was size)))
  clear hu h
  generalize nextP was size = n at *
  generalize codeP was size = c at *
  by_cases hc : c = 0
  · subst hc
    rw [part_ok] at E ⊢
    clear B
    go_enter Try.func9, Try.ntmps9
    go_wp2_with fail
    refine E.out.mono ?_
    rintro e w1 ⟨rfl, rfl⟩
    go_wp2_with fail
    go_ret2
    exact ⟨rfl, WS.out, .inr ⟨_, rfl⟩⟩
  · have dc : (c == 0) = false := beq_eq_false_iff_ne.2 hc
    have dn : (c != 0) = true := by simp [hc]
    have R := Lib.hid (B.out hc)
    rw [part_no hc] at E ⊢
    clear B hc
    go_enter Try.func9, Try.ntmps9
    go_wp2_with fail
    refine E.out.mono ?_
    rintro e w1 ⟨rfl, rfl⟩
    go_wp2_with fail
    go_ret2
    rw [R.out]
    exact ⟨rfl, W.out, .inl rfl⟩

/-- Whether there is such a parameter. -/
def HasP (i many : Int) : Prop := ¬ (many > 16 ∨ i < 0 ∨ i ≥ many)

instance (i many : Int) : Decidable (HasP i many) := by unfold HasP; infer_instance

/-- The error. -/
def parE (i many : Int) : Int := if HasP i many then 0 else 203

/-- Where it stands. -/
def parP (i many : Int) : Int := if HasP i many then 8 + 4 * (many - i) else 0

theorem par_yes {i many : Int} (h : HasP i many) : parP i many = 8 + 4 * (many - i) ∧ parE i many = 0 := ⟨if_pos h, if_pos h⟩

theorem par_no {i many : Int} (h : ¬ HasP i many) : parP i many = 0 ∧ parE i many = 203 := ⟨if_neg h, if_neg h⟩

set_option maxHeartbeats 4000000 in
set_option maxRecDepth 100000 in
theorem param_any (i many : Int) (w : World) :
    Calls Try.prog 10 #[.int .i64 i, .int .i64 many] w fun e w' => e = .returned (.tuple #[.int .i64 (parP i many), .int .i64 (parE i many)]) ∧ w = w' := by
  by_cases h : HasP i many
  · obtain ⟨e1, e2⟩ := par_yes h
    have h' : ¬ (many > 16 ∨ i < 0 ∨ i ≥ many) := h
    have d0 : decide (16 < many) = false := decide_eq_false (by omega)
    have d1 : decide (i < 0) = false := decide_eq_false (by omega)
    have d2 : decide (many ≤ i) = false := decide_eq_false (by omega)
    have E := Lib.hid e1
    have E2 := Lib.hid (show 8 + 4 * (many - i) = 12 + 4 * (many - 1 - i) by omega)
    rw [e2]
    clear e1 e2 h
    generalize parP i many = p at *
    go_enter Try.func10, Try.ntmps10
    go_wp2_with fail
    go_ret2
    rw [E.out, E2.out]
    exact ⟨rfl, rfl⟩
  · obtain ⟨e1, e2⟩ := par_no h
    rw [e1, e2]
    have h' : (many > 16 ∨ i < 0 ∨ i ≥ many) := Decidable.not_not.1 h
    clear h e1 e2
    by_cases k0 : many > 16
    · have d0 : decide (16 < many) = true := decide_eq_true k0
      clear h'
      go_enter Try.func10, Try.ntmps10
      go_wp2_with fail
      go_ret2
      exact ⟨rfl, rfl⟩
    have d0 : decide (16 < many) = false := decide_eq_false k0
    by_cases k1 : i < 0
    · have d1 : decide (i < 0) = true := decide_eq_true k1
      clear h'
      go_enter Try.func10, Try.ntmps10
      go_wp2_with fail
      go_ret2
      exact ⟨rfl, rfl⟩
    have d1 : decide (i < 0) = false := decide_eq_false k1
    have d2 : decide (many ≤ i) = true := decide_eq_true (by omega)
    clear h'
    go_enter Try.func10, Try.ntmps10
    go_wp2_with fail
    go_ret2
    exact ⟨rfl, rfl⟩

set_option maxHeartbeats 4000000 in
set_option maxRecDepth 100000 in
theorem refparam_any (i many : Int) (w : World) :
    Calls Try.prog 11 #[.int .i64 i, .int .i64 many] w fun e w' => e = .returned (.tuple #[.int .i64 (parP i many), .int .i64 (parE i many)]) ∧ w = w' := by
  by_cases h : HasP i many
  · obtain ⟨e1, e2⟩ := par_yes h
    have h' : ¬ (many > 16 ∨ i < 0 ∨ i ≥ many) := h
    have d0 : decide (16 < many) = false := decide_eq_false (by omega)
    have d1 : decide (i < 0) = false := decide_eq_false (by omega)
    have d2 : decide (many ≤ i) = false := decide_eq_false (by omega)
    have E := Lib.hid e1
    rw [e2]
    clear e1 e2 h
    generalize parP i many = p at *
    go_enter Try.func11, Try.ntmps11
    go_wp2_with fail
    go_ret2
    rw [E.out]
    exact ⟨rfl, rfl⟩
  · obtain ⟨e1, e2⟩ := par_no h
    rw [e1, e2]
    have h' : (many > 16 ∨ i < 0 ∨ i ≥ many) := Decidable.not_not.1 h
    clear h e1 e2
    by_cases k0 : many > 16
    · have d0 : decide (16 < many) = true := decide_eq_true k0
      clear h'
      go_enter Try.func11, Try.ntmps11
      go_wp2_with fail
      go_ret2
      exact ⟨rfl, rfl⟩
    have d0 : decide (16 < many) = false := decide_eq_false k0
    by_cases k1 : i < 0
    · have d1 : decide (i < 0) = true := decide_eq_true k1
      clear h'
      go_enter Try.func11, Try.ntmps11
      go_wp2_with fail
      go_ret2
      exact ⟨rfl, rfl⟩
    have d1 : decide (i < 0) = false := decide_eq_false k1
    have d2 : decide (many ≤ i) = true := decide_eq_true (by omega)
    clear h'
    go_enter Try.func11, Try.ntmps11
    go_wp2_with fail
    go_ret2
    exact ⟨rfl, rfl⟩
end Go.Proofs.Ytdpkkfmnnegpiaa
