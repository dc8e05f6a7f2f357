/- Package memory and its answers: whether the parts may lie so. -/
import Derived.Test.YtinpdgjbiimgkaaDoorMemA
namespace Go.Proofs.YtinpdgjbiimgkaaDoor
open Go.ChangeShapes Go.WideShapes Go.ChangeAt Go.RowKit
set_option linter.unusedVariables false

theorem okEnd_yes {s e : Int} (h : okEnd s e = true) : s ≤ e ∧ e % 4 = 0 ∧ e ≤ 1048576 := by
  unfold okEnd at h
  simpa using h

theorem okEnd_no {s e : Int} (h : okEnd s e = false) : e < s ∨ (s ≤ e ∧ e % 4 ≠ 0) ∨ (s ≤ e ∧ e % 4 = 0 ∧ 1048576 < e) := by
  unfold okEnd at h
  simp at h
  omega

theorem okEnd_no' {s e : Int} (h : okEnd s e = false) : e % 4 ≠ 0 ∨ (e % 4 = 0 ∧ 1048576 < e) ∨ (e % 4 = 0 ∧ e ≤ 1048576 ∧ e < s) := by
  unfold okEnd at h
  simp at h
  omega

set_option maxHeartbeats 8000000 in
set_option maxRecDepth 100000 in
theorem right_any (e0 e1 e2 e3 e4 : Int) (w : World) (u0 : U32 e0) (u1 : U32 e1) (u2 : U32 e2) (u3 : U32 e3) (u4 : U32 e4) :
    Calls Tryd.prog 36 #[endsV e0 e1 e2 e3 e4] w fun e w' => e = .returned (.bool (okEnds e0 e1 e2 e3 e4)) ∧ Below w.heap.size w w' := by
  have EN := Lib.hid (fun w => endsOf_any e0 e1 e2 e3 e4 w)
  obtain ⟨l0, h0⟩ := u0
  have i0 : ∀ w, (Instr.index 86 (.agg #[.int .u32 e0, .int .u32 e1, .int .u32 e2, .int .u32 e3, .int .u32 e4]) (.int .i64 0)).run Tryd.prog w = .ok (.int .u32 e0) w := fun w =>
    run_index_arr Tryd.underlying86 Tryd.underlying22 (by kernel_rfl) _ 0 _ (by decide) rfl w
  obtain ⟨l1, h1⟩ := u1
  have i1 : ∀ w, (Instr.index 86 (.agg #[.int .u32 e0, .int .u32 e1, .int .u32 e2, .int .u32 e3, .int .u32 e4]) (.int .i64 1)).run Tryd.prog w = .ok (.int .u32 e1) w := fun w =>
    run_index_arr Tryd.underlying86 Tryd.underlying22 (by kernel_rfl) _ 1 _ (by decide) rfl w
  obtain ⟨l2, h2⟩ := u2
  have i2 : ∀ w, (Instr.index 86 (.agg #[.int .u32 e0, .int .u32 e1, .int .u32 e2, .int .u32 e3, .int .u32 e4]) (.int .i64 2)).run Tryd.prog w = .ok (.int .u32 e2) w := fun w =>
    run_index_arr Tryd.underlying86 Tryd.underlying22 (by kernel_rfl) _ 2 _ (by decide) rfl w
  obtain ⟨l3, h3⟩ := u3
  have i3 : ∀ w, (Instr.index 86 (.agg #[.int .u32 e0, .int .u32 e1, .int .u32 e2, .int .u32 e3, .int .u32 e4]) (.int .i64 3)).run Tryd.prog w = .ok (.int .u32 e3) w := fun w =>
    run_index_arr Tryd.underlying86 Tryd.underlying22 (by kernel_rfl) _ 3 _ (by decide) rfl w
  obtain ⟨l4, h4⟩ := u4
  have i4 : ∀ w, (Instr.index 86 (.agg #[.int .u32 e0, .int .u32 e1, .int .u32 e2, .int .u32 e3, .int .u32 e4]) (.int .i64 4)).run Tryd.prog w = .ok (.int .u32 e4) w := fun w =>
    run_index_arr Tryd.underlying86 Tryd.underlying22 (by kernel_rfl) _ 4 _ (by decide) rfl w
  unfold endsV at *
  unfold okEnds
  go_enter Tryd.func36, Tryd.ntmps36
  go_wp2_with fail
  refine (EN.out _).mono ?_
  rintro e w1 ⟨rfl, hb1⟩
  have B1 := Lib.hid (((Below.refl _ _).alloc (Nat.le_refl _) _).trans (hb1.mono (show w.heap.size ≤ _ by simp)))
  clear hb1 EN
  go_wp2_with fail
  refine wp_loop_rounds 6 ?_
  rw [rounds_succ]
  cases k0 : okEnd 0 e0 with
  | false =>
    rcases okEnd_no k0 with h | ⟨h, h'⟩ | ⟨h, h', h''⟩
    · have d1 : decide (e0 < 0) = true := decide_eq_true h
      have K0 := Lib.hid k0; clear h k0
      go_wp2_with fail
      go_ret
      exact ⟨by simp [K0.out], B1.out⟩
    · have d1 : decide (e0 < 0) = false := decide_eq_false (by omega)
      have d2 : (e0 % 4 != 0) = true := by simpa using h'
      have K0 := Lib.hid k0; clear h h' k0
      go_wp2_with fail
      go_ret
      exact ⟨by simp [K0.out], B1.out⟩
    · have d1 : decide (e0 < 0) = false := decide_eq_false (by omega)
      have d2 : (e0 % 4 != 0) = false := by simpa using h'
      have d3 : decide (1048576 < e0) = true := decide_eq_true h''
      have K0 := Lib.hid k0; clear h h' h'' k0
      go_wp2_with fail
      go_ret
      exact ⟨by simp [K0.out], B1.out⟩
  | true =>
    obtain ⟨h, h', h''⟩ := okEnd_yes k0
    have d1 : decide (e0 < 0) = false := decide_eq_false (by omega)
    have d2 : (e0 % 4 != 0) = false := by simpa using h'
    have d3 : decide (1048576 < e0) = false := decide_eq_false (by omega)
    have K0 := Lib.hid k0; clear h h' h'' k0
    go_wp2_with fail
    clear d1 d2 d3
    rw [rounds_succ]
    cases k1 : okEnd e0 e1 with
    | false =>
      rcases okEnd_no k1 with h | ⟨h, h'⟩ | ⟨h, h', h''⟩
      · have d1 : decide (e1 < e0) = true := decide_eq_true h
        have K1 := Lib.hid k1; clear h k1
        go_wp2_with fail
        go_ret
        exact ⟨by simp [K0.out, K1.out], B1.out⟩
      · have d1 : decide (e1 < e0) = false := decide_eq_false (by omega)
        have d2 : (e1 % 4 != 0) = true := by simpa using h'
        have K1 := Lib.hid k1; clear h h' k1
        go_wp2_with fail
        go_ret
        exact ⟨by simp [K0.out, K1.out], B1.out⟩
      · have d1 : decide (e1 < e0) = false := decide_eq_false (by omega)
        have d2 : (e1 % 4 != 0) = false := by simpa using h'
        have d3 : decide (1048576 < e1) = true := decide_eq_true h''
        have K1 := Lib.hid k1; clear h h' h'' k1
        go_wp2_with fail
        go_ret
        exact ⟨by simp [K0.out, K1.out], B1.out⟩
    | true =>
      obtain ⟨h, h', h''⟩ := okEnd_yes k1
      have d1 : decide (e1 < e0) = false := decide_eq_false (by omega)
      have d2 : (e1 % 4 != 0) = false := by simpa using h'
      have d3 : decide (1048576 < e1) = false := decide_eq_false (by omega)
      have K1 := Lib.hid k1; clear h h' h'' k1
      go_wp2_with fail
      clear d1 d2 d3
      rw [rounds_succ]
      cases k2 : okEnd e1 e2 with
      | false =>
        rcases okEnd_no k2 with h | ⟨h, h'⟩ | ⟨h, h', h''⟩
        · have d1 : decide (e2 < e1) = true := decide_eq_true h
          have K2 := Lib.hid k2; clear h k2
          go_wp2_with fail
          go_ret
          exact ⟨by simp [K0.out, K1.out, K2.out], B1.out⟩
        · have d1 : decide (e2 < e1) = false := decide_eq_false (by omega)
          have d2 : (e2 % 4 != 0) = true := by simpa using h'
          have K2 := Lib.hid k2; clear h h' k2
          go_wp2_with fail
          go_ret
          exact ⟨by simp [K0.out, K1.out, K2.out], B1.out⟩
        · have d1 : decide (e2 < e1) = false := decide_eq_false (by omega)
          have d2 : (e2 % 4 != 0) = false := by simpa using h'
          have d3 : decide (1048576 < e2) = true := decide_eq_true h''
          have K2 := Lib.hid k2; clear h h' h'' k2
          go_wp2_with fail
          go_ret
          exact ⟨by simp [K0.out, K1.out, K2.out], B1.out⟩
      | true =>
        obtain ⟨h, h', h''⟩ := okEnd_yes k2
        have d1 : decide (e2 < e1) = false := decide_eq_false (by omega)
        have d2 : (e2 % 4 != 0) = false := by simpa using h'
        have d3 : decide (1048576 < e2) = false := decide_eq_false (by omega)
        have K2 := Lib.hid k2; clear h h' h'' k2
        go_wp2_with fail
        clear d1 d2 d3
        rw [rounds_succ]
        cases k3 : okEnd e2 e3 with
        | false =>
          rcases okEnd_no k3 with h | ⟨h, h'⟩ | ⟨h, h', h''⟩
          · have d1 : decide (e3 < e2) = true := decide_eq_true h
            have K3 := Lib.hid k3; clear h k3
            go_wp2_with fail
            go_ret
            exact ⟨by simp [K0.out, K1.out, K2.out, K3.out], B1.out⟩
          · have d1 : decide (e3 < e2) = false := decide_eq_false (by omega)
            have d2 : (e3 % 4 != 0) = true := by simpa using h'
            have K3 := Lib.hid k3; clear h h' k3
            go_wp2_with fail
            go_ret
            exact ⟨by simp [K0.out, K1.out, K2.out, K3.out], B1.out⟩
          · have d1 : decide (e3 < e2) = false := decide_eq_false (by omega)
            have d2 : (e3 % 4 != 0) = false := by simpa using h'
            have d3 : decide (1048576 < e3) = true := decide_eq_true h''
            have K3 := Lib.hid k3; clear h h' h'' k3
            go_wp2_with fail
            go_ret
            exact ⟨by simp [K0.out, K1.out, K2.out, K3.out], B1.out⟩
        | true =>
          obtain ⟨h, h', h''⟩ := okEnd_yes k3
          have d1 : decide (e3 < e2) = false := decide_eq_false (by omega)
          have d2 : (e3 % 4 != 0) = false := by simpa using h'
          have d3 : decide (1048576 < e3) = false := decide_eq_false (by omega)
          have K3 := Lib.hid k3; clear h h' h'' k3
          go_wp2_with fail
          clear d1 d2 d3
          rw [rounds_succ]
          cases k4 : okEnd e3 e4 with
          | false =>
            rcases okEnd_no k4 with h | ⟨h, h'⟩ | ⟨h, h', h''⟩
            · have d1 : decide (e4 < e3) = true := decide_eq_true h
              have K4 := Lib.hid k4; clear h k4
              go_wp2_with fail
              go_ret
              exact ⟨by simp [K0.out, K1.out, K2.out, K3.out, K4.out], B1.out⟩
            · have d1 : decide (e4 < e3) = false := decide_eq_false (by omega)
              have d2 : (e4 % 4 != 0) = true := by simpa using h'
              have K4 := Lib.hid k4; clear h h' k4
              go_wp2_with fail
              go_ret
              exact ⟨by simp [K0.out, K1.out, K2.out, K3.out, K4.out], B1.out⟩
            · have d1 : decide (e4 < e3) = false := decide_eq_false (by omega)
              have d2 : (e4 % 4 != 0) = false := by simpa using h'
              have d3 : decide (1048576 < e4) = true := decide_eq_true h''
              have K4 := Lib.hid k4; clear h h' h'' k4
              go_wp2_with fail
              go_ret
              exact ⟨by simp [K0.out, K1.out, K2.out, K3.out, K4.out], B1.out⟩
          | true =>
            obtain ⟨h, h', h''⟩ := okEnd_yes k4
            have d1 : decide (e4 < e3) = false := decide_eq_false (by omega)
            have d2 : (e4 % 4 != 0) = false := by simpa using h'
            have d3 : decide (1048576 < e4) = false := decide_eq_false (by omega)
            have K4 := Lib.hid k4; clear h h' h'' k4
            go_wp2_with fail
            clear d1 d2 d3
            rw [rounds_succ]
            go_wp2_with fail
            go_ret
            exact ⟨by simp [K0.out, K1.out, K2.out, K3.out, K4.out], B1.out⟩

set_option maxHeartbeats 8000000 in
set_option maxRecDepth 100000 in
theorem refright_any (e0 e1 e2 e3 e4 : Int) (w : World) (u0 : U32 e0) (u1 : U32 e1) (u2 : U32 e2) (u3 : U32 e3) (u4 : U32 e4) :
    Calls Tryd.prog 20 #[endsV e0 e1 e2 e3 e4] w fun e w' => e = .returned (.bool (okEnds e0 e1 e2 e3 e4)) ∧ Below w.heap.size w w' := by
  obtain ⟨l0, h0⟩ := u0
  obtain ⟨l1, h1⟩ := u1
  obtain ⟨l2, h2⟩ := u2
  obtain ⟨l3, h3⟩ := u3
  obtain ⟨l4, h4⟩ := u4
  unfold endsV at *
  unfold okEnds
  go_enter Tryd.func20, Tryd.ntmps20
  go_wp2_with fail
  have Q1 := Lib.hid (Whole.made w 39 #[.int .u32 e0, .int .u32 e1, .int .u32 e2, .int .u32 e3, .int .u32 e4] _ rfl)
  have B1 := Lib.hid ((Below.refl _ w).alloc (Nat.le_refl _) (.cells #[.int .u32 e0, .int .u32 e1, .int .u32 e2, .int .u32 e3, .int .u32 e4] 39))
  generalize w.alloc (.cells #[.int .u32 e0, .int .u32 e1, .int .u32 e2, .int .u32 e3, .int .u32 e4] 39) = W0 at *
  refine wp_loop_rounds 6 ?_
  rw [rounds_succ]
  have q0 : W0.cell? ⟨w.heap.size, 0, none⟩ = some (.int .u32 e0) := Q1.out.cell 0
  cases k0 : okEnd 0 e0 with
  | false =>
    rcases okEnd_no' k0 with h | ⟨h, h'⟩ | ⟨h, h', h''⟩
    · have d1 : (e0 % 4 != 0) = true := by simpa using h
      have K0 := Lib.hid k0; clear h k0
      go_wp2_with fail
      go_quiet (fail)
      go_wp2_with fail
      go_ret
      exact ⟨by simp [K0.out], below_drawn B1.out _⟩
    · have d1 : (e0 % 4 != 0) = false := by simpa using h
      have d2 : decide (1048576 < e0) = true := decide_eq_true h'
      have K0 := Lib.hid k0; clear h h' k0
      go_wp2_with fail
      go_quiet (fail)
      go_wp2_with fail
      go_ret
      exact ⟨by simp [K0.out], below_drawn B1.out _⟩
    · have d1 : (e0 % 4 != 0) = false := by simpa using h
      have d2 : decide (1048576 < e0) = false := decide_eq_false (by omega)
      have d3 : decide (e0 < 0) = true := decide_eq_true h''
      have K0 := Lib.hid k0; clear h h' h'' k0
      exact absurd d3 (by simp; omega)
  | true =>
    obtain ⟨h, h', h''⟩ := okEnd_yes k0
    have d1 : (e0 % 4 != 0) = false := by simpa using h'
    have d2 : decide (1048576 < e0) = false := decide_eq_false (by omega)
    have d3 : decide (e0 < 0) = false := decide_eq_false (by omega)
    have K0 := Lib.hid k0; clear h h' h'' k0
    go_wp2_with fail
    go_quiet (fail)
    go_wp2_with fail
    clear d1 d2 d3 q0
    have Q1 := Lib.hid (show Whole (W0.drewN nq) w.heap.size 39 #[.int .u32 e0, .int .u32 e1, .int .u32 e2, .int .u32 e3, .int .u32 e4] from Q1.out)
    have B1 := Lib.hid (below_drawn B1.out nq)
    generalize W0.drewN nq = W1 at *
    rw [rounds_succ]
    have q0 : W1.cell? ⟨w.heap.size, 0, none⟩ = some (.int .u32 e0) := Q1.out.cell 0
    have q1 : W1.cell? ⟨w.heap.size, 1, none⟩ = some (.int .u32 e1) := Q1.out.cell 1
    cases k1 : okEnd e0 e1 with
    | false =>
      rcases okEnd_no' k1 with h | ⟨h, h'⟩ | ⟨h, h', h''⟩
      · have d1 : (e1 % 4 != 0) = true := by simpa using h
        have K1 := Lib.hid k1; clear h k1
        go_wp2_with fail
        go_quiet (fail)
        go_wp2_with fail
        go_ret
        exact ⟨by simp [K0.out, K1.out], below_drawn B1.out _⟩
      · have d1 : (e1 % 4 != 0) = false := by simpa using h
        have d2 : decide (1048576 < e1) = true := decide_eq_true h'
        have K1 := Lib.hid k1; clear h h' k1
        go_wp2_with fail
        go_quiet (fail)
        go_wp2_with fail
        go_ret
        exact ⟨by simp [K0.out, K1.out], below_drawn B1.out _⟩
      · have d1 : (e1 % 4 != 0) = false := by simpa using h
        have d2 : decide (1048576 < e1) = false := decide_eq_false (by omega)
        have d3 : decide (e1 < e0) = true := decide_eq_true h''
        have K1 := Lib.hid k1; clear h h' h'' k1
        go_wp2_with fail
        go_quiet (fail)
        go_wp2_with fail
        go_ret
        exact ⟨by simp [K0.out, K1.out], below_drawn B1.out _⟩
    | true =>
      obtain ⟨h, h', h''⟩ := okEnd_yes k1
      have d1 : (e1 % 4 != 0) = false := by simpa using h'
      have d2 : decide (1048576 < e1) = false := decide_eq_false (by omega)
      have d3 : decide (e1 < e0) = false := decide_eq_false (by omega)
      have K1 := Lib.hid k1; clear h h' h'' k1
      go_wp2_with fail
      go_quiet (fail)
      go_wp2_with fail
      clear d1 d2 d3 q0 q1
      have Q1 := Lib.hid (show Whole (W1.drewN nq) w.heap.size 39 #[.int .u32 e0, .int .u32 e1, .int .u32 e2, .int .u32 e3, .int .u32 e4] from Q1.out)
      have B1 := Lib.hid (below_drawn B1.out nq)
      generalize W1.drewN nq = W2 at *
      rw [rounds_succ]
      have q1 : W2.cell? ⟨w.heap.size, 1, none⟩ = some (.int .u32 e1) := Q1.out.cell 1
      have q2 : W2.cell? ⟨w.heap.size, 2, none⟩ = some (.int .u32 e2) := Q1.out.cell 2
      cases k2 : okEnd e1 e2 with
      | false =>
        rcases okEnd_no' k2 with h | ⟨h, h'⟩ | ⟨h, h', h''⟩
        · have d1 : (e2 % 4 != 0) = true := by simpa using h
          have K2 := Lib.hid k2; clear h k2
          go_wp2_with fail
          go_quiet (fail)
          go_wp2_with fail
          go_ret
          exact ⟨by simp [K0.out, K1.out, K2.out], below_drawn B1.out _⟩
        · have d1 : (e2 % 4 != 0) = false := by simpa using h
          have d2 : decide (1048576 < e2) = true := decide_eq_true h'
          have K2 := Lib.hid k2; clear h h' k2
          go_wp2_with fail
          go_quiet (fail)
          go_wp2_with fail
          go_ret
          exact ⟨by simp [K0.out, K1.out, K2.out], below_drawn B1.out _⟩
        · have d1 : (e2 % 4 != 0) = false := by simpa using h
          have d2 : decide (1048576 < e2) = false := decide_eq_false (by omega)
          have d3 : decide (e2 < e1) = true := decide_eq_true h''
          have K2 := Lib.hid k2; clear h h' h'' k2
          go_wp2_with fail
          go_quiet (fail)
          go_wp2_with fail
          go_ret
          exact ⟨by simp [K0.out, K1.out, K2.out], below_drawn B1.out _⟩
      | true =>
        obtain ⟨h, h', h''⟩ := okEnd_yes k2
        have d1 : (e2 % 4 != 0) = false := by simpa using h'
        have d2 : decide (1048576 < e2) = false := decide_eq_false (by omega)
        have d3 : decide (e2 < e1) = false := decide_eq_false (by omega)
        have K2 := Lib.hid k2; clear h h' h'' k2
        go_wp2_with fail
        go_quiet (fail)
        go_wp2_with fail
        clear d1 d2 d3 q1 q2
        have Q1 := Lib.hid (show Whole (W2.drewN nq) w.heap.size 39 #[.int .u32 e0, .int .u32 e1, .int .u32 e2, .int .u32 e3, .int .u32 e4] from Q1.out)
        have B1 := Lib.hid (below_drawn B1.out nq)
        generalize W2.drewN nq = W3 at *
        rw [rounds_succ]
        have q2 : W3.cell? ⟨w.heap.size, 2, none⟩ = some (.int .u32 e2) := Q1.out.cell 2
        have q3 : W3.cell? ⟨w.heap.size, 3, none⟩ = some (.int .u32 e3) := Q1.out.cell 3
        cases k3 : okEnd e2 e3 with
        | false =>
          rcases okEnd_no' k3 with h | ⟨h, h'⟩ | ⟨h, h', h''⟩
          · have d1 : (e3 % 4 != 0) = true := by simpa using h
            have K3 := Lib.hid k3; clear h k3
            go_wp2_with fail
            go_quiet (fail)
            go_wp2_with fail
            go_ret
            exact ⟨by simp [K0.out, K1.out, K2.out, K3.out], below_drawn B1.out _⟩
          · have d1 : (e3 % 4 != 0) = false := by simpa using h
            have d2 : decide (1048576 < e3) = true := decide_eq_true h'
            have K3 := Lib.hid k3; clear h h' k3
            go_wp2_with fail
            go_quiet (fail)
            go_wp2_with fail
            go_ret
            exact ⟨by simp [K0.out, K1.out, K2.out, K3.out], below_drawn B1.out _⟩
          · have d1 : (e3 % 4 != 0) = false := by simpa using h
            have d2 : decide (1048576 < e3) = false := decide_eq_false (by omega)
            have d3 : decide (e3 < e2) = true := decide_eq_true h''
            have K3 := Lib.hid k3; clear h h' h'' k3
            go_wp2_with fail
            go_quiet (fail)
            go_wp2_with fail
            go_ret
            exact ⟨by simp [K0.out, K1.out, K2.out, K3.out], below_drawn B1.out _⟩
        | true =>
          obtain ⟨h, h', h''⟩ := okEnd_yes k3
          have d1 : (e3 % 4 != 0) = false := by simpa using h'
          have d2 : decide (1048576 < e3) = false := decide_eq_false (by omega)
          have d3 : decide (e3 < e2) = false := decide_eq_false (by omega)
          have K3 := Lib.hid k3; clear h h' h'' k3
          go_wp2_with fail
          go_quiet (fail)
          go_wp2_with fail
          clear d1 d2 d3 q2 q3
          have Q1 := Lib.hid (show Whole (W3.drewN nq) w.heap.size 39 #[.int .u32 e0, .int .u32 e1, .int .u32 e2, .int .u32 e3, .int .u32 e4] from Q1.out)
          have B1 := Lib.hid (below_drawn B1.out nq)
          generalize W3.drewN nq = W4 at *
          rw [rounds_succ]
          have q3 : W4.cell? ⟨w.heap.size, 3, none⟩ = some (.int .u32 e3) := Q1.out.cell 3
          have q4 : W4.cell? ⟨w.heap.size, 4, none⟩ = some (.int .u32 e4) := Q1.out.cell 4
          cases k4 : okEnd e3 e4 with
          | false =>
            rcases okEnd_no' k4 with h | ⟨h, h'⟩ | ⟨h, h', h''⟩
            · have d1 : (e4 % 4 != 0) = true := by simpa using h
              have K4 := Lib.hid k4; clear h k4
              go_wp2_with fail
              go_quiet (fail)
              go_wp2_with fail
              go_ret
              exact ⟨by simp [K0.out, K1.out, K2.out, K3.out, K4.out], below_drawn B1.out _⟩
            · have d1 : (e4 % 4 != 0) = false := by simpa using h
              have d2 : decide (1048576 < e4) = true := decide_eq_true h'
              have K4 := Lib.hid k4; clear h h' k4
              go_wp2_with fail
              go_quiet (fail)
              go_wp2_with fail
              go_ret
              exact ⟨by simp [K0.out, K1.out, K2.out, K3.out, K4.out], below_drawn B1.out _⟩
            · have d1 : (e4 % 4 != 0) = false := by simpa using h
              have d2 : decide (1048576 < e4) = false := decide_eq_false (by omega)
              have d3 : decide (e4 < e3) = true := decide_eq_true h''
              have K4 := Lib.hid k4; clear h h' h'' k4
              go_wp2_with fail
              go_quiet (fail)
              go_wp2_with fail
              go_ret
              exact ⟨by simp [K0.out, K1.out, K2.out, K3.out, K4.out], below_drawn B1.out _⟩
          | true =>
            obtain ⟨h, h', h''⟩ := okEnd_yes k4
            have d1 : (e4 % 4 != 0) = false := by simpa using h'
            have d2 : decide (1048576 < e4) = false := decide_eq_false (by omega)
            have d3 : decide (e4 < e3) = false := decide_eq_false (by omega)
            have K4 := Lib.hid k4; clear h h' h'' k4
            go_wp2_with fail
            go_quiet (fail)
            go_wp2_with fail
            clear d1 d2 d3 q3 q4
            have Q1 := Lib.hid (show Whole (W4.drewN nq) w.heap.size 39 #[.int .u32 e0, .int .u32 e1, .int .u32 e2, .int .u32 e3, .int .u32 e4] from Q1.out)
            have B1 := Lib.hid (below_drawn B1.out nq)
            generalize W4.drewN nq = W5 at *
            rw [rounds_succ]
            go_wp2_with fail
            go_ret
            exact ⟨by simp [K0.out, K1.out, K2.out, K3.out, K4.out], B1.out⟩

end Go.Proofs.YtinpdgjbiimgkaaDoor
