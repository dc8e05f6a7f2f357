/- Emit: New, Here, Err, Depth, Fail, Most, Drop, guard, isPad. -/
import Derived.Test.YtcijjmmckofckaaDoorEmtB
import Derived.BigQuiet
namespace Go.Proofs.YtcijjmmckofckaaDoor
open Go.ChangeShapes Go.WideShapes Go.ChangeAt Go.RowKit
set_option linter.unusedVariables false
set_option linter.unusedSimpArgs false

set_option maxHeartbeats 16000000 in
set_option maxRecDepth 100000 in
theorem enew_any (B N : Nat) (w : World) (hB : B ≤ w.heap.size) (hS : ShapesIn w) (hl : 0 < B) :
    Calls Tryd.prog 12 #[] w fun e w' => ∃ g, ∃ T : Nat → Prop, e = .returned (.pointer (some ⟨g, 0, none⟩)) ∧ CdAt w' B g T N newE ∧ Below w.heap.size w w' ∧ ∀ b, T b → w.heap.size ≤ b := by
  have b0 := (Below.refl w.heap.size w).alloc (Nat.le_refl _) (.cells #[.slice none 0 0, .slice none 0 0, .int .i64 0, .int .i64 0, .int .i64 0, .slice none 0 0, .slice none 0 0, .slice none 0 0] cdT)
  have X := Lib.hid (show CdAt (w.alloc (.cells #[.slice none 0 0, .slice none 0 0, .int .i64 0, .int .i64 0, .int .i64 0, .slice none 0 0, .slice none 0 0, .slice none 0 0] cdT)) B w.heap.size (fun b => b = w.heap.size) N newE from
    ⟨_, _, _, _, _, [], [], [], ⟨Whole.made w cdT #[.slice none 0 0, .slice none 0 0, .int .i64 0, .int .i64 0, .int .i64 0, .slice none 0 0, .slice none 0 0, .slice none 0 0] _ rfl, row_nil _ _ _ _, row_nil _ _ _ _, row_nil _ _ _ _, row_nil _ _ _ _, row_nil _ _ _ _, rfl, fun b hb => by simp [Value.ownBlock] at hb, fun b hb => by simp [Value.ownBlock] at hb, fun b hb => by simp [Value.ownBlock] at hb, fun b hb => by simp [Value.ownBlock] at hb, fun b hb => by simp [Value.ownBlock] at hb, fun b hb => by simp [Value.ownBlock] at hb, fun b hb => by subst hb; exact ⟨hB, (Whole.made w cdT #[.slice none 0 0, .slice none 0 0, .int .i64 0, .int .i64 0, .int .i64 0, .slice none 0 0, .slice none 0 0, .slice none 0 0] _ rfl).lt⟩, hS.alloc _, hl, EmOk.new, Nat.le_refl _, Nat.zero_le _, Nat.zero_le _, Nat.zero_le _, by show (0 : Int) ≤ N; omega⟩⟩)
  have BX := Lib.hid b0
  clear b0 hB hS hl
  go_enter Tryd.func12, Tryd.ntmps12
  go_wp2_with fail
  go_ret
  exact ⟨_, _, rfl, X.out, BX.out, fun b hb => by subst hb; exact Nat.le_refl _⟩

set_option maxHeartbeats 16000000 in
set_option maxRecDepth 100000 in
theorem err_any (B g : Nat) (T : Nat → Prop) (N M : Nat) (m : Em) (w : World) (h : CdM w B g T N M m) :
    Calls Tryd.prog 26 #[.pointer (some ⟨g, 0, none⟩)] w fun e w' => e = .returned (.int .i64 m.err) ∧ w = w' := by
  obtain ⟨vw, vf, vp, vg, vm, ps, gs, ms, h⟩ := h
  have c2 : w.cell? ⟨g, 2, none⟩ = some (.int .i64 m.err) := h.whole.cell 2
  clear h
  go_enter Tryd.func26, Tryd.ntmps26
  go_wp2_with fail
  go_ret
  exact ⟨rfl, rfl⟩

set_option maxHeartbeats 16000000 in
set_option maxRecDepth 100000 in
theorem depth_any (B g : Nat) (T : Nat → Prop) (N M : Nat) (m : Em) (w : World) (h : CdM w B g T N M m) :
    Calls Tryd.prog 25 #[.pointer (some ⟨g, 0, none⟩)] w fun e w' => e = .returned (.int .i64 m.dep) ∧ w = w' := by
  obtain ⟨vw, vf, vp, vg, vm, ps, gs, ms, h⟩ := h
  have c3 : w.cell? ⟨g, 3, none⟩ = some (.int .i64 m.dep) := h.whole.cell 3
  clear h
  go_enter Tryd.func25, Tryd.ntmps25
  go_wp2_with fail
  go_ret
  exact ⟨rfl, rfl⟩

set_option maxHeartbeats 16000000 in
set_option maxRecDepth 100000 in
theorem here_any (B g : Nat) (T : Nat → Prop) (N M : Nat) (m : Em) (w : World) (h : CdM w B g T N M m) :
    Calls Tryd.prog 17 #[.pointer (some ⟨g, 0, none⟩)] w fun e w' => e = .returned (.int .i64 m.L.length) ∧ w = w' := by
  obtain ⟨vw, vf, vp, vg, vm, ps, gs, ms, h⟩ := h
  obtain ⟨A, c, rfl⟩ := row_form h.rw
  have c0 : w.cell? ⟨g, 0, none⟩ = some (.slice A m.L.length c) := h.whole.cell 0
  clear h
  go_enter Tryd.func17, Tryd.ntmps17
  go_wp2_with fail
  go_ret
  exact ⟨rfl, rfl⟩

set_option maxHeartbeats 16000000 in
set_option maxRecDepth 100000 in
theorem ispad_any (x : Int) (B g : Nat) (T : Nat → Prop) (N M : Nat) (m : Em) (vw vf vp vg vm : Value) (ps gs : List Int) (ms : List Sg) (w : World) (h : CdR w B g T N M m vw vf vp vg vm ps gs ms) :
    Calls Tryd.prog 56 #[.pointer (some ⟨g, 0, none⟩), .int .i64 x] w fun e w' => e = .returned (.bool (decide (0 ≤ x ∧ x < ps.length))) ∧ w = w' := by
  obtain ⟨A, c, rfl⟩ := row_form h.rp
  have c5 : w.cell? ⟨g, 5, none⟩ = some (.slice A ps.length c) := h.whole.cell 5
  clear h
  by_cases h0 : 0 ≤ x
  · have d0 : decide (0 ≤ x) = true := decide_eq_true h0
    by_cases h1 : x < ps.length
    · have d1 : decide (x < (ps.length : Int)) = true := decide_eq_true h1
      rw [show decide (0 ≤ x ∧ x < (ps.length : Int)) = true from decide_eq_true ⟨h0, h1⟩]
      clear h0 h1
      go_enter Tryd.func56, Tryd.ntmps56
      go_wp2_with fail
      go_ret
      exact ⟨rfl, rfl⟩
    · have d1 : decide (x < (ps.length : Int)) = false := decide_eq_false h1
      rw [show decide (0 ≤ x ∧ x < (ps.length : Int)) = false from decide_eq_false (fun h => h1 h.2)]
      clear h0 h1
      go_enter Tryd.func56, Tryd.ntmps56
      go_wp2_with fail
      go_ret
      exact ⟨rfl, rfl⟩
  · have d0 : decide (0 ≤ x) = false := decide_eq_false h0
    rw [show decide (0 ≤ x ∧ x < (ps.length : Int)) = false from decide_eq_false (fun h => h0 h.1)]
    clear h0
    go_enter Tryd.func56, Tryd.ntmps56
    go_wp2_with fail
    go_ret
    exact ⟨rfl, rfl⟩

set_option maxHeartbeats 16000000 in
set_option maxRecDepth 100000 in
theorem guard_any (B g : Nat) (T : Nat → Prop) (N M : Nat) (m : Em) (w : World) (h : CdM w B g T N M m) (hN : N ≤ 100000) :
    Calls Tryd.prog 60 #[.pointer (some ⟨g, 0, none⟩)] w fun e w' => ∃ p : Int, e = .returned (.int .i64 p) ∧ Below w.heap.size w w' := by
  obtain ⟨vw, vf, vp, vg, vm, ps, gs, ms, h⟩ := h
  obtain ⟨A, c, rfl⟩ := row_form h.rg
  have c6 : w.cell? ⟨g, 6, none⟩ = some (.slice A gs.length c) := h.whole.cell 6
  have hO := h.rg
  have hG := h.ng
  clear h
  generalize hl : gs.length = n at *
  rcases n with _ | k
  · clear hO
    go_enter Tryd.func60, Tryd.ntmps60
    go_wp2_with fail
    go_ret
    exact ⟨_, rfl, Below.refl _ _⟩
  · obtain ⟨hcap, g2, rfl, hBg2, hg2, hcell⟩ := row_cell (f := itC) (fun _ => rfl) (0 : Int) hO hl (Nat.lt_succ_self k)
    have x0 : w.cell? ⟨g2, k, none⟩ = some (.int .i64 (gs.getD k 0)) := by have := (hcell 0 (by decide)).1; rwa [Nat.mul_one, Nat.add_zero] at this
    generalize gs.getD k 0 = z at *
    have hb : k + 1 ≤ 100000 := by omega
    clear hcell hO hl
    go_enter Tryd.func60, Tryd.ntmps60
    go_wp2_with fail
    go_quiet (fail)
    rename_i nq
    go_wp2_with fail
    go_ret
    exact ⟨_, rfl, below_drawn (Below.refl _ _) nq⟩

set_option maxHeartbeats 16000000 in
set_option maxRecDepth 100000 in
theorem fail_any (x : Int) (B g : Nat) (T : Nat → Prop) (N M : Nat) (m : Em) (w : World) (h : CdM w B g T N M m) :
    Calls Tryd.prog 45 #[.pointer (some ⟨g, 0, none⟩), .int .i64 x] w fun e w' => e = .returned (.tuple #[]) ∧ CdPM w w' B g T N M (failE m x) := by
  unfold failE
  by_cases he : m.err = 0
  · rw [if_pos he]
    obtain ⟨vw, vf, vp, vg, vm, ps, gs, ms, h⟩ := h
    have c2 : w.cell? ⟨g, 2, none⟩ = some (.int .i64 m.err) := h.whole.cell 2
    have f2 : w.frozen? ⟨g, 2, none⟩ = false := h.whole.free 2
    have R := Lib.hid (h.setEP x)
    have d : (m.err == 0) = true := beq_iff_eq.2 he
    clear h he
    go_enter Tryd.func45, Tryd.ntmps45
    go_wp2_with fail
    first | go_end0 | refine bodyPost_ret (results_none rfl _ _ _) rfl ?_
    exact ⟨rfl, R.out⟩
  · rw [if_neg he]
    have R := Lib.hid (show CdPM w w B g T N M m from ⟨T, h, KeptS.ofBelow (Below.refl _ _), fun b hb => .inl hb⟩)
    obtain ⟨vw, vf, vp, vg, vm, ps, gs, ms, h⟩ := h
    have c2 : w.cell? ⟨g, 2, none⟩ = some (.int .i64 m.err) := h.whole.cell 2
    have d : (m.err == 0) = false := beq_eq_false_iff_ne.2 he
    clear h he
    go_enter Tryd.func45, Tryd.ntmps45
    go_wp2_with fail
    first | go_end0 | refine bodyPost_ret (results_none rfl _ _ _) rfl ?_
    exact ⟨rfl, R.out⟩

set_option maxHeartbeats 16000000 in
set_option maxRecDepth 100000 in
theorem most_any (B g : Nat) (T : Nat → Prop) (N M : Nat) (m : Em) (w : World) (h : CdM w B g T N M m) :
    Calls Tryd.prog 8 #[.pointer (some ⟨g, 0, none⟩)] w fun e w' => e = .returned (.int .i64 m.most) ∧ CdPM w w' B g T N M ⟨m.L, m.fx, m.dep, m.dep, m.err⟩ := by
  obtain ⟨vw, vf, vp, vg, vm, ps, gs, ms, h⟩ := h
  have c3 : w.cell? ⟨g, 3, none⟩ = some (.int .i64 m.dep) := h.whole.cell 3
  have c4 : w.cell? ⟨g, 4, none⟩ = some (.int .i64 m.most) := h.whole.cell 4
  have f4 : w.frozen? ⟨g, 4, none⟩ = false := h.whole.free 4
  have R := Lib.hid (h.setMP m.dep (Int.le_refl _) (by have := h.ok.dm; have := h.nm; omega))
  clear h
  go_enter Tryd.func8, Tryd.ntmps8
  go_wp2_with fail
  go_ret
  exact ⟨rfl, R.out⟩

set_option maxHeartbeats 16000000 in
set_option maxRecDepth 100000 in
theorem drop_any (n : Int) (B g : Nat) (T : Nat → Prop) (N M : Nat) (m : Em) (w : World) (h : CdM w B g T N M m) (h1 : -1 ≤ n) (h2 : n ≤ 1000) (hN : N ≤ 100000) :
    Calls Tryd.prog 40 #[.pointer (some ⟨g, 0, none⟩), .int .i64 n] w fun e w' => e = .returned (.tuple #[]) ∧ CdPM w w' B g T (N + 1) M (dropE m n) := by
  unfold dropE
  have h00 := h
  have h := h.more (Nat.le_succ N) (Nat.le_refl M)
  obtain ⟨vw, vf, vp, vg, vm, ps, gs, ms, h⟩ := h
  have q0 := h.ok.d0
  have q1 := h.ok.dm
  have q2 : m.most ≤ N := by obtain ⟨_, _, _, _, _, _, _, _, h0⟩ := h00; exact h0.nm
  have c3 : w.cell? ⟨g, 3, none⟩ = some (.int .i64 m.dep) := h.whole.cell 3
  have c4 : w.cell? ⟨g, 4, none⟩ = some (.int .i64 m.most) := h.whole.cell 4
  have f3 : w.frozen? ⟨g, 3, none⟩ = false := h.whole.free 3
  have f4 : w.frozen? ⟨g, 4, none⟩ = false := h.whole.free 4
  rcases Int.lt_or_le n m.dep with hd0 | hd0
  · rcases Int.lt_or_le m.most (m.dep - n) with hx0 | hx0
    · have hd : n < m.dep := by assumption
      have Y := Lib.hid (show max 0 (m.dep - n) = m.dep - n by omega)
      have Z := Lib.hid (show max m.most (m.dep - n) = m.dep - n by omega)
      rw [Y.out, Z.out]
      have R := Lib.hid (h.setDMP (m.dep - n) (m.dep - n) (by omega) (by omega) (by omega))
      have hW := h.whole.store 3 (.int .i64 (m.dep - n))
      have e3 : (w.setCell ⟨g, 3, none⟩ (.int .i64 (m.dep - n))).cell? ⟨g, 3, none⟩ = some (.int .i64 (m.dep - n)) := hW.cell 3
      have e4 : (w.setCell ⟨g, 3, none⟩ (.int .i64 (m.dep - n))).cell? ⟨g, 4, none⟩ = some (.int .i64 m.most) := hW.cell 4
      have g4 : (w.setCell ⟨g, 3, none⟩ (.int .i64 (m.dep - n))).frozen? ⟨g, 4, none⟩ = false := hW.free 4
      clear h hW Y Z
      generalize m.dep = d at *
      generalize m.most = x at *
      go_enter Tryd.func40, Tryd.ntmps40
      go_wp2_with fail
      go_region
      go_wp2_with fail
      first | go_end0 | refine bodyPost_ret (results_none rfl _ _ _) rfl ?_
      exact ⟨rfl, R.out.after ((Below.refl _ _).drew)⟩
    · have hd : n < m.dep := by assumption
      have Y := Lib.hid (show max 0 (m.dep - n) = m.dep - n by omega)
      have Z := Lib.hid (show max m.most (m.dep - n) = m.most by omega)
      rw [Y.out, Z.out]
      have R := Lib.hid (h.setDMP (m.dep - n) (m.most) (by omega) (by omega) (by omega))
      have hW := h.whole.store 3 (.int .i64 (m.dep - n))
      have e3 : (w.setCell ⟨g, 3, none⟩ (.int .i64 (m.dep - n))).cell? ⟨g, 3, none⟩ = some (.int .i64 (m.dep - n)) := hW.cell 3
      have e4 : (w.setCell ⟨g, 3, none⟩ (.int .i64 (m.dep - n))).cell? ⟨g, 4, none⟩ = some (.int .i64 m.most) := hW.cell 4
      have g4 : (w.setCell ⟨g, 3, none⟩ (.int .i64 (m.dep - n))).frozen? ⟨g, 4, none⟩ = false := hW.free 4
      clear h hW Y Z
      generalize m.dep = d at *
      generalize m.most = x at *
      go_enter Tryd.func40, Tryd.ntmps40
      go_wp2_with fail
      go_region
      go_wp2_with fail
      first | go_end0 | refine bodyPost_ret (results_none rfl _ _ _) rfl ?_
      exact ⟨rfl, R.out.after ((Below.refl _ _).drew)⟩
  · have hd : m.dep ≤ n := by assumption
    have Y := Lib.hid (show max 0 (m.dep - n) = 0 by omega)
    have Z := Lib.hid (show max m.most (0) = m.most by omega)
    rw [Y.out, Z.out]
    have R := Lib.hid (h.setDMP (0) (m.most) (by omega) (by omega) (by omega))
    have hW := h.whole.store 3 (.int .i64 (0))
    have e3 : (w.setCell ⟨g, 3, none⟩ (.int .i64 (0))).cell? ⟨g, 3, none⟩ = some (.int .i64 (0)) := hW.cell 3
    have e4 : (w.setCell ⟨g, 3, none⟩ (.int .i64 (0))).cell? ⟨g, 4, none⟩ = some (.int .i64 m.most) := hW.cell 4
    have g4 : (w.setCell ⟨g, 3, none⟩ (.int .i64 (0))).frozen? ⟨g, 4, none⟩ = false := hW.free 4
    clear h hW Y Z
    generalize m.dep = d at *
    generalize m.most = x at *
    go_enter Tryd.func40, Tryd.ntmps40
    go_wp2_with fail
    go_region
    go_wp2_with fail
    first | go_end0 | refine bodyPost_ret (results_none rfl _ _ _) rfl ?_
    exact ⟨rfl, R.out.after ((Below.refl _ _).drew)⟩
end Go.Proofs.YtcijjmmckofckaaDoor
