/- The answers' memory: Load, Fetch, Part. -/
import Derived.Test.YtojjfpplhgfpfaaMemE
namespace Go.Proofs.Ytojjfpplhgfpfaa
open Go.ChangeShapes Go.WideShapes Go.ChangeAt Go.RowKit
set_option linter.unusedVariables false

set_option maxHeartbeats 4000000 in
theorem refload_any (h n : Nat) (e0 e1 e2 e3 e4 at_ : Int) (ws : List Int) (w : World) (ha : U32 at_) (hw : Whole w h 22 (words ws)) (hn : ws.length = n) (hn2 : n ≤ 1000000) (hl : e4 = 4 * n) (hws : ∀ z ∈ ws, U32 z) :
    Calls Try.prog 11 #[.agg (memCells e0 e1 e2 e3 e4 h n), .int .u32 at_] w fun e w' => e = .returned (.tuple #[.int .u32 (readVal at_ e4 ws), .int .i64 (checkRes at_ e4)]) ∧ Below w.heap.size w w' := by
  obtain ⟨a0, a1⟩ := ha
  have hlt := hw.lt
  unfold memCells
  by_cases hm4 : at_ % 4 = 0
  · have d1 : (at_ % 4 != 0) = false := by simpa using hm4
    obtain ⟨k, hk⟩ := Int.eq_ofNat_of_zero_le (show 0 ≤ at_ / 4 by omega)
    have hk2 : k ≤ 1073741823 := by omega
    by_cases hp : n ≤ k
    · have hR : checkRes at_ e4 = 31 := checkRes_place hm4 (by omega)
      have hV : readVal at_ e4 ws = 0 := by unfold readVal; rw [hR]; rfl
      have d2 : decide (n ≤ k) = true := decide_eq_true (by omega)
      rw [hR, hV]
      clear hR hV hp hm4 hw hws hl
      go_enter Try.func11, Try.ntmps11
      go_wp2_with fail
      go_ret2
      exact ⟨rfl, (Below.refl _ _).alloc (Nat.le_refl _) _⟩
    · have hR : checkRes at_ e4 = 0 := checkRes_ok hm4 (by omega)
      have hV : readVal at_ e4 ws = ws.getD k 0 := by unfold readVal; rw [hR, hk]; rfl
      have d2 : decide (n ≤ k) = false := decide_eq_false (by omega)
      have hkn : k < n := by omega
      rw [hR, hV]
      obtain ⟨v0, v1⟩ := wordOfs hws k
      have c0 := (hw.alloc (.cells #[.int .u32 e0, .int .u32 e1, .int .u32 e2, .int .u32 e3, .int .u32 e4, .slice (some ⟨h, 0, none⟩) n n] 32)).word (k := k) (by omega)
      clear hR hV hp hm4 hw hws hl
      generalize ws.getD k 0 = v at *
      go_enter Try.func11, Try.ntmps11
      go_wp2_with fail
      go_ret2
      exact ⟨rfl, (Below.refl _ _).alloc (Nat.le_refl _) _⟩
  · have hR : checkRes at_ e4 = 30 := checkRes_align hm4
    have hV : readVal at_ e4 ws = 0 := by unfold readVal; rw [hR]; rfl
    have d1 : (at_ % 4 != 0) = true := by simpa using hm4
    rw [hR, hV]
    clear hR hV hm4 hw hws hl
    go_enter Try.func11, Try.ntmps11
    go_wp2_with fail
    go_ret2
    exact ⟨rfl, (Below.refl _ _).alloc (Nat.le_refl _) _⟩

set_option maxHeartbeats 4000000 in
theorem reffetch_any (h n : Nat) (e0 e1 e2 e3 e4 at_ : Int) (ws : List Int) (w : World) (ha : U32 at_) (hw : Whole w h 22 (words ws)) (hn : ws.length = n) (hn2 : n ≤ 1000000) (hl : e4 = 4 * n) (hws : ∀ z ∈ ws, U32 z) (h04 : e0 ≤ e4) :
    Calls Try.prog 13 #[.agg (memCells e0 e1 e2 e3 e4 h n), .int .u32 at_] w fun e w' => e = .returned (.tuple #[.int .u32 (readVal at_ e0 ws), .int .i64 (checkRes at_ e0)]) ∧ Below w.heap.size w w' := by
  have hlt := hw.lt
  have hC := fun w h' => refload_any h n e0 e1 e2 e3 e4 at_ ws w ha h' hn hn2 hl hws
  have HW := Lib.hid (hw.alloc (.cells #[.int .u32 e0, .int .u32 e1, .int .u32 e2, .int .u32 e3, .int .u32 e4, .slice (some ⟨h, 0, none⟩) n n] 32))
  have C := Lib.hid hC
  obtain ⟨a0, a1⟩ := ha
  clear hC hw hws
  unfold memCells at *
  by_cases hz : checkRes at_ e4 = 0
  · obtain ⟨z0, z1⟩ := checkRes_zero hz
    by_cases hp : e0 ≤ at_
    · have hR : checkRes at_ e0 = 31 := checkRes_place z0 hp
      have hV : readVal at_ e0 ws = 0 := by unfold readVal; rw [hR]; rfl
      have d2 : decide (e0 ≤ at_) = true := decide_eq_true hp
      rw [hR, hV]
      rw [hz] at C
      generalize readVal at_ e4 ws = v at *
      clear hR hV hp z0 z1 hz hl
      go_enter Try.func13, Try.ntmps13
      go_wp2_with fail
      refine (C.out _ HW.out).mono ?_
      rintro e w1 ⟨rfl, hb1⟩
      obtain ⟨hk1, hf1⟩ := kept_cells hb1
      have B1 := Lib.hid (((Below.refl _ _).alloc (Nat.le_refl _) _).trans (hb1.mono (show w.heap.size ≤ _ by simp)))
      clear hb1
      go_wp2_with fail
      go_ret2
      exact ⟨rfl, B1.out⟩
    · have hR : checkRes at_ e0 = 0 := checkRes_ok z0 (by omega)
      have hV : readVal at_ e0 ws = readVal at_ e4 ws := by unfold readVal; rw [hR, hz]
      have d2 : decide (e0 ≤ at_) = false := decide_eq_false hp
      rw [hR, hV]
      rw [hz] at C
      clear hV
      generalize readVal at_ e4 ws = v at *
      clear hR hp z0 z1 hz hl
      go_enter Try.func13, Try.ntmps13
      go_wp2_with fail
      refine (C.out _ HW.out).mono ?_
      rintro e w1 ⟨rfl, hb1⟩
      obtain ⟨hk1, hf1⟩ := kept_cells hb1
      have B1 := Lib.hid (((Below.refl _ _).alloc (Nat.le_refl _) _).trans (hb1.mono (show w.heap.size ≤ _ by simp)))
      clear hb1
      go_wp2_with fail
      go_ret2
      exact ⟨rfl, B1.out⟩
  · have hR : checkRes at_ e0 = checkRes at_ e4 := by
      by_cases hm : at_ % 4 = 0
      · have : e4 ≤ at_ := by
          rcases Int.lt_or_le at_ e4 with h1 | h1
          · exact absurd (checkRes_ok hm h1) hz
          · exact h1
        rw [checkRes_place hm (by omega), checkRes_place hm this]
      · rw [checkRes_align hm, checkRes_align hm]
    have hV : readVal at_ e0 ws = readVal at_ e4 ws := by unfold readVal; rw [hR]
    have d2 : (checkRes at_ e4 == 0) = false := by simpa using hz
    rw [hR, hV]
    clear hR hV
    generalize readVal at_ e4 ws = v at *
    generalize checkRes at_ e4 = er at *
    clear hz hl
    go_enter Try.func13, Try.ntmps13
    go_wp2_with fail
    refine (C.out _ HW.out).mono ?_
    rintro e w1 ⟨rfl, hb1⟩
    obtain ⟨hk1, hf1⟩ := kept_cells hb1
    have B1 := Lib.hid (((Below.refl _ _).alloc (Nat.le_refl _) _).trans (hb1.mono (show w.heap.size ≤ _ by simp)))
    clear hb1
    go_wp2_with fail
    go_ret2
    exact ⟨rfl, B1.out⟩

set_option maxHeartbeats 4000000 in
set_option maxRecDepth 100000 in
theorem refpart_any (h n : Nat) (e0 e1 e2 e3 e4 at_ : Int) (w : World) :
    Calls Try.prog 15 #[.agg (memCells e0 e1 e2 e3 e4 h n), .int .u32 at_] w fun e w' => e = .returned (.int .i64 (partOf e0 e1 e2 e3 e4 at_)) ∧ Below w.heap.size w w' := by
  unfold memCells
  have Q := Whole.made w 32 #[.int .u32 e0, .int .u32 e1, .int .u32 e2, .int .u32 e3, .int .u32 e4, .slice (some ⟨h, 0, none⟩) n n] w.heap.size rfl
  have B0 := Lib.hid ((Below.refl w.heap.size w).alloc (Nat.le_refl _) (.cells #[.int .u32 e0, .int .u32 e1, .int .u32 e2, .int .u32 e3, .int .u32 e4, .slice (some ⟨h, 0, none⟩) n n] 32))
  go_enter Try.func15, Try.ntmps15
  go_wp2_with fail
  generalize w.alloc (.cells #[.int .u32 e0, .int .u32 e1, .int .u32 e2, .int .u32 e3, .int .u32 e4, .slice (some ⟨h, 0, none⟩) n n] 32) = w1 at *
  have q0 : w1.cell? ⟨w.heap.size, 0, none⟩ = some (.int .u32 e0) := Q.cell 0
  have q1 : w1.cell? ⟨w.heap.size, 1, none⟩ = some (.int .u32 e1) := Q.cell 1
  have q2 : w1.cell? ⟨w.heap.size, 2, none⟩ = some (.int .u32 e2) := Q.cell 2
  have q3 : w1.cell? ⟨w.heap.size, 3, none⟩ = some (.int .u32 e3) := Q.cell 3
  have q4 : w1.cell? ⟨w.heap.size, 4, none⟩ = some (.int .u32 e4) := Q.cell 4
  clear Q
  refine wp_loop_rounds 6 ?_
  rw [rounds_succ]
  by_cases k0 : at_ < e0
  · have d0 : decide (e0 ≤ at_) = false := decide_eq_false (Int.not_le.2 k0)
    have H0 := Lib.hid k0
    clear k0
    go_wp2_with fail
    go_ret
    exact ⟨by unfold partOf; rw [if_pos H0.out]; rfl, B0.out⟩
  have d0 : decide (e0 ≤ at_) = true := decide_eq_true (Int.not_lt.1 k0)
  have H0 := Lib.hid (Int.not_lt.1 k0)
  clear k0
  go_wp2_with fail
  clear d0
  rw [rounds_succ]
  by_cases k1 : at_ < e1
  · have d1 : decide (e1 ≤ at_) = false := decide_eq_false (Int.not_le.2 k1)
    have H1 := Lib.hid k1
    clear k1
    go_wp2_with fail
    go_ret
    exact ⟨by unfold partOf; rw [if_neg (Int.not_lt.2 H0.out), if_pos H1.out]; rfl, B0.out⟩
  have d1 : decide (e1 ≤ at_) = true := decide_eq_true (Int.not_lt.1 k1)
  have H1 := Lib.hid (Int.not_lt.1 k1)
  clear k1
  go_wp2_with fail
  clear d1
  rw [rounds_succ]
  by_cases k2 : at_ < e2
  · have d2 : decide (e2 ≤ at_) = false := decide_eq_false (Int.not_le.2 k2)
    have H2 := Lib.hid k2
    clear k2
    go_wp2_with fail
    go_ret
    exact ⟨by unfold partOf; rw [if_neg (Int.not_lt.2 H0.out), if_neg (Int.not_lt.2 H1.out), if_pos H2.out]; rfl, B0.out⟩
  have d2 : decide (e2 ≤ at_) = true := decide_eq_true (Int.not_lt.1 k2)
  have H2 := Lib.hid (Int.not_lt.1 k2)
  clear k2
  go_wp2_with fail
  clear d2
  rw [rounds_succ]
  by_cases k3 : at_ < e3
  · have d3 : decide (e3 ≤ at_) = false := decide_eq_false (Int.not_le.2 k3)
    have H3 := Lib.hid k3
    clear k3
    go_wp2_with fail
    go_ret
    exact ⟨by unfold partOf; rw [if_neg (Int.not_lt.2 H0.out), if_neg (Int.not_lt.2 H1.out), if_neg (Int.not_lt.2 H2.out), if_pos H3.out]; rfl, B0.out⟩
  have d3 : decide (e3 ≤ at_) = true := decide_eq_true (Int.not_lt.1 k3)
  have H3 := Lib.hid (Int.not_lt.1 k3)
  clear k3
  go_wp2_with fail
  clear d3
  rw [rounds_succ]
  by_cases k4 : at_ < e4
  · have d4 : decide (e4 ≤ at_) = false := decide_eq_false (Int.not_le.2 k4)
    have H4 := Lib.hid k4
    clear k4
    go_wp2_with fail
    go_ret
    exact ⟨by unfold partOf; rw [if_neg (Int.not_lt.2 H0.out), if_neg (Int.not_lt.2 H1.out), if_neg (Int.not_lt.2 H2.out), if_neg (Int.not_lt.2 H3.out), if_pos H4.out]; rfl, B0.out⟩
  have d4 : decide (e4 ≤ at_) = true := decide_eq_true (Int.not_lt.1 k4)
  have H4 := Lib.hid (Int.not_lt.1 k4)
  clear k4
  go_wp2_with fail
  clear d4
  rw [rounds_succ]
  go_wp2_with fail
  go_ret
  exact ⟨by unfold partOf; rw [if_neg (Int.not_lt.2 H0.out), if_neg (Int.not_lt.2 H1.out), if_neg (Int.not_lt.2 H2.out), if_neg (Int.not_lt.2 H3.out), if_neg (Int.not_lt.2 H4.out)]; rfl, B0.out⟩
end Go.Proofs.Ytojjfpplhgfpfaa
