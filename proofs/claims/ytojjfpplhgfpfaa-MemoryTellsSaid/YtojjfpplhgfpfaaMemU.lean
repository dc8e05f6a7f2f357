/- Package memory: the words of a part. -/
import Derived.Test.YtojjfpplhgfpfaaMemF
namespace Go.Proofs.Ytojjfpplhgfpfaa
open Go.ChangeShapes Go.WideShapes Go.ChangeAt Go.RowKit
set_option linter.unusedVariables false

/-- From word a on, b - a words of the memory. -/
def WordsPost (h a b : Nat) (w : World) (e : Ending) (w' : World) : Prop := ∃ A cap, e = .returned (.slice A (b - a) cap) ∧ (0 < b - a → A = some ⟨h, a, none⟩) ∧ Below w.heap.size w w'

set_option maxHeartbeats 4000000 in
set_option maxRecDepth 100000 in
theorem words_0 (p g n b : Nat) (e0 e1 e2 e3 e4 : Int) (w : World) (hm : Whole w p 68 (memCells e0 e1 e2 e3 e4 g n)) (hb : e0 = 4 * (b : Int)) (hab : 0 ≤ b) (hbn : b ≤ n) (hn : n ≤ 1000000) :
    Calls Try.prog 31 #[.pointer (some ⟨p, 0, none⟩), .int .i64 0] w (WordsPost g 0 b w) := by
  have q0 : w.cell? ⟨p, 0, none⟩ = some (.int .u32 e0) := hm.cell 0
  have q5 : w.cell? ⟨p, 5, none⟩ = some (.slice (some ⟨g, 0, none⟩) n n) := hm.cell 5
  have hb1 : e0 / 4 = (b : Int) := by omega
  have hb2 : IntKind.u32.wrap ((e0).tdiv 4) = (b : Int) := by rw [IntKind.wrap_u32, Int.tdiv_eq_ediv_of_nonneg (by omega)]; omega
  have l0 : 0 ≤ e0 := by omega
  have l1 : e0 ≤ 4294967295 := by omega
  clear hm hb
  go_enter Try.func31, Try.ntmps31
  go_wp2_with fail
  go_quiet (fail)
  all_goals go_wp2_with fail
  all_goals
    go_ret
    first
      | exact ⟨_, _, rfl, fun _ => rfl, below_drawn (Below.refl _ _) _⟩
      | exact ⟨some ⟨g, 0, none⟩, 0, by simp <;> omega, fun h0 => absurd h0 (by omega), below_drawn (Below.refl _ _) _⟩

set_option maxHeartbeats 4000000 in
set_option maxRecDepth 100000 in
theorem words_1 (p g n a b : Nat) (e0 e1 e2 e3 e4 : Int) (w : World) (hm : Whole w p 68 (memCells e0 e1 e2 e3 e4 g n)) (ha : e0 = 4 * (a : Int)) (hb : e1 = 4 * (b : Int)) (hab : a ≤ b) (hbn : b ≤ n) (hn : n ≤ 1000000) :
    Calls Try.prog 31 #[.pointer (some ⟨p, 0, none⟩), .int .i64 1] w (WordsPost g a b w) := by
  have q1 : w.cell? ⟨p, 1, none⟩ = some (.int .u32 e1) := hm.cell 1
  have q5 : w.cell? ⟨p, 5, none⟩ = some (.slice (some ⟨g, 0, none⟩) n n) := hm.cell 5
  have hb1 : e1 / 4 = (b : Int) := by omega
  have hb2 : IntKind.u32.wrap ((e1).tdiv 4) = (b : Int) := by rw [IntKind.wrap_u32, Int.tdiv_eq_ediv_of_nonneg (by omega)]; omega
  have l0 : 0 ≤ e1 := by omega
  have l1 : e1 ≤ 4294967295 := by omega
  have q0 : w.cell? ⟨p, 0, none⟩ = some (.int .u32 e0) := hm.cell 0
  have ha1 : e0 / 4 = (a : Int) := by omega
  have ha2 : IntKind.u32.wrap ((e0).tdiv 4) = (a : Int) := by rw [IntKind.wrap_u32, Int.tdiv_eq_ediv_of_nonneg (by omega)]; omega
  have m0 : 0 ≤ e0 := by omega
  have m1 : e0 ≤ 4294967295 := by omega
  clear ha
  clear hm hb
  go_enter Try.func31, Try.ntmps31
  go_wp2_with fail
  go_quiet (fail)
  all_goals go_wp2_with fail
  all_goals
    go_ret
    first
      | exact ⟨_, _, rfl, fun _ => rfl, below_drawn (Below.refl _ _) _⟩
      | exact ⟨some ⟨g, 0, none⟩, 0, by simp <;> omega, fun h0 => absurd h0 (by omega), below_drawn (Below.refl _ _) _⟩

set_option maxHeartbeats 4000000 in
set_option maxRecDepth 100000 in
theorem words_2 (p g n a b : Nat) (e0 e1 e2 e3 e4 : Int) (w : World) (hm : Whole w p 68 (memCells e0 e1 e2 e3 e4 g n)) (ha : e1 = 4 * (a : Int)) (hb : e2 = 4 * (b : Int)) (hab : a ≤ b) (hbn : b ≤ n) (hn : n ≤ 1000000) :
    Calls Try.prog 31 #[.pointer (some ⟨p, 0, none⟩), .int .i64 2] w (WordsPost g a b w) := by
  have q2 : w.cell? ⟨p, 2, none⟩ = some (.int .u32 e2) := hm.cell 2
  have q5 : w.cell? ⟨p, 5, none⟩ = some (.slice (some ⟨g, 0, none⟩) n n) := hm.cell 5
  have hb1 : e2 / 4 = (b : Int) := by omega
  have hb2 : IntKind.u32.wrap ((e2).tdiv 4) = (b : Int) := by rw [IntKind.wrap_u32, Int.tdiv_eq_ediv_of_nonneg (by omega)]; omega
  have l0 : 0 ≤ e2 := by omega
  have l1 : e2 ≤ 4294967295 := by omega
  have q1 : w.cell? ⟨p, 1, none⟩ = some (.int .u32 e1) := hm.cell 1
  have ha1 : e1 / 4 = (a : Int) := by omega
  have ha2 : IntKind.u32.wrap ((e1).tdiv 4) = (a : Int) := by rw [IntKind.wrap_u32, Int.tdiv_eq_ediv_of_nonneg (by omega)]; omega
  have m0 : 0 ≤ e1 := by omega
  have m1 : e1 ≤ 4294967295 := by omega
  clear ha
  clear hm hb
  go_enter Try.func31, Try.ntmps31
  go_wp2_with fail
  go_quiet (fail)
  all_goals go_wp2_with fail
  all_goals
    go_ret
    first
      | exact ⟨_, _, rfl, fun _ => rfl, below_drawn (Below.refl _ _) _⟩
      | exact ⟨some ⟨g, 0, none⟩, 0, by simp <;> omega, fun h0 => absurd h0 (by omega), below_drawn (Below.refl _ _) _⟩

set_option maxHeartbeats 4000000 in
set_option maxRecDepth 100000 in
theorem words_3 (p g n a b : Nat) (e0 e1 e2 e3 e4 : Int) (w : World) (hm : Whole w p 68 (memCells e0 e1 e2 e3 e4 g n)) (ha : e2 = 4 * (a : Int)) (hb : e3 = 4 * (b : Int)) (hab : a ≤ b) (hbn : b ≤ n) (hn : n ≤ 1000000) :
    Calls Try.prog 31 #[.pointer (some ⟨p, 0, none⟩), .int .i64 3] w (WordsPost g a b w) := by
  have q3 : w.cell? ⟨p, 3, none⟩ = some (.int .u32 e3) := hm.cell 3
  have q5 : w.cell? ⟨p, 5, none⟩ = some (.slice (some ⟨g, 0, none⟩) n n) := hm.cell 5
  have hb1 : e3 / 4 = (b : Int) := by omega
  have hb2 : IntKind.u32.wrap ((e3).tdiv 4) = (b : Int) := by rw [IntKind.wrap_u32, Int.tdiv_eq_ediv_of_nonneg (by omega)]; omega
  have l0 : 0 ≤ e3 := by omega
  have l1 : e3 ≤ 4294967295 := by omega
  have q2 : w.cell? ⟨p, 2, none⟩ = some (.int .u32 e2) := hm.cell 2
  have ha1 : e2 / 4 = (a : Int) := by omega
  have ha2 : IntKind.u32.wrap ((e2).tdiv 4) = (a : Int) := by rw [IntKind.wrap_u32, Int.tdiv_eq_ediv_of_nonneg (by omega)]; omega
  have m0 : 0 ≤ e2 := by omega
  have m1 : e2 ≤ 4294967295 := by omega
  clear ha
  clear hm hb
  go_enter Try.func31, Try.ntmps31
  go_wp2_with fail
  go_quiet (fail)
  all_goals go_wp2_with fail
  all_goals
    go_ret
    first
      | exact ⟨_, _, rfl, fun _ => rfl, below_drawn (Below.refl _ _) _⟩
      | exact ⟨some ⟨g, 0, none⟩, 0, by simp <;> omega, fun h0 => absurd h0 (by omega), below_drawn (Below.refl _ _) _⟩

set_option maxHeartbeats 4000000 in
set_option maxRecDepth 100000 in
theorem words_4 (p g n a b : Nat) (e0 e1 e2 e3 e4 : Int) (w : World) (hm : Whole w p 68 (memCells e0 e1 e2 e3 e4 g n)) (ha : e3 = 4 * (a : Int)) (hb : e4 = 4 * (b : Int)) (hab : a ≤ b) (hbn : b ≤ n) (hn : n ≤ 1000000) :
    Calls Try.prog 31 #[.pointer (some ⟨p, 0, none⟩), .int .i64 4] w (WordsPost g a b w) := by
  have q4 : w.cell? ⟨p, 4, none⟩ = some (.int .u32 e4) := hm.cell 4
  have q5 : w.cell? ⟨p, 5, none⟩ = some (.slice (some ⟨g, 0, none⟩) n n) := hm.cell 5
  have hb1 : e4 / 4 = (b : Int) := by omega
  have hb2 : IntKind.u32.wrap ((e4).tdiv 4) = (b : Int) := by rw [IntKind.wrap_u32, Int.tdiv_eq_ediv_of_nonneg (by omega)]; omega
  have l0 : 0 ≤ e4 := by omega
  have l1 : e4 ≤ 4294967295 := by omega
  have q3 : w.cell? ⟨p, 3, none⟩ = some (.int .u32 e3) := hm.cell 3
  have ha1 : e3 / 4 = (a : Int) := by omega
  have ha2 : IntKind.u32.wrap ((e3).tdiv 4) = (a : Int) := by rw [IntKind.wrap_u32, Int.tdiv_eq_ediv_of_nonneg (by omega)]; omega
  have m0 : 0 ≤ e3 := by omega
  have m1 : e3 ≤ 4294967295 := by omega
  clear ha
  clear hm hb
  go_enter Try.func31, Try.ntmps31
  go_wp2_with fail
  go_quiet (fail)
  all_goals go_wp2_with fail
  all_goals
    go_ret
    first
      | exact ⟨_, _, rfl, fun _ => rfl, below_drawn (Below.refl _ _) _⟩
      | exact ⟨some ⟨g, 0, none⟩, 0, by simp <;> omega, fun h0 => absurd h0 (by omega), below_drawn (Below.refl _ _) _⟩

set_option maxHeartbeats 4000000 in
theorem words_none (p : Nat) (k : Int) (w : World) (hk : 5 ≤ k) (hk2 : k ≤ 4294967295) :
    Calls Try.prog 31 #[.pointer (some ⟨p, 0, none⟩), .int .i64 k] w fun e w' => e = .returned (.slice none 0 0) ∧ w = w' := by
  have d0 : decide (k < 0) = false := decide_eq_false (by omega)
  have d1 : decide (5 ≤ k) = true := decide_eq_true hk
  go_enter Try.func31, Try.ntmps31
  go_wp2_with fail
  go_ret
  exact ⟨rfl, rfl⟩
end Go.Proofs.Ytojjfpplhgfpfaa
