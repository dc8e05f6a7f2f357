/- Konst: the law KonstOrder walked. -/
import Derived.Test.YtmgjnalijmplcaaKonU
namespace Go.Proofs.Ytmgjnalijmplcaa
open Go.ChangeShapes Go.WideShapes Go.ChangeAt Go.RowKit
set_option linter.unusedVariables false
set_option linter.unusedSimpArgs false

theorem ord_two {k : Nat} {t n1 n2 : Int} (h7 : 7 ≤ k) (hk : k < 13) (hr : rightB t n1 = true) (ht : ((t == 1) || (t == 3)) = true) : twoP k t n1 t n2 = ⟨2, trP (cmpP k n1 n2), 0⟩ := by
  unfold twoP
  rw [if_neg (show ¬ k < 5 by omega), if_neg (show ¬ k < 7 by omega), if_pos hk]
  unfold compareP
  rw [hr, ht, beq_self_eq_true, Bool.or_true]
  rfl

set_option maxHeartbeats 16000000 in
set_option maxRecDepth 100000 in
theorem order_walk (w : World) (t1 n1 t2 n2 : Int) (b10 : -2147483648 ≤ n1) (b11 : n1 ≤ 2147483647) (b20 : -2147483648 ≤ n2) (b21 : n2 ≤ 2147483647) : Calls Try.prog 7 #[.agg #[.int .i64 t1, .int .i32 n1], .agg #[.int .i64 t2, .int .i32 n2]] w fun e w' => e = .returned (.bool true) ∧ Below w.heap.size w w' := by
  have c0 := (Below.refl w.heap.size w).alloc (Nat.le_refl _) (.cells #[.int .i64 t1, .int .i32 n1] kT)
  have BA := Lib.hid (c0.alloc c0.size (.cells #[.int .i64 t2, .int .i32 n2] kT))
  have P := Lib.hid ((Whole.made w kT #[.int .i64 t1, .int .i32 n1] (w.heap.size) (by simp)).alloc (.cells #[.int .i64 t2, .int .i32 n2] kT))
  have Q := Lib.hid (Whole.made (w.alloc (.cells #[.int .i64 t1, .int .i32 n1] kT)) kT #[.int .i64 t2, .int .i32 n2] (w.heap.size + 1) (by simp))
  have AW := Lib.hid (fun y => awake10_any y)
  have RA := Lib.hid (fun y => right_any t1 n1 y b10 b11)
  have RB := Lib.hid (fun y => right_any t1 n2 y b20 b21)
  have C7 := Lib.hid (fun y => two_7 t1 n1 t1 n2 y b10 b11)
  have C9 := Lib.hid (fun y => two_9 t1 n1 t1 n2 y b10 b11)
  have C10 := Lib.hid (fun y => two_10 t1 n1 t1 n2 y b10 b11)
  have C11 := Lib.hid (fun y => two_11 t1 n1 t1 n2 y b10 b11)
  have O := Lib.hid (fun k h7 hk => @ord_two k t1 n1 n2 h7 hk)
  clear c0 b10 b11 b20 b21
  go_enter Try.func7, Try.ntmps7
  go_wp2_with fail
  generalize (w.alloc (.cells #[.int .i64 t1, .int .i32 n1] kT)).alloc (.cells #[.int .i64 t2, .int .i32 n2] kT) = V at *
  refine (AW.out _).mono ?_
  rintro e w1 ⟨rfl, hb⟩
  have B1 := Lib.hid ((BA.out.trans (hb.mono BA.out.size)).setCell (p := ⟨w.heap.size + 1, 0, none⟩) (show w.heap.size ≤ w.heap.size + 1 by omega) (.int .i64 t1))
  have P1 := Lib.hid ((P.out.below hb P.out.lt).far (p := ⟨w.heap.size + 1, 0, none⟩) (show w.heap.size ≠ w.heap.size + 1 by omega) (.int .i64 t1))
  have Q1 := Lib.hid ((Q.out.below hb Q.out.lt).store 0 (.int .i64 t1))
  have p0 : w1.cell? ⟨w.heap.size, 0, none⟩ = some (.int .i64 t1) := (P.out.below hb P.out.lt).cell 0
  have q0 : w1.cell? ⟨w.heap.size + 1, 0, none⟩ = some (.int .i64 t2) := (Q.out.below hb Q.out.lt).cell 0
  have qf := (Q.out.below hb Q.out.lt).free 0
  have a0 : (w1.setCell ⟨w.heap.size + 1, 0, none⟩ (.int .i64 t1)).cell? ⟨w.heap.size, 0, none⟩ = some (.int .i64 t1) := P1.out.cell 0
  have a1 : (w1.setCell ⟨w.heap.size + 1, 0, none⟩ (.int .i64 t1)).cell? ⟨w.heap.size, 1, none⟩ = some (.int .i32 n1) := P1.out.cell 1
  clear hb BA P Q AW
  go_wp2_with fail
  generalize w1.setCell ⟨w.heap.size + 1, 0, none⟩ (.int .i64 t1) = v1 at *
  clear p0 q0 qf a0 a1
  refine (RA.out _).mono ?_
  rintro e w2 ⟨rfl, hb⟩
  have B2 := Lib.hid (B1.out.trans (hb.mono B1.out.size))
  have P2 := Lib.hid (P1.out.below hb P1.out.lt)
  have Q2 := Lib.hid (show Whole v1 (w.heap.size + 1) kT #[.int .i64 t1, .int .i32 n2] from Q1.out)
  have Q2 := Lib.hid (Q2.out.below hb Q2.out.lt)
  clear hb B1 P1 Q1 RA
  cases hra : rightB t1 n1
  case false =>
    go_wp2_with fail
    go_ret
    exact ⟨rfl, B2.out⟩
  have q0 : w2.cell? ⟨w.heap.size + 1, 0, none⟩ = some (.int .i64 t1) := Q2.out.cell 0
  have q1 : w2.cell? ⟨w.heap.size + 1, 1, none⟩ = some (.int .i32 n2) := Q2.out.cell 1
  have HRA := Lib.hid hra
  clear hra
  go_wp2_with fail
  clear q0 q1
  refine (RB.out _).mono ?_
  rintro e w3 ⟨rfl, hb⟩
  have B3 := Lib.hid (B2.out.trans (hb.mono B2.out.size))
  have P3 := Lib.hid (P2.out.below hb P2.out.lt)
  have Q3 := Lib.hid (Q2.out.below hb Q2.out.lt)
  clear hb B2 P2 Q2 RB
  cases hrb : rightB t1 n2
  case false =>
    go_wp2_with fail
    go_ret
    exact ⟨rfl, B3.out⟩
  clear hrb
  have p0 : w3.cell? ⟨w.heap.size, 0, none⟩ = some (.int .i64 t1) := P3.out.cell 0
  have p1 : w3.cell? ⟨w.heap.size, 1, none⟩ = some (.int .i32 n1) := P3.out.cell 1
  cases ht : ((t1 == 1) || (t1 == 3))
  case false =>
    have h1 : (t1 != 1) = true := by
      have : (t1 == 1) = false := by cases h : (t1 == 1) <;> simp_all
      simpa using this
    have h3 : (t1 != 3) = true := by
      have : (t1 == 3) = false := by cases h : (t1 == 3) <;> simp_all
      simpa using this
    clear ht
    go_wp2_with fail
    go_ret
    exact ⟨rfl, B3.out⟩
  rw [O.out 7 (by decide) (by decide) HRA.out ht] at C7
  rw [O.out 9 (by decide) (by decide) HRA.out ht] at C9
  rw [O.out 10 (by decide) (by decide) HRA.out ht] at C10
  rw [O.out 11 (by decide) (by decide) HRA.out ht] at C11
  clear O HRA
  have hvals : ∃ l q g le : Int, trP (cmpP 9 n1 n2) = l ∧ trP (cmpP 7 n1 n2) = q ∧ trP (cmpP 11 n1 n2) = g ∧ trP (cmpP 10 n1 n2) = le ∧ ((l = 1 ∧ q = 0 ∧ g = 0 ∧ le = 1) ∨ (l = 0 ∧ q = 1 ∧ g = 0 ∧ le = 1) ∨ (l = 0 ∧ q = 0 ∧ g = 1 ∧ le = 0)) := by
    refine ⟨_, _, _, _, rfl, rfl, rfl, rfl, ?_⟩
    show (trP (decide (n1 < n2)) = 1 ∧ trP (n1 == n2) = 0 ∧ trP (decide (n2 < n1)) = 0 ∧ trP (decide (n1 ≤ n2)) = 1) ∨ (trP (decide (n1 < n2)) = 0 ∧ trP (n1 == n2) = 1 ∧ trP (decide (n2 < n1)) = 0 ∧ trP (decide (n1 ≤ n2)) = 1) ∨ (trP (decide (n1 < n2)) = 0 ∧ trP (n1 == n2) = 0 ∧ trP (decide (n2 < n1)) = 1 ∧ trP (decide (n1 ≤ n2)) = 0)
    rcases Int.lt_trichotomy n1 n2 with h | h | h
    · refine .inl ?_
      rw [decide_eq_true h, decide_eq_false (show ¬ n2 < n1 by omega), decide_eq_true (show n1 ≤ n2 by omega), beq_eq_false_iff_ne.2 (show n1 ≠ n2 by omega)]
      exact ⟨rfl, rfl, rfl, rfl⟩
    · refine .inr (.inl ?_)
      rw [decide_eq_false (show ¬ n1 < n2 by omega), decide_eq_false (show ¬ n2 < n1 by omega), decide_eq_true (show n1 ≤ n2 by omega), beq_iff_eq.2 h]
      exact ⟨rfl, rfl, rfl, rfl⟩
    · refine .inr (.inr ?_)
      rw [decide_eq_false (show ¬ n1 < n2 by omega), decide_eq_true h, decide_eq_false (show ¬ n1 ≤ n2 by omega), beq_eq_false_iff_ne.2 (show n1 ≠ n2 by omega)]
      exact ⟨rfl, rfl, rfl, rfl⟩
  obtain ⟨l, q, g, le, e9, e7, e11, e10, hv⟩ := hvals
  rw [e9] at C9
  rw [e7] at C7
  rw [e11] at C11
  rw [e10] at C10
  clear e9 e7 e11 e10
  unfold kR at *
  simp only at C7 C9 C10 C11
  have hg : (t1 != 1) = false ∨ ((t1 != 1) = true ∧ (t1 != 3) = false) := by
    cases h : (t1 == 1)
    · right
      rw [h] at ht
      exact ⟨by simpa using h, by simpa using ht⟩
    · left
      simpa using h
  clear ht
  have hb9 : 0 ≤ l ∧ l ≤ 1 ∧ 0 ≤ q ∧ q ≤ 1 ∧ 0 ≤ g ∧ g ≤ 1 ∧ 0 ≤ le ∧ le ≤ 1 := by
    rcases hv with ⟨rfl, rfl, rfl, rfl⟩ | ⟨rfl, rfl, rfl, rfl⟩ | ⟨rfl, rfl, rfl, rfl⟩ <;> decide
  obtain ⟨l0, l1, y0, y1, g0, g1, m0, m1⟩ := hb9
  have HS := Lib.hid (show (l + q + g == 1) = true from by
    rcases hv with ⟨rfl, rfl, rfl, rfl⟩ | ⟨rfl, rfl, rfl, rfl⟩ | ⟨rfl, rfl, rfl, rfl⟩ <;> decide)
  have HT := Lib.hid (show (le + g == 1) = true from by
    rcases hv with ⟨rfl, rfl, rfl, rfl⟩ | ⟨rfl, rfl, rfl, rfl⟩ | ⟨rfl, rfl, rfl, rfl⟩ <;> decide)
  clear hv
  have B4 := Lib.hid (B3.out.alloc B3.out.size (.cells #[.string ⟨#[60]⟩, .string ⟨#[61]⟩, .string ⟨#[62]⟩] 9))
  have P4 := Lib.hid (P3.out.alloc (.cells #[.string ⟨#[60]⟩, .string ⟨#[61]⟩, .string ⟨#[62]⟩] 9))
  have Q4 := Lib.hid (Q3.out.alloc (.cells #[.string ⟨#[60]⟩, .string ⟨#[61]⟩, .string ⟨#[62]⟩] 9))
  have S4 := Lib.hid (Whole.made w3 9 #[.string ⟨#[60]⟩, .string ⟨#[61]⟩, .string ⟨#[62]⟩] _ rfl)
  clear B3 P3 Q3
  rcases hg with h1 | ⟨h1, h3⟩
  all_goals
    go_wp2_with fail
    clear p0 p1
    generalize w3.alloc (.cells #[.string ⟨#[60]⟩, .string ⟨#[61]⟩, .string ⟨#[62]⟩] 9) = v4 at *
    generalize w3.heap.size = sl at *
    refine wp_loop_rounds 4 ?_
    have p0 : v4.cell? ⟨w.heap.size, 0, none⟩ = some (.int .i64 t1) := P4.out.cell 0
    have p1 : v4.cell? ⟨w.heap.size, 1, none⟩ = some (.int .i32 n1) := P4.out.cell 1
    have q0 : v4.cell? ⟨w.heap.size + 1, 0, none⟩ = some (.int .i64 t1) := Q4.out.cell 0
    have q1 : v4.cell? ⟨w.heap.size + 1, 1, none⟩ = some (.int .i32 n2) := Q4.out.cell 1
    have s0 : v4.cell? ⟨sl, 0, none⟩ = some (.string ⟨#[60]⟩) := S4.out.cell 0
    rw [rounds_succ]
    go_wp2_with fail
    clear p0 p1 q0 q1 s0
    refine (C9.out _).mono ?_
    rintro e w5 ⟨rfl, hb⟩
    have B5 := Lib.hid ((B4.out.trans (hb.mono B4.out.size)).alloc (Nat.le_trans B4.out.size hb.size) (.cells #[.int .i64 2, .int .i32 l] kT))
    have P5 := Lib.hid ((P4.out.below hb P4.out.lt).alloc (.cells #[.int .i64 2, .int .i32 l] kT))
    have Q5 := Lib.hid ((Q4.out.below hb Q4.out.lt).alloc (.cells #[.int .i64 2, .int .i32 l] kT))
    have S5 := Lib.hid ((S4.out.below hb S4.out.lt).alloc (.cells #[.int .i64 2, .int .i32 l] kT))
    clear hb B4 P4 Q4 S4
    go_wp2_with fail
    generalize w5.alloc (.cells #[.int .i64 2, .int .i32 l] kT) = v5 at *
    have p0 : v5.cell? ⟨w.heap.size, 0, none⟩ = some (.int .i64 t1) := P5.out.cell 0
    have p1 : v5.cell? ⟨w.heap.size, 1, none⟩ = some (.int .i32 n1) := P5.out.cell 1
    have q0 : v5.cell? ⟨w.heap.size + 1, 0, none⟩ = some (.int .i64 t1) := Q5.out.cell 0
    have q1 : v5.cell? ⟨w.heap.size + 1, 1, none⟩ = some (.int .i32 n2) := Q5.out.cell 1
    have s0 : v5.cell? ⟨sl, 1, none⟩ = some (.string ⟨#[61]⟩) := S5.out.cell 1
    rw [rounds_succ]
    go_wp2_with fail
    clear p0 p1 q0 q1 s0
    refine (C7.out _).mono ?_
    rintro e w6 ⟨rfl, hb⟩
    have B6 := Lib.hid ((B5.out.trans (hb.mono B5.out.size)).alloc (Nat.le_trans B5.out.size hb.size) (.cells #[.int .i64 2, .int .i32 q] kT))
    have P6 := Lib.hid ((P5.out.below hb P5.out.lt).alloc (.cells #[.int .i64 2, .int .i32 q] kT))
    have Q6 := Lib.hid ((Q5.out.below hb Q5.out.lt).alloc (.cells #[.int .i64 2, .int .i32 q] kT))
    have S6 := Lib.hid ((S5.out.below hb S5.out.lt).alloc (.cells #[.int .i64 2, .int .i32 q] kT))
    clear hb B5 P5 Q5 S5
    go_wp2_with fail
    generalize w6.alloc (.cells #[.int .i64 2, .int .i32 q] kT) = v6 at *
    have p0 : v6.cell? ⟨w.heap.size, 0, none⟩ = some (.int .i64 t1) := P6.out.cell 0
    have p1 : v6.cell? ⟨w.heap.size, 1, none⟩ = some (.int .i32 n1) := P6.out.cell 1
    have q0 : v6.cell? ⟨w.heap.size + 1, 0, none⟩ = some (.int .i64 t1) := Q6.out.cell 0
    have q1 : v6.cell? ⟨w.heap.size + 1, 1, none⟩ = some (.int .i32 n2) := Q6.out.cell 1
    have s0 : v6.cell? ⟨sl, 2, none⟩ = some (.string ⟨#[62]⟩) := S6.out.cell 2
    rw [rounds_succ]
    go_wp2_with fail
    clear p0 p1 q0 q1 s0
    refine (C11.out _).mono ?_
    rintro e w7 ⟨rfl, hb⟩
    have B7 := Lib.hid ((B6.out.trans (hb.mono B6.out.size)).alloc (Nat.le_trans B6.out.size hb.size) (.cells #[.int .i64 2, .int .i32 g] kT))
    have P7 := Lib.hid ((P6.out.below hb P6.out.lt).alloc (.cells #[.int .i64 2, .int .i32 g] kT))
    have Q7 := Lib.hid ((Q6.out.below hb Q6.out.lt).alloc (.cells #[.int .i64 2, .int .i32 g] kT))
    have S7 := Lib.hid ((S6.out.below hb S6.out.lt).alloc (.cells #[.int .i64 2, .int .i32 g] kT))
    clear hb B6 P6 Q6 S6
    go_wp2_with fail
    generalize w7.alloc (.cells #[.int .i64 2, .int .i32 g] kT) = v7 at *
    have p0 : v7.cell? ⟨w.heap.size, 0, none⟩ = some (.int .i64 t1) := P7.out.cell 0
    have p1 : v7.cell? ⟨w.heap.size, 1, none⟩ = some (.int .i32 n1) := P7.out.cell 1
    have q0 : v7.cell? ⟨w.heap.size + 1, 0, none⟩ = some (.int .i64 t1) := Q7.out.cell 0
    have q1 : v7.cell? ⟨w.heap.size + 1, 1, none⟩ = some (.int .i32 n2) := Q7.out.cell 1
    rw [rounds_succ]
    go_wp2_with fail
    clear p0 p1 q0 q1
    refine (C10.out _).mono ?_
    rintro e w8 ⟨rfl, hb⟩
    have B8 := Lib.hid ((B7.out.trans (hb.mono B7.out.size)).alloc (Nat.le_trans B7.out.size hb.size) (.cells #[.int .i64 2, .int .i32 le] kT))
    have P8 := Lib.hid ((P7.out.below hb P7.out.lt).alloc (.cells #[.int .i64 2, .int .i32 le] kT))
    have Q8 := Lib.hid ((Q7.out.below hb Q7.out.lt).alloc (.cells #[.int .i64 2, .int .i32 le] kT))
    have R8 := Lib.hid (Whole.made w8 kT #[.int .i64 2, .int .i32 le] _ rfl)
    clear hb B7 P7 Q7 S7
    have p0 : (w8.alloc (.cells #[.int .i64 2, .int .i32 le] kT)).cell? ⟨w.heap.size, 0, none⟩ = some (.int .i64 t1) := P8.out.cell 0
    have p1 : (w8.alloc (.cells #[.int .i64 2, .int .i32 le] kT)).cell? ⟨w.heap.size, 1, none⟩ = some (.int .i32 n1) := P8.out.cell 1
    have q0 : (w8.alloc (.cells #[.int .i64 2, .int .i32 le] kT)).cell? ⟨w.heap.size + 1, 0, none⟩ = some (.int .i64 t1) := Q8.out.cell 0
    have q1 : (w8.alloc (.cells #[.int .i64 2, .int .i32 le] kT)).cell? ⟨w.heap.size + 1, 1, none⟩ = some (.int .i32 n2) := Q8.out.cell 1
    go_wp2_with fail
    clear p0 p1 q0 q1
    generalize w8.alloc (.cells #[.int .i64 2, .int .i32 le] kT) = v8 at *
    generalize w8.heap.size = gl at *
    refine (C11.out _).mono ?_
    rintro e w9 ⟨rfl, hb⟩
    have B9 := Lib.hid ((B8.out.trans (hb.mono B8.out.size)).alloc (Nat.le_trans B8.out.size hb.size) (.cells #[.int .i64 2, .int .i32 g] kT))
    have R9 := Lib.hid ((R8.out.below hb R8.out.lt).alloc (.cells #[.int .i64 2, .int .i32 g] kT))
    have r0 : (w9.alloc (.cells #[.int .i64 2, .int .i32 g] kT)).cell? ⟨gl, 1, none⟩ = some (.int .i32 le) := R9.out.cell 1
    clear hb B8 P8 Q8 R8
    have hs := HS.out
    have ht2 := HT.out
    go_wp2_with fail
    go_ret
    exact ⟨rfl, B9.out⟩
end Go.Proofs.Ytmgjnalijmplcaa
