/- Konst: plain answers; the small functions: number, truth, typed, isChar, Right, ref. -/
import Derived.Test.YtmgjnalijmplcaaWordC
import Derived.Test.YtmgjnalijmplcaaBlocks
import Derived.Test.YtmgjnalijmplcaaLaid
import Derived.Deep.Light
namespace Go.Proofs.Ytmgjnalijmplcaa
open Go.ChangeShapes Go.WideShapes Go.ChangeAt Go.RowKit
set_option linter.unusedVariables false
set_option linter.unusedSimpArgs false

abbrev kT : TypeId := 23

abbrev rT : TypeId := 28

/-- A result: a value's type, its number, the error's number. -/
structure Kr where
  t : Int
  n : Int
  e : Int

def kR (r : Kr) : Value := .tuple #[.agg #[.int .i64 r.t, .int .i32 r.n], .int .i64 r.e]

/-- A truth value's number. -/
def trP (b : Bool) : Int := if b then 1 else 0

def typedP (b : Bool) (t n : Int) : Kr := if b then ⟨t, n, 0⟩ else ⟨0, 0, 91⟩

def charB (n : Int) : Bool := decide (0 ≤ n) && decide (n ≤ 255)

def rightB (t n : Int) : Bool := (t == 1) || ((t == 2) && ((n == 0) || (n == 1))) || ((t == 3) && charB n) || ((t == 4) && (n == 0))

theorem right_1 {t n : Int} (h : t = 1) : rightB t n = true := by subst h; rfl

theorem right_2 {t n : Int} (h : t = 2) : rightB t n = ((n == 0) || (n == 1)) := by
  subst h
  show (false || (true && ((n == 0) || (n == 1))) || (false && charB n) || (false && (n == 0))) = _
  simp

theorem right_3 {t n : Int} (h : t = 3) : rightB t n = charB n := by
  subst h
  show (false || (false && ((n == 0) || (n == 1))) || (true && charB n) || (false && (n == 0))) = _
  simp

theorem right_4 {t n : Int} (h : t = 4) : rightB t n = (n == 0) := by
  subst h
  show (false || (false && ((n == 0) || (n == 1))) || (false && charB n) || (true && (n == 0))) = _
  simp

theorem right_none {t n : Int} (h1 : (t == 1) = false) (h2 : (t == 2) = false) (h3 : (t == 3) = false) (h4 : (t == 4) = false) : rightB t n = false := by
  unfold rightB
  rw [h1, h2, h3, h4]
  rfl

theorem char_within (n : Int) : withinB n 8 = charB n := by
  rw [withinB_lo (by decide) (by decide), Bool.eq_iff_iff]
  unfold charB
  simp
  omega

set_option maxHeartbeats 1000000 in
theorem number_any (n : Int) (w : World) : Calls Try.prog 25 #[.int .i32 n] w fun e w' => e = .returned (.agg #[.int .i64 1, .int .i32 n]) ∧ Below w.heap.size w w' := by
  have Q := Whole.made w kT #[.int .i64 1, .int .i32 n] _ rfl
  have q0 := Q.cell 0
  have q1 := Q.cell 1
  have BA := Lib.hid ((Below.refl w.heap.size w).alloc (Nat.le_refl _) (.cells #[.int .i64 1, .int .i32 n] kT))
  have Z := Lib.hid (And.intro q0 q1)
  clear Q q0 q1
  go_enter Try.func25, Try.ntmps25
  go_wp2_with fail
  obtain ⟨q0, q1⟩ := Z.out
  refine bodyPost_ret (v := .agg #[.int .i64 1, .int .i32 n]) ?_ rfl ⟨rfl, BA.out⟩
  simp [results, Try.results25, go_sem, q0, q1]

set_option maxHeartbeats 1000000 in
theorem truth_any (b : Bool) (w : World) : Calls Try.prog 27 #[.bool b] w fun e w' => e = .returned (.agg #[.int .i64 2, .int .i32 (trP b)]) ∧ Below w.heap.size w w' := by
  obtain ⟨n, hn⟩ : ∃ n, n = trP b := ⟨_, rfl⟩
  have Q := Whole.made w kT #[.int .i64 2, .int .i32 n] _ rfl
  have q0 := Q.cell 0
  have q1 := Q.cell 1
  have BA := Lib.hid ((Below.refl w.heap.size w).alloc (Nat.le_refl _) (.cells #[.int .i64 2, .int .i32 n] kT))
  have Z := Lib.hid (And.intro q0 q1)
  clear Q q0 q1
  rw [← hn]
  cases b
  all_goals
    subst hn
    unfold trP at *
    go_enter Try.func27, Try.ntmps27
    go_wp2_with fail
    obtain ⟨q0, q1⟩ := Z.out
    refine bodyPost_ret (v := .agg #[.int .i64 2, .int .i32 _]) ?_ rfl ⟨rfl, BA.out⟩
    simp [results, Try.results27, go_sem, q0, q1]

set_option maxHeartbeats 1000000 in
theorem reftruth_any (b : Bool) (w : World) : Calls Try.prog 22 #[.bool b] w fun e w' => e = .returned (.agg #[.int .i64 2, .int .i32 (trP b)]) ∧ Below w.heap.size w w' := by
  obtain ⟨n, hn⟩ : ∃ n, n = trP b := ⟨_, rfl⟩
  have Q := Whole.made w rT #[.int .i64 2, .int .i32 n] _ rfl
  have q0 := Q.cell 0
  have q1 := Q.cell 1
  have BA := Lib.hid ((Below.refl w.heap.size w).alloc (Nat.le_refl _) (.cells #[.int .i64 2, .int .i32 n] rT))
  have Z := Lib.hid (And.intro q0 q1)
  clear Q q0 q1
  rw [← hn]
  cases b
  all_goals
    subst hn
    unfold trP at *
    go_enter Try.func22, Try.ntmps22
    go_wp2_with fail
    obtain ⟨q0, q1⟩ := Z.out
    refine bodyPost_ret (v := .agg #[.int .i64 2, .int .i32 _]) ?_ rfl ⟨rfl, BA.out⟩
    simp [results, Try.results22, go_sem, q0, q1]

set_option maxHeartbeats 1000000 in
theorem typed_any (b : Bool) (t n : Int) (w : World) : Calls Try.prog 24 #[.bool b, .agg #[.int .i64 t, .int .i32 n]] w fun e w' => e = .returned (kR (typedP b t n)) ∧ Below w.heap.size w w' := by
  have b0 := (Below.refl w.heap.size w).alloc (Nat.le_refl _) (.cells #[.int .i64 t, .int .i32 n] kT)
  have z0 : w.heap.size ≤ (w.alloc (.cells #[.int .i64 t, .int .i32 n] kT)).heap.size := b0.size
  cases b
  case false =>
    have Q := Whole.made (w.alloc (.cells #[.int .i64 t, .int .i32 n] kT)) kT #[.int .i64 0, .int .i32 0] _ rfl
    have q0 := Q.cell 0
    have q1 := Q.cell 1
    have BA := Lib.hid (b0.alloc z0 (.cells #[.int .i64 0, .int .i32 0] kT))
    have Z := Lib.hid (And.intro q0 q1)
    clear Q q0 q1 b0 z0
    go_enter Try.func24, Try.ntmps24
    go_wp2_with fail
    obtain ⟨q0, q1⟩ := Z.out
    refine bodyPost_ret (v := .tuple #[.agg #[.int .i64 0, .int .i32 0], .int .i64 91]) ?_ rfl ⟨rfl, BA.out⟩
    simp [results, Try.results24, go_sem, q0, q1]
  case true =>
    have Q := Whole.made (w.alloc (.cells #[.int .i64 t, .int .i32 n] kT)) kT #[.int .i64 t, .int .i32 n] _ rfl
    have q0 := Q.cell 0
    have q1 := Q.cell 1
    have BA := Lib.hid (b0.alloc z0 (.cells #[.int .i64 t, .int .i32 n] kT))
    have Z := Lib.hid (And.intro q0 q1)
    clear Q q0 q1 b0 z0
    go_enter Try.func24, Try.ntmps24
    go_wp2_with fail
    obtain ⟨q0, q1⟩ := Z.out
    refine bodyPost_ret (v := .tuple #[.agg #[.int .i64 t, .int .i32 n], .int .i64 0]) ?_ rfl ⟨rfl, BA.out⟩
    simp [results, Try.results24, go_sem, q0, q1]

set_option maxHeartbeats 1000000 in
theorem ischar_any (n : Int) (w : World) (n0 : -2147483648 ≤ n) (n1 : n ≤ 2147483647) : Calls Try.prog 28 #[.int .i32 n] w fun e w' => e = .returned (.bool (charB n)) ∧ w = w' := by
  have C := Lib.hid (within_any n 8 w (by omega) (by omega) (by decide) (by decide))
  rw [char_within] at C
  go_enter Try.func28, Try.ntmps28
  go_wp2_with fail
  refine C.out.mono ?_
  rintro e w' ⟨rfl, rfl⟩
  go_wp2_with fail
  go_ret
  exact ⟨rfl, rfl⟩

set_option maxHeartbeats 1000000 in
theorem ref_any (t n : Int) (w : World) : Calls Try.prog 11 #[.agg #[.int .i64 t, .int .i32 n]] w fun e w' => e = .returned (.agg #[.int .i64 t, .int .i32 n]) ∧ Below w.heap.size w w' := by
  have b0 := (Below.refl w.heap.size w).alloc (Nat.le_refl _) (.cells #[.int .i64 t, .int .i32 n] kT)
  have z0 : w.heap.size ≤ (w.alloc (.cells #[.int .i64 t, .int .i32 n] kT)).heap.size := b0.size
  have Q := Whole.made (w.alloc (.cells #[.int .i64 t, .int .i32 n] kT)) rT #[.int .i64 t, .int .i32 n] _ rfl
  have q0 := Q.cell 0
  have q1 := Q.cell 1
  have BA := Lib.hid (b0.alloc z0 (.cells #[.int .i64 t, .int .i32 n] rT))
  have Z := Lib.hid (And.intro q0 q1)
  clear Q q0 q1 b0 z0
  go_enter Try.func11, Try.ntmps11
  go_wp2_with fail
  obtain ⟨q0, q1⟩ := Z.out
  refine bodyPost_ret (v := .agg #[.int .i64 t, .int .i32 n]) ?_ rfl ⟨rfl, BA.out⟩
  simp [results, Try.results11, go_sem, q0, q1]

set_option maxHeartbeats 2000000 in
theorem right_any (t n : Int) (w : World) (n0 : -2147483648 ≤ n) (n1 : n ≤ 2147483647) : Calls Try.prog 14 #[.agg #[.int .i64 t, .int .i32 n]] w fun e w' => e = .returned (.bool (rightB t n)) ∧ Below w.heap.size w w' := by
  have BA := Lib.hid ((Below.refl w.heap.size w).alloc (Nat.le_refl _) (.cells #[.int .i64 t, .int .i32 n] kT))
  have CH := Lib.hid (fun w => ischar_any n w n0 n1)
  clear n0 n1
  cases h1 : (t == 1)
  case true =>
    rw [right_1 (by simpa using h1)]
    go_enter Try.func14, Try.ntmps14
    go_wp2_with fail
    go_ret
    exact ⟨rfl, BA.out⟩
  cases h2 : (t == 2)
  case true =>
    have R := Lib.hid (right_2 (n := n) (by simpa using h2))
    generalize rightB t n = r at *
    cases hn : (n == 0)
    all_goals
      rw [hn] at R
      go_enter Try.func14, Try.ntmps14
      go_wp2_with fail
      go_ret
      exact ⟨by rw [R.out]; rfl, BA.out⟩
  cases h3 : (t == 3)
  case true =>
    have R := Lib.hid (right_3 (n := n) (by simpa using h3))
    generalize rightB t n = r at *
    go_enter Try.func14, Try.ntmps14
    go_wp2_with fail
    refine (CH.out _).mono ?_
    rintro e w' ⟨rfl, rfl⟩
    go_wp2_with fail
    go_ret
    exact ⟨by rw [R.out]; rfl, BA.out⟩
  cases h4 : (t == 4)
  case true =>
    have R := Lib.hid (right_4 (n := n) (by simpa using h4))
    generalize rightB t n = r at *
    go_enter Try.func14, Try.ntmps14
    go_wp2_with fail
    go_ret
    exact ⟨by rw [R.out]; rfl, BA.out⟩
  rw [right_none h1 h2 h3 h4]
  go_enter Try.func14, Try.ntmps14
  go_wp2_with fail
  go_ret
  exact ⟨rfl, BA.out⟩

set_option maxHeartbeats 4000000 in
theorem refright_any (t n : Int) (w : World) (n0 : -2147483648 ≤ n) (n1 : n ≤ 2147483647) : Calls Try.prog 15 #[.agg #[.int .i64 t, .int .i32 n]] w fun e w' => e = .returned (.bool (rightB t n)) ∧ Below w.heap.size w w' := by
  have BA := Lib.hid ((Below.refl w.heap.size w).alloc (Nat.le_refl _) (.cells #[.int .i64 t, .int .i32 n] rT))
  cases h1 : (t == 1)
  case true =>
    rw [right_1 (by simpa using h1)]
    go_enter Try.func15, Try.ntmps15
    go_wp2_with fail
    go_ret
    exact ⟨rfl, BA.out⟩
  cases h2 : (t == 2)
  case true =>
    obtain rfl : t = 2 := by simpa using h2
    have R := Lib.hid (right_2 (t := 2) (n := n) rfl)
    generalize rightB 2 n = r at *
    cases hn : (n == 0)
    case true =>
      rw [hn] at R
      go_enter Try.func15, Try.ntmps15
      go_wp2_with fail
      go_ret
      exact ⟨by rw [R.out]; rfl, BA.out⟩
    cases hm : (n == 1)
    all_goals
      rw [hn, hm] at R
      go_enter Try.func15, Try.ntmps15
      go_wp2_with fail
      go_ret
      exact ⟨by rw [R.out]; rfl, BA.out⟩
  cases h3 : (t == 3)
  case true =>
    obtain rfl : t = 3 := by simpa using h3
    have R := Lib.hid (right_3 (t := 3) (n := n) rfl)
    generalize rightB 3 n = r at *
    unfold charB at R
    cases hn : decide (0 ≤ n)
    case false =>
      rw [hn] at R
      go_enter Try.func15, Try.ntmps15
      go_wp2_with fail
      go_ret
      exact ⟨by rw [R.out]; rfl, BA.out⟩
    cases hm : decide (n ≤ 255)
    all_goals
      rw [hn, hm] at R
      have hk : decide (n < 256) = decide (n ≤ 255) := by simp; omega
      rw [hm] at hk
      clear hm
      go_enter Try.func15, Try.ntmps15
      go_wp2_with fail
      go_ret
      exact ⟨by rw [R.out]; rfl, BA.out⟩
  cases h4 : (t == 4)
  case true =>
    obtain rfl : t = 4 := by simpa using h4
    have R := Lib.hid (right_4 (t := 4) (n := n) rfl)
    generalize rightB 4 n = r at *
    go_enter Try.func15, Try.ntmps15
    go_wp2_with fail
    go_ret
    exact ⟨by rw [R.out]; rfl, BA.out⟩
  rw [right_none h1 h2 h3 h4]
  go_enter Try.func15, Try.ntmps15
  go_wp2_with fail
  go_ret
  exact ⟨rfl, BA.out⟩
end Go.Proofs.Ytmgjnalijmplcaa
