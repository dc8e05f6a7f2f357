/- Konst: signs; the program's reckoned; the answers' Reckon and Compare. -/
import Derived.Test.YtmgjnalijmplcaaKonA
import Derived.Test.YtmgjnalijmplcaaWordA
namespace Go.Proofs.Ytmgjnalijmplcaa
open Go.ChangeShapes Go.WideShapes Go.ChangeAt Go.RowKit
set_option linter.unusedVariables false
set_option linter.unusedSimpArgs false

/-- Of two numbers by + - * DIV MOD; none: by 0. -/
def reckP (k : Nat) (a b : Int) : Option Int :=
  if k = 0 then some (wrap32 (a + b))
  else if k = 1 then some (wrap32 (a - b))
  else if k = 2 then some (wrap32 (a * b))
  else if b = 0 then none
  else if k = 3 then some (dv a b)
  else some (md a b)

def reckV (r : Option Int) : Value := .tuple #[.int .i32 (r.getD 0), .bool r.isSome]

theorem sum32_pair (a b : Int) : sum32 [a, b] = wrap32 (a + b) := by rw [sum32_two, Int.zero_add, wrap32_add]

theorem mul32_pair (a b : Int) : mul32 [a, b] = wrap32 (a * b) := by rw [mul32_two, Int.one_mul, wrap32_mul]

theorem reck_3z (a : Int) : reckP 3 a 0 = none := rfl

theorem reck_4z (a : Int) : reckP 4 a 0 = none := rfl

theorem reck_3 (a : Int) {b : Int} (h : b ≠ 0) : reckP 3 a b = some (dv a b) := by
  show (if b = 0 then none else some (dv a b)) = _
  rw [if_neg h]

theorem reck_4 (a : Int) {b : Int} (h : b ≠ 0) : reckP 4 a b = some (md a b) := by
  show (if b = 0 then none else some (md a b)) = _
  rw [if_neg h]

set_option maxHeartbeats 1000000 in
theorem reckoned_0 (a b : Int) (w : World) : Calls Try.prog 33 #[.string ⟨#[43]⟩, .int .i32 a, .int .i32 b] w fun e w' => e = .returned (reckV (reckP 0 a b)) ∧ Below w.heap.size w w' := by
  show Calls _ _ _ _ fun e w' => e = .returned (.tuple #[.int .i32 (wrap32 (a + b)), .bool true]) ∧ _
  rw [← sum32_pair]
  go_enter Try.func33, Try.ntmps33
  go_wp2_with (go_at_call 38; refine (sum_any _ 2 2 _ _ (by omega) (ints_two _ _ _ _)).mono ?_; rintro e w' ⟨rfl, rfl⟩)
  go_ret2
  exact ⟨rfl, (Below.refl _ _).alloc (Nat.le_refl _) _⟩

set_option maxHeartbeats 1000000 in
theorem reckoned_1 (a b : Int) (w : World) : Calls Try.prog 33 #[.string ⟨#[45]⟩, .int .i32 a, .int .i32 b] w fun e w' => e = .returned (reckV (reckP 1 a b)) ∧ Below w.heap.size w w' := by
  show Calls _ _ _ _ fun e w' => e = .returned (.tuple #[.int .i32 (wrap32 (a - b)), .bool true]) ∧ _
  go_enter Try.func33, Try.ntmps33
  go_wp2_with (go_at_call 26; refine (minus_any _ _ _).mono ?_; rintro e w' ⟨rfl, rfl⟩)
  go_ret2
  exact ⟨rfl, Below.refl _ _⟩

set_option maxHeartbeats 1000000 in
theorem reckoned_2 (a b : Int) (w : World) : Calls Try.prog 33 #[.string ⟨#[42]⟩, .int .i32 a, .int .i32 b] w fun e w' => e = .returned (reckV (reckP 2 a b)) ∧ Below w.heap.size w w' := by
  show Calls _ _ _ _ fun e w' => e = .returned (.tuple #[.int .i32 (wrap32 (a * b)), .bool true]) ∧ _
  rw [← mul32_pair]
  go_enter Try.func33, Try.ntmps33
  go_wp2_with (go_at_call 39; refine (times_any _ 2 2 _ _ (by omega) (ints_two _ _ _ _)).mono ?_; rintro e w' ⟨rfl, rfl⟩)
  go_ret2
  exact ⟨rfl, (Below.refl _ _).alloc (Nat.le_refl _) _⟩

set_option maxHeartbeats 1000000 in
theorem reckoned_3 (a b : Int) (w : World) (a0 : -2147483648 ≤ a) (a1 : a ≤ 2147483647) : Calls Try.prog 33 #[.string ⟨#[68, 73, 86]⟩, .int .i32 a, .int .i32 b] w fun e w' => e = .returned (reckV (reckP 3 a b)) ∧ Below w.heap.size w w' := by
  by_cases hb : b = 0
  · subst hb
    rw [reck_3z]
    have D := Lib.hid (fun y => div_zero a y)
    clear a0 a1
    go_enter Try.func33, Try.ntmps33
    go_wp2_with (go_at_call 40; refine (D.out _).mono ?_; rintro e w' ⟨rfl, rfl⟩)
    go_ret2
    exact ⟨rfl, Below.refl _ _⟩
  · rw [reck_3 a hb]
    have D := Lib.hid (fun y => div_any a b y a0 a1 hb)
    clear a0 a1 hb
    generalize dv a b = n at *
    go_enter Try.func33, Try.ntmps33
    go_wp2_with (go_at_call 40; refine (D.out _).mono ?_; rintro e w' ⟨rfl, rfl⟩)
    go_ret2
    exact ⟨rfl, Below.refl _ _⟩

set_option maxHeartbeats 1000000 in
theorem reckoned_4 (a b : Int) (w : World) (a0 : -2147483648 ≤ a) (a1 : a ≤ 2147483647) : Calls Try.prog 33 #[.string ⟨#[77, 79, 68]⟩, .int .i32 a, .int .i32 b] w fun e w' => e = .returned (reckV (reckP 4 a b)) ∧ Below w.heap.size w w' := by
  by_cases hb : b = 0
  · subst hb
    rw [reck_4z]
    have D := Lib.hid (fun y => mod_zero a y)
    clear a0 a1
    go_enter Try.func33, Try.ntmps33
    go_wp2_with (go_at_call 41; refine (D.out _).mono ?_; rintro e w' ⟨rfl, rfl⟩)
    go_ret2
    exact ⟨rfl, Below.refl _ _⟩
  · rw [reck_4 a hb]
    have D := Lib.hid (fun y => mod_any a b y a0 a1 hb)
    clear a0 a1 hb
    generalize md a b = n at *
    go_enter Try.func33, Try.ntmps33
    go_wp2_with fail
    refine (D.out _).mono ?_
    rintro e w1 ⟨rfl, hb1⟩
    have B := Lib.hid hb1
    clear hb1
    go_wp2_with fail
    go_ret2
    exact ⟨rfl, B.out⟩

set_option maxHeartbeats 1000000 in
theorem refreck_0 (a b : Int) (w : World) (a0 : -2147483648 ≤ a) (a1 : a ≤ 2147483647) (b0 : -2147483648 ≤ b) (b1 : b ≤ 2147483647) : Calls Try.prog 21 #[.string ⟨#[43]⟩, .int .i32 a, .int .i32 b] w fun e w' => e = .returned (reckV (reckP 0 a b)) ∧ w = w' := by
  show Calls _ _ _ _ fun e w' => e = .returned (.tuple #[.int .i32 (wrap32 (a + b)), .bool true]) ∧ _
  have R := Lib.hid (fun y => round_any (a + b) y)
  go_enter Try.func21, Try.ntmps21
  go_wp2_with (go_at_call 29; refine (R.out _).mono ?_; rintro e w' ⟨rfl, rfl⟩)
  go_ret2
  exact ⟨rfl, rfl⟩

set_option maxHeartbeats 1000000 in
theorem refreck_1 (a b : Int) (w : World) (a0 : -2147483648 ≤ a) (a1 : a ≤ 2147483647) (b0 : -2147483648 ≤ b) (b1 : b ≤ 2147483647) : Calls Try.prog 21 #[.string ⟨#[45]⟩, .int .i32 a, .int .i32 b] w fun e w' => e = .returned (reckV (reckP 1 a b)) ∧ w = w' := by
  show Calls _ _ _ _ fun e w' => e = .returned (.tuple #[.int .i32 (wrap32 (a - b)), .bool true]) ∧ _
  have R := Lib.hid (fun y => round_any (a - b) y)
  go_enter Try.func21, Try.ntmps21
  go_wp2_with (go_at_call 29; refine (R.out _).mono ?_; rintro e w' ⟨rfl, rfl⟩)
  go_ret2
  exact ⟨rfl, rfl⟩

set_option maxHeartbeats 1000000 in
theorem refreck_2 (a b : Int) (w : World) (a0 : -2147483648 ≤ a) (a1 : a ≤ 2147483647) (b0 : -2147483648 ≤ b) (b1 : b ≤ 2147483647) : Calls Try.prog 21 #[.string ⟨#[42]⟩, .int .i32 a, .int .i32 b] w fun e w' => e = .returned (reckV (reckP 2 a b)) ∧ w = w' := by
  show Calls _ _ _ _ fun e w' => e = .returned (.tuple #[.int .i32 (wrap32 (a * b)), .bool true]) ∧ _
  have R := Lib.hid (fun y => reftimes_any a b y a0 a1 b0 b1)
  clear a0 a1 b0 b1
  go_enter Try.func21, Try.ntmps21
  go_wp2_with (go_at_call 34; refine (R.out _).mono ?_; rintro e w' ⟨rfl, rfl⟩)
  go_ret2
  exact ⟨rfl, rfl⟩

set_option maxHeartbeats 1000000 in
theorem refreck_3 (a b : Int) (w : World) (a0 : -2147483648 ≤ a) (a1 : a ≤ 2147483647) (b0 : -2147483648 ≤ b) (b1 : b ≤ 2147483647) : Calls Try.prog 21 #[.string ⟨#[68, 73, 86]⟩, .int .i32 a, .int .i32 b] w fun e w' => e = .returned (reckV (reckP 3 a b)) ∧ w = w' := by
  by_cases hb : b = 0
  · subst hb
    rw [reck_3z]
    have D := Lib.hid (fun y => refdiv_zero a y)
    clear a0 a1 b0 b1
    go_enter Try.func21, Try.ntmps21
    go_wp2_with (go_at_call 35; refine (D.out _).mono ?_; rintro e w' ⟨rfl, rfl⟩)
    go_ret2
    exact ⟨rfl, rfl⟩
  · rw [reck_3 a hb]
    have D := Lib.hid (fun y => refdiv_any a b y a0 a1 b0 b1 hb)
    clear a0 a1 b0 b1 hb
    generalize dv a b = n at *
    go_enter Try.func21, Try.ntmps21
    go_wp2_with (go_at_call 35; refine (D.out _).mono ?_; rintro e w' ⟨rfl, rfl⟩)
    go_ret2
    exact ⟨rfl, rfl⟩

set_option maxHeartbeats 1000000 in
theorem refreck_4 (a b : Int) (w : World) (a0 : -2147483648 ≤ a) (a1 : a ≤ 2147483647) (b0 : -2147483648 ≤ b) (b1 : b ≤ 2147483647) : Calls Try.prog 21 #[.string ⟨#[77, 79, 68]⟩, .int .i32 a, .int .i32 b] w fun e w' => e = .returned (reckV (reckP 4 a b)) ∧ w = w' := by
  by_cases hb : b = 0
  · subst hb
    rw [reck_4z]
    have D := Lib.hid (fun y => refmod_zero a y)
    clear a0 a1 b0 b1
    go_enter Try.func21, Try.ntmps21
    go_wp2_with (go_at_call 36; refine (D.out _).mono ?_; rintro e w' ⟨rfl, rfl⟩)
    go_ret2
    exact ⟨rfl, rfl⟩
  · rw [reck_4 a hb]
    have D := Lib.hid (fun y => refmod_any a b y a0 a1 b0 b1 hb)
    clear a0 a1 b0 b1 hb
    generalize md a b = n at *
    go_enter Try.func21, Try.ntmps21
    go_wp2_with (go_at_call 36; refine (D.out _).mono ?_; rintro e w' ⟨rfl, rfl⟩)
    go_ret2
    exact ⟨rfl, rfl⟩

/-- Of two numbers by = # < <= > >= (7 .. 12). -/
def cmpP (k : Nat) (a b : Int) : Bool :=
  if k = 7 then a == b
  else if k = 8 then a != b
  else if k = 9 then decide (a < b)
  else if k = 10 then decide (a ≤ b)
  else if k = 11 then decide (b < a)
  else decide (b ≤ a)

set_option maxHeartbeats 1000000 in
theorem refcmp_7 (a b : Int) (w : World) : Calls Try.prog 23 #[.string ⟨#[61]⟩, .int .i32 a, .int .i32 b] w fun e w' => e = .returned (.bool (cmpP 7 a b)) ∧ w = w' := by
  show Calls _ _ _ _ fun e w' => e = .returned (.bool (a == b)) ∧ _
  go_enter Try.func23, Try.ntmps23
  go_wp2_with fail
  go_ret
  exact ⟨rfl, rfl⟩

set_option maxHeartbeats 1000000 in
theorem refcmp_8 (a b : Int) (w : World) : Calls Try.prog 23 #[.string ⟨#[35]⟩, .int .i32 a, .int .i32 b] w fun e w' => e = .returned (.bool (cmpP 8 a b)) ∧ w = w' := by
  show Calls _ _ _ _ fun e w' => e = .returned (.bool (a != b)) ∧ _
  go_enter Try.func23, Try.ntmps23
  go_wp2_with fail
  go_ret
  exact ⟨rfl, rfl⟩

set_option maxHeartbeats 1000000 in
theorem refcmp_9 (a b : Int) (w : World) : Calls Try.prog 23 #[.string ⟨#[60]⟩, .int .i32 a, .int .i32 b] w fun e w' => e = .returned (.bool (cmpP 9 a b)) ∧ w = w' := by
  show Calls _ _ _ _ fun e w' => e = .returned (.bool (decide (a < b))) ∧ _
  go_enter Try.func23, Try.ntmps23
  go_wp2_with fail
  go_ret
  exact ⟨rfl, rfl⟩

set_option maxHeartbeats 1000000 in
theorem refcmp_10 (a b : Int) (w : World) : Calls Try.prog 23 #[.string ⟨#[60, 61]⟩, .int .i32 a, .int .i32 b] w fun e w' => e = .returned (.bool (cmpP 10 a b)) ∧ w = w' := by
  show Calls _ _ _ _ fun e w' => e = .returned (.bool (decide (a ≤ b))) ∧ _
  go_enter Try.func23, Try.ntmps23
  go_wp2_with fail
  go_ret
  exact ⟨rfl, rfl⟩

set_option maxHeartbeats 1000000 in
theorem refcmp_11 (a b : Int) (w : World) : Calls Try.prog 23 #[.string ⟨#[62]⟩, .int .i32 a, .int .i32 b] w fun e w' => e = .returned (.bool (cmpP 11 a b)) ∧ w = w' := by
  show Calls _ _ _ _ fun e w' => e = .returned (.bool (decide (b < a))) ∧ _
  go_enter Try.func23, Try.ntmps23
  go_wp2_with fail
  go_ret
  exact ⟨rfl, rfl⟩

set_option maxHeartbeats 1000000 in
theorem refcmp_12 (a b : Int) (w : World) : Calls Try.prog 23 #[.string ⟨#[62, 61]⟩, .int .i32 a, .int .i32 b] w fun e w' => e = .returned (.bool (cmpP 12 a b)) ∧ w = w' := by
  show Calls _ _ _ _ fun e w' => e = .returned (.bool (decide (b ≤ a))) ∧ _
  go_enter Try.func23, Try.ntmps23
  go_wp2_with fail
  go_ret
  exact ⟨rfl, rfl⟩
end Go.Proofs.Ytmgjnalijmplcaa
