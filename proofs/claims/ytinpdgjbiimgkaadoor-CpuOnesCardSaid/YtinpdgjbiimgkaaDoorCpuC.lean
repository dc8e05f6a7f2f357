/- Package cpu and its answers: what operations make of two words. -/
import Derived.Test.YtinpdgjbiimgkaaDoorCpuA
import Derived.Test.YtinpdgjbiimgkaaDoorWordA
namespace Go.Proofs.YtinpdgjbiimgkaaDoor
open Go.ChangeShapes Go.WideShapes Go.ChangeAt Go.RowKit
set_option linter.unusedVariables false

/-- What an operation makes of two words. -/
def alu (op x y : Int) : Int :=
  if op = 6 ∨ op = 5 then w32 (x + y)
  else if op = 7 then w32 (x - y)
  else if op = 8 then w32 (x * y)
  else if op = 11 then bits .and .u32 x y
  else if op = 12 ∨ op = 4 then bits .or .u32 x y
  else if op = 13 ∨ op = 34 then bits .xor .u32 x y
  else if op = 14 then (if wrap32 x < wrap32 y then 1 else 0)
  else if op = 15 then (if wrap32 x ≤ wrap32 y then 1 else 0)
  else if op = 16 then (if x = y then 1 else 0)
  else if op = 17 then (if x = y then 0 else 1)
  else 0

theorem wrap32_inj {x y : Int} (hx : 0 ≤ x ∧ x ≤ 4294967295) (hy : 0 ≤ y ∧ y ≤ 4294967295) (h : wrap32 x = wrap32 y) : x = y := by
  unfold wrap32 at h
  omega

theorem wrap32_back {x : Int} (hx : 0 ≤ x ∧ x ≤ 4294967295) : wrap32 x % 4294967296 = x := by
  unfold wrap32
  omega

theorem wrap32_times (x y : Int) : wrap32 (wrap32 x * wrap32 y) % 4294967296 = x * y % 4294967296 := by
  obtain ⟨k, hk⟩ := wrap32_mod x
  obtain ⟨j, hj⟩ := wrap32_mod y
  rw [hk, hj, show (x + 4294967296 * k) * (y + 4294967296 * j) = x * y + 4294967296 * (x * j + k * y + 4294967296 * (k * j)) by grind, wrap32_of_add]
  unfold wrap32
  omega

/-- A truth as a number. -/
def tr (b : Bool) : Int := if b then 1 else 0

theorem truth_any (b : Bool) (w : World) :
    Calls Tryd.prog 73 #[.bool b] w fun e w' => e = .returned (.int .u32 (tr b)) ∧ w = w' := by
  cases b
  all_goals
    go_enter Tryd.func73, Tryd.ntmps73
    go_wp2_with fail
    go_ret
    exact ⟨rfl, rfl⟩

theorem refis_any (b : Bool) (w : World) :
    Calls Tryd.prog 69 #[.bool b] w fun e w' => e = .returned (.int .u32 (tr b)) ∧ w = w' := by
  cases b
  all_goals
    go_enter Tryd.func69, Tryd.ntmps69
    go_wp2_with fail
    go_ret
    exact ⟨rfl, rfl⟩

theorem compared_14 (x y : Int) (w : World) :
    Calls Tryd.prog 74 #[.int .i64 14, .int .i32 x, .int .i32 y] w fun e w' => e = .returned (.bool (decide (x < y))) ∧ w = w' := by
  go_enter Tryd.func74, Tryd.ntmps74
  go_wp2_with fail
  go_ret
  exact ⟨rfl, rfl⟩

theorem compared_15 (x y : Int) (w : World) :
    Calls Tryd.prog 74 #[.int .i64 15, .int .i32 x, .int .i32 y] w fun e w' => e = .returned (.bool (decide (x ≤ y))) ∧ w = w' := by
  go_enter Tryd.func74, Tryd.ntmps74
  go_wp2_with fail
  go_ret
  exact ⟨rfl, rfl⟩

theorem compared_16 (x y : Int) (w : World) :
    Calls Tryd.prog 74 #[.int .i64 16, .int .i32 x, .int .i32 y] w fun e w' => e = .returned (.bool (x == y)) ∧ w = w' := by
  go_enter Tryd.func74, Tryd.ntmps74
  go_wp2_with fail
  go_ret
  exact ⟨rfl, rfl⟩

theorem compared_17 (x y : Int) (w : World) :
    Calls Tryd.prog 74 #[.int .i64 17, .int .i32 x, .int .i32 y] w fun e w' => e = .returned (.bool (x != y)) ∧ w = w' := by
  go_enter Tryd.func74, Tryd.ntmps74
  go_wp2_with fail
  go_ret
  exact ⟨rfl, rfl⟩

set_option maxHeartbeats 2000000 in
theorem computed_4 (x y : Int) (w : World) (hx : 0 ≤ x ∧ x ≤ 4294967295) (hy : 0 ≤ y ∧ y ≤ 4294967295) :
    Calls Tryd.prog 52 #[.int .i64 4, .int .u32 x, .int .u32 y] w fun e w' => e = .returned (.int .u32 (alu 4 x y)) ∧ w = w' := by
  clear hx hy
  go_enter Tryd.func52, Tryd.ntmps52
  go_wp2_with fail
  go_ret
  exact ⟨rfl, rfl⟩

set_option maxHeartbeats 2000000 in
theorem computed_5 (x y : Int) (w : World) (hx : 0 ≤ x ∧ x ≤ 4294967295) (hy : 0 ≤ y ∧ y ≤ 4294967295) :
    Calls Tryd.prog 52 #[.int .i64 5, .int .u32 x, .int .u32 y] w fun e w' => e = .returned (.int .u32 (alu 5 x y)) ∧ w = w' := by
  clear hx hy
  go_enter Tryd.func52, Tryd.ntmps52
  go_wp2_with fail
  go_ret
  exact ⟨rfl, rfl⟩

set_option maxHeartbeats 2000000 in
theorem computed_6 (x y : Int) (w : World) (hx : 0 ≤ x ∧ x ≤ 4294967295) (hy : 0 ≤ y ∧ y ≤ 4294967295) :
    Calls Tryd.prog 52 #[.int .i64 6, .int .u32 x, .int .u32 y] w fun e w' => e = .returned (.int .u32 (alu 6 x y)) ∧ w = w' := by
  clear hx hy
  go_enter Tryd.func52, Tryd.ntmps52
  go_wp2_with fail
  go_ret
  exact ⟨rfl, rfl⟩

set_option maxHeartbeats 2000000 in
theorem computed_7 (x y : Int) (w : World) (hx : 0 ≤ x ∧ x ≤ 4294967295) (hy : 0 ≤ y ∧ y ≤ 4294967295) :
    Calls Tryd.prog 52 #[.int .i64 7, .int .u32 x, .int .u32 y] w fun e w' => e = .returned (.int .u32 (alu 7 x y)) ∧ w = w' := by
  clear hx hy
  go_enter Tryd.func52, Tryd.ntmps52
  go_wp2_with fail
  go_ret
  exact ⟨rfl, rfl⟩

set_option maxHeartbeats 2000000 in
theorem computed_8 (x y : Int) (w : World) (hx : 0 ≤ x ∧ x ≤ 4294967295) (hy : 0 ≤ y ∧ y ≤ 4294967295) :
    Calls Tryd.prog 52 #[.int .i64 8, .int .u32 x, .int .u32 y] w fun e w' => e = .returned (.int .u32 (alu 8 x y)) ∧ w = w' := by
  clear hx hy
  go_enter Tryd.func52, Tryd.ntmps52
  go_wp2_with fail
  go_ret
  exact ⟨rfl, rfl⟩

set_option maxHeartbeats 2000000 in
theorem computed_11 (x y : Int) (w : World) (hx : 0 ≤ x ∧ x ≤ 4294967295) (hy : 0 ≤ y ∧ y ≤ 4294967295) :
    Calls Tryd.prog 52 #[.int .i64 11, .int .u32 x, .int .u32 y] w fun e w' => e = .returned (.int .u32 (alu 11 x y)) ∧ w = w' := by
  clear hx hy
  go_enter Tryd.func52, Tryd.ntmps52
  go_wp2_with fail
  go_ret
  exact ⟨rfl, rfl⟩

set_option maxHeartbeats 2000000 in
theorem computed_12 (x y : Int) (w : World) (hx : 0 ≤ x ∧ x ≤ 4294967295) (hy : 0 ≤ y ∧ y ≤ 4294967295) :
    Calls Tryd.prog 52 #[.int .i64 12, .int .u32 x, .int .u32 y] w fun e w' => e = .returned (.int .u32 (alu 12 x y)) ∧ w = w' := by
  clear hx hy
  go_enter Tryd.func52, Tryd.ntmps52
  go_wp2_with fail
  go_ret
  exact ⟨rfl, rfl⟩

set_option maxHeartbeats 2000000 in
theorem computed_13 (x y : Int) (w : World) (hx : 0 ≤ x ∧ x ≤ 4294967295) (hy : 0 ≤ y ∧ y ≤ 4294967295) :
    Calls Tryd.prog 52 #[.int .i64 13, .int .u32 x, .int .u32 y] w fun e w' => e = .returned (.int .u32 (alu 13 x y)) ∧ w = w' := by
  clear hx hy
  go_enter Tryd.func52, Tryd.ntmps52
  go_wp2_with fail
  go_ret
  exact ⟨rfl, rfl⟩

set_option maxHeartbeats 2000000 in
theorem computed_34 (x y : Int) (w : World) (hx : 0 ≤ x ∧ x ≤ 4294967295) (hy : 0 ≤ y ∧ y ≤ 4294967295) :
    Calls Tryd.prog 52 #[.int .i64 34, .int .u32 x, .int .u32 y] w fun e w' => e = .returned (.int .u32 (alu 34 x y)) ∧ w = w' := by
  clear hx hy
  go_enter Tryd.func52, Tryd.ntmps52
  go_wp2_with fail
  go_ret
  exact ⟨rfl, rfl⟩

set_option maxHeartbeats 2000000 in
theorem computed_14 (x y : Int) (w : World) (hx : 0 ≤ x ∧ x ≤ 4294967295) (hy : 0 ≤ y ∧ y ≤ 4294967295) :
    Calls Tryd.prog 52 #[.int .i64 14, .int .u32 x, .int .u32 y] w fun e w' => e = .returned (.int .u32 (alu 14 x y)) ∧ w = w' := by
  have HX := Lib.hid hx
  have HY := Lib.hid hy
  clear hx hy
  go_enter Tryd.func52, Tryd.ntmps52
  go_wp2_with fail
  refine (compared_14 _ _ _).mono ?_
  rintro e w' ⟨rfl, rfl⟩
  go_wp2_with fail
  refine (truth_any _ _).mono ?_
  rintro e w' ⟨rfl, rfl⟩
  go_wp2_with fail
  go_ret
  exact ⟨congrArg (fun z => Ending.returned (.int .u32 z)) (show tr (decide (wrap32 x < wrap32 y)) = alu 14 x y by simp [alu, tr]), rfl⟩

set_option maxHeartbeats 2000000 in
theorem computed_15 (x y : Int) (w : World) (hx : 0 ≤ x ∧ x ≤ 4294967295) (hy : 0 ≤ y ∧ y ≤ 4294967295) :
    Calls Tryd.prog 52 #[.int .i64 15, .int .u32 x, .int .u32 y] w fun e w' => e = .returned (.int .u32 (alu 15 x y)) ∧ w = w' := by
  have HX := Lib.hid hx
  have HY := Lib.hid hy
  clear hx hy
  go_enter Tryd.func52, Tryd.ntmps52
  go_wp2_with fail
  refine (compared_15 _ _ _).mono ?_
  rintro e w' ⟨rfl, rfl⟩
  go_wp2_with fail
  refine (truth_any _ _).mono ?_
  rintro e w' ⟨rfl, rfl⟩
  go_wp2_with fail
  go_ret
  exact ⟨congrArg (fun z => Ending.returned (.int .u32 z)) (show tr (decide (wrap32 x ≤ wrap32 y)) = alu 15 x y by simp [alu, tr]), rfl⟩

set_option maxHeartbeats 2000000 in
theorem computed_16 (x y : Int) (w : World) (hx : 0 ≤ x ∧ x ≤ 4294967295) (hy : 0 ≤ y ∧ y ≤ 4294967295) :
    Calls Tryd.prog 52 #[.int .i64 16, .int .u32 x, .int .u32 y] w fun e w' => e = .returned (.int .u32 (alu 16 x y)) ∧ w = w' := by
  have HX := Lib.hid hx
  have HY := Lib.hid hy
  clear hx hy
  go_enter Tryd.func52, Tryd.ntmps52
  go_wp2_with fail
  refine (compared_16 _ _ _).mono ?_
  rintro e w' ⟨rfl, rfl⟩
  go_wp2_with fail
  refine (truth_any _ _).mono ?_
  rintro e w' ⟨rfl, rfl⟩
  go_wp2_with fail
  go_ret
  refine ⟨congrArg (fun z => Ending.returned (.int .u32 z)) (show tr (wrap32 x == wrap32 y) = alu 16 x y from ?_), rfl⟩
  by_cases h : x = y
  · simp [alu, tr, h]
  · have h2 : ¬ wrap32 x = wrap32 y := fun e => h (wrap32_inj HX.out HY.out e)
    simp [alu, tr, h, h2]

set_option maxHeartbeats 2000000 in
theorem computed_17 (x y : Int) (w : World) (hx : 0 ≤ x ∧ x ≤ 4294967295) (hy : 0 ≤ y ∧ y ≤ 4294967295) :
    Calls Tryd.prog 52 #[.int .i64 17, .int .u32 x, .int .u32 y] w fun e w' => e = .returned (.int .u32 (alu 17 x y)) ∧ w = w' := by
  have HX := Lib.hid hx
  have HY := Lib.hid hy
  clear hx hy
  go_enter Tryd.func52, Tryd.ntmps52
  go_wp2_with fail
  refine (compared_17 _ _ _).mono ?_
  rintro e w' ⟨rfl, rfl⟩
  go_wp2_with fail
  refine (truth_any _ _).mono ?_
  rintro e w' ⟨rfl, rfl⟩
  go_wp2_with fail
  go_ret
  refine ⟨congrArg (fun z => Ending.returned (.int .u32 z)) (show tr (wrap32 x != wrap32 y) = alu 17 x y from ?_), rfl⟩
  by_cases h : x = y
  · simp [alu, tr, h]
  · have h2 : ¬ wrap32 x = wrap32 y := fun e => h (wrap32_inj HX.out HY.out e)
    simp [alu, tr, h, h2]

set_option maxHeartbeats 2000000 in
theorem reckon_6 (x y : Int) (w : World) (hx : 0 ≤ x ∧ x ≤ 4294967295) (hy : 0 ≤ y ∧ y ≤ 4294967295) :
    Calls Tryd.prog 44 #[.int .i64 6, .int .u32 x, .int .u32 y] w fun e w' => e = .returned (.tuple #[.int .u32 (alu 6 x y), .bool true]) ∧ w = w' := by
  clear hx hy
  go_enter Tryd.func44, Tryd.ntmps44
  go_wp2_with fail
  go_ret2
  exact ⟨rfl, rfl⟩

set_option maxHeartbeats 2000000 in
theorem reckon_7 (x y : Int) (w : World) (hx : 0 ≤ x ∧ x ≤ 4294967295) (hy : 0 ≤ y ∧ y ≤ 4294967295) :
    Calls Tryd.prog 44 #[.int .i64 7, .int .u32 x, .int .u32 y] w fun e w' => e = .returned (.tuple #[.int .u32 (alu 7 x y), .bool true]) ∧ w = w' := by
  clear hx hy
  go_enter Tryd.func44, Tryd.ntmps44
  go_wp2_with fail
  go_ret2
  exact ⟨rfl, rfl⟩

set_option maxHeartbeats 2000000 in
theorem reckon_11 (x y : Int) (w : World) (hx : 0 ≤ x ∧ x ≤ 4294967295) (hy : 0 ≤ y ∧ y ≤ 4294967295) :
    Calls Tryd.prog 44 #[.int .i64 11, .int .u32 x, .int .u32 y] w fun e w' => e = .returned (.tuple #[.int .u32 (alu 11 x y), .bool true]) ∧ w = w' := by
  clear hx hy
  go_enter Tryd.func44, Tryd.ntmps44
  go_wp2_with fail
  go_ret2
  exact ⟨rfl, rfl⟩

set_option maxHeartbeats 2000000 in
theorem reckon_12 (x y : Int) (w : World) (hx : 0 ≤ x ∧ x ≤ 4294967295) (hy : 0 ≤ y ∧ y ≤ 4294967295) :
    Calls Tryd.prog 44 #[.int .i64 12, .int .u32 x, .int .u32 y] w fun e w' => e = .returned (.tuple #[.int .u32 (alu 12 x y), .bool true]) ∧ w = w' := by
  clear hx hy
  go_enter Tryd.func44, Tryd.ntmps44
  go_wp2_with fail
  go_ret2
  exact ⟨rfl, rfl⟩

set_option maxHeartbeats 2000000 in
theorem reckon_13 (x y : Int) (w : World) (hx : 0 ≤ x ∧ x ≤ 4294967295) (hy : 0 ≤ y ∧ y ≤ 4294967295) :
    Calls Tryd.prog 44 #[.int .i64 13, .int .u32 x, .int .u32 y] w fun e w' => e = .returned (.tuple #[.int .u32 (alu 13 x y), .bool true]) ∧ w = w' := by
  clear hx hy
  go_enter Tryd.func44, Tryd.ntmps44
  go_wp2_with fail
  go_ret2
  exact ⟨rfl, rfl⟩

set_option maxHeartbeats 2000000 in
theorem reckon_8 (x y : Int) (w : World) (hx : 0 ≤ x ∧ x ≤ 4294967295) (hy : 0 ≤ y ∧ y ≤ 4294967295) :
    Calls Tryd.prog 44 #[.int .i64 8, .int .u32 x, .int .u32 y] w fun e w' => e = .returned (.tuple #[.int .u32 (alu 8 x y), .bool true]) ∧ w = w' := by
  clear hx hy
  go_enter Tryd.func44, Tryd.ntmps44
  go_wp2_with fail
  refine (reftimes_any _ _ _ (wrap32_ge _) (wrap32_le _) (wrap32_ge _) (wrap32_le _)).mono ?_
  rintro e w' ⟨rfl, rfl⟩
  go_wp2_with fail
  go_ret2
  exact ⟨congrArg (fun z => Ending.returned (.tuple #[.int .u32 z, .bool true])) (wrap32_times x y), rfl⟩

set_option maxHeartbeats 2000000 in
theorem reckon_14 (x y : Int) (w : World) (hx : 0 ≤ x ∧ x ≤ 4294967295) (hy : 0 ≤ y ∧ y ≤ 4294967295) :
    Calls Tryd.prog 44 #[.int .i64 14, .int .u32 x, .int .u32 y] w fun e w' => e = .returned (.tuple #[.int .u32 (alu 14 x y), .bool true]) ∧ w = w' := by
  clear hx hy
  go_enter Tryd.func44, Tryd.ntmps44
  go_wp2_with fail
  refine (refis_any _ _).mono ?_
  rintro e w' ⟨rfl, rfl⟩
  go_wp2_with fail
  go_ret2
  exact ⟨congrArg (fun z => Ending.returned (.tuple #[.int .u32 z, .bool true])) (show tr (decide (wrap32 x < wrap32 y)) = alu 14 x y by simp [alu, tr]), rfl⟩

set_option maxHeartbeats 2000000 in
theorem reckon_15 (x y : Int) (w : World) (hx : 0 ≤ x ∧ x ≤ 4294967295) (hy : 0 ≤ y ∧ y ≤ 4294967295) :
    Calls Tryd.prog 44 #[.int .i64 15, .int .u32 x, .int .u32 y] w fun e w' => e = .returned (.tuple #[.int .u32 (alu 15 x y), .bool true]) ∧ w = w' := by
  clear hx hy
  go_enter Tryd.func44, Tryd.ntmps44
  go_wp2_with fail
  refine (refis_any _ _).mono ?_
  rintro e w' ⟨rfl, rfl⟩
  go_wp2_with fail
  go_ret2
  exact ⟨congrArg (fun z => Ending.returned (.tuple #[.int .u32 z, .bool true])) (show tr (decide (wrap32 x ≤ wrap32 y)) = alu 15 x y by simp [alu, tr]), rfl⟩

set_option maxHeartbeats 2000000 in
theorem reckon_16 (x y : Int) (w : World) (hx : 0 ≤ x ∧ x ≤ 4294967295) (hy : 0 ≤ y ∧ y ≤ 4294967295) :
    Calls Tryd.prog 44 #[.int .i64 16, .int .u32 x, .int .u32 y] w fun e w' => e = .returned (.tuple #[.int .u32 (alu 16 x y), .bool true]) ∧ w = w' := by
  clear hx hy
  go_enter Tryd.func44, Tryd.ntmps44
  go_wp2_with fail
  refine (refis_any _ _).mono ?_
  rintro e w' ⟨rfl, rfl⟩
  go_wp2_with fail
  go_ret2
  exact ⟨congrArg (fun z => Ending.returned (.tuple #[.int .u32 z, .bool true])) (show tr ((x == y)) = alu 16 x y by by_cases h : x = y <;> simp [alu, tr, h]), rfl⟩

set_option maxHeartbeats 2000000 in
theorem reckon_17 (x y : Int) (w : World) (hx : 0 ≤ x ∧ x ≤ 4294967295) (hy : 0 ≤ y ∧ y ≤ 4294967295) :
    Calls Tryd.prog 44 #[.int .i64 17, .int .u32 x, .int .u32 y] w fun e w' => e = .returned (.tuple #[.int .u32 (alu 17 x y), .bool true]) ∧ w = w' := by
  clear hx hy
  go_enter Tryd.func44, Tryd.ntmps44
  go_wp2_with fail
  refine (refis_any _ _).mono ?_
  rintro e w' ⟨rfl, rfl⟩
  go_wp2_with fail
  go_ret2
  exact ⟨congrArg (fun z => Ending.returned (.tuple #[.int .u32 z, .bool true])) (show tr ((x != y)) = alu 17 x y by by_cases h : x = y <;> simp [alu, tr, h]), rfl⟩

set_option maxHeartbeats 2000000 in
theorem reckon_9 (x y : Int) (w : World) (hx : 0 ≤ x ∧ x ≤ 4294967295) (hy : 0 ≤ y ∧ y ≤ 4294967295) (h0 : y ≠ 0) :
    Calls Tryd.prog 44 #[.int .i64 9, .int .u32 x, .int .u32 y] w fun e w' => e = .returned (.tuple #[.int .u32 (w32 (dv (wrap32 x) (wrap32 y))), .bool true]) ∧ w = w' := by
  have hne := Lib.hid (show wrap32 y ≠ 0 by unfold wrap32; omega)
  clear hx hy h0
  go_enter Tryd.func44, Tryd.ntmps44
  go_wp2_with fail
  refine (refdiv_any _ _ _ (wrap32_ge _) (wrap32_le _) (wrap32_ge _) (wrap32_le _) hne.out).mono ?_
  rintro e w' ⟨rfl, rfl⟩
  go_wp2_with fail
  go_ret2
  exact ⟨rfl, rfl⟩

set_option maxHeartbeats 2000000 in
theorem reckon_9_zero (x : Int) (w : World) :
    Calls Tryd.prog 44 #[.int .i64 9, .int .u32 x, .int .u32 0] w fun e w' => e = .returned (.tuple #[.int .u32 0, .bool false]) ∧ w = w' := by
  go_enter Tryd.func44, Tryd.ntmps44
  go_wp2_with fail
  refine (refdiv_zero _ _).mono ?_
  rintro e w' ⟨rfl, rfl⟩
  go_wp2_with fail
  go_ret2
  exact ⟨rfl, rfl⟩

set_option maxHeartbeats 2000000 in
theorem reckon_10 (x y : Int) (w : World) (hx : 0 ≤ x ∧ x ≤ 4294967295) (hy : 0 ≤ y ∧ y ≤ 4294967295) (h0 : y ≠ 0) :
    Calls Tryd.prog 44 #[.int .i64 10, .int .u32 x, .int .u32 y] w fun e w' => e = .returned (.tuple #[.int .u32 (w32 (md (wrap32 x) (wrap32 y))), .bool true]) ∧ w = w' := by
  have hne := Lib.hid (show wrap32 y ≠ 0 by unfold wrap32; omega)
  clear hx hy h0
  go_enter Tryd.func44, Tryd.ntmps44
  go_wp2_with fail
  refine (refmod_any _ _ _ (wrap32_ge _) (wrap32_le _) (wrap32_ge _) (wrap32_le _) hne.out).mono ?_
  rintro e w' ⟨rfl, rfl⟩
  go_wp2_with fail
  go_ret2
  exact ⟨rfl, rfl⟩

set_option maxHeartbeats 2000000 in
theorem reckon_10_zero (x : Int) (w : World) :
    Calls Tryd.prog 44 #[.int .i64 10, .int .u32 x, .int .u32 0] w fun e w' => e = .returned (.tuple #[.int .u32 0, .bool false]) ∧ w = w' := by
  go_enter Tryd.func44, Tryd.ntmps44
  go_wp2_with fail
  refine (refmod_zero _ _).mono ?_
  rintro e w' ⟨rfl, rfl⟩
  go_wp2_with fail
  go_ret2
  exact ⟨rfl, rfl⟩

end Go.Proofs.YtinpdgjbiimgkaaDoor
