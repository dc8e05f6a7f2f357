/- Contracts of package word's and the answers' arithmetic: Round, Times, Div, Mod, Sum, Minus. By the seat's numbers. -/
import Derived.Test.YtcijjmmckofckaaDoorRows
import Derived.Test.YtcijjmmckofckaaDoorWordPlain
import Derived.Test.YtcijjmmckofckaaDoorLift
import Derived.OpenShut
import Derived.Handy
import Derived.Lib.Hide
namespace Go.Proofs.YtcijjmmckofckaaDoor
open Go.ChangeShapes Go.WideShapes Go.ChangeAt Go.RowKit
set_option linter.unusedVariables false

theorem ret_i32 {a b : Int} (h : a = b) : Ending.returned (.int .i32 a) = .returned (.int .i32 b) := by rw [h]

theorem ret_i32b {a b : Int} {c : Bool} (h : a = b) : Ending.returned (.tuple #[.int .i32 a, .bool c]) = .returned (.tuple #[.int .i32 b, .bool c]) := by rw [h]

set_option maxHeartbeats 400000 in
theorem round_any (n : Int) (w : World) :
    Calls Tryd.prog 62 #[.int .i64 n] w fun e w' => e = .returned (.int .i32 (wrap32 n)) ∧ w = w' := by
  obtain ⟨hr, hl, hu⟩ := tmod_round n
  have H := Lib.hid hr; clear hr
  go_enter Tryd.func62, Tryd.ntmps62
  go_wp2
  all_goals
    go_ret
    refine ⟨ret_i32 ?_, rfl⟩
    have h := H.out
    unfold wrap32 at h ⊢
    try unfold wrap64
    omega

/-! ### What a list of 32-bit numbers that lies in memory adds up to -/
def sum32 (zs : List Int) : Int := zs.foldl (fun t n => wrap32 (t + n)) 0

def mul32 (zs : List Int) : Int := zs.foldl (fun t n => wrap32 (t * n)) 1

theorem sum32_step (zs : List Int) (k : Nat) (hk : k < zs.length) : sum32 (zs.take (k + 1)) = wrap32 (sum32 (zs.take k) + zs.getD k 0) := by
  unfold sum32
  rw [List.take_add_one, List.foldl_append]
  simp [List.getD, List.getElem?_eq_getElem hk]

theorem mul32_step (zs : List Int) (k : Nat) (hk : k < zs.length) : mul32 (zs.take (k + 1)) = wrap32 (mul32 (zs.take k) * zs.getD k 0) := by
  unfold mul32
  rw [List.take_add_one, List.foldl_append]
  simp [List.getD, List.getElem?_eq_getElem hk]

/-- The answers' product of two. -/
theorem mul_bound {a b : Int} (ha0 : -2147483648 ≤ a) (ha1 : a ≤ 2147483647) (hb0 : -2147483648 ≤ b) (hb1 : b ≤ 2147483647) : -4611686018427387904 ≤ a * b ∧ a * b ≤ 4611686018427387904 := by
  have h : (a * b).natAbs ≤ 2147483648 * 2147483648 := by
    rw [Int.natAbs_mul]
    exact Nat.mul_le_mul (by omega) (by omega)
  omega

theorem mul32_two (a b : Int) : mul32 [a, b] = wrap32 (wrap32 (1 * a) * b) := rfl

theorem sum32_two (a b : Int) : sum32 [a, b] = wrap32 (wrap32 (0 + a) + b) := rfl

theorem ints_two (w : World) (x y : Int) (t : TypeId) : Nums .i32 (w.alloc (.cells #[.int .i32 x, .int .i32 y] t)) (some ⟨w.heap.size, 0, none⟩) 2 [x, y] :=
  ⟨rfl, fun _ => ⟨w.heap.size, 0, rfl, by simp, fun j hj => by
    have : j = 0 ∨ j = 1 := by omega
    rcases this with rfl | rfl <;> simp [go_sem]⟩⟩

theorem ints_two' (w : World) (x y : Int) (t : TypeId) (B : Nat) (hB : B = w.heap.size) : Nums .i32 (w.alloc (.cells #[.int .i32 x, .int .i32 y] t)) (some ⟨B, 0, none⟩) 2 [x, y] := by
  subst hB; exact ints_two w x y t

theorem wrap32_mod (n : Int) : ∃ k : Int, wrap32 n = n + 4294967296 * k := ⟨-((n + 2147483648) / 4294967296), by unfold wrap32; omega⟩

theorem wrap32_of_add (n k : Int) : wrap32 (n + 4294967296 * k) = wrap32 n := by unfold wrap32; omega

theorem wrap32_mul (x y : Int) : wrap32 (wrap32 x * y) = wrap32 (x * y) := by
  obtain ⟨k, hk⟩ := wrap32_mod x
  rw [hk, Int.add_mul, Int.mul_assoc, wrap32_of_add]

theorem wrap32_sub (x y : Int) : wrap32 (x - wrap32 y) = wrap32 (x - y) := by unfold wrap32; omega

theorem wrap32_add (x y : Int) : wrap32 (wrap32 x + y) = wrap32 (x + y) := by unfold wrap32; omega

theorem wrap32_add' (x y : Int) : wrap32 (x + wrap32 y) = wrap32 (x + y) := by unfold wrap32; omega

/-- What is left is the rest of the quotient that is rounded down. -/
theorem md_fmod (a b : Int) (h0 : -2147483648 ≤ a) (h1 : a ≤ 2147483647) (hb0 : -2147483648 ≤ b) (hb1 : b ≤ 2147483647) (hb : b ≠ 0) : md a b = a.fmod b ∧ (0 < b → 0 ≤ a.fmod b ∧ a.fmod b < b) ∧ (b < 0 → b < a.fmod b ∧ a.fmod b ≤ 0) := by
  have he := Int.mul_fdiv_add_fmod a b
  have hp : 0 < b → 0 ≤ a.fmod b ∧ a.fmod b < b := fun h => ⟨Int.fmod_nonneg_of_pos a h, Int.fmod_lt_of_pos a h⟩
  have hn : b < 0 → b < a.fmod b ∧ a.fmod b ≤ 0 := fun h => by
    have e : a.fmod b = -((-a).fmod (-b)) := by rw [Int.neg_fmod_neg]; omega
    have h2 := Int.fmod_nonneg_of_pos (-a) (b := -b) (by omega)
    have h3 := Int.fmod_lt_of_pos (-a) (b := -b) (by omega)
    omega
  refine ⟨?_, hp, hn⟩
  unfold md dv
  rw [← wrap32_sub, wrap32_mul, wrap32_sub, Int.mul_comm, show a - b * a.fdiv b = a.fmod b by omega]
  refine IntWalk.wrap32_in _ ?_
  rcases Int.lt_trichotomy b 0 with h | h | h
  · have := hn h; omega
  · exact absurd h hb
  · have := hp h; omega

theorem back_again (a b : Int) (h0 : -2147483648 ≤ a) (h1 : a ≤ 2147483647) : sum32 [mul32 [dv a b, b], md a b] = a := by
  rw [sum32_two, mul32_two, wrap32_mul, Int.one_mul, Int.zero_add, wrap32_wrap32]
  unfold md
  rw [wrap32_add', wrap32_add, show dv a b * b + (a - dv a b * b) = a by omega]
  exact IntWalk.wrap32_in _ ⟨h0, h1⟩
end Go.Proofs.YtcijjmmckofckaaDoor
