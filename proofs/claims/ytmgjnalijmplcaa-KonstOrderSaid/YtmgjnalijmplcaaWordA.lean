/- Contracts of package word's and the answers' arithmetic: Round, Times, Div, Mod, Sum, Minus. By the seat's numbers. -/
import Derived.Test.YtmgjnalijmplcaaRows
import Derived.Test.YtmgjnalijmplcaaWordPlain
import Derived.Test.YtmgjnalijmplcaaLift
import Derived.OpenShut
import Derived.Handy
import Derived.Lib.Hide
namespace Go.Proofs.Ytmgjnalijmplcaa
open Go.ChangeShapes Go.WideShapes Go.ChangeAt Go.RowKit
set_option linter.unusedVariables false

theorem ret_i32 {a b : Int} (h : a = b) : Ending.returned (.int .i32 a) = .returned (.int .i32 b) := by rw [h]

theorem ret_i32b {a b : Int} {c : Bool} (h : a = b) : Ending.returned (.tuple #[.int .i32 a, .bool c]) = .returned (.tuple #[.int .i32 b, .bool c]) := by rw [h]

set_option maxHeartbeats 400000 in
theorem round_any (n : Int) (w : World) :
    Calls Try.prog 29 #[.int .i64 n] w fun e w' => e = .returned (.int .i32 (wrap32 n)) ∧ w = w' := by
  obtain ⟨hr, hl, hu⟩ := tmod_round n
  have H := Lib.hid hr; clear hr
  go_enter Try.func29, Try.ntmps29
  go_wp2
  all_goals
    go_ret
    refine ⟨ret_i32 ?_, rfl⟩
    have h := H.out
    unfold wrap32 at h ⊢
    try unfold wrap64
    omega

set_option maxHeartbeats 400000 in
theorem div_zero (a : Int) (w : World) :
    Calls Try.prog 40 #[.int .i32 a, .int .i32 0] w fun e w' => e = .returned (.tuple #[.int .i32 0, .bool false]) ∧ w = w' := by
  go_enter Try.func40, Try.ntmps40
  go_wp2
  go_ret2
  exact ⟨rfl, rfl⟩

set_option maxHeartbeats 800000 in
theorem div_any (a b : Int) (w : World) (ha0 : -2147483648 ≤ a) (ha1 : a ≤ 2147483647) (hb : b ≠ 0) :
    Calls Try.prog 40 #[.int .i32 a, .int .i32 b] w fun e w' => e = .returned (.tuple #[.int .i32 (dv a b), .bool true]) ∧ w = w' := by
  have hbb : ((b : Int) == 0) = false := beq_eq_false_iff_ne.2 hb
  have hbc : b < 0 ∨ 1 ≤ b := by omega
  by_cases ha : a < 0
  · by_cases h0 : a.tmod b = 0
    · have H := Lib.hid (show dv a b = wrap32 (a.tdiv b) by unfold dv; rw [fdiv_same hb (.inl h0)])
      have hbn : (a.tmod b != 0) = false := by simp [h0]
      clear h0
      go_enter Try.func40, Try.ntmps40
      go_wp2
      go_ret2
      exact ⟨ret_i32b H.out.symm, rfl⟩
    · have hbn : (a.tmod b != 0) = true := by simp [h0]
      rcases hbc with h2 | h2
      · have H := Lib.hid (show dv a b = wrap32 (a.tdiv b) by unfold dv; rw [fdiv_same hb (.inr ⟨fun _ => h2, fun _ => ha⟩)])
        clear h0
        go_enter Try.func40, Try.ntmps40
        go_wp2
        go_ret2
        exact ⟨ret_i32b H.out.symm, rfl⟩
      · have H := Lib.hid (show dv a b = wrap32 (wrap32 (a.tdiv b) - 1) by unfold dv; rw [fdiv_less hb h0 (by omega), wrap32_sub1])
        have hd : decide (b < 0) = false := by simp; omega
        clear h0
        go_enter Try.func40, Try.ntmps40
        go_wp2
        go_ret2
        exact ⟨ret_i32b H.out.symm, rfl⟩
  · have hm : a.tmod b = a % b := Int.tmod_eq_emod_of_nonneg (by omega)
    by_cases h0 : a % b = 0
    · have hbn : (a % b != 0) = false := by simp [h0]
      rcases hbc with h2 | h2
      · have H := Lib.hid (show dv a b = wrap32 (a.tdiv b) by unfold dv; rw [fdiv_same hb (.inl (by omega))])
        clear h0 hm
        go_enter Try.func40, Try.ntmps40
        go_wp2
        go_ret2
        exact ⟨ret_i32b H.out.symm, rfl⟩
      · have H := Lib.hid (show dv a b = a / b by unfold dv; rw [fdiv_same hb (.inl (by omega)), Int.tdiv_eq_ediv_of_nonneg (by omega)]; exact IntWalk.wrap32_in _ ⟨Int.le_trans (by decide) (Int.ediv_nonneg (by omega) (by omega)), Int.le_trans (Int.ediv_le_self _ (by omega)) ha1⟩)
        clear h0 hm
        go_enter Try.func40, Try.ntmps40
        go_wp2
        go_ret2
        exact ⟨ret_i32b H.out.symm, rfl⟩
    · have hbn : (a % b != 0) = true := by simp [h0]
      rcases hbc with h2 | h2
      · have H := Lib.hid (show dv a b = wrap32 (wrap32 (a.tdiv b) - 1) by unfold dv; rw [fdiv_less hb (by omega) (by omega), wrap32_sub1])
        clear h0 hm
        go_enter Try.func40, Try.ntmps40
        go_wp2
        go_ret2
        exact ⟨ret_i32b H.out.symm, rfl⟩
      · have H := Lib.hid (show dv a b = a / b by unfold dv; rw [fdiv_same hb (.inr (by omega)), Int.tdiv_eq_ediv_of_nonneg (by omega)]; exact IntWalk.wrap32_in _ ⟨Int.le_trans (by decide) (Int.ediv_nonneg (by omega) (by omega)), Int.le_trans (Int.ediv_le_self _ (by omega)) ha1⟩)
        clear h0 hm
        go_enter Try.func40, Try.ntmps40
        go_wp2
        go_ret2
        exact ⟨ret_i32b H.out.symm, rfl⟩

/-! ### What a list of 32-bit numbers that lies in memory adds up to -/
def sum32 (zs : List Int) : Int := zs.foldl (fun t n => wrap32 (t + n)) 0

def mul32 (zs : List Int) : Int := zs.foldl (fun t n => wrap32 (t * n)) 1

theorem sum32_step (zs : List Int) (k : Nat) (hk : k < zs.length) : sum32 (zs.take (k + 1)) = wrap32 (sum32 (zs.take k) + zs.getD k 0) := by
  unfold sum32
  rw [List.take_add_one, List.foldl_append]
  simp [List.getD, List.getElem?_eq_getElem hk]

theorem mul32_step (zs : List Int) (k : Nat) (hk : k < zs.length) : mul32 (zs.take (k + 1)) = wrap32 (mul32 (zs.take k) * zs.getD k 0) := by
  unfold mul32
  rw [List.take_add_one, List.foldl_append]
  simp [List.getD, List.getElem?_eq_getElem hk]

set_option maxHeartbeats 400000 in
theorem minus_any (a b : Int) (w : World) :
    Calls Try.prog 26 #[.int .i32 a, .int .i32 b] w fun e w' => e = .returned (.int .i32 (wrap32 (a - b))) ∧ w = w' := by
  go_enter Try.func26, Try.ntmps26
  go_wp2
  go_ret
  exact ⟨rfl, rfl⟩

set_option maxHeartbeats 400000 in
theorem sum_any (A : Option Addr) (n c : Nat) (zs : List Int) (w : World) (hn : n ≤ 4294967296) (h : Nums .i32 w A n zs) :
    Calls Try.prog 38 #[.slice A n c] w fun e w' => e = .returned (.int .i32 (sum32 zs)) ∧ w = w' := by
  obtain ⟨hl, hc⟩ := h
  rcases Nat.eq_zero_or_pos n with h0 | h0
  · subst h0
    have : zs = [] := List.eq_nil_of_length_eq_zero hl
    subst this
    clear hc hl hn
    go_enter Try.func38, Try.ntmps38
    go_wp2
    go_loop [3, 8] (fun t i => i = .int .i64 0 ∧ t = .int .i32 0) (fun _ _ => 0)
    case atStart => exact ⟨rfl, rfl⟩
    case round =>
      obtain ⟨rfl, rfl⟩ := hrel
      go_wp2
      go_ret
      exact ⟨rfl, rfl⟩
  · obtain ⟨b, off, rfl, hlt0, hcell⟩ := hc h0
    have HC := Lib.hid hcell
    have HL := Lib.hid hl
    clear hc hcell hl
    go_enter Try.func38, Try.ntmps38
    go_wp2
    go_loop [3, 8] (fun t i => ∃ k : Nat, k ≤ n ∧ i = .int .i64 k ∧ t = .int .i32 (sum32 (zs.take k))) (fun _ i => n - (intOf i).toNat)
    case atStart => exact ⟨0, Nat.zero_le _, rfl, rfl⟩
    case round =>
      obtain ⟨k, hk, rfl, rfl⟩ := hrel
      by_cases hlt : k < n
      · have hck := HC.out k hlt
        have hkl : k < zs.length := by have := HL.out; omega
        go_wp2
        go_round
        case rel => exact ⟨k + 1, by omega, by go_num, by rw [sum32_step zs k hkl]; simp [List.getD, hkl]⟩
        case measure => simp [intOf]; omega
      · go_wp2
        go_ret
        exact ⟨ret_i32 (by rw [List.take_of_length_le (by have := HL.out; omega)]), rfl⟩

set_option maxHeartbeats 400000 in
theorem times_any (A : Option Addr) (n c : Nat) (zs : List Int) (w : World) (hn : n ≤ 4294967296) (h : Nums .i32 w A n zs) :
    Calls Try.prog 39 #[.slice A n c] w fun e w' => e = .returned (.int .i32 (mul32 zs)) ∧ w = w' := by
  obtain ⟨hl, hc⟩ := h
  rcases Nat.eq_zero_or_pos n with h0 | h0
  · subst h0
    have : zs = [] := List.eq_nil_of_length_eq_zero hl
    subst this
    clear hc hl hn
    go_enter Try.func39, Try.ntmps39
    go_wp2
    go_loop [3, 8] (fun t i => i = .int .i64 0 ∧ t = .int .i32 1) (fun _ _ => 0)
    case atStart => exact ⟨rfl, rfl⟩
    case round =>
      obtain ⟨rfl, rfl⟩ := hrel
      go_wp2
      go_ret
      exact ⟨rfl, rfl⟩
  · obtain ⟨b, off, rfl, hlt0, hcell⟩ := hc h0
    have HC := Lib.hid hcell
    have HL := Lib.hid hl
    clear hc hcell hl
    go_enter Try.func39, Try.ntmps39
    go_wp2
    go_loop [3, 8] (fun t i => ∃ k : Nat, k ≤ n ∧ i = .int .i64 k ∧ t = .int .i32 (mul32 (zs.take k))) (fun _ i => n - (intOf i).toNat)
    case atStart => exact ⟨0, Nat.zero_le _, rfl, rfl⟩
    case round =>
      obtain ⟨k, hk, rfl, rfl⟩ := hrel
      by_cases hlt : k < n
      · have hck := HC.out k hlt
        have hkl : k < zs.length := by have := HL.out; omega
        go_wp2
        go_round
        case rel => exact ⟨k + 1, by omega, by go_num, by rw [mul32_step zs k hkl]; simp [List.getD, hkl]⟩
        case measure => simp [intOf]; omega
      · go_wp2
        go_ret
        exact ⟨ret_i32 (by rw [List.take_of_length_le (by have := HL.out; omega)]), rfl⟩

/-- The answers' product of two. -/
theorem mul_bound {a b : Int} (ha0 : -2147483648 ≤ a) (ha1 : a ≤ 2147483647) (hb0 : -2147483648 ≤ b) (hb1 : b ≤ 2147483647) : -4611686018427387904 ≤ a * b ∧ a * b ≤ 4611686018427387904 := by
  have h : (a * b).natAbs ≤ 2147483648 * 2147483648 := by
    rw [Int.natAbs_mul]
    exact Nat.mul_le_mul (by omega) (by omega)
  omega

set_option maxHeartbeats 400000 in
theorem reftimes_any (a b : Int) (w : World) (ha0 : -2147483648 ≤ a) (ha1 : a ≤ 2147483647) (hb0 : -2147483648 ≤ b) (hb1 : b ≤ 2147483647) :
    Calls Try.prog 34 #[.int .i32 a, .int .i32 b] w fun e w' => e = .returned (.int .i32 (wrap32 (a * b))) ∧ w = w' := by
  obtain ⟨m0, m1⟩ := mul_bound ha0 ha1 hb0 hb1
  go_enter Try.func34, Try.ntmps34
  go_wp2_with (go_at_call 29; refine (round_any _ _).mono ?_; rintro e w' ⟨rfl, rfl⟩)
  go_ret
  exact ⟨rfl, rfl⟩

set_option maxHeartbeats 400000 in
theorem mod_zero (a : Int) (w : World) :
    Calls Try.prog 41 #[.int .i32 a, .int .i32 0] w fun e w' => e = .returned (.tuple #[.int .i32 0, .bool false]) ∧ w = w' := by
  go_enter Try.func41, Try.ntmps41
  go_wp2_with (go_at_call 40; refine (div_zero _ _).mono ?_; rintro e w' ⟨rfl, rfl⟩)
  go_ret2
  exact ⟨rfl, rfl⟩

theorem mul32_two (a b : Int) : mul32 [a, b] = wrap32 (wrap32 (1 * a) * b) := rfl

theorem sum32_two (a b : Int) : sum32 [a, b] = wrap32 (wrap32 (0 + a) + b) := rfl

theorem ints_two (w : World) (x y : Int) (t : TypeId) : Nums .i32 (w.alloc (.cells #[.int .i32 x, .int .i32 y] t)) (some ⟨w.heap.size, 0, none⟩) 2 [x, y] :=
  ⟨rfl, fun _ => ⟨w.heap.size, 0, rfl, by simp, fun j hj => by
    have : j = 0 ∨ j = 1 := by omega
    rcases this with rfl | rfl <;> simp [go_sem]⟩⟩

theorem ints_two' (w : World) (x y : Int) (t : TypeId) (B : Nat) (hB : B = w.heap.size) : Nums .i32 (w.alloc (.cells #[.int .i32 x, .int .i32 y] t)) (some ⟨B, 0, none⟩) 2 [x, y] := by
  subst hB; exact ints_two w x y t

theorem wrap32_mod (n : Int) : ∃ k : Int, wrap32 n = n + 4294967296 * k := ⟨-((n + 2147483648) / 4294967296), by unfold wrap32; omega⟩

theorem wrap32_of_add (n k : Int) : wrap32 (n + 4294967296 * k) = wrap32 n := by unfold wrap32; omega

theorem wrap32_mul (x y : Int) : wrap32 (wrap32 x * y) = wrap32 (x * y) := by
  obtain ⟨k, hk⟩ := wrap32_mod x
  rw [hk, Int.add_mul, Int.mul_assoc, wrap32_of_add]

theorem wrap32_sub (x y : Int) : wrap32 (x - wrap32 y) = wrap32 (x - y) := by unfold wrap32; omega

theorem wrap32_add (x y : Int) : wrap32 (wrap32 x + y) = wrap32 (x + y) := by unfold wrap32; omega

theorem wrap32_add' (x y : Int) : wrap32 (x + wrap32 y) = wrap32 (x + y) := by unfold wrap32; omega

set_option maxHeartbeats 800000 in
theorem mod_any (a b : Int) (w : World) (ha0 : -2147483648 ≤ a) (ha1 : a ≤ 2147483647) (hb : b ≠ 0) :
    Calls Try.prog 41 #[.int .i32 a, .int .i32 b] w fun e w' => e = .returned (.tuple #[.int .i32 (md a b), .bool true]) ∧ Below w.heap.size w w' := by
  have hp : wrap32 (a - mul32 [b, dv a b]) = md a b := by
    unfold md
    rw [mul32_two, wrap32_mul, wrap32_sub, Int.one_mul, Int.mul_comm]
  have H := Lib.hid hp
  clear hp
  go_enter Try.func41, Try.ntmps41
  go_wp2_with (first
    | (go_at_call 40; refine (div_any _ _ _ ha0 ha1 hb).mono ?_; rintro e w' ⟨rfl, rfl⟩)
    | (go_at_call 39; refine (times_any _ 2 2 _ _ (by omega) (ints_two _ _ _ _)).mono ?_; rintro e w' ⟨rfl, rfl⟩)
    | (go_at_call 26; refine (minus_any _ _ _).mono ?_; rintro e w' ⟨rfl, rfl⟩))
  go_ret2
  exact ⟨ret_i32b H.out, (Below.refl _ _).alloc (Nat.le_refl _) _⟩

set_option maxHeartbeats 400000 in
theorem refdiv_zero (a : Int) (w : World) :
    Calls Try.prog 35 #[.int .i32 a, .int .i32 0] w fun e w' => e = .returned (.tuple #[.int .i32 0, .bool false]) ∧ w = w' := by
  go_enter Try.func35, Try.ntmps35
  go_wp2
  go_ret2
  exact ⟨rfl, rfl⟩

set_option maxHeartbeats 800000 in
theorem refdiv_any (a b : Int) (w : World) (ha0 : -2147483648 ≤ a) (ha1 : a ≤ 2147483647) (hb0 : -2147483648 ≤ b) (hb1 : b ≤ 2147483647) (hb : b ≠ 0) :
    Calls Try.prog 35 #[.int .i32 a, .int .i32 b] w fun e w' => e = .returned (.tuple #[.int .i32 (dv a b), .bool true]) ∧ w = w' := by
  have hbb : ((b : Int) == 0) = false := beq_eq_false_iff_ne.2 hb
  have hbc : b < 0 ∨ 1 ≤ b := by omega
  go_enter Try.func35, Try.ntmps35
  go_wp2_with fail
  all_goals
    refine (round_any _ _).mono ?_
    rintro e w' ⟨rfl, rfl⟩
    go_wp2
    go_ret2
    refine ⟨ret_i32b ?_, rfl⟩
    first
      | exact rd1 ha0 ha1 hb (by assumption)
      | exact rd2 ha0 ha1 hb (by assumption) (by simp_all)
      | exact rd3 ha0 ha1 hb (by assumption) (by assumption)

set_option maxHeartbeats 400000 in
theorem refmod_zero (a : Int) (w : World) :
    Calls Try.prog 36 #[.int .i32 a, .int .i32 0] w fun e w' => e = .returned (.tuple #[.int .i32 0, .bool false]) ∧ w = w' := by
  go_enter Try.func36, Try.ntmps36
  go_wp2_with (go_at_call 35; refine (refdiv_zero _ _).mono ?_; rintro e w' ⟨rfl, rfl⟩)
  go_ret2
  exact ⟨rfl, rfl⟩

set_option maxHeartbeats 800000 in
theorem refmod_any (a b : Int) (w : World) (ha0 : -2147483648 ≤ a) (ha1 : a ≤ 2147483647) (hb0 : -2147483648 ≤ b) (hb1 : b ≤ 2147483647) (hb : b ≠ 0) :
    Calls Try.prog 36 #[.int .i32 a, .int .i32 b] w fun e w' => e = .returned (.tuple #[.int .i32 (md a b), .bool true]) ∧ w = w' := by
  have g0 := dv_ge a b
  have g1 := dv_le a b
  obtain ⟨m0, m1⟩ := mul_bound g0 g1 hb0 hb1
  go_enter Try.func36, Try.ntmps36
  go_wp2_with (first
    | (go_at_call 35; refine (refdiv_any _ _ _ ha0 ha1 hb0 hb1 hb).mono ?_; rintro e w' ⟨rfl, rfl⟩)
    | (go_at_call 29; refine (round_any _ _).mono ?_; rintro e w' ⟨rfl, rfl⟩))
  go_ret2
  exact ⟨rfl, rfl⟩

/-- What is left is the rest of the quotient that is rounded down. -/
theorem md_fmod (a b : Int) (h0 : -2147483648 ≤ a) (h1 : a ≤ 2147483647) (hb0 : -2147483648 ≤ b) (hb1 : b ≤ 2147483647) (hb : b ≠ 0) : md a b = a.fmod b ∧ (0 < b → 0 ≤ a.fmod b ∧ a.fmod b < b) ∧ (b < 0 → b < a.fmod b ∧ a.fmod b ≤ 0) := by
  have he := Int.mul_fdiv_add_fmod a b
  have hp : 0 < b → 0 ≤ a.fmod b ∧ a.fmod b < b := fun h => ⟨Int.fmod_nonneg_of_pos a h, Int.fmod_lt_of_pos a h⟩
  have hn : b < 0 → b < a.fmod b ∧ a.fmod b ≤ 0 := fun h => by
    have e : a.fmod b = -((-a).fmod (-b)) := by rw [Int.neg_fmod_neg]; omega
    have h2 := Int.fmod_nonneg_of_pos (-a) (b := -b) (by omega)
    have h3 := Int.fmod_lt_of_pos (-a) (b := -b) (by omega)
    omega
  refine ⟨?_, hp, hn⟩
  unfold md dv
  rw [← wrap32_sub, wrap32_mul, wrap32_sub, Int.mul_comm, show a - b * a.fdiv b = a.fmod b by omega]
  refine IntWalk.wrap32_in _ ?_
  rcases Int.lt_trichotomy b 0 with h | h | h
  · have := hn h; omega
  · exact absurd h hb
  · have := hp h; omega

theorem back_again (a b : Int) (h0 : -2147483648 ≤ a) (h1 : a ≤ 2147483647) : sum32 [mul32 [dv a b, b], md a b] = a := by
  rw [sum32_two, mul32_two, wrap32_mul, Int.one_mul, Int.zero_add, wrap32_wrap32]
  unfold md
  rw [wrap32_add', wrap32_add, show dv a b * b + (a - dv a b * b) = a by omega]
  exact IntWalk.wrap32_in _ ⟨h0, h1⟩
end Go.Proofs.Ytmgjnalijmplcaa
