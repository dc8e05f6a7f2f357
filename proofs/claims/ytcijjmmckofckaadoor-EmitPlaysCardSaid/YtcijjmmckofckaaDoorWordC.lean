/- Contracts of package word's and the answers' bits: Power, Sext, Fits, Within. -/
import Derived.Test.YtcijjmmckofckaaDoorWordA
namespace Go.Proofs.YtcijjmmckofckaaDoor
open Go.ChangeShapes Go.WideShapes Go.ChangeAt Go.RowKit
set_option linter.unusedVariables false

set_option maxHeartbeats 400000 in
theorem power_nat (n : Nat) (w : World) (hn : n ≤ 40) :
    Calls Tryd.prog 61 #[.int .i64 n] w fun e w' => e = .returned (.int .i64 (2 ^ n)) ∧ w = w' := by
  go_enter Tryd.func61, Tryd.ntmps61
  go_wp2
  go_loop [3, 4] (fun p i => ∃ k : Nat, k ≤ n ∧ i = .int .i64 k ∧ p = .int .i64 (2 ^ k)) (fun _ i => n - (intOf i).toNat)
  case atStart => exact ⟨0, Nat.zero_le _, rfl, rfl⟩
  case round =>
    obtain ⟨k, hk, rfl, rfl⟩ := hrel
    have hp := pow_le k (by omega)
    have hq := pow_pos k
    by_cases hlt : k < n
    · go_wp2
      go_round
      case rel => exact ⟨k + 1, by omega, by go_num, by rw [Int.pow_succ]⟩
      case measure => simp [intOf]; omega
    · go_wp2
      go_ret
      obtain rfl : k = n := by omega
      exact ⟨rfl, rfl⟩

theorem power_any (b : Int) (w : World) (h0 : 0 ≤ b) (h1 : b ≤ 40) :
    Calls Tryd.prog 61 #[.int .i64 b] w fun e w' => e = .returned (.int .i64 (2 ^ b.toNat)) ∧ w = w' := by
  obtain ⟨n, rfl⟩ := Int.eq_ofNat_of_zero_le h0
  rw [Int.toNat_natCast]
  exact power_nat n w (by omega)

/-- As many bits as count. -/
def upto (m : Nat) (bits : Int) : Nat := (min bits m).toNat

theorem upto_hi {m : Nat} {bits : Int} (h : (m : Int) < bits) : upto m bits = m := by unfold upto; omega

theorem upto_lo {m : Nat} {bits : Int} (h0 : 0 ≤ bits) (h : bits ≤ m) : upto m bits = bits.toNat := by unfold upto; omega

set_option maxHeartbeats 400000 in
theorem sext_low (n bits : Int) (w : World) (hk : bits < 1) :
    Calls Tryd.prog 75 #[.int .u32 n, .int .i64 bits] w fun e w' => e = .returned (.int .i32 0) ∧ w = w' := by
  go_enter Tryd.func75, Tryd.ntmps75
  go_wp2
  go_ret
  exact ⟨rfl, rfl⟩

set_option maxHeartbeats 400000 in
theorem sext_any (n bits : Int) (w : World) (h0 : 0 ≤ n) (h1 : n ≤ 4294967295) (hk : 1 ≤ bits) (hk2 : bits ≤ 9223372036854775807) :
    Calls Tryd.prog 75 #[.int .u32 n, .int .i64 bits] w fun e w' => e = .returned (.int .i32 (wrap32 (sxt n (upto 32 bits)))) ∧ w = w' := by
  by_cases hb : 32 < bits
  · have hs := sxt_shift n 32 h0 h1 (by omega) (by omega)
    rw [upto_hi hb, ← hs, show 32 - 32 = 0 from rfl]
    clear hs
    go_enter Tryd.func75, Tryd.ntmps75
    go_wp2
    go_ret
    exact ⟨ret_i32 (by simp [wrap32_wrap32]; unfold wrap32; omega), rfl⟩
  · have hs := sxt_shift n bits.toNat h0 h1 (by omega) (by omega)
    rw [upto_lo (by omega) (by omega)]
    have H := Lib.hid hs
    clear hs
    go_enter Tryd.func75, Tryd.ntmps75
    go_wp2
    go_ret
    refine ⟨ret_i32 ?_, rfl⟩
    rw [← H.out, show (32 - bits).toNat = 32 - bits.toNat by omega, wrap32_shr]

set_option maxHeartbeats 400000 in
theorem refsext_low (n bits : Int) (w : World) (hk : bits < 1) :
    Calls Tryd.prog 37 #[.int .u32 n, .int .i64 bits] w fun e w' => e = .returned (.int .i32 0) ∧ w = w' := by
  go_enter Tryd.func37, Tryd.ntmps37
  go_wp2_with fail
  go_ret
  exact ⟨rfl, rfl⟩

set_option maxHeartbeats 400000 in
theorem refsext_any (n bits : Int) (w : World) (h0 : 0 ≤ n) (h1 : n ≤ 4294967295) (hk : 1 ≤ bits) (hk2 : bits ≤ 9223372036854775807) :
    Calls Tryd.prog 37 #[.int .u32 n, .int .i64 bits] w fun e w' => e = .returned (.int .i32 (wrap32 (sxt n (upto 32 bits)))) ∧ w = w' := by
  by_cases hb : 32 < bits
  · rw [upto_hi hb]
    go_enter Tryd.func37, Tryd.ntmps37
    go_wp2_with fail
    refine (power_any _ _ (by omega) (by omega)).mono ?_
    rintro e w' ⟨rfl, rfl⟩
    go_wp2_with fail
    all_goals
      refine (round_any _ _).mono ?_
      rintro e w' ⟨rfl, rfl⟩
      go_wp2
      go_ret
      refine ⟨ret_i32 (congrArg wrap32 ?_), rfl⟩
      unfold sxt
      simp only [Int.reducePow]
      split <;> omega
  · rw [upto_lo (by omega) (by omega)]
    have hp := pow_pos bits.toNat
    have hq := pow_le bits.toNat (by omega)
    go_enter Tryd.func37, Tryd.ntmps37
    go_wp2_with fail
    refine (power_any _ _ (by omega) (by omega)).mono ?_
    rintro e w' ⟨rfl, rfl⟩
    go_wp2_with fail
    all_goals
      refine (round_any _ _).mono ?_
      rintro e w' ⟨rfl, rfl⟩
      go_wp2
      go_ret
      refine ⟨ret_i32 (congrArg wrap32 ?_), rfl⟩
      unfold sxt
      split <;> omega

set_option maxHeartbeats 400000 in
theorem fits_low (n bits : Int) (w : World) (hk : bits < 1) :
    Calls Tryd.prog 32 #[.int .i64 n, .int .i64 bits] w fun e w' => e = .returned (.bool false) ∧ w = w' := by
  go_enter Tryd.func32, Tryd.ntmps32
  go_wp2
  go_ret
  exact ⟨rfl, rfl⟩

theorem ret_bool {a b : Bool} (h : a = b) : Ending.returned (.bool a) = .returned (.bool b) := by rw [h]

/-- Whether n is a number of that many bits with a sign. -/
def fitB (n bits : Int) : Bool := decide (-2 ^ (upto 40 bits - 1) ≤ n) && decide (n < 2 ^ (upto 40 bits - 1))

theorem fitB_hi {n bits : Int} (h : 40 < bits) : fitB n bits = (decide (-549755813888 ≤ n) && decide (n < 549755813888)) := by unfold fitB; rw [upto_hi h]; rfl

theorem fitB_lo {n bits : Int} (h0 : 1 ≤ bits) (h : bits ≤ 40) : fitB n bits = (decide (-2 ^ (bits.toNat - 1) ≤ n) && decide (n < 2 ^ (bits.toNat - 1))) := by unfold fitB; rw [upto_lo (by omega) h]

/-- Whether n is a number of that many bits without a sign. -/
def withinB (n bits : Int) : Bool := decide (0 ≤ n) && decide (n < 2 ^ upto 40 bits)

theorem withinB_hi {n bits : Int} (h : 40 < bits) : withinB n bits = (decide (0 ≤ n) && decide (n < 1099511627776)) := by unfold withinB; rw [upto_hi h]; rfl

theorem withinB_lo {n bits : Int} (h0 : 0 ≤ bits) (h : bits ≤ 40) : withinB n bits = (decide (0 ≤ n) && decide (n < 2 ^ bits.toNat)) := by unfold withinB; rw [upto_lo (by omega) h]

set_option maxHeartbeats 400000 in
theorem fits_any (n bits : Int) (w : World) (h0 : -9223372036854775808 ≤ n) (h1 : n ≤ 9223372036854775807) (hk : 1 ≤ bits) (hk2 : bits ≤ 9223372036854775807) :
    Calls Tryd.prog 32 #[.int .i64 n, .int .i64 bits] w fun e w' => e = .returned (.bool (fitB n bits)) ∧ w = w' := by
  by_cases hb : 40 < bits
  · have H := Lib.hid (fitB_hi (n := n) hb)
    have e1 : wrap64 549755813888 = 549755813888 := by decide +kernel
    have e2 : wrap64 (-549755813888) = -549755813888 := by decide +kernel
    go_enter Tryd.func32, Tryd.ntmps32
    go_wp2
    all_goals
      go_ret
      refine ⟨ret_bool ?_, rfl⟩
      rw [H.out, Bool.eq_iff_iff]
      simp
      try omega
  · have H := Lib.hid (fitB_lo (n := n) (bits := bits) hk (by omega))
    have hp := pow_pos (bits.toNat - 1)
    have hq := pow_le (bits.toNat - 1) (by omega)
    have e1 : wrap64 (2 ^ (bits.toNat - 1)) = 2 ^ (bits.toNat - 1) := IntWalk.wrap64_in _ (by omega)
    have e2 : wrap64 (-2 ^ (bits.toNat - 1)) = -2 ^ (bits.toNat - 1) := IntWalk.wrap64_in _ (by omega)
    go_enter Tryd.func32, Tryd.ntmps32
    go_wp2
    all_goals
      go_ret
      refine ⟨ret_bool ?_, rfl⟩
      rw [H.out, Bool.eq_iff_iff]
      simp
      try omega

set_option maxHeartbeats 400000 in
theorem within_low (n bits : Int) (w : World) (hk : bits < 0) :
    Calls Tryd.prog 71 #[.int .i64 n, .int .i64 bits] w fun e w' => e = .returned (.bool false) ∧ w = w' := by
  go_enter Tryd.func71, Tryd.ntmps71
  go_wp2
  go_ret
  exact ⟨rfl, rfl⟩

set_option maxHeartbeats 400000 in
theorem within_any (n bits : Int) (w : World) (h0 : -9223372036854775808 ≤ n) (h1 : n ≤ 9223372036854775807) (hk : 0 ≤ bits) (hk2 : bits ≤ 9223372036854775807) :
    Calls Tryd.prog 71 #[.int .i64 n, .int .i64 bits] w fun e w' => e = .returned (.bool (withinB n bits)) ∧ w = w' := by
  by_cases hb : 40 < bits
  · have H := Lib.hid (withinB_hi (n := n) hb)
    have e1 : wrap64 1099511627776 = 1099511627776 := by decide +kernel
    go_enter Tryd.func71, Tryd.ntmps71
    go_wp2
    all_goals
      go_ret
      refine ⟨ret_bool ?_, rfl⟩
      rw [H.out, Bool.eq_iff_iff]
      simp
      try omega
  · have H := Lib.hid (withinB_lo (n := n) (bits := bits) hk (by omega))
    have hp := pow_pos bits.toNat
    have hq := pow_le bits.toNat (by omega)
    have e1 : wrap64 (2 ^ bits.toNat) = 2 ^ bits.toNat := IntWalk.wrap64_in _ (by omega)
    go_enter Tryd.func71, Tryd.ntmps71
    go_wp2
    all_goals
      go_ret
      refine ⟨ret_bool ?_, rfl⟩
      rw [H.out, Bool.eq_iff_iff]
      simp
      try omega

end Go.Proofs.YtcijjmmckofckaaDoor