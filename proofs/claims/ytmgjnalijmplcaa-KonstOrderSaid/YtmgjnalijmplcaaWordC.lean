/- Contracts of package word's and the answers' bits: Power, Sext, Fits, Within. -/
import Derived.Test.YtmgjnalijmplcaaWordA
namespace Go.Proofs.Ytmgjnalijmplcaa
open Go.ChangeShapes Go.WideShapes Go.ChangeAt Go.RowKit
set_option linter.unusedVariables false

/-- As many bits as count. -/
def upto (m : Nat) (bits : Int) : Nat := (min bits m).toNat

theorem upto_hi {m : Nat} {bits : Int} (h : (m : Int) < bits) : upto m bits = m := by unfold upto; omega

theorem upto_lo {m : Nat} {bits : Int} (h0 : 0 ≤ bits) (h : bits ≤ m) : upto m bits = bits.toNat := by unfold upto; omega

theorem ret_bool {a b : Bool} (h : a = b) : Ending.returned (.bool a) = .returned (.bool b) := by rw [h]

/-- Whether n is a number of that many bits with a sign. -/
def fitB (n bits : Int) : Bool := decide (-2 ^ (upto 40 bits - 1) ≤ n) && decide (n < 2 ^ (upto 40 bits - 1))

theorem fitB_hi {n bits : Int} (h : 40 < bits) : fitB n bits = (decide (-549755813888 ≤ n) && decide (n < 549755813888)) := by unfold fitB; rw [upto_hi h]; rfl

theorem fitB_lo {n bits : Int} (h0 : 1 ≤ bits) (h : bits ≤ 40) : fitB n bits = (decide (-2 ^ (bits.toNat - 1) ≤ n) && decide (n < 2 ^ (bits.toNat - 1))) := by unfold fitB; rw [upto_lo (by omega) h]

/-- Whether n is a number of that many bits without a sign. -/
def withinB (n bits : Int) : Bool := decide (0 ≤ n) && decide (n < 2 ^ upto 40 bits)

theorem withinB_hi {n bits : Int} (h : 40 < bits) : withinB n bits = (decide (0 ≤ n) && decide (n < 1099511627776)) := by unfold withinB; rw [upto_hi h]; rfl

theorem withinB_lo {n bits : Int} (h0 : 0 ≤ bits) (h : bits ≤ 40) : withinB n bits = (decide (0 ≤ n) && decide (n < 2 ^ bits.toNat)) := by unfold withinB; rw [upto_lo (by omega) h]

set_option maxHeartbeats 400000 in
theorem within_low (n bits : Int) (w : World) (hk : bits < 0) :
    Calls Try.prog 37 #[.int .i64 n, .int .i64 bits] w fun e w' => e = .returned (.bool false) ∧ w = w' := by
  go_enter Try.func37, Try.ntmps37
  go_wp2
  go_ret
  exact ⟨rfl, rfl⟩

set_option maxHeartbeats 400000 in
theorem within_any (n bits : Int) (w : World) (h0 : -9223372036854775808 ≤ n) (h1 : n ≤ 9223372036854775807) (hk : 0 ≤ bits) (hk2 : bits ≤ 9223372036854775807) :
    Calls Try.prog 37 #[.int .i64 n, .int .i64 bits] w fun e w' => e = .returned (.bool (withinB n bits)) ∧ w = w' := by
  by_cases hb : 40 < bits
  · have H := Lib.hid (withinB_hi (n := n) hb)
    have e1 : wrap64 1099511627776 = 1099511627776 := by decide +kernel
    go_enter Try.func37, Try.ntmps37
    go_wp2
    all_goals
      go_ret
      refine ⟨ret_bool ?_, rfl⟩
      rw [H.out, Bool.eq_iff_iff]
      simp
      try omega
  · have H := Lib.hid (withinB_lo (n := n) (bits := bits) hk (by omega))
    have hp := pow_pos bits.toNat
    have hq := pow_le bits.toNat (by omega)
    have e1 : wrap64 (2 ^ bits.toNat) = 2 ^ bits.toNat := IntWalk.wrap64_in _ (by omega)
    go_enter Try.func37, Try.ntmps37
    go_wp2
    all_goals
      go_ret
      refine ⟨ret_bool ?_, rfl⟩
      rw [H.out, Bool.eq_iff_iff]
      simp
      try omega

end Go.Proofs.Ytmgjnalijmplcaa