/- Plain facts on integers: quotients rounded down, rests, what goes round at 32 bits. -/
import Derived.WalkKit
import Derived.ProofKit
namespace Go.Proofs.YtcijjmmckofckaaDoor
open Go.RowKit
set_option linter.unusedVariables false

theorem tmod_of_neg {n k : Int} (h : n ≤ 0) : n.tmod k = -((-n) % k) := by
  have e : n.tmod k = -((-n).tmod k) := by rw [Int.neg_tmod]; omega
  rw [e, Int.tmod_eq_emod_of_nonneg (by omega)]

theorem tdiv_of_neg {n k : Int} (h : n ≤ 0) : n.tdiv k = -((-n) / k) := by
  have e : n.tdiv k = -((-n).tdiv k) := by rw [Int.neg_tdiv]; omega
  rw [e, Int.tdiv_eq_ediv_of_nonneg (by omega)]

/-- The model's rounding at 32 bits, of the answers' 'Round'. -/
theorem tmod_round (n : Int) : (n.tmod 4294967296 < 0 ∧ wrap32 n = wrap32 (n.tmod 4294967296 + 4294967296) ∨ 0 ≤ n.tmod 4294967296 ∧ wrap32 n = wrap32 (n.tmod 4294967296)) ∧ -4294967296 < n.tmod 4294967296 ∧ n.tmod 4294967296 < 4294967296 := by
  rcases Int.le_total 0 n with h | h
  · rw [Int.tmod_eq_emod_of_nonneg h]; unfold wrap32; omega
  · rw [tmod_of_neg h]; unfold wrap32; omega

theorem fdiv_same {a b : Int} (hb : b ≠ 0) (h : a.tmod b = 0 ∨ (a < 0 ↔ b < 0)) : a.fdiv b = a.tdiv b := by
  rw [Int.fdiv_eq_tdiv]
  rcases h with h | h
  · rw [if_pos (Int.dvd_iff_tmod_eq_zero.2 h)]; omega
  · split
    · omega
    · split
      · rw [if_pos (by omega)]; omega
      · rw [if_neg (by omega), Int.sign_eq_neg_one_of_neg (by omega)]; omega

theorem fdiv_less {a b : Int} (hb : b ≠ 0) (h : a.tmod b ≠ 0) (hs : ¬ (a < 0 ↔ b < 0)) : a.fdiv b = a.tdiv b - 1 := by
  rw [Int.fdiv_eq_tdiv, if_neg (fun hd => h (Int.dvd_iff_tmod_eq_zero.1 hd))]
  split
  · rw [if_neg (by omega)]
  · rw [if_pos (by omega), Int.sign_eq_one_of_pos (by omega)]

theorem tdiv_bound {a b : Int} (h0 : -2147483648 ≤ a) (h1 : a ≤ 2147483647) : -2147483648 ≤ a.tdiv b ∧ a.tdiv b ≤ 2147483648 := by
  have h := Int.natAbs_tdiv_le_natAbs a b
  omega

theorem wrap32_wrap32 (n : Int) : wrap32 (wrap32 n) = wrap32 n := by unfold wrap32; omega

theorem wrap32_sub1 (n : Int) : wrap32 (wrap32 n - 1) = wrap32 (n - 1) := by unfold wrap32; omega

theorem wrap32_ge (n : Int) : -2147483648 ≤ wrap32 n := by unfold wrap32; omega

theorem wrap32_le (n : Int) : wrap32 n ≤ 2147483647 := by unfold wrap32; omega

/-- The quotient, rounded down, going round. -/
def dv (a b : Int) : Int := wrap32 (a.fdiv b)

/-- What it leaves. -/
def md (a b : Int) : Int := wrap32 (a - dv a b * b)

theorem dv_ge (a b : Int) : -2147483648 ≤ dv a b := wrap32_ge _

theorem dv_le (a b : Int) : dv a b ≤ 2147483647 := wrap32_le _

theorem md_ge (a b : Int) : -2147483648 ≤ md a b := wrap32_ge _

theorem md_le (a b : Int) : md a b ≤ 2147483647 := wrap32_le _

theorem tdiv64 {a b : Int} (h0 : -2147483648 ≤ a) (h1 : a ≤ 2147483647) : wrap64 (a.tdiv b) = a.tdiv b := by
  have := tdiv_bound (b := b) h0 h1
  exact IntWalk.wrap64_in _ (by omega)

theorem tmod_bound {a b : Int} (h0 : -2147483648 ≤ a) (h1 : a ≤ 2147483647) : -2147483648 ≤ a.tmod b ∧ a.tmod b ≤ 2147483648 := by
  have h := Int.natAbs_tmod a b
  have h2 := Nat.mod_le a.natAbs b.natAbs
  omega

/-- The number less the quotient times the divisor. -/
theorem tdiv_times {a b : Int} (h0 : -2147483648 ≤ a) (h1 : a ≤ 2147483647) : wrap64 (wrap64 (a.tdiv b) * b) = a - a.tmod b := by
  have hm := Int.mul_tdiv_add_tmod a b
  have hb := tmod_bound (b := b) h0 h1
  rw [tdiv64 h0 h1, show a.tdiv b * b = a - a.tmod b by rw [Int.mul_comm]; omega]
  exact IntWalk.wrap64_in _ (by omega)

theorem rd1 {a b : Int} (h0 : -2147483648 ≤ a) (h1 : a ≤ 2147483647) (hb : b ≠ 0) (h : wrap64 (wrap64 (a.tdiv b) * b) = a) : wrap32 (wrap64 (a.tdiv b)) = dv a b := by
  rw [tdiv_times h0 h1] at h
  unfold dv
  rw [tdiv64 h0 h1, fdiv_same hb (.inl (by omega))]

theorem rd2 {a b : Int} (h0 : -2147483648 ≤ a) (h1 : a ≤ 2147483647) (hb : b ≠ 0) (h : ¬ wrap64 (wrap64 (a.tdiv b) * b) = a) (hs : (!decide (a < 0) == decide (b < 0)) = true) :
    wrap32 (wrap64 (wrap64 (a.tdiv b) - 1)) = dv a b := by
  rw [tdiv_times h0 h1] at h
  have := tdiv_bound (b := b) h0 h1
  unfold dv
  have hs' : ¬ (a < 0 ↔ b < 0) := by
    intro he
    by_cases ha : a < 0
    · have := he.1 ha; simp [*] at hs
    · have hb' : ¬ b < 0 := fun hh => ha (he.2 hh)
      simp [*] at hs
  rw [tdiv64 h0 h1, IntWalk.wrap64_in _ (by omega), fdiv_less hb (by omega) hs']

theorem rd3 {a b : Int} (h0 : -2147483648 ≤ a) (h1 : a ≤ 2147483647) (hb : b ≠ 0) (h : ¬ wrap64 (wrap64 (a.tdiv b) * b) = a)
    (hs : (wrap64 (wrap64 (a.tdiv b) * b) != a) = false ∨ (!decide (a < 0) == decide (b < 0)) = false) : wrap32 (wrap64 (a.tdiv b)) = dv a b := by
  rcases hs with hs | hs
  · exact absurd (by simpa using hs) h
  · unfold dv
    have hs' : (a < 0 ↔ b < 0) := by
      by_cases ha : a < 0 <;> by_cases hb' : b < 0 <;> simp [ha, hb'] at hs ⊢
    rw [tdiv64 h0 h1, fdiv_same hb (.inr hs')]

/-! ### Hexadecimal digits -/
theorem and15_u32 (n : Int) : bits .and .u32 n 15 = n % 16 := by
  have h15 : (BitVec.ofInt 32 15).toNat = 2 ^ 4 - 1 := by decide
  have key : (BitVec.ofInt 32 n &&& BitVec.ofInt 32 15).toNat = (n % ((2 ^ 32 : Nat) : Int)).toNat % 2 ^ 4 := by
    rw [BitVec.toNat_and, BitVec.toNat_ofInt, h15, Nat.and_two_pow_sub_one_eq_mod]
  show IntKind.u32.wrap ((BitVec.ofInt 32 n &&& BitVec.ofInt 32 15).toNat : Nat) = n % 16
  rw [key, IntKind.wrap_u32]
  omega

def digits16 : ByteArray := ⟨#[48, 49, 50, 51, 52, 53, 54, 55, 56, 57, 97, 98, 99, 100, 101, 102]⟩

/-- The sign of a digit. -/
def hexdg (d : Int) : Int := if d < 10 then 48 + d else 87 + d

theorem hexdg_ge (d : Int) (h0 : 0 ≤ d) : 0 ≤ hexdg d := by unfold hexdg; split <;> omega

theorem hexdg_le (d : Int) (h1 : d < 16) : hexdg d ≤ 255 := by unfold hexdg; split <;> omega

theorem index_digit {P : Program} (t : TypeId) (k : IntKind) (h : P.underlying t = some .string) (m : Int) (h0 : 0 ≤ m) (h1 : m < 16) (w : World) :
    (Instr.index t (.string digits16) (.int k m)).run P w = .ok (.int .u8 (hexdg m)) w := by
  rw [run_index_string w t digits16 k m h, dif_pos ⟨h0, h1⟩]
  have : m = 0 ∨ m = 1 ∨ m = 2 ∨ m = 3 ∨ m = 4 ∨ m = 5 ∨ m = 6 ∨ m = 7 ∨ m = 8 ∨ m = 9 ∨ m = 10 ∨ m = 11 ∨ m = 12 ∨ m = 13 ∨ m = 14 ∨ m = 15 := by omega
  rcases this with rfl | rfl | rfl | rfl | rfl | rfl | rfl | rfl | rfl | rfl | rfl | rfl | rfl | rfl | rfl | rfl <;> rfl

/-! ### The lowest bits -/
theorem pow_le (k : Nat) (h : k ≤ 40) : (2 : Int) ^ k ≤ 1099511627776 := by
  have h2 : 2 ^ k ≤ 1099511627776 := Nat.le_trans (Nat.pow_le_pow_right (n := 2) (by decide) h) (by decide)
  have h3 : ((2 ^ k : Nat) : Int) ≤ 1099511627776 := by omega
  rwa [Int.natCast_pow] at h3

theorem pow_pos (k : Nat) : 1 ≤ (2 : Int) ^ k := by
  have h3 : 1 ≤ ((2 ^ k : Nat) : Int) := by have := Nat.two_pow_pos k; omega
  rwa [Int.natCast_pow] at h3

/-- The number that the lowest k bits are. -/
def sxt (n : Int) (k : Nat) : Int := if 2 ^ k / 2 ≤ n % 2 ^ k then n % 2 ^ k - 2 ^ k else n % 2 ^ k

theorem sxt_shift (n : Int) (k : Nat) (h0 : 0 ≤ n) (h1 : n ≤ 4294967295) (hk : 1 ≤ k) (hk2 : k ≤ 32) : wrap32 (n * 2 ^ (32 - k) % 4294967296) / 2 ^ (32 - k) = sxt n k := by
  have : k = 1 ∨ k = 2 ∨ k = 3 ∨ k = 4 ∨ k = 5 ∨ k = 6 ∨ k = 7 ∨ k = 8 ∨ k = 9 ∨ k = 10 ∨ k = 11 ∨ k = 12 ∨ k = 13 ∨ k = 14 ∨ k = 15 ∨ k = 16 ∨ k = 17 ∨ k = 18 ∨ k = 19 ∨ k = 20 ∨ k = 21 ∨ k = 22 ∨ k = 23 ∨ k = 24 ∨ k = 25 ∨ k = 26 ∨ k = 27 ∨ k = 28 ∨ k = 29 ∨ k = 30 ∨ k = 31 ∨ k = 32 := by omega
  rcases this with rfl | rfl | rfl | rfl | rfl | rfl | rfl | rfl | rfl | rfl | rfl | rfl | rfl | rfl | rfl | rfl | rfl | rfl | rfl | rfl | rfl | rfl | rfl | rfl | rfl | rfl | rfl | rfl | rfl | rfl | rfl | rfl <;> simp only [sxt, wrap32] <;> simp only [Nat.reduceSub, Int.reducePow] <;> split <;> omega

theorem sxt_bound (n : Int) (k : Nat) (hk2 : k ≤ 32) : -4294967296 ≤ sxt n k ∧ sxt n k ≤ 4294967296 := by
  have h1 := pow_pos k
  have h2 : (2 : Int) ^ k ≤ 4294967296 := by
    have h2 : 2 ^ k ≤ 4294967296 := Nat.le_trans (Nat.pow_le_pow_right (n := 2) (by decide) hk2) (by decide)
    have h3 : ((2 ^ k : Nat) : Int) ≤ 4294967296 := by omega
    rwa [Int.natCast_pow] at h3
  have h3 := Int.emod_nonneg n (b := 2 ^ k) (by omega)
  have h4 := Int.emod_lt_of_pos n (b := 2 ^ k) (by omega)
  unfold sxt
  split <;> omega

theorem wrap32_shr (x : Int) (u : Nat) : wrap32 (wrap32 x / 2 ^ u) = wrap32 x / 2 ^ u := by
  have hp := pow_pos u
  have h0 := wrap32_ge x
  have h1 := wrap32_le x
  refine IntWalk.wrap32_in _ ⟨Int.le_ediv_of_mul_le (by omega) (by omega), ?_⟩
  have := Int.ediv_lt_of_lt_mul (a := wrap32 x) (b := 2147483648) (c := 2 ^ u) (by omega) (by omega)
  omega
end Go.Proofs.YtcijjmmckofckaaDoor
