/- Plain mathematics of uint32's '|' and '&': what stands in bits apart is summed; a mask of the lowest bits is a rest. -/
import Derived.Test.YtcijjmmckofckaaDoorWordPlain
namespace Go.Proofs.YtcijjmmckofckaaDoor
set_option linter.unusedVariables false

theorem join32 (i : Nat) (y x : Int) (hi : i ≤ 32) (hy0 : 0 ≤ y) (hy : y % 2 ^ i = 0) (hy1 : y < 4294967296) (hx0 : 0 ≤ x) (hx : x < 2 ^ i) (hx1 : x < 4294967296) : bits .or .u32 y x = y + x :=
  bits_join .u32 32 (by decide) (fun n h0 h1 => by rw [IntKind.wrap_u32]; omega) i y x hy0 hy hy1 hx0 hx hx1

theorem and_mask (n : Int) (k : Nat) (hk : k < 32) : bits .and .u32 n (2 ^ k - 1) = n % 2 ^ k := by
  have hp : (2 : Nat) ^ k < 2 ^ 32 := Nat.pow_lt_pow_right (by decide) hk
  have hq : 1 ≤ (2 : Nat) ^ k := Nat.one_le_two_pow
  have hm : (BitVec.ofInt 32 ((2 : Int) ^ k - 1)).toNat = 2 ^ k - 1 := by
    rw [BitVec.toNat_ofInt, show ((2 : Int) ^ k - 1) = ((2 ^ k - 1 : Nat) : Int) by rw [Int.natCast_sub hq]; simp]
    omega
  have key : (BitVec.ofInt 32 n &&& BitVec.ofInt 32 ((2 : Int) ^ k - 1)).toNat = (n % ((2 ^ 32 : Nat) : Int)).toNat % 2 ^ k := by
    rw [BitVec.toNat_and, BitVec.toNat_ofInt, hm, Nat.and_two_pow_sub_one_eq_mod]
  show IntKind.u32.wrap ((BitVec.ofInt 32 n &&& BitVec.ofInt 32 ((2 : Int) ^ k - 1)).toNat : Nat) = n % 2 ^ k
  rw [key, IntKind.wrap_u32]
  have hd : ((2 : Int) ^ k) ∣ 4294967296 := by
    have : (2 : Int) ^ k ∣ 2 ^ 32 := ⟨2 ^ (32 - k), by rw [← Int.pow_add, Nat.add_sub_cancel' (by omega)]⟩
    exact this
  have h1 : n % (2 : Int) ^ k = (n % 4294967296) % 2 ^ k := (Int.emod_emod_of_dvd n hd).symm
  rw [h1]
  have h0 : 0 ≤ n % 4294967296 := Int.emod_nonneg _ (by decide)
  rw [Int.natCast_emod, show ((2 ^ 32 : Nat) : Int) = 4294967296 from rfl, Int.toNat_of_nonneg h0, show (((2 : Nat) ^ k : Nat) : Int) = (2 : Int) ^ k by simp]
  have h2 : 0 ≤ n % 4294967296 % (2 : Int) ^ k := Int.emod_nonneg _ (by omega)
  have h3 : n % 4294967296 % (2 : Int) ^ k < 2 ^ k := Int.emod_lt_of_pos _ (by omega)
  have h4 : (2 : Int) ^ k < 4294967296 := by
    have : ((2 ^ k : Nat) : Int) < ((2 ^ 32 : Nat) : Int) := by exact_mod_cast hp
    simpa using this
  rw [Int.emod_eq_of_lt h2 (by omega)]
theorem and_mask0 (n : Int) : bits .and .u32 n 0 = 0 := by
  have := and_mask n 0 (by decide)
  simpa using this
theorem and_mask16 (n : Int) : bits .and .u32 n 65535 = n % 65536 := and_mask n 16 (by decide)
theorem and_mask24 (n : Int) : bits .and .u32 n 16777215 = n % 16777216 := and_mask n 24 (by decide)
theorem and_mask4 (n : Int) : bits .and .u32 n 15 = n % 16 := and_mask n 4 (by decide)
theorem or_zero32 (y : Int) (h0 : 0 ≤ y) (h1 : y < 4294967296) : bits .or .u32 y 0 = y := by
  have := join32 0 y 0 (by decide) h0 (by simp) h1 (by decide) (by decide) (by decide)
  omega
end Go.Proofs.YtcijjmmckofckaaDoor
