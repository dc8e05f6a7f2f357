/- Codec: a Reader's Byte and groups. -/
import Derived.Test.YtdakooipelligaaCdcE
namespace Go.Proofs.Ytdakooipelligaa
open Go.ChangeShapes Go.WideShapes Go.ChangeAt Go.RowKit
set_option linter.unusedVariables false
set_option linter.unusedSimpArgs false

abbrev u64T : TypeId := 91

theorem bs_nil_no (a : Addr) (n c : Nat) (W : World) : (binOp .eql bsT (.slice (some a) n c) (.slice none 0 0)).run Try.prog W = .ok (.bool false) W := by
  simp only [binOp]
  simp [run_equal_slice_nil W bsT u8T (some a) n c Try.underlying36]

theorem bs_nil_yes (W : World) : (binOp .eql bsT (.slice none 0 0) (.slice none 0 0)).run Try.prog W = .ok (.bool true) W := by
  simp only [binOp]
  simp [run_equal_slice_nil W bsT u8T none 0 0 Try.underlying36]

theorem bs_any_no (a : Addr) (n c : Nat) (W : World) : (binOp .neq bsT (.slice (some a) n c) (.slice none 0 0)).run Try.prog W = .ok (.bool true) W := by
  simp only [binOp]
  simp [run_equal_slice_nil W bsT u8T (some a) n c Try.underlying36]

theorem bs_any_yes (W : World) : (binOp .neq bsT (.slice none 0 0) (.slice none 0 0)).run Try.prog W = .ok (.bool false) W := by
  simp only [binOp]
  simp [run_equal_slice_nil W bsT u8T none 0 0 Try.underlying36]

theorem and127 (b : Int) (h0 : 0 ≤ b) (h1 : b ≤ 255) : bits .and .u8 b 127 = b % 128 := by
  have key : ∀ x : Fin 256, bits .and .u8 ((x.val : Nat) : Int) 127 = ((x.val : Nat) : Int) % 128 := of_decide_eq_true (by kernel_rfl)
  have h : bits .and .u8 ((b.toNat : Nat) : Int) 127 = ((b.toNat : Nat) : Int) % 128 := key ⟨b.toNat, by omega⟩
  rwa [Int.toNat_of_nonneg h0] at h

theorem pow7 (k : Nat) : (2 : Nat) ^ (7 * k) = 128 ^ k := by rw [Nat.pow_mul]

theorem shl7 (x : Int) (k : Nat) (h0 : 0 ≤ x) (h1 : x ≤ 127) (hk : k ≤ 8) (y : Int) (hy : y = x * (128 : Int) ^ k) : IntKind.u64.wrap (x * 2 ^ (7 * k)) = y := by
  subst hy
  have hp : (2 : Int) ^ (7 * k) = 128 ^ k := by rw [Int.pow_mul]; rfl
  have hle : (128 : Nat) ^ k ≤ 128 ^ 8 := Nat.pow_le_pow_right (by decide) hk
  have e : (128 : Int) ^ k = ((128 ^ k : Nat) : Int) := by simp
  rw [hp, e]
  obtain ⟨n, rfl⟩ := Int.eq_ofNat_of_zero_le h0
  have h2 : n * 128 ^ k ≤ 127 * 128 ^ 8 := Nat.mul_le_mul (by omega) hle
  have h3 : ((n : Int) * ((128 ^ k : Nat) : Int)) = ((n * 128 ^ k : Nat) : Int) := by simp
  rw [h3, IntKind.wrap_u64]
  omega

theorem or_low64 (acc : Nat) (x : Int) (k : Nat) (h0 : 0 ≤ x) (h1 : x ≤ 127) (hk : k ≤ 8) (ha : acc < 128 ^ k) (y : Int) (hy : y = x * (128 : Int) ^ k) : bits .or .u64 (acc : Int) y = ((acc + x.toNat * 128 ^ k : Nat) : Int) := by
  subst hy
  obtain ⟨n, rfl⟩ := Int.eq_ofNat_of_zero_le h0
  have hle : (128 : Nat) ^ k ≤ 128 ^ 8 := Nat.pow_le_pow_right (by decide) hk
  have h2 : n * 128 ^ k ≤ 127 * 128 ^ 8 := Nat.mul_le_mul (by omega) hle
  have e : ((n : Int) * (128 : Int) ^ k) = ((n * 128 ^ k : Nat) : Int) := by simp
  have hp : (2 : Int) ^ (7 * k) = ((128 ^ k : Nat) : Int) := by
    rw [Int.pow_mul]
    simp
  have hc : bits .or .u64 (acc : Int) ((n * 128 ^ k : Nat) : Int) = bits .or .u64 ((n * 128 ^ k : Nat) : Int) (acc : Int) := by simp only [bits, BitVec.or_comm]
  rw [e, hc, bits_join .u64 64 (by decide) (fun n h0 h1 => by rw [IntKind.wrap_u64]; omega) (7 * k) _ _ (by omega) (by rw [hp, ← Int.natCast_emod, Nat.mul_mod_left]; rfl) (by omega) (by omega) (by rw [hp]; exact_mod_cast ha) (by omega)]
  rw [Int.toNat_natCast]
  omega

/-- The groups read so far, and the others. -/
def liftG (acc k : Nat) : Except Int (Nat × List Int) → Except Int (Nat × List Int)
  | .error e => .error e
  | .ok p => .ok (acc + 128 ^ k * p.1, p.2)

theorem liftG_zero (x : Except Int (Nat × List Int)) : liftG 0 0 x = x := by
  cases x with
  | error e => rfl
  | ok p => simp [liftG]

/-- What groups answers: the number, what is left, the error. -/
def groupsP (zs : List Int) (err : Int) (most : Nat) : Nat × List Int × Int :=
  match takeG 0 zs with
  | .error e => (0, [], errP err e)
  | .ok p => if most < p.1 then (0, [], errP err 121) else (p.1, p.2, err)

theorem groupsP_bad {zs : List Int} {err : Int} {most : Nat} {e : Int} (h : takeG 0 zs = .error e) : groupsP zs err most = (0, [], errP err e) := by
  unfold groupsP
  rw [h]

theorem groupsP_big {zs : List Int} {err : Int} {most n : Nat} {r : List Int} (h : takeG 0 zs = .ok (n, r)) (hn : most < n) : groupsP zs err most = (0, [], errP err 121) := by
  unfold groupsP
  rw [h]
  exact if_pos hn

theorem groupsP_ok {zs : List Int} {err : Int} {most n : Nat} {r : List Int} (h : takeG 0 zs = .ok (n, r)) (hn : ¬ most < n) : groupsP zs err most = (n, r, err) := by
  unfold groupsP
  rw [h]
  exact if_neg hn

/-- How the groups go on. -/
def LinkG (zs : List Int) (acc k : Nat) (r : List Int) : Prop := takeG 0 zs = liftG acc k (takeG k r)

theorem LinkG.more {zs r : List Int} {acc k : Nat} {b : Int} (h : LinkG zs acc k (b :: r)) (hk : k < 9) (hb : 128 ≤ b) (hb1 : b ≤ 255) : LinkG zs (acc + (b % 128).toNat * 128 ^ k) (k + 1) r := by
  unfold LinkG at h ⊢
  rw [h, takeG_more (by omega) (by omega)]
  cases takeG (k + 1) r with
  | error e => rfl
  | ok p =>
    obtain ⟨n, r'⟩ := p
    show Except.ok (acc + 128 ^ k * (b.toNat % 128 + 128 * n), r') = Except.ok (acc + (b % 128).toNat * 128 ^ k + 128 ^ (k + 1) * n, r')
    rw [show (b % 128).toNat = b.toNat % 128 by omega, Nat.mul_add, Nat.pow_succ, Nat.mul_comm (b.toNat % 128), Nat.mul_assoc, Nat.add_assoc]

theorem acc_more {acc k : Nat} {b : Int} (h : acc < 128 ^ k) (h0 : 0 ≤ b) : acc + (b % 128).toNat * 128 ^ k < 128 ^ (k + 1) := by
  have h1 : (b % 128).toNat ≤ 127 := by omega
  have h2 := Nat.mul_le_mul_right (128 ^ k) h1
  rw [Nat.pow_succ]
  omega

theorem LinkG.last {zs r : List Int} {acc k : Nat} {b : Int} (h : LinkG zs acc k (b :: r)) (hk : k < 9) (h0 : 0 ≤ b) (hb : b < 128) (hz : ¬ (0 < k ∧ b = 0)) : takeG 0 zs = .ok (acc + (b % 128).toNat * 128 ^ k, r) := by
  unfold LinkG at h
  rw [h, takeG_last (by omega) hb]
  show Except.ok (acc + 128 ^ k * b.toNat, r) = _
  rw [show (b % 128).toNat = b.toNat by omega, Nat.mul_comm]

theorem LinkG.zero {zs r : List Int} {acc k : Nat} {b : Int} (h : LinkG zs acc k (b :: r)) (hz : k = 9 ∨ 0 < k ∧ b = 0) : takeG 0 zs = .error 121 := by
  unfold LinkG at h
  rw [h, takeG_bad hz]
  rfl

theorem LinkG.short {zs : List Int} {acc k : Nat} (h : LinkG zs acc k []) : takeG 0 zs = .error 120 := by
  unfold LinkG at h
  rw [h, takeG_nil]
  rfl
end Go.Proofs.Ytdakooipelligaa
