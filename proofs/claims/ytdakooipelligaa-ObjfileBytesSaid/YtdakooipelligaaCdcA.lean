/- Codec: a count's groups of seven bits, plainly: what is written, what is read, and that each leads to the other. -/
import Derived.ProofKit
namespace Go.Proofs.Ytdakooipelligaa
set_option linter.unusedVariables false
set_option linter.unusedSimpArgs false

/-- A count's bytes. -/
def cntB (n : Nat) : List Int := if h : n < 128 then [(n : Int)] else ((n % 128 + 128 : Nat) : Int) :: cntB (n / 128)
termination_by n
decreasing_by omega

theorem cntB_small {n : Nat} (h : n < 128) : cntB n = [(n : Int)] := by
  rw [cntB, dif_pos h]

theorem cntB_big {n : Nat} (h : 128 ≤ n) : cntB n = ((n % 128 + 128 : Nat) : Int) :: cntB (n / 128) := by
  rw [cntB, dif_neg (by omega)]

theorem cntB_bytes (n : Nat) : ∀ b ∈ cntB n, 0 ≤ b ∧ b ≤ 255 := by
  induction n using Nat.strongRecOn with
  | ind n ih =>
    intro b hb
    by_cases h : n < 128
    · rw [cntB_small h] at hb
      obtain rfl := List.mem_singleton.1 hb
      omega
    · rw [cntB_big (by omega)] at hb
      rcases List.mem_cons.1 hb with rfl | hb
      · omega
      · exact ih _ (by omega) b hb

/-- So many groups at most. -/
theorem cntB_len : ∀ (k n : Nat), n < 128 ^ (k + 1) → (cntB n).length ≤ k + 1
  | 0, n, h => by
    rw [cntB_small (by simpa using h)]
    exact Nat.le_refl _
  | k + 1, n, h => by
    by_cases hs : n < 128
    · rw [cntB_small hs]
      show 1 ≤ _
      omega
    · rw [cntB_big (by omega), List.length_cons]
      have : n / 128 < 128 ^ (k + 1) := by
        rw [Nat.div_lt_iff_lt_mul (by decide)]
        rw [Nat.pow_succ] at h
        exact h
      have := cntB_len k (n / 128) this
      omega

theorem cntB_pos (n : Nat) : 0 < (cntB n).length := by
  by_cases h : n < 128
  · rw [cntB_small h]
    exact Nat.one_pos
  · rw [cntB_big (by omega)]
    exact Nat.succ_pos _

/-- A count's groups read, from the k-th on: an error, or the number and what is left. -/
def takeG : Nat → List Int → Except Int (Nat × List Int)
  | _, [] => .error 120
  | k, b :: r =>
    if k = 9 ∨ (0 < k ∧ b = 0) then .error 121
    else if b < 128 then .ok (b.toNat, r)
    else match takeG (k + 1) r with
      | .error e => .error e
      | .ok (n, r') => .ok (b.toNat % 128 + 128 * n, r')

theorem takeG_nil (k : Nat) : takeG k [] = .error 120 := by
  unfold takeG
  rfl

theorem takeG_bad {k : Nat} {b : Int} {r : List Int} (h : k = 9 ∨ (0 < k ∧ b = 0)) : takeG k (b :: r) = .error 121 := by
  rw [takeG, if_pos h]

theorem takeG_last {k : Nat} {b : Int} {r : List Int} (h : ¬ (k = 9 ∨ (0 < k ∧ b = 0))) (hb : b < 128) : takeG k (b :: r) = .ok (b.toNat, r) := by
  rw [takeG, if_neg h, if_pos hb]

theorem takeG_more {k : Nat} {b : Int} {r : List Int} (h : ¬ (k = 9 ∨ (0 < k ∧ b = 0))) (hb : ¬ b < 128) : takeG k (b :: r) = (match takeG (k + 1) r with | .error e => .error e | .ok (n, r') => .ok (b.toNat % 128 + 128 * n, r')) := by
  rw [takeG, if_neg h, if_neg hb]

/-- What is written is read. -/
theorem takeG_back : ∀ (m k n : Nat) (r : List Int), k + m = 9 → 0 < m → n < 128 ^ m → (k = 0 ∨ 0 < n) → takeG k (cntB n ++ r) = .ok (n, r)
  | 0, _, _, _, _, h, _, _ => absurd h (by decide)
  | m + 1, k, n, r, hk, _, hn, h0 => by
    by_cases hs : n < 128
    · rw [cntB_small hs]
      show takeG k ((n : Int) :: r) = _
      rw [takeG_last (by omega) (by omega)]
      rfl
    · have hm : 0 < m := by
        rcases Nat.eq_zero_or_pos m with rfl | h
        · simp at hn
          omega
        · exact h
      rw [cntB_big (by omega)]
      show takeG k (((n % 128 + 128 : Nat) : Int) :: (cntB (n / 128) ++ r)) = _
      have hd : n / 128 < 128 ^ m := by
        rw [Nat.div_lt_iff_lt_mul (by decide)]
        rw [Nat.pow_succ] at hn
        exact hn
      rw [takeG_more (by omega) (by omega), takeG_back m (k + 1) (n / 128) r (by omega) hm hd (.inr (by omega))]
      show Except.ok (((n % 128 + 128 : Nat) : Int).toNat % 128 + 128 * (n / 128), r) = _
      have : ((n % 128 + 128 : Nat) : Int).toNat % 128 + 128 * (n / 128) = n := by omega
      rw [this]

/-- What is read was written so. -/
theorem takeG_once : ∀ (bs : List Int) (k n : Nat) (r : List Int), k ≤ 9 → (∀ b ∈ bs, 0 ≤ b ∧ b ≤ 255) → takeG k bs = .ok (n, r) → bs = cntB n ++ r ∧ n < 128 ^ (9 - k) ∧ (k = 0 ∨ 0 < n)
  | [], k, n, r, _, _, h => by
    rw [takeG_nil] at h
    cases h
  | b :: bs, k, n, r, hk, hb, h => by
    have hb0 := hb b List.mem_cons_self
    by_cases hbad : k = 9 ∨ (0 < k ∧ b = 0)
    · rw [takeG_bad hbad] at h
      cases h
    · have hk8 : k ≤ 8 := by omega
      obtain ⟨m, hm⟩ : ∃ m, 9 - k = m + 1 := ⟨8 - k, by omega⟩
      by_cases hl : b < 128
      · rw [takeG_last hbad hl] at h
        injection h with h
        injection h with h1 h2
        subst h1 h2
        refine ⟨?_, ?_, by omega⟩
        · rw [cntB_small (by omega)]
          show b :: bs = ((b.toNat : Nat) : Int) :: bs
          rw [Int.toNat_of_nonneg hb0.1]
        · rw [hm, Nat.pow_succ]
          have := Nat.one_le_pow m 128 (by decide)
          omega
      · rw [takeG_more hbad hl] at h
        cases ht : takeG (k + 1) bs with
        | error e =>
          rw [ht] at h
          cases h
        | ok p =>
          obtain ⟨n', r'⟩ := p
          rw [ht] at h
          injection h with h
          injection h with h1 h2
          subst h1 h2
          obtain ⟨e1, e2, e3⟩ := takeG_once bs (k + 1) n' r' (by omega) (fun x hx => hb x (List.mem_cons_of_mem _ hx)) ht
          have hn' : 0 < n' := by omega
          have e4 : 9 - (k + 1) = m := by omega
          rw [e4] at e2
          refine ⟨?_, ?_, .inr (by omega)⟩
          · rw [cntB_big (by omega), show (b.toNat % 128 + 128 * n') / 128 = n' by omega, show (b.toNat % 128 + 128 * n') % 128 + 128 = b.toNat by omega, Int.toNat_of_nonneg hb0.1, List.cons_append, ← e1]
          · rw [hm, Nat.pow_succ]
            have h7 : n' + 1 ≤ 128 ^ m := e2
            have h8 := Nat.mul_le_mul_right 128 h7
            rw [Nat.add_mul] at h8
            omega

/-- A number with a sign, as a count. -/
def zigN (n : Int) : Nat := if 0 ≤ n then (2 * n).toNat else (-2 * n - 1).toNat

/-- A count, as a number with a sign. -/
def zagN (c : Nat) : Int := if c % 2 = 1 then -((c : Int) + 1) / 2 else (c : Int) / 2

theorem zagN_zigN (n : Int) : zagN (zigN n) = n := by
  unfold zagN zigN
  split <;> split <;> omega

theorem zigN_zagN (c : Nat) : zigN (zagN c) = c := by
  unfold zagN zigN
  split <;> split <;> omega

theorem zigN_le {n : Int} (h : -2147483648 ≤ n ∧ n ≤ 2147483647) : zigN n ≤ 4294967295 := by
  unfold zigN
  split <;> omega

theorem zagN_in {c : Nat} (h : c ≤ 4294967295) : -2147483648 ≤ zagN c ∧ zagN c ≤ 2147483647 := by
  unfold zagN
  split <;> omega
end Go.Proofs.Ytdakooipelligaa
