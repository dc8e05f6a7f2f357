/- Plain facts on the decimal digits of a number. -/
import Derived.Test.YtmgjnalijmplcaaWordPlain
namespace Go.Proofs.Ytmgjnalijmplcaa
open Go.RowKit
set_option linter.unusedVariables false

/-- The signs of the decimal digits of m, given as many steps. -/
def decF : Nat → Nat → List Int
  | 0, _ => []
  | f + 1, m => if m < 10 then [48 + (m : Int)] else decF f (m / 10) ++ [48 + ((m % 10 : Nat) : Int)]

theorem decF_last (f m : Nat) (h : m < 10) : decF (f + 1) m = [48 + (m : Int)] := if_pos h

theorem decF_more (f m : Nat) (h : ¬ m < 10) : decF (f + 1) m = decF f (m / 10) ++ [48 + ((m % 10 : Nat) : Int)] := if_neg h

/-- A number's text. -/
def textNums (n : Int) : List Int := if n < 0 then 45 :: decF 20 n.natAbs else decF 20 n.natAbs

theorem decF_length (f : Nat) : ∀ m, 1 ≤ f → 1 ≤ (decF f m).length ∧ (decF f m).length ≤ f := by
  induction f with
  | zero => intro m h; omega
  | succ f ih =>
    intro m _
    by_cases h : m < 10
    · rw [decF_last f m h]; simp
    · rw [decF_more f m h]
      rcases Nat.eq_zero_or_pos f with h0 | h0
      · subst h0; simp [decF]
      · have := ih (m / 10) h0
        simp; omega

/-- Every sign of it is a digit. -/
theorem decF_digit (f : Nat) : ∀ m, ∀ c ∈ decF f m, 48 ≤ c ∧ c ≤ 57 := by
  induction f with
  | zero => intro m c h; cases h
  | succ f ih =>
    intro m c hc
    by_cases h : m < 10
    · rw [decF_last f m h] at hc
      simp at hc; omega
    · rw [decF_more f m h, List.mem_append] at hc
      rcases hc with hc | hc
      · exact ih _ c hc
      · simp at hc; omega

/-- What digits come to. -/
def decSum (l : List Int) : Int := l.foldl (fun n c => 10 * n + (c - 48)) 0

theorem decSum_snoc (l : List Int) (c : Int) : decSum (l ++ [c]) = 10 * decSum l + (c - 48) := by simp [decSum]

theorem decF_sum (f : Nat) : ∀ m, m < 10 ^ f → decSum (decF f m) = m := by
  induction f with
  | zero => intro m h; have : m = 0 := by simpa using h
            subst this; rfl
  | succ f ih =>
    intro m hm
    by_cases h : m < 10
    · rw [decF_last f m h]; simp [decSum]; omega
    · rw [decF_more f m h, decSum_snoc, ih (m / 10) (by rw [Nat.pow_succ] at hm; omega)]
      omega

/-- A shorter number has fewer digits. -/
theorem decF_short (k : Nat) : ∀ (f m : Nat), m < 10 ^ k → 1 ≤ k → (decF f m).length ≤ k := by
  induction k with
  | zero => intro f m h hk; omega
  | succ k ih =>
    intro f m hm _
    cases f with
    | zero => simp [decF]
    | succ f =>
      by_cases h : m < 10
      · rw [decF_last f m h]; simp
      · rw [decF_more f m h]
        rcases Nat.eq_zero_or_pos k with h0 | h0
        · subst h0; omega
        · have := ih f (m / 10) (by rw [Nat.pow_succ] at hm; omega) h0
          simp; omega
end Go.Proofs.Ytmgjnalijmplcaa
