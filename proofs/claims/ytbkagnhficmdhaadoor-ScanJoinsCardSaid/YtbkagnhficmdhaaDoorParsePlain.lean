/- Plain facts on numbers read from their texts. -/
import Derived.Test.YtbkagnhficmdhaaDoorTextPlain
namespace Go.Proofs.YtbkagnhficmdhaaDoor
open Go.RowKit
set_option linter.unusedVariables false

def digAll (l : List Int) : Bool := l.all fun c => decide (48 ≤ c) && decide (c ≤ 57)

theorem digAll_snoc (l : List Int) (c : Int) : digAll (l ++ [c]) = (digAll l && (decide (48 ≤ c) && decide (c ≤ 57))) := by simp [digAll]

theorem digAll_false {l : List Int} {k : Nat} (h : digAll (l.take k) = false) : digAll l = false := by
  cases hl : digAll l with
  | false => rfl
  | true =>
    unfold digAll at h hl
    rw [List.all_eq_true] at hl
    have : (l.take k).all (fun c => decide (48 ≤ c) && decide (c ≤ 57)) = true := List.all_eq_true.2 fun c hc => hl c (List.mem_of_mem_take hc)
    rw [this] at h; cases h

theorem decSum_aux : ∀ (l : List Int) (a : Int), digAll l = true → 0 ≤ a → a ≤ l.foldl (fun n c => 10 * n + (c - 48)) a
  | [], a, _, _ => Int.le_refl a
  | c :: l, a, h, h0 => by
    simp only [digAll, List.all_cons, Bool.and_eq_true, decide_eq_true_eq] at h
    have := decSum_aux l (10 * a + (c - 48)) (by simpa [digAll] using h.2) (by omega)
    rw [List.foldl_cons]
    omega

theorem decSum_nonneg (l : List Int) (h : digAll l = true) : 0 ≤ decSum l := decSum_aux l 0 h (Int.le_refl 0)

theorem digAll_take {l : List Int} (h : digAll l = true) (k : Nat) : digAll (l.take k) = true := by
  cases hk : digAll (l.take k) with
  | true => rfl
  | false => rw [digAll_false hk] at h; cases h

theorem decSum_mono (l : List Int) (h : digAll l = true) (k : Nat) : decSum (l.take k) ≤ decSum l := by
  have h1 := decSum_nonneg (l.take k) (digAll_take h k)
  have h2 : digAll (l.drop k) = true := by
    unfold digAll at h ⊢
    rw [List.all_eq_true] at h ⊢
    exact fun c hc => h c (List.mem_of_mem_drop hc)
  have h3 := decSum_aux (l.drop k) (decSum (l.take k)) h2 h1
  have e : decSum l = (l.drop k).foldl (fun n c => 10 * n + (c - 48)) (decSum (l.take k)) := by
    unfold decSum
    rw [← List.foldl_append, List.take_append_drop]
  rw [e]; exact h3

theorem decSum_bound : ∀ (l : List Int) (a : Int) (m : Nat), digAll l = true → 0 ≤ a → a < 10 ^ m → l.foldl (fun n c => 10 * n + (c - 48)) a < 10 ^ (m + l.length)
  | [], a, m, _, h0, h1 => h1
  | c :: l, a, m, h, h0, h1 => by
    simp only [digAll, List.all_cons, Bool.and_eq_true, decide_eq_true_eq] at h
    have := decSum_bound l (10 * a + (c - 48)) (m + 1) (by simpa [digAll] using h.2) (by omega) (by rw [Int.pow_succ]; omega)
    rw [List.foldl_cons, List.length_cons, show m + (l.length + 1) = m + 1 + l.length by omega]
    exact this

theorem decSum_lt (l : List Int) (h : digAll l = true) : decSum l < 10 ^ l.length := by
  have := decSum_bound l 0 0 h (by decide) (by decide)
  rwa [Nat.zero_add] at this

/-- The digits of a text, behind a minus sign if it has one. -/
def digitsOf (l : List Int) : List Int := if l.head? = some 45 then l.tail else l

/-- The number that they are. -/
def parseOf (l : List Int) : Int := if l.head? = some 45 then -decSum (digitsOf l) else decSum (digitsOf l)

def parseOk (l : List Int) : Bool := digAll (digitsOf l) && (decide (-2147483648 ≤ parseOf l) && decide (parseOf l ≤ 2147483647)) && decide (textNums (parseOf l) = l)

def parseRes (l : List Int) : Value := if parseOk l = true then .tuple #[.int .i32 (parseOf l), .bool true] else .tuple #[.int .i32 0, .bool false]

theorem parseRes_yes {l : List Int} (h : parseOk l = true) : parseRes l = .tuple #[.int .i32 (parseOf l), .bool true] := if_pos h

theorem parseRes_no {l : List Int} (h : parseOk l = false) : parseRes l = .tuple #[.int .i32 0, .bool false] := if_neg (by rw [h]; decide)

theorem no_digits {l : List Int} (h : digAll (digitsOf l) = false) : parseOk l = false := by unfold parseOk; rw [h]; rfl

theorem no_range {l : List Int} (h : parseOf l < -2147483648 ∨ 2147483647 < parseOf l) : parseOk l = false := by
  unfold parseOk
  have : (decide (-2147483648 ≤ parseOf l) && decide (parseOf l ≤ 2147483647)) = false := by
    rcases h with h | h
    · rw [decide_eq_false (by omega)]; rfl
    · rw [decide_eq_false (p := parseOf l ≤ 2147483647) (by omega), Bool.and_false]
  rw [this]; simp

theorem no_text {l : List Int} (h : textNums (parseOf l) ≠ l) : parseOk l = false := by unfold parseOk; rw [decide_eq_false h, Bool.and_false]

theorem yes_text {l : List Int} (h1 : digAll (digitsOf l) = true) (h2 : -2147483648 ≤ parseOf l) (h3 : parseOf l ≤ 2147483647) (h4 : textNums (parseOf l) = l) : parseOk l = true := by
  unfold parseOk
  rw [h1, decide_eq_true h2, decide_eq_true h3, decide_eq_true h4]; rfl

theorem textNums_length (n : Int) (h0 : -2147483648 ≤ n) (h1 : n ≤ 2147483647) : 1 ≤ (textNums n).length ∧ (textNums n).length ≤ 11 := by
  have h := decF_length 20 n.natAbs (by omega)
  have h2 := decF_short 10 20 n.natAbs (by omega) (by omega)
  unfold textNums
  split <;> (try simp only [List.length_cons]) <;> omega

theorem no_length {l : List Int} (h : l.length < 1 ∨ 11 < l.length) : parseOk l = false := by
  cases hp : parseOk l with
  | false => rfl
  | true =>
    unfold parseOk at hp
    simp only [Bool.and_eq_true, decide_eq_true_eq] at hp
    have := textNums_length (parseOf l) hp.1.2.1 hp.1.2.2
    rw [hp.2] at this
    omega

/-- Beyond this many, the number is none. -/
theorem no_great {l : List Int} {k : Nat} (h : 2147483648 < decSum ((digitsOf l).take k)) : parseOk l = false := by
  cases hd : digAll (digitsOf l) with
  | false => exact no_digits hd
  | true =>
    have := decSum_mono (digitsOf l) hd k
    refine no_range ?_
    unfold parseOf
    split
    · left; omega
    · right; omega

theorem textNums_byte (n : Int) : ∀ c ∈ textNums n, 0 ≤ c ∧ c ≤ 255 := by
  intro c hc
  unfold textNums at hc
  split at hc
  · rcases List.mem_cons.1 hc with rfl | hc
    · omega
    · have := decF_digit 20 _ c hc; omega
  · have := decF_digit 20 _ c hc; omega

theorem digitsOf_text (n : Int) : digitsOf (textNums n) = decF 20 n.natAbs := by
  unfold digitsOf textNums
  by_cases h : n < 0
  · rw [if_pos h]; rfl
  · rw [if_neg h]
    rw [if_neg]
    intro hh
    have hl := decF_length 20 n.natAbs (by omega)
    cases hd : decF 20 n.natAbs with
    | nil => rw [hd] at hl; simp at hl
    | cons c t =>
      rw [hd] at hh
      have := decF_digit 20 n.natAbs c (by rw [hd]; simp)
      simp at hh; omega

theorem parseOf_text (n : Int) (h0 : -9223372036854775808 ≤ n) (h1 : n ≤ 9223372036854775807) : parseOf (textNums n) = n := by
  have hs := decF_sum 20 n.natAbs (by omega)
  have hd := digitsOf_text n
  unfold parseOf
  rw [hd, hs]
  by_cases h : n < 0
  · rw [if_pos (by unfold textNums; rw [if_pos h]; rfl)]; omega
  · rw [if_neg]
    · omega
    · intro hh
      have hl := decF_length 20 n.natAbs (by omega)
      unfold textNums at hh
      rw [if_neg h] at hh
      cases hd2 : decF 20 n.natAbs with
      | nil => rw [hd2] at hl; simp at hl
      | cons c t =>
        rw [hd2] at hh
        have := decF_digit 20 n.natAbs c (by rw [hd2]; simp)
        simp at hh; omega

theorem digAll_text (n : Int) : digAll (digitsOf (textNums n)) = true := by
  rw [digitsOf_text]
  unfold digAll
  rw [List.all_eq_true]
  intro c hc
  have := decF_digit 20 _ c hc
  simp; omega
end Go.Proofs.YtbkagnhficmdhaaDoor
