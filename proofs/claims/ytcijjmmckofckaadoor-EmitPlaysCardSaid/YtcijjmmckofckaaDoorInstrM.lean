/- Package instr, plain: the word of an instruction leads back to it; the instruction of a word, to the word. -/
import Derived.Test.YtcijjmmckofckaaDoorInstrI
namespace Go.Proofs.YtcijjmmckofckaaDoor
set_option linter.unusedVariables false

theorem word_range {op a b c n : Int} (h : shapeOf op ≠ -1) (hg : GoodP (shapeOf op) a b c n) : 0 ≤ wordOf op a b c n ∧ wordOf op a b c n ≤ 4294967295 ∧ wordOf op a b c n / 16777216 = op := by
  obtain ⟨o1, o2⟩ := shapeOf_some h
  have hr := shapeOf_range op
  obtain ⟨a0, a1, b0, b1, c0, c1, ga, gb, gc, n0, n1⟩ := hg
  unfold wordOf
  unfold lowOf at n0
  unfold highOf at n1
  unfold regsOf at ga gb gc
  generalize shapeOf op = s at *
  rcases (show s = 0 ∨ s = 1 ∨ s = 2 ∨ s = 3 ∨ s = 4 ∨ s = 5 ∨ s = 6 ∨ s = 7 ∨ s = 8 by omega) with rfl | rfl | rfl | rfl | rfl | rfl | rfl | rfl | rfl
  all_goals
    simp at n0 n1 ga gb gc ⊢
    refine ⟨?_, ?_, ?_⟩ <;> omega

theorem dec_of_word {op a b c n : Int} (h : shapeOf op ≠ -1) (hg : GoodP (shapeOf op) a b c n) : decV (wordOf op a b c n) = .tuple #[instrV op a b c n, .int .i64 0] := by
  obtain ⟨w0, w1, w2⟩ := word_range h hg
  have key : decA (wordOf op a b c n) = a ∧ decB (wordOf op a b c n) = b ∧ decC (wordOf op a b c n) = c ∧ decN (wordOf op a b c n) = n := by
    obtain ⟨o1, o2⟩ := shapeOf_some h
    have hr := shapeOf_range op
    obtain ⟨a0, a1, b0, b1, c0, c1, ga, gb, gc, n0, n1⟩ := hg
    unfold decA decB decC decN numOf
    rw [w2]
    clear w0 w1 w2
    unfold wordOf
    generalize shapeOf op = s at *
    rcases (show s = 0 ∨ s = 1 ∨ s = 2 ∨ s = 3 ∨ s = 4 ∨ s = 5 ∨ s = 6 ∨ s = 7 ∨ s = 8 by omega) with rfl | rfl | rfl | rfl | rfl | rfl | rfl | rfl | rfl
    all_goals
      simp [lowOf, highOf, regsOf] at n0 n1 ga gb gc
      simp [regsOf, bitsOf, signOf, sxt]
      omega
  obtain ⟨k1, k2, k3, k4⟩ := key
  have := decV_yes (x := wordOf op a b c n) (by rw [w2]; exact h) (by rw [w2, k1, k2, k3, k4])
  rw [w2, k1, k2, k3, k4] at this
  exact this

theorem enc_of_dec {x : Int} (h0 : 0 ≤ x) (h1 : x ≤ 4294967295) (h : shapeOf (x / 16777216) ≠ -1) (hw : wordOf (x / 16777216) (decA x) (decB x) (decC x) (decN x) = x) :
    encR (x / 16777216) (decA x) (decB x) (decC x) (decN x) = .tuple #[.int .u32 x, .int .i64 0] := by
  unfold encR encOf
  rw [checkOf_good rfl h (decGood h0 h1 h), if_pos rfl, hw]

theorem dec_i64 {x : Int} (h0 : 0 ≤ x) (h1 : x ≤ 4294967295) (h : shapeOf (x / 16777216) ≠ -1) : I64 (decA x) ∧ I64 (decB x) ∧ I64 (decC x) ∧ I64 (decN x) := by
  obtain ⟨a0, a1, b0, b1, c0, c1, _, _, _, n0, n1⟩ := decGood h0 h1 h
  unfold I64
  unfold lowOf at n0
  unfold highOf at n1
  omega
end Go.Proofs.YtcijjmmckofckaaDoor
