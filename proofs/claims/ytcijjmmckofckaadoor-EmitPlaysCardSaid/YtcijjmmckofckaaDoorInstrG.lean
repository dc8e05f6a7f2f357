/- Package instr, plain: when Check answers OK. -/
import Derived.Test.YtcijjmmckofckaaDoorInstrPlain
namespace Go.Proofs.YtcijjmmckofckaaDoor
set_option linter.unusedVariables false

/-- Whether the fields may be. -/
def GoodP (s a b c n : Int) : Prop := 0 ≤ a ∧ a ≤ 15 ∧ 0 ≤ b ∧ b ≤ 15 ∧ 0 ≤ c ∧ c ≤ 15 ∧ (0 < regsOf s ∨ a = 0) ∧ (1 < regsOf s ∨ b = 0) ∧ (2 < regsOf s ∨ c = 0) ∧ lowOf s ≤ n ∧ n ≤ highOf s

theorem goodP_iff (s a b c n : Int) : (regsOk s a b c && immOk s n) = true ↔ GoodP s a b c n := by
  unfold regsOk regOk immOk GoodP
  simp only [Bool.and_eq_true, Bool.or_eq_true, decide_eq_true_eq]
  constructor <;> intro h <;> simp_all

theorem checkOf_good {op a b c n s : Int} (h : shapeOf op = s) (hs : s ≠ -1) (hg : GoodP s a b c n) : checkOf op a b c n = 0 := by
  unfold checkOf
  rw [h, if_neg hs, if_pos ((goodP_iff _ _ _ _ _).2 hg)]

theorem checkOf_bad {op a b c n s : Int} (h : shapeOf op = s) (hs : s ≠ -1) (hg : ¬ GoodP s a b c n) : checkOf op a b c n = 20 := by
  unfold checkOf
  rw [h, if_neg hs, if_neg (fun hh => hg ((goodP_iff _ _ _ _ _).1 hh))]

theorem good_of_check {op a b c n : Int} (h : checkOf op a b c n = 0) : shapeOf op ≠ -1 ∧ GoodP (shapeOf op) a b c n := by
  by_cases hs : shapeOf op = -1
  · rw [checkOf_none hs] at h
    omega
  · refine ⟨hs, ?_⟩
    by_cases hg : GoodP (shapeOf op) a b c n
    · exact hg
    · rw [checkOf_bad rfl hs hg] at h
      omega
end Go.Proofs.YtcijjmmckofckaaDoor
