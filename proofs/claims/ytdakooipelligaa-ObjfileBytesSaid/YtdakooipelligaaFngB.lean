/- Finger: More of both sides, Sum; awake; which lists are tried. -/
import Derived.Test.YtdakooipelligaaFngA
namespace Go.Proofs.Ytdakooipelligaa
open Go.ChangeShapes Go.WideShapes Go.ChangeAt Go.RowKit
set_option linter.unusedVariables false
set_option linter.unusedSimpArgs false

abbrev Byt (zs : List Int) : Prop := ∀ z ∈ zs, 0 ≤ z ∧ z ≤ 255

theorem xor_in (x y : Int) : 0 ≤ bits .xor .u32 x y ∧ bits .xor .u32 x y ≤ 4294967295 := by
  unfold bits
  rw [IntKind.wrap_u32]
  omega

/-- An export whose lists are short enough to be tried. -/
def smX (x : Ex) : Prop := x.nm.size ≤ 200 ∧ x.ps.length ≤ 60

instance (x : Ex) : Decidable (smX x) := by unfold smX; infer_instance

/-- A list that is tried. -/
def smL (l : List Exx) : Prop := l.length ≤ 60 ∧ ∀ x ∈ l, smX x.1

instance (l : List Exx) : Decidable (smL l) := by unfold smL; infer_instance

end Go.Proofs.Ytdakooipelligaa