/- Finger: which parameters are alike: both sides. -/
import Derived.Test.YtdakooipelligaaFngB
import Derived.Deep.QuietTactic
namespace Go.Proofs.Ytdakooipelligaa
open Go.ChangeShapes Go.WideShapes Go.ChangeAt Go.RowKit
set_option linter.unusedVariables false
set_option linter.unusedSimpArgs false

theorem take_same {α : Type} {l l' : List α} (d : α) {t : Nat} (h1 : t < l.length) (h2 : t < l'.length) (h : l.take t = l'.take t) (he : l.getD t d = l'.getD t d) : l.take (t + 1) = l'.take (t + 1) := by
  have e : ∀ m : List α, t < m.length → m.take (t + 1) = m.take t ++ [m.getD t d] := fun m hm => by
    rw [List.take_add_one, List.getD_eq_getElem?_getD, List.getElem?_eq_getElem hm]
    rfl
  rw [e _ h1, e _ h2, h, he]

end Go.Proofs.Ytdakooipelligaa