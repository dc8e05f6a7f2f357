/- A whole struct stored into a block known whole, as one step: the world is one 'setRow'. Over any program. -/
import Derived.Test.YtcijjmmckofckaaDoorRowLib
import Derived.Laws.Tables
namespace Go.Proofs.YtcijjmmckofckaaDoor
open Go.ChangeShapes Go.WideShapes Go.ChangeAt Go.RowKit
set_option linter.unusedVariables false

theorem Whole.setRow {w : World} {g : Nat} {t : TypeId} {cs : Array Value} (h : Whole w g t cs) (us : Array Value) : Whole (w.setRow g us) g t us ∧ w.grownBy (w.setRow g us) (some g) :=
  ⟨setRow_heap w g cs us t _ h, ⟨rfl, rfl, rfl, by simp, fun k _ hk => setRow_other w g k us (fun e => hk (by rw [e]))⟩⟩
end Go.Proofs.YtcijjmmckofckaaDoor
