/- The answers' Fields of package instr. -/
import Derived.Test.YtoffagmoaedkbaaDoorInstrQ0
import Derived.Test.YtoffagmoaedkbaaDoorInstrQ1
import Derived.Test.YtoffagmoaedkbaaDoorInstrQ2
import Derived.Test.YtoffagmoaedkbaaDoorInstrP
import Derived.Test.YtoffagmoaedkbaaDoorBlocks
namespace Go.Proofs.YtoffagmoaedkbaaDoor
open Go.ChangeShapes Go.WideShapes Go.ChangeAt Go.RowKit
set_option linter.unusedVariables false

theorem fields_any (op a b c n : Int) (w : World) (ha : I64 a) (hb : I64 b) (hc : I64 c) (hn : I64 n) (h : shapeOf op ≠ -1) :
    Calls Tryd.prog 80 #[instrV op a b c n] w fun e w' => ∃ A m k, e = .returned (.slice A m k) ∧ OwnsS 9 w' w.heap.size (.slice A m k) m (fieldTexts op a b c n) ∧ Below w.heap.size w w' := by
  rcases shape_cases op with g | g | g | g | g | g | g | g | g | g
  · exact absurd g h
  · exact fields_0 op a b c n w ha hb hc hn g
  · exact fields_1 op a b c n w ha hb hc hn g
  · exact fields_2 op a b c n w ha hb hc hn g
  · exact fields_3 op a b c n w ha hb hc hn g
  · by_cases hk : op = 26
    · exact fields_4c op a b c n w ha hb hc hn g hk
    · exact fields_4 op a b c n w ha hb hc hn g hk
  · exact fields_5 op a b c n w ha hb hc hn g
  · exact fields_6 op a b c n w ha hb hc hn g
  · exact fields_7 op a b c n w ha hb hc hn g
  · exact fields_8 op a b c n w ha hb hc hn g
end Go.Proofs.YtoffagmoaedkbaaDoor
