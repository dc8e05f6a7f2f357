/- Package memory and its answers: the ends; whether the parts may lie so. -/
import Derived.Test.YtinpdgjbiimgkaaDoorLift
import Derived.Test.YtinpdgjbiimgkaaDoorBlocks
import Derived.Test.YtinpdgjbiimgkaaDoorLaid
import Derived.Lib.Hide
import Derived.Deep.QuietTactic
import Derived.BigQuiet
import Derived.Handy
import Derived.Deep.RegionHeld3
namespace Go.Proofs.YtinpdgjbiimgkaaDoor
open Go.ChangeShapes Go.WideShapes Go.ChangeAt Go.RowKit
set_option linter.unusedVariables false

/-- Five ends, as a value. -/
def endsV (e0 e1 e2 e3 e4 : Int) : Value := .agg #[.int .u32 e0, .int .u32 e1, .int .u32 e2, .int .u32 e3, .int .u32 e4]

def U32 (n : Int) : Prop := 0 ≤ n ∧ n ≤ 4294967295

/-- May the parts lie so? -/
def okEnd (s e : Int) : Bool := decide (s ≤ e) && (decide (e % 4 = 0) && decide (e ≤ 1048576))

def okEnds (e0 e1 e2 e3 e4 : Int) : Bool := okEnd 0 e0 && (okEnd e0 e1 && (okEnd e1 e2 && (okEnd e2 e3 && okEnd e3 e4)))

set_option maxHeartbeats 2000000 in
theorem endsOf_any (e0 e1 e2 e3 e4 : Int) (w : World) :
    Calls Tryd.prog 37 #[endsV e0 e1 e2 e3 e4] w fun e w' => e = .returned (endsV e0 e1 e2 e3 e4) ∧ Below w.heap.size w w' := by
  unfold endsV
  go_enter Tryd.func37, Tryd.ntmps37
  go_wp2
  refine bodyPost_ret (v := .agg #[.int .u32 e0, .int .u32 e1, .int .u32 e2, .int .u32 e3, .int .u32 e4]) (by simp [results, Tryd.results37, go_sem]) rfl ⟨rfl, ?_⟩
  repeat (first | exact ((Below.refl _ _).alloc (Nat.le_refl _) _).alloc (by simp) _ | refine Below.setCell ?_ (by simp) _)

set_option maxHeartbeats 2000000 in
theorem lawEnds_any (e0 e1 e2 e3 e4 : Int) (w : World) :
    Calls Tryd.prog 21 #[endsV e0 e1 e2 e3 e4] w fun e w' => e = .returned (endsV e0 e1 e2 e3 e4) ∧ Below w.heap.size w w' := by
  unfold endsV
  go_enter Tryd.func21, Tryd.ntmps21
  go_wp2
  refine bodyPost_ret (v := .agg #[.int .u32 e0, .int .u32 e1, .int .u32 e2, .int .u32 e3, .int .u32 e4]) (by simp [results, Tryd.results21, go_sem]) rfl ⟨rfl, ?_⟩
  repeat (first | exact ((Below.refl _ _).alloc (Nat.le_refl _) _).alloc (by simp) _ | refine Below.setCell ?_ (by simp) _)

end Go.Proofs.YtinpdgjbiimgkaaDoor
