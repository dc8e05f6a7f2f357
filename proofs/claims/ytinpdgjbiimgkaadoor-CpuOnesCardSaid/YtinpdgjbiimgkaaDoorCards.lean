/-
  DERIVED. GIVEN WITH THE SEED: THE CARDS: each row of YtinpdgjbiimgkaaDoorRows.lean that lists a variable, with what it lists TIED to the program's text (the seventh form; the later family's looks); each row that meets fmt, with fmt's text TOLD by the authors' own Lean function (tested against real Go, not proved from fmt's source: count such statements apart). THE CARD IS WHAT COUNTS. Prove the row's statement (the work); the ties are given (YtinpdgjbiimgkaaDoorTie.lean); close each card by the builder's one call (the guide's Derived/Test/ToyasCard.lean, 'card_holds'). Laid BY PROGRAM, IN A SANDBOX (cutbox-door.mjs). By AI agents, Wed Nov 11 2026. No macro, syntax, notation, axiom, sorry.
-/
import Derived.Test.YtinpdgjbiimgkaaDoorRows
import GoSem.ClaimSeven
namespace Go.Proofs.YtinpdgjbiimgkaaDoor
namespace Rows

/-- THE TIED CARD OF 'pascalinelaw04.CpuSteps'. -/
def cpuStepsCard : Claim7 := { stood := { row := cpuStepsRow, standIns := [], harness := (true, "cba5a64d858f1b60fd804230315292f240ebddc6aa3bd196bf17cecf39621f4a"), looks := false }, kinds := [], alts := [], laidByText := true, laidKinds := [.data], laidTests := true, laidLooks := .later }
def CpuStepsCardSaid : Prop := Claim7.holds Tryd.pinned (.plain (OpenSpec.ofChange cpuStepsSpec)) cpuStepsCard

/-- THE TIED CARD OF 'pascalinelaw04.CpuOnes'. -/
def cpuOnesCard : Claim7 := { stood := { row := cpuOnesRow, standIns := [], harness := (true, "cba5a64d858f1b60fd804230315292f240ebddc6aa3bd196bf17cecf39621f4a"), looks := false }, kinds := [], alts := [], laidByText := true, laidKinds := [.data], laidTests := true, laidLooks := .later }
def CpuOnesCardSaid : Prop := Claim7.holds Tryd.pinned (.plain (OpenSpec.ofChange cpuOnesSpec)) cpuOnesCard

/-- THE SECOND FORM's CARD OF 'pascalinelaw04.CpuSteps'. -/
def cpuStepsUptoCard : Claim7 := { stood := { row := cpuStepsUptoRow, standIns := [], harness := (true, "cba5a64d858f1b60fd804230315292f240ebddc6aa3bd196bf17cecf39621f4a"), looks := false }, kinds := [], alts := [], laidByText := true, laidKinds := [.data], laidTests := true, laidLooks := .later }
def CpuStepsUptoCardSaid : Prop := Claim7.holds Tryd.pinned (.plain (OpenSpec.upto cpuStepsSpec)) cpuStepsUptoCard

/-- THE SECOND FORM's CARD OF 'pascalinelaw04.CpuOnes'. -/
def cpuOnesUptoCard : Claim7 := { stood := { row := cpuOnesUptoRow, standIns := [], harness := (true, "cba5a64d858f1b60fd804230315292f240ebddc6aa3bd196bf17cecf39621f4a"), looks := false }, kinds := [], alts := [], laidByText := true, laidKinds := [.data], laidTests := true, laidLooks := .later }
def CpuOnesUptoCardSaid : Prop := Claim7.holds Tryd.pinned (.plain (OpenSpec.upto cpuOnesSpec)) cpuOnesUptoCard
end Rows
end Go.Proofs.YtinpdgjbiimgkaaDoor
