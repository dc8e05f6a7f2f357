/-
  DERIVED. GIVEN WITH THE SEED: THE CARDS: each row of YtlmokkopaididaaDoorRows.lean that lists a variable, with what it lists TIED to the program's text (the seventh form; the later family's looks); each row that meets fmt, with fmt's text TOLD by the authors' own Lean function (tested against real Go, not proved from fmt's source: count such statements apart). THE CARD IS WHAT COUNTS. Prove the row's statement (the work); the ties are given (YtlmokkopaididaaDoorTie.lean); close each card by the builder's one call (the guide's Derived/Test/ToyasCard.lean, 'card_holds'). Laid BY PROGRAM, IN A SANDBOX (cutbox-door.mjs). By AI agents, Wed Nov 11 2026. No macro, syntax, notation, axiom, sorry.
-/
import Derived.Test.YtlmokkopaididaaDoorRows
import GoSem.ClaimSeven
namespace Go.Proofs.YtlmokkopaididaaDoor
namespace Rows

/-- THE TIED CARD OF 'pascalinelaw04.CpuSteps'. -/
def cpuStepsCard : Claim7 := { stood := { row := cpuStepsRow, standIns := [], harness := (true, "75e43d3929c58b40f54f10afdcdf53da987c17061853104c1a3a64248312100b"), looks := false }, kinds := [], alts := [], laidByText := true, laidKinds := [.data], laidTests := true, laidLooks := .later }
def CpuStepsCardSaid : Prop := Claim7.holds Tryd.pinned (.plain (OpenSpec.ofChange cpuStepsSpec)) cpuStepsCard

/-- THE TIED CARD OF 'pascalinelaw04.CpuOnes'. -/
def cpuOnesCard : Claim7 := { stood := { row := cpuOnesRow, standIns := [], harness := (true, "75e43d3929c58b40f54f10afdcdf53da987c17061853104c1a3a64248312100b"), looks := false }, kinds := [], alts := [], laidByText := true, laidKinds := [.data], laidTests := true, laidLooks := .later }
def CpuOnesCardSaid : Prop := Claim7.holds Tryd.pinned (.plain (OpenSpec.ofChange cpuOnesSpec)) cpuOnesCard

/-- THE TIED CARD OF 'pascalinelaw04.CpuGuards'. -/
def cpuGuardsCard : Claim7 := { stood := { row := cpuGuardsRow, standIns := [], harness := (true, "75e43d3929c58b40f54f10afdcdf53da987c17061853104c1a3a64248312100b"), looks := false }, kinds := [], alts := [], laidByText := true, laidKinds := [.data], laidTests := true, laidLooks := .later }
def CpuGuardsCardSaid : Prop := Claim7.holds Tryd.pinned (.plain (OpenSpec.ofChange cpuGuardsSpec)) cpuGuardsCard

/-- THE TIED CARD OF 'pascalinelaw04.CpuParts'. -/
def cpuPartsCard : Claim7 := { stood := { row := cpuPartsRow, standIns := [], harness := (true, "75e43d3929c58b40f54f10afdcdf53da987c17061853104c1a3a64248312100b"), looks := false }, kinds := [], alts := [], laidByText := true, laidKinds := [.data], laidTests := true, laidLooks := .later }
def CpuPartsCardSaid : Prop := Claim7.holds Tryd.pinned (.plain (OpenSpec.ofChange cpuPartsSpec)) cpuPartsCard

/-- THE SECOND FORM's CARD OF 'pascalinelaw04.CpuSteps'. -/
def cpuStepsUptoCard : Claim7 := { stood := { row := cpuStepsUptoRow, standIns := [], harness := (true, "75e43d3929c58b40f54f10afdcdf53da987c17061853104c1a3a64248312100b"), looks := false }, kinds := [], alts := [], laidByText := true, laidKinds := [.data], laidTests := true, laidLooks := .later }
def CpuStepsUptoCardSaid : Prop := Claim7.holds Tryd.pinned (.plain (OpenSpec.upto cpuStepsSpec)) cpuStepsUptoCard

/-- THE SECOND FORM's CARD OF 'pascalinelaw04.CpuOnes'. -/
def cpuOnesUptoCard : Claim7 := { stood := { row := cpuOnesUptoRow, standIns := [], harness := (true, "75e43d3929c58b40f54f10afdcdf53da987c17061853104c1a3a64248312100b"), looks := false }, kinds := [], alts := [], laidByText := true, laidKinds := [.data], laidTests := true, laidLooks := .later }
def CpuOnesUptoCardSaid : Prop := Claim7.holds Tryd.pinned (.plain (OpenSpec.upto cpuOnesSpec)) cpuOnesUptoCard

/-- THE SECOND FORM's CARD OF 'pascalinelaw04.CpuGuards'. -/
def cpuGuardsUptoCard : Claim7 := { stood := { row := cpuGuardsUptoRow, standIns := [], harness := (true, "75e43d3929c58b40f54f10afdcdf53da987c17061853104c1a3a64248312100b"), looks := false }, kinds := [], alts := [], laidByText := true, laidKinds := [.data], laidTests := true, laidLooks := .later }
def CpuGuardsUptoCardSaid : Prop := Claim7.holds Tryd.pinned (.plain (OpenSpec.upto cpuGuardsSpec)) cpuGuardsUptoCard

/-- THE SECOND FORM's CARD OF 'pascalinelaw04.CpuParts'. -/
def cpuPartsUptoCard : Claim7 := { stood := { row := cpuPartsUptoRow, standIns := [], harness := (true, "75e43d3929c58b40f54f10afdcdf53da987c17061853104c1a3a64248312100b"), looks := false }, kinds := [], alts := [], laidByText := true, laidKinds := [.data], laidTests := true, laidLooks := .later }
def CpuPartsUptoCardSaid : Prop := Claim7.holds Tryd.pinned (.plain (OpenSpec.upto cpuPartsSpec)) cpuPartsUptoCard
end Rows
end Go.Proofs.YtlmokkopaididaaDoor
