/-
  DERIVED. GIVEN WITH THE SEED: THE CARDS: each row of YtkeknjloocnlpaaDoorRows.lean that lists a variable, with what it lists TIED to the program's text (the seventh form; the later family's looks); each row that meets fmt, with fmt's text TOLD by the authors' own Lean function (tested against real Go, not proved from fmt's source: count such statements apart). THE CARD IS WHAT COUNTS. Prove the row's statement (the work); the ties are given (YtkeknjloocnlpaaDoorTie.lean); close each card by the builder's one call (the guide's Derived/Test/ToyasCard.lean, 'card_holds'). Laid BY PROGRAM, IN A SANDBOX (cutbox-door.mjs). By AI agents, Wed Nov 11 2026. No macro, syntax, notation, axiom, sorry.
-/
import Derived.Test.YtkeknjloocnlpaaDoorRows
import GoSem.ClaimSeven
namespace Go.Proofs.YtkeknjloocnlpaaDoor
namespace Rows

/-- THE TIED CARD OF 'pascalinelaw02.InstrEncodes'. -/
def instrEncodesCard : Claim7 := { stood := { row := instrEncodesRow, standIns := [], harness := (true, "ffaef52d3d41b5c993318aedb0359d6ac4ec6ad85526677b1b7aecdad1431939"), looks := false }, kinds := [], alts := [], laidByText := true, laidKinds := [.data], laidTests := true, laidLooks := .later }
def InstrEncodesCardSaid : Prop := Claim7.holds Tryd.pinned (.plain (OpenSpec.ofChange instrEncodesSpec)) instrEncodesCard

/-- THE TIED CARD OF 'pascalinelaw02.InstrDecodes'. -/
def instrDecodesCard : Claim7 := { stood := { row := instrDecodesRow, standIns := [], harness := (true, "ffaef52d3d41b5c993318aedb0359d6ac4ec6ad85526677b1b7aecdad1431939"), looks := false }, kinds := [], alts := [], laidByText := true, laidKinds := [.data], laidTests := true, laidLooks := .later }
def InstrDecodesCardSaid : Prop := Claim7.holds Tryd.pinned (.plain (OpenSpec.ofChange instrDecodesSpec)) instrDecodesCard

/-- THE TIED CARD OF 'pascalinelaw02.InstrNames'. -/
def instrNamesCard : Claim7 := { stood := { row := instrNamesRow, standIns := [], harness := (true, "ffaef52d3d41b5c993318aedb0359d6ac4ec6ad85526677b1b7aecdad1431939"), looks := false }, kinds := [], alts := [], laidByText := true, laidKinds := [.data, .data], laidTests := true, laidLooks := .later }
def InstrNamesCardSaid : Prop := Claim7.holds Tryd.pinned (.plain (OpenSpec.ofChange instrNamesSpec)) instrNamesCard

/-- THE TIED CARD OF 'pascalinelaw02.InstrTexts'. -/
def instrTextsCard : Claim7 := { stood := { row := instrTextsRow, standIns := [], harness := (true, "ffaef52d3d41b5c993318aedb0359d6ac4ec6ad85526677b1b7aecdad1431939"), looks := false }, kinds := [], alts := [], laidByText := true, laidKinds := [.data, .data], laidTests := true, laidLooks := .later }
def InstrTextsCardSaid : Prop := Claim7.holds Tryd.pinned (.plain (OpenSpec.ofChange instrTextsSpec)) instrTextsCard

/-- THE TIED CARD OF 'pascalinelaw02.InstrBack'. -/
def instrBackCard : Claim7 := { stood := { row := instrBackRow, standIns := [], harness := (true, "ffaef52d3d41b5c993318aedb0359d6ac4ec6ad85526677b1b7aecdad1431939"), looks := false }, kinds := [], alts := [], laidByText := true, laidKinds := [.data], laidTests := true, laidLooks := .later }
def InstrBackCardSaid : Prop := Claim7.holds Tryd.pinned (.plain (OpenSpec.ofChange instrBackSpec)) instrBackCard

/-- THE SECOND FORM's CARD OF 'pascalinelaw02.InstrEncodes'. -/
def instrEncodesUptoCard : Claim7 := { stood := { row := instrEncodesUptoRow, standIns := [], harness := (true, "ffaef52d3d41b5c993318aedb0359d6ac4ec6ad85526677b1b7aecdad1431939"), looks := false }, kinds := [], alts := [], laidByText := true, laidKinds := [.data], laidTests := true, laidLooks := .later }
def InstrEncodesUptoCardSaid : Prop := Claim7.holds Tryd.pinned (.plain (OpenSpec.upto instrEncodesSpec)) instrEncodesUptoCard

/-- THE SECOND FORM's CARD OF 'pascalinelaw02.InstrDecodes'. -/
def instrDecodesUptoCard : Claim7 := { stood := { row := instrDecodesUptoRow, standIns := [], harness := (true, "ffaef52d3d41b5c993318aedb0359d6ac4ec6ad85526677b1b7aecdad1431939"), looks := false }, kinds := [], alts := [], laidByText := true, laidKinds := [.data], laidTests := true, laidLooks := .later }
def InstrDecodesUptoCardSaid : Prop := Claim7.holds Tryd.pinned (.plain (OpenSpec.upto instrDecodesSpec)) instrDecodesUptoCard

/-- THE SECOND FORM's CARD OF 'pascalinelaw02.InstrNames'. -/
def instrNamesUptoCard : Claim7 := { stood := { row := instrNamesUptoRow, standIns := [], harness := (true, "ffaef52d3d41b5c993318aedb0359d6ac4ec6ad85526677b1b7aecdad1431939"), looks := false }, kinds := [], alts := [], laidByText := true, laidKinds := [.data, .data], laidTests := true, laidLooks := .later }
def InstrNamesUptoCardSaid : Prop := Claim7.holds Tryd.pinned (.plain (OpenSpec.upto instrNamesSpec)) instrNamesUptoCard

/-- THE SECOND FORM's CARD OF 'pascalinelaw02.InstrTexts'. -/
def instrTextsUptoCard : Claim7 := { stood := { row := instrTextsUptoRow, standIns := [], harness := (true, "ffaef52d3d41b5c993318aedb0359d6ac4ec6ad85526677b1b7aecdad1431939"), looks := false }, kinds := [], alts := [], laidByText := true, laidKinds := [.data, .data], laidTests := true, laidLooks := .later }
def InstrTextsUptoCardSaid : Prop := Claim7.holds Tryd.pinned (.plain (OpenSpec.upto instrTextsSpec)) instrTextsUptoCard

/-- THE SECOND FORM's CARD OF 'pascalinelaw02.InstrBack'. -/
def instrBackUptoCard : Claim7 := { stood := { row := instrBackUptoRow, standIns := [], harness := (true, "ffaef52d3d41b5c993318aedb0359d6ac4ec6ad85526677b1b7aecdad1431939"), looks := false }, kinds := [], alts := [], laidByText := true, laidKinds := [.data], laidTests := true, laidLooks := .later }
def InstrBackUptoCardSaid : Prop := Claim7.holds Tryd.pinned (.plain (OpenSpec.upto instrBackSpec)) instrBackUptoCard
end Rows
end Go.Proofs.YtkeknjloocnlpaaDoor
