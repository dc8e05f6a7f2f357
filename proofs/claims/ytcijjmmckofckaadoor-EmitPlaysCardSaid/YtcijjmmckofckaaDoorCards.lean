/-
  DERIVED. GIVEN WITH THE SEED: THE CARDS: each row of YtcijjmmckofckaaDoorRows.lean that lists a variable, with what it lists TIED to the program's text (the seventh form; the later family's looks); each row that meets fmt, with fmt's text TOLD by the authors' own Lean function (tested against real Go, not proved from fmt's source: count such statements apart). THE CARD IS WHAT COUNTS. Prove the row's statement (the work); the ties are given (YtcijjmmckofckaaDoorTie.lean); close each card by the builder's one call (the guide's Derived/Test/ToyasCard.lean, 'card_holds'). Laid BY PROGRAM, IN A SANDBOX (cutbox-door.mjs). By AI agents, Wed Nov 11 2026. No macro, syntax, notation, axiom, sorry.
-/
import Derived.Test.YtcijjmmckofckaaDoorRows
import GoSem.ClaimSeven
namespace Go.Proofs.YtcijjmmckofckaaDoor
namespace Rows

/-- THE TIED CARD OF 'pascalinelaw17.EmitPlays'. -/
def emitPlaysCard : Claim7 := { stood := { row := emitPlaysRow, standIns := [], harness := (true, "782b2d2ecfb3c12048ff1f8abfe7d4cc1410faa67ebf0f3a0d05f58cf87beee2"), looks := false }, kinds := [], alts := [], laidByText := true, laidKinds := [.data], laidTests := true, laidLooks := .later }
def EmitPlaysCardSaid : Prop := Claim7.holds Tryd.pinned (.plain (OpenSpec.ofChange emitPlaysSpec)) emitPlaysCard

/-- THE TIED CARD OF 'pascalinelaw17.EmitLands'. -/
def emitLandsCard : Claim7 := { stood := { row := emitLandsRow, standIns := [], harness := (true, "782b2d2ecfb3c12048ff1f8abfe7d4cc1410faa67ebf0f3a0d05f58cf87beee2"), looks := false }, kinds := [], alts := [], laidByText := true, laidKinds := [.data], laidTests := true, laidLooks := .later }
def EmitLandsCardSaid : Prop := Claim7.holds Tryd.pinned (.plain (OpenSpec.ofChange emitLandsSpec)) emitLandsCard

/-- THE TIED CARD OF 'pascalinelaw17.EmitMany'. -/
def emitManyCard : Claim7 := { stood := { row := emitManyRow, standIns := [], harness := (true, "782b2d2ecfb3c12048ff1f8abfe7d4cc1410faa67ebf0f3a0d05f58cf87beee2"), looks := false }, kinds := [], alts := [], laidByText := true, laidKinds := [.data], laidTests := true, laidLooks := .later }
def EmitManyCardSaid : Prop := Claim7.holds Tryd.pinned (.plain (OpenSpec.ofChange emitManySpec)) emitManyCard

/-- THE SECOND FORM's CARD OF 'pascalinelaw17.EmitPlays'. -/
def emitPlaysUptoCard : Claim7 := { stood := { row := emitPlaysUptoRow, standIns := [], harness := (true, "782b2d2ecfb3c12048ff1f8abfe7d4cc1410faa67ebf0f3a0d05f58cf87beee2"), looks := false }, kinds := [], alts := [], laidByText := true, laidKinds := [.data], laidTests := true, laidLooks := .later }
def EmitPlaysUptoCardSaid : Prop := Claim7.holds Tryd.pinned (.plain (OpenSpec.upto emitPlaysSpec)) emitPlaysUptoCard

/-- THE SECOND FORM's CARD OF 'pascalinelaw17.EmitLands'. -/
def emitLandsUptoCard : Claim7 := { stood := { row := emitLandsUptoRow, standIns := [], harness := (true, "782b2d2ecfb3c12048ff1f8abfe7d4cc1410faa67ebf0f3a0d05f58cf87beee2"), looks := false }, kinds := [], alts := [], laidByText := true, laidKinds := [.data], laidTests := true, laidLooks := .later }
def EmitLandsUptoCardSaid : Prop := Claim7.holds Tryd.pinned (.plain (OpenSpec.upto emitLandsSpec)) emitLandsUptoCard

/-- THE SECOND FORM's CARD OF 'pascalinelaw17.EmitMany'. -/
def emitManyUptoCard : Claim7 := { stood := { row := emitManyUptoRow, standIns := [], harness := (true, "782b2d2ecfb3c12048ff1f8abfe7d4cc1410faa67ebf0f3a0d05f58cf87beee2"), looks := false }, kinds := [], alts := [], laidByText := true, laidKinds := [.data], laidTests := true, laidLooks := .later }
def EmitManyUptoCardSaid : Prop := Claim7.holds Tryd.pinned (.plain (OpenSpec.upto emitManySpec)) emitManyUptoCard
end Rows
end Go.Proofs.YtcijjmmckofckaaDoor
