/-
  NARROWER THAN 'FOR EVERY INPUT', by the rows' own cells (each row's printed sentence says how): InstrTexts: laid.
  DERIVED. THE GIVEN ROWS OF THIS SEAT. 1 by the template 'for every input the law returns true; each argument reads behind the call as it read before'; 0 by the template 'total and deterministic' (their statements: YtpjckkcljbnkiaaDoorTotals.lean).
  GIVEN WITH THE SEED: the statements are not yours to turn. If you find one false, say at which input.
  Laid BY PROGRAM, IN A SANDBOX (cutbox-rows.mjs): the forced cells as the released guide's own fill.sh prints them over the translation 379130e4b09cdc30… (all of the seat's roots in one cut). By AI agents, Wed Nov 11 2026. No macro, syntax, notation, axiom, sorry.
-/
import Derived.Test.YtpjckkcljbnkiaaDoorChecked
import GoSem.Claim
import GoSem.ClaimJoined
import GoSem.ClaimMapViews
import Derived.JoinedTies
import Derived.KernelRfl
namespace Go.Proofs.YtpjckkcljbnkiaaDoor
/- THE CELL 'sum', in the pinned program and in every row, IS THE sha256 OF THE DUMP (.gsa) THAT YtpjckkcljbnkiaaDoorProg.lean LOADS. Nothing in Lean hashes anything: it is a label: what it is worth is what the hold of that sum in a sandbox is worth. -/
noncomputable def Tryd.pinned : Pinned := { name := "ytpjckkcljbnkiaadoor", sum := "379130e4b09cdc30217334b46bc7edd4c674990c48283f15382836139aa38224", checked := Tryd.checked }
namespace Rows
def none {H : Type} : Left H := { results := [], args := [] }

/- WHAT THE LISTED PACKAGE-LEVEL VARIABLES READ AS WHEN THE CALL BEGINS. Each datum BY PROGRAM (the guide's laid-datum.mjs) off the statement by which the dump's own 'gosem.cut.vars' lays the variable. In a bare row this is a premise. The card (YtpjckkcljbnkiaaDoorCards.lean) ties it to the program's text. -/
def laid_pascaline_instr_shapes {H : Type} : DataW H := .agg [.agg [.lit (.int .i64 0), .lit (.int .i64 0), .lit (.bool false)], .agg [.lit (.int .i64 1), .lit (.int .i64 16), .lit (.bool true)], .agg [.lit (.int .i64 1), .lit (.int .i64 16), .lit (.bool false)], .agg [.lit (.int .i64 2), .lit (.int .i64 16), .lit (.bool true)], .agg [.lit (.int .i64 2), .lit (.int .i64 16), .lit (.bool false)], .agg [.lit (.int .i64 3), .lit (.int .i64 0), .lit (.bool false)], .agg [.lit (.int .i64 1), .lit (.int .i64 0), .lit (.bool false)], .agg [.lit (.int .i64 0), .lit (.int .i64 24), .lit (.bool true)], .agg [.lit (.int .i64 0), .lit (.int .i64 16), .lit (.bool false)]]
def laid_pascaline_instr_names {H : Type} : DataW H := .agg [.lit (.string []), .lit (.string [72, 65, 76, 84]), .lit (.string [76, 68, 73]), .lit (.string [76, 85, 73]), .lit (.string [79, 82, 73]), .lit (.string [65, 68, 68, 73]), .lit (.string [65, 68, 68]), .lit (.string [83, 85, 66]), .lit (.string [77, 85, 76]), .lit (.string [68, 73, 86]), .lit (.string [77, 79, 68]), .lit (.string [65, 78, 68]), .lit (.string [79, 82]), .lit (.string [88, 79, 82]), .lit (.string [83, 76, 84]), .lit (.string [83, 76, 69]), .lit (.string [83, 69, 81]), .lit (.string [83, 78, 69]), .lit (.string [76, 68, 87]), .lit (.string [83, 84, 87]), .lit (.string [66, 90]), .lit (.string [66, 78, 90]), .lit (.string [66, 82]), .lit (.string [67, 65, 76, 76]), .lit (.string [74, 82]), .lit (.string [67, 65, 76, 76, 82]), .lit (.string [67, 72, 75]), .lit (.string [78, 73, 76]), .lit (.string [84, 82, 65, 80]), .lit (.string [82, 65, 73, 83, 69]), .lit (.string [79, 85, 84]), .lit (.string [73, 78]), .lit (.string [67, 72, 75, 83]), .lit (.string [82, 84, 67]), .lit (.string [88, 79, 82, 73])]

/-- 'pascalinelaw02.InstrTexts': WHATEVER THE INPUT: true; the input reads as it did. -/
def instrTextsSpec : ChangeSpec := { name := "instrTexts", fn := fun _ => fun
  | [d1, d2, d3] => { results := [.lit (.bool true)], args := [d1, d2, d3] }
  | _ => none }
def instrTextsRow : OpenClaim := { program := "ytpjckkcljbnkiaadoor", sum := "379130e4b09cdc30217334b46bc7edd4c674990c48283f15382836139aa38224", func := "pascaline/pascalinelaw02.InstrTexts", spec := "instrTexts", inPlace := ["internal/abi.NoEscape", "internal/bytealg.MakeNoZero", "internal/bytealg.IndexByteString"], named := ["pascaline/instr.shapes", "pascaline/instr.names"], apart := false, laid := [("pascaline/instr.shapes", laid_pascaline_instr_shapes), ("pascaline/instr.names", laid_pascaline_instr_names)] }
def InstrTextsSaid : Prop := instrTextsRow.holds Tryd.pinned (OpenSpec.ofChange instrTextsSpec)

/-- ITS FALSE NEIGHBOUR: 'it returns false'. Refute it at one input. -/
def instrTextsWrong : ChangeSpec := { name := "instrTexts", fn := fun _ => fun
  | [d1, d2, d3] => { results := [.lit (.bool false)], args := [d1, d2, d3] }
  | _ => none }
def InstrTextsWrongFalsely : Prop := instrTextsRow.holds Tryd.pinned (OpenSpec.ofChange instrTextsWrong)

/- THE SECOND FORM. 'bulk': how many values and letters a reading holds, each counted each time it is reached (what is shared counts as often as it is met; a slice's spare places count too). A statement '..UptoSaid' is the law's where the arguments, and the package variables that the reading takes, are together of bulk at most 1048576: NARROWER than '..Said'. Prove '..Said' where nothing that the law and all that it calls make is longer than what came in: it says more and counts as full. Else prove '..UptoSaid'. A law counts once. -/
mutual
def uptoBulk {H : Type} : DataW H → Nat
  | .lit (.string bytes) => bytes.length + 1
  | .lit _ => 1
  | .nil => 1
  | .ptr d => uptoBulk d + 1
  | .slice elems spare => uptoBulkAll elems + uptoBulkAll spare + 1
  | .agg parts => uptoBulkAll parts + 1
  | .iface _ d => uptoBulk d + 1
  | .map entries => uptoBulkEntries entries + 1
  | .held _ => 1
def uptoBulkAll {H : Type} : List (DataW H) → Nat
  | [] => 0
  | d :: r => uptoBulk d + uptoBulkAll r
def uptoBulkEntries {H : Type} : List (Lit × DataW H) → Nat
  | [] => 0
  | x :: r => uptoBulkEntry x + uptoBulkEntries r
def uptoBulkEntry {H : Type} : Lit × DataW H → Nat
  | (.string bytes, d) => bytes.length + uptoBulk d + 1
  | (_, d) => uptoBulk d + 1
 end
def uptoSmall : (H : Type) → List (DataW H) → Bool := fun _ ds => decide (uptoBulkAll ds ≤ 1048576)
def OpenSpec.upto (s : _root_.Go.ChangeSpec) : _root_.Go.OpenSpec := { _root_.Go.OpenSpec.ofChange s with cond := some uptoSmall }

/-- 'pascalinelaw02.InstrTexts', WHERE WHAT IT READS IS OF BULK AT MOST 1048576: true; the input reads as it did. -/
def instrTextsUptoRow : OpenClaim := { program := "ytpjckkcljbnkiaadoor", sum := "379130e4b09cdc30217334b46bc7edd4c674990c48283f15382836139aa38224", func := "pascaline/pascalinelaw02.InstrTexts", spec := "instrTexts", inPlace := ["internal/abi.NoEscape", "internal/bytealg.MakeNoZero", "internal/bytealg.IndexByteString"], named := ["pascaline/instr.shapes", "pascaline/instr.names"], apart := false, laid := [("pascaline/instr.shapes", laid_pascaline_instr_shapes), ("pascaline/instr.names", laid_pascaline_instr_names)], narrowed := true }
def InstrTextsUptoSaid : Prop := instrTextsUptoRow.holds Tryd.pinned (OpenSpec.upto instrTextsSpec)

end Rows
end Go.Proofs.YtpjckkcljbnkiaaDoor
