/-
  NARROWER THAN 'FOR EVERY INPUT', by the rows' own cells (each row's printed sentence says how): EmitPlays: laid · EmitLands: laid · EmitMany: laid.
  DERIVED. THE GIVEN ROWS OF THIS SEAT. 3 by the template 'for every input the law returns true; each argument reads behind the call as it read before'; 0 by the template 'total and deterministic' (their statements: YtcijjmmckofckaaDoorTotals.lean).
  GIVEN WITH THE SEED: the statements are not yours to turn. If you find one false, say at which input.
  Laid BY PROGRAM, IN A SANDBOX (cutbox-rows.mjs): the forced cells as the released guide's own fill.sh prints them over the translation d1125a6baa9474e3… (all of the seat's roots in one cut). By AI agents, Wed Nov 11 2026. No macro, syntax, notation, axiom, sorry.
-/
import Derived.Test.YtcijjmmckofckaaDoorChecked
import GoSem.Claim
import GoSem.ClaimJoined
import GoSem.ClaimMapViews
import Derived.JoinedTies
import Derived.KernelRfl
namespace Go.Proofs.YtcijjmmckofckaaDoor
/- THE CELL 'sum', in the pinned program and in every row, IS THE sha256 OF THE DUMP (.gsa) THAT YtcijjmmckofckaaDoorProg.lean LOADS. Nothing in Lean hashes anything: it is a label: what it is worth is what the hold of that sum in a sandbox is worth. -/
noncomputable def Tryd.pinned : Pinned := { name := "ytcijjmmckofckaadoor", sum := "d1125a6baa9474e3a1a9ee361e91077eff405fbad27565c1584c66f5a4a5f593", checked := Tryd.checked }
namespace Rows
def none {H : Type} : Left H := { results := [], args := [] }

/- WHAT THE LISTED PACKAGE-LEVEL VARIABLES READ AS WHEN THE CALL BEGINS. Each datum BY PROGRAM (the guide's laid-datum.mjs) off the statement by which the dump's own 'gosem.cut.vars' lays the variable. In a bare row this is a premise. The card (YtcijjmmckofckaaDoorCards.lean) ties it to the program's text. -/
def laid_pascaline_instr_shapes {H : Type} : DataW H := .agg [.agg [.lit (.int .i64 0), .lit (.int .i64 0), .lit (.bool false)], .agg [.lit (.int .i64 1), .lit (.int .i64 16), .lit (.bool true)], .agg [.lit (.int .i64 1), .lit (.int .i64 16), .lit (.bool false)], .agg [.lit (.int .i64 2), .lit (.int .i64 16), .lit (.bool true)], .agg [.lit (.int .i64 2), .lit (.int .i64 16), .lit (.bool false)], .agg [.lit (.int .i64 3), .lit (.int .i64 0), .lit (.bool false)], .agg [.lit (.int .i64 1), .lit (.int .i64 0), .lit (.bool false)], .agg [.lit (.int .i64 0), .lit (.int .i64 24), .lit (.bool true)], .agg [.lit (.int .i64 0), .lit (.int .i64 16), .lit (.bool false)]]

/-- 'pascalinelaw17.EmitPlays': WHATEVER THE INPUT: true; the input reads as it did. -/
def emitPlaysSpec : ChangeSpec := { name := "emitPlays", fn := fun _ => fun
  | [d] => { results := [.lit (.bool true)], args := [d] }
  | _ => none }
def emitPlaysRow : OpenClaim := { program := "ytcijjmmckofckaadoor", sum := "d1125a6baa9474e3a1a9ee361e91077eff405fbad27565c1584c66f5a4a5f593", func := "pascaline/pascalinelaw17.EmitPlays", spec := "emitPlays", named := ["pascaline/instr.shapes"], apart := false, laid := [("pascaline/instr.shapes", laid_pascaline_instr_shapes)] }
def EmitPlaysSaid : Prop := emitPlaysRow.holds Tryd.pinned (OpenSpec.ofChange emitPlaysSpec)

/-- ITS FALSE NEIGHBOUR: 'it returns false'. Refute it at one input. -/
def emitPlaysWrong : ChangeSpec := { name := "emitPlays", fn := fun _ => fun
  | [d] => { results := [.lit (.bool false)], args := [d] }
  | _ => none }
def EmitPlaysWrongFalsely : Prop := emitPlaysRow.holds Tryd.pinned (OpenSpec.ofChange emitPlaysWrong)

/-- 'pascalinelaw17.EmitLands': WHATEVER THE INPUT: true; the input reads as it did. -/
def emitLandsSpec : ChangeSpec := { name := "emitLands", fn := fun _ => fun
  | [d1, d2] => { results := [.lit (.bool true)], args := [d1, d2] }
  | _ => none }
def emitLandsRow : OpenClaim := { program := "ytcijjmmckofckaadoor", sum := "d1125a6baa9474e3a1a9ee361e91077eff405fbad27565c1584c66f5a4a5f593", func := "pascaline/pascalinelaw17.EmitLands", spec := "emitLands", named := ["pascaline/instr.shapes"], apart := false, laid := [("pascaline/instr.shapes", laid_pascaline_instr_shapes)] }
def EmitLandsSaid : Prop := emitLandsRow.holds Tryd.pinned (OpenSpec.ofChange emitLandsSpec)

/-- ITS FALSE NEIGHBOUR: 'it returns false'. Refute it at one input. -/
def emitLandsWrong : ChangeSpec := { name := "emitLands", fn := fun _ => fun
  | [d1, d2] => { results := [.lit (.bool false)], args := [d1, d2] }
  | _ => none }
def EmitLandsWrongFalsely : Prop := emitLandsRow.holds Tryd.pinned (OpenSpec.ofChange emitLandsWrong)

/-- 'pascalinelaw17.EmitMany': WHATEVER THE INPUT: true; the input reads as it did. -/
def emitManySpec : ChangeSpec := { name := "emitMany", fn := fun _ => fun
  | [d] => { results := [.lit (.bool true)], args := [d] }
  | _ => none }
def emitManyRow : OpenClaim := { program := "ytcijjmmckofckaadoor", sum := "d1125a6baa9474e3a1a9ee361e91077eff405fbad27565c1584c66f5a4a5f593", func := "pascaline/pascalinelaw17.EmitMany", spec := "emitMany", named := ["pascaline/instr.shapes"], apart := false, laid := [("pascaline/instr.shapes", laid_pascaline_instr_shapes)] }
def EmitManySaid : Prop := emitManyRow.holds Tryd.pinned (OpenSpec.ofChange emitManySpec)

/-- ITS FALSE NEIGHBOUR: 'it returns false'. Refute it at one input. -/
def emitManyWrong : ChangeSpec := { name := "emitMany", fn := fun _ => fun
  | [d] => { results := [.lit (.bool false)], args := [d] }
  | _ => none }
def EmitManyWrongFalsely : Prop := emitManyRow.holds Tryd.pinned (OpenSpec.ofChange emitManyWrong)

/- THE SECOND FORM. 'bulk': how many values and letters a reading holds, each counted each time it is reached (what is shared counts as often as it is met; a slice's spare places count too). A statement '..UptoSaid' is the law's where the arguments, and the package variables that the reading takes, are together of bulk at most 1048576: NARROWER than '..Said'. Prove '..Said' where nothing that the law and all that it calls make is longer than what came in: it says more and counts as full. Else prove '..UptoSaid'. A law counts once. -/
mutual
def uptoBulk {H : Type} : DataW H → Nat
  | .lit (.string bytes) => bytes.length + 1
  | .lit _ => 1
  | .nil => 1
  | .ptr d => uptoBulk d + 1
  | .slice elems spare => uptoBulkAll elems + uptoBulkAll spare + 1
  | .agg parts => uptoBulkAll parts + 1
  | .iface _ d => uptoBulk d + 1
  | .map entries => uptoBulkEntries entries + 1
  | .held _ => 1
def uptoBulkAll {H : Type} : List (DataW H) → Nat
  | [] => 0
  | d :: r => uptoBulk d + uptoBulkAll r
def uptoBulkEntries {H : Type} : List (Lit × DataW H) → Nat
  | [] => 0
  | x :: r => uptoBulkEntry x + uptoBulkEntries r
def uptoBulkEntry {H : Type} : Lit × DataW H → Nat
  | (.string bytes, d) => bytes.length + uptoBulk d + 1
  | (_, d) => uptoBulk d + 1
 end
def uptoSmall : (H : Type) → List (DataW H) → Bool := fun _ ds => decide (uptoBulkAll ds ≤ 1048576)
def OpenSpec.upto (s : _root_.Go.ChangeSpec) : _root_.Go.OpenSpec := { _root_.Go.OpenSpec.ofChange s with cond := some uptoSmall }

/-- 'pascalinelaw17.EmitPlays', WHERE WHAT IT READS IS OF BULK AT MOST 1048576: true; the input reads as it did. -/
def emitPlaysUptoRow : OpenClaim := { program := "ytcijjmmckofckaadoor", sum := "d1125a6baa9474e3a1a9ee361e91077eff405fbad27565c1584c66f5a4a5f593", func := "pascaline/pascalinelaw17.EmitPlays", spec := "emitPlays", named := ["pascaline/instr.shapes"], apart := false, laid := [("pascaline/instr.shapes", laid_pascaline_instr_shapes)], narrowed := true }
def EmitPlaysUptoSaid : Prop := emitPlaysUptoRow.holds Tryd.pinned (OpenSpec.upto emitPlaysSpec)

/-- 'pascalinelaw17.EmitLands', WHERE WHAT IT READS IS OF BULK AT MOST 1048576: true; the input reads as it did. -/
def emitLandsUptoRow : OpenClaim := { program := "ytcijjmmckofckaadoor", sum := "d1125a6baa9474e3a1a9ee361e91077eff405fbad27565c1584c66f5a4a5f593", func := "pascaline/pascalinelaw17.EmitLands", spec := "emitLands", named := ["pascaline/instr.shapes"], apart := false, laid := [("pascaline/instr.shapes", laid_pascaline_instr_shapes)], narrowed := true }
def EmitLandsUptoSaid : Prop := emitLandsUptoRow.holds Tryd.pinned (OpenSpec.upto emitLandsSpec)

/-- 'pascalinelaw17.EmitMany', WHERE WHAT IT READS IS OF BULK AT MOST 1048576: true; the input reads as it did. -/
def emitManyUptoRow : OpenClaim := { program := "ytcijjmmckofckaadoor", sum := "d1125a6baa9474e3a1a9ee361e91077eff405fbad27565c1584c66f5a4a5f593", func := "pascaline/pascalinelaw17.EmitMany", spec := "emitMany", named := ["pascaline/instr.shapes"], apart := false, laid := [("pascaline/instr.shapes", laid_pascaline_instr_shapes)], narrowed := true }
def EmitManyUptoSaid : Prop := emitManyUptoRow.holds Tryd.pinned (OpenSpec.upto emitManySpec)

end Rows
end Go.Proofs.YtcijjmmckofckaaDoor
