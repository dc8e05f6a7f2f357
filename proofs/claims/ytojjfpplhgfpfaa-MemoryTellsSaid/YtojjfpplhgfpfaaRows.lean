/-
  No cell of these rows narrows 'for every input' (looked for: loops, veiled, ifaces, maps, wideKeys, modest, calm, conditions, laid).
  DERIVED. THE GIVEN ROWS OF THIS SEAT. 4 by the template 'for every input the law returns true; each argument reads behind the call as it read before'; 0 by the template 'total and deterministic' (their statements: YtojjfpplhgfpfaaTotals.lean).
  GIVEN WITH THE SEED: the statements are not yours to turn. If you find one false, say at which input.
  Laid BY PROGRAM, IN A SANDBOX (cutbox-rows.mjs): the forced cells as the released guide's own fill.sh prints them over the translation 644be464a62640a2… (all of the seat's roots in one cut). By AI agents, Wed Nov 11 2026. No macro, syntax, notation, axiom, sorry.
-/
import Derived.Test.YtojjfpplhgfpfaaChecked
import GoSem.Claim
import GoSem.ClaimJoined
import GoSem.ClaimMapViews
import Derived.JoinedTies
import Derived.KernelRfl
namespace Go.Proofs.Ytojjfpplhgfpfaa
/- THE CELL 'sum', in the pinned program and in every row, IS THE sha256 OF THE DUMP (.gsa) THAT YtojjfpplhgfpfaaProg.lean LOADS. Nothing in Lean hashes anything: it is a label: what it is worth is what the hold of that sum in a sandbox is worth. -/
noncomputable def Try.pinned : Pinned := { name := "ytojjfpplhgfpfaa", sum := "644be464a62640a2787f76fefc051e9d87427b5f143d98d44408788470c160f8", checked := Try.checked }
namespace Rows
def none {H : Type} : Left H := { results := [], args := [] }

/-- 'pascalinelaw03.MemoryPlays': WHATEVER THE INPUT: true; the input reads as it did. -/
def memoryPlaysSpec : ChangeSpec := { name := "memoryPlays", fn := fun _ => fun
  | [d1, d2] => { results := [.lit (.bool true)], args := [d1, d2] }
  | _ => none }
def memoryPlaysRow : OpenClaim := { program := "ytojjfpplhgfpfaa", sum := "644be464a62640a2787f76fefc051e9d87427b5f143d98d44408788470c160f8", func := "pascaline/pascalinelaw03.MemoryPlays", spec := "memoryPlays", apart := false }
def MemoryPlaysSaid : Prop := memoryPlaysRow.holds Try.pinned (OpenSpec.ofChange memoryPlaysSpec)

/-- ITS FALSE NEIGHBOUR: 'it returns false'. Refute it at one input. -/
def memoryPlaysWrong : ChangeSpec := { name := "memoryPlays", fn := fun _ => fun
  | [d1, d2] => { results := [.lit (.bool false)], args := [d1, d2] }
  | _ => none }
def MemoryPlaysWrongFalsely : Prop := memoryPlaysRow.holds Try.pinned (OpenSpec.ofChange memoryPlaysWrong)

/-- 'pascalinelaw03.MemoryTells': WHATEVER THE INPUT: true; the input reads as it did. -/
def memoryTellsSpec : ChangeSpec := { name := "memoryTells", fn := fun _ => fun
  | [d1, d2, d3] => { results := [.lit (.bool true)], args := [d1, d2, d3] }
  | _ => none }
def memoryTellsRow : OpenClaim := { program := "ytojjfpplhgfpfaa", sum := "644be464a62640a2787f76fefc051e9d87427b5f143d98d44408788470c160f8", func := "pascaline/pascalinelaw03.MemoryTells", spec := "memoryTells", apart := false }
def MemoryTellsSaid : Prop := memoryTellsRow.holds Try.pinned (OpenSpec.ofChange memoryTellsSpec)

/-- ITS FALSE NEIGHBOUR: 'it returns false'. Refute it at one input. -/
def memoryTellsWrong : ChangeSpec := { name := "memoryTells", fn := fun _ => fun
  | [d1, d2, d3] => { results := [.lit (.bool false)], args := [d1, d2, d3] }
  | _ => none }
def MemoryTellsWrongFalsely : Prop := memoryTellsRow.holds Try.pinned (OpenSpec.ofChange memoryTellsWrong)

/-- 'pascalinelaw03.MemoryDiffers': WHATEVER THE INPUT: true; the input reads as it did. -/
def memoryDiffersSpec : ChangeSpec := { name := "memoryDiffers", fn := fun _ => fun
  | [d1, d2, d3] => { results := [.lit (.bool true)], args := [d1, d2, d3] }
  | _ => none }
def memoryDiffersRow : OpenClaim := { program := "ytojjfpplhgfpfaa", sum := "644be464a62640a2787f76fefc051e9d87427b5f143d98d44408788470c160f8", func := "pascaline/pascalinelaw03.MemoryDiffers", spec := "memoryDiffers", apart := false }
def MemoryDiffersSaid : Prop := memoryDiffersRow.holds Try.pinned (OpenSpec.ofChange memoryDiffersSpec)

/-- ITS FALSE NEIGHBOUR: 'it returns false'. Refute it at one input. -/
def memoryDiffersWrong : ChangeSpec := { name := "memoryDiffers", fn := fun _ => fun
  | [d1, d2, d3] => { results := [.lit (.bool false)], args := [d1, d2, d3] }
  | _ => none }
def MemoryDiffersWrongFalsely : Prop := memoryDiffersRow.holds Try.pinned (OpenSpec.ofChange memoryDiffersWrong)

/-- 'pascalinelaw03.MemoryGuards': WHATEVER THE INPUT: true; the input reads as it did. -/
def memoryGuardsSpec : ChangeSpec := { name := "memoryGuards", fn := fun _ => fun
  | [d1, d2, d3] => { results := [.lit (.bool true)], args := [d1, d2, d3] }
  | _ => none }
def memoryGuardsRow : OpenClaim := { program := "ytojjfpplhgfpfaa", sum := "644be464a62640a2787f76fefc051e9d87427b5f143d98d44408788470c160f8", func := "pascaline/pascalinelaw03.MemoryGuards", spec := "memoryGuards", apart := false }
def MemoryGuardsSaid : Prop := memoryGuardsRow.holds Try.pinned (OpenSpec.ofChange memoryGuardsSpec)

/-- ITS FALSE NEIGHBOUR: 'it returns false'. Refute it at one input. -/
def memoryGuardsWrong : ChangeSpec := { name := "memoryGuards", fn := fun _ => fun
  | [d1, d2, d3] => { results := [.lit (.bool false)], args := [d1, d2, d3] }
  | _ => none }
def MemoryGuardsWrongFalsely : Prop := memoryGuardsRow.holds Try.pinned (OpenSpec.ofChange memoryGuardsWrong)

/- THE SECOND FORM. 'bulk': how many values and letters a reading holds, each counted each time it is reached (what is shared counts as often as it is met; a slice's spare places count too). A statement '..UptoSaid' is the law's where the arguments, and the package variables that the reading takes, are together of bulk at most 1048576: NARROWER than '..Said'. Prove '..Said' where nothing that the law and all that it calls make is longer than what came in: it says more and counts as full. Else prove '..UptoSaid'. A law counts once. -/
mutual
def uptoBulk {H : Type} : DataW H → Nat
  | .lit (.string bytes) => bytes.length + 1
  | .lit _ => 1
  | .nil => 1
  | .ptr d => uptoBulk d + 1
  | .slice elems spare => uptoBulkAll elems + uptoBulkAll spare + 1
  | .agg parts => uptoBulkAll parts + 1
  | .iface _ d => uptoBulk d + 1
  | .map entries => uptoBulkEntries entries + 1
  | .held _ => 1
def uptoBulkAll {H : Type} : List (DataW H) → Nat
  | [] => 0
  | d :: r => uptoBulk d + uptoBulkAll r
def uptoBulkEntries {H : Type} : List (Lit × DataW H) → Nat
  | [] => 0
  | x :: r => uptoBulkEntry x + uptoBulkEntries r
def uptoBulkEntry {H : Type} : Lit × DataW H → Nat
  | (.string bytes, d) => bytes.length + uptoBulk d + 1
  | (_, d) => uptoBulk d + 1
 end
def uptoSmall : (H : Type) → List (DataW H) → Bool := fun _ ds => decide (uptoBulkAll ds ≤ 1048576)
def OpenSpec.upto (s : _root_.Go.ChangeSpec) : _root_.Go.OpenSpec := { _root_.Go.OpenSpec.ofChange s with cond := some uptoSmall }

/-- 'pascalinelaw03.MemoryPlays', WHERE WHAT IT READS IS OF BULK AT MOST 1048576: true; the input reads as it did. -/
def memoryPlaysUptoRow : OpenClaim := { program := "ytojjfpplhgfpfaa", sum := "644be464a62640a2787f76fefc051e9d87427b5f143d98d44408788470c160f8", func := "pascaline/pascalinelaw03.MemoryPlays", spec := "memoryPlays", apart := false, narrowed := true }
def MemoryPlaysUptoSaid : Prop := memoryPlaysUptoRow.holds Try.pinned (OpenSpec.upto memoryPlaysSpec)

/-- 'pascalinelaw03.MemoryTells', WHERE WHAT IT READS IS OF BULK AT MOST 1048576: true; the input reads as it did. -/
def memoryTellsUptoRow : OpenClaim := { program := "ytojjfpplhgfpfaa", sum := "644be464a62640a2787f76fefc051e9d87427b5f143d98d44408788470c160f8", func := "pascaline/pascalinelaw03.MemoryTells", spec := "memoryTells", apart := false, narrowed := true }
def MemoryTellsUptoSaid : Prop := memoryTellsUptoRow.holds Try.pinned (OpenSpec.upto memoryTellsSpec)

/-- 'pascalinelaw03.MemoryDiffers', WHERE WHAT IT READS IS OF BULK AT MOST 1048576: true; the input reads as it did. -/
def memoryDiffersUptoRow : OpenClaim := { program := "ytojjfpplhgfpfaa", sum := "644be464a62640a2787f76fefc051e9d87427b5f143d98d44408788470c160f8", func := "pascaline/pascalinelaw03.MemoryDiffers", spec := "memoryDiffers", apart := false, narrowed := true }
def MemoryDiffersUptoSaid : Prop := memoryDiffersUptoRow.holds Try.pinned (OpenSpec.upto memoryDiffersSpec)

/-- 'pascalinelaw03.MemoryGuards', WHERE WHAT IT READS IS OF BULK AT MOST 1048576: true; the input reads as it did. -/
def memoryGuardsUptoRow : OpenClaim := { program := "ytojjfpplhgfpfaa", sum := "644be464a62640a2787f76fefc051e9d87427b5f143d98d44408788470c160f8", func := "pascaline/pascalinelaw03.MemoryGuards", spec := "memoryGuards", apart := false, narrowed := true }
def MemoryGuardsUptoSaid : Prop := memoryGuardsUptoRow.holds Try.pinned (OpenSpec.upto memoryGuardsSpec)

end Rows
end Go.Proofs.Ytojjfpplhgfpfaa
