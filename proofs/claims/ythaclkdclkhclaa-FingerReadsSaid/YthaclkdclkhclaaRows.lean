/-
  No cell of these rows narrows 'for every input' (looked for: loops, veiled, ifaces, maps, wideKeys, modest, calm, conditions, laid).
  DERIVED. THE GIVEN ROWS OF THIS SEAT. 4 by the template 'for every input the law returns true; each argument reads behind the call as it read before'; 0 by the template 'total and deterministic' (their statements: YthaclkdclkhclaaTotals.lean).
  GIVEN WITH THE SEED: the statements are not yours to turn. If you find one false, say at which input.
  Laid BY PROGRAM, IN A SANDBOX (cutbox-rows.mjs): the forced cells as the released guide's own fill.sh prints them over the translation 207512800bdf24de… (all of the seat's roots in one cut). By AI agents, Wed Nov 11 2026. No macro, syntax, notation, axiom, sorry.
-/
import Derived.Test.YthaclkdclkhclaaChecked
import GoSem.Claim
import GoSem.ClaimJoined
import GoSem.ClaimMapViews
import Derived.JoinedTies
import Derived.KernelRfl
namespace Go.Proofs.Ythaclkdclkhclaa
/- THE CELL 'sum', in the pinned program and in every row, IS THE sha256 OF THE DUMP (.gsa) THAT YthaclkdclkhclaaProg.lean LOADS. Nothing in Lean hashes anything: it is a label: what it is worth is what the hold of that sum in a sandbox is worth. -/
noncomputable def Try.pinned : Pinned := { name := "ythaclkdclkhclaa", sum := "207512800bdf24def384d36e849ebc896165ec36687fbcfa843936c09c9f6286", checked := Try.checked }
namespace Rows
def none {H : Type} : Left H := { results := [], args := [] }

/-- 'pascalinelaw13.FingerSums': WHATEVER THE INPUT: true; the input reads as it did. -/
def fingerSumsSpec : ChangeSpec := { name := "fingerSums", fn := fun _ => fun
  | [d1, d2] => { results := [.lit (.bool true)], args := [d1, d2] }
  | _ => none }
def fingerSumsRow : OpenClaim := { program := "ythaclkdclkhclaa", sum := "207512800bdf24def384d36e849ebc896165ec36687fbcfa843936c09c9f6286", func := "pascaline/pascalinelaw13.FingerSums", spec := "fingerSums", apart := false }
def FingerSumsSaid : Prop := fingerSumsRow.holds Try.pinned (OpenSpec.ofChange fingerSumsSpec)

/-- ITS FALSE NEIGHBOUR: 'it returns false'. Refute it at one input. -/
def fingerSumsWrong : ChangeSpec := { name := "fingerSums", fn := fun _ => fun
  | [d1, d2] => { results := [.lit (.bool false)], args := [d1, d2] }
  | _ => none }
def FingerSumsWrongFalsely : Prop := fingerSumsRow.holds Try.pinned (OpenSpec.ofChange fingerSumsWrong)

/-- 'pascalinelaw13.FingerKeys': WHATEVER THE INPUT: true; the input reads as it did. -/
def fingerKeysSpec : ChangeSpec := { name := "fingerKeys", fn := fun _ => fun
  | [d1, d2] => { results := [.lit (.bool true)], args := [d1, d2] }
  | _ => none }
def fingerKeysRow : OpenClaim := { program := "ythaclkdclkhclaa", sum := "207512800bdf24def384d36e849ebc896165ec36687fbcfa843936c09c9f6286", func := "pascaline/pascalinelaw13.FingerKeys", spec := "fingerKeys", apart := false }
def FingerKeysSaid : Prop := fingerKeysRow.holds Try.pinned (OpenSpec.ofChange fingerKeysSpec)

/-- ITS FALSE NEIGHBOUR: 'it returns false'. Refute it at one input. -/
def fingerKeysWrong : ChangeSpec := { name := "fingerKeys", fn := fun _ => fun
  | [d1, d2] => { results := [.lit (.bool false)], args := [d1, d2] }
  | _ => none }
def FingerKeysWrongFalsely : Prop := fingerKeysRow.holds Try.pinned (OpenSpec.ofChange fingerKeysWrong)

/-- 'pascalinelaw13.FingerReads': WHATEVER THE INPUT: true; the input reads as it did. -/
def fingerReadsSpec : ChangeSpec := { name := "fingerReads", fn := fun _ => fun
  | [d] => { results := [.lit (.bool true)], args := [d] }
  | _ => none }
def fingerReadsRow : OpenClaim := { program := "ythaclkdclkhclaa", sum := "207512800bdf24def384d36e849ebc896165ec36687fbcfa843936c09c9f6286", func := "pascaline/pascalinelaw13.FingerReads", spec := "fingerReads", apart := false }
def FingerReadsSaid : Prop := fingerReadsRow.holds Try.pinned (OpenSpec.ofChange fingerReadsSpec)

/-- ITS FALSE NEIGHBOUR: 'it returns false'. Refute it at one input. -/
def fingerReadsWrong : ChangeSpec := { name := "fingerReads", fn := fun _ => fun
  | [d] => { results := [.lit (.bool false)], args := [d] }
  | _ => none }
def FingerReadsWrongFalsely : Prop := fingerReadsRow.holds Try.pinned (OpenSpec.ofChange fingerReadsWrong)

/-- 'pascalinelaw13.FingerSame': WHATEVER THE INPUT: true; the input reads as it did. -/
def fingerSameSpec : ChangeSpec := { name := "fingerSame", fn := fun _ => fun
  | [d1, d2, d3] => { results := [.lit (.bool true)], args := [d1, d2, d3] }
  | _ => none }
def fingerSameRow : OpenClaim := { program := "ythaclkdclkhclaa", sum := "207512800bdf24def384d36e849ebc896165ec36687fbcfa843936c09c9f6286", func := "pascaline/pascalinelaw13.FingerSame", spec := "fingerSame", unfollowed := true, recurses := true, apart := false }
def FingerSameSaid : Prop := fingerSameRow.holds Try.pinned (OpenSpec.ofChange fingerSameSpec)

/-- ITS FALSE NEIGHBOUR: 'it returns false'. Refute it at one input. -/
def fingerSameWrong : ChangeSpec := { name := "fingerSame", fn := fun _ => fun
  | [d1, d2, d3] => { results := [.lit (.bool false)], args := [d1, d2, d3] }
  | _ => none }
def FingerSameWrongFalsely : Prop := fingerSameRow.holds Try.pinned (OpenSpec.ofChange fingerSameWrong)

/- THE SECOND FORM. 'bulk': how many values and letters a reading holds, each counted each time it is reached (what is shared counts as often as it is met; a slice's spare places count too). A statement '..UptoSaid' is the law's where the arguments, and the package variables that the reading takes, are together of bulk at most 1048576: NARROWER than '..Said'. Prove '..Said' where nothing that the law and all that it calls make is longer than what came in: it says more and counts as full. Else prove '..UptoSaid'. A law counts once. -/
mutual
def uptoBulk {H : Type} : DataW H → Nat
  | .lit (.string bytes) => bytes.length + 1
  | .lit _ => 1
  | .nil => 1
  | .ptr d => uptoBulk d + 1
  | .slice elems spare => uptoBulkAll elems + uptoBulkAll spare + 1
  | .agg parts => uptoBulkAll parts + 1
  | .iface _ d => uptoBulk d + 1
  | .map entries => uptoBulkEntries entries + 1
  | .held _ => 1
def uptoBulkAll {H : Type} : List (DataW H) → Nat
  | [] => 0
  | d :: r => uptoBulk d + uptoBulkAll r
def uptoBulkEntries {H : Type} : List (Lit × DataW H) → Nat
  | [] => 0
  | x :: r => uptoBulkEntry x + uptoBulkEntries r
def uptoBulkEntry {H : Type} : Lit × DataW H → Nat
  | (.string bytes, d) => bytes.length + uptoBulk d + 1
  | (_, d) => uptoBulk d + 1
 end
def uptoSmall : (H : Type) → List (DataW H) → Bool := fun _ ds => decide (uptoBulkAll ds ≤ 1048576)
def OpenSpec.upto (s : _root_.Go.ChangeSpec) : _root_.Go.OpenSpec := { _root_.Go.OpenSpec.ofChange s with cond := some uptoSmall }

/-- 'pascalinelaw13.FingerSums', WHERE WHAT IT READS IS OF BULK AT MOST 1048576: true; the input reads as it did. -/
def fingerSumsUptoRow : OpenClaim := { program := "ythaclkdclkhclaa", sum := "207512800bdf24def384d36e849ebc896165ec36687fbcfa843936c09c9f6286", func := "pascaline/pascalinelaw13.FingerSums", spec := "fingerSums", apart := false, narrowed := true }
def FingerSumsUptoSaid : Prop := fingerSumsUptoRow.holds Try.pinned (OpenSpec.upto fingerSumsSpec)

/-- 'pascalinelaw13.FingerKeys', WHERE WHAT IT READS IS OF BULK AT MOST 1048576: true; the input reads as it did. -/
def fingerKeysUptoRow : OpenClaim := { program := "ythaclkdclkhclaa", sum := "207512800bdf24def384d36e849ebc896165ec36687fbcfa843936c09c9f6286", func := "pascaline/pascalinelaw13.FingerKeys", spec := "fingerKeys", apart := false, narrowed := true }
def FingerKeysUptoSaid : Prop := fingerKeysUptoRow.holds Try.pinned (OpenSpec.upto fingerKeysSpec)

/-- 'pascalinelaw13.FingerReads', WHERE WHAT IT READS IS OF BULK AT MOST 1048576: true; the input reads as it did. -/
def fingerReadsUptoRow : OpenClaim := { program := "ythaclkdclkhclaa", sum := "207512800bdf24def384d36e849ebc896165ec36687fbcfa843936c09c9f6286", func := "pascaline/pascalinelaw13.FingerReads", spec := "fingerReads", apart := false, narrowed := true }
def FingerReadsUptoSaid : Prop := fingerReadsUptoRow.holds Try.pinned (OpenSpec.upto fingerReadsSpec)

/-- 'pascalinelaw13.FingerSame', WHERE WHAT IT READS IS OF BULK AT MOST 1048576: true; the input reads as it did. -/
def fingerSameUptoRow : OpenClaim := { program := "ythaclkdclkhclaa", sum := "207512800bdf24def384d36e849ebc896165ec36687fbcfa843936c09c9f6286", func := "pascaline/pascalinelaw13.FingerSame", spec := "fingerSame", unfollowed := true, recurses := true, apart := false, narrowed := true }
def FingerSameUptoSaid : Prop := fingerSameUptoRow.holds Try.pinned (OpenSpec.upto fingerSameSpec)

end Rows
end Go.Proofs.Ythaclkdclkhclaa
