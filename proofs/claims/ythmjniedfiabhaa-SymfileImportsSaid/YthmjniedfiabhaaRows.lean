/-
  No cell of these rows narrows 'for every input' (looked for: loops, veiled, ifaces, maps, wideKeys, modest, calm, conditions, laid).
  DERIVED. THE GIVEN ROWS OF THIS SEAT. 4 by the template 'for every input the law returns true; each argument reads behind the call as it read before'; 0 by the template 'total and deterministic' (their statements: YthmjniedfiabhaaTotals.lean).
  GIVEN WITH THE SEED: the statements are not yours to turn. If you find one false, say at which input.
  Laid BY PROGRAM, IN A SANDBOX (cutbox-rows.mjs): the forced cells as the released guide's own fill.sh prints them over the translation 3a3c634076d18314… (all of the seat's roots in one cut). By AI agents, Wed Nov 11 2026. No macro, syntax, notation, axiom, sorry.
-/
import Derived.Test.YthmjniedfiabhaaChecked
import GoSem.Claim
import GoSem.ClaimJoined
import GoSem.ClaimMapViews
import Derived.JoinedTies
import Derived.KernelRfl
namespace Go.Proofs.Ythmjniedfiabhaa
/- THE CELL 'sum', in the pinned program and in every row, IS THE sha256 OF THE DUMP (.gsa) THAT YthmjniedfiabhaaProg.lean LOADS. Nothing in Lean hashes anything: it is a label: what it is worth is what the hold of that sum in a sandbox is worth. -/
noncomputable def Try.pinned : Pinned := { name := "ythmjniedfiabhaa", sum := "3a3c634076d183149df6f1b7c61131a2887571a2552ec857726a5a34f5477493", checked := Try.checked }
namespace Rows
def none {H : Type} : Left H := { results := [], args := [] }

/-- 'pascalinelaw14.SymfileChecks': WHATEVER THE INPUT: true; the input reads as it did. -/
def symfileChecksSpec : ChangeSpec := { name := "symfileChecks", fn := fun _ => fun
  | [d] => { results := [.lit (.bool true)], args := [d] }
  | _ => none }
def symfileChecksRow : OpenClaim := { program := "ythmjniedfiabhaa", sum := "3a3c634076d183149df6f1b7c61131a2887571a2552ec857726a5a34f5477493", func := "pascaline/pascalinelaw14.SymfileChecks", spec := "symfileChecks", apart := false }
def SymfileChecksSaid : Prop := symfileChecksRow.holds Try.pinned (OpenSpec.ofChange symfileChecksSpec)

/-- ITS FALSE NEIGHBOUR: 'it returns false'. Refute it at one input. -/
def symfileChecksWrong : ChangeSpec := { name := "symfileChecks", fn := fun _ => fun
  | [d] => { results := [.lit (.bool false)], args := [d] }
  | _ => none }
def SymfileChecksWrongFalsely : Prop := symfileChecksRow.holds Try.pinned (OpenSpec.ofChange symfileChecksWrong)

/-- 'pascalinelaw14.SymfileBytes': WHATEVER THE INPUT: true; the input reads as it did. -/
def symfileBytesSpec : ChangeSpec := { name := "symfileBytes", fn := fun _ => fun
  | [d] => { results := [.lit (.bool true)], args := [d] }
  | _ => none }
def symfileBytesRow : OpenClaim := { program := "ythmjniedfiabhaa", sum := "3a3c634076d183149df6f1b7c61131a2887571a2552ec857726a5a34f5477493", func := "pascaline/pascalinelaw14.SymfileBytes", spec := "symfileBytes", unfollowed := true, recurses := true, apart := false }
def SymfileBytesSaid : Prop := symfileBytesRow.holds Try.pinned (OpenSpec.ofChange symfileBytesSpec)

/-- ITS FALSE NEIGHBOUR: 'it returns false'. Refute it at one input. -/
def symfileBytesWrong : ChangeSpec := { name := "symfileBytes", fn := fun _ => fun
  | [d] => { results := [.lit (.bool false)], args := [d] }
  | _ => none }
def SymfileBytesWrongFalsely : Prop := symfileBytesRow.holds Try.pinned (OpenSpec.ofChange symfileBytesWrong)

/-- 'pascalinelaw14.SymfileMakes': WHATEVER THE INPUT: true; the input reads as it did. -/
def symfileMakesSpec : ChangeSpec := { name := "symfileMakes", fn := fun _ => fun
  | [d1, d2] => { results := [.lit (.bool true)], args := [d1, d2] }
  | _ => none }
def symfileMakesRow : OpenClaim := { program := "ythmjniedfiabhaa", sum := "3a3c634076d183149df6f1b7c61131a2887571a2552ec857726a5a34f5477493", func := "pascaline/pascalinelaw14.SymfileMakes", spec := "symfileMakes", unfollowed := true, recurses := true, apart := false }
def SymfileMakesSaid : Prop := symfileMakesRow.holds Try.pinned (OpenSpec.ofChange symfileMakesSpec)

/-- ITS FALSE NEIGHBOUR: 'it returns false'. Refute it at one input. -/
def symfileMakesWrong : ChangeSpec := { name := "symfileMakes", fn := fun _ => fun
  | [d1, d2] => { results := [.lit (.bool false)], args := [d1, d2] }
  | _ => none }
def SymfileMakesWrongFalsely : Prop := symfileMakesRow.holds Try.pinned (OpenSpec.ofChange symfileMakesWrong)

/-- 'pascalinelaw14.SymfileImports': WHATEVER THE INPUT: true; the input reads as it did. -/
def symfileImportsSpec : ChangeSpec := { name := "symfileImports", fn := fun _ => fun
  | [d1, d2] => { results := [.lit (.bool true)], args := [d1, d2] }
  | _ => none }
def symfileImportsRow : OpenClaim := { program := "ythmjniedfiabhaa", sum := "3a3c634076d183149df6f1b7c61131a2887571a2552ec857726a5a34f5477493", func := "pascaline/pascalinelaw14.SymfileImports", spec := "symfileImports", apart := false }
def SymfileImportsSaid : Prop := symfileImportsRow.holds Try.pinned (OpenSpec.ofChange symfileImportsSpec)

/-- ITS FALSE NEIGHBOUR: 'it returns false'. Refute it at one input. -/
def symfileImportsWrong : ChangeSpec := { name := "symfileImports", fn := fun _ => fun
  | [d1, d2] => { results := [.lit (.bool false)], args := [d1, d2] }
  | _ => none }
def SymfileImportsWrongFalsely : Prop := symfileImportsRow.holds Try.pinned (OpenSpec.ofChange symfileImportsWrong)

/- THE SECOND FORM. 'bulk': how many values and letters a reading holds, each counted each time it is reached (what is shared counts as often as it is met; a slice's spare places count too). A statement '..UptoSaid' is the law's where the arguments, and the package variables that the reading takes, are together of bulk at most 1048576: NARROWER than '..Said'. Prove '..Said' where nothing that the law and all that it calls make is longer than what came in: it says more and counts as full. Else prove '..UptoSaid'. A law counts once. -/
mutual
def uptoBulk {H : Type} : DataW H → Nat
  | .lit (.string bytes) => bytes.length + 1
  | .lit _ => 1
  | .nil => 1
  | .ptr d => uptoBulk d + 1
  | .slice elems spare => uptoBulkAll elems + uptoBulkAll spare + 1
  | .agg parts => uptoBulkAll parts + 1
  | .iface _ d => uptoBulk d + 1
  | .map entries => uptoBulkEntries entries + 1
  | .held _ => 1
def uptoBulkAll {H : Type} : List (DataW H) → Nat
  | [] => 0
  | d :: r => uptoBulk d + uptoBulkAll r
def uptoBulkEntries {H : Type} : List (Lit × DataW H) → Nat
  | [] => 0
  | x :: r => uptoBulkEntry x + uptoBulkEntries r
def uptoBulkEntry {H : Type} : Lit × DataW H → Nat
  | (.string bytes, d) => bytes.length + uptoBulk d + 1
  | (_, d) => uptoBulk d + 1
 end
def uptoSmall : (H : Type) → List (DataW H) → Bool := fun _ ds => decide (uptoBulkAll ds ≤ 1048576)
def OpenSpec.upto (s : _root_.Go.ChangeSpec) : _root_.Go.OpenSpec := { _root_.Go.OpenSpec.ofChange s with cond := some uptoSmall }

/-- 'pascalinelaw14.SymfileChecks', WHERE WHAT IT READS IS OF BULK AT MOST 1048576: true; the input reads as it did. -/
def symfileChecksUptoRow : OpenClaim := { program := "ythmjniedfiabhaa", sum := "3a3c634076d183149df6f1b7c61131a2887571a2552ec857726a5a34f5477493", func := "pascaline/pascalinelaw14.SymfileChecks", spec := "symfileChecks", apart := false, narrowed := true }
def SymfileChecksUptoSaid : Prop := symfileChecksUptoRow.holds Try.pinned (OpenSpec.upto symfileChecksSpec)

/-- 'pascalinelaw14.SymfileBytes', WHERE WHAT IT READS IS OF BULK AT MOST 1048576: true; the input reads as it did. -/
def symfileBytesUptoRow : OpenClaim := { program := "ythmjniedfiabhaa", sum := "3a3c634076d183149df6f1b7c61131a2887571a2552ec857726a5a34f5477493", func := "pascaline/pascalinelaw14.SymfileBytes", spec := "symfileBytes", unfollowed := true, recurses := true, apart := false, narrowed := true }
def SymfileBytesUptoSaid : Prop := symfileBytesUptoRow.holds Try.pinned (OpenSpec.upto symfileBytesSpec)

/-- 'pascalinelaw14.SymfileMakes', WHERE WHAT IT READS IS OF BULK AT MOST 1048576: true; the input reads as it did. -/
def symfileMakesUptoRow : OpenClaim := { program := "ythmjniedfiabhaa", sum := "3a3c634076d183149df6f1b7c61131a2887571a2552ec857726a5a34f5477493", func := "pascaline/pascalinelaw14.SymfileMakes", spec := "symfileMakes", unfollowed := true, recurses := true, apart := false, narrowed := true }
def SymfileMakesUptoSaid : Prop := symfileMakesUptoRow.holds Try.pinned (OpenSpec.upto symfileMakesSpec)

/-- 'pascalinelaw14.SymfileImports', WHERE WHAT IT READS IS OF BULK AT MOST 1048576: true; the input reads as it did. -/
def symfileImportsUptoRow : OpenClaim := { program := "ythmjniedfiabhaa", sum := "3a3c634076d183149df6f1b7c61131a2887571a2552ec857726a5a34f5477493", func := "pascaline/pascalinelaw14.SymfileImports", spec := "symfileImports", apart := false, narrowed := true }
def SymfileImportsUptoSaid : Prop := symfileImportsUptoRow.holds Try.pinned (OpenSpec.upto symfileImportsSpec)

end Rows
end Go.Proofs.Ythmjniedfiabhaa
