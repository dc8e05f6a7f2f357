/- Contracts of package word's texts: Hex. -/
import Derived.Test.YtmgjnalijmplcaaWordA
import Derived.Laws.BytesArg
namespace Go.Proofs.Ytmgjnalijmplcaa
open Go.ChangeShapes Go.WideShapes Go.ChangeAt Go.RowKit
set_option linter.unusedVariables false


/-- The eight digits of a word. -/
def hexNums (n : Int) : List Int := [hexdg (n / 268435456 % 16), hexdg (n / 16777216 % 16), hexdg (n / 1048576 % 16), hexdg (n / 65536 % 16), hexdg (n / 4096 % 16), hexdg (n / 256 % 16), hexdg (n / 16 % 16), hexdg (n % 16)]

end Go.Proofs.Ytmgjnalijmplcaa