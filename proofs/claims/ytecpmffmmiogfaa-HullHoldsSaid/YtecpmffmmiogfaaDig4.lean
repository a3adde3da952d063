/- The document's rows of digits: Of any number, compared, a bit, a product; walked. -/
import Derived.Test.YtecpmffmmiogfaaDig2
import Derived.Test.YtecpmffmmiogfaaReg
import Derived.Test.YtecpmffmmiogfaaMgW
namespace Go.Proofs.Ytecpmffmmiogfaa
open Go.ChangeShapes Go.WideShapes Go.ChangeAt Go.RowKit
set_option linter.unusedVariables false
set_option linter.unusedSimpArgs false

def rcmp (A B : Int) : Int := if A < B then -1 else if B < A then 1 else 0
end Go.Proofs.Ytecpmffmmiogfaa
