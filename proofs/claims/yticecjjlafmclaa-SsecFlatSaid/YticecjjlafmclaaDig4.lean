/- The document's rows of digits: Of any number, compared, a bit, a product; walked. -/
import Derived.Test.YticecjjlafmclaaDig2
import Derived.Test.YticecjjlafmclaaReg
import Derived.Test.YticecjjlafmclaaWide
namespace Go.Proofs.Yticecjjlafmclaa
open Go.ChangeShapes Go.WideShapes Go.ChangeAt Go.RowKit
set_option linter.unusedVariables false
set_option linter.unusedSimpArgs false

def rcmp (A B : Int) : Int := if A < B then -1 else if B < A then 1 else 0
end Go.Proofs.Yticecjjlafmclaa
