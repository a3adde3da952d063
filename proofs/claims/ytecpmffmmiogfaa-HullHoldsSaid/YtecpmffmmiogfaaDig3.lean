/- The document's rows of digits: twice, one more, less, compared, a bit; walked. -/
import Derived.Test.YtecpmffmmiogfaaDig2
import Derived.Test.YtecpmffmmiogfaaReg
namespace Go.Proofs.Ytecpmffmmiogfaa
open Go.ChangeShapes Go.WideShapes Go.ChangeAt Go.RowKit
set_option linter.unusedVariables false
set_option linter.unusedSimpArgs false

end Go.Proofs.Ytecpmffmmiogfaa
