/- The document's quotient, digit by digit: Floor, Near, Trunc and Fit; walked. -/
import Derived.Test.YtecpmffmmiogfaaDig6
namespace Go.Proofs.Ytecpmffmmiogfaa
open Go.ChangeShapes Go.WideShapes Go.ChangeAt Go.RowKit
set_option linter.unusedVariables false
set_option linter.unusedSimpArgs false

theorem mag_bd' (n : Int) (h1 : -9223372036854775808 ≤ n) (h2 : n ≤ 9223372036854775807) : 0 ≤ mag n ∧ mag n ≤ 9223372036854775808 := by unfold mag; omega

end Go.Proofs.Ytecpmffmmiogfaa
