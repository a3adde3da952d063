/- The document's clipping. -/
import Derived.Test.YtecpmffmmiogfaaMgW
namespace Go.Proofs.Ytecpmffmmiogfaa
open Go.ChangeShapes Go.WideShapes Go.ChangeAt Go.RowKit
set_option linter.unusedVariables false

/-- A number between two. -/
def c09 (t a b : Int) : Int := if t < a then a else if b < t then b else t
theorem c09_bd (t a b : Int) (h : a ≤ b) : a ≤ c09 t a b ∧ c09 t a b ≤ b := by unfold c09; omega
end Go.Proofs.Ytecpmffmmiogfaa
