/- The document's root of a number with a sign, by halving; walked. -/
import Derived.Test.YtecpmffmmiogfaaRoot4
namespace Go.Proofs.Ytecpmffmmiogfaa
open Go.ChangeShapes Go.WideShapes Go.ChangeAt Go.RowKit
set_option linter.unusedVariables false
set_option linter.unusedSimpArgs false

/-- What halving holds: the root lies between both. -/
def Hlg (N l h : Int) : Prop := l * l ≤ N ∧ N < (h + 1) * (h + 1)
theorem Hlg.fin {N l : Int} (h0 : 0 ≤ l) (h : Hlg N l l) : l = rt N := (rt_eq ⟨h0, h.1, h.2⟩).symm
end Go.Proofs.Ytecpmffmmiogfaa
