/- Clipping: package sat and the document's answers for it. -/
import Derived.Test.YtecpmffmmiogfaaGreatMgAg
namespace Go.Proofs.YtecpmffmmiogfaaGreat
open Go.ChangeShapes Go.WideShapes Go.ChangeAt Go.RowKit
set_option linter.unusedVariables false

def clp (n : Int) : Int := if n < -1099511627775 then -1099511627775 else if 1099511627775 < n then 1099511627775 else n
def beyB (n : Int) : Bool := clp n != n
def b2i (o : Bool) : Int := if o then 1 else 0
theorem b2i_ne (o : Bool) : (b2i o != 0) = o := by cases o <;> rfl
theorem clp_clp (n : Int) : clp (clp n) = clp n := by unfold clp; omega
theorem beyB_clp (n : Int) : beyB (clp n) = false := by simp [beyB, clp_clp]
theorem clp_bd (n : Int) : -1099511627775 ≤ clp n ∧ clp n ≤ 1099511627775 := by unfold clp; omega




def absI (n : Int) : Int := if n < 0 then -n else n

end Go.Proofs.YtecpmffmmiogfaaGreat
