/- The document's rows of digits: a row as a number; the sign; the quotient; walked. -/
import Derived.Test.YtecpmffmmiogfaaDig5
import Derived.Test.YtecpmffmmiogfaaMgW
namespace Go.Proofs.Ytecpmffmmiogfaa
open Go.ChangeShapes Go.WideShapes Go.ChangeAt Go.RowKit
set_option linter.unusedVariables false
set_option linter.unusedSimpArgs false

def nbB (A : Int) : Bool := decide (A ≤ 1099511627775)
def nbV (A : Int) (x : Bool) : Int := if nbB A then (if x then -A else A) else 0
theorem aw_nb (W : Int) (x st : Bool) : awV W x st = nbV (awN W st) x ∧ awB W st = nbB (awN W st) := ⟨rfl, rfl⟩

theorem div_small {A : Int} (h0 : 0 ≤ A) (h : A ≤ 1099511627775) (j : Nat) : 0 ≤ A / pw j ∧ A / pw j ≤ 1099511627775 := ⟨Int.ediv_nonneg h0 (by have := pw_pos j; omega), Int.le_trans (Int.ediv_le_self _ h0) h⟩
end Go.Proofs.Ytecpmffmmiogfaa
