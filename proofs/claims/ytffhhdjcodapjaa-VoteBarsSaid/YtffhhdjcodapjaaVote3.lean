/- Package vote: There; the document's Pick; the chapter's example; the law VotePicks, walked. -/
import Derived.Test.YtffhhdjcodapjaaVote2
namespace Go.Proofs.Ytffhhdjcodapjaa
open Go.ChangeShapes Go.WideShapes Go.ChangeAt Go.RowKit
set_option linter.unusedVariables false
set_option linter.unusedSimpArgs false

def vtN (z0 z1 z2 : Bool) (k : Nat) : Int := (if z0 && decide (0 < k) then 1 else 0) + (if z1 && decide (1 < k) then 1 else 0) + (if z2 && decide (2 < k) then 1 else 0)

set_option maxHeartbeats 1000000 in
theorem lives24 (w : World) : Calls Try.prog 21 #[] w fun e w' => e = .returned (.bool true) ∧ Below w.heap.size w w' := by
  go_enter Try.func21, Try.ntmps21
  go_wp2_with fail
  refine (vpick_any 5 0 900 0 7 0 0 _).mono ?_
  rw [show vtP 5 0 900 0 7 0 0 = (7, 5) by decide]
  rintro e w1 ⟨rfl, hb1⟩
  go_wp2
  go_ret
  exact ⟨rfl, hb1⟩

end Go.Proofs.Ytffhhdjcodapjaa
