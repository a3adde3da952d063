/- Package speed: densities and dynamic pressures; the law SpeedDenser, walked. -/
import Derived.Test.YtecpmffmmiogfaaGreatSpeed1
namespace Go.Proofs.YtecpmffmmiogfaaGreat
open Go.ChangeShapes Go.WideShapes Go.ChangeAt Go.RowKit
set_option linter.unusedVariables false
set_option linter.unusedSimpArgs false

set_option maxHeartbeats 1000000 in
theorem sclip_any (t : Int) (w : World) : Calls Tryz.prog 97 #[.int .i64 t] w fun e w' => e = .returned (.int .i64 (spT t)) ∧ w = w' := by
  go_enter Tryz.func97, Tryz.ntmps97
  go_wp2
  all_goals
    go_ret
    exact ⟨ret_int (by unfold spT; omega), rfl⟩
theorem spP_is (p : Int) : (p < 0 ∧ spP p = 0) ∨ (0 ≤ p ∧ spP p = p) := by unfold spP; omega
theorem spV_is (p : Int) : (100000 < p ∧ spV p = 100000) ∨ (p ≤ 100000 ∧ spV p = p) := by unfold spV; omega
end Go.Proofs.YtecpmffmmiogfaaGreat
