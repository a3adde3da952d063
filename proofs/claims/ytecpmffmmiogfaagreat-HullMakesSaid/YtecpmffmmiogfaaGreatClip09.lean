/- The document's clipping. -/
import Derived.Test.YtecpmffmmiogfaaGreatMgWg
namespace Go.Proofs.YtecpmffmmiogfaaGreat
open Go.ChangeShapes Go.WideShapes Go.ChangeAt Go.RowKit
set_option linter.unusedVariables false

/-- A number between two. -/
def c09 (t a b : Int) : Int := if t < a then a else if b < t then b else t
theorem c09_bd (t a b : Int) (h : a ≤ b) : a ≤ c09 t a b ∧ c09 t a b ≤ b := by unfold c09; omega
set_option maxHeartbeats 1000000 in
theorem c09_any (t a b : Int) (hab : a ≤ b) (w : World) : Calls Tryz.prog 7 #[.int .i64 t, .int .i64 a, .int .i64 b] w fun e w' => e = .returned (.int .i64 (c09 t a b)) ∧ w = w' := by
  go_enter Tryz.func7, Tryz.ntmps7
  go_wp2
  all_goals
    go_ret
    exact ⟨ret_int (by unfold c09; omega), rfl⟩
end Go.Proofs.YtecpmffmmiogfaaGreat
