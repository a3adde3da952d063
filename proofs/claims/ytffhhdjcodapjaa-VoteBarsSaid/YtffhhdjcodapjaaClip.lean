/- Clipping to the bounds of a value. -/
import Derived.Test.YtffhhdjcodapjaaNum
namespace Go.Proofs.Ytffhhdjcodapjaa
open Go.ChangeShapes Go.WideShapes Go.ChangeAt Go.RowKit
set_option linter.unusedVariables false

def clq (n : Int) : Int := if n < -549755813887 then -549755813887 else if 549755813887 < n then 549755813887 else n
theorem clq_bd (n : Int) : -549755813887 ≤ clq n ∧ clq n ≤ 549755813887 := by unfold clq; omega
theorem clq_id {n : Int} (h1 : -549755813887 ≤ n) (h2 : n ≤ 549755813887) : clq n = n := by unfold clq; omega

set_option maxHeartbeats 400000 in
theorem pclip_any (n : Int) (w : World) :
    Calls Try.prog 62 #[.int .i64 n] w fun e w' => e = .returned (.int .i64 (clq n)) ∧ w = w' := by
  go_enter Try.func62, Try.ntmps62
  go_wp2
  all_goals
    go_ret
    exact ⟨ret_int (by unfold clq; omega), rfl⟩
set_option maxHeartbeats 400000 in
theorem sclip_any (n : Int) (w : World) :
    Calls Try.prog 42 #[.int .i64 n] w fun e w' => e = .returned (.int .i64 (clq n)) ∧ w = w' := by
  go_enter Try.func42, Try.ntmps42
  go_wp2
  all_goals
    go_ret
    exact ⟨ret_int (by unfold clq; omega), rfl⟩
set_option maxHeartbeats 400000 in
theorem r16clip_any (n : Int) (w : World) :
    Calls Try.prog 19 #[.int .i64 n] w fun e w' => e = .returned (.int .i64 (clq n)) ∧ w = w' := by
  go_enter Try.func19, Try.ntmps19
  go_wp2
  all_goals
    go_ret
    exact ⟨ret_int (by unfold clq; omega), rfl⟩
end Go.Proofs.Ytffhhdjcodapjaa
