/- Clipping to the bounds of a value. -/
import Derived.Test.YtbbmkmkalghaeaaNum
namespace Go.Proofs.Ytbbmkmkalghaeaa
open Go.ChangeShapes Go.WideShapes Go.ChangeAt Go.RowKit
set_option linter.unusedVariables false

def clq (n : Int) : Int := if n < -549755813887 then -549755813887 else if 549755813887 < n then 549755813887 else n
theorem clq_bd (n : Int) : -549755813887 ≤ clq n ∧ clq n ≤ 549755813887 := by unfold clq; omega
theorem clq_id {n : Int} (h1 : -549755813887 ≤ n) (h2 : n ≤ 549755813887) : clq n = n := by unfold clq; omega

set_option maxHeartbeats 400000 in
theorem lclip_any (n : Int) (w : World) :
    Calls Try.prog 117 #[.int .i64 n] w fun e w' => e = .returned (.int .i64 (clq n)) ∧ w = w' := by
  go_enter Try.func117, Try.ntmps117
  go_wp2
  all_goals
    go_ret
    exact ⟨ret_int (by unfold clq; omega), rfl⟩
set_option maxHeartbeats 400000 in
theorem r16clip_any (n : Int) (w : World) :
    Calls Try.prog 119 #[.int .i64 n] w fun e w' => e = .returned (.int .i64 (clq n)) ∧ w = w' := by
  go_enter Try.func119, Try.ntmps119
  go_wp2
  all_goals
    go_ret
    exact ⟨ret_int (by unfold clq; omega), rfl⟩
end Go.Proofs.Ytbbmkmkalghaeaa
