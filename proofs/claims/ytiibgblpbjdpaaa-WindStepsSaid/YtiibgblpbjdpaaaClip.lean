/- Clipping to the bounds of a value. -/
import Derived.Test.YtiibgblpbjdpaaaNum
namespace Go.Proofs.Ytiibgblpbjdpaaa
open Go.ChangeShapes Go.WideShapes Go.ChangeAt Go.RowKit
set_option linter.unusedVariables false

def clq (n : Int) : Int := if n < -549755813887 then -549755813887 else if 549755813887 < n then 549755813887 else n
theorem clq_bd (n : Int) : -549755813887 ≤ clq n ∧ clq n ≤ 549755813887 := by unfold clq; omega
theorem clq_id {n : Int} (h1 : -549755813887 ≤ n) (h2 : n ≤ 549755813887) : clq n = n := by unfold clq; omega

set_option maxHeartbeats 400000 in
theorem lclip_any (n : Int) (w : World) :
    Calls Try.prog 75 #[.int .i64 n] w fun e w' => e = .returned (.int .i64 (clq n)) ∧ w = w' := by
  go_enter Try.func75, Try.ntmps75
  go_wp2
  all_goals
    go_ret
    exact ⟨ret_int (by unfold clq; omega), rfl⟩
set_option maxHeartbeats 400000 in
theorem r16clip_any (n : Int) (w : World) :
    Calls Try.prog 55 #[.int .i64 n] w fun e w' => e = .returned (.int .i64 (clq n)) ∧ w = w' := by
  go_enter Try.func55, Try.ntmps55
  go_wp2
  all_goals
    go_ret
    exact ⟨ret_int (by unfold clq; omega), rfl⟩
end Go.Proofs.Ytiibgblpbjdpaaa
