/- Clipping: package sat and the document's answers for it. -/
import Derived.Test.YtfejdbmamaggpaaDoorBase
namespace Go.Proofs.YtfejdbmamaggpaaDoor
open Go.ChangeShapes Go.WideShapes Go.ChangeAt Go.RowKit
set_option linter.unusedVariables false

def clp (n : Int) : Int := if n < -1099511627775 then -1099511627775 else if 1099511627775 < n then 1099511627775 else n
def beyB (n : Int) : Bool := clp n != n
def b2i (o : Bool) : Int := if o then 1 else 0
theorem b2i_ne (o : Bool) : (b2i o != 0) = o := by cases o <;> rfl
theorem clp_clp (n : Int) : clp (clp n) = clp n := by unfold clp; omega
theorem beyB_clp (n : Int) : beyB (clp n) = false := by simp [beyB, clp_clp]
theorem clp_bd (n : Int) : -1099511627775 ≤ clp n ∧ clp n ≤ 1099511627775 := by unfold clp; omega

set_option maxHeartbeats 400000 in
theorem clip_any (n : Int) (w : World) :
    Calls Tryd.prog 66 #[.int .i64 n] w fun e w' => e = .returned (.tuple #[.int .i64 (clp n), .bool (beyB n)]) ∧ w = w' := by
  go_enter Tryd.func66, Tryd.ntmps66
  go_wp2
  all_goals
    go_ret2
    refine ⟨?_, rfl⟩
    refine ret_ib ?_ ?_
    · unfold clp; omega
    · unfold beyB
      rw [Bool.eq_iff_iff]; simp [clp]; omega

set_option maxHeartbeats 400000 in
theorem rclip_any (n : Int) (w : World) :
    Calls Tryd.prog 70 #[.int .i64 n] w fun e w' => e = .returned (.int .i64 (clp n)) ∧ w = w' := by
  go_enter Tryd.func70, Tryd.ntmps70
  go_wp2
  all_goals
    go_ret
    exact ⟨ret_int (by unfold clp; omega), rfl⟩

set_option maxHeartbeats 400000 in
theorem rbeyond_any (n : Int) (w : World) :
    Calls Tryd.prog 29 #[.int .i64 n] w fun e w' => e = .returned (.bool (beyB n)) ∧ w = w' := by
  go_enter Tryd.func29, Tryd.ntmps29
  go_wp2_with (go_at_call 70; refine (rclip_any _ _).mono ?_; rintro e w' ⟨rfl, rfl⟩)
  go_ret
  exact ⟨rfl, rfl⟩

def absI (n : Int) : Int := if n < 0 then -n else n

end Go.Proofs.YtfejdbmamaggpaaDoor
