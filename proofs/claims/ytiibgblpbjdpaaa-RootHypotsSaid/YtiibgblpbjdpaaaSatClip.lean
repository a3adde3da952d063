/- Clipping: package sat and the document's answers for it. -/
import Derived.Test.YtiibgblpbjdpaaaBase
namespace Go.Proofs.Ytiibgblpbjdpaaa
open Go.ChangeShapes Go.WideShapes Go.ChangeAt Go.RowKit
set_option linter.unusedVariables false

def clp (n : Int) : Int := if n < -1099511627775 then -1099511627775 else if 1099511627775 < n then 1099511627775 else n
def beyB (n : Int) : Bool := clp n != n
def b2i (o : Bool) : Int := if o then 1 else 0
theorem b2i_ne (o : Bool) : (b2i o != 0) = o := by cases o <;> rfl
theorem clp_clp (n : Int) : clp (clp n) = clp n := by unfold clp; omega
theorem beyB_clp (n : Int) : beyB (clp n) = false := by simp [beyB, clp_clp]
theorem clp_bd (n : Int) : -1099511627775 ≤ clp n ∧ clp n ≤ 1099511627775 := by unfold clp; omega

set_option maxHeartbeats 400000 in
theorem clip_any (n : Int) (w : World) :
    Calls Try.prog 46 #[.int .i64 n] w fun e w' => e = .returned (.tuple #[.int .i64 (clp n), .bool (beyB n)]) ∧ w = w' := by
  go_enter Try.func46, Try.ntmps46
  go_wp2
  all_goals
    go_ret2
    refine ⟨?_, rfl⟩
    refine ret_ib ?_ ?_
    · unfold clp; omega
    · unfold beyB
      rw [Bool.eq_iff_iff]; simp [clp]; omega

set_option maxHeartbeats 400000 in
theorem rclip_any (n : Int) (w : World) :
    Calls Try.prog 23 #[.int .i64 n] w fun e w' => e = .returned (.int .i64 (clp n)) ∧ w = w' := by
  go_enter Try.func23, Try.ntmps23
  go_wp2
  all_goals
    go_ret
    exact ⟨ret_int (by unfold clp; omega), rfl⟩


def absI (n : Int) : Int := if n < 0 then -n else n

set_option maxHeartbeats 400000 in
theorem rabs_any (a : Int) (w : World) (h : -1099511627775 ≤ a ∧ a ≤ 1099511627775) :
    Calls Try.prog 22 #[.int .i64 a] w fun e w' => e = .returned (.int .i64 (absI a)) ∧ w = w' := by
  obtain ⟨h1, h2⟩ := h
  go_enter Try.func22, Try.ntmps22
  go_wp2
  all_goals
    go_ret
    exact ⟨ret_int (by unfold absI; omega), rfl⟩
end Go.Proofs.Ytiibgblpbjdpaaa
