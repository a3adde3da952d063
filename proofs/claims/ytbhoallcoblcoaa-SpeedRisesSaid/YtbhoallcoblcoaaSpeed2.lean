/- Package speed: densities and dynamic pressures; the law SpeedDenser, walked. -/
import Derived.Test.YtbhoallcoblcoaaSpeed1
namespace Go.Proofs.Ytbhoallcoblcoaa
open Go.ChangeShapes Go.WideShapes Go.ChangeAt Go.RowKit
set_option linter.unusedVariables false
set_option linter.unusedSimpArgs false

set_option maxHeartbeats 1000000 in
theorem sclip_any (t : Int) (w : World) : Calls Try.prog 67 #[.int .i64 t] w fun e w' => e = .returned (.int .i64 (spT t)) ∧ w = w' := by
  go_enter Try.func67, Try.ntmps67
  go_wp2
  all_goals
    go_ret
    exact ⟨ret_int (by unfold spT; omega), rfl⟩
theorem spP_is (p : Int) : (p < 0 ∧ spP p = 0) ∨ (0 ≤ p ∧ spP p = p) := by unfold spP; omega
theorem spV_is (p : Int) : (100000 < p ∧ spV p = 100000) ∨ (p ≤ 100000 ∧ spV p = p) := by unfold spV; omega
set_option maxHeartbeats 1000000 in
theorem lives09 (w : World) : Calls Try.prog 40 #[] w fun e w' => e = .returned (.bool true) ∧ Below w.heap.size w w' := by
  have R := fun u => rof_rt 1158000507 u (by omega) (by omega)
  rw [if_neg (by omega), rt_eq (r := 34029) (by unfold IsRoot; omega)] at R
  replace R := Lib.hid R
  have CL := fun u => sclip_any 288150 u
  rw [show spT 288150 = 288150 by decide] at CL
  replace CL := Lib.hid CL
  go_enter Try.func40, Try.ntmps40
  go_wp2_with (first | (go_at_call 41; go_in) | (go_at_call 67; refine (CL.out _).mono ?_; rintro e w1 ⟨rfl, rfl⟩) | (go_at_call 66; refine (R.out _).mono ?_; rintro e w1 ⟨rfl, rfl⟩) | (go_at_call 36; go_in) | (go_at_call 32; go_in) | (go_at_call 63; go_in))
  go_ret
  exact ⟨rfl, (by repeat (first | exact Below.refl _ _ | assumption | apply Below.drew | apply below_drewN | (refine Below.alloc ?_ (by first | exact Nat.le_refl _ | omega | (simp <;> omega)) _) | (refine Below.setCell ?_ (by first | exact Nat.le_refl _ | omega | (simp <;> omega)) _)))⟩

end Go.Proofs.Ytbhoallcoblcoaa
