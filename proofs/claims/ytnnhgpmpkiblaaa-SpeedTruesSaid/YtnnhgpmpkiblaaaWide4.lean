/- The chapter's examples of layer 2; the law WideGrows, walked. -/
import Derived.Test.YtnnhgpmpkiblaaaWide3
namespace Go.Proofs.Ytnnhgpmpkiblaaa
open Go.ChangeShapes Go.WideShapes Go.ChangeAt Go.RowKit
set_option linter.unusedVariables false

set_option maxHeartbeats 1000000 in
theorem lives02 (w : World) : Calls Try.prog 16 #[] w fun e w' => e = .returned (.bool true) ∧ Below w.heap.size w w' := by
  go_enter Try.func16, Try.ntmps16
  go_wp2_with fail
  refine (floor_any 7 (-3) 2 _ (by omega) (by omega) (by omega) (by omega) (by omega) (by omega)).mono ?_
  rintro e w1 ⟨rfl, hb1⟩
  rw [show flV 7 (-3) 2 = -11 from by decide, show flB 7 (-3) 2 = true from by decide]
  go_wp2_with fail
  refine (near_yes 7 (-3) 2 _ (by omega) (by omega) (by omega) (by omega) (by omega) (by omega) (by decide)).mono ?_
  rintro e w2 ⟨rfl, hb2⟩
  rw [show awV (mag 7 * mag (-3) / mag 2) (xr 7 (-3) 2) (nrS 7 (-3) 2) = -10 from by decide, show awB (mag 7 * mag (-3) / mag 2) (nrS 7 (-3) 2) = true from by decide]
  go_wp2_with fail
  refine (trunc_yes 7 (-3) 2 _ (by omega) (by omega) (by omega) (by omega) (by omega) (by omega) (by decide)).mono ?_
  rintro e w3 ⟨rfl, hb3⟩
  rw [show awV (mag 7 * mag (-3) / mag 2) (xr 7 (-3) 2) false = -10 from by decide, show awB (mag 7 * mag (-3) / mag 2) false = true from by decide]
  go_wp2
  go_ret
  exact ⟨rfl, (hb1.trans (hb2.mono hb1.size)).trans (hb3.mono (Nat.le_trans hb1.size hb2.size))⟩

theorem fit_bd (a b c : Int) : -1099511627775 ≤ fitV a b c ∧ fitV a b c ≤ 1099511627775 := by unfold fitV; omega
theorem fit_grows (x y b c : Int) (hb : 0 ≤ b) (hc : 1 ≤ c) (h : x ≤ y) : fitV x b c ≤ fitV y b c := by
  have hq : wq x b c ≤ wq y b c := by
    unfold wq wN mag
    rw [if_neg (by omega), if_neg (by omega), if_neg (by omega)]
    exact Int.ediv_le_ediv (by omega) (Int.mul_le_mul_of_nonneg_right h hb)
  unfold fitV
  omega

end Go.Proofs.Ytnnhgpmpkiblaaa
