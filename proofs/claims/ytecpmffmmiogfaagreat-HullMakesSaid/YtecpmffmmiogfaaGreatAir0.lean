/- The air's temperature at a height, and the document's; walked. -/
import Derived.Test.YtecpmffmmiogfaaGreatMgWg
import Derived.Test.YtecpmffmmiogfaaGreatMgAg
namespace Go.Proofs.YtecpmffmmiogfaaGreat
open Go.ChangeShapes Go.WideShapes Go.ChangeAt Go.RowKit
set_option linter.unusedVariables false
set_option linter.unusedSimpArgs false
theorem wq_posA {a b c : Int} (hc : 0 < c) : wq a b c = a * b / c := by
  unfold wq wN mag
  rw [if_neg (by omega), if_neg (by omega)]
theorem flV_posA {a b c : Int} (hc : 0 < c) (h1 : -1099511627775 ≤ a * b / c) (h2 : a * b / c ≤ 1099511627775) : flV a b c = a * b / c := by
  unfold flV flB wIn
  rw [wq_posA hc]
  rw [if_pos]
  simp
  exact ⟨by omega, h1, h2⟩

/-- A height within the atmosphere. -/
def arC (h : Int) : Int := if h < -100000 then -100000 else if 2000000 < h then 2000000 else h
theorem arC_bd (h : Int) : -100000 ≤ arC h ∧ arC h ≤ 2000000 := by unfold arC; omega
theorem arC_is (h : Int) : (h < -100000 ∧ arC h = -100000) ∨ (2000000 < h ∧ arC h = 2000000) ∨ (-100000 ≤ h ∧ h ≤ 2000000 ∧ arC h = h) := by unfold arC; omega
def arT (h : Int) : Int := if 1100000 < arC h then 216650 else 288150 - 65 * arC h / 1000
theorem arT_bd (h : Int) : 216650 ≤ arT h ∧ arT h ≤ 294650 := by
  have b := arC_bd h
  unfold arT
  omega
set_option maxHeartbeats 1000000 in
theorem aclip_any (h : Int) (w : World) : Calls Tryz.prog 108 #[.int .i64 h] w fun e w' => e = .returned (.int .i64 (arC h)) ∧ w = w' := by
  go_enter Tryz.func108, Tryz.ntmps108
  go_wp2
  all_goals
    go_ret
    exact ⟨ret_int (by unfold arC; omega), rfl⟩
set_option maxHeartbeats 1000000 in
theorem raclip_any (h : Int) (w : World) : Calls Tryz.prog 46 #[.int .i64 h] w fun e w' => e = .returned (.int .i64 (arC h)) ∧ w = w' := by
  go_enter Tryz.func46, Tryz.ntmps46
  go_wp2
  all_goals
    go_ret
    exact ⟨ret_int (by unfold arC; omega), rfl⟩
set_option maxHeartbeats 2000000 in
theorem atemp_any (h : Int) (w : World) : Calls Tryz.prog 84 #[.int .i64 h] w fun e w' => e = .returned (.int .i64 (arT h)) ∧ Below w.heap.size w w' := by
  have b := arC_bd h
  have CL := Lib.hid (fun u => aclip_any h u)
  have FL := fun u => floor_any 65 (arC h) 1000 u (by omega) (by omega) (by omega) (by omega) (by omega) (by omega)
  rw [flV_posA (by omega) (by omega) (by omega)] at FL
  replace FL := Lib.hid FL
  have HV := Lib.hid (show arT h = if 1100000 < arC h then 216650 else 288150 - 65 * arC h / 1000 from rfl)
  generalize arT h = R at *
  generalize arC h = c at *
  generalize flB 65 c 1000 = B at *
  by_cases hc : 1100000 < c
  · have HV := Lib.hid (show R = 216650 by rw [HV.out, if_pos hc])
    go_enter Tryz.func84, Tryz.ntmps84
    go_wp2_with fail
    refine (CL.out _).mono ?_
    rintro e w1 ⟨rfl, rfl⟩
    go_wp2
    go_ret
    exact ⟨ret_int HV.out.symm, Below.refl _ _⟩
  · have HV := Lib.hid (show R = 288150 - 65 * c / 1000 by rw [HV.out, if_neg hc])
    have q : -6500 ≤ 65 * c / 1000 ∧ 65 * c / 1000 ≤ 71500 := by omega
    generalize 65 * c / 1000 = d at *
    have hc' : c ≤ 1100000 := by omega
    clear hc
    go_enter Tryz.func84, Tryz.ntmps84
    go_wp2_with fail
    refine (CL.out _).mono ?_
    rintro e w1 ⟨rfl, rfl⟩
    go_wp2_with fail
    refine (FL.out _).mono ?_
    rintro e w2 ⟨rfl, hb⟩
    go_wp2
    go_ret
    exact ⟨ret_int HV.out.symm, hb⟩
set_option maxHeartbeats 2000000 in
theorem ratemp_any (h : Int) (w : World) : Calls Tryz.prog 24 #[.int .i64 h] w fun e w' => e = .returned (.int .i64 (arT h)) ∧ Below w.heap.size w w' := by
  have b := arC_bd h
  have CL := Lib.hid (fun u => raclip_any h u)
  have HV := Lib.hid (show arT h = if 1100000 < arC h then 216650 else 288150 - 65 * arC h / 1000 from rfl)
  generalize arT h = R at *
  generalize arC h = c at *
  have FL := Lib.hid (fun u => floor01_any (65 * c) 1000 u (by omega) (by omega) (by omega))
  by_cases hc : 1100000 ≤ c
  · have HV := Lib.hid (show R = 216650 by rw [HV.out]; omega)
    go_enter Tryz.func24, Tryz.ntmps24
    go_wp2_with fail
    refine (CL.out _).mono ?_
    rintro e w1 ⟨rfl, rfl⟩
    go_wp2
    go_ret
    exact ⟨ret_int HV.out.symm, Below.refl _ _⟩
  · have HV := Lib.hid (show R = 288150 - 65 * c / 1000 by rw [HV.out]; omega)
    have q : -6500 ≤ 65 * c / 1000 ∧ 65 * c / 1000 ≤ 71500 := by omega
    generalize hd : 65 * c / 1000 = d at *
    clear hd
    have hc' : c < 1100000 := by omega
    clear hc
    go_enter Tryz.func24, Tryz.ntmps24
    go_wp2_with fail
    refine (CL.out _).mono ?_
    rintro e w1 ⟨rfl, rfl⟩
    go_wp2_with fail
    refine (FL.out _).mono ?_
    rintro e w2 ⟨rfl, rfl⟩
    go_wp2
    go_ret
    exact ⟨ret_int HV.out.symm, Below.refl _ _⟩
end Go.Proofs.YtecpmffmmiogfaaGreat
