/- Package speed: densities and dynamic pressures; the law SpeedDenser, walked. -/
import Derived.Test.YtnnhgpmpkiblaaaSpeed1
namespace Go.Proofs.Ytnnhgpmpkiblaaa
open Go.ChangeShapes Go.WideShapes Go.ChangeAt Go.RowKit
set_option linter.unusedVariables false
set_option linter.unusedSimpArgs false

set_option maxHeartbeats 1000000 in
theorem sclip_any (t : Int) (w : World) : Calls Try.prog 70 #[.int .i64 t] w fun e w' => e = .returned (.int .i64 (spT t)) ∧ w = w' := by
  go_enter Try.func70, Try.ntmps70
  go_wp2
  all_goals
    go_ret
    exact ⟨ret_int (by unfold spT; omega), rfl⟩
theorem spP_is (p : Int) : (p < 0 ∧ spP p = 0) ∨ (0 ≤ p ∧ spP p = p) := by unfold spP; omega
theorem spV_is (p : Int) : (100000 < p ∧ spV p = 100000) ∨ (p ≤ 100000 ∧ spV p = p) := by unfold spV; omega
set_option maxHeartbeats 1000000 in
theorem sden_any (p t : Int) (w : World) (h1 : -9223372036854775808 ≤ p) (h2 : p ≤ 9223372036854775807) : Calls Try.prog 40 #[.int .i64 p, .int .i64 t] w fun e w' => e = .returned (.int .i64 (spDen p t)) ∧ Below w.heap.size w w' := by
  have hT := spT_bd t
  have hP := spP_is p
  have FT := fun u => fit_any (spP p) 1000000000000 (18371392 * spT t) u (by omega) (by omega) (by omega) (by omega) (by omega) (by omega)
  rw [fitV_pos (by omega)] at FT
  rw [show spC (spP p * 1000000000000 / (18371392 * spT t)) = spDen p t from rfl] at FT
  replace FT := Lib.hid FT
  have CL := Lib.hid (fun u => sclip_any t u)
  generalize spDen p t = D at *
  generalize spT t = T at *
  generalize spP p = P at *
  have hw : IntKind.i64.wrap (18371392 * T) = 18371392 * T := IntWalk.i64_in _ ⟨by omega, by omega⟩
  rcases hP with ⟨x1, rfl⟩ | ⟨x1, rfl⟩
  all_goals
    go_enter Try.func40, Try.ntmps40
    go_wp2_with (go_at_call 70; refine (CL.out _).mono ?_; rintro e w1 ⟨rfl, rfl⟩)
    all_goals first | (exfalso; omega) | skip
    first | rw [hw] | skip
    refine (FT.out _).mono ?_
    rintro e w1 ⟨rfl, hb1⟩
    go_wp2
    go_ret
    exact ⟨rfl, hb1⟩
set_option maxHeartbeats 1000000 in
theorem sdyn_any (d v : Int) (w : World) (h1 : -9223372036854775808 ≤ d) (h2 : d ≤ 9223372036854775807) : Calls Try.prog 42 #[.int .i64 d, .int .i64 v] w fun e w' => e = .returned (.int .i64 (spDyn d v)) ∧ Below w.heap.size w w' := by
  by_cases hn : d < 0 ∨ v < 0
  · rw [show spDyn d v = 0 by unfold spDyn; rw [if_pos hn]]
    have hc : d < 0 ∨ (0 ≤ d ∧ v < 0) := by omega
    rcases hc with hc | ⟨hc, hc2⟩
    all_goals
      go_enter Try.func42, Try.ntmps42
      go_wp2
      go_ret
      exact ⟨rfl, (by repeat (first | exact Below.refl _ _ | assumption | apply Below.drew | apply below_drewN | (refine Below.alloc ?_ (by first | exact Nat.le_refl _ | omega | (simp <;> omega)) _) | (refine Below.setCell ?_ (by first | exact Nat.le_refl _ | omega | (simp <;> omega)) _)))⟩
  · have hV := spV_is v
    have hv0 : 0 ≤ spV v ∧ spV v ≤ 100000 := by unfold spV; omega
    have m := Int.mul_le_mul hv0.2 hv0.2 hv0.1 (show (0 : Int) ≤ 100000 by omega)
    have n := Int.mul_nonneg hv0.1 hv0.1
    have e1 : spDyn d v = spC (d * (spV v * spV v) / 312500000) := by unfold spDyn; rw [if_neg hn]
    have FT := fun u => fit_any d (spV v * spV v) 312500000 u (by omega) (by omega) (by omega) (by omega) (by omega) (by omega)
    rw [fitV_pos (by omega), ← e1] at FT
    replace FT := Lib.hid FT
    clear e1
    generalize spDyn d v = D at *
    generalize spV v = V at *
    have hw : IntKind.i64.wrap (V * V) = V * V := IntWalk.i64_in _ ⟨by omega, by omega⟩
    clear m n
    have hd : 0 ≤ d := by omega
    have hv : 0 ≤ v := by omega
    clear hn
    rcases hV with ⟨x1, rfl⟩ | ⟨x1, rfl⟩
    all_goals
      go_enter Try.func42, Try.ntmps42
      go_wp2_with fail
      all_goals first | (exfalso; omega) | skip
      first | rw [hw] | skip
      refine (FT.out _).mono ?_
      rintro e w1 ⟨rfl, hb1⟩
      go_wp2
      go_ret
      exact ⟨rfl, hb1⟩
set_option maxHeartbeats 1000000 in
theorem lives09 (w : World) : Calls Try.prog 39 #[] w fun e w' => e = .returned (.bool true) ∧ Below w.heap.size w w' := by
  have R := fun u => rof_rt 1158000507 u (by omega) (by omega)
  rw [if_neg (by omega), rt_eq (r := 34029) (by unfold IsRoot; omega)] at R
  replace R := Lib.hid R
  have CL := fun u => sclip_any 288150 u
  rw [show spT 288150 = 288150 by decide] at CL
  replace CL := Lib.hid CL
  go_enter Try.func39, Try.ntmps39
  go_wp2_with (first | (go_at_call 35; go_in) | (go_at_call 70; refine (CL.out _).mono ?_; rintro e w1 ⟨rfl, rfl⟩) | (go_at_call 31; refine (R.out _).mono ?_; rintro e w1 ⟨rfl, rfl⟩) | (go_at_call 72; go_in) | (go_at_call 90; go_in) | (go_at_call 91; go_in))
  go_ret
  exact ⟨rfl, (by repeat (first | exact Below.refl _ _ | assumption | apply Below.drew | apply below_drewN | (refine Below.alloc ?_ (by first | exact Nat.le_refl _ | omega | (simp <;> omega)) _) | (refine Below.setCell ?_ (by first | exact Nat.le_refl _ | omega | (simp <;> omega)) _)))⟩

end Go.Proofs.Ytnnhgpmpkiblaaa
