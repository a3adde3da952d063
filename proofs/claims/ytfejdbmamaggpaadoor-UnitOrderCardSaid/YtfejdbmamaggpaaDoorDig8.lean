/- The document's Floor, Near, Trunc and Fit are wide's; the laws WideFloors, WideNears, WideFits, walked. -/
import Derived.Test.YtfejdbmamaggpaaDoorDig7
namespace Go.Proofs.YtfejdbmamaggpaaDoor
open Go.ChangeShapes Go.WideShapes Go.ChangeAt Go.RowKit
set_option linter.unusedVariables false
set_option linter.unusedSimpArgs false

theorem big_nb {W : Int} (h : 18446744073709551616 ≤ W) (x st : Bool) : nbB (awN W st) = false ∧ nbV (awN W st) x = 0 := by
  have e : nbB (awN W st) = false := by
    unfold nbB awN; cases st <;> simp <;> omega
  exact ⟨e, by unfold nbV; rw [e]; rfl⟩
theorem big_W {a b c : Int} (hM : 0 ≤ mag a * mag b) (hc : ¬ c = 0) (h : ¬ mag a * mag b / 18446744073709551616 < mag c) : 18446744073709551616 ≤ mag a * mag b / mag c := by
  have hC : 0 < mag c := by unfold mag; omega
  apply Int.le_ediv_of_mul_le hC
  omega

theorem fl_nb (a b c : Int) (ha1 : -9223372036854775808 ≤ a) (ha2 : a ≤ 9223372036854775807) (hb1 : -9223372036854775808 ≤ b) (hb2 : b ≤ 9223372036854775807) (hc1 : -9223372036854775808 ≤ c) (hc2 : c ≤ 9223372036854775807) (hc : ¬ c = 0) : nbV (awN (mag a * mag b / mag c) (flS a b c)) (xr a b c) = flV a b c ∧ nbB (awN (mag a * mag b / mag c) (flS a b c)) = flB a b c := by
  have bc' := mag_bd c hc1 hc2
  have bm := mag_mul a b (mag_bd a ha1 ha2) (mag_bd b hb1 hb2)
  by_cases h : mag a * mag b / 18446744073709551616 < mag c
  · have hp := floor_plain a b c h bm.1
    have hc0 : (c != 0) = true := by simp; exact hc
    have e1 : flB a b c = awB (mag a * mag b / mag c) (flS a b c) := by rw [hp.1]; unfold flB wIn wq; rw [hc0]; rfl
    have e2 : flV a b c = awV (mag a * mag b / mag c) (xr a b c) (flS a b c) := by
      unfold flV; rw [e1, hp.1, hp.2]; simp only [decide_eq_true_eq]; rfl
    exact ⟨e2.symm, e1.symm⟩
  · obtain ⟨n1, n2⟩ := big_nb (big_W bm.1 hc h) (xr a b c) (flS a b c)
    have e1 : flB a b c = false := by
      unfold flB
      have := far a b c bm.1 (by unfold mag; omega) (by omega)
      have : wIn (wq a b c) = false := by unfold wIn; apply decide_eq_false; omega
      rw [this]; simp
    have e2 : flV a b c = 0 := by unfold flV; rw [e1]; rfl
    exact ⟨by rw [n2, e2], by rw [n1, e1]⟩

set_option maxHeartbeats 1000000 in
theorem rquo_zero (a b how : Int) (w : World) : Calls Tryd.prog 69 #[.int .i64 a, .int .i64 b, .int .i64 0, .int .i64 how] w fun e w' => e = .returned (.tuple #[.int .i64 0, .bool false]) ∧ Below w.heap.size w w' := by
  go_enter Tryd.func69, Tryd.ntmps69
  go_wp2
  go_ret2
  exact ⟨rfl, (by repeat (first | exact Below.refl _ _ | assumption | apply Below.drew | apply below_drewN | (refine Below.alloc ?_ (by first | exact Nat.le_refl _ | omega | (simp <;> omega)) _) | (refine Below.setCell ?_ (by first | exact Nat.le_refl _ | omega | (simp <;> omega)) _)))⟩

theorem rquo_fl (a b c : Int) (w : World) (ha1 : -9223372036854775808 ≤ a) (ha2 : a ≤ 9223372036854775807) (hb1 : -9223372036854775808 ≤ b) (hb2 : b ≤ 9223372036854775807) (hc1 : -9223372036854775808 ≤ c) (hc2 : c ≤ 9223372036854775807) : Calls Tryd.prog 69 #[.int .i64 a, .int .i64 b, .int .i64 c, .int .i64 (-1)] w fun e w' => e = .returned (.tuple #[.int .i64 (flV a b c), .bool (flB a b c)]) ∧ Below w.heap.size w w' := by
  by_cases hc : c = 0
  · subst hc
    exact rquo_zero a b (-1) w
  · obtain ⟨e1, e2⟩ := fl_nb a b c ha1 ha2 hb1 hb2 hc1 hc2 hc
    have hC : 0 < mag c := by unfold mag; omega
    have r0 := Int.emod_nonneg (mag a * mag b) (show mag c ≠ 0 by omega)
    have hS : flS a b c = (xr a b c && decide (0 < mag a * mag b % mag c)) := rfl
    cases hx : xr a b c
    · rw [hx] at hS e1
      have hS' : flS a b c = false := hS
      rw [hS'] at e1 e2
      have := rquo_1 a b c (-1) _ _ false w ha1 ha2 hb1 hb2 hc1 hc2 hc hx rfl rfl (.inr (.inl ⟨rfl, rfl⟩))
      rw [← e1, ← e2]; exact this
    · rw [hx] at hS e1
      by_cases hr : 0 < mag a * mag b % mag c
      · have hS' : flS a b c = true := by rw [hS]; simpa using hr
        rw [hS'] at e1 e2
        have := rquo_4 a b c (-1) _ 1 true w ha1 ha2 hb1 hb2 hc1 hc2 hc hx rfl (by unfold rcmp; omega) ⟨rfl, rfl, rfl⟩
        rw [← e1, ← e2]; exact this
      · have hS' : flS a b c = false := by rw [hS]; simpa using hr
        rw [hS'] at e1 e2
        have := rquo_3 a b c (-1) _ 0 true w ha1 ha2 hb1 hb2 hc1 hc2 hc hx rfl (by unfold rcmp; omega) ⟨rfl, rfl, rfl⟩
        rw [← e1, ← e2]; exact this

end Go.Proofs.YtfejdbmamaggpaaDoor
