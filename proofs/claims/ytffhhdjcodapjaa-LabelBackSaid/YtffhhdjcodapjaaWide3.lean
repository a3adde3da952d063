/- wide.Floor and wide.Fit in plain numbers; the laws WideGrows and WideLeft, walked. -/
import Derived.Test.YtffhhdjcodapjaaWide2
namespace Go.Proofs.Ytffhhdjcodapjaa
open Go.ChangeShapes Go.WideShapes Go.ChangeAt Go.RowKit
set_option linter.unusedVariables false

/-- The quotient, rounded down (of a divisor that is not 0). -/
def wq (a b c : Int) : Int := wN a b c / mag c
def wIn (q : Int) : Bool := decide (-1099511627775 ≤ q ∧ q ≤ 1099511627775)
def flB (a b c : Int) : Bool := (c != 0) && wIn (wq a b c)
def flV (a b c : Int) : Int := if flB a b c then wq a b c else 0

theorem far (a b c : Int) (hM : 0 ≤ mag a * mag b) (hc : 0 < mag c) (h : mag c ≤ mag a * mag b / 18446744073709551616) : wq a b c ≤ -18446744073709551616 ∨ 18446744073709551616 ≤ wq a b c := by
  unfold wq
  rw [wN_mag]
  have h1 : 18446744073709551616 ≤ mag a * mag b / mag c := by
    apply Int.le_ediv_of_mul_le hc
    omega
  cases xr a b c
  · right; simpa using h1
  · left
    rw [if_pos rfl, neg_floor _ _ hc]
    split <;> omega

theorem floor_any (a b c : Int) (w : World) (ha1 : -9223372036854775808 ≤ a) (ha2 : a ≤ 9223372036854775807) (hb1 : -9223372036854775808 ≤ b) (hb2 : b ≤ 9223372036854775807) (hc1 : -9223372036854775808 ≤ c) (hc2 : c ≤ 9223372036854775807) :
    Calls Try.prog 74 #[.int .i64 a, .int .i64 b, .int .i64 c] w fun e w' => e = .returned (.tuple #[.int .i64 (flV a b c), .bool (flB a b c)]) ∧ Below w.heap.size w w' := by
  have bc' := mag_bd c hc1 hc2
  have bm := mag_mul a b (mag_bd a ha1 ha2) (mag_bd b hb1 hb2)
  by_cases h : mag a * mag b / 18446744073709551616 < mag c
  · have hp := floor_plain a b c h bm.1
    have hc0 : (c != 0) = true := by
      have := Int.ediv_nonneg bm.1 (by omega : (0 : Int) ≤ 18446744073709551616)
      have h' : 0 < mag c := by omega
      unfold mag at h'
      simp
      omega
    have e1 : flB a b c = awB (mag a * mag b / mag c) (flS a b c) := by rw [hp.1]; unfold flB wIn wq; rw [hc0]; rfl
    have e2 : flV a b c = awV (mag a * mag b / mag c) (xr a b c) (flS a b c) := by
      unfold flV; rw [e1, hp.1, hp.2]; simp only [decide_eq_true_eq]; rfl
    rw [e1, e2]
    exact floor_yes a b c w ha1 ha2 hb1 hb2 hc1 hc2 h
  · have e1 : flB a b c = false := by
      unfold flB
      by_cases hc : c = 0
      · subst hc; rfl
      · have := far a b c bm.1 (by unfold mag; omega) (by omega)
        have : wIn (wq a b c) = false := by unfold wIn; apply decide_eq_false; omega
        rw [this]; simp
    have e2 : flV a b c = 0 := by unfold flV; rw [e1]; rfl
    rw [e1, e2]
    exact floor_no a b c w ha1 ha2 hb1 hb2 hc1 hc2 (by omega)

/-- Floor within the bounds. -/
def fitV (a b c : Int) : Int := if c = 0 then 0 else if wq a b c < -1099511627775 then -1099511627775 else if 1099511627775 < wq a b c then 1099511627775 else wq a b c

theorem wq_sign (a b c : Int) (hc : ¬ c = 0) : (xr a b c = true → wq a b c ≤ 0) ∧ (xr a b c = false → 0 ≤ wq a b c) := by
  have hC : 0 < mag c := by unfold mag; omega
  have hM : 0 ≤ mag a * mag b := Int.mul_nonneg (by unfold mag; omega) (by unfold mag; omega)
  have hq : 0 ≤ mag a * mag b / mag c := Int.ediv_nonneg hM (by omega)
  unfold wq
  rw [wN_mag]
  refine ⟨fun h => ?_, fun h => ?_⟩
  · rw [h, if_pos rfl, neg_floor _ _ hC]; split <;> omega
  · rw [h]; simpa using hq

end Go.Proofs.Ytffhhdjcodapjaa
