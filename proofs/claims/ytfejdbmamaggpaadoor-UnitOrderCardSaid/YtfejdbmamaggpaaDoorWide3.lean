/- wide.Floor and wide.Fit in plain numbers; the laws WideGrows and WideLeft, walked. -/
import Derived.Test.YtfejdbmamaggpaaDoorWide2
namespace Go.Proofs.YtfejdbmamaggpaaDoor
open Go.ChangeShapes Go.WideShapes Go.ChangeAt Go.RowKit
set_option linter.unusedVariables false

/-- The quotient, rounded down (of a divisor that is not 0). -/
def wq (a b c : Int) : Int := wN a b c / mag c
def wIn (q : Int) : Bool := decide (-1099511627775 ≤ q ∧ q ≤ 1099511627775)
def flB (a b c : Int) : Bool := (c != 0) && wIn (wq a b c)
def flV (a b c : Int) : Int := if flB a b c then wq a b c else 0

theorem far (a b c : Int) (hM : 0 ≤ mag a * mag b) (hc : 0 < mag c) (h : mag c ≤ mag a * mag b / 18446744073709551616) : wq a b c ≤ -18446744073709551616 ∨ 18446744073709551616 ≤ wq a b c := by
  unfold wq
  rw [wN_mag]
  have h1 : 18446744073709551616 ≤ mag a * mag b / mag c := by
    apply Int.le_ediv_of_mul_le hc
    omega
  cases xr a b c
  · right; simpa using h1
  · left
    rw [if_pos rfl, neg_floor _ _ hc]
    split <;> omega

/-- Floor within the bounds. -/
def fitV (a b c : Int) : Int := if c = 0 then 0 else if wq a b c < -1099511627775 then -1099511627775 else if 1099511627775 < wq a b c then 1099511627775 else wq a b c

theorem wq_sign (a b c : Int) (hc : ¬ c = 0) : (xr a b c = true → wq a b c ≤ 0) ∧ (xr a b c = false → 0 ≤ wq a b c) := by
  have hC : 0 < mag c := by unfold mag; omega
  have hM : 0 ≤ mag a * mag b := Int.mul_nonneg (by unfold mag; omega) (by unfold mag; omega)
  have hq : 0 ≤ mag a * mag b / mag c := Int.ediv_nonneg hM (by omega)
  unfold wq
  rw [wN_mag]
  refine ⟨fun h => ?_, fun h => ?_⟩
  · rw [h, if_pos rfl, neg_floor _ _ hC]; split <;> omega
  · rw [h]; simpa using hq

end Go.Proofs.YtfejdbmamaggpaaDoor
