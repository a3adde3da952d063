/- Plain laws on division. -/
import Derived.Test.YtfejdbmamaggpaaDoorBase
namespace Go.Proofs.YtfejdbmamaggpaaDoor
open Go.ChangeShapes Go.WideShapes Go.ChangeAt Go.RowKit
set_option linter.unusedVariables false

theorem tdiv_le (a b B : Int) (h1 : -B ≤ a) (h2 : a ≤ B) : -B ≤ a.tdiv b ∧ a.tdiv b ≤ B := by
  have h := Int.natAbs_tdiv_le_natAbs a b
  omega

theorem tdm (a b : Int) : b * a.tdiv b + a.tmod b = a := Int.mul_tdiv_add_tmod a b

theorem tmod_bd (a b : Int) (hb : 0 < b) : -b < a.tmod b ∧ a.tmod b < b ∧ (0 ≤ a → 0 ≤ a.tmod b) ∧ (a ≤ 0 → a.tmod b ≤ 0) := by
  rcases Int.le_total 0 a with h | h
  · have e : a.tmod b = a % b := Int.tmod_eq_emod_of_nonneg h
    have h1 := Int.emod_nonneg a (by omega : b ≠ 0)
    have h2 := Int.emod_lt_of_pos a hb
    rw [e]
    refine ⟨by omega, h2, fun _ => h1, fun h0 => ?_⟩
    have : a = 0 := by omega
    subst this; simp
  · obtain ⟨n, rfl⟩ : ∃ n, a = -n := ⟨-a, by omega⟩
    have e : (-n).tmod b = -(n % b) := by rw [Int.neg_tmod, Int.tmod_eq_emod_of_nonneg (by omega)]
    have h1 := Int.emod_nonneg n (by omega : b ≠ 0)
    have h2 := Int.emod_lt_of_pos n hb
    rw [e]
    refine ⟨by omega, by omega, fun h0 => ?_, fun _ => by omega⟩
    have : n = 0 := by omega
    subst this; simp

/-- The quotient of the one pair with a remainder in the bounds. -/
theorem ediv_is {a b q r : Int} (hb : 0 < b) (h : b * q + r = a) (h1 : 0 ≤ r) (h2 : r < b) : a / b = q := by
  have := (Int.ediv_emod_unique (a := a) (b := b) (r := r) (q := q) hb).2 ⟨by rw [← h]; omega, h1, h2⟩
  exact this.1

theorem floor_td (a b : Int) (hb : 0 < b) : a / b = if a.tmod b < 0 then a.tdiv b - 1 else a.tdiv b := by
  have h := tdm a b
  have hm := tmod_bd a b hb
  split
  · exact ediv_is hb (r := a.tmod b + b) (by rw [Int.mul_sub, Int.mul_one]; omega) (by omega) (by omega)
  · exact ediv_is hb (r := a.tmod b) h (by omega) (by omega)

end Go.Proofs.YtfejdbmamaggpaaDoor
