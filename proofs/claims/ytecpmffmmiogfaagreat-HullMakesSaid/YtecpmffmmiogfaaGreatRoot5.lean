/- root.Hypot and the examples of layer 3; the laws RootBetween and RootSides, walked. -/
import Derived.Test.YtecpmffmmiogfaaGreatRoot4
namespace Go.Proofs.YtecpmffmmiogfaaGreat
open Go.ChangeShapes Go.WideShapes Go.ChangeAt Go.RowKit
set_option linter.unusedVariables false

/-- The square of what n is clipped to. -/
def sqc (n : Int) : Int := absI (clp n) * absI (clp n)
theorem absc_bd (n : Int) : 0 ≤ absI (clp n) ∧ absI (clp n) ≤ 1099511627775 := by have := clp_bd n; unfold absI; omega
theorem sqc_bd (n : Int) : 0 ≤ sqc n ∧ sqc n ≤ 1208925819612430151450625 := by
  have h := absc_bd n
  exact ⟨Int.mul_nonneg h.1 h.1, by have := Int.mul_le_mul h.2 h.2 h.1 (by omega); unfold sqc; omega⟩

theorem carry_plain (p q : Int) (hp : 0 ≤ p) (hq : 0 ≤ q) (hp2 : p ≤ 1208925819612430151450625) (hq2 : q ≤ 1208925819612430151450625) :
    (p / 18446744073709551616 + q / 18446744073709551616 + (p % 18446744073709551616 + q % 18446744073709551616 + 0) / 18446744073709551616) % 18446744073709551616 * 18446744073709551616 + (p % 18446744073709551616 + q % 18446744073709551616 + 0) % 18446744073709551616 = p + q := by omega

theorem rhyp_bd (a b : Int) : 0 ≤ rt (sqc a + sqc b) ∧ rt (sqc a + sqc b) ≤ 2199023255550 := by
  have h1 := sqc_bd a
  have h2 := sqc_bd b
  exact ⟨(rt_is _ (by omega)).1, rt_le _ 2199023255550 (by omega) (by omega) (by omega)⟩

end Go.Proofs.YtecpmffmmiogfaaGreat
