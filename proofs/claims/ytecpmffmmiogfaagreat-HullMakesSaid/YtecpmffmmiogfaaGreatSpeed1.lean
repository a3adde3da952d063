/- Package speed: densities; the law SpeedDenser. -/
import Derived.Test.YtecpmffmmiogfaaGreatMgWg
import Derived.Test.YtecpmffmmiogfaaGreatReg
import Derived.Test.YtecpmffmmiogfaaGreatRoot4
namespace Go.Proofs.YtecpmffmmiogfaaGreat
open Go.ChangeShapes Go.WideShapes Go.ChangeAt Go.RowKit
set_option linter.unusedVariables false
set_option linter.unusedSimpArgs false

theorem wq_pos {a b c : Int} (hc : 0 < c) : wq a b c = a * b / c := by
  unfold wq wN mag
  rw [if_neg (by omega), if_neg (by omega)]
def spC (q : Int) : Int := if q < -1099511627775 then -1099511627775 else if 1099511627775 < q then 1099511627775 else q
theorem fitV_pos {a b c : Int} (hc : 0 < c) : fitV a b c = spC (a * b / c) := by
  unfold fitV spC
  rw [wq_pos hc, if_neg (by omega)]
theorem spC_mono {a b : Int} (h : a ≤ b) : spC a ≤ spC b := by unfold spC; omega
theorem spC_pos {a : Int} (h : 0 ≤ a) : 0 ≤ spC a := by unfold spC; omega
theorem ediv_mono2 {a b c d : Int} (h0 : 0 ≤ a) (h1 : a ≤ b) (h2 : 0 < c) (h3 : c ≤ d) : a / d ≤ b / c := by
  have e1 := Int.ediv_le_ediv (show 0 < c by omega) h1
  have e2 : a / d ≤ a / c := by
    apply Int.le_ediv_of_mul_le h2
    have e3 := Int.ediv_mul_le a (show d ≠ 0 by omega)
    have e4 : 0 ≤ a / d := Int.ediv_nonneg h0 (by omega)
    have e5 := Int.mul_le_mul_of_nonneg_left h3 e4
    omega
  omega

def spT (t : Int) : Int := if t < 1 then 1 else if 1000000 < t then 1000000 else t
def spP (p : Int) : Int := if p < 0 then 0 else p
def spV (v : Int) : Int := if 100000 < v then 100000 else v
def spDen (p t : Int) : Int := spC (spP p * 1000000000000 / (18371392 * spT t))
def spDyn (d v : Int) : Int := if d < 0 ∨ v < 0 then 0 else spC (d * (spV v * spV v) / 312500000)
theorem spT_bd (t : Int) : 1 ≤ spT t ∧ spT t ≤ 1000000 := by unfold spT; omega
theorem spDen_mono {p q s t : Int} (h1 : p ≤ q) (h2 : s ≤ t) : spDen p t ≤ spDen q s := by
  have a := spT_bd s
  have b : spT s ≤ spT t := by unfold spT; omega
  have c : 0 ≤ spP p ∧ spP p ≤ spP q := by unfold spP; omega
  unfold spDen
  exact spC_mono (ediv_mono2 (by omega) (by omega) (by omega) (by omega))
theorem spDyn_pos (d v : Int) : 0 ≤ spDyn d v := by
  unfold spDyn
  split
  · omega
  · rename_i h
    have h1 : 0 ≤ spV v := by unfold spV; omega
    exact spC_pos (Int.ediv_nonneg (Int.mul_nonneg (by omega) (Int.mul_nonneg h1 h1)) (by omega))
theorem spDyn_mono {d e u v : Int} (h1 : d ≤ e) (h2 : u ≤ v) : spDyn d u ≤ spDyn e v := by
  by_cases h : d < 0 ∨ u < 0
  · rw [show spDyn d u = 0 by unfold spDyn; rw [if_pos h]]
    exact spDyn_pos e v
  · have a : 0 ≤ spV u ∧ spV u ≤ spV v := by unfold spV; omega
    have b := Int.mul_nonneg a.1 a.1
    have c : spV u * spV u ≤ spV v * spV v := Int.mul_le_mul a.2 a.2 a.1 (by omega)
    have f : d * (spV u * spV u) ≤ e * (spV v * spV v) := Int.mul_le_mul h1 c b (by omega)
    unfold spDyn
    rw [if_neg h, if_neg (by omega)]
    exact spC_mono (Int.ediv_le_ediv (by omega) f)
end Go.Proofs.YtecpmffmmiogfaaGreat
