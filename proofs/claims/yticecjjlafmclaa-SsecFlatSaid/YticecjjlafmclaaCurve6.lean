/- The document on curves: what one tells, whether it rises, whether two are the same; walked. -/
import Derived.Test.YticecjjlafmclaaCurve4
import Derived.Test.YticecjjlafmclaaCurve5
import Derived.Test.YticecjjlafmclaaDig8
import Derived.Deep.Cut
namespace Go.Proofs.Yticecjjlafmclaa
open Go.ChangeShapes Go.WideShapes Go.ChangeAt Go.RowKit
set_option linter.unusedVariables false
set_option linter.unusedSimpArgs false

theorem crV_low {X Y : List Int} {x : Int} {k : Nat} (hg : rgtB X Y = true) (hk : CrK X x k) (h : x ≤ X.getD 0 0) : crV X Y x k = Y.getD 0 0 := by
  obtain ⟨n1, n2, n3, g1, g2, g3⟩ := rgtB_at hg
  by_cases e : x = X.getD 0 0
  · subst e; exact crV_at hg (by omega) hk
  · obtain ⟨a1, a2⟩ := hk.at
    have : k = 0 := by
      rcases Nat.eq_zero_or_pos k with h | h
      · exact h
      · have := a1 0 h; omega
    subst this; rfl

end Go.Proofs.Yticecjjlafmclaa
