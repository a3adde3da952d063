/- Plain facts for the law VoteTurns: two probes changed; all three shifted. -/
import Derived.Test.YtffhhdjcodapjaaVote3
namespace Go.Proofs.Ytffhhdjcodapjaa
open Go.ChangeShapes Go.WideShapes Go.ChangeAt Go.RowKit
set_option linter.unusedVariables false
set_option linter.unusedSimpArgs false

/-- The two probes changed. -/
theorem vt_turn (x0 e0 x1 e1 x2 e2 tau : Int) :
    (vtP x1 e1 x0 e0 x2 e2 tau).1 = (vtP x0 e0 x1 e1 x2 e2 tau).1 ∧
    (vtP x1 e1 x0 e0 x2 e2 tau).2 = (if (vtP x0 e0 x1 e1 x2 e2 tau).2 = 1 then 2 else if (vtP x0 e0 x1 e1 x2 e2 tau).2 = 2 then 1 else (vtP x0 e0 x1 e1 x2 e2 tau).2) := by
  unfold vtP vtOne men vtMid
  generalize clq x0 = a0
  generalize clq x1 = a1
  generalize (e0 == 0) = z0
  generalize (e1 == 0) = z1
  generalize (e2 == 0) = z2
  generalize decide (tau < apt x0 x2) = c0
  generalize decide (tau < apt x1 x2) = c1
  cases z0 <;> cases z1 <;> cases z2 <;> cases c0 <;> cases c1 <;> simp <;> omega
/-- All three shifted. -/
theorem vt_shift (x0 e0 x1 e1 x2 e2 tau d : Int) (d1 : -1000000 ≤ d) (d2 : d ≤ 1000000) (a1 : -1000000000 ≤ x0) (a2 : x0 ≤ 1000000000) (b1 : -1000000000 ≤ x1) (b2 : x1 ≤ 1000000000) (c1 : -1000000000 ≤ x2) (c2 : x2 ≤ 1000000000) :
    (vtP (x0 + d) e0 (x1 + d) e1 (x2 + d) e2 tau).2 = (vtP x0 e0 x1 e1 x2 e2 tau).2 ∧
    ((vtP x0 e0 x1 e1 x2 e2 tau).2 = 0 ∨ (vtP (x0 + d) e0 (x1 + d) e1 (x2 + d) e2 tau).1 = (vtP x0 e0 x1 e1 x2 e2 tau).1 + d) := by
  have k0 : clq x0 = x0 ∧ clq (x0 + d) = x0 + d := by unfold clq; omega
  have k1 : clq x1 = x1 ∧ clq (x1 + d) = x1 + d := by unfold clq; omega
  have k2 : clq x2 = x2 ∧ clq (x2 + d) = x2 + d := by unfold clq; omega
  have p0 : apt (x0 + d) (x2 + d) = apt x0 x2 := by unfold apt; rw [k0.1, k0.2, k2.1, k2.2]; omega
  have p1 : apt (x1 + d) (x2 + d) = apt x1 x2 := by unfold apt; rw [k1.1, k1.2, k2.1, k2.2]; omega
  unfold vtP vtOne men vtMid
  rw [p0, p1, k0.1, k0.2, k1.1, k1.2]
  generalize (e0 == 0) = z0
  generalize (e1 == 0) = z1
  generalize (e2 == 0) = z2
  generalize decide (tau < apt x0 x2) = c0
  generalize decide (tau < apt x1 x2) = c1
  cases z0 <;> cases z1 <;> cases z2 <;> cases c0 <;> cases c1 <;> simp <;> omega
end Go.Proofs.Ytffhhdjcodapjaa
