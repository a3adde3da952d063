/- The document's lag; the chapter's example; the laws LagSteps and LagHolds, walked. -/
import Derived.Test.YtnfbfggkbpobiaaLag1
namespace Go.Proofs.Ytnfbfggkbpobiaa
open Go.ChangeShapes Go.WideShapes Go.ChangeAt Go.RowKit
set_option linter.unusedVariables false
set_option linter.unusedSimpArgs false

theorem lgV_between (sh y x : Int) (d : -1099511627774 ≤ x - y ∧ x - y ≤ 1099511627774) : (y ≤ x → y ≤ lgV sh y x ∧ lgV sh y x ≤ x) ∧ (x ≤ y → x ≤ lgV sh y x ∧ lgV sh y x ≤ y) := by
  have q := lgQ_bd sh (x - y) d
  unfold lgV
  omega
theorem lgV_bd {sh y x : Int} (y1 : -549755813887 ≤ y) (y2 : y ≤ 549755813887) (x1 : -549755813887 ≤ x) (x2 : x ≤ 549755813887) : -549755813887 ≤ lgV sh y x ∧ lgV sh y x ≤ 549755813887 := by
  have := lgV_between sh y x (by omega)
  omega
theorem lgV_self (sh y : Int) : lgV sh y y = y := by simp [lgV]

end Go.Proofs.Ytnfbfggkbpobiaa
