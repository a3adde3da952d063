/- Chapter 5: its example, how great a curve is; the law CurveBetween, walked. -/
import Derived.Test.YticecjjlafmclaaCurve6
import Derived.Deep.Cut
namespace Go.Proofs.Yticecjjlafmclaa
open Go.ChangeShapes Go.WideShapes Go.ChangeAt Go.RowKit
set_option linter.unusedVariables false
set_option linter.unusedSimpArgs false
set_option maxRecDepth 100000 in
set_option maxHeartbeats 8000000 in
theorem row2_at {W : World} {b : Nat} {p q : Int} (hb : b < W.heap.size) (h0 : W.cell? ⟨b, 0, none⟩ = some (.int .i64 p)) (h1 : W.cell? ⟨b, 1, none⟩ = some (.int .i64 q)) : RowIs .i64 W (some ⟨b, 0, none⟩) [p, q] :=
  .inr ⟨b, 0, rfl, hb, fun i hi => by
    rcases i with _ | _ | i
    · exact h0
    · exact h1
    · have h2 : i + 1 + 1 < 2 := hi
      omega⟩
theorem k_five : CrK [0, 10] 3 1 := by
  refine ⟨by decide, fun t ht => ?_, fun t a b => ?_⟩
  · obtain rfl : t = 0 := by omega
    decide
  · have b' : t < 2 := b
    obtain rfl : t = 1 := by omega
    decide
end Go.Proofs.Yticecjjlafmclaa
