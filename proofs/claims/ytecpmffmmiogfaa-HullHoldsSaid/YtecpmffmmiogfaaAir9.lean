/- The document's pressure and height, of steps; the chapter's examples; walked. -/
import Derived.Test.YtecpmffmmiogfaaAir7
import Derived.Test.YtecpmffmmiogfaaAir8
import Derived.Deep.Cut
namespace Go.Proofs.Ytecpmffmmiogfaa
open Go.ChangeShapes Go.WideShapes Go.ChangeAt Go.RowKit
set_option linter.unusedVariables false
set_option linter.unusedSimpArgs false
/-- The steps as a row. -/
structure StL (L : List Int) : Prop where
  len : L.length = 2101
  at' : ∀ i, i < 2101 → L.getD i 0 = aS i
theorem StL.cell {L : List Int} {a : Option Addr} {w : World} (h : StL L) (r : RowIs .i64 w a L) : ∃ g off, a = some ⟨g, off, none⟩ ∧ ∀ i, i < 2101 → w.cell? ⟨g, off + i, none⟩ = some (.int .i64 (aS i)) := by
  obtain ⟨g, off, e, _, _⟩ := r.at (show 0 < L.length by have := h.len; omega)
  subst e
  refine ⟨g, off, rfl, fun i hi => ?_⟩
  obtain ⟨g', off', e', _, c⟩ := r.at (show i < L.length by have := h.len; omega)
  injection e' with e'
  injection e' with e1 e2
  subst e1 e2
  rw [c, h.at' i hi]
end Go.Proofs.Ytecpmffmmiogfaa
