/- New objects. -/
import Derived.Test.YtfejdbmamaggpaaDoorObj
namespace Go.Proofs.YtfejdbmamaggpaaDoor
open Go.ChangeShapes Go.WideShapes Go.ChangeAt Go.RowKit
set_option linter.unusedVariables false

/-- A new object that holds cs. -/
def NewObj (cs : List Value) (w : World) (e : Ending) (w' : World) : Prop := ∃ b, w.heap.size ≤ b ∧ e = .returned (.tuple #[.pointer (some ⟨b, 0, none⟩), .int .i64 0]) ∧ Held b cs w' ∧ Below w.heap.size w w'

theorem Held.new (w : World) (cs : List Value) (t : TypeId) : Held w.heap.size cs (w.alloc (.cells cs.toArray t)) :=
  ⟨by simp, fun i v hv => by simpa using hv, fun i hi => by simp⟩
theorem Only.bel {b : Nat} {w v v' : World} (h : Below w.heap.size w v) (k : Only b v v') (hb : w.heap.size ≤ b) : Below w.heap.size w v' := h.trans (k.below hb)
end Go.Proofs.YtfejdbmamaggpaaDoor
