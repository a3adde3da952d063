/- 'Beside b w w'': of what there was nothing but block b has changed; new memory may have come. -/
import Derived.Test.YtpcbnoefgknihaaNew
namespace Go.Proofs.Ytpcbnoefgknihaa
open Go.ChangeShapes Go.WideShapes Go.ChangeAt Go.RowKit
set_option linter.unusedVariables false

structure Beside (b : Nat) (w w' : World) : Prop where
  os : w'.os = w.os
  tape : w'.tape = w.tape
  output : w'.output = w.output
  size : w.heap.size ≤ w'.heap.size
  block : ∀ k, k < w.heap.size → k ≠ b → w'.heap[k]? = w.heap[k]?

theorem Beside.of_below {b : Nat} {w w' : World} (h : Below w.heap.size w w') : Beside b w w' := ⟨h.os, h.tape, h.output, h.size, fun k hk _ => h.block k hk⟩
theorem Beside.of_only {b : Nat} {w w' : World} (h : Only b w w') : Beside b w w' := ⟨h.os, h.tape, h.output, Nat.le_of_eq h.size.symm, fun k _ hb => h.block k hb⟩
theorem Beside.trans {b : Nat} {u v w : World} (h : Beside b u v) (k : Beside b v w) : Beside b u w :=
  ⟨k.os.trans h.os, k.tape.trans h.tape, k.output.trans h.output, Nat.le_trans h.size k.size, fun i hi hb => (k.block i (Nat.lt_of_lt_of_le hi h.size) hb).trans (h.block i hi hb)⟩
theorem Beside.setCell {a w : World} {p : Addr} (h : Beside p.block a w) (u : Value) : Beside p.block a (w.setCell p u) := h.trans (.of_only ((Only.refl p.block w).setCell u))
theorem Beside.as {b : Nat} {w v v' : World} (h : Beside b w v) (e1 : v'.os = v.os) (e2 : v'.tape = v.tape) (e3 : v'.output = v.output) (e4 : v'.heap = v.heap) : Beside b w v' :=
  ⟨e1.trans h.os, e2.trans h.tape, e3.trans h.output, by rw [e4]; exact h.size, fun k hk hb => by rw [e4]; exact h.block k hk hb⟩
theorem Beside.below {b B : Nat} {w w' : World} (h : Beside b w w') (hB : B ≤ b) (hs : B ≤ w.heap.size) : Below B w w' :=
  ⟨h.os, h.tape, h.output, h.size, fun k hk => h.block k (by omega) (by omega)⟩
theorem Held.beside {b b' : Nat} {cs : List Value} {w w' : World} (h : Held b cs w) (k : Beside b' w w') (hb : b ≠ b') : Held b cs w' := by
  have e := k.block b h.lt hb
  exact ⟨Nat.lt_of_lt_of_le h.lt k.size, fun i v hv => (World.cell?_of_block (a := ⟨b, i, none⟩) e).trans (h.c i v hv), fun i hi => (World.frozen?_of_block (a := ⟨b, i, none⟩) e).trans (h.f i hi)⟩
/-- Below an elder world, on. -/
theorem Below.beside {b : Nat} {w v v' : World} (h : Below w.heap.size w v) (k : Beside b v v') (hb : w.heap.size ≤ b) : Below w.heap.size w v' := h.trans (k.below hb h.size)
end Go.Proofs.Ytpcbnoefgknihaa
