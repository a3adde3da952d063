/- 'HB b cs w w'': block b holds cs, and of what there was in w nothing but block b has changed. -/
import Derived.Test.YtecpmffmmiogfabBeside
namespace Go.Proofs.Ytecpmffmmiogfab
open Go.ChangeShapes Go.WideShapes Go.ChangeAt Go.RowKit
set_option linter.unusedVariables false

structure HB (b : Nat) (cs : List Value) (w w' : World) : Prop where
  held : Held b cs w'
  beside : Beside b w w'

theorem HB.start {b : Nat} {cs : List Value} {w : World} (h : Held b cs w) : HB b cs w w := ⟨h, .of_only (Only.refl b w)⟩
theorem HB.set {b : Nat} {cs : List Value} {w w' : World} (h : HB b cs w w') (i : Nat) (v : Value) (hi : i < cs.length) : HB b (cs.set i v) w (w'.setCell ⟨b, i, none⟩ v) :=
  ⟨h.held.set i v hi, h.beside.setCell (p := ⟨b, i, none⟩) v⟩
theorem HB.as {b : Nat} {cs : List Value} {w v v' : World} (h : HB b cs w v) (e1 : v'.os = v.os) (e2 : v'.tape = v.tape) (e3 : v'.output = v.output) (e4 : v'.heap = v.heap) : HB b cs w v' :=
  ⟨h.held.as e4, h.beside.as e1 e2 e3 e4⟩
theorem HB.fin {b : Nat} {cs : List Value} {w v v' : World} (h : HB b cs w v) (e1 : v'.os = v.os) (e2 : v'.tape = v.tape) (e3 : v'.output = v.output) (e4 : v'.heap = v.heap) : Held b cs v' ∧ Beside b w v' := ⟨(h.as e1 e2 e3 e4).held, (h.as e1 e2 e3 e4).beside⟩
/-- Told with its cells as they come out. -/
theorem HB.is {b : Nat} {cs ds : List Value} {w w' : World} (h : HB b cs w w') (e : cs = ds) : HB b ds w w' := e ▸ h
end Go.Proofs.Ytecpmffmmiogfab
