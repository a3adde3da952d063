/-
  No cell of these rows narrows 'for every input' (looked for: loops, veiled, ifaces, maps, wideKeys, modest, calm, conditions, laid).
  DERIVED. THE GIVEN ROWS OF THIS SEAT. 10 by the template 'for every input the law returns true; each argument reads behind the call as it read before'; 0 by the template 'total and deterministic' (their statements: YtehdncjojfjmpaaTotals.lean).
  GIVEN WITH THE SEED: the statements are not yours to turn. If you find one false, say at which input.
  Laid BY PROGRAM, IN A SANDBOX (cutbox-rows.mjs): the forced cells as the released guide's own fill.sh prints them over the translation f2a5fd394642f9cc… (all of the seat's roots in one cut). By AI agents, Wed Nov 11 2026. No macro, syntax, notation, axiom, sorry.
-/
import Derived.Test.YtehdncjojfjmpaaChecked
import GoSem.Claim
import GoSem.ClaimJoined
import GoSem.ClaimMapViews
import Derived.JoinedTies
import Derived.KernelRfl
namespace Go.Proofs.Ytehdncjojfjmpaa
/- THE CELL 'sum', in the pinned program and in every row, IS THE sha256 OF THE DUMP (.gsa) THAT YtehdncjojfjmpaaProg.lean LOADS. Nothing in Lean hashes anything: it is a label: what it is worth is what the hold of that sum in a sandbox is worth. -/
noncomputable def Try.pinned : Pinned := { name := "ytehdncjojfjmpaa", sum := "f2a5fd394642f9cc7e165cb3ed2ff426b06408fa03da93de2a3113903b55e1ed", checked := Try.checked }
namespace Rows
def none {H : Type} : Left H := { results := [], args := [] }

/-- 'aneroidlaw02.WideFloors': WHATEVER THE INPUT: true; the input reads as it did. -/
def wideFloorsSpec : ChangeSpec := { name := "wideFloors", fn := fun _ => fun
  | [d1, d2, d3] => { results := [.lit (.bool true)], args := [d1, d2, d3] }
  | _ => none }
def wideFloorsRow : OpenClaim := { program := "ytehdncjojfjmpaa", sum := "f2a5fd394642f9cc7e165cb3ed2ff426b06408fa03da93de2a3113903b55e1ed", func := "aneroid/aneroidlaw02.WideFloors", spec := "wideFloors", named := ["math/bits.divideError", "math/bits.overflowError"], apart := false }
def WideFloorsSaid : Prop := wideFloorsRow.holds Try.pinned (OpenSpec.ofChange wideFloorsSpec)

/-- ITS FALSE NEIGHBOUR: 'it returns false'. Refute it at one input. -/
def wideFloorsWrong : ChangeSpec := { name := "wideFloors", fn := fun _ => fun
  | [d1, d2, d3] => { results := [.lit (.bool false)], args := [d1, d2, d3] }
  | _ => none }
def WideFloorsWrongFalsely : Prop := wideFloorsRow.holds Try.pinned (OpenSpec.ofChange wideFloorsWrong)

/-- 'aneroidlaw02.WideNears': WHATEVER THE INPUT: true; the input reads as it did. -/
def wideNearsSpec : ChangeSpec := { name := "wideNears", fn := fun _ => fun
  | [d1, d2, d3] => { results := [.lit (.bool true)], args := [d1, d2, d3] }
  | _ => none }
def wideNearsRow : OpenClaim := { program := "ytehdncjojfjmpaa", sum := "f2a5fd394642f9cc7e165cb3ed2ff426b06408fa03da93de2a3113903b55e1ed", func := "aneroid/aneroidlaw02.WideNears", spec := "wideNears", named := ["math/bits.divideError", "math/bits.overflowError"], apart := false }
def WideNearsSaid : Prop := wideNearsRow.holds Try.pinned (OpenSpec.ofChange wideNearsSpec)

/-- ITS FALSE NEIGHBOUR: 'it returns false'. Refute it at one input. -/
def wideNearsWrong : ChangeSpec := { name := "wideNears", fn := fun _ => fun
  | [d1, d2, d3] => { results := [.lit (.bool false)], args := [d1, d2, d3] }
  | _ => none }
def WideNearsWrongFalsely : Prop := wideNearsRow.holds Try.pinned (OpenSpec.ofChange wideNearsWrong)

/-- 'aneroidlaw02.WideFits': WHATEVER THE INPUT: true; the input reads as it did. -/
def wideFitsSpec : ChangeSpec := { name := "wideFits", fn := fun _ => fun
  | [d1, d2, d3] => { results := [.lit (.bool true)], args := [d1, d2, d3] }
  | _ => none }
def wideFitsRow : OpenClaim := { program := "ytehdncjojfjmpaa", sum := "f2a5fd394642f9cc7e165cb3ed2ff426b06408fa03da93de2a3113903b55e1ed", func := "aneroid/aneroidlaw02.WideFits", spec := "wideFits", named := ["math/bits.divideError", "math/bits.overflowError"], apart := false }
def WideFitsSaid : Prop := wideFitsRow.holds Try.pinned (OpenSpec.ofChange wideFitsSpec)

/-- ITS FALSE NEIGHBOUR: 'it returns false'. Refute it at one input. -/
def wideFitsWrong : ChangeSpec := { name := "wideFits", fn := fun _ => fun
  | [d1, d2, d3] => { results := [.lit (.bool false)], args := [d1, d2, d3] }
  | _ => none }
def WideFitsWrongFalsely : Prop := wideFitsRow.holds Try.pinned (OpenSpec.ofChange wideFitsWrong)

/-- 'aneroidlaw02.WideLeft': WHATEVER THE INPUT: true; the input reads as it did. -/
def wideLeftSpec : ChangeSpec := { name := "wideLeft", fn := fun _ => fun
  | [d1, d2, d3] => { results := [.lit (.bool true)], args := [d1, d2, d3] }
  | _ => none }
def wideLeftRow : OpenClaim := { program := "ytehdncjojfjmpaa", sum := "f2a5fd394642f9cc7e165cb3ed2ff426b06408fa03da93de2a3113903b55e1ed", func := "aneroid/aneroidlaw02.WideLeft", spec := "wideLeft", named := ["math/bits.divideError", "math/bits.overflowError"], apart := false }
def WideLeftSaid : Prop := wideLeftRow.holds Try.pinned (OpenSpec.ofChange wideLeftSpec)

/-- ITS FALSE NEIGHBOUR: 'it returns false'. Refute it at one input. -/
def wideLeftWrong : ChangeSpec := { name := "wideLeft", fn := fun _ => fun
  | [d1, d2, d3] => { results := [.lit (.bool false)], args := [d1, d2, d3] }
  | _ => none }
def WideLeftWrongFalsely : Prop := wideLeftRow.holds Try.pinned (OpenSpec.ofChange wideLeftWrong)

/-- 'aneroidlaw02.WideGrows': WHATEVER THE INPUT: true; the input reads as it did. -/
def wideGrowsSpec : ChangeSpec := { name := "wideGrows", fn := fun _ => fun
  | [d1, d2, d3] => { results := [.lit (.bool true)], args := [d1, d2, d3] }
  | _ => none }
def wideGrowsRow : OpenClaim := { program := "ytehdncjojfjmpaa", sum := "f2a5fd394642f9cc7e165cb3ed2ff426b06408fa03da93de2a3113903b55e1ed", func := "aneroid/aneroidlaw02.WideGrows", spec := "wideGrows", named := ["math/bits.divideError", "math/bits.overflowError"], apart := false }
def WideGrowsSaid : Prop := wideGrowsRow.holds Try.pinned (OpenSpec.ofChange wideGrowsSpec)

/-- ITS FALSE NEIGHBOUR: 'it returns false'. Refute it at one input. -/
def wideGrowsWrong : ChangeSpec := { name := "wideGrows", fn := fun _ => fun
  | [d1, d2, d3] => { results := [.lit (.bool false)], args := [d1, d2, d3] }
  | _ => none }
def WideGrowsWrongFalsely : Prop := wideGrowsRow.holds Try.pinned (OpenSpec.ofChange wideGrowsWrong)

/-- 'aneroidlaw03.RootTells': WHATEVER THE INPUT: true; the input reads as it did. -/
def rootTellsSpec : ChangeSpec := { name := "rootTells", fn := fun _ => fun
  | [d1, d2] => { results := [.lit (.bool true)], args := [d1, d2] }
  | _ => none }
def rootTellsRow : OpenClaim := { program := "ytehdncjojfjmpaa", sum := "f2a5fd394642f9cc7e165cb3ed2ff426b06408fa03da93de2a3113903b55e1ed", func := "aneroid/aneroidlaw03.RootTells", spec := "rootTells", inPlace := ["math/bits.Add64"], apart := false }
def RootTellsSaid : Prop := rootTellsRow.holds Try.pinned (OpenSpec.ofChange rootTellsSpec)

/-- ITS FALSE NEIGHBOUR: 'it returns false'. Refute it at one input. -/
def rootTellsWrong : ChangeSpec := { name := "rootTells", fn := fun _ => fun
  | [d1, d2] => { results := [.lit (.bool false)], args := [d1, d2] }
  | _ => none }
def RootTellsWrongFalsely : Prop := rootTellsRow.holds Try.pinned (OpenSpec.ofChange rootTellsWrong)

/-- 'aneroidlaw03.RootSquares': WHATEVER THE INPUT: true; the input reads as it did. -/
def rootSquaresSpec : ChangeSpec := { name := "rootSquares", fn := fun _ => fun
  | [d1, d2] => { results := [.lit (.bool true)], args := [d1, d2] }
  | _ => none }
def rootSquaresRow : OpenClaim := { program := "ytehdncjojfjmpaa", sum := "f2a5fd394642f9cc7e165cb3ed2ff426b06408fa03da93de2a3113903b55e1ed", func := "aneroid/aneroidlaw03.RootSquares", spec := "rootSquares", inPlace := ["math/bits.Add64"], apart := false }
def RootSquaresSaid : Prop := rootSquaresRow.holds Try.pinned (OpenSpec.ofChange rootSquaresSpec)

/-- ITS FALSE NEIGHBOUR: 'it returns false'. Refute it at one input. -/
def rootSquaresWrong : ChangeSpec := { name := "rootSquares", fn := fun _ => fun
  | [d1, d2] => { results := [.lit (.bool false)], args := [d1, d2] }
  | _ => none }
def RootSquaresWrongFalsely : Prop := rootSquaresRow.holds Try.pinned (OpenSpec.ofChange rootSquaresWrong)

/-- 'aneroidlaw03.RootHypots': WHATEVER THE INPUT: true; the input reads as it did. -/
def rootHypotsSpec : ChangeSpec := { name := "rootHypots", fn := fun _ => fun
  | [d1, d2] => { results := [.lit (.bool true)], args := [d1, d2] }
  | _ => none }
def rootHypotsRow : OpenClaim := { program := "ytehdncjojfjmpaa", sum := "f2a5fd394642f9cc7e165cb3ed2ff426b06408fa03da93de2a3113903b55e1ed", func := "aneroid/aneroidlaw03.RootHypots", spec := "rootHypots", inPlace := ["math/bits.Add64"], apart := false }
def RootHypotsSaid : Prop := rootHypotsRow.holds Try.pinned (OpenSpec.ofChange rootHypotsSpec)

/-- ITS FALSE NEIGHBOUR: 'it returns false'. Refute it at one input. -/
def rootHypotsWrong : ChangeSpec := { name := "rootHypots", fn := fun _ => fun
  | [d1, d2] => { results := [.lit (.bool false)], args := [d1, d2] }
  | _ => none }
def RootHypotsWrongFalsely : Prop := rootHypotsRow.holds Try.pinned (OpenSpec.ofChange rootHypotsWrong)

/-- 'aneroidlaw03.RootBetween': WHATEVER THE INPUT: true; the input reads as it did. -/
def rootBetweenSpec : ChangeSpec := { name := "rootBetween", fn := fun _ => fun
  | [d1, d2] => { results := [.lit (.bool true)], args := [d1, d2] }
  | _ => none }
def rootBetweenRow : OpenClaim := { program := "ytehdncjojfjmpaa", sum := "f2a5fd394642f9cc7e165cb3ed2ff426b06408fa03da93de2a3113903b55e1ed", func := "aneroid/aneroidlaw03.RootBetween", spec := "rootBetween", inPlace := ["math/bits.Add64"], apart := false }
def RootBetweenSaid : Prop := rootBetweenRow.holds Try.pinned (OpenSpec.ofChange rootBetweenSpec)

/-- ITS FALSE NEIGHBOUR: 'it returns false'. Refute it at one input. -/
def rootBetweenWrong : ChangeSpec := { name := "rootBetween", fn := fun _ => fun
  | [d1, d2] => { results := [.lit (.bool false)], args := [d1, d2] }
  | _ => none }
def RootBetweenWrongFalsely : Prop := rootBetweenRow.holds Try.pinned (OpenSpec.ofChange rootBetweenWrong)

/-- 'aneroidlaw03.RootSides': WHATEVER THE INPUT: true; the input reads as it did. -/
def rootSidesSpec : ChangeSpec := { name := "rootSides", fn := fun _ => fun
  | [d1, d2] => { results := [.lit (.bool true)], args := [d1, d2] }
  | _ => none }
def rootSidesRow : OpenClaim := { program := "ytehdncjojfjmpaa", sum := "f2a5fd394642f9cc7e165cb3ed2ff426b06408fa03da93de2a3113903b55e1ed", func := "aneroid/aneroidlaw03.RootSides", spec := "rootSides", inPlace := ["math/bits.Add64"], apart := false }
def RootSidesSaid : Prop := rootSidesRow.holds Try.pinned (OpenSpec.ofChange rootSidesSpec)

/-- ITS FALSE NEIGHBOUR: 'it returns false'. Refute it at one input. -/
def rootSidesWrong : ChangeSpec := { name := "rootSides", fn := fun _ => fun
  | [d1, d2] => { results := [.lit (.bool false)], args := [d1, d2] }
  | _ => none }
def RootSidesWrongFalsely : Prop := rootSidesRow.holds Try.pinned (OpenSpec.ofChange rootSidesWrong)

/- THE SECOND FORM. 'bulk': how many values and letters a reading holds, each counted each time it is reached (what is shared counts as often as it is met; a slice's spare places count too). A statement '..UptoSaid' is the law's where the arguments, and the package variables that the reading takes, are together of bulk at most 1048576: NARROWER than '..Said'. Prove '..Said' where nothing that the law and all that it calls make is longer than what came in: it says more and counts as full. Else prove '..UptoSaid'. A law counts once. -/
mutual
def uptoBulk {H : Type} : DataW H → Nat
  | .lit (.string bytes) => bytes.length + 1
  | .lit _ => 1
  | .nil => 1
  | .ptr d => uptoBulk d + 1
  | .slice elems spare => uptoBulkAll elems + uptoBulkAll spare + 1
  | .agg parts => uptoBulkAll parts + 1
  | .iface _ d => uptoBulk d + 1
  | .map entries => uptoBulkEntries entries + 1
  | .held _ => 1
def uptoBulkAll {H : Type} : List (DataW H) → Nat
  | [] => 0
  | d :: r => uptoBulk d + uptoBulkAll r
def uptoBulkEntries {H : Type} : List (Lit × DataW H) → Nat
  | [] => 0
  | x :: r => uptoBulkEntry x + uptoBulkEntries r
def uptoBulkEntry {H : Type} : Lit × DataW H → Nat
  | (.string bytes, d) => bytes.length + uptoBulk d + 1
  | (_, d) => uptoBulk d + 1
 end
def uptoSmall : (H : Type) → List (DataW H) → Bool := fun _ ds => decide (uptoBulkAll ds ≤ 1048576)
def OpenSpec.upto (s : _root_.Go.ChangeSpec) : _root_.Go.OpenSpec := { _root_.Go.OpenSpec.ofChange s with cond := some uptoSmall }

/-- 'aneroidlaw02.WideFloors', WHERE WHAT IT READS IS OF BULK AT MOST 1048576: true; the input reads as it did. -/
def wideFloorsUptoRow : OpenClaim := { program := "ytehdncjojfjmpaa", sum := "f2a5fd394642f9cc7e165cb3ed2ff426b06408fa03da93de2a3113903b55e1ed", func := "aneroid/aneroidlaw02.WideFloors", spec := "wideFloors", named := ["math/bits.divideError", "math/bits.overflowError"], apart := false, narrowed := true }
def WideFloorsUptoSaid : Prop := wideFloorsUptoRow.holds Try.pinned (OpenSpec.upto wideFloorsSpec)

/-- 'aneroidlaw02.WideNears', WHERE WHAT IT READS IS OF BULK AT MOST 1048576: true; the input reads as it did. -/
def wideNearsUptoRow : OpenClaim := { program := "ytehdncjojfjmpaa", sum := "f2a5fd394642f9cc7e165cb3ed2ff426b06408fa03da93de2a3113903b55e1ed", func := "aneroid/aneroidlaw02.WideNears", spec := "wideNears", named := ["math/bits.divideError", "math/bits.overflowError"], apart := false, narrowed := true }
def WideNearsUptoSaid : Prop := wideNearsUptoRow.holds Try.pinned (OpenSpec.upto wideNearsSpec)

/-- 'aneroidlaw02.WideFits', WHERE WHAT IT READS IS OF BULK AT MOST 1048576: true; the input reads as it did. -/
def wideFitsUptoRow : OpenClaim := { program := "ytehdncjojfjmpaa", sum := "f2a5fd394642f9cc7e165cb3ed2ff426b06408fa03da93de2a3113903b55e1ed", func := "aneroid/aneroidlaw02.WideFits", spec := "wideFits", named := ["math/bits.divideError", "math/bits.overflowError"], apart := false, narrowed := true }
def WideFitsUptoSaid : Prop := wideFitsUptoRow.holds Try.pinned (OpenSpec.upto wideFitsSpec)

/-- 'aneroidlaw02.WideLeft', WHERE WHAT IT READS IS OF BULK AT MOST 1048576: true; the input reads as it did. -/
def wideLeftUptoRow : OpenClaim := { program := "ytehdncjojfjmpaa", sum := "f2a5fd394642f9cc7e165cb3ed2ff426b06408fa03da93de2a3113903b55e1ed", func := "aneroid/aneroidlaw02.WideLeft", spec := "wideLeft", named := ["math/bits.divideError", "math/bits.overflowError"], apart := false, narrowed := true }
def WideLeftUptoSaid : Prop := wideLeftUptoRow.holds Try.pinned (OpenSpec.upto wideLeftSpec)

/-- 'aneroidlaw02.WideGrows', WHERE WHAT IT READS IS OF BULK AT MOST 1048576: true; the input reads as it did. -/
def wideGrowsUptoRow : OpenClaim := { program := "ytehdncjojfjmpaa", sum := "f2a5fd394642f9cc7e165cb3ed2ff426b06408fa03da93de2a3113903b55e1ed", func := "aneroid/aneroidlaw02.WideGrows", spec := "wideGrows", named := ["math/bits.divideError", "math/bits.overflowError"], apart := false, narrowed := true }
def WideGrowsUptoSaid : Prop := wideGrowsUptoRow.holds Try.pinned (OpenSpec.upto wideGrowsSpec)

/-- 'aneroidlaw03.RootTells', WHERE WHAT IT READS IS OF BULK AT MOST 1048576: true; the input reads as it did. -/
def rootTellsUptoRow : OpenClaim := { program := "ytehdncjojfjmpaa", sum := "f2a5fd394642f9cc7e165cb3ed2ff426b06408fa03da93de2a3113903b55e1ed", func := "aneroid/aneroidlaw03.RootTells", spec := "rootTells", inPlace := ["math/bits.Add64"], apart := false, narrowed := true }
def RootTellsUptoSaid : Prop := rootTellsUptoRow.holds Try.pinned (OpenSpec.upto rootTellsSpec)

/-- 'aneroidlaw03.RootSquares', WHERE WHAT IT READS IS OF BULK AT MOST 1048576: true; the input reads as it did. -/
def rootSquaresUptoRow : OpenClaim := { program := "ytehdncjojfjmpaa", sum := "f2a5fd394642f9cc7e165cb3ed2ff426b06408fa03da93de2a3113903b55e1ed", func := "aneroid/aneroidlaw03.RootSquares", spec := "rootSquares", inPlace := ["math/bits.Add64"], apart := false, narrowed := true }
def RootSquaresUptoSaid : Prop := rootSquaresUptoRow.holds Try.pinned (OpenSpec.upto rootSquaresSpec)

/-- 'aneroidlaw03.RootHypots', WHERE WHAT IT READS IS OF BULK AT MOST 1048576: true; the input reads as it did. -/
def rootHypotsUptoRow : OpenClaim := { program := "ytehdncjojfjmpaa", sum := "f2a5fd394642f9cc7e165cb3ed2ff426b06408fa03da93de2a3113903b55e1ed", func := "aneroid/aneroidlaw03.RootHypots", spec := "rootHypots", inPlace := ["math/bits.Add64"], apart := false, narrowed := true }
def RootHypotsUptoSaid : Prop := rootHypotsUptoRow.holds Try.pinned (OpenSpec.upto rootHypotsSpec)

/-- 'aneroidlaw03.RootBetween', WHERE WHAT IT READS IS OF BULK AT MOST 1048576: true; the input reads as it did. -/
def rootBetweenUptoRow : OpenClaim := { program := "ytehdncjojfjmpaa", sum := "f2a5fd394642f9cc7e165cb3ed2ff426b06408fa03da93de2a3113903b55e1ed", func := "aneroid/aneroidlaw03.RootBetween", spec := "rootBetween", inPlace := ["math/bits.Add64"], apart := false, narrowed := true }
def RootBetweenUptoSaid : Prop := rootBetweenUptoRow.holds Try.pinned (OpenSpec.upto rootBetweenSpec)

/-- 'aneroidlaw03.RootSides', WHERE WHAT IT READS IS OF BULK AT MOST 1048576: true; the input reads as it did. -/
def rootSidesUptoRow : OpenClaim := { program := "ytehdncjojfjmpaa", sum := "f2a5fd394642f9cc7e165cb3ed2ff426b06408fa03da93de2a3113903b55e1ed", func := "aneroid/aneroidlaw03.RootSides", spec := "rootSides", inPlace := ["math/bits.Add64"], apart := false, narrowed := true }
def RootSidesUptoSaid : Prop := rootSidesUptoRow.holds Try.pinned (OpenSpec.upto rootSidesSpec)

end Rows
end Go.Proofs.Ytehdncjojfjmpaa
