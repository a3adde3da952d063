/-
  No cell of these rows narrows 'for every input' (looked for: loops, veiled, ifaces, maps, wideKeys, modest, calm, conditions, laid).
  DERIVED. THE GIVEN ROWS OF THIS SEAT. 11 by the template 'for every input the law returns true; each argument reads behind the call as it read before'; 0 by the template 'total and deterministic' (their statements: YtnnhgpmpkiblaaaTotals.lean).
  GIVEN WITH THE SEED: the statements are not yours to turn. If you find one false, say at which input.
  Laid BY PROGRAM, IN A SANDBOX (cutbox-rows.mjs): the forced cells as the released guide's own fill.sh prints them over the translation b68b1fc281739c09… (all of the seat's roots in one cut). By AI agents, Wed Nov 11 2026. No macro, syntax, notation, axiom, sorry.
-/
import Derived.Test.YtnnhgpmpkiblaaaChecked
import GoSem.Claim
import GoSem.ClaimJoined
import GoSem.ClaimMapViews
import Derived.JoinedTies
import Derived.KernelRfl
namespace Go.Proofs.Ytnnhgpmpkiblaaa
/- THE CELL 'sum', in the pinned program and in every row, IS THE sha256 OF THE DUMP (.gsa) THAT YtnnhgpmpkiblaaaProg.lean LOADS. Nothing in Lean hashes anything: it is a label: what it is worth is what the hold of that sum in a sandbox is worth. -/
noncomputable def Try.pinned : Pinned := { name := "ytnnhgpmpkiblaaa", sum := "b68b1fc281739c095da13d0238c396bc1bf25c836a1521d91666a92ff11a49b8", checked := Try.checked }
namespace Rows
def none {H : Type} : Left H := { results := [], args := [] }

/-- 'aneroidlaw02.WideFloors': WHATEVER THE INPUT: true; the input reads as it did. -/
def wideFloorsSpec : ChangeSpec := { name := "wideFloors", fn := fun _ => fun
  | [d1, d2, d3] => { results := [.lit (.bool true)], args := [d1, d2, d3] }
  | _ => none }
def wideFloorsRow : OpenClaim := { program := "ytnnhgpmpkiblaaa", sum := "b68b1fc281739c095da13d0238c396bc1bf25c836a1521d91666a92ff11a49b8", func := "aneroid/aneroidlaw02.WideFloors", spec := "wideFloors", named := ["math/bits.divideError", "math/bits.overflowError"], apart := false }
def WideFloorsSaid : Prop := wideFloorsRow.holds Try.pinned (OpenSpec.ofChange wideFloorsSpec)

/-- ITS FALSE NEIGHBOUR: 'it returns false'. Refute it at one input. -/
def wideFloorsWrong : ChangeSpec := { name := "wideFloors", fn := fun _ => fun
  | [d1, d2, d3] => { results := [.lit (.bool false)], args := [d1, d2, d3] }
  | _ => none }
def WideFloorsWrongFalsely : Prop := wideFloorsRow.holds Try.pinned (OpenSpec.ofChange wideFloorsWrong)

/-- 'aneroidlaw02.WideNears': WHATEVER THE INPUT: true; the input reads as it did. -/
def wideNearsSpec : ChangeSpec := { name := "wideNears", fn := fun _ => fun
  | [d1, d2, d3] => { results := [.lit (.bool true)], args := [d1, d2, d3] }
  | _ => none }
def wideNearsRow : OpenClaim := { program := "ytnnhgpmpkiblaaa", sum := "b68b1fc281739c095da13d0238c396bc1bf25c836a1521d91666a92ff11a49b8", func := "aneroid/aneroidlaw02.WideNears", spec := "wideNears", named := ["math/bits.divideError", "math/bits.overflowError"], apart := false }
def WideNearsSaid : Prop := wideNearsRow.holds Try.pinned (OpenSpec.ofChange wideNearsSpec)

/-- ITS FALSE NEIGHBOUR: 'it returns false'. Refute it at one input. -/
def wideNearsWrong : ChangeSpec := { name := "wideNears", fn := fun _ => fun
  | [d1, d2, d3] => { results := [.lit (.bool false)], args := [d1, d2, d3] }
  | _ => none }
def WideNearsWrongFalsely : Prop := wideNearsRow.holds Try.pinned (OpenSpec.ofChange wideNearsWrong)

/-- 'aneroidlaw02.WideFits': WHATEVER THE INPUT: true; the input reads as it did. -/
def wideFitsSpec : ChangeSpec := { name := "wideFits", fn := fun _ => fun
  | [d1, d2, d3] => { results := [.lit (.bool true)], args := [d1, d2, d3] }
  | _ => none }
def wideFitsRow : OpenClaim := { program := "ytnnhgpmpkiblaaa", sum := "b68b1fc281739c095da13d0238c396bc1bf25c836a1521d91666a92ff11a49b8", func := "aneroid/aneroidlaw02.WideFits", spec := "wideFits", named := ["math/bits.divideError", "math/bits.overflowError"], apart := false }
def WideFitsSaid : Prop := wideFitsRow.holds Try.pinned (OpenSpec.ofChange wideFitsSpec)

/-- ITS FALSE NEIGHBOUR: 'it returns false'. Refute it at one input. -/
def wideFitsWrong : ChangeSpec := { name := "wideFits", fn := fun _ => fun
  | [d1, d2, d3] => { results := [.lit (.bool false)], args := [d1, d2, d3] }
  | _ => none }
def WideFitsWrongFalsely : Prop := wideFitsRow.holds Try.pinned (OpenSpec.ofChange wideFitsWrong)

/-- 'aneroidlaw03.RootTells': WHATEVER THE INPUT: true; the input reads as it did. -/
def rootTellsSpec : ChangeSpec := { name := "rootTells", fn := fun _ => fun
  | [d1, d2] => { results := [.lit (.bool true)], args := [d1, d2] }
  | _ => none }
def rootTellsRow : OpenClaim := { program := "ytnnhgpmpkiblaaa", sum := "b68b1fc281739c095da13d0238c396bc1bf25c836a1521d91666a92ff11a49b8", func := "aneroid/aneroidlaw03.RootTells", spec := "rootTells", inPlace := ["math/bits.Add64"], apart := false }
def RootTellsSaid : Prop := rootTellsRow.holds Try.pinned (OpenSpec.ofChange rootTellsSpec)

/-- ITS FALSE NEIGHBOUR: 'it returns false'. Refute it at one input. -/
def rootTellsWrong : ChangeSpec := { name := "rootTells", fn := fun _ => fun
  | [d1, d2] => { results := [.lit (.bool false)], args := [d1, d2] }
  | _ => none }
def RootTellsWrongFalsely : Prop := rootTellsRow.holds Try.pinned (OpenSpec.ofChange rootTellsWrong)

/-- 'aneroidlaw03.RootSquares': WHATEVER THE INPUT: true; the input reads as it did. -/
def rootSquaresSpec : ChangeSpec := { name := "rootSquares", fn := fun _ => fun
  | [d1, d2] => { results := [.lit (.bool true)], args := [d1, d2] }
  | _ => none }
def rootSquaresRow : OpenClaim := { program := "ytnnhgpmpkiblaaa", sum := "b68b1fc281739c095da13d0238c396bc1bf25c836a1521d91666a92ff11a49b8", func := "aneroid/aneroidlaw03.RootSquares", spec := "rootSquares", inPlace := ["math/bits.Add64"], apart := false }
def RootSquaresSaid : Prop := rootSquaresRow.holds Try.pinned (OpenSpec.ofChange rootSquaresSpec)

/-- ITS FALSE NEIGHBOUR: 'it returns false'. Refute it at one input. -/
def rootSquaresWrong : ChangeSpec := { name := "rootSquares", fn := fun _ => fun
  | [d1, d2] => { results := [.lit (.bool false)], args := [d1, d2] }
  | _ => none }
def RootSquaresWrongFalsely : Prop := rootSquaresRow.holds Try.pinned (OpenSpec.ofChange rootSquaresWrong)

/-- 'aneroidlaw03.RootHypots': WHATEVER THE INPUT: true; the input reads as it did. -/
def rootHypotsSpec : ChangeSpec := { name := "rootHypots", fn := fun _ => fun
  | [d1, d2] => { results := [.lit (.bool true)], args := [d1, d2] }
  | _ => none }
def rootHypotsRow : OpenClaim := { program := "ytnnhgpmpkiblaaa", sum := "b68b1fc281739c095da13d0238c396bc1bf25c836a1521d91666a92ff11a49b8", func := "aneroid/aneroidlaw03.RootHypots", spec := "rootHypots", inPlace := ["math/bits.Add64"], apart := false }
def RootHypotsSaid : Prop := rootHypotsRow.holds Try.pinned (OpenSpec.ofChange rootHypotsSpec)

/-- ITS FALSE NEIGHBOUR: 'it returns false'. Refute it at one input. -/
def rootHypotsWrong : ChangeSpec := { name := "rootHypots", fn := fun _ => fun
  | [d1, d2] => { results := [.lit (.bool false)], args := [d1, d2] }
  | _ => none }
def RootHypotsWrongFalsely : Prop := rootHypotsRow.holds Try.pinned (OpenSpec.ofChange rootHypotsWrong)

/-- 'aneroidlaw09.SpeedTrues': WHATEVER THE INPUT: true; the input reads as it did. -/
def speedTruesSpec : ChangeSpec := { name := "speedTrues", fn := fun _ => fun
  | [d1, d2] => { results := [.lit (.bool true)], args := [d1, d2] }
  | _ => none }
def speedTruesRow : OpenClaim := { program := "ytnnhgpmpkiblaaa", sum := "b68b1fc281739c095da13d0238c396bc1bf25c836a1521d91666a92ff11a49b8", func := "aneroid/aneroidlaw09.SpeedTrues", spec := "speedTrues", unfollowed := true, recurses := true, named := ["math/bits.divideError", "math/bits.overflowError"], apart := false }
def SpeedTruesSaid : Prop := speedTruesRow.holds Try.pinned (OpenSpec.ofChange speedTruesSpec)

/-- ITS FALSE NEIGHBOUR: 'it returns false'. Refute it at one input. -/
def speedTruesWrong : ChangeSpec := { name := "speedTrues", fn := fun _ => fun
  | [d1, d2] => { results := [.lit (.bool false)], args := [d1, d2] }
  | _ => none }
def SpeedTruesWrongFalsely : Prop := speedTruesRow.holds Try.pinned (OpenSpec.ofChange speedTruesWrong)

/-- 'aneroidlaw09.SpeedDensities': WHATEVER THE INPUT: true; the input reads as it did. -/
def speedDensitiesSpec : ChangeSpec := { name := "speedDensities", fn := fun _ => fun
  | [d1, d2, d3] => { results := [.lit (.bool true)], args := [d1, d2, d3] }
  | _ => none }
def speedDensitiesRow : OpenClaim := { program := "ytnnhgpmpkiblaaa", sum := "b68b1fc281739c095da13d0238c396bc1bf25c836a1521d91666a92ff11a49b8", func := "aneroid/aneroidlaw09.SpeedDensities", spec := "speedDensities", unfollowed := true, recurses := true, named := ["math/bits.divideError", "math/bits.overflowError"], apart := false }
def SpeedDensitiesSaid : Prop := speedDensitiesRow.holds Try.pinned (OpenSpec.ofChange speedDensitiesSpec)

/-- ITS FALSE NEIGHBOUR: 'it returns false'. Refute it at one input. -/
def speedDensitiesWrong : ChangeSpec := { name := "speedDensities", fn := fun _ => fun
  | [d1, d2, d3] => { results := [.lit (.bool false)], args := [d1, d2, d3] }
  | _ => none }
def SpeedDensitiesWrongFalsely : Prop := speedDensitiesRow.holds Try.pinned (OpenSpec.ofChange speedDensitiesWrong)

/-- 'aneroidlaw10.HeatTells': WHATEVER THE INPUT: true; the input reads as it did. -/
def heatTellsSpec : ChangeSpec := { name := "heatTells", fn := fun _ => fun
  | [d1, d2, d3] => { results := [.lit (.bool true)], args := [d1, d2, d3] }
  | _ => none }
def heatTellsRow : OpenClaim := { program := "ytnnhgpmpkiblaaa", sum := "b68b1fc281739c095da13d0238c396bc1bf25c836a1521d91666a92ff11a49b8", func := "aneroid/aneroidlaw10.HeatTells", spec := "heatTells", named := ["math/bits.divideError", "math/bits.overflowError"], apart := false }
def HeatTellsSaid : Prop := heatTellsRow.holds Try.pinned (OpenSpec.ofChange heatTellsSpec)

/-- ITS FALSE NEIGHBOUR: 'it returns false'. Refute it at one input. -/
def heatTellsWrong : ChangeSpec := { name := "heatTells", fn := fun _ => fun
  | [d1, d2, d3] => { results := [.lit (.bool false)], args := [d1, d2, d3] }
  | _ => none }
def HeatTellsWrongFalsely : Prop := heatTellsRow.holds Try.pinned (OpenSpec.ofChange heatTellsWrong)

/-- 'aneroidlaw14.CalRaws': WHATEVER THE INPUT: true; the input reads as it did. -/
def calRawsSpec : ChangeSpec := { name := "calRaws", fn := fun _ => fun
  | [d1, d2, d3] => { results := [.lit (.bool true)], args := [d1, d2, d3] }
  | _ => none }
def calRawsRow : OpenClaim := { program := "ytnnhgpmpkiblaaa", sum := "b68b1fc281739c095da13d0238c396bc1bf25c836a1521d91666a92ff11a49b8", func := "aneroid/aneroidlaw14.CalRaws", spec := "calRaws", unfollowed := true, recurses := true, named := ["math/bits.divideError", "math/bits.overflowError"], apart := false }
def CalRawsSaid : Prop := calRawsRow.holds Try.pinned (OpenSpec.ofChange calRawsSpec)

/-- ITS FALSE NEIGHBOUR: 'it returns false'. Refute it at one input. -/
def calRawsWrong : ChangeSpec := { name := "calRaws", fn := fun _ => fun
  | [d1, d2, d3] => { results := [.lit (.bool false)], args := [d1, d2, d3] }
  | _ => none }
def CalRawsWrongFalsely : Prop := calRawsRow.holds Try.pinned (OpenSpec.ofChange calRawsWrong)

/-- 'aneroidlaw14.CalBack': WHATEVER THE INPUT: true; the input reads as it did. -/
def calBackSpec : ChangeSpec := { name := "calBack", fn := fun _ => fun
  | [d1, d2, d3] => { results := [.lit (.bool true)], args := [d1, d2, d3] }
  | _ => none }
def calBackRow : OpenClaim := { program := "ytnnhgpmpkiblaaa", sum := "b68b1fc281739c095da13d0238c396bc1bf25c836a1521d91666a92ff11a49b8", func := "aneroid/aneroidlaw14.CalBack", spec := "calBack", unfollowed := true, recurses := true, named := ["math/bits.divideError", "math/bits.overflowError"], apart := false }
def CalBackSaid : Prop := calBackRow.holds Try.pinned (OpenSpec.ofChange calBackSpec)

/-- ITS FALSE NEIGHBOUR: 'it returns false'. Refute it at one input. -/
def calBackWrong : ChangeSpec := { name := "calBack", fn := fun _ => fun
  | [d1, d2, d3] => { results := [.lit (.bool false)], args := [d1, d2, d3] }
  | _ => none }
def CalBackWrongFalsely : Prop := calBackRow.holds Try.pinned (OpenSpec.ofChange calBackWrong)

/- THE SECOND FORM. 'bulk': how many values and letters a reading holds, each counted each time it is reached (what is shared counts as often as it is met; a slice's spare places count too). A statement '..UptoSaid' is the law's where the arguments, and the package variables that the reading takes, are together of bulk at most 1048576: NARROWER than '..Said'. Prove '..Said' where nothing that the law and all that it calls make is longer than what came in: it says more and counts as full. Else prove '..UptoSaid'. A law counts once. -/
mutual
def uptoBulk {H : Type} : DataW H → Nat
  | .lit (.string bytes) => bytes.length + 1
  | .lit _ => 1
  | .nil => 1
  | .ptr d => uptoBulk d + 1
  | .slice elems spare => uptoBulkAll elems + uptoBulkAll spare + 1
  | .agg parts => uptoBulkAll parts + 1
  | .iface _ d => uptoBulk d + 1
  | .map entries => uptoBulkEntries entries + 1
  | .held _ => 1
def uptoBulkAll {H : Type} : List (DataW H) → Nat
  | [] => 0
  | d :: r => uptoBulk d + uptoBulkAll r
def uptoBulkEntries {H : Type} : List (Lit × DataW H) → Nat
  | [] => 0
  | x :: r => uptoBulkEntry x + uptoBulkEntries r
def uptoBulkEntry {H : Type} : Lit × DataW H → Nat
  | (.string bytes, d) => bytes.length + uptoBulk d + 1
  | (_, d) => uptoBulk d + 1
 end
def uptoSmall : (H : Type) → List (DataW H) → Bool := fun _ ds => decide (uptoBulkAll ds ≤ 1048576)
def OpenSpec.upto (s : _root_.Go.ChangeSpec) : _root_.Go.OpenSpec := { _root_.Go.OpenSpec.ofChange s with cond := some uptoSmall }

/-- 'aneroidlaw02.WideFloors', WHERE WHAT IT READS IS OF BULK AT MOST 1048576: true; the input reads as it did. -/
def wideFloorsUptoRow : OpenClaim := { program := "ytnnhgpmpkiblaaa", sum := "b68b1fc281739c095da13d0238c396bc1bf25c836a1521d91666a92ff11a49b8", func := "aneroid/aneroidlaw02.WideFloors", spec := "wideFloors", named := ["math/bits.divideError", "math/bits.overflowError"], apart := false, narrowed := true }
def WideFloorsUptoSaid : Prop := wideFloorsUptoRow.holds Try.pinned (OpenSpec.upto wideFloorsSpec)

/-- 'aneroidlaw02.WideNears', WHERE WHAT IT READS IS OF BULK AT MOST 1048576: true; the input reads as it did. -/
def wideNearsUptoRow : OpenClaim := { program := "ytnnhgpmpkiblaaa", sum := "b68b1fc281739c095da13d0238c396bc1bf25c836a1521d91666a92ff11a49b8", func := "aneroid/aneroidlaw02.WideNears", spec := "wideNears", named := ["math/bits.divideError", "math/bits.overflowError"], apart := false, narrowed := true }
def WideNearsUptoSaid : Prop := wideNearsUptoRow.holds Try.pinned (OpenSpec.upto wideNearsSpec)

/-- 'aneroidlaw02.WideFits', WHERE WHAT IT READS IS OF BULK AT MOST 1048576: true; the input reads as it did. -/
def wideFitsUptoRow : OpenClaim := { program := "ytnnhgpmpkiblaaa", sum := "b68b1fc281739c095da13d0238c396bc1bf25c836a1521d91666a92ff11a49b8", func := "aneroid/aneroidlaw02.WideFits", spec := "wideFits", named := ["math/bits.divideError", "math/bits.overflowError"], apart := false, narrowed := true }
def WideFitsUptoSaid : Prop := wideFitsUptoRow.holds Try.pinned (OpenSpec.upto wideFitsSpec)

/-- 'aneroidlaw03.RootTells', WHERE WHAT IT READS IS OF BULK AT MOST 1048576: true; the input reads as it did. -/
def rootTellsUptoRow : OpenClaim := { program := "ytnnhgpmpkiblaaa", sum := "b68b1fc281739c095da13d0238c396bc1bf25c836a1521d91666a92ff11a49b8", func := "aneroid/aneroidlaw03.RootTells", spec := "rootTells", inPlace := ["math/bits.Add64"], apart := false, narrowed := true }
def RootTellsUptoSaid : Prop := rootTellsUptoRow.holds Try.pinned (OpenSpec.upto rootTellsSpec)

/-- 'aneroidlaw03.RootSquares', WHERE WHAT IT READS IS OF BULK AT MOST 1048576: true; the input reads as it did. -/
def rootSquaresUptoRow : OpenClaim := { program := "ytnnhgpmpkiblaaa", sum := "b68b1fc281739c095da13d0238c396bc1bf25c836a1521d91666a92ff11a49b8", func := "aneroid/aneroidlaw03.RootSquares", spec := "rootSquares", inPlace := ["math/bits.Add64"], apart := false, narrowed := true }
def RootSquaresUptoSaid : Prop := rootSquaresUptoRow.holds Try.pinned (OpenSpec.upto rootSquaresSpec)

/-- 'aneroidlaw03.RootHypots', WHERE WHAT IT READS IS OF BULK AT MOST 1048576: true; the input reads as it did. -/
def rootHypotsUptoRow : OpenClaim := { program := "ytnnhgpmpkiblaaa", sum := "b68b1fc281739c095da13d0238c396bc1bf25c836a1521d91666a92ff11a49b8", func := "aneroid/aneroidlaw03.RootHypots", spec := "rootHypots", inPlace := ["math/bits.Add64"], apart := false, narrowed := true }
def RootHypotsUptoSaid : Prop := rootHypotsUptoRow.holds Try.pinned (OpenSpec.upto rootHypotsSpec)

/-- 'aneroidlaw09.SpeedTrues', WHERE WHAT IT READS IS OF BULK AT MOST 1048576: true; the input reads as it did. -/
def speedTruesUptoRow : OpenClaim := { program := "ytnnhgpmpkiblaaa", sum := "b68b1fc281739c095da13d0238c396bc1bf25c836a1521d91666a92ff11a49b8", func := "aneroid/aneroidlaw09.SpeedTrues", spec := "speedTrues", unfollowed := true, recurses := true, named := ["math/bits.divideError", "math/bits.overflowError"], apart := false, narrowed := true }
def SpeedTruesUptoSaid : Prop := speedTruesUptoRow.holds Try.pinned (OpenSpec.upto speedTruesSpec)

/-- 'aneroidlaw09.SpeedDensities', WHERE WHAT IT READS IS OF BULK AT MOST 1048576: true; the input reads as it did. -/
def speedDensitiesUptoRow : OpenClaim := { program := "ytnnhgpmpkiblaaa", sum := "b68b1fc281739c095da13d0238c396bc1bf25c836a1521d91666a92ff11a49b8", func := "aneroid/aneroidlaw09.SpeedDensities", spec := "speedDensities", unfollowed := true, recurses := true, named := ["math/bits.divideError", "math/bits.overflowError"], apart := false, narrowed := true }
def SpeedDensitiesUptoSaid : Prop := speedDensitiesUptoRow.holds Try.pinned (OpenSpec.upto speedDensitiesSpec)

/-- 'aneroidlaw10.HeatTells', WHERE WHAT IT READS IS OF BULK AT MOST 1048576: true; the input reads as it did. -/
def heatTellsUptoRow : OpenClaim := { program := "ytnnhgpmpkiblaaa", sum := "b68b1fc281739c095da13d0238c396bc1bf25c836a1521d91666a92ff11a49b8", func := "aneroid/aneroidlaw10.HeatTells", spec := "heatTells", named := ["math/bits.divideError", "math/bits.overflowError"], apart := false, narrowed := true }
def HeatTellsUptoSaid : Prop := heatTellsUptoRow.holds Try.pinned (OpenSpec.upto heatTellsSpec)

/-- 'aneroidlaw14.CalRaws', WHERE WHAT IT READS IS OF BULK AT MOST 1048576: true; the input reads as it did. -/
def calRawsUptoRow : OpenClaim := { program := "ytnnhgpmpkiblaaa", sum := "b68b1fc281739c095da13d0238c396bc1bf25c836a1521d91666a92ff11a49b8", func := "aneroid/aneroidlaw14.CalRaws", spec := "calRaws", unfollowed := true, recurses := true, named := ["math/bits.divideError", "math/bits.overflowError"], apart := false, narrowed := true }
def CalRawsUptoSaid : Prop := calRawsUptoRow.holds Try.pinned (OpenSpec.upto calRawsSpec)

/-- 'aneroidlaw14.CalBack', WHERE WHAT IT READS IS OF BULK AT MOST 1048576: true; the input reads as it did. -/
def calBackUptoRow : OpenClaim := { program := "ytnnhgpmpkiblaaa", sum := "b68b1fc281739c095da13d0238c396bc1bf25c836a1521d91666a92ff11a49b8", func := "aneroid/aneroidlaw14.CalBack", spec := "calBack", unfollowed := true, recurses := true, named := ["math/bits.divideError", "math/bits.overflowError"], apart := false, narrowed := true }
def CalBackUptoSaid : Prop := calBackUptoRow.holds Try.pinned (OpenSpec.upto calBackSpec)

end Rows
end Go.Proofs.Ytnnhgpmpkiblaaa
