/-
  No cell of these rows narrows 'for every input' (looked for: loops, veiled, ifaces, maps, wideKeys, modest, calm, conditions, laid).
  DERIVED. THE GIVEN ROWS OF THIS SEAT. 12 by the template 'for every input the law returns true; each argument reads behind the call as it read before'; 0 by the template 'total and deterministic' (their statements: YtmmenpaodofahaaTotals.lean).
  GIVEN WITH THE SEED: the statements are not yours to turn. If you find one false, say at which input.
  Laid BY PROGRAM, IN A SANDBOX (cutbox-rows.mjs): the forced cells as the released guide's own fill.sh prints them over the translation 730115f29aa05c5b… (all of the seat's roots in one cut). By AI agents, Wed Nov 11 2026. No macro, syntax, notation, axiom, sorry.
-/
import Derived.Test.YtmmenpaodofahaaChecked
import GoSem.Claim
import GoSem.ClaimJoined
import GoSem.ClaimMapViews
import Derived.JoinedTies
import Derived.KernelRfl
namespace Go.Proofs.Ytmmenpaodofahaa
/- THE CELL 'sum', in the pinned program and in every row, IS THE sha256 OF THE DUMP (.gsa) THAT YtmmenpaodofahaaProg.lean LOADS. Nothing in Lean hashes anything: it is a label: what it is worth is what the hold of that sum in a sandbox is worth. -/
noncomputable def Try.pinned : Pinned := { name := "ytmmenpaodofahaa", sum := "730115f29aa05c5bf2ada0f789a670f310d619c4812c595e3462f9b9bdae3d61", checked := Try.checked }
namespace Rows
def none {H : Type} : Left H := { results := [], args := [] }

/-- 'aneroidlaw05.CurveTells': WHATEVER THE INPUT: true; the input reads as it did. -/
def curveTellsSpec : ChangeSpec := { name := "curveTells", fn := fun _ => fun
  | [d1, d2, d3] => { results := [.lit (.bool true)], args := [d1, d2, d3] }
  | _ => none }
def curveTellsRow : OpenClaim := { program := "ytmmenpaodofahaa", sum := "730115f29aa05c5bf2ada0f789a670f310d619c4812c595e3462f9b9bdae3d61", func := "aneroid/aneroidlaw05.CurveTells", spec := "curveTells", unfollowed := true, recurses := true, named := ["math/bits.divideError", "math/bits.overflowError"], apart := false }
def CurveTellsSaid : Prop := curveTellsRow.holds Try.pinned (OpenSpec.ofChange curveTellsSpec)

/-- ITS FALSE NEIGHBOUR: 'it returns false'. Refute it at one input. -/
def curveTellsWrong : ChangeSpec := { name := "curveTells", fn := fun _ => fun
  | [d1, d2, d3] => { results := [.lit (.bool false)], args := [d1, d2, d3] }
  | _ => none }
def CurveTellsWrongFalsely : Prop := curveTellsRow.holds Try.pinned (OpenSpec.ofChange curveTellsWrong)

/-- 'aneroidlaw05.CurveTurns': WHATEVER THE INPUT: true; the input reads as it did. -/
def curveTurnsSpec : ChangeSpec := { name := "curveTurns", fn := fun _ => fun
  | [d] => { results := [.lit (.bool true)], args := [d] }
  | _ => none }
def curveTurnsRow : OpenClaim := { program := "ytmmenpaodofahaa", sum := "730115f29aa05c5bf2ada0f789a670f310d619c4812c595e3462f9b9bdae3d61", func := "aneroid/aneroidlaw05.CurveTurns", spec := "curveTurns", unfollowed := true, recurses := true, named := ["math/bits.divideError", "math/bits.overflowError"], apart := false }
def CurveTurnsSaid : Prop := curveTurnsRow.holds Try.pinned (OpenSpec.ofChange curveTurnsSpec)

/-- ITS FALSE NEIGHBOUR: 'it returns false'. Refute it at one input. -/
def curveTurnsWrong : ChangeSpec := { name := "curveTurns", fn := fun _ => fun
  | [d] => { results := [.lit (.bool false)], args := [d] }
  | _ => none }
def CurveTurnsWrongFalsely : Prop := curveTurnsRow.holds Try.pinned (OpenSpec.ofChange curveTurnsWrong)

/-- 'aneroidlaw05.CurveBetween': WHATEVER THE INPUT: true; the input reads as it did. -/
def curveBetweenSpec : ChangeSpec := { name := "curveBetween", fn := fun _ => fun
  | [d1, d2, d3] => { results := [.lit (.bool true)], args := [d1, d2, d3] }
  | _ => none }
def curveBetweenRow : OpenClaim := { program := "ytmmenpaodofahaa", sum := "730115f29aa05c5bf2ada0f789a670f310d619c4812c595e3462f9b9bdae3d61", func := "aneroid/aneroidlaw05.CurveBetween", spec := "curveBetween", unfollowed := true, recurses := true, named := ["math/bits.divideError", "math/bits.overflowError"], apart := false }
def CurveBetweenSaid : Prop := curveBetweenRow.holds Try.pinned (OpenSpec.ofChange curveBetweenSpec)

/-- ITS FALSE NEIGHBOUR: 'it returns false'. Refute it at one input. -/
def curveBetweenWrong : ChangeSpec := { name := "curveBetween", fn := fun _ => fun
  | [d1, d2, d3] => { results := [.lit (.bool false)], args := [d1, d2, d3] }
  | _ => none }
def CurveBetweenWrongFalsely : Prop := curveBetweenRow.holds Try.pinned (OpenSpec.ofChange curveBetweenWrong)

/-- 'aneroidlaw05.CurveRound': WHATEVER THE INPUT: true; the input reads as it did. -/
def curveRoundSpec : ChangeSpec := { name := "curveRound", fn := fun _ => fun
  | [d1, d2] => { results := [.lit (.bool true)], args := [d1, d2] }
  | _ => none }
def curveRoundRow : OpenClaim := { program := "ytmmenpaodofahaa", sum := "730115f29aa05c5bf2ada0f789a670f310d619c4812c595e3462f9b9bdae3d61", func := "aneroid/aneroidlaw05.CurveRound", spec := "curveRound", unfollowed := true, recurses := true, named := ["math/bits.divideError", "math/bits.overflowError"], apart := false }
def CurveRoundSaid : Prop := curveRoundRow.holds Try.pinned (OpenSpec.ofChange curveRoundSpec)

/-- ITS FALSE NEIGHBOUR: 'it returns false'. Refute it at one input. -/
def curveRoundWrong : ChangeSpec := { name := "curveRound", fn := fun _ => fun
  | [d1, d2] => { results := [.lit (.bool false)], args := [d1, d2] }
  | _ => none }
def CurveRoundWrongFalsely : Prop := curveRoundRow.holds Try.pinned (OpenSpec.ofChange curveRoundWrong)

/-- 'aneroidlaw18.LiftDynamics': WHATEVER THE INPUT: true; the input reads as it did. -/
def liftDynamicsSpec : ChangeSpec := { name := "liftDynamics", fn := fun _ => fun
  | [d1, d2] => { results := [.lit (.bool true)], args := [d1, d2] }
  | _ => none }
def liftDynamicsRow : OpenClaim := { program := "ytmmenpaodofahaa", sum := "730115f29aa05c5bf2ada0f789a670f310d619c4812c595e3462f9b9bdae3d61", func := "aneroid/aneroidlaw18.LiftDynamics", spec := "liftDynamics", unfollowed := true, recurses := true, named := ["math/bits.divideError", "math/bits.overflowError"], apart := false }
def LiftDynamicsSaid : Prop := liftDynamicsRow.holds Try.pinned (OpenSpec.ofChange liftDynamicsSpec)

/-- ITS FALSE NEIGHBOUR: 'it returns false'. Refute it at one input. -/
def liftDynamicsWrong : ChangeSpec := { name := "liftDynamics", fn := fun _ => fun
  | [d1, d2] => { results := [.lit (.bool false)], args := [d1, d2] }
  | _ => none }
def LiftDynamicsWrongFalsely : Prop := liftDynamicsRow.holds Try.pinned (OpenSpec.ofChange liftDynamicsWrong)

/-- 'aneroidlaw18.LiftImpacts': WHATEVER THE INPUT: true; the input reads as it did. -/
def liftImpactsSpec : ChangeSpec := { name := "liftImpacts", fn := fun _ => fun
  | [d1, d2, d3] => { results := [.lit (.bool true)], args := [d1, d2, d3] }
  | _ => none }
def liftImpactsRow : OpenClaim := { program := "ytmmenpaodofahaa", sum := "730115f29aa05c5bf2ada0f789a670f310d619c4812c595e3462f9b9bdae3d61", func := "aneroid/aneroidlaw18.LiftImpacts", spec := "liftImpacts", unfollowed := true, recurses := true, named := ["math/bits.divideError", "math/bits.overflowError"], apart := false }
def LiftImpactsSaid : Prop := liftImpactsRow.holds Try.pinned (OpenSpec.ofChange liftImpactsSpec)

/-- ITS FALSE NEIGHBOUR: 'it returns false'. Refute it at one input. -/
def liftImpactsWrong : ChangeSpec := { name := "liftImpacts", fn := fun _ => fun
  | [d1, d2, d3] => { results := [.lit (.bool false)], args := [d1, d2, d3] }
  | _ => none }
def LiftImpactsWrongFalsely : Prop := liftImpactsRow.holds Try.pinned (OpenSpec.ofChange liftImpactsWrong)

/-- 'aneroidlaw18.LiftGrows': WHATEVER THE INPUT: true; the input reads as it did. -/
def liftGrowsSpec : ChangeSpec := { name := "liftGrows", fn := fun _ => fun
  | [d1, d2, d3] => { results := [.lit (.bool true)], args := [d1, d2, d3] }
  | _ => none }
def liftGrowsRow : OpenClaim := { program := "ytmmenpaodofahaa", sum := "730115f29aa05c5bf2ada0f789a670f310d619c4812c595e3462f9b9bdae3d61", func := "aneroid/aneroidlaw18.LiftGrows", spec := "liftGrows", unfollowed := true, recurses := true, named := ["math/bits.divideError", "math/bits.overflowError"], apart := false }
def LiftGrowsSaid : Prop := liftGrowsRow.holds Try.pinned (OpenSpec.ofChange liftGrowsSpec)

/-- ITS FALSE NEIGHBOUR: 'it returns false'. Refute it at one input. -/
def liftGrowsWrong : ChangeSpec := { name := "liftGrows", fn := fun _ => fun
  | [d1, d2, d3] => { results := [.lit (.bool false)], args := [d1, d2, d3] }
  | _ => none }
def LiftGrowsWrongFalsely : Prop := liftGrowsRow.holds Try.pinned (OpenSpec.ofChange liftGrowsWrong)

/-- 'aneroidlaw39.AoaTrues': WHATEVER THE INPUT: true; the input reads as it did. -/
def aoaTruesSpec : ChangeSpec := { name := "aoaTrues", fn := fun _ => fun
  | [d1, d2, d3] => { results := [.lit (.bool true)], args := [d1, d2, d3] }
  | _ => none }
def aoaTruesRow : OpenClaim := { program := "ytmmenpaodofahaa", sum := "730115f29aa05c5bf2ada0f789a670f310d619c4812c595e3462f9b9bdae3d61", func := "aneroid/aneroidlaw39.AoaTrues", spec := "aoaTrues", unfollowed := true, recurses := true, named := ["math/bits.divideError", "math/bits.overflowError"], apart := false }
def AoaTruesSaid : Prop := aoaTruesRow.holds Try.pinned (OpenSpec.ofChange aoaTruesSpec)

/-- ITS FALSE NEIGHBOUR: 'it returns false'. Refute it at one input. -/
def aoaTruesWrong : ChangeSpec := { name := "aoaTrues", fn := fun _ => fun
  | [d1, d2, d3] => { results := [.lit (.bool false)], args := [d1, d2, d3] }
  | _ => none }
def AoaTruesWrongFalsely : Prop := aoaTruesRow.holds Try.pinned (OpenSpec.ofChange aoaTruesWrong)

/-- 'aneroidlaw39.AoaNew': WHATEVER THE INPUT: true; the input reads as it did. -/
def aoaNewSpec : ChangeSpec := { name := "aoaNew", fn := fun _ => fun
  | [d1, d2, d3] => { results := [.lit (.bool true)], args := [d1, d2, d3] }
  | _ => none }
def aoaNewRow : OpenClaim := { program := "ytmmenpaodofahaa", sum := "730115f29aa05c5bf2ada0f789a670f310d619c4812c595e3462f9b9bdae3d61", func := "aneroid/aneroidlaw39.AoaNew", spec := "aoaNew", unfollowed := true, recurses := true, named := ["math/bits.divideError", "math/bits.overflowError"], apart := false }
def AoaNewSaid : Prop := aoaNewRow.holds Try.pinned (OpenSpec.ofChange aoaNewSpec)

/-- ITS FALSE NEIGHBOUR: 'it returns false'. Refute it at one input. -/
def aoaNewWrong : ChangeSpec := { name := "aoaNew", fn := fun _ => fun
  | [d1, d2, d3] => { results := [.lit (.bool false)], args := [d1, d2, d3] }
  | _ => none }
def AoaNewWrongFalsely : Prop := aoaNewRow.holds Try.pinned (OpenSpec.ofChange aoaNewWrong)

/-- 'aneroidlaw39.AoaSteps': WHATEVER THE INPUT: true; the input reads as it did. -/
def aoaStepsSpec : ChangeSpec := { name := "aoaSteps", fn := fun _ => fun
  | [d1, d2] => { results := [.lit (.bool true)], args := [d1, d2] }
  | _ => none }
def aoaStepsRow : OpenClaim := { program := "ytmmenpaodofahaa", sum := "730115f29aa05c5bf2ada0f789a670f310d619c4812c595e3462f9b9bdae3d61", func := "aneroid/aneroidlaw39.AoaSteps", spec := "aoaSteps", unfollowed := true, recurses := true, named := ["math/bits.divideError", "math/bits.overflowError"], apart := false }
def AoaStepsSaid : Prop := aoaStepsRow.holds Try.pinned (OpenSpec.ofChange aoaStepsSpec)

/-- ITS FALSE NEIGHBOUR: 'it returns false'. Refute it at one input. -/
def aoaStepsWrong : ChangeSpec := { name := "aoaSteps", fn := fun _ => fun
  | [d1, d2] => { results := [.lit (.bool false)], args := [d1, d2] }
  | _ => none }
def AoaStepsWrongFalsely : Prop := aoaStepsRow.holds Try.pinned (OpenSpec.ofChange aoaStepsWrong)

/-- 'aneroidlaw43.VmoLimits': WHATEVER THE INPUT: true; the input reads as it did. -/
def vmoLimitsSpec : ChangeSpec := { name := "vmoLimits", fn := fun _ => fun
  | [d1, d2] => { results := [.lit (.bool true)], args := [d1, d2] }
  | _ => none }
def vmoLimitsRow : OpenClaim := { program := "ytmmenpaodofahaa", sum := "730115f29aa05c5bf2ada0f789a670f310d619c4812c595e3462f9b9bdae3d61", func := "aneroid/aneroidlaw43.VmoLimits", spec := "vmoLimits", unfollowed := true, recurses := true, named := ["math/bits.divideError", "math/bits.overflowError"], apart := false }
def VmoLimitsSaid : Prop := vmoLimitsRow.holds Try.pinned (OpenSpec.ofChange vmoLimitsSpec)

/-- ITS FALSE NEIGHBOUR: 'it returns false'. Refute it at one input. -/
def vmoLimitsWrong : ChangeSpec := { name := "vmoLimits", fn := fun _ => fun
  | [d1, d2] => { results := [.lit (.bool false)], args := [d1, d2] }
  | _ => none }
def VmoLimitsWrongFalsely : Prop := vmoLimitsRow.holds Try.pinned (OpenSpec.ofChange vmoLimitsWrong)

/-- 'aneroidlaw43.VmoNew': WHATEVER THE INPUT: true; the input reads as it did. -/
def vmoNewSpec : ChangeSpec := { name := "vmoNew", fn := fun _ => fun
  | [d1, d2] => { results := [.lit (.bool true)], args := [d1, d2] }
  | _ => none }
def vmoNewRow : OpenClaim := { program := "ytmmenpaodofahaa", sum := "730115f29aa05c5bf2ada0f789a670f310d619c4812c595e3462f9b9bdae3d61", func := "aneroid/aneroidlaw43.VmoNew", spec := "vmoNew", unfollowed := true, recurses := true, named := ["math/bits.divideError", "math/bits.overflowError"], apart := false }
def VmoNewSaid : Prop := vmoNewRow.holds Try.pinned (OpenSpec.ofChange vmoNewSpec)

/-- ITS FALSE NEIGHBOUR: 'it returns false'. Refute it at one input. -/
def vmoNewWrong : ChangeSpec := { name := "vmoNew", fn := fun _ => fun
  | [d1, d2] => { results := [.lit (.bool false)], args := [d1, d2] }
  | _ => none }
def VmoNewWrongFalsely : Prop := vmoNewRow.holds Try.pinned (OpenSpec.ofChange vmoNewWrong)

/- THE SECOND FORM. 'bulk': how many values and letters a reading holds, each counted each time it is reached (what is shared counts as often as it is met; a slice's spare places count too). A statement '..UptoSaid' is the law's where the arguments, and the package variables that the reading takes, are together of bulk at most 1048576: NARROWER than '..Said'. Prove '..Said' where nothing that the law and all that it calls make is longer than what came in: it says more and counts as full. Else prove '..UptoSaid'. A law counts once. -/
mutual
def uptoBulk {H : Type} : DataW H → Nat
  | .lit (.string bytes) => bytes.length + 1
  | .lit _ => 1
  | .nil => 1
  | .ptr d => uptoBulk d + 1
  | .slice elems spare => uptoBulkAll elems + uptoBulkAll spare + 1
  | .agg parts => uptoBulkAll parts + 1
  | .iface _ d => uptoBulk d + 1
  | .map entries => uptoBulkEntries entries + 1
  | .held _ => 1
def uptoBulkAll {H : Type} : List (DataW H) → Nat
  | [] => 0
  | d :: r => uptoBulk d + uptoBulkAll r
def uptoBulkEntries {H : Type} : List (Lit × DataW H) → Nat
  | [] => 0
  | x :: r => uptoBulkEntry x + uptoBulkEntries r
def uptoBulkEntry {H : Type} : Lit × DataW H → Nat
  | (.string bytes, d) => bytes.length + uptoBulk d + 1
  | (_, d) => uptoBulk d + 1
 end
def uptoSmall : (H : Type) → List (DataW H) → Bool := fun _ ds => decide (uptoBulkAll ds ≤ 1048576)
def OpenSpec.upto (s : _root_.Go.ChangeSpec) : _root_.Go.OpenSpec := { _root_.Go.OpenSpec.ofChange s with cond := some uptoSmall }

/-- 'aneroidlaw05.CurveTells', WHERE WHAT IT READS IS OF BULK AT MOST 1048576: true; the input reads as it did. -/
def curveTellsUptoRow : OpenClaim := { program := "ytmmenpaodofahaa", sum := "730115f29aa05c5bf2ada0f789a670f310d619c4812c595e3462f9b9bdae3d61", func := "aneroid/aneroidlaw05.CurveTells", spec := "curveTells", unfollowed := true, recurses := true, named := ["math/bits.divideError", "math/bits.overflowError"], apart := false, narrowed := true }
def CurveTellsUptoSaid : Prop := curveTellsUptoRow.holds Try.pinned (OpenSpec.upto curveTellsSpec)

/-- 'aneroidlaw05.CurveTurns', WHERE WHAT IT READS IS OF BULK AT MOST 1048576: true; the input reads as it did. -/
def curveTurnsUptoRow : OpenClaim := { program := "ytmmenpaodofahaa", sum := "730115f29aa05c5bf2ada0f789a670f310d619c4812c595e3462f9b9bdae3d61", func := "aneroid/aneroidlaw05.CurveTurns", spec := "curveTurns", unfollowed := true, recurses := true, named := ["math/bits.divideError", "math/bits.overflowError"], apart := false, narrowed := true }
def CurveTurnsUptoSaid : Prop := curveTurnsUptoRow.holds Try.pinned (OpenSpec.upto curveTurnsSpec)

/-- 'aneroidlaw05.CurveBetween', WHERE WHAT IT READS IS OF BULK AT MOST 1048576: true; the input reads as it did. -/
def curveBetweenUptoRow : OpenClaim := { program := "ytmmenpaodofahaa", sum := "730115f29aa05c5bf2ada0f789a670f310d619c4812c595e3462f9b9bdae3d61", func := "aneroid/aneroidlaw05.CurveBetween", spec := "curveBetween", unfollowed := true, recurses := true, named := ["math/bits.divideError", "math/bits.overflowError"], apart := false, narrowed := true }
def CurveBetweenUptoSaid : Prop := curveBetweenUptoRow.holds Try.pinned (OpenSpec.upto curveBetweenSpec)

/-- 'aneroidlaw05.CurveRound', WHERE WHAT IT READS IS OF BULK AT MOST 1048576: true; the input reads as it did. -/
def curveRoundUptoRow : OpenClaim := { program := "ytmmenpaodofahaa", sum := "730115f29aa05c5bf2ada0f789a670f310d619c4812c595e3462f9b9bdae3d61", func := "aneroid/aneroidlaw05.CurveRound", spec := "curveRound", unfollowed := true, recurses := true, named := ["math/bits.divideError", "math/bits.overflowError"], apart := false, narrowed := true }
def CurveRoundUptoSaid : Prop := curveRoundUptoRow.holds Try.pinned (OpenSpec.upto curveRoundSpec)

/-- 'aneroidlaw18.LiftDynamics', WHERE WHAT IT READS IS OF BULK AT MOST 1048576: true; the input reads as it did. -/
def liftDynamicsUptoRow : OpenClaim := { program := "ytmmenpaodofahaa", sum := "730115f29aa05c5bf2ada0f789a670f310d619c4812c595e3462f9b9bdae3d61", func := "aneroid/aneroidlaw18.LiftDynamics", spec := "liftDynamics", unfollowed := true, recurses := true, named := ["math/bits.divideError", "math/bits.overflowError"], apart := false, narrowed := true }
def LiftDynamicsUptoSaid : Prop := liftDynamicsUptoRow.holds Try.pinned (OpenSpec.upto liftDynamicsSpec)

/-- 'aneroidlaw18.LiftImpacts', WHERE WHAT IT READS IS OF BULK AT MOST 1048576: true; the input reads as it did. -/
def liftImpactsUptoRow : OpenClaim := { program := "ytmmenpaodofahaa", sum := "730115f29aa05c5bf2ada0f789a670f310d619c4812c595e3462f9b9bdae3d61", func := "aneroid/aneroidlaw18.LiftImpacts", spec := "liftImpacts", unfollowed := true, recurses := true, named := ["math/bits.divideError", "math/bits.overflowError"], apart := false, narrowed := true }
def LiftImpactsUptoSaid : Prop := liftImpactsUptoRow.holds Try.pinned (OpenSpec.upto liftImpactsSpec)

/-- 'aneroidlaw18.LiftGrows', WHERE WHAT IT READS IS OF BULK AT MOST 1048576: true; the input reads as it did. -/
def liftGrowsUptoRow : OpenClaim := { program := "ytmmenpaodofahaa", sum := "730115f29aa05c5bf2ada0f789a670f310d619c4812c595e3462f9b9bdae3d61", func := "aneroid/aneroidlaw18.LiftGrows", spec := "liftGrows", unfollowed := true, recurses := true, named := ["math/bits.divideError", "math/bits.overflowError"], apart := false, narrowed := true }
def LiftGrowsUptoSaid : Prop := liftGrowsUptoRow.holds Try.pinned (OpenSpec.upto liftGrowsSpec)

/-- 'aneroidlaw39.AoaTrues', WHERE WHAT IT READS IS OF BULK AT MOST 1048576: true; the input reads as it did. -/
def aoaTruesUptoRow : OpenClaim := { program := "ytmmenpaodofahaa", sum := "730115f29aa05c5bf2ada0f789a670f310d619c4812c595e3462f9b9bdae3d61", func := "aneroid/aneroidlaw39.AoaTrues", spec := "aoaTrues", unfollowed := true, recurses := true, named := ["math/bits.divideError", "math/bits.overflowError"], apart := false, narrowed := true }
def AoaTruesUptoSaid : Prop := aoaTruesUptoRow.holds Try.pinned (OpenSpec.upto aoaTruesSpec)

/-- 'aneroidlaw39.AoaNew', WHERE WHAT IT READS IS OF BULK AT MOST 1048576: true; the input reads as it did. -/
def aoaNewUptoRow : OpenClaim := { program := "ytmmenpaodofahaa", sum := "730115f29aa05c5bf2ada0f789a670f310d619c4812c595e3462f9b9bdae3d61", func := "aneroid/aneroidlaw39.AoaNew", spec := "aoaNew", unfollowed := true, recurses := true, named := ["math/bits.divideError", "math/bits.overflowError"], apart := false, narrowed := true }
def AoaNewUptoSaid : Prop := aoaNewUptoRow.holds Try.pinned (OpenSpec.upto aoaNewSpec)

/-- 'aneroidlaw39.AoaSteps', WHERE WHAT IT READS IS OF BULK AT MOST 1048576: true; the input reads as it did. -/
def aoaStepsUptoRow : OpenClaim := { program := "ytmmenpaodofahaa", sum := "730115f29aa05c5bf2ada0f789a670f310d619c4812c595e3462f9b9bdae3d61", func := "aneroid/aneroidlaw39.AoaSteps", spec := "aoaSteps", unfollowed := true, recurses := true, named := ["math/bits.divideError", "math/bits.overflowError"], apart := false, narrowed := true }
def AoaStepsUptoSaid : Prop := aoaStepsUptoRow.holds Try.pinned (OpenSpec.upto aoaStepsSpec)

/-- 'aneroidlaw43.VmoLimits', WHERE WHAT IT READS IS OF BULK AT MOST 1048576: true; the input reads as it did. -/
def vmoLimitsUptoRow : OpenClaim := { program := "ytmmenpaodofahaa", sum := "730115f29aa05c5bf2ada0f789a670f310d619c4812c595e3462f9b9bdae3d61", func := "aneroid/aneroidlaw43.VmoLimits", spec := "vmoLimits", unfollowed := true, recurses := true, named := ["math/bits.divideError", "math/bits.overflowError"], apart := false, narrowed := true }
def VmoLimitsUptoSaid : Prop := vmoLimitsUptoRow.holds Try.pinned (OpenSpec.upto vmoLimitsSpec)

/-- 'aneroidlaw43.VmoNew', WHERE WHAT IT READS IS OF BULK AT MOST 1048576: true; the input reads as it did. -/
def vmoNewUptoRow : OpenClaim := { program := "ytmmenpaodofahaa", sum := "730115f29aa05c5bf2ada0f789a670f310d619c4812c595e3462f9b9bdae3d61", func := "aneroid/aneroidlaw43.VmoNew", spec := "vmoNew", unfollowed := true, recurses := true, named := ["math/bits.divideError", "math/bits.overflowError"], apart := false, narrowed := true }
def VmoNewUptoSaid : Prop := vmoNewUptoRow.holds Try.pinned (OpenSpec.upto vmoNewSpec)

end Rows
end Go.Proofs.Ytmmenpaodofahaa
