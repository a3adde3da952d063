/-
  No cell of these rows narrows 'for every input' (looked for: loops, veiled, ifaces, maps, wideKeys, modest, calm, conditions, laid).
  DERIVED. THE GIVEN ROWS OF THIS SEAT. 12 by the template 'for every input the law returns true; each argument reads behind the call as it read before'; 0 by the template 'total and deterministic' (their statements: YtbhoallcoblcoaaTotals.lean).
  GIVEN WITH THE SEED: the statements are not yours to turn. If you find one false, say at which input.
  Laid BY PROGRAM, IN A SANDBOX (cutbox-rows.mjs): the forced cells as the released guide's own fill.sh prints them over the translation 4b8daf058d434795… (all of the seat's roots in one cut). By AI agents, Wed Nov 11 2026. No macro, syntax, notation, axiom, sorry.
-/
import Derived.Test.YtbhoallcoblcoaaChecked
import GoSem.Claim
import GoSem.ClaimJoined
import GoSem.ClaimMapViews
import Derived.JoinedTies
import Derived.KernelRfl
namespace Go.Proofs.Ytbhoallcoblcoaa
/- THE CELL 'sum', in the pinned program and in every row, IS THE sha256 OF THE DUMP (.gsa) THAT YtbhoallcoblcoaaProg.lean LOADS. Nothing in Lean hashes anything: it is a label: what it is worth is what the hold of that sum in a sandbox is worth. -/
noncomputable def Try.pinned : Pinned := { name := "ytbhoallcoblcoaa", sum := "4b8daf058d43479550794da9539d00bc14ccd0fb39f4be262e091050aed171c1", checked := Try.checked }
namespace Rows
def none {H : Type} : Left H := { results := [], args := [] }

/-- 'aneroidlaw05.CurveTells': WHATEVER THE INPUT: true; the input reads as it did. -/
def curveTellsSpec : ChangeSpec := { name := "curveTells", fn := fun _ => fun
  | [d1, d2, d3] => { results := [.lit (.bool true)], args := [d1, d2, d3] }
  | _ => none }
def curveTellsRow : OpenClaim := { program := "ytbhoallcoblcoaa", sum := "4b8daf058d43479550794da9539d00bc14ccd0fb39f4be262e091050aed171c1", func := "aneroid/aneroidlaw05.CurveTells", spec := "curveTells", unfollowed := true, recurses := true, named := ["math/bits.divideError", "math/bits.overflowError"], apart := false }
def CurveTellsSaid : Prop := curveTellsRow.holds Try.pinned (OpenSpec.ofChange curveTellsSpec)

/-- ITS FALSE NEIGHBOUR: 'it returns false'. Refute it at one input. -/
def curveTellsWrong : ChangeSpec := { name := "curveTells", fn := fun _ => fun
  | [d1, d2, d3] => { results := [.lit (.bool false)], args := [d1, d2, d3] }
  | _ => none }
def CurveTellsWrongFalsely : Prop := curveTellsRow.holds Try.pinned (OpenSpec.ofChange curveTellsWrong)

/-- 'aneroidlaw05.CurveTurns': WHATEVER THE INPUT: true; the input reads as it did. -/
def curveTurnsSpec : ChangeSpec := { name := "curveTurns", fn := fun _ => fun
  | [d] => { results := [.lit (.bool true)], args := [d] }
  | _ => none }
def curveTurnsRow : OpenClaim := { program := "ytbhoallcoblcoaa", sum := "4b8daf058d43479550794da9539d00bc14ccd0fb39f4be262e091050aed171c1", func := "aneroid/aneroidlaw05.CurveTurns", spec := "curveTurns", unfollowed := true, recurses := true, named := ["math/bits.divideError", "math/bits.overflowError"], apart := false }
def CurveTurnsSaid : Prop := curveTurnsRow.holds Try.pinned (OpenSpec.ofChange curveTurnsSpec)

/-- ITS FALSE NEIGHBOUR: 'it returns false'. Refute it at one input. -/
def curveTurnsWrong : ChangeSpec := { name := "curveTurns", fn := fun _ => fun
  | [d] => { results := [.lit (.bool false)], args := [d] }
  | _ => none }
def CurveTurnsWrongFalsely : Prop := curveTurnsRow.holds Try.pinned (OpenSpec.ofChange curveTurnsWrong)

/-- 'aneroidlaw05.CurveBetween': WHATEVER THE INPUT: true; the input reads as it did. -/
def curveBetweenSpec : ChangeSpec := { name := "curveBetween", fn := fun _ => fun
  | [d1, d2, d3] => { results := [.lit (.bool true)], args := [d1, d2, d3] }
  | _ => none }
def curveBetweenRow : OpenClaim := { program := "ytbhoallcoblcoaa", sum := "4b8daf058d43479550794da9539d00bc14ccd0fb39f4be262e091050aed171c1", func := "aneroid/aneroidlaw05.CurveBetween", spec := "curveBetween", unfollowed := true, recurses := true, named := ["math/bits.divideError", "math/bits.overflowError"], apart := false }
def CurveBetweenSaid : Prop := curveBetweenRow.holds Try.pinned (OpenSpec.ofChange curveBetweenSpec)

/-- ITS FALSE NEIGHBOUR: 'it returns false'. Refute it at one input. -/
def curveBetweenWrong : ChangeSpec := { name := "curveBetween", fn := fun _ => fun
  | [d1, d2, d3] => { results := [.lit (.bool false)], args := [d1, d2, d3] }
  | _ => none }
def CurveBetweenWrongFalsely : Prop := curveBetweenRow.holds Try.pinned (OpenSpec.ofChange curveBetweenWrong)

/-- 'aneroidlaw05.CurveRound': WHATEVER THE INPUT: true; the input reads as it did. -/
def curveRoundSpec : ChangeSpec := { name := "curveRound", fn := fun _ => fun
  | [d1, d2] => { results := [.lit (.bool true)], args := [d1, d2] }
  | _ => none }
def curveRoundRow : OpenClaim := { program := "ytbhoallcoblcoaa", sum := "4b8daf058d43479550794da9539d00bc14ccd0fb39f4be262e091050aed171c1", func := "aneroid/aneroidlaw05.CurveRound", spec := "curveRound", unfollowed := true, recurses := true, named := ["math/bits.divideError", "math/bits.overflowError"], apart := false }
def CurveRoundSaid : Prop := curveRoundRow.holds Try.pinned (OpenSpec.ofChange curveRoundSpec)

/-- ITS FALSE NEIGHBOUR: 'it returns false'. Refute it at one input. -/
def curveRoundWrong : ChangeSpec := { name := "curveRound", fn := fun _ => fun
  | [d1, d2] => { results := [.lit (.bool false)], args := [d1, d2] }
  | _ => none }
def CurveRoundWrongFalsely : Prop := curveRoundRow.holds Try.pinned (OpenSpec.ofChange curveRoundWrong)

/-- 'aneroidlaw08.MachRatios': WHATEVER THE INPUT: true; the input reads as it did. -/
def machRatiosSpec : ChangeSpec := { name := "machRatios", fn := fun _ => fun
  | [d] => { results := [.lit (.bool true)], args := [d] }
  | _ => none }
def machRatiosRow : OpenClaim := { program := "ytbhoallcoblcoaa", sum := "4b8daf058d43479550794da9539d00bc14ccd0fb39f4be262e091050aed171c1", func := "aneroid/aneroidlaw08.MachRatios", spec := "machRatios", unfollowed := true, recurses := true, named := ["math/bits.divideError", "math/bits.overflowError"], apart := false }
def MachRatiosSaid : Prop := machRatiosRow.holds Try.pinned (OpenSpec.ofChange machRatiosSpec)

/-- ITS FALSE NEIGHBOUR: 'it returns false'. Refute it at one input. -/
def machRatiosWrong : ChangeSpec := { name := "machRatios", fn := fun _ => fun
  | [d] => { results := [.lit (.bool false)], args := [d] }
  | _ => none }
def MachRatiosWrongFalsely : Prop := machRatiosRow.holds Try.pinned (OpenSpec.ofChange machRatiosWrong)

/-- 'aneroidlaw08.MachOfs': WHATEVER THE INPUT: true; the input reads as it did. -/
def machOfsSpec : ChangeSpec := { name := "machOfs", fn := fun _ => fun
  | [d] => { results := [.lit (.bool true)], args := [d] }
  | _ => none }
def machOfsRow : OpenClaim := { program := "ytbhoallcoblcoaa", sum := "4b8daf058d43479550794da9539d00bc14ccd0fb39f4be262e091050aed171c1", func := "aneroid/aneroidlaw08.MachOfs", spec := "machOfs", unfollowed := true, recurses := true, named := ["math/bits.divideError", "math/bits.overflowError"], apart := false }
def MachOfsSaid : Prop := machOfsRow.holds Try.pinned (OpenSpec.ofChange machOfsSpec)

/-- ITS FALSE NEIGHBOUR: 'it returns false'. Refute it at one input. -/
def machOfsWrong : ChangeSpec := { name := "machOfs", fn := fun _ => fun
  | [d] => { results := [.lit (.bool false)], args := [d] }
  | _ => none }
def MachOfsWrongFalsely : Prop := machOfsRow.holds Try.pinned (OpenSpec.ofChange machOfsWrong)

/-- 'aneroidlaw08.MachAts': WHATEVER THE INPUT: true; the input reads as it did. -/
def machAtsSpec : ChangeSpec := { name := "machAts", fn := fun _ => fun
  | [d1, d2, d3] => { results := [.lit (.bool true)], args := [d1, d2, d3] }
  | _ => none }
def machAtsRow : OpenClaim := { program := "ytbhoallcoblcoaa", sum := "4b8daf058d43479550794da9539d00bc14ccd0fb39f4be262e091050aed171c1", func := "aneroid/aneroidlaw08.MachAts", spec := "machAts", unfollowed := true, recurses := true, named := ["math/bits.divideError", "math/bits.overflowError"], apart := false }
def MachAtsSaid : Prop := machAtsRow.holds Try.pinned (OpenSpec.ofChange machAtsSpec)

/-- ITS FALSE NEIGHBOUR: 'it returns false'. Refute it at one input. -/
def machAtsWrong : ChangeSpec := { name := "machAts", fn := fun _ => fun
  | [d1, d2, d3] => { results := [.lit (.bool false)], args := [d1, d2, d3] }
  | _ => none }
def MachAtsWrongFalsely : Prop := machAtsRow.holds Try.pinned (OpenSpec.ofChange machAtsWrong)

/-- 'aneroidlaw08.MachRises': WHATEVER THE INPUT: true; the input reads as it did. -/
def machRisesSpec : ChangeSpec := { name := "machRises", fn := fun _ => fun
  | [d1, d2] => { results := [.lit (.bool true)], args := [d1, d2] }
  | _ => none }
def machRisesRow : OpenClaim := { program := "ytbhoallcoblcoaa", sum := "4b8daf058d43479550794da9539d00bc14ccd0fb39f4be262e091050aed171c1", func := "aneroid/aneroidlaw08.MachRises", spec := "machRises", unfollowed := true, recurses := true, named := ["math/bits.divideError", "math/bits.overflowError"], apart := false }
def MachRisesSaid : Prop := machRisesRow.holds Try.pinned (OpenSpec.ofChange machRisesSpec)

/-- ITS FALSE NEIGHBOUR: 'it returns false'. Refute it at one input. -/
def machRisesWrong : ChangeSpec := { name := "machRises", fn := fun _ => fun
  | [d1, d2] => { results := [.lit (.bool false)], args := [d1, d2] }
  | _ => none }
def MachRisesWrongFalsely : Prop := machRisesRow.holds Try.pinned (OpenSpec.ofChange machRisesWrong)

/-- 'aneroidlaw08.MachMore': WHATEVER THE INPUT: true; the input reads as it did. -/
def machMoreSpec : ChangeSpec := { name := "machMore", fn := fun _ => fun
  | [d1, d2] => { results := [.lit (.bool true)], args := [d1, d2] }
  | _ => none }
def machMoreRow : OpenClaim := { program := "ytbhoallcoblcoaa", sum := "4b8daf058d43479550794da9539d00bc14ccd0fb39f4be262e091050aed171c1", func := "aneroid/aneroidlaw08.MachMore", spec := "machMore", unfollowed := true, recurses := true, named := ["math/bits.divideError", "math/bits.overflowError"], apart := false }
def MachMoreSaid : Prop := machMoreRow.holds Try.pinned (OpenSpec.ofChange machMoreSpec)

/-- ITS FALSE NEIGHBOUR: 'it returns false'. Refute it at one input. -/
def machMoreWrong : ChangeSpec := { name := "machMore", fn := fun _ => fun
  | [d1, d2] => { results := [.lit (.bool false)], args := [d1, d2] }
  | _ => none }
def MachMoreWrongFalsely : Prop := machMoreRow.holds Try.pinned (OpenSpec.ofChange machMoreWrong)

/-- 'aneroidlaw09.SpeedCalibrates': WHATEVER THE INPUT: true; the input reads as it did. -/
def speedCalibratesSpec : ChangeSpec := { name := "speedCalibrates", fn := fun _ => fun
  | [d1, d2] => { results := [.lit (.bool true)], args := [d1, d2] }
  | _ => none }
def speedCalibratesRow : OpenClaim := { program := "ytbhoallcoblcoaa", sum := "4b8daf058d43479550794da9539d00bc14ccd0fb39f4be262e091050aed171c1", func := "aneroid/aneroidlaw09.SpeedCalibrates", spec := "speedCalibrates", unfollowed := true, recurses := true, named := ["math/bits.divideError", "math/bits.overflowError"], apart := false }
def SpeedCalibratesSaid : Prop := speedCalibratesRow.holds Try.pinned (OpenSpec.ofChange speedCalibratesSpec)

/-- ITS FALSE NEIGHBOUR: 'it returns false'. Refute it at one input. -/
def speedCalibratesWrong : ChangeSpec := { name := "speedCalibrates", fn := fun _ => fun
  | [d1, d2] => { results := [.lit (.bool false)], args := [d1, d2] }
  | _ => none }
def SpeedCalibratesWrongFalsely : Prop := speedCalibratesRow.holds Try.pinned (OpenSpec.ofChange speedCalibratesWrong)

/-- 'aneroidlaw09.SpeedRises': WHATEVER THE INPUT: true; the input reads as it did. -/
def speedRisesSpec : ChangeSpec := { name := "speedRises", fn := fun _ => fun
  | [d1, d2] => { results := [.lit (.bool true)], args := [d1, d2] }
  | _ => none }
def speedRisesRow : OpenClaim := { program := "ytbhoallcoblcoaa", sum := "4b8daf058d43479550794da9539d00bc14ccd0fb39f4be262e091050aed171c1", func := "aneroid/aneroidlaw09.SpeedRises", spec := "speedRises", unfollowed := true, recurses := true, named := ["math/bits.divideError", "math/bits.overflowError"], apart := false }
def SpeedRisesSaid : Prop := speedRisesRow.holds Try.pinned (OpenSpec.ofChange speedRisesSpec)

/-- ITS FALSE NEIGHBOUR: 'it returns false'. Refute it at one input. -/
def speedRisesWrong : ChangeSpec := { name := "speedRises", fn := fun _ => fun
  | [d1, d2] => { results := [.lit (.bool false)], args := [d1, d2] }
  | _ => none }
def SpeedRisesWrongFalsely : Prop := speedRisesRow.holds Try.pinned (OpenSpec.ofChange speedRisesWrong)

/-- 'aneroidlaw18.LiftDenser': WHATEVER THE INPUT: true; the input reads as it did. -/
def liftDenserSpec : ChangeSpec := { name := "liftDenser", fn := fun _ => fun
  | [d1, d2] => { results := [.lit (.bool true)], args := [d1, d2] }
  | _ => none }
def liftDenserRow : OpenClaim := { program := "ytbhoallcoblcoaa", sum := "4b8daf058d43479550794da9539d00bc14ccd0fb39f4be262e091050aed171c1", func := "aneroid/aneroidlaw18.LiftDenser", spec := "liftDenser", unfollowed := true, recurses := true, named := ["math/bits.divideError", "math/bits.overflowError"], apart := false }
def LiftDenserSaid : Prop := liftDenserRow.holds Try.pinned (OpenSpec.ofChange liftDenserSpec)

/-- ITS FALSE NEIGHBOUR: 'it returns false'. Refute it at one input. -/
def liftDenserWrong : ChangeSpec := { name := "liftDenser", fn := fun _ => fun
  | [d1, d2] => { results := [.lit (.bool false)], args := [d1, d2] }
  | _ => none }
def LiftDenserWrongFalsely : Prop := liftDenserRow.holds Try.pinned (OpenSpec.ofChange liftDenserWrong)

/- THE SECOND FORM. 'bulk': how many values and letters a reading holds, each counted each time it is reached (what is shared counts as often as it is met; a slice's spare places count too). A statement '..UptoSaid' is the law's where the arguments, and the package variables that the reading takes, are together of bulk at most 1048576: NARROWER than '..Said'. Prove '..Said' where nothing that the law and all that it calls make is longer than what came in: it says more and counts as full. Else prove '..UptoSaid'. A law counts once. -/
mutual
def uptoBulk {H : Type} : DataW H → Nat
  | .lit (.string bytes) => bytes.length + 1
  | .lit _ => 1
  | .nil => 1
  | .ptr d => uptoBulk d + 1
  | .slice elems spare => uptoBulkAll elems + uptoBulkAll spare + 1
  | .agg parts => uptoBulkAll parts + 1
  | .iface _ d => uptoBulk d + 1
  | .map entries => uptoBulkEntries entries + 1
  | .held _ => 1
def uptoBulkAll {H : Type} : List (DataW H) → Nat
  | [] => 0
  | d :: r => uptoBulk d + uptoBulkAll r
def uptoBulkEntries {H : Type} : List (Lit × DataW H) → Nat
  | [] => 0
  | x :: r => uptoBulkEntry x + uptoBulkEntries r
def uptoBulkEntry {H : Type} : Lit × DataW H → Nat
  | (.string bytes, d) => bytes.length + uptoBulk d + 1
  | (_, d) => uptoBulk d + 1
 end
def uptoSmall : (H : Type) → List (DataW H) → Bool := fun _ ds => decide (uptoBulkAll ds ≤ 1048576)
def OpenSpec.upto (s : _root_.Go.ChangeSpec) : _root_.Go.OpenSpec := { _root_.Go.OpenSpec.ofChange s with cond := some uptoSmall }

/-- 'aneroidlaw05.CurveTells', WHERE WHAT IT READS IS OF BULK AT MOST 1048576: true; the input reads as it did. -/
def curveTellsUptoRow : OpenClaim := { program := "ytbhoallcoblcoaa", sum := "4b8daf058d43479550794da9539d00bc14ccd0fb39f4be262e091050aed171c1", func := "aneroid/aneroidlaw05.CurveTells", spec := "curveTells", unfollowed := true, recurses := true, named := ["math/bits.divideError", "math/bits.overflowError"], apart := false, narrowed := true }
def CurveTellsUptoSaid : Prop := curveTellsUptoRow.holds Try.pinned (OpenSpec.upto curveTellsSpec)

/-- 'aneroidlaw05.CurveTurns', WHERE WHAT IT READS IS OF BULK AT MOST 1048576: true; the input reads as it did. -/
def curveTurnsUptoRow : OpenClaim := { program := "ytbhoallcoblcoaa", sum := "4b8daf058d43479550794da9539d00bc14ccd0fb39f4be262e091050aed171c1", func := "aneroid/aneroidlaw05.CurveTurns", spec := "curveTurns", unfollowed := true, recurses := true, named := ["math/bits.divideError", "math/bits.overflowError"], apart := false, narrowed := true }
def CurveTurnsUptoSaid : Prop := curveTurnsUptoRow.holds Try.pinned (OpenSpec.upto curveTurnsSpec)

/-- 'aneroidlaw05.CurveBetween', WHERE WHAT IT READS IS OF BULK AT MOST 1048576: true; the input reads as it did. -/
def curveBetweenUptoRow : OpenClaim := { program := "ytbhoallcoblcoaa", sum := "4b8daf058d43479550794da9539d00bc14ccd0fb39f4be262e091050aed171c1", func := "aneroid/aneroidlaw05.CurveBetween", spec := "curveBetween", unfollowed := true, recurses := true, named := ["math/bits.divideError", "math/bits.overflowError"], apart := false, narrowed := true }
def CurveBetweenUptoSaid : Prop := curveBetweenUptoRow.holds Try.pinned (OpenSpec.upto curveBetweenSpec)

/-- 'aneroidlaw05.CurveRound', WHERE WHAT IT READS IS OF BULK AT MOST 1048576: true; the input reads as it did. -/
def curveRoundUptoRow : OpenClaim := { program := "ytbhoallcoblcoaa", sum := "4b8daf058d43479550794da9539d00bc14ccd0fb39f4be262e091050aed171c1", func := "aneroid/aneroidlaw05.CurveRound", spec := "curveRound", unfollowed := true, recurses := true, named := ["math/bits.divideError", "math/bits.overflowError"], apart := false, narrowed := true }
def CurveRoundUptoSaid : Prop := curveRoundUptoRow.holds Try.pinned (OpenSpec.upto curveRoundSpec)

/-- 'aneroidlaw08.MachRatios', WHERE WHAT IT READS IS OF BULK AT MOST 1048576: true; the input reads as it did. -/
def machRatiosUptoRow : OpenClaim := { program := "ytbhoallcoblcoaa", sum := "4b8daf058d43479550794da9539d00bc14ccd0fb39f4be262e091050aed171c1", func := "aneroid/aneroidlaw08.MachRatios", spec := "machRatios", unfollowed := true, recurses := true, named := ["math/bits.divideError", "math/bits.overflowError"], apart := false, narrowed := true }
def MachRatiosUptoSaid : Prop := machRatiosUptoRow.holds Try.pinned (OpenSpec.upto machRatiosSpec)

/-- 'aneroidlaw08.MachOfs', WHERE WHAT IT READS IS OF BULK AT MOST 1048576: true; the input reads as it did. -/
def machOfsUptoRow : OpenClaim := { program := "ytbhoallcoblcoaa", sum := "4b8daf058d43479550794da9539d00bc14ccd0fb39f4be262e091050aed171c1", func := "aneroid/aneroidlaw08.MachOfs", spec := "machOfs", unfollowed := true, recurses := true, named := ["math/bits.divideError", "math/bits.overflowError"], apart := false, narrowed := true }
def MachOfsUptoSaid : Prop := machOfsUptoRow.holds Try.pinned (OpenSpec.upto machOfsSpec)

/-- 'aneroidlaw08.MachAts', WHERE WHAT IT READS IS OF BULK AT MOST 1048576: true; the input reads as it did. -/
def machAtsUptoRow : OpenClaim := { program := "ytbhoallcoblcoaa", sum := "4b8daf058d43479550794da9539d00bc14ccd0fb39f4be262e091050aed171c1", func := "aneroid/aneroidlaw08.MachAts", spec := "machAts", unfollowed := true, recurses := true, named := ["math/bits.divideError", "math/bits.overflowError"], apart := false, narrowed := true }
def MachAtsUptoSaid : Prop := machAtsUptoRow.holds Try.pinned (OpenSpec.upto machAtsSpec)

/-- 'aneroidlaw08.MachRises', WHERE WHAT IT READS IS OF BULK AT MOST 1048576: true; the input reads as it did. -/
def machRisesUptoRow : OpenClaim := { program := "ytbhoallcoblcoaa", sum := "4b8daf058d43479550794da9539d00bc14ccd0fb39f4be262e091050aed171c1", func := "aneroid/aneroidlaw08.MachRises", spec := "machRises", unfollowed := true, recurses := true, named := ["math/bits.divideError", "math/bits.overflowError"], apart := false, narrowed := true }
def MachRisesUptoSaid : Prop := machRisesUptoRow.holds Try.pinned (OpenSpec.upto machRisesSpec)

/-- 'aneroidlaw08.MachMore', WHERE WHAT IT READS IS OF BULK AT MOST 1048576: true; the input reads as it did. -/
def machMoreUptoRow : OpenClaim := { program := "ytbhoallcoblcoaa", sum := "4b8daf058d43479550794da9539d00bc14ccd0fb39f4be262e091050aed171c1", func := "aneroid/aneroidlaw08.MachMore", spec := "machMore", unfollowed := true, recurses := true, named := ["math/bits.divideError", "math/bits.overflowError"], apart := false, narrowed := true }
def MachMoreUptoSaid : Prop := machMoreUptoRow.holds Try.pinned (OpenSpec.upto machMoreSpec)

/-- 'aneroidlaw09.SpeedCalibrates', WHERE WHAT IT READS IS OF BULK AT MOST 1048576: true; the input reads as it did. -/
def speedCalibratesUptoRow : OpenClaim := { program := "ytbhoallcoblcoaa", sum := "4b8daf058d43479550794da9539d00bc14ccd0fb39f4be262e091050aed171c1", func := "aneroid/aneroidlaw09.SpeedCalibrates", spec := "speedCalibrates", unfollowed := true, recurses := true, named := ["math/bits.divideError", "math/bits.overflowError"], apart := false, narrowed := true }
def SpeedCalibratesUptoSaid : Prop := speedCalibratesUptoRow.holds Try.pinned (OpenSpec.upto speedCalibratesSpec)

/-- 'aneroidlaw09.SpeedRises', WHERE WHAT IT READS IS OF BULK AT MOST 1048576: true; the input reads as it did. -/
def speedRisesUptoRow : OpenClaim := { program := "ytbhoallcoblcoaa", sum := "4b8daf058d43479550794da9539d00bc14ccd0fb39f4be262e091050aed171c1", func := "aneroid/aneroidlaw09.SpeedRises", spec := "speedRises", unfollowed := true, recurses := true, named := ["math/bits.divideError", "math/bits.overflowError"], apart := false, narrowed := true }
def SpeedRisesUptoSaid : Prop := speedRisesUptoRow.holds Try.pinned (OpenSpec.upto speedRisesSpec)

/-- 'aneroidlaw18.LiftDenser', WHERE WHAT IT READS IS OF BULK AT MOST 1048576: true; the input reads as it did. -/
def liftDenserUptoRow : OpenClaim := { program := "ytbhoallcoblcoaa", sum := "4b8daf058d43479550794da9539d00bc14ccd0fb39f4be262e091050aed171c1", func := "aneroid/aneroidlaw18.LiftDenser", spec := "liftDenser", unfollowed := true, recurses := true, named := ["math/bits.divideError", "math/bits.overflowError"], apart := false, narrowed := true }
def LiftDenserUptoSaid : Prop := liftDenserUptoRow.holds Try.pinned (OpenSpec.upto liftDenserSpec)

end Rows
end Go.Proofs.Ytbhoallcoblcoaa
