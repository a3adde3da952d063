/-
  No cell of these rows narrows 'for every input' (looked for: loops, veiled, ifaces, maps, wideKeys, modest, calm, conditions, laid).
  DERIVED. THE GIVEN ROWS OF THIS SEAT. 12 by the template 'for every input the law returns true; each argument reads behind the call as it read before'; 0 by the template 'total and deterministic' (their statements: YtnfbfggkbpobiaaTotals.lean).
  GIVEN WITH THE SEED: the statements are not yours to turn. If you find one false, say at which input.
  Laid BY PROGRAM, IN A SANDBOX (cutbox-rows.mjs): the forced cells as the released guide's own fill.sh prints them over the translation e8dc21bf65eae6c6… (all of the seat's roots in one cut). By AI agents, Wed Nov 11 2026. No macro, syntax, notation, axiom, sorry.
-/
import Derived.Test.YtnfbfggkbpobiaaChecked
import GoSem.Claim
import GoSem.ClaimJoined
import GoSem.ClaimMapViews
import Derived.JoinedTies
import Derived.KernelRfl
namespace Go.Proofs.Ytnfbfggkbpobiaa
/- THE CELL 'sum', in the pinned program and in every row, IS THE sha256 OF THE DUMP (.gsa) THAT YtnfbfggkbpobiaaProg.lean LOADS. Nothing in Lean hashes anything: it is a label: what it is worth is what the hold of that sum in a sandbox is worth. -/
noncomputable def Try.pinned : Pinned := { name := "ytnfbfggkbpobiaa", sum := "e8dc21bf65eae6c6754bcd437189667abd4810267d483ee94ec24e0da278f8ce", checked := Try.checked }
namespace Rows
def none {H : Type} : Left H := { results := [], args := [] }

/-- 'aneroidlaw06.SheetTells': WHATEVER THE INPUT: true; the input reads as it did. -/
def sheetTellsSpec : ChangeSpec := { name := "sheetTells", fn := fun _ => fun
  | [d1, d2, d3] => { results := [.lit (.bool true)], args := [d1, d2, d3] }
  | _ => none }
def sheetTellsRow : OpenClaim := { program := "ytnfbfggkbpobiaa", sum := "e8dc21bf65eae6c6754bcd437189667abd4810267d483ee94ec24e0da278f8ce", func := "aneroid/aneroidlaw06.SheetTells", spec := "sheetTells", unfollowed := true, recurses := true, named := ["math/bits.divideError", "math/bits.overflowError"], apart := false }
def SheetTellsSaid : Prop := sheetTellsRow.holds Try.pinned (OpenSpec.ofChange sheetTellsSpec)

/-- ITS FALSE NEIGHBOUR: 'it returns false'. Refute it at one input. -/
def sheetTellsWrong : ChangeSpec := { name := "sheetTells", fn := fun _ => fun
  | [d1, d2, d3] => { results := [.lit (.bool false)], args := [d1, d2, d3] }
  | _ => none }
def SheetTellsWrongFalsely : Prop := sheetTellsRow.holds Try.pinned (OpenSpec.ofChange sheetTellsWrong)

/-- 'aneroidlaw06.SheetParts': WHATEVER THE INPUT: true; the input reads as it did. -/
def sheetPartsSpec : ChangeSpec := { name := "sheetParts", fn := fun _ => fun
  | [d1, d2, d3] => { results := [.lit (.bool true)], args := [d1, d2, d3] }
  | _ => none }
def sheetPartsRow : OpenClaim := { program := "ytnfbfggkbpobiaa", sum := "e8dc21bf65eae6c6754bcd437189667abd4810267d483ee94ec24e0da278f8ce", func := "aneroid/aneroidlaw06.SheetParts", spec := "sheetParts", unfollowed := true, recurses := true, named := ["math/bits.divideError", "math/bits.overflowError"], apart := false }
def SheetPartsSaid : Prop := sheetPartsRow.holds Try.pinned (OpenSpec.ofChange sheetPartsSpec)

/-- ITS FALSE NEIGHBOUR: 'it returns false'. Refute it at one input. -/
def sheetPartsWrong : ChangeSpec := { name := "sheetParts", fn := fun _ => fun
  | [d1, d2, d3] => { results := [.lit (.bool false)], args := [d1, d2, d3] }
  | _ => none }
def SheetPartsWrongFalsely : Prop := sheetPartsRow.holds Try.pinned (OpenSpec.ofChange sheetPartsWrong)

/-- 'aneroidlaw06.SheetBetween': WHATEVER THE INPUT: true; the input reads as it did. -/
def sheetBetweenSpec : ChangeSpec := { name := "sheetBetween", fn := fun _ => fun
  | [d1, d2, d3] => { results := [.lit (.bool true)], args := [d1, d2, d3] }
  | _ => none }
def sheetBetweenRow : OpenClaim := { program := "ytnfbfggkbpobiaa", sum := "e8dc21bf65eae6c6754bcd437189667abd4810267d483ee94ec24e0da278f8ce", func := "aneroid/aneroidlaw06.SheetBetween", spec := "sheetBetween", unfollowed := true, recurses := true, named := ["math/bits.divideError", "math/bits.overflowError"], apart := false }
def SheetBetweenSaid : Prop := sheetBetweenRow.holds Try.pinned (OpenSpec.ofChange sheetBetweenSpec)

/-- ITS FALSE NEIGHBOUR: 'it returns false'. Refute it at one input. -/
def sheetBetweenWrong : ChangeSpec := { name := "sheetBetween", fn := fun _ => fun
  | [d1, d2, d3] => { results := [.lit (.bool false)], args := [d1, d2, d3] }
  | _ => none }
def SheetBetweenWrongFalsely : Prop := sheetBetweenRow.holds Try.pinned (OpenSpec.ofChange sheetBetweenWrong)

/-- 'aneroidlaw06.SheetFlips': WHATEVER THE INPUT: true; the input reads as it did. -/
def sheetFlipsSpec : ChangeSpec := { name := "sheetFlips", fn := fun _ => fun
  | [d1, d2] => { results := [.lit (.bool true)], args := [d1, d2] }
  | _ => none }
def sheetFlipsRow : OpenClaim := { program := "ytnfbfggkbpobiaa", sum := "e8dc21bf65eae6c6754bcd437189667abd4810267d483ee94ec24e0da278f8ce", func := "aneroid/aneroidlaw06.SheetFlips", spec := "sheetFlips", unfollowed := true, recurses := true, named := ["math/bits.divideError", "math/bits.overflowError"], apart := false }
def SheetFlipsSaid : Prop := sheetFlipsRow.holds Try.pinned (OpenSpec.ofChange sheetFlipsSpec)

/-- ITS FALSE NEIGHBOUR: 'it returns false'. Refute it at one input. -/
def sheetFlipsWrong : ChangeSpec := { name := "sheetFlips", fn := fun _ => fun
  | [d1, d2] => { results := [.lit (.bool false)], args := [d1, d2] }
  | _ => none }
def SheetFlipsWrongFalsely : Prop := sheetFlipsRow.holds Try.pinned (OpenSpec.ofChange sheetFlipsWrong)

/-- 'aneroidlaw38.SsecErrors': WHATEVER THE INPUT: true; the input reads as it did. -/
def ssecErrorsSpec : ChangeSpec := { name := "ssecErrors", fn := fun _ => fun
  | [d1, d2, d3] => { results := [.lit (.bool true)], args := [d1, d2, d3] }
  | _ => none }
def ssecErrorsRow : OpenClaim := { program := "ytnfbfggkbpobiaa", sum := "e8dc21bf65eae6c6754bcd437189667abd4810267d483ee94ec24e0da278f8ce", func := "aneroid/aneroidlaw38.SsecErrors", spec := "ssecErrors", unfollowed := true, recurses := true, named := ["math/bits.divideError", "math/bits.overflowError"], apart := false }
def SsecErrorsSaid : Prop := ssecErrorsRow.holds Try.pinned (OpenSpec.ofChange ssecErrorsSpec)

/-- ITS FALSE NEIGHBOUR: 'it returns false'. Refute it at one input. -/
def ssecErrorsWrong : ChangeSpec := { name := "ssecErrors", fn := fun _ => fun
  | [d1, d2, d3] => { results := [.lit (.bool false)], args := [d1, d2, d3] }
  | _ => none }
def SsecErrorsWrongFalsely : Prop := ssecErrorsRow.holds Try.pinned (OpenSpec.ofChange ssecErrorsWrong)

/-- 'aneroidlaw38.SsecCorrects': WHATEVER THE INPUT: true; the input reads as it did. -/
def ssecCorrectsSpec : ChangeSpec := { name := "ssecCorrects", fn := fun _ => fun
  | [d1, d2] => { results := [.lit (.bool true)], args := [d1, d2] }
  | _ => none }
def ssecCorrectsRow : OpenClaim := { program := "ytnfbfggkbpobiaa", sum := "e8dc21bf65eae6c6754bcd437189667abd4810267d483ee94ec24e0da278f8ce", func := "aneroid/aneroidlaw38.SsecCorrects", spec := "ssecCorrects", unfollowed := true, recurses := true, named := ["math/bits.divideError", "math/bits.overflowError"], apart := false }
def SsecCorrectsSaid : Prop := ssecCorrectsRow.holds Try.pinned (OpenSpec.ofChange ssecCorrectsSpec)

/-- ITS FALSE NEIGHBOUR: 'it returns false'. Refute it at one input. -/
def ssecCorrectsWrong : ChangeSpec := { name := "ssecCorrects", fn := fun _ => fun
  | [d1, d2] => { results := [.lit (.bool false)], args := [d1, d2] }
  | _ => none }
def SsecCorrectsWrongFalsely : Prop := ssecCorrectsRow.holds Try.pinned (OpenSpec.ofChange ssecCorrectsWrong)

/-- 'aneroidlaw38.SsecMeasures': WHATEVER THE INPUT: true; the input reads as it did. -/
def ssecMeasuresSpec : ChangeSpec := { name := "ssecMeasures", fn := fun _ => fun
  | [d1, d2] => { results := [.lit (.bool true)], args := [d1, d2] }
  | _ => none }
def ssecMeasuresRow : OpenClaim := { program := "ytnfbfggkbpobiaa", sum := "e8dc21bf65eae6c6754bcd437189667abd4810267d483ee94ec24e0da278f8ce", func := "aneroid/aneroidlaw38.SsecMeasures", spec := "ssecMeasures", unfollowed := true, recurses := true, named := ["math/bits.divideError", "math/bits.overflowError"], apart := false }
def SsecMeasuresSaid : Prop := ssecMeasuresRow.holds Try.pinned (OpenSpec.ofChange ssecMeasuresSpec)

/-- ITS FALSE NEIGHBOUR: 'it returns false'. Refute it at one input. -/
def ssecMeasuresWrong : ChangeSpec := { name := "ssecMeasures", fn := fun _ => fun
  | [d1, d2] => { results := [.lit (.bool false)], args := [d1, d2] }
  | _ => none }
def SsecMeasuresWrongFalsely : Prop := ssecMeasuresRow.holds Try.pinned (OpenSpec.ofChange ssecMeasuresWrong)

/-- 'aneroidlaw38.SsecNear': WHATEVER THE INPUT: true; the input reads as it did. -/
def ssecNearSpec : ChangeSpec := { name := "ssecNear", fn := fun _ => fun
  | [d1, d2] => { results := [.lit (.bool true)], args := [d1, d2] }
  | _ => none }
def ssecNearRow : OpenClaim := { program := "ytnfbfggkbpobiaa", sum := "e8dc21bf65eae6c6754bcd437189667abd4810267d483ee94ec24e0da278f8ce", func := "aneroid/aneroidlaw38.SsecNear", spec := "ssecNear", unfollowed := true, recurses := true, named := ["math/bits.divideError", "math/bits.overflowError"], apart := false }
def SsecNearSaid : Prop := ssecNearRow.holds Try.pinned (OpenSpec.ofChange ssecNearSpec)

/-- ITS FALSE NEIGHBOUR: 'it returns false'. Refute it at one input. -/
def ssecNearWrong : ChangeSpec := { name := "ssecNear", fn := fun _ => fun
  | [d1, d2] => { results := [.lit (.bool false)], args := [d1, d2] }
  | _ => none }
def SsecNearWrongFalsely : Prop := ssecNearRow.holds Try.pinned (OpenSpec.ofChange ssecNearWrong)

/-- 'aneroidlaw39.AoaBetween': WHATEVER THE INPUT: true; the input reads as it did. -/
def aoaBetweenSpec : ChangeSpec := { name := "aoaBetween", fn := fun _ => fun
  | [d1, d2] => { results := [.lit (.bool true)], args := [d1, d2] }
  | _ => none }
def aoaBetweenRow : OpenClaim := { program := "ytnfbfggkbpobiaa", sum := "e8dc21bf65eae6c6754bcd437189667abd4810267d483ee94ec24e0da278f8ce", func := "aneroid/aneroidlaw39.AoaBetween", spec := "aoaBetween", unfollowed := true, recurses := true, named := ["math/bits.divideError", "math/bits.overflowError"], apart := false }
def AoaBetweenSaid : Prop := aoaBetweenRow.holds Try.pinned (OpenSpec.ofChange aoaBetweenSpec)

/-- ITS FALSE NEIGHBOUR: 'it returns false'. Refute it at one input. -/
def aoaBetweenWrong : ChangeSpec := { name := "aoaBetween", fn := fun _ => fun
  | [d1, d2] => { results := [.lit (.bool false)], args := [d1, d2] }
  | _ => none }
def AoaBetweenWrongFalsely : Prop := aoaBetweenRow.holds Try.pinned (OpenSpec.ofChange aoaBetweenWrong)

/-- 'aneroidlaw39.AoaSides': WHATEVER THE INPUT: true; the input reads as it did. -/
def aoaSidesSpec : ChangeSpec := { name := "aoaSides", fn := fun _ => fun
  | [d1, d2] => { results := [.lit (.bool true)], args := [d1, d2] }
  | _ => none }
def aoaSidesRow : OpenClaim := { program := "ytnfbfggkbpobiaa", sum := "e8dc21bf65eae6c6754bcd437189667abd4810267d483ee94ec24e0da278f8ce", func := "aneroid/aneroidlaw39.AoaSides", spec := "aoaSides", unfollowed := true, recurses := true, named := ["math/bits.divideError", "math/bits.overflowError"], apart := false }
def AoaSidesSaid : Prop := aoaSidesRow.holds Try.pinned (OpenSpec.ofChange aoaSidesSpec)

/-- ITS FALSE NEIGHBOUR: 'it returns false'. Refute it at one input. -/
def aoaSidesWrong : ChangeSpec := { name := "aoaSides", fn := fun _ => fun
  | [d1, d2] => { results := [.lit (.bool false)], args := [d1, d2] }
  | _ => none }
def AoaSidesWrongFalsely : Prop := aoaSidesRow.holds Try.pinned (OpenSpec.ofChange aoaSidesWrong)

/-- 'aneroidlaw43.VmoSteps': WHATEVER THE INPUT: true; the input reads as it did. -/
def vmoStepsSpec : ChangeSpec := { name := "vmoSteps", fn := fun _ => fun
  | [d1, d2] => { results := [.lit (.bool true)], args := [d1, d2] }
  | _ => none }
def vmoStepsRow : OpenClaim := { program := "ytnfbfggkbpobiaa", sum := "e8dc21bf65eae6c6754bcd437189667abd4810267d483ee94ec24e0da278f8ce", func := "aneroid/aneroidlaw43.VmoSteps", spec := "vmoSteps", unfollowed := true, recurses := true, named := ["math/bits.divideError", "math/bits.overflowError"], apart := false }
def VmoStepsSaid : Prop := vmoStepsRow.holds Try.pinned (OpenSpec.ofChange vmoStepsSpec)

/-- ITS FALSE NEIGHBOUR: 'it returns false'. Refute it at one input. -/
def vmoStepsWrong : ChangeSpec := { name := "vmoSteps", fn := fun _ => fun
  | [d1, d2] => { results := [.lit (.bool false)], args := [d1, d2] }
  | _ => none }
def VmoStepsWrongFalsely : Prop := vmoStepsRow.holds Try.pinned (OpenSpec.ofChange vmoStepsWrong)

/-- 'aneroidlaw43.VmoBetween': WHATEVER THE INPUT: true; the input reads as it did. -/
def vmoBetweenSpec : ChangeSpec := { name := "vmoBetween", fn := fun _ => fun
  | [d1, d2] => { results := [.lit (.bool true)], args := [d1, d2] }
  | _ => none }
def vmoBetweenRow : OpenClaim := { program := "ytnfbfggkbpobiaa", sum := "e8dc21bf65eae6c6754bcd437189667abd4810267d483ee94ec24e0da278f8ce", func := "aneroid/aneroidlaw43.VmoBetween", spec := "vmoBetween", unfollowed := true, recurses := true, named := ["math/bits.divideError", "math/bits.overflowError"], apart := false }
def VmoBetweenSaid : Prop := vmoBetweenRow.holds Try.pinned (OpenSpec.ofChange vmoBetweenSpec)

/-- ITS FALSE NEIGHBOUR: 'it returns false'. Refute it at one input. -/
def vmoBetweenWrong : ChangeSpec := { name := "vmoBetween", fn := fun _ => fun
  | [d1, d2] => { results := [.lit (.bool false)], args := [d1, d2] }
  | _ => none }
def VmoBetweenWrongFalsely : Prop := vmoBetweenRow.holds Try.pinned (OpenSpec.ofChange vmoBetweenWrong)

/- THE SECOND FORM. 'bulk': how many values and letters a reading holds, each counted each time it is reached (what is shared counts as often as it is met; a slice's spare places count too). A statement '..UptoSaid' is the law's where the arguments, and the package variables that the reading takes, are together of bulk at most 1048576: NARROWER than '..Said'. Prove '..Said' where nothing that the law and all that it calls make is longer than what came in: it says more and counts as full. Else prove '..UptoSaid'. A law counts once. -/
mutual
def uptoBulk {H : Type} : DataW H → Nat
  | .lit (.string bytes) => bytes.length + 1
  | .lit _ => 1
  | .nil => 1
  | .ptr d => uptoBulk d + 1
  | .slice elems spare => uptoBulkAll elems + uptoBulkAll spare + 1
  | .agg parts => uptoBulkAll parts + 1
  | .iface _ d => uptoBulk d + 1
  | .map entries => uptoBulkEntries entries + 1
  | .held _ => 1
def uptoBulkAll {H : Type} : List (DataW H) → Nat
  | [] => 0
  | d :: r => uptoBulk d + uptoBulkAll r
def uptoBulkEntries {H : Type} : List (Lit × DataW H) → Nat
  | [] => 0
  | x :: r => uptoBulkEntry x + uptoBulkEntries r
def uptoBulkEntry {H : Type} : Lit × DataW H → Nat
  | (.string bytes, d) => bytes.length + uptoBulk d + 1
  | (_, d) => uptoBulk d + 1
 end
def uptoSmall : (H : Type) → List (DataW H) → Bool := fun _ ds => decide (uptoBulkAll ds ≤ 1048576)
def OpenSpec.upto (s : _root_.Go.ChangeSpec) : _root_.Go.OpenSpec := { _root_.Go.OpenSpec.ofChange s with cond := some uptoSmall }

/-- 'aneroidlaw06.SheetTells', WHERE WHAT IT READS IS OF BULK AT MOST 1048576: true; the input reads as it did. -/
def sheetTellsUptoRow : OpenClaim := { program := "ytnfbfggkbpobiaa", sum := "e8dc21bf65eae6c6754bcd437189667abd4810267d483ee94ec24e0da278f8ce", func := "aneroid/aneroidlaw06.SheetTells", spec := "sheetTells", unfollowed := true, recurses := true, named := ["math/bits.divideError", "math/bits.overflowError"], apart := false, narrowed := true }
def SheetTellsUptoSaid : Prop := sheetTellsUptoRow.holds Try.pinned (OpenSpec.upto sheetTellsSpec)

/-- 'aneroidlaw06.SheetParts', WHERE WHAT IT READS IS OF BULK AT MOST 1048576: true; the input reads as it did. -/
def sheetPartsUptoRow : OpenClaim := { program := "ytnfbfggkbpobiaa", sum := "e8dc21bf65eae6c6754bcd437189667abd4810267d483ee94ec24e0da278f8ce", func := "aneroid/aneroidlaw06.SheetParts", spec := "sheetParts", unfollowed := true, recurses := true, named := ["math/bits.divideError", "math/bits.overflowError"], apart := false, narrowed := true }
def SheetPartsUptoSaid : Prop := sheetPartsUptoRow.holds Try.pinned (OpenSpec.upto sheetPartsSpec)

/-- 'aneroidlaw06.SheetBetween', WHERE WHAT IT READS IS OF BULK AT MOST 1048576: true; the input reads as it did. -/
def sheetBetweenUptoRow : OpenClaim := { program := "ytnfbfggkbpobiaa", sum := "e8dc21bf65eae6c6754bcd437189667abd4810267d483ee94ec24e0da278f8ce", func := "aneroid/aneroidlaw06.SheetBetween", spec := "sheetBetween", unfollowed := true, recurses := true, named := ["math/bits.divideError", "math/bits.overflowError"], apart := false, narrowed := true }
def SheetBetweenUptoSaid : Prop := sheetBetweenUptoRow.holds Try.pinned (OpenSpec.upto sheetBetweenSpec)

/-- 'aneroidlaw06.SheetFlips', WHERE WHAT IT READS IS OF BULK AT MOST 1048576: true; the input reads as it did. -/
def sheetFlipsUptoRow : OpenClaim := { program := "ytnfbfggkbpobiaa", sum := "e8dc21bf65eae6c6754bcd437189667abd4810267d483ee94ec24e0da278f8ce", func := "aneroid/aneroidlaw06.SheetFlips", spec := "sheetFlips", unfollowed := true, recurses := true, named := ["math/bits.divideError", "math/bits.overflowError"], apart := false, narrowed := true }
def SheetFlipsUptoSaid : Prop := sheetFlipsUptoRow.holds Try.pinned (OpenSpec.upto sheetFlipsSpec)

/-- 'aneroidlaw38.SsecErrors', WHERE WHAT IT READS IS OF BULK AT MOST 1048576: true; the input reads as it did. -/
def ssecErrorsUptoRow : OpenClaim := { program := "ytnfbfggkbpobiaa", sum := "e8dc21bf65eae6c6754bcd437189667abd4810267d483ee94ec24e0da278f8ce", func := "aneroid/aneroidlaw38.SsecErrors", spec := "ssecErrors", unfollowed := true, recurses := true, named := ["math/bits.divideError", "math/bits.overflowError"], apart := false, narrowed := true }
def SsecErrorsUptoSaid : Prop := ssecErrorsUptoRow.holds Try.pinned (OpenSpec.upto ssecErrorsSpec)

/-- 'aneroidlaw38.SsecCorrects', WHERE WHAT IT READS IS OF BULK AT MOST 1048576: true; the input reads as it did. -/
def ssecCorrectsUptoRow : OpenClaim := { program := "ytnfbfggkbpobiaa", sum := "e8dc21bf65eae6c6754bcd437189667abd4810267d483ee94ec24e0da278f8ce", func := "aneroid/aneroidlaw38.SsecCorrects", spec := "ssecCorrects", unfollowed := true, recurses := true, named := ["math/bits.divideError", "math/bits.overflowError"], apart := false, narrowed := true }
def SsecCorrectsUptoSaid : Prop := ssecCorrectsUptoRow.holds Try.pinned (OpenSpec.upto ssecCorrectsSpec)

/-- 'aneroidlaw38.SsecMeasures', WHERE WHAT IT READS IS OF BULK AT MOST 1048576: true; the input reads as it did. -/
def ssecMeasuresUptoRow : OpenClaim := { program := "ytnfbfggkbpobiaa", sum := "e8dc21bf65eae6c6754bcd437189667abd4810267d483ee94ec24e0da278f8ce", func := "aneroid/aneroidlaw38.SsecMeasures", spec := "ssecMeasures", unfollowed := true, recurses := true, named := ["math/bits.divideError", "math/bits.overflowError"], apart := false, narrowed := true }
def SsecMeasuresUptoSaid : Prop := ssecMeasuresUptoRow.holds Try.pinned (OpenSpec.upto ssecMeasuresSpec)

/-- 'aneroidlaw38.SsecNear', WHERE WHAT IT READS IS OF BULK AT MOST 1048576: true; the input reads as it did. -/
def ssecNearUptoRow : OpenClaim := { program := "ytnfbfggkbpobiaa", sum := "e8dc21bf65eae6c6754bcd437189667abd4810267d483ee94ec24e0da278f8ce", func := "aneroid/aneroidlaw38.SsecNear", spec := "ssecNear", unfollowed := true, recurses := true, named := ["math/bits.divideError", "math/bits.overflowError"], apart := false, narrowed := true }
def SsecNearUptoSaid : Prop := ssecNearUptoRow.holds Try.pinned (OpenSpec.upto ssecNearSpec)

/-- 'aneroidlaw39.AoaBetween', WHERE WHAT IT READS IS OF BULK AT MOST 1048576: true; the input reads as it did. -/
def aoaBetweenUptoRow : OpenClaim := { program := "ytnfbfggkbpobiaa", sum := "e8dc21bf65eae6c6754bcd437189667abd4810267d483ee94ec24e0da278f8ce", func := "aneroid/aneroidlaw39.AoaBetween", spec := "aoaBetween", unfollowed := true, recurses := true, named := ["math/bits.divideError", "math/bits.overflowError"], apart := false, narrowed := true }
def AoaBetweenUptoSaid : Prop := aoaBetweenUptoRow.holds Try.pinned (OpenSpec.upto aoaBetweenSpec)

/-- 'aneroidlaw39.AoaSides', WHERE WHAT IT READS IS OF BULK AT MOST 1048576: true; the input reads as it did. -/
def aoaSidesUptoRow : OpenClaim := { program := "ytnfbfggkbpobiaa", sum := "e8dc21bf65eae6c6754bcd437189667abd4810267d483ee94ec24e0da278f8ce", func := "aneroid/aneroidlaw39.AoaSides", spec := "aoaSides", unfollowed := true, recurses := true, named := ["math/bits.divideError", "math/bits.overflowError"], apart := false, narrowed := true }
def AoaSidesUptoSaid : Prop := aoaSidesUptoRow.holds Try.pinned (OpenSpec.upto aoaSidesSpec)

/-- 'aneroidlaw43.VmoSteps', WHERE WHAT IT READS IS OF BULK AT MOST 1048576: true; the input reads as it did. -/
def vmoStepsUptoRow : OpenClaim := { program := "ytnfbfggkbpobiaa", sum := "e8dc21bf65eae6c6754bcd437189667abd4810267d483ee94ec24e0da278f8ce", func := "aneroid/aneroidlaw43.VmoSteps", spec := "vmoSteps", unfollowed := true, recurses := true, named := ["math/bits.divideError", "math/bits.overflowError"], apart := false, narrowed := true }
def VmoStepsUptoSaid : Prop := vmoStepsUptoRow.holds Try.pinned (OpenSpec.upto vmoStepsSpec)

/-- 'aneroidlaw43.VmoBetween', WHERE WHAT IT READS IS OF BULK AT MOST 1048576: true; the input reads as it did. -/
def vmoBetweenUptoRow : OpenClaim := { program := "ytnfbfggkbpobiaa", sum := "e8dc21bf65eae6c6754bcd437189667abd4810267d483ee94ec24e0da278f8ce", func := "aneroid/aneroidlaw43.VmoBetween", spec := "vmoBetween", unfollowed := true, recurses := true, named := ["math/bits.divideError", "math/bits.overflowError"], apart := false, narrowed := true }
def VmoBetweenUptoSaid : Prop := vmoBetweenUptoRow.holds Try.pinned (OpenSpec.upto vmoBetweenSpec)

end Rows
end Go.Proofs.Ytnfbfggkbpobiaa
