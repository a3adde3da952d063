/-
  No cell of these rows narrows 'for every input' (looked for: loops, veiled, ifaces, maps, wideKeys, modest, calm, conditions, laid).
  DERIVED. THE GIVEN ROWS OF THIS SEAT. 5 by the template 'for every input the law returns true; each argument reads behind the call as it read before'; 0 by the template 'total and deterministic' (their statements: YtigplknmfdjjaaaTotals.lean).
  GIVEN WITH THE SEED: the statements are not yours to turn. If you find one false, say at which input.
  Laid BY PROGRAM, IN A SANDBOX (cutbox-rows.mjs): the forced cells as the released guide's own fill.sh prints them over the translation 232507569e5ff978… (all of the seat's roots in one cut). By AI agents, Wed Nov 11 2026. No macro, syntax, notation, axiom, sorry.
-/
import Derived.Test.YtigplknmfdjjaaaChecked
import GoSem.Claim
import GoSem.ClaimJoined
import GoSem.ClaimMapViews
import Derived.JoinedTies
import Derived.KernelRfl
namespace Go.Proofs.Ytigplknmfdjjaaa
/- THE CELL 'sum', in the pinned program and in every row, IS THE sha256 OF THE DUMP (.gsa) THAT YtigplknmfdjjaaaProg.lean LOADS. Nothing in Lean hashes anything: it is a label: what it is worth is what the hold of that sum in a sandbox is worth. -/
noncomputable def Try.pinned : Pinned := { name := "ytigplknmfdjjaaa", sum := "232507569e5ff978764d3cf54f5a6f9434b1a44a0a2aa821c6e29cf42d807b80", checked := Try.checked }
namespace Rows
def none {H : Type} : Left H := { results := [], args := [] }

/-- 'aneroidlaw09.SpeedDenser': WHATEVER THE INPUT: true; the input reads as it did. -/
def speedDenserSpec : ChangeSpec := { name := "speedDenser", fn := fun _ => fun
  | [d1, d2, d3] => { results := [.lit (.bool true)], args := [d1, d2, d3] }
  | _ => none }
def speedDenserRow : OpenClaim := { program := "ytigplknmfdjjaaa", sum := "232507569e5ff978764d3cf54f5a6f9434b1a44a0a2aa821c6e29cf42d807b80", func := "aneroid/aneroidlaw09.SpeedDenser", spec := "speedDenser", unfollowed := true, recurses := true, named := ["math/bits.divideError", "math/bits.overflowError"], apart := false }
def SpeedDenserSaid : Prop := speedDenserRow.holds Try.pinned (OpenSpec.ofChange speedDenserSpec)

/-- ITS FALSE NEIGHBOUR: 'it returns false'. Refute it at one input. -/
def speedDenserWrong : ChangeSpec := { name := "speedDenser", fn := fun _ => fun
  | [d1, d2, d3] => { results := [.lit (.bool false)], args := [d1, d2, d3] }
  | _ => none }
def SpeedDenserWrongFalsely : Prop := speedDenserRow.holds Try.pinned (OpenSpec.ofChange speedDenserWrong)

/-- 'aneroidlaw10.HeatCooler': WHATEVER THE INPUT: true; the input reads as it did. -/
def heatCoolerSpec : ChangeSpec := { name := "heatCooler", fn := fun _ => fun
  | [d1, d2, d3] => { results := [.lit (.bool true)], args := [d1, d2, d3] }
  | _ => none }
def heatCoolerRow : OpenClaim := { program := "ytigplknmfdjjaaa", sum := "232507569e5ff978764d3cf54f5a6f9434b1a44a0a2aa821c6e29cf42d807b80", func := "aneroid/aneroidlaw10.HeatCooler", spec := "heatCooler", named := ["math/bits.divideError", "math/bits.overflowError"], apart := false }
def HeatCoolerSaid : Prop := heatCoolerRow.holds Try.pinned (OpenSpec.ofChange heatCoolerSpec)

/-- ITS FALSE NEIGHBOUR: 'it returns false'. Refute it at one input. -/
def heatCoolerWrong : ChangeSpec := { name := "heatCooler", fn := fun _ => fun
  | [d1, d2, d3] => { results := [.lit (.bool false)], args := [d1, d2, d3] }
  | _ => none }
def HeatCoolerWrongFalsely : Prop := heatCoolerRow.holds Try.pinned (OpenSpec.ofChange heatCoolerWrong)

/-- 'aneroidlaw10.HeatBack': WHATEVER THE INPUT: true; the input reads as it did. -/
def heatBackSpec : ChangeSpec := { name := "heatBack", fn := fun _ => fun
  | [d1, d2, d3] => { results := [.lit (.bool true)], args := [d1, d2, d3] }
  | _ => none }
def heatBackRow : OpenClaim := { program := "ytigplknmfdjjaaa", sum := "232507569e5ff978764d3cf54f5a6f9434b1a44a0a2aa821c6e29cf42d807b80", func := "aneroid/aneroidlaw10.HeatBack", spec := "heatBack", named := ["math/bits.divideError", "math/bits.overflowError"], apart := false }
def HeatBackSaid : Prop := heatBackRow.holds Try.pinned (OpenSpec.ofChange heatBackSpec)

/-- ITS FALSE NEIGHBOUR: 'it returns false'. Refute it at one input. -/
def heatBackWrong : ChangeSpec := { name := "heatBack", fn := fun _ => fun
  | [d1, d2, d3] => { results := [.lit (.bool false)], args := [d1, d2, d3] }
  | _ => none }
def HeatBackWrongFalsely : Prop := heatBackRow.holds Try.pinned (OpenSpec.ofChange heatBackWrong)

/-- 'aneroidlaw14.CalTells': WHATEVER THE INPUT: true; the input reads as it did. -/
def calTellsSpec : ChangeSpec := { name := "calTells", fn := fun _ => fun
  | [d1, d2, d3] => { results := [.lit (.bool true)], args := [d1, d2, d3] }
  | _ => none }
def calTellsRow : OpenClaim := { program := "ytigplknmfdjjaaa", sum := "232507569e5ff978764d3cf54f5a6f9434b1a44a0a2aa821c6e29cf42d807b80", func := "aneroid/aneroidlaw14.CalTells", spec := "calTells", named := ["math/bits.divideError", "math/bits.overflowError"], apart := false }
def CalTellsSaid : Prop := calTellsRow.holds Try.pinned (OpenSpec.ofChange calTellsSpec)

/-- ITS FALSE NEIGHBOUR: 'it returns false'. Refute it at one input. -/
def calTellsWrong : ChangeSpec := { name := "calTells", fn := fun _ => fun
  | [d1, d2, d3] => { results := [.lit (.bool false)], args := [d1, d2, d3] }
  | _ => none }
def CalTellsWrongFalsely : Prop := calTellsRow.holds Try.pinned (OpenSpec.ofChange calTellsWrong)

/-- 'aneroidlaw14.CalRises': WHATEVER THE INPUT: true; the input reads as it did. -/
def calRisesSpec : ChangeSpec := { name := "calRises", fn := fun _ => fun
  | [d1, d2, d3] => { results := [.lit (.bool true)], args := [d1, d2, d3] }
  | _ => none }
def calRisesRow : OpenClaim := { program := "ytigplknmfdjjaaa", sum := "232507569e5ff978764d3cf54f5a6f9434b1a44a0a2aa821c6e29cf42d807b80", func := "aneroid/aneroidlaw14.CalRises", spec := "calRises", named := ["math/bits.divideError", "math/bits.overflowError"], apart := false }
def CalRisesSaid : Prop := calRisesRow.holds Try.pinned (OpenSpec.ofChange calRisesSpec)

/-- ITS FALSE NEIGHBOUR: 'it returns false'. Refute it at one input. -/
def calRisesWrong : ChangeSpec := { name := "calRises", fn := fun _ => fun
  | [d1, d2, d3] => { results := [.lit (.bool false)], args := [d1, d2, d3] }
  | _ => none }
def CalRisesWrongFalsely : Prop := calRisesRow.holds Try.pinned (OpenSpec.ofChange calRisesWrong)

/- THE SECOND FORM. 'bulk': how many values and letters a reading holds, each counted each time it is reached (what is shared counts as often as it is met; a slice's spare places count too). A statement '..UptoSaid' is the law's where the arguments, and the package variables that the reading takes, are together of bulk at most 1048576: NARROWER than '..Said'. Prove '..Said' where nothing that the law and all that it calls make is longer than what came in: it says more and counts as full. Else prove '..UptoSaid'. A law counts once. -/
mutual
def uptoBulk {H : Type} : DataW H → Nat
  | .lit (.string bytes) => bytes.length + 1
  | .lit _ => 1
  | .nil => 1
  | .ptr d => uptoBulk d + 1
  | .slice elems spare => uptoBulkAll elems + uptoBulkAll spare + 1
  | .agg parts => uptoBulkAll parts + 1
  | .iface _ d => uptoBulk d + 1
  | .map entries => uptoBulkEntries entries + 1
  | .held _ => 1
def uptoBulkAll {H : Type} : List (DataW H) → Nat
  | [] => 0
  | d :: r => uptoBulk d + uptoBulkAll r
def uptoBulkEntries {H : Type} : List (Lit × DataW H) → Nat
  | [] => 0
  | x :: r => uptoBulkEntry x + uptoBulkEntries r
def uptoBulkEntry {H : Type} : Lit × DataW H → Nat
  | (.string bytes, d) => bytes.length + uptoBulk d + 1
  | (_, d) => uptoBulk d + 1
 end
def uptoSmall : (H : Type) → List (DataW H) → Bool := fun _ ds => decide (uptoBulkAll ds ≤ 1048576)
def OpenSpec.upto (s : _root_.Go.ChangeSpec) : _root_.Go.OpenSpec := { _root_.Go.OpenSpec.ofChange s with cond := some uptoSmall }

/-- 'aneroidlaw09.SpeedDenser', WHERE WHAT IT READS IS OF BULK AT MOST 1048576: true; the input reads as it did. -/
def speedDenserUptoRow : OpenClaim := { program := "ytigplknmfdjjaaa", sum := "232507569e5ff978764d3cf54f5a6f9434b1a44a0a2aa821c6e29cf42d807b80", func := "aneroid/aneroidlaw09.SpeedDenser", spec := "speedDenser", unfollowed := true, recurses := true, named := ["math/bits.divideError", "math/bits.overflowError"], apart := false, narrowed := true }
def SpeedDenserUptoSaid : Prop := speedDenserUptoRow.holds Try.pinned (OpenSpec.upto speedDenserSpec)

/-- 'aneroidlaw10.HeatCooler', WHERE WHAT IT READS IS OF BULK AT MOST 1048576: true; the input reads as it did. -/
def heatCoolerUptoRow : OpenClaim := { program := "ytigplknmfdjjaaa", sum := "232507569e5ff978764d3cf54f5a6f9434b1a44a0a2aa821c6e29cf42d807b80", func := "aneroid/aneroidlaw10.HeatCooler", spec := "heatCooler", named := ["math/bits.divideError", "math/bits.overflowError"], apart := false, narrowed := true }
def HeatCoolerUptoSaid : Prop := heatCoolerUptoRow.holds Try.pinned (OpenSpec.upto heatCoolerSpec)

/-- 'aneroidlaw10.HeatBack', WHERE WHAT IT READS IS OF BULK AT MOST 1048576: true; the input reads as it did. -/
def heatBackUptoRow : OpenClaim := { program := "ytigplknmfdjjaaa", sum := "232507569e5ff978764d3cf54f5a6f9434b1a44a0a2aa821c6e29cf42d807b80", func := "aneroid/aneroidlaw10.HeatBack", spec := "heatBack", named := ["math/bits.divideError", "math/bits.overflowError"], apart := false, narrowed := true }
def HeatBackUptoSaid : Prop := heatBackUptoRow.holds Try.pinned (OpenSpec.upto heatBackSpec)

/-- 'aneroidlaw14.CalTells', WHERE WHAT IT READS IS OF BULK AT MOST 1048576: true; the input reads as it did. -/
def calTellsUptoRow : OpenClaim := { program := "ytigplknmfdjjaaa", sum := "232507569e5ff978764d3cf54f5a6f9434b1a44a0a2aa821c6e29cf42d807b80", func := "aneroid/aneroidlaw14.CalTells", spec := "calTells", named := ["math/bits.divideError", "math/bits.overflowError"], apart := false, narrowed := true }
def CalTellsUptoSaid : Prop := calTellsUptoRow.holds Try.pinned (OpenSpec.upto calTellsSpec)

/-- 'aneroidlaw14.CalRises', WHERE WHAT IT READS IS OF BULK AT MOST 1048576: true; the input reads as it did. -/
def calRisesUptoRow : OpenClaim := { program := "ytigplknmfdjjaaa", sum := "232507569e5ff978764d3cf54f5a6f9434b1a44a0a2aa821c6e29cf42d807b80", func := "aneroid/aneroidlaw14.CalRises", spec := "calRises", named := ["math/bits.divideError", "math/bits.overflowError"], apart := false, narrowed := true }
def CalRisesUptoSaid : Prop := calRisesUptoRow.holds Try.pinned (OpenSpec.upto calRisesSpec)

end Rows
end Go.Proofs.Ytigplknmfdjjaaa
