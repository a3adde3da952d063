/-
  No cell of these rows narrows 'for every input' (looked for: loops, veiled, ifaces, maps, wideKeys, modest, calm, conditions, laid).
  DERIVED. THE GIVEN ROWS OF THIS SEAT. 7 by the template 'for every input the law returns true; each argument reads behind the call as it read before'; 0 by the template 'total and deterministic' (their statements: YtaijkngdelolgaaTotals.lean).
  GIVEN WITH THE SEED: the statements are not yours to turn. If you find one false, say at which input.
  Laid BY PROGRAM, IN A SANDBOX (cutbox-rows.mjs): the forced cells as the released guide's own fill.sh prints them over the translation f4cda5d4997b7735… (all of the seat's roots in one cut). By AI agents, Wed Nov 11 2026. No macro, syntax, notation, axiom, sorry.
-/
import Derived.Test.YtaijkngdelolgaaChecked
import GoSem.Claim
import GoSem.ClaimJoined
import GoSem.ClaimMapViews
import Derived.JoinedTies
import Derived.KernelRfl
namespace Go.Proofs.Ytaijkngdelolgaa
/- THE CELL 'sum', in the pinned program and in every row, IS THE sha256 OF THE DUMP (.gsa) THAT YtaijkngdelolgaaProg.lean LOADS. Nothing in Lean hashes anything: it is a label: what it is worth is what the hold of that sum in a sandbox is worth. -/
noncomputable def Try.pinned : Pinned := { name := "ytaijkngdelolgaa", sum := "f4cda5d4997b7735be7ae0fddd39c9b88d7f2ddc4fc1d9af2d8563171aec6a8b", checked := Try.checked }
namespace Rows
def none {H : Type} : Left H := { results := [], args := [] }

/-- 'aneroidlaw29.DiscPuts': WHATEVER THE INPUT: true; the input reads as it did. -/
def discPutsSpec : ChangeSpec := { name := "discPuts", fn := fun _ => fun
  | [d1, d2, d3] => { results := [.lit (.bool true)], args := [d1, d2, d3] }
  | _ => none }
def discPutsRow : OpenClaim := { program := "ytaijkngdelolgaa", sum := "f4cda5d4997b7735be7ae0fddd39c9b88d7f2ddc4fc1d9af2d8563171aec6a8b", func := "aneroid/aneroidlaw29.DiscPuts", spec := "discPuts", apart := false }
def DiscPutsSaid : Prop := discPutsRow.holds Try.pinned (OpenSpec.ofChange discPutsSpec)

/-- ITS FALSE NEIGHBOUR: 'it returns false'. Refute it at one input. -/
def discPutsWrong : ChangeSpec := { name := "discPuts", fn := fun _ => fun
  | [d1, d2, d3] => { results := [.lit (.bool false)], args := [d1, d2, d3] }
  | _ => none }
def DiscPutsWrongFalsely : Prop := discPutsRow.holds Try.pinned (OpenSpec.ofChange discPutsWrong)

/-- 'aneroidlaw29.DiscTakes': WHATEVER THE INPUT: true; the input reads as it did. -/
def discTakesSpec : ChangeSpec := { name := "discTakes", fn := fun _ => fun
  | [d1, d2] => { results := [.lit (.bool true)], args := [d1, d2] }
  | _ => none }
def discTakesRow : OpenClaim := { program := "ytaijkngdelolgaa", sum := "f4cda5d4997b7735be7ae0fddd39c9b88d7f2ddc4fc1d9af2d8563171aec6a8b", func := "aneroid/aneroidlaw29.DiscTakes", spec := "discTakes", apart := false }
def DiscTakesSaid : Prop := discTakesRow.holds Try.pinned (OpenSpec.ofChange discTakesSpec)

/-- ITS FALSE NEIGHBOUR: 'it returns false'. Refute it at one input. -/
def discTakesWrong : ChangeSpec := { name := "discTakes", fn := fun _ => fun
  | [d1, d2] => { results := [.lit (.bool false)], args := [d1, d2] }
  | _ => none }
def DiscTakesWrongFalsely : Prop := discTakesRow.holds Try.pinned (OpenSpec.ofChange discTakesWrong)

/-- 'aneroidlaw29.DiscCalls': WHATEVER THE INPUT: true; the input reads as it did. -/
def discCallsSpec : ChangeSpec := { name := "discCalls", fn := fun _ => fun
  | [d1, d2, d3] => { results := [.lit (.bool true)], args := [d1, d2, d3] }
  | _ => none }
def discCallsRow : OpenClaim := { program := "ytaijkngdelolgaa", sum := "f4cda5d4997b7735be7ae0fddd39c9b88d7f2ddc4fc1d9af2d8563171aec6a8b", func := "aneroid/aneroidlaw29.DiscCalls", spec := "discCalls", apart := false }
def DiscCallsSaid : Prop := discCallsRow.holds Try.pinned (OpenSpec.ofChange discCallsSpec)

/-- ITS FALSE NEIGHBOUR: 'it returns false'. Refute it at one input. -/
def discCallsWrong : ChangeSpec := { name := "discCalls", fn := fun _ => fun
  | [d1, d2, d3] => { results := [.lit (.bool false)], args := [d1, d2, d3] }
  | _ => none }
def DiscCallsWrongFalsely : Prop := discCallsRow.holds Try.pinned (OpenSpec.ofChange discCallsWrong)

/-- 'aneroidlaw29.DiscBack': WHATEVER THE INPUT: true; the input reads as it did. -/
def discBackSpec : ChangeSpec := { name := "discBack", fn := fun _ => fun
  | [d1, d2, d3] => { results := [.lit (.bool true)], args := [d1, d2, d3] }
  | _ => none }
def discBackRow : OpenClaim := { program := "ytaijkngdelolgaa", sum := "f4cda5d4997b7735be7ae0fddd39c9b88d7f2ddc4fc1d9af2d8563171aec6a8b", func := "aneroid/aneroidlaw29.DiscBack", spec := "discBack", apart := false }
def DiscBackSaid : Prop := discBackRow.holds Try.pinned (OpenSpec.ofChange discBackSpec)

/-- ITS FALSE NEIGHBOUR: 'it returns false'. Refute it at one input. -/
def discBackWrong : ChangeSpec := { name := "discBack", fn := fun _ => fun
  | [d1, d2, d3] => { results := [.lit (.bool false)], args := [d1, d2, d3] }
  | _ => none }
def DiscBackWrongFalsely : Prop := discBackRow.holds Try.pinned (OpenSpec.ofChange discBackWrong)

/-- 'aneroidlaw30.LabelBack': WHATEVER THE INPUT: true; the input reads as it did. -/
def labelBackSpec : ChangeSpec := { name := "labelBack", fn := fun _ => fun
  | [d1, d2, d3] => { results := [.lit (.bool true)], args := [d1, d2, d3] }
  | _ => none }
def labelBackRow : OpenClaim := { program := "ytaijkngdelolgaa", sum := "f4cda5d4997b7735be7ae0fddd39c9b88d7f2ddc4fc1d9af2d8563171aec6a8b", func := "aneroid/aneroidlaw30.LabelBack", spec := "labelBack", named := ["math/bits.divideError", "math/bits.overflowError"], apart := false }
def LabelBackSaid : Prop := labelBackRow.holds Try.pinned (OpenSpec.ofChange labelBackSpec)

/-- ITS FALSE NEIGHBOUR: 'it returns false'. Refute it at one input. -/
def labelBackWrong : ChangeSpec := { name := "labelBack", fn := fun _ => fun
  | [d1, d2, d3] => { results := [.lit (.bool false)], args := [d1, d2, d3] }
  | _ => none }
def LabelBackWrongFalsely : Prop := labelBackRow.holds Try.pinned (OpenSpec.ofChange labelBackWrong)

/-- 'aneroidlaw35.HullSpans': WHATEVER THE INPUT: true; the input reads as it did. -/
def hullSpansSpec : ChangeSpec := { name := "hullSpans", fn := fun _ => fun
  | [d1, d2, d3] => { results := [.lit (.bool true)], args := [d1, d2, d3] }
  | _ => none }
def hullSpansRow : OpenClaim := { program := "ytaijkngdelolgaa", sum := "f4cda5d4997b7735be7ae0fddd39c9b88d7f2ddc4fc1d9af2d8563171aec6a8b", func := "aneroid/aneroidlaw35.HullSpans", spec := "hullSpans", apart := false }
def HullSpansSaid : Prop := hullSpansRow.holds Try.pinned (OpenSpec.ofChange hullSpansSpec)

/-- ITS FALSE NEIGHBOUR: 'it returns false'. Refute it at one input. -/
def hullSpansWrong : ChangeSpec := { name := "hullSpans", fn := fun _ => fun
  | [d1, d2, d3] => { results := [.lit (.bool false)], args := [d1, d2, d3] }
  | _ => none }
def HullSpansWrongFalsely : Prop := hullSpansRow.holds Try.pinned (OpenSpec.ofChange hullSpansWrong)

/-- 'aneroidlaw40.MatrixSums': WHATEVER THE INPUT: true; the input reads as it did. -/
def matrixSumsSpec : ChangeSpec := { name := "matrixSums", fn := fun _ => fun
  | [d1, d2, d3] => { results := [.lit (.bool true)], args := [d1, d2, d3] }
  | _ => none }
def matrixSumsRow : OpenClaim := { program := "ytaijkngdelolgaa", sum := "f4cda5d4997b7735be7ae0fddd39c9b88d7f2ddc4fc1d9af2d8563171aec6a8b", func := "aneroid/aneroidlaw40.MatrixSums", spec := "matrixSums", inPlace := ["sync/atomic.StoreUint32"], unfollowed := true, recurses := true, named := ["math/bits.divideError", "math/bits.overflowError"], apart := false }
def MatrixSumsSaid : Prop := matrixSumsRow.holds Try.pinned (OpenSpec.ofChange matrixSumsSpec)

/-- ITS FALSE NEIGHBOUR: 'it returns false'. Refute it at one input. -/
def matrixSumsWrong : ChangeSpec := { name := "matrixSums", fn := fun _ => fun
  | [d1, d2, d3] => { results := [.lit (.bool false)], args := [d1, d2, d3] }
  | _ => none }
def MatrixSumsWrongFalsely : Prop := matrixSumsRow.holds Try.pinned (OpenSpec.ofChange matrixSumsWrong)

/- THE SECOND FORM. 'bulk': how many values and letters a reading holds, each counted each time it is reached (what is shared counts as often as it is met; a slice's spare places count too). A statement '..UptoSaid' is the law's where the arguments, and the package variables that the reading takes, are together of bulk at most 1048576: NARROWER than '..Said'. Prove '..Said' where nothing that the law and all that it calls make is longer than what came in: it says more and counts as full. Else prove '..UptoSaid'. A law counts once. -/
mutual
def uptoBulk {H : Type} : DataW H → Nat
  | .lit (.string bytes) => bytes.length + 1
  | .lit _ => 1
  | .nil => 1
  | .ptr d => uptoBulk d + 1
  | .slice elems spare => uptoBulkAll elems + uptoBulkAll spare + 1
  | .agg parts => uptoBulkAll parts + 1
  | .iface _ d => uptoBulk d + 1
  | .map entries => uptoBulkEntries entries + 1
  | .held _ => 1
def uptoBulkAll {H : Type} : List (DataW H) → Nat
  | [] => 0
  | d :: r => uptoBulk d + uptoBulkAll r
def uptoBulkEntries {H : Type} : List (Lit × DataW H) → Nat
  | [] => 0
  | x :: r => uptoBulkEntry x + uptoBulkEntries r
def uptoBulkEntry {H : Type} : Lit × DataW H → Nat
  | (.string bytes, d) => bytes.length + uptoBulk d + 1
  | (_, d) => uptoBulk d + 1
 end
def uptoSmall : (H : Type) → List (DataW H) → Bool := fun _ ds => decide (uptoBulkAll ds ≤ 1048576)
def OpenSpec.upto (s : _root_.Go.ChangeSpec) : _root_.Go.OpenSpec := { _root_.Go.OpenSpec.ofChange s with cond := some uptoSmall }

/-- 'aneroidlaw29.DiscPuts', WHERE WHAT IT READS IS OF BULK AT MOST 1048576: true; the input reads as it did. -/
def discPutsUptoRow : OpenClaim := { program := "ytaijkngdelolgaa", sum := "f4cda5d4997b7735be7ae0fddd39c9b88d7f2ddc4fc1d9af2d8563171aec6a8b", func := "aneroid/aneroidlaw29.DiscPuts", spec := "discPuts", apart := false, narrowed := true }
def DiscPutsUptoSaid : Prop := discPutsUptoRow.holds Try.pinned (OpenSpec.upto discPutsSpec)

/-- 'aneroidlaw29.DiscTakes', WHERE WHAT IT READS IS OF BULK AT MOST 1048576: true; the input reads as it did. -/
def discTakesUptoRow : OpenClaim := { program := "ytaijkngdelolgaa", sum := "f4cda5d4997b7735be7ae0fddd39c9b88d7f2ddc4fc1d9af2d8563171aec6a8b", func := "aneroid/aneroidlaw29.DiscTakes", spec := "discTakes", apart := false, narrowed := true }
def DiscTakesUptoSaid : Prop := discTakesUptoRow.holds Try.pinned (OpenSpec.upto discTakesSpec)

/-- 'aneroidlaw29.DiscCalls', WHERE WHAT IT READS IS OF BULK AT MOST 1048576: true; the input reads as it did. -/
def discCallsUptoRow : OpenClaim := { program := "ytaijkngdelolgaa", sum := "f4cda5d4997b7735be7ae0fddd39c9b88d7f2ddc4fc1d9af2d8563171aec6a8b", func := "aneroid/aneroidlaw29.DiscCalls", spec := "discCalls", apart := false, narrowed := true }
def DiscCallsUptoSaid : Prop := discCallsUptoRow.holds Try.pinned (OpenSpec.upto discCallsSpec)

/-- 'aneroidlaw29.DiscBack', WHERE WHAT IT READS IS OF BULK AT MOST 1048576: true; the input reads as it did. -/
def discBackUptoRow : OpenClaim := { program := "ytaijkngdelolgaa", sum := "f4cda5d4997b7735be7ae0fddd39c9b88d7f2ddc4fc1d9af2d8563171aec6a8b", func := "aneroid/aneroidlaw29.DiscBack", spec := "discBack", apart := false, narrowed := true }
def DiscBackUptoSaid : Prop := discBackUptoRow.holds Try.pinned (OpenSpec.upto discBackSpec)

/-- 'aneroidlaw30.LabelBack', WHERE WHAT IT READS IS OF BULK AT MOST 1048576: true; the input reads as it did. -/
def labelBackUptoRow : OpenClaim := { program := "ytaijkngdelolgaa", sum := "f4cda5d4997b7735be7ae0fddd39c9b88d7f2ddc4fc1d9af2d8563171aec6a8b", func := "aneroid/aneroidlaw30.LabelBack", spec := "labelBack", named := ["math/bits.divideError", "math/bits.overflowError"], apart := false, narrowed := true }
def LabelBackUptoSaid : Prop := labelBackUptoRow.holds Try.pinned (OpenSpec.upto labelBackSpec)

/-- 'aneroidlaw35.HullSpans', WHERE WHAT IT READS IS OF BULK AT MOST 1048576: true; the input reads as it did. -/
def hullSpansUptoRow : OpenClaim := { program := "ytaijkngdelolgaa", sum := "f4cda5d4997b7735be7ae0fddd39c9b88d7f2ddc4fc1d9af2d8563171aec6a8b", func := "aneroid/aneroidlaw35.HullSpans", spec := "hullSpans", apart := false, narrowed := true }
def HullSpansUptoSaid : Prop := hullSpansUptoRow.holds Try.pinned (OpenSpec.upto hullSpansSpec)

/-- 'aneroidlaw40.MatrixSums', WHERE WHAT IT READS IS OF BULK AT MOST 1048576: true; the input reads as it did. -/
def matrixSumsUptoRow : OpenClaim := { program := "ytaijkngdelolgaa", sum := "f4cda5d4997b7735be7ae0fddd39c9b88d7f2ddc4fc1d9af2d8563171aec6a8b", func := "aneroid/aneroidlaw40.MatrixSums", spec := "matrixSums", inPlace := ["sync/atomic.StoreUint32"], unfollowed := true, recurses := true, named := ["math/bits.divideError", "math/bits.overflowError"], apart := false, narrowed := true }
def MatrixSumsUptoSaid : Prop := matrixSumsUptoRow.holds Try.pinned (OpenSpec.upto matrixSumsSpec)

end Rows
end Go.Proofs.Ytaijkngdelolgaa
