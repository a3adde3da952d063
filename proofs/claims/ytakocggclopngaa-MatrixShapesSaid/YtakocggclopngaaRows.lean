/-
  No cell of these rows narrows 'for every input' (looked for: loops, veiled, ifaces, maps, wideKeys, modest, calm, conditions, laid).
  DERIVED. THE GIVEN ROWS OF THIS SEAT. 8 by the template 'for every input the law returns true; each argument reads behind the call as it read before'; 0 by the template 'total and deterministic' (their statements: YtakocggclopngaaTotals.lean).
  GIVEN WITH THE SEED: the statements are not yours to turn. If you find one false, say at which input.
  Laid BY PROGRAM, IN A SANDBOX (cutbox-rows.mjs): the forced cells as the released guide's own fill.sh prints them over the translation 9bd936e8abebd1a8… (all of the seat's roots in one cut). By AI agents, Wed Nov 11 2026. No macro, syntax, notation, axiom, sorry.
-/
import Derived.Test.YtakocggclopngaaChecked
import GoSem.Claim
import GoSem.ClaimJoined
import GoSem.ClaimMapViews
import Derived.JoinedTies
import Derived.KernelRfl
namespace Go.Proofs.Ytakocggclopngaa
/- THE CELL 'sum', in the pinned program and in every row, IS THE sha256 OF THE DUMP (.gsa) THAT YtakocggclopngaaProg.lean LOADS. Nothing in Lean hashes anything: it is a label: what it is worth is what the hold of that sum in a sandbox is worth. -/
noncomputable def Try.pinned : Pinned := { name := "ytakocggclopngaa", sum := "9bd936e8abebd1a827d9c8669ed6b344c4a53d6672ce1afa0f3feb609a6fbfc8", checked := Try.checked }
namespace Rows
def none {H : Type} : Left H := { results := [], args := [] }

/-- 'aneroidlaw17.SensorPlays': WHATEVER THE INPUT: true; the input reads as it did. -/
def sensorPlaysSpec : ChangeSpec := { name := "sensorPlays", fn := fun _ => fun
  | [d1, d2] => { results := [.lit (.bool true)], args := [d1, d2] }
  | _ => none }
def sensorPlaysRow : OpenClaim := { program := "ytakocggclopngaa", sum := "9bd936e8abebd1a827d9c8669ed6b344c4a53d6672ce1afa0f3feb609a6fbfc8", func := "aneroid/aneroidlaw17.SensorPlays", spec := "sensorPlays", inPlace := ["sync/atomic.AddInt64"], named := ["math/bits.divideError", "math/bits.overflowError"], apart := false }
def SensorPlaysSaid : Prop := sensorPlaysRow.holds Try.pinned (OpenSpec.ofChange sensorPlaysSpec)

/-- ITS FALSE NEIGHBOUR: 'it returns false'. Refute it at one input. -/
def sensorPlaysWrong : ChangeSpec := { name := "sensorPlays", fn := fun _ => fun
  | [d1, d2] => { results := [.lit (.bool false)], args := [d1, d2] }
  | _ => none }
def SensorPlaysWrongFalsely : Prop := sensorPlaysRow.holds Try.pinned (OpenSpec.ofChange sensorPlaysWrong)

/-- 'aneroidlaw40.MatrixSums': WHATEVER THE INPUT: true; the input reads as it did. -/
def matrixSumsSpec : ChangeSpec := { name := "matrixSums", fn := fun _ => fun
  | [d1, d2, d3] => { results := [.lit (.bool true)], args := [d1, d2, d3] }
  | _ => none }
def matrixSumsRow : OpenClaim := { program := "ytakocggclopngaa", sum := "9bd936e8abebd1a827d9c8669ed6b344c4a53d6672ce1afa0f3feb609a6fbfc8", func := "aneroid/aneroidlaw40.MatrixSums", spec := "matrixSums", inPlace := ["sync/atomic.StoreUint32"], unfollowed := true, recurses := true, named := ["math/bits.divideError", "math/bits.overflowError"], apart := false }
def MatrixSumsSaid : Prop := matrixSumsRow.holds Try.pinned (OpenSpec.ofChange matrixSumsSpec)

/-- ITS FALSE NEIGHBOUR: 'it returns false'. Refute it at one input. -/
def matrixSumsWrong : ChangeSpec := { name := "matrixSums", fn := fun _ => fun
  | [d1, d2, d3] => { results := [.lit (.bool false)], args := [d1, d2, d3] }
  | _ => none }
def MatrixSumsWrongFalsely : Prop := matrixSumsRow.holds Try.pinned (OpenSpec.ofChange matrixSumsWrong)

/-- 'aneroidlaw40.MatrixProducts': WHATEVER THE INPUT: true; the input reads as it did. -/
def matrixProductsSpec : ChangeSpec := { name := "matrixProducts", fn := fun _ => fun
  | [d1, d2] => { results := [.lit (.bool true)], args := [d1, d2] }
  | _ => none }
def matrixProductsRow : OpenClaim := { program := "ytakocggclopngaa", sum := "9bd936e8abebd1a827d9c8669ed6b344c4a53d6672ce1afa0f3feb609a6fbfc8", func := "aneroid/aneroidlaw40.MatrixProducts", spec := "matrixProducts", unfollowed := true, recurses := true, named := ["math/bits.divideError", "math/bits.overflowError"], apart := false }
def MatrixProductsSaid : Prop := matrixProductsRow.holds Try.pinned (OpenSpec.ofChange matrixProductsSpec)

/-- ITS FALSE NEIGHBOUR: 'it returns false'. Refute it at one input. -/
def matrixProductsWrong : ChangeSpec := { name := "matrixProducts", fn := fun _ => fun
  | [d1, d2] => { results := [.lit (.bool false)], args := [d1, d2] }
  | _ => none }
def MatrixProductsWrongFalsely : Prop := matrixProductsRow.holds Try.pinned (OpenSpec.ofChange matrixProductsWrong)

/-- 'aneroidlaw40.MatrixShapes': WHATEVER THE INPUT: true; the input reads as it did. -/
def matrixShapesSpec : ChangeSpec := { name := "matrixShapes", fn := fun _ => fun
  | [d1, d2] => { results := [.lit (.bool true)], args := [d1, d2] }
  | _ => none }
def matrixShapesRow : OpenClaim := { program := "ytakocggclopngaa", sum := "9bd936e8abebd1a827d9c8669ed6b344c4a53d6672ce1afa0f3feb609a6fbfc8", func := "aneroid/aneroidlaw40.MatrixShapes", spec := "matrixShapes", unfollowed := true, recurses := true, named := ["math/bits.divideError", "math/bits.overflowError"], apart := false }
def MatrixShapesSaid : Prop := matrixShapesRow.holds Try.pinned (OpenSpec.ofChange matrixShapesSpec)

/-- ITS FALSE NEIGHBOUR: 'it returns false'. Refute it at one input. -/
def matrixShapesWrong : ChangeSpec := { name := "matrixShapes", fn := fun _ => fun
  | [d1, d2] => { results := [.lit (.bool false)], args := [d1, d2] }
  | _ => none }
def MatrixShapesWrongFalsely : Prop := matrixShapesRow.holds Try.pinned (OpenSpec.ofChange matrixShapesWrong)

/-- 'aneroidlaw41.KalmanNew': WHATEVER THE INPUT: true; the input reads as it did. -/
def kalmanNewSpec : ChangeSpec := { name := "kalmanNew", fn := fun _ => fun
  | [d1, d2] => { results := [.lit (.bool true)], args := [d1, d2] }
  | _ => none }
def kalmanNewRow : OpenClaim := { program := "ytakocggclopngaa", sum := "9bd936e8abebd1a827d9c8669ed6b344c4a53d6672ce1afa0f3feb609a6fbfc8", func := "aneroid/aneroidlaw41.KalmanNew", spec := "kalmanNew", inPlace := ["sync/atomic.LoadInt64", "sync/atomic.StoreUint32", "sync/atomic.AddInt64"], unfollowed := true, recurses := true, named := ["math/bits.divideError", "math/bits.overflowError"], apart := false }
def KalmanNewSaid : Prop := kalmanNewRow.holds Try.pinned (OpenSpec.ofChange kalmanNewSpec)

/-- ITS FALSE NEIGHBOUR: 'it returns false'. Refute it at one input. -/
def kalmanNewWrong : ChangeSpec := { name := "kalmanNew", fn := fun _ => fun
  | [d1, d2] => { results := [.lit (.bool false)], args := [d1, d2] }
  | _ => none }
def KalmanNewWrongFalsely : Prop := kalmanNewRow.holds Try.pinned (OpenSpec.ofChange kalmanNewWrong)

/-- 'aneroidlaw41.KalmanPlays': WHATEVER THE INPUT: true; the input reads as it did. -/
def kalmanPlaysSpec : ChangeSpec := { name := "kalmanPlays", fn := fun _ => fun
  | [d1, d2] => { results := [.lit (.bool true)], args := [d1, d2] }
  | _ => none }
def kalmanPlaysRow : OpenClaim := { program := "ytakocggclopngaa", sum := "9bd936e8abebd1a827d9c8669ed6b344c4a53d6672ce1afa0f3feb609a6fbfc8", func := "aneroid/aneroidlaw41.KalmanPlays", spec := "kalmanPlays", inPlace := ["sync/atomic.AddInt64", "sync/atomic.StoreUint32", "sync/atomic.LoadInt64"], unfollowed := true, recurses := true, named := ["math/bits.divideError", "math/bits.overflowError"], apart := false }
def KalmanPlaysSaid : Prop := kalmanPlaysRow.holds Try.pinned (OpenSpec.ofChange kalmanPlaysSpec)

/-- ITS FALSE NEIGHBOUR: 'it returns false'. Refute it at one input. -/
def kalmanPlaysWrong : ChangeSpec := { name := "kalmanPlays", fn := fun _ => fun
  | [d1, d2] => { results := [.lit (.bool false)], args := [d1, d2] }
  | _ => none }
def KalmanPlaysWrongFalsely : Prop := kalmanPlaysRow.holds Try.pinned (OpenSpec.ofChange kalmanPlaysWrong)

/-- 'aneroidlaw41.KalmanSure': WHATEVER THE INPUT: true; the input reads as it did. -/
def kalmanSureSpec : ChangeSpec := { name := "kalmanSure", fn := fun _ => fun
  | [d1, d2] => { results := [.lit (.bool true)], args := [d1, d2] }
  | _ => none }
def kalmanSureRow : OpenClaim := { program := "ytakocggclopngaa", sum := "9bd936e8abebd1a827d9c8669ed6b344c4a53d6672ce1afa0f3feb609a6fbfc8", func := "aneroid/aneroidlaw41.KalmanSure", spec := "kalmanSure", inPlace := ["sync/atomic.AddInt64", "sync/atomic.StoreUint32"], unfollowed := true, recurses := true, named := ["math/bits.divideError", "math/bits.overflowError"], apart := false }
def KalmanSureSaid : Prop := kalmanSureRow.holds Try.pinned (OpenSpec.ofChange kalmanSureSpec)

/-- ITS FALSE NEIGHBOUR: 'it returns false'. Refute it at one input. -/
def kalmanSureWrong : ChangeSpec := { name := "kalmanSure", fn := fun _ => fun
  | [d1, d2] => { results := [.lit (.bool false)], args := [d1, d2] }
  | _ => none }
def KalmanSureWrongFalsely : Prop := kalmanSureRow.holds Try.pinned (OpenSpec.ofChange kalmanSureWrong)

/-- 'aneroidlaw41.KalmanExpected': WHATEVER THE INPUT: true; the input reads as it did. -/
def kalmanExpectedSpec : ChangeSpec := { name := "kalmanExpected", fn := fun _ => fun
  | [d1, d2, d3] => { results := [.lit (.bool true)], args := [d1, d2, d3] }
  | _ => none }
def kalmanExpectedRow : OpenClaim := { program := "ytakocggclopngaa", sum := "9bd936e8abebd1a827d9c8669ed6b344c4a53d6672ce1afa0f3feb609a6fbfc8", func := "aneroid/aneroidlaw41.KalmanExpected", spec := "kalmanExpected", inPlace := ["sync/atomic.AddInt64", "sync/atomic.StoreUint32"], unfollowed := true, recurses := true, named := ["math/bits.divideError", "math/bits.overflowError"], apart := false }
def KalmanExpectedSaid : Prop := kalmanExpectedRow.holds Try.pinned (OpenSpec.ofChange kalmanExpectedSpec)

/-- ITS FALSE NEIGHBOUR: 'it returns false'. Refute it at one input. -/
def kalmanExpectedWrong : ChangeSpec := { name := "kalmanExpected", fn := fun _ => fun
  | [d1, d2, d3] => { results := [.lit (.bool false)], args := [d1, d2, d3] }
  | _ => none }
def KalmanExpectedWrongFalsely : Prop := kalmanExpectedRow.holds Try.pinned (OpenSpec.ofChange kalmanExpectedWrong)

/- THE SECOND FORM. 'bulk': how many values and letters a reading holds, each counted each time it is reached (what is shared counts as often as it is met; a slice's spare places count too). A statement '..UptoSaid' is the law's where the arguments, and the package variables that the reading takes, are together of bulk at most 1048576: NARROWER than '..Said'. Prove '..Said' where nothing that the law and all that it calls make is longer than what came in: it says more and counts as full. Else prove '..UptoSaid'. A law counts once. -/
mutual
def uptoBulk {H : Type} : DataW H → Nat
  | .lit (.string bytes) => bytes.length + 1
  | .lit _ => 1
  | .nil => 1
  | .ptr d => uptoBulk d + 1
  | .slice elems spare => uptoBulkAll elems + uptoBulkAll spare + 1
  | .agg parts => uptoBulkAll parts + 1
  | .iface _ d => uptoBulk d + 1
  | .map entries => uptoBulkEntries entries + 1
  | .held _ => 1
def uptoBulkAll {H : Type} : List (DataW H) → Nat
  | [] => 0
  | d :: r => uptoBulk d + uptoBulkAll r
def uptoBulkEntries {H : Type} : List (Lit × DataW H) → Nat
  | [] => 0
  | x :: r => uptoBulkEntry x + uptoBulkEntries r
def uptoBulkEntry {H : Type} : Lit × DataW H → Nat
  | (.string bytes, d) => bytes.length + uptoBulk d + 1
  | (_, d) => uptoBulk d + 1
 end
def uptoSmall : (H : Type) → List (DataW H) → Bool := fun _ ds => decide (uptoBulkAll ds ≤ 1048576)
def OpenSpec.upto (s : _root_.Go.ChangeSpec) : _root_.Go.OpenSpec := { _root_.Go.OpenSpec.ofChange s with cond := some uptoSmall }

/-- 'aneroidlaw17.SensorPlays', WHERE WHAT IT READS IS OF BULK AT MOST 1048576: true; the input reads as it did. -/
def sensorPlaysUptoRow : OpenClaim := { program := "ytakocggclopngaa", sum := "9bd936e8abebd1a827d9c8669ed6b344c4a53d6672ce1afa0f3feb609a6fbfc8", func := "aneroid/aneroidlaw17.SensorPlays", spec := "sensorPlays", inPlace := ["sync/atomic.AddInt64"], named := ["math/bits.divideError", "math/bits.overflowError"], apart := false, narrowed := true }
def SensorPlaysUptoSaid : Prop := sensorPlaysUptoRow.holds Try.pinned (OpenSpec.upto sensorPlaysSpec)

/-- 'aneroidlaw40.MatrixSums', WHERE WHAT IT READS IS OF BULK AT MOST 1048576: true; the input reads as it did. -/
def matrixSumsUptoRow : OpenClaim := { program := "ytakocggclopngaa", sum := "9bd936e8abebd1a827d9c8669ed6b344c4a53d6672ce1afa0f3feb609a6fbfc8", func := "aneroid/aneroidlaw40.MatrixSums", spec := "matrixSums", inPlace := ["sync/atomic.StoreUint32"], unfollowed := true, recurses := true, named := ["math/bits.divideError", "math/bits.overflowError"], apart := false, narrowed := true }
def MatrixSumsUptoSaid : Prop := matrixSumsUptoRow.holds Try.pinned (OpenSpec.upto matrixSumsSpec)

/-- 'aneroidlaw40.MatrixProducts', WHERE WHAT IT READS IS OF BULK AT MOST 1048576: true; the input reads as it did. -/
def matrixProductsUptoRow : OpenClaim := { program := "ytakocggclopngaa", sum := "9bd936e8abebd1a827d9c8669ed6b344c4a53d6672ce1afa0f3feb609a6fbfc8", func := "aneroid/aneroidlaw40.MatrixProducts", spec := "matrixProducts", unfollowed := true, recurses := true, named := ["math/bits.divideError", "math/bits.overflowError"], apart := false, narrowed := true }
def MatrixProductsUptoSaid : Prop := matrixProductsUptoRow.holds Try.pinned (OpenSpec.upto matrixProductsSpec)

/-- 'aneroidlaw40.MatrixShapes', WHERE WHAT IT READS IS OF BULK AT MOST 1048576: true; the input reads as it did. -/
def matrixShapesUptoRow : OpenClaim := { program := "ytakocggclopngaa", sum := "9bd936e8abebd1a827d9c8669ed6b344c4a53d6672ce1afa0f3feb609a6fbfc8", func := "aneroid/aneroidlaw40.MatrixShapes", spec := "matrixShapes", unfollowed := true, recurses := true, named := ["math/bits.divideError", "math/bits.overflowError"], apart := false, narrowed := true }
def MatrixShapesUptoSaid : Prop := matrixShapesUptoRow.holds Try.pinned (OpenSpec.upto matrixShapesSpec)

/-- 'aneroidlaw41.KalmanNew', WHERE WHAT IT READS IS OF BULK AT MOST 1048576: true; the input reads as it did. -/
def kalmanNewUptoRow : OpenClaim := { program := "ytakocggclopngaa", sum := "9bd936e8abebd1a827d9c8669ed6b344c4a53d6672ce1afa0f3feb609a6fbfc8", func := "aneroid/aneroidlaw41.KalmanNew", spec := "kalmanNew", inPlace := ["sync/atomic.LoadInt64", "sync/atomic.StoreUint32", "sync/atomic.AddInt64"], unfollowed := true, recurses := true, named := ["math/bits.divideError", "math/bits.overflowError"], apart := false, narrowed := true }
def KalmanNewUptoSaid : Prop := kalmanNewUptoRow.holds Try.pinned (OpenSpec.upto kalmanNewSpec)

/-- 'aneroidlaw41.KalmanPlays', WHERE WHAT IT READS IS OF BULK AT MOST 1048576: true; the input reads as it did. -/
def kalmanPlaysUptoRow : OpenClaim := { program := "ytakocggclopngaa", sum := "9bd936e8abebd1a827d9c8669ed6b344c4a53d6672ce1afa0f3feb609a6fbfc8", func := "aneroid/aneroidlaw41.KalmanPlays", spec := "kalmanPlays", inPlace := ["sync/atomic.AddInt64", "sync/atomic.StoreUint32", "sync/atomic.LoadInt64"], unfollowed := true, recurses := true, named := ["math/bits.divideError", "math/bits.overflowError"], apart := false, narrowed := true }
def KalmanPlaysUptoSaid : Prop := kalmanPlaysUptoRow.holds Try.pinned (OpenSpec.upto kalmanPlaysSpec)

/-- 'aneroidlaw41.KalmanSure', WHERE WHAT IT READS IS OF BULK AT MOST 1048576: true; the input reads as it did. -/
def kalmanSureUptoRow : OpenClaim := { program := "ytakocggclopngaa", sum := "9bd936e8abebd1a827d9c8669ed6b344c4a53d6672ce1afa0f3feb609a6fbfc8", func := "aneroid/aneroidlaw41.KalmanSure", spec := "kalmanSure", inPlace := ["sync/atomic.AddInt64", "sync/atomic.StoreUint32"], unfollowed := true, recurses := true, named := ["math/bits.divideError", "math/bits.overflowError"], apart := false, narrowed := true }
def KalmanSureUptoSaid : Prop := kalmanSureUptoRow.holds Try.pinned (OpenSpec.upto kalmanSureSpec)

/-- 'aneroidlaw41.KalmanExpected', WHERE WHAT IT READS IS OF BULK AT MOST 1048576: true; the input reads as it did. -/
def kalmanExpectedUptoRow : OpenClaim := { program := "ytakocggclopngaa", sum := "9bd936e8abebd1a827d9c8669ed6b344c4a53d6672ce1afa0f3feb609a6fbfc8", func := "aneroid/aneroidlaw41.KalmanExpected", spec := "kalmanExpected", inPlace := ["sync/atomic.AddInt64", "sync/atomic.StoreUint32"], unfollowed := true, recurses := true, named := ["math/bits.divideError", "math/bits.overflowError"], apart := false, narrowed := true }
def KalmanExpectedUptoSaid : Prop := kalmanExpectedUptoRow.holds Try.pinned (OpenSpec.upto kalmanExpectedSpec)

end Rows
end Go.Proofs.Ytakocggclopngaa
