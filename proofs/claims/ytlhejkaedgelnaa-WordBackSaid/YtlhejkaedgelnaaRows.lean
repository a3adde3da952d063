/-
  No cell of these rows narrows 'for every input' (looked for: loops, veiled, ifaces, maps, wideKeys, modest, calm, conditions, laid).
  DERIVED. THE GIVEN ROWS OF THIS SEAT. 12 by the template 'for every input the law returns true; each argument reads behind the call as it read before'; 0 by the template 'total and deterministic' (their statements: YtlhejkaedgelnaaTotals.lean).
  GIVEN WITH THE SEED: the statements are not yours to turn. If you find one false, say at which input.
  Laid BY PROGRAM, IN A SANDBOX (cutbox-rows.mjs): the forced cells as the released guide's own fill.sh prints them over the translation e0709ad818683787… (all of the seat's roots in one cut). By AI agents, Wed Nov 11 2026. No macro, syntax, notation, axiom, sorry.
-/
import Derived.Test.YtlhejkaedgelnaaChecked
import GoSem.Claim
import GoSem.ClaimJoined
import GoSem.ClaimMapViews
import Derived.JoinedTies
import Derived.KernelRfl
namespace Go.Proofs.Ytlhejkaedgelnaa
/- THE CELL 'sum', in the pinned program and in every row, IS THE sha256 OF THE DUMP (.gsa) THAT YtlhejkaedgelnaaProg.lean LOADS. Nothing in Lean hashes anything: it is a label: what it is worth is what the hold of that sum in a sandbox is worth. -/
noncomputable def Try.pinned : Pinned := { name := "ytlhejkaedgelnaa", sum := "e0709ad818683787986cfe3d6133b4a8e325e4ab714b26dbd0238695da8967bc", checked := Try.checked }
namespace Rows
def none {H : Type} : Left H := { results := [], args := [] }

/-- 'aneroidlaw28.WordShapes': WHATEVER THE INPUT: true; the input reads as it did. -/
def wordShapesSpec : ChangeSpec := { name := "wordShapes", fn := fun _ => fun
  | [d1, d2] => { results := [.lit (.bool true)], args := [d1, d2] }
  | _ => none }
def wordShapesRow : OpenClaim := { program := "ytlhejkaedgelnaa", sum := "e0709ad818683787986cfe3d6133b4a8e325e4ab714b26dbd0238695da8967bc", func := "aneroid/aneroidlaw28.WordShapes", spec := "wordShapes", apart := false }
def WordShapesSaid : Prop := wordShapesRow.holds Try.pinned (OpenSpec.ofChange wordShapesSpec)

/-- ITS FALSE NEIGHBOUR: 'it returns false'. Refute it at one input. -/
def wordShapesWrong : ChangeSpec := { name := "wordShapes", fn := fun _ => fun
  | [d1, d2] => { results := [.lit (.bool false)], args := [d1, d2] }
  | _ => none }
def WordShapesWrongFalsely : Prop := wordShapesRow.holds Try.pinned (OpenSpec.ofChange wordShapesWrong)

/-- 'aneroidlaw28.WordPuts': WHATEVER THE INPUT: true; the input reads as it did. -/
def wordPutsSpec : ChangeSpec := { name := "wordPuts", fn := fun _ => fun
  | [d1, d2, d3] => { results := [.lit (.bool true)], args := [d1, d2, d3] }
  | _ => none }
def wordPutsRow : OpenClaim := { program := "ytlhejkaedgelnaa", sum := "e0709ad818683787986cfe3d6133b4a8e325e4ab714b26dbd0238695da8967bc", func := "aneroid/aneroidlaw28.WordPuts", spec := "wordPuts", named := ["math/bits.divideError", "math/bits.overflowError"], apart := false }
def WordPutsSaid : Prop := wordPutsRow.holds Try.pinned (OpenSpec.ofChange wordPutsSpec)

/-- ITS FALSE NEIGHBOUR: 'it returns false'. Refute it at one input. -/
def wordPutsWrong : ChangeSpec := { name := "wordPuts", fn := fun _ => fun
  | [d1, d2, d3] => { results := [.lit (.bool false)], args := [d1, d2, d3] }
  | _ => none }
def WordPutsWrongFalsely : Prop := wordPutsRow.holds Try.pinned (OpenSpec.ofChange wordPutsWrong)

/-- 'aneroidlaw28.WordTakes': WHATEVER THE INPUT: true; the input reads as it did. -/
def wordTakesSpec : ChangeSpec := { name := "wordTakes", fn := fun _ => fun
  | [d1, d2] => { results := [.lit (.bool true)], args := [d1, d2] }
  | _ => none }
def wordTakesRow : OpenClaim := { program := "ytlhejkaedgelnaa", sum := "e0709ad818683787986cfe3d6133b4a8e325e4ab714b26dbd0238695da8967bc", func := "aneroid/aneroidlaw28.WordTakes", spec := "wordTakes", apart := false }
def WordTakesSaid : Prop := wordTakesRow.holds Try.pinned (OpenSpec.ofChange wordTakesSpec)

/-- ITS FALSE NEIGHBOUR: 'it returns false'. Refute it at one input. -/
def wordTakesWrong : ChangeSpec := { name := "wordTakes", fn := fun _ => fun
  | [d1, d2] => { results := [.lit (.bool false)], args := [d1, d2] }
  | _ => none }
def WordTakesWrongFalsely : Prop := wordTakesRow.holds Try.pinned (OpenSpec.ofChange wordTakesWrong)

/-- 'aneroidlaw28.WordBack': WHATEVER THE INPUT: true; the input reads as it did. -/
def wordBackSpec : ChangeSpec := { name := "wordBack", fn := fun _ => fun
  | [d1, d2, d3] => { results := [.lit (.bool true)], args := [d1, d2, d3] }
  | _ => none }
def wordBackRow : OpenClaim := { program := "ytlhejkaedgelnaa", sum := "e0709ad818683787986cfe3d6133b4a8e325e4ab714b26dbd0238695da8967bc", func := "aneroid/aneroidlaw28.WordBack", spec := "wordBack", named := ["math/bits.divideError", "math/bits.overflowError"], apart := false }
def WordBackSaid : Prop := wordBackRow.holds Try.pinned (OpenSpec.ofChange wordBackSpec)

/-- ITS FALSE NEIGHBOUR: 'it returns false'. Refute it at one input. -/
def wordBackWrong : ChangeSpec := { name := "wordBack", fn := fun _ => fun
  | [d1, d2, d3] => { results := [.lit (.bool false)], args := [d1, d2, d3] }
  | _ => none }
def WordBackWrongFalsely : Prop := wordBackRow.holds Try.pinned (OpenSpec.ofChange wordBackWrong)

/-- 'aneroidlaw28.WordRises': WHATEVER THE INPUT: true; the input reads as it did. -/
def wordRisesSpec : ChangeSpec := { name := "wordRises", fn := fun _ => fun
  | [d1, d2] => { results := [.lit (.bool true)], args := [d1, d2] }
  | _ => none }
def wordRisesRow : OpenClaim := { program := "ytlhejkaedgelnaa", sum := "e0709ad818683787986cfe3d6133b4a8e325e4ab714b26dbd0238695da8967bc", func := "aneroid/aneroidlaw28.WordRises", spec := "wordRises", named := ["math/bits.divideError", "math/bits.overflowError"], apart := false }
def WordRisesSaid : Prop := wordRisesRow.holds Try.pinned (OpenSpec.ofChange wordRisesSpec)

/-- ITS FALSE NEIGHBOUR: 'it returns false'. Refute it at one input. -/
def wordRisesWrong : ChangeSpec := { name := "wordRises", fn := fun _ => fun
  | [d1, d2] => { results := [.lit (.bool false)], args := [d1, d2] }
  | _ => none }
def WordRisesWrongFalsely : Prop := wordRisesRow.holds Try.pinned (OpenSpec.ofChange wordRisesWrong)

/-- 'aneroidlaw35.HullSpans': WHATEVER THE INPUT: true; the input reads as it did. -/
def hullSpansSpec : ChangeSpec := { name := "hullSpans", fn := fun _ => fun
  | [d1, d2, d3] => { results := [.lit (.bool true)], args := [d1, d2, d3] }
  | _ => none }
def hullSpansRow : OpenClaim := { program := "ytlhejkaedgelnaa", sum := "e0709ad818683787986cfe3d6133b4a8e325e4ab714b26dbd0238695da8967bc", func := "aneroid/aneroidlaw35.HullSpans", spec := "hullSpans", apart := false }
def HullSpansSaid : Prop := hullSpansRow.holds Try.pinned (OpenSpec.ofChange hullSpansSpec)

/-- ITS FALSE NEIGHBOUR: 'it returns false'. Refute it at one input. -/
def hullSpansWrong : ChangeSpec := { name := "hullSpans", fn := fun _ => fun
  | [d1, d2, d3] => { results := [.lit (.bool false)], args := [d1, d2, d3] }
  | _ => none }
def HullSpansWrongFalsely : Prop := hullSpansRow.holds Try.pinned (OpenSpec.ofChange hullSpansWrong)

/-- 'aneroidlaw35.HullHolds': WHATEVER THE INPUT: true; the input reads as it did. -/
def hullHoldsSpec : ChangeSpec := { name := "hullHolds", fn := fun _ => fun
  | [d1, d2, d3] => { results := [.lit (.bool true)], args := [d1, d2, d3] }
  | _ => none }
def hullHoldsRow : OpenClaim := { program := "ytlhejkaedgelnaa", sum := "e0709ad818683787986cfe3d6133b4a8e325e4ab714b26dbd0238695da8967bc", func := "aneroid/aneroidlaw35.HullHolds", spec := "hullHolds", inPlace := ["sync/atomic.LoadUint32", "(*internal/sync.Mutex).Lock", "internal/race.Disable", "sync/atomic.CompareAndSwapInt32", "internal/race.Enable", "internal/race.Acquire", "(*internal/sync.Mutex).lockSlow", "internal/sync.runtime_canSpin", "internal/sync.runtime_doSpin", "internal/sync.throw", "internal/sync.runtime_nanotime", "internal/sync.runtime_SemacquireMutex", "sync/atomic.AddInt32", "(*internal/sync.Mutex).Unlock", "internal/race.ReleaseMerge", "(*internal/sync.Mutex).unlockSlow", "internal/sync.fatal", "internal/sync.runtime_Semrelease", "sync/atomic.StoreUint32"], unfollowed := true, recurses := true, named := ["math/bits.divideError", "math/bits.overflowError"], apart := false }
def HullHoldsSaid : Prop := hullHoldsRow.holds Try.pinned (OpenSpec.ofChange hullHoldsSpec)

/-- ITS FALSE NEIGHBOUR: 'it returns false'. Refute it at one input. -/
def hullHoldsWrong : ChangeSpec := { name := "hullHolds", fn := fun _ => fun
  | [d1, d2, d3] => { results := [.lit (.bool false)], args := [d1, d2, d3] }
  | _ => none }
def HullHoldsWrongFalsely : Prop := hullHoldsRow.holds Try.pinned (OpenSpec.ofChange hullHoldsWrong)

/-- 'aneroidlaw50.PhaseAsks': WHATEVER THE INPUT: true; the input reads as it did. -/
def phaseAsksSpec : ChangeSpec := { name := "phaseAsks", fn := fun _ => fun
  | [d1, d2, d3] => { results := [.lit (.bool true)], args := [d1, d2, d3] }
  | _ => none }
def phaseAsksRow : OpenClaim := { program := "ytlhejkaedgelnaa", sum := "e0709ad818683787986cfe3d6133b4a8e325e4ab714b26dbd0238695da8967bc", func := "aneroid/aneroidlaw50.PhaseAsks", spec := "phaseAsks", apart := false }
def PhaseAsksSaid : Prop := phaseAsksRow.holds Try.pinned (OpenSpec.ofChange phaseAsksSpec)

/-- ITS FALSE NEIGHBOUR: 'it returns false'. Refute it at one input. -/
def phaseAsksWrong : ChangeSpec := { name := "phaseAsks", fn := fun _ => fun
  | [d1, d2, d3] => { results := [.lit (.bool false)], args := [d1, d2, d3] }
  | _ => none }
def PhaseAsksWrongFalsely : Prop := phaseAsksRow.holds Try.pinned (OpenSpec.ofChange phaseAsksWrong)

/-- 'aneroidlaw50.PhaseNew': WHATEVER THE INPUT: true; the input reads as it did. -/
def phaseNewSpec : ChangeSpec := { name := "phaseNew", fn := fun _ => fun
  | [d1, d2] => { results := [.lit (.bool true)], args := [d1, d2] }
  | _ => none }
def phaseNewRow : OpenClaim := { program := "ytlhejkaedgelnaa", sum := "e0709ad818683787986cfe3d6133b4a8e325e4ab714b26dbd0238695da8967bc", func := "aneroid/aneroidlaw50.PhaseNew", spec := "phaseNew", apart := false }
def PhaseNewSaid : Prop := phaseNewRow.holds Try.pinned (OpenSpec.ofChange phaseNewSpec)

/-- ITS FALSE NEIGHBOUR: 'it returns false'. Refute it at one input. -/
def phaseNewWrong : ChangeSpec := { name := "phaseNew", fn := fun _ => fun
  | [d1, d2] => { results := [.lit (.bool false)], args := [d1, d2] }
  | _ => none }
def PhaseNewWrongFalsely : Prop := phaseNewRow.holds Try.pinned (OpenSpec.ofChange phaseNewWrong)

/-- 'aneroidlaw50.PhaseSteps': WHATEVER THE INPUT: true; the input reads as it did. -/
def phaseStepsSpec : ChangeSpec := { name := "phaseSteps", fn := fun _ => fun
  | [d1, d2] => { results := [.lit (.bool true)], args := [d1, d2] }
  | _ => none }
def phaseStepsRow : OpenClaim := { program := "ytlhejkaedgelnaa", sum := "e0709ad818683787986cfe3d6133b4a8e325e4ab714b26dbd0238695da8967bc", func := "aneroid/aneroidlaw50.PhaseSteps", spec := "phaseSteps", apart := false }
def PhaseStepsSaid : Prop := phaseStepsRow.holds Try.pinned (OpenSpec.ofChange phaseStepsSpec)

/-- ITS FALSE NEIGHBOUR: 'it returns false'. Refute it at one input. -/
def phaseStepsWrong : ChangeSpec := { name := "phaseSteps", fn := fun _ => fun
  | [d1, d2] => { results := [.lit (.bool false)], args := [d1, d2] }
  | _ => none }
def PhaseStepsWrongFalsely : Prop := phaseStepsRow.holds Try.pinned (OpenSpec.ofChange phaseStepsWrong)

/-- 'aneroidlaw50.PhaseOrder': WHATEVER THE INPUT: true; the input reads as it did. -/
def phaseOrderSpec : ChangeSpec := { name := "phaseOrder", fn := fun _ => fun
  | [d1, d2] => { results := [.lit (.bool true)], args := [d1, d2] }
  | _ => none }
def phaseOrderRow : OpenClaim := { program := "ytlhejkaedgelnaa", sum := "e0709ad818683787986cfe3d6133b4a8e325e4ab714b26dbd0238695da8967bc", func := "aneroid/aneroidlaw50.PhaseOrder", spec := "phaseOrder", apart := false }
def PhaseOrderSaid : Prop := phaseOrderRow.holds Try.pinned (OpenSpec.ofChange phaseOrderSpec)

/-- ITS FALSE NEIGHBOUR: 'it returns false'. Refute it at one input. -/
def phaseOrderWrong : ChangeSpec := { name := "phaseOrder", fn := fun _ => fun
  | [d1, d2] => { results := [.lit (.bool false)], args := [d1, d2] }
  | _ => none }
def PhaseOrderWrongFalsely : Prop := phaseOrderRow.holds Try.pinned (OpenSpec.ofChange phaseOrderWrong)

/-- 'aneroidlaw50.PhaseSteady': WHATEVER THE INPUT: true; the input reads as it did. -/
def phaseSteadySpec : ChangeSpec := { name := "phaseSteady", fn := fun _ => fun
  | [d1, d2, d3] => { results := [.lit (.bool true)], args := [d1, d2, d3] }
  | _ => none }
def phaseSteadyRow : OpenClaim := { program := "ytlhejkaedgelnaa", sum := "e0709ad818683787986cfe3d6133b4a8e325e4ab714b26dbd0238695da8967bc", func := "aneroid/aneroidlaw50.PhaseSteady", spec := "phaseSteady", apart := false }
def PhaseSteadySaid : Prop := phaseSteadyRow.holds Try.pinned (OpenSpec.ofChange phaseSteadySpec)

/-- ITS FALSE NEIGHBOUR: 'it returns false'. Refute it at one input. -/
def phaseSteadyWrong : ChangeSpec := { name := "phaseSteady", fn := fun _ => fun
  | [d1, d2, d3] => { results := [.lit (.bool false)], args := [d1, d2, d3] }
  | _ => none }
def PhaseSteadyWrongFalsely : Prop := phaseSteadyRow.holds Try.pinned (OpenSpec.ofChange phaseSteadyWrong)

/- THE SECOND FORM. 'bulk': how many values and letters a reading holds, each counted each time it is reached (what is shared counts as often as it is met; a slice's spare places count too). A statement '..UptoSaid' is the law's where the arguments, and the package variables that the reading takes, are together of bulk at most 1048576: NARROWER than '..Said'. Prove '..Said' where nothing that the law and all that it calls make is longer than what came in: it says more and counts as full. Else prove '..UptoSaid'. A law counts once. -/
mutual
def uptoBulk {H : Type} : DataW H → Nat
  | .lit (.string bytes) => bytes.length + 1
  | .lit _ => 1
  | .nil => 1
  | .ptr d => uptoBulk d + 1
  | .slice elems spare => uptoBulkAll elems + uptoBulkAll spare + 1
  | .agg parts => uptoBulkAll parts + 1
  | .iface _ d => uptoBulk d + 1
  | .map entries => uptoBulkEntries entries + 1
  | .held _ => 1
def uptoBulkAll {H : Type} : List (DataW H) → Nat
  | [] => 0
  | d :: r => uptoBulk d + uptoBulkAll r
def uptoBulkEntries {H : Type} : List (Lit × DataW H) → Nat
  | [] => 0
  | x :: r => uptoBulkEntry x + uptoBulkEntries r
def uptoBulkEntry {H : Type} : Lit × DataW H → Nat
  | (.string bytes, d) => bytes.length + uptoBulk d + 1
  | (_, d) => uptoBulk d + 1
 end
def uptoSmall : (H : Type) → List (DataW H) → Bool := fun _ ds => decide (uptoBulkAll ds ≤ 1048576)
def OpenSpec.upto (s : _root_.Go.ChangeSpec) : _root_.Go.OpenSpec := { _root_.Go.OpenSpec.ofChange s with cond := some uptoSmall }

/-- 'aneroidlaw28.WordShapes', WHERE WHAT IT READS IS OF BULK AT MOST 1048576: true; the input reads as it did. -/
def wordShapesUptoRow : OpenClaim := { program := "ytlhejkaedgelnaa", sum := "e0709ad818683787986cfe3d6133b4a8e325e4ab714b26dbd0238695da8967bc", func := "aneroid/aneroidlaw28.WordShapes", spec := "wordShapes", apart := false, narrowed := true }
def WordShapesUptoSaid : Prop := wordShapesUptoRow.holds Try.pinned (OpenSpec.upto wordShapesSpec)

/-- 'aneroidlaw28.WordPuts', WHERE WHAT IT READS IS OF BULK AT MOST 1048576: true; the input reads as it did. -/
def wordPutsUptoRow : OpenClaim := { program := "ytlhejkaedgelnaa", sum := "e0709ad818683787986cfe3d6133b4a8e325e4ab714b26dbd0238695da8967bc", func := "aneroid/aneroidlaw28.WordPuts", spec := "wordPuts", named := ["math/bits.divideError", "math/bits.overflowError"], apart := false, narrowed := true }
def WordPutsUptoSaid : Prop := wordPutsUptoRow.holds Try.pinned (OpenSpec.upto wordPutsSpec)

/-- 'aneroidlaw28.WordTakes', WHERE WHAT IT READS IS OF BULK AT MOST 1048576: true; the input reads as it did. -/
def wordTakesUptoRow : OpenClaim := { program := "ytlhejkaedgelnaa", sum := "e0709ad818683787986cfe3d6133b4a8e325e4ab714b26dbd0238695da8967bc", func := "aneroid/aneroidlaw28.WordTakes", spec := "wordTakes", apart := false, narrowed := true }
def WordTakesUptoSaid : Prop := wordTakesUptoRow.holds Try.pinned (OpenSpec.upto wordTakesSpec)

/-- 'aneroidlaw28.WordBack', WHERE WHAT IT READS IS OF BULK AT MOST 1048576: true; the input reads as it did. -/
def wordBackUptoRow : OpenClaim := { program := "ytlhejkaedgelnaa", sum := "e0709ad818683787986cfe3d6133b4a8e325e4ab714b26dbd0238695da8967bc", func := "aneroid/aneroidlaw28.WordBack", spec := "wordBack", named := ["math/bits.divideError", "math/bits.overflowError"], apart := false, narrowed := true }
def WordBackUptoSaid : Prop := wordBackUptoRow.holds Try.pinned (OpenSpec.upto wordBackSpec)

/-- 'aneroidlaw28.WordRises', WHERE WHAT IT READS IS OF BULK AT MOST 1048576: true; the input reads as it did. -/
def wordRisesUptoRow : OpenClaim := { program := "ytlhejkaedgelnaa", sum := "e0709ad818683787986cfe3d6133b4a8e325e4ab714b26dbd0238695da8967bc", func := "aneroid/aneroidlaw28.WordRises", spec := "wordRises", named := ["math/bits.divideError", "math/bits.overflowError"], apart := false, narrowed := true }
def WordRisesUptoSaid : Prop := wordRisesUptoRow.holds Try.pinned (OpenSpec.upto wordRisesSpec)

/-- 'aneroidlaw35.HullSpans', WHERE WHAT IT READS IS OF BULK AT MOST 1048576: true; the input reads as it did. -/
def hullSpansUptoRow : OpenClaim := { program := "ytlhejkaedgelnaa", sum := "e0709ad818683787986cfe3d6133b4a8e325e4ab714b26dbd0238695da8967bc", func := "aneroid/aneroidlaw35.HullSpans", spec := "hullSpans", apart := false, narrowed := true }
def HullSpansUptoSaid : Prop := hullSpansUptoRow.holds Try.pinned (OpenSpec.upto hullSpansSpec)

/-- 'aneroidlaw35.HullHolds', WHERE WHAT IT READS IS OF BULK AT MOST 1048576: true; the input reads as it did. -/
def hullHoldsUptoRow : OpenClaim := { program := "ytlhejkaedgelnaa", sum := "e0709ad818683787986cfe3d6133b4a8e325e4ab714b26dbd0238695da8967bc", func := "aneroid/aneroidlaw35.HullHolds", spec := "hullHolds", inPlace := ["sync/atomic.LoadUint32", "(*internal/sync.Mutex).Lock", "internal/race.Disable", "sync/atomic.CompareAndSwapInt32", "internal/race.Enable", "internal/race.Acquire", "(*internal/sync.Mutex).lockSlow", "internal/sync.runtime_canSpin", "internal/sync.runtime_doSpin", "internal/sync.throw", "internal/sync.runtime_nanotime", "internal/sync.runtime_SemacquireMutex", "sync/atomic.AddInt32", "(*internal/sync.Mutex).Unlock", "internal/race.ReleaseMerge", "(*internal/sync.Mutex).unlockSlow", "internal/sync.fatal", "internal/sync.runtime_Semrelease", "sync/atomic.StoreUint32"], unfollowed := true, recurses := true, named := ["math/bits.divideError", "math/bits.overflowError"], apart := false, narrowed := true }
def HullHoldsUptoSaid : Prop := hullHoldsUptoRow.holds Try.pinned (OpenSpec.upto hullHoldsSpec)

/-- 'aneroidlaw50.PhaseAsks', WHERE WHAT IT READS IS OF BULK AT MOST 1048576: true; the input reads as it did. -/
def phaseAsksUptoRow : OpenClaim := { program := "ytlhejkaedgelnaa", sum := "e0709ad818683787986cfe3d6133b4a8e325e4ab714b26dbd0238695da8967bc", func := "aneroid/aneroidlaw50.PhaseAsks", spec := "phaseAsks", apart := false, narrowed := true }
def PhaseAsksUptoSaid : Prop := phaseAsksUptoRow.holds Try.pinned (OpenSpec.upto phaseAsksSpec)

/-- 'aneroidlaw50.PhaseNew', WHERE WHAT IT READS IS OF BULK AT MOST 1048576: true; the input reads as it did. -/
def phaseNewUptoRow : OpenClaim := { program := "ytlhejkaedgelnaa", sum := "e0709ad818683787986cfe3d6133b4a8e325e4ab714b26dbd0238695da8967bc", func := "aneroid/aneroidlaw50.PhaseNew", spec := "phaseNew", apart := false, narrowed := true }
def PhaseNewUptoSaid : Prop := phaseNewUptoRow.holds Try.pinned (OpenSpec.upto phaseNewSpec)

/-- 'aneroidlaw50.PhaseSteps', WHERE WHAT IT READS IS OF BULK AT MOST 1048576: true; the input reads as it did. -/
def phaseStepsUptoRow : OpenClaim := { program := "ytlhejkaedgelnaa", sum := "e0709ad818683787986cfe3d6133b4a8e325e4ab714b26dbd0238695da8967bc", func := "aneroid/aneroidlaw50.PhaseSteps", spec := "phaseSteps", apart := false, narrowed := true }
def PhaseStepsUptoSaid : Prop := phaseStepsUptoRow.holds Try.pinned (OpenSpec.upto phaseStepsSpec)

/-- 'aneroidlaw50.PhaseOrder', WHERE WHAT IT READS IS OF BULK AT MOST 1048576: true; the input reads as it did. -/
def phaseOrderUptoRow : OpenClaim := { program := "ytlhejkaedgelnaa", sum := "e0709ad818683787986cfe3d6133b4a8e325e4ab714b26dbd0238695da8967bc", func := "aneroid/aneroidlaw50.PhaseOrder", spec := "phaseOrder", apart := false, narrowed := true }
def PhaseOrderUptoSaid : Prop := phaseOrderUptoRow.holds Try.pinned (OpenSpec.upto phaseOrderSpec)

/-- 'aneroidlaw50.PhaseSteady', WHERE WHAT IT READS IS OF BULK AT MOST 1048576: true; the input reads as it did. -/
def phaseSteadyUptoRow : OpenClaim := { program := "ytlhejkaedgelnaa", sum := "e0709ad818683787986cfe3d6133b4a8e325e4ab714b26dbd0238695da8967bc", func := "aneroid/aneroidlaw50.PhaseSteady", spec := "phaseSteady", apart := false, narrowed := true }
def PhaseSteadyUptoSaid : Prop := phaseSteadyUptoRow.holds Try.pinned (OpenSpec.upto phaseSteadySpec)

end Rows
end Go.Proofs.Ytlhejkaedgelnaa
