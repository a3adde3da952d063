/-
  No cell of these rows narrows 'for every input' (looked for: loops, veiled, ifaces, maps, wideKeys, modest, calm, conditions, laid).
  DERIVED. THE GIVEN ROWS OF THIS SEAT. 12 by the template 'for every input the law returns true; each argument reads behind the call as it read before'; 0 by the template 'total and deterministic' (their statements: YtlgiefdhjhijaaaTotals.lean).
  GIVEN WITH THE SEED: the statements are not yours to turn. If you find one false, say at which input.
  Laid BY PROGRAM, IN A SANDBOX (cutbox-rows.mjs): the forced cells as the released guide's own fill.sh prints them over the translation 9d1eed9ad74f8139… (all of the seat's roots in one cut). By AI agents, Wed Nov 11 2026. No macro, syntax, notation, axiom, sorry.
-/
import Derived.Test.YtlgiefdhjhijaaaChecked
import GoSem.Claim
import GoSem.ClaimJoined
import GoSem.ClaimMapViews
import Derived.JoinedTies
import Derived.KernelRfl
namespace Go.Proofs.Ytlgiefdhjhijaaa
/- THE CELL 'sum', in the pinned program and in every row, IS THE sha256 OF THE DUMP (.gsa) THAT YtlgiefdhjhijaaaProg.lean LOADS. Nothing in Lean hashes anything: it is a label: what it is worth is what the hold of that sum in a sandbox is worth. -/
noncomputable def Try.pinned : Pinned := { name := "ytlgiefdhjhijaaa", sum := "9d1eed9ad74f8139d6dd2bc539d4508cb73bb168a3acc394ba0db9390a99c0d9", checked := Try.checked }
namespace Rows
def none {H : Type} : Left H := { results := [], args := [] }

/-- 'aneroidlaw07.AirSteps': WHATEVER THE INPUT: true; the input reads as it did. -/
def airStepsSpec : ChangeSpec := { name := "airSteps", fn := fun _ => fun
  | [d1, d2] => { results := [.lit (.bool true)], args := [d1, d2] }
  | _ => none }
def airStepsRow : OpenClaim := { program := "ytlgiefdhjhijaaa", sum := "9d1eed9ad74f8139d6dd2bc539d4508cb73bb168a3acc394ba0db9390a99c0d9", func := "aneroid/aneroidlaw07.AirSteps", spec := "airSteps", inPlace := ["sync/atomic.LoadUint32", "(*internal/sync.Mutex).Lock", "internal/race.Disable", "sync/atomic.CompareAndSwapInt32", "internal/race.Enable", "internal/race.Acquire", "(*internal/sync.Mutex).lockSlow", "internal/sync.runtime_canSpin", "internal/sync.runtime_doSpin", "internal/sync.throw", "internal/sync.runtime_nanotime", "internal/sync.runtime_SemacquireMutex", "sync/atomic.AddInt32", "(*internal/sync.Mutex).Unlock", "internal/race.ReleaseMerge", "(*internal/sync.Mutex).unlockSlow", "internal/sync.fatal", "internal/sync.runtime_Semrelease", "sync/atomic.StoreUint32"], unfollowed := true, recurses := true, named := ["math/bits.divideError", "math/bits.overflowError"], apart := false }
def AirStepsSaid : Prop := airStepsRow.holds Try.pinned (OpenSpec.ofChange airStepsSpec)

/-- ITS FALSE NEIGHBOUR: 'it returns false'. Refute it at one input. -/
def airStepsWrong : ChangeSpec := { name := "airSteps", fn := fun _ => fun
  | [d1, d2] => { results := [.lit (.bool false)], args := [d1, d2] }
  | _ => none }
def AirStepsWrongFalsely : Prop := airStepsRow.holds Try.pinned (OpenSpec.ofChange airStepsWrong)

/-- 'aneroidlaw07.AirPressures': WHATEVER THE INPUT: true; the input reads as it did. -/
def airPressuresSpec : ChangeSpec := { name := "airPressures", fn := fun _ => fun
  | [d] => { results := [.lit (.bool true)], args := [d] }
  | _ => none }
def airPressuresRow : OpenClaim := { program := "ytlgiefdhjhijaaa", sum := "9d1eed9ad74f8139d6dd2bc539d4508cb73bb168a3acc394ba0db9390a99c0d9", func := "aneroid/aneroidlaw07.AirPressures", spec := "airPressures", inPlace := ["sync/atomic.LoadUint32", "(*internal/sync.Mutex).Lock", "internal/race.Disable", "sync/atomic.CompareAndSwapInt32", "internal/race.Enable", "internal/race.Acquire", "(*internal/sync.Mutex).lockSlow", "internal/sync.runtime_canSpin", "internal/sync.runtime_doSpin", "internal/sync.throw", "internal/sync.runtime_nanotime", "internal/sync.runtime_SemacquireMutex", "sync/atomic.AddInt32", "(*internal/sync.Mutex).Unlock", "internal/race.ReleaseMerge", "(*internal/sync.Mutex).unlockSlow", "internal/sync.fatal", "internal/sync.runtime_Semrelease", "sync/atomic.StoreUint32"], unfollowed := true, recurses := true, named := ["math/bits.divideError", "math/bits.overflowError"], apart := false }
def AirPressuresSaid : Prop := airPressuresRow.holds Try.pinned (OpenSpec.ofChange airPressuresSpec)

/-- ITS FALSE NEIGHBOUR: 'it returns false'. Refute it at one input. -/
def airPressuresWrong : ChangeSpec := { name := "airPressures", fn := fun _ => fun
  | [d] => { results := [.lit (.bool false)], args := [d] }
  | _ => none }
def AirPressuresWrongFalsely : Prop := airPressuresRow.holds Try.pinned (OpenSpec.ofChange airPressuresWrong)

/-- 'aneroidlaw07.AirHeights': WHATEVER THE INPUT: true; the input reads as it did. -/
def airHeightsSpec : ChangeSpec := { name := "airHeights", fn := fun _ => fun
  | [d] => { results := [.lit (.bool true)], args := [d] }
  | _ => none }
def airHeightsRow : OpenClaim := { program := "ytlgiefdhjhijaaa", sum := "9d1eed9ad74f8139d6dd2bc539d4508cb73bb168a3acc394ba0db9390a99c0d9", func := "aneroid/aneroidlaw07.AirHeights", spec := "airHeights", inPlace := ["sync/atomic.LoadUint32", "(*internal/sync.Mutex).Lock", "internal/race.Disable", "sync/atomic.CompareAndSwapInt32", "internal/race.Enable", "internal/race.Acquire", "(*internal/sync.Mutex).lockSlow", "internal/sync.runtime_canSpin", "internal/sync.runtime_doSpin", "internal/sync.throw", "internal/sync.runtime_nanotime", "internal/sync.runtime_SemacquireMutex", "sync/atomic.AddInt32", "(*internal/sync.Mutex).Unlock", "internal/race.ReleaseMerge", "(*internal/sync.Mutex).unlockSlow", "internal/sync.fatal", "internal/sync.runtime_Semrelease", "sync/atomic.StoreUint32"], unfollowed := true, recurses := true, named := ["math/bits.divideError", "math/bits.overflowError"], apart := false }
def AirHeightsSaid : Prop := airHeightsRow.holds Try.pinned (OpenSpec.ofChange airHeightsSpec)

/-- ITS FALSE NEIGHBOUR: 'it returns false'. Refute it at one input. -/
def airHeightsWrong : ChangeSpec := { name := "airHeights", fn := fun _ => fun
  | [d] => { results := [.lit (.bool false)], args := [d] }
  | _ => none }
def AirHeightsWrongFalsely : Prop := airHeightsRow.holds Try.pinned (OpenSpec.ofChange airHeightsWrong)

/-- 'aneroidlaw07.AirFalls': WHATEVER THE INPUT: true; the input reads as it did. -/
def airFallsSpec : ChangeSpec := { name := "airFalls", fn := fun _ => fun
  | [d1, d2] => { results := [.lit (.bool true)], args := [d1, d2] }
  | _ => none }
def airFallsRow : OpenClaim := { program := "ytlgiefdhjhijaaa", sum := "9d1eed9ad74f8139d6dd2bc539d4508cb73bb168a3acc394ba0db9390a99c0d9", func := "aneroid/aneroidlaw07.AirFalls", spec := "airFalls", inPlace := ["sync/atomic.LoadUint32", "(*internal/sync.Mutex).Lock", "internal/race.Disable", "sync/atomic.CompareAndSwapInt32", "internal/race.Enable", "internal/race.Acquire", "(*internal/sync.Mutex).lockSlow", "internal/sync.runtime_canSpin", "internal/sync.runtime_doSpin", "internal/sync.throw", "internal/sync.runtime_nanotime", "internal/sync.runtime_SemacquireMutex", "sync/atomic.AddInt32", "(*internal/sync.Mutex).Unlock", "internal/race.ReleaseMerge", "(*internal/sync.Mutex).unlockSlow", "internal/sync.fatal", "internal/sync.runtime_Semrelease", "sync/atomic.StoreUint32"], unfollowed := true, recurses := true, named := ["math/bits.divideError", "math/bits.overflowError"], apart := false }
def AirFallsSaid : Prop := airFallsRow.holds Try.pinned (OpenSpec.ofChange airFallsSpec)

/-- ITS FALSE NEIGHBOUR: 'it returns false'. Refute it at one input. -/
def airFallsWrong : ChangeSpec := { name := "airFalls", fn := fun _ => fun
  | [d1, d2] => { results := [.lit (.bool false)], args := [d1, d2] }
  | _ => none }
def AirFallsWrongFalsely : Prop := airFallsRow.holds Try.pinned (OpenSpec.ofChange airFallsWrong)

/-- 'aneroidlaw07.AirBack': WHATEVER THE INPUT: true; the input reads as it did. -/
def airBackSpec : ChangeSpec := { name := "airBack", fn := fun _ => fun
  | [d1, d2] => { results := [.lit (.bool true)], args := [d1, d2] }
  | _ => none }
def airBackRow : OpenClaim := { program := "ytlgiefdhjhijaaa", sum := "9d1eed9ad74f8139d6dd2bc539d4508cb73bb168a3acc394ba0db9390a99c0d9", func := "aneroid/aneroidlaw07.AirBack", spec := "airBack", inPlace := ["sync/atomic.LoadUint32", "(*internal/sync.Mutex).Lock", "internal/race.Disable", "sync/atomic.CompareAndSwapInt32", "internal/race.Enable", "internal/race.Acquire", "(*internal/sync.Mutex).lockSlow", "internal/sync.runtime_canSpin", "internal/sync.runtime_doSpin", "internal/sync.throw", "internal/sync.runtime_nanotime", "internal/sync.runtime_SemacquireMutex", "sync/atomic.AddInt32", "(*internal/sync.Mutex).Unlock", "internal/race.ReleaseMerge", "(*internal/sync.Mutex).unlockSlow", "internal/sync.fatal", "internal/sync.runtime_Semrelease", "sync/atomic.StoreUint32"], unfollowed := true, recurses := true, named := ["math/bits.divideError", "math/bits.overflowError"], apart := false }
def AirBackSaid : Prop := airBackRow.holds Try.pinned (OpenSpec.ofChange airBackSpec)

/-- ITS FALSE NEIGHBOUR: 'it returns false'. Refute it at one input. -/
def airBackWrong : ChangeSpec := { name := "airBack", fn := fun _ => fun
  | [d1, d2] => { results := [.lit (.bool false)], args := [d1, d2] }
  | _ => none }
def AirBackWrongFalsely : Prop := airBackRow.holds Try.pinned (OpenSpec.ofChange airBackWrong)

/-- 'aneroidlaw11.BaroCorrects': WHATEVER THE INPUT: true; the input reads as it did. -/
def baroCorrectsSpec : ChangeSpec := { name := "baroCorrects", fn := fun _ => fun
  | [d1, d2] => { results := [.lit (.bool true)], args := [d1, d2] }
  | _ => none }
def baroCorrectsRow : OpenClaim := { program := "ytlgiefdhjhijaaa", sum := "9d1eed9ad74f8139d6dd2bc539d4508cb73bb168a3acc394ba0db9390a99c0d9", func := "aneroid/aneroidlaw11.BaroCorrects", spec := "baroCorrects", inPlace := ["sync/atomic.LoadUint32", "(*internal/sync.Mutex).Lock", "internal/race.Disable", "sync/atomic.CompareAndSwapInt32", "internal/race.Enable", "internal/race.Acquire", "(*internal/sync.Mutex).lockSlow", "internal/sync.runtime_canSpin", "internal/sync.runtime_doSpin", "internal/sync.throw", "internal/sync.runtime_nanotime", "internal/sync.runtime_SemacquireMutex", "sync/atomic.AddInt32", "(*internal/sync.Mutex).Unlock", "internal/race.ReleaseMerge", "(*internal/sync.Mutex).unlockSlow", "internal/sync.fatal", "internal/sync.runtime_Semrelease", "sync/atomic.StoreUint32"], unfollowed := true, recurses := true, named := ["math/bits.divideError", "math/bits.overflowError"], apart := false }
def BaroCorrectsSaid : Prop := baroCorrectsRow.holds Try.pinned (OpenSpec.ofChange baroCorrectsSpec)

/-- ITS FALSE NEIGHBOUR: 'it returns false'. Refute it at one input. -/
def baroCorrectsWrong : ChangeSpec := { name := "baroCorrects", fn := fun _ => fun
  | [d1, d2] => { results := [.lit (.bool false)], args := [d1, d2] }
  | _ => none }
def BaroCorrectsWrongFalsely : Prop := baroCorrectsRow.holds Try.pinned (OpenSpec.ofChange baroCorrectsWrong)

/-- 'aneroidlaw11.BaroSets': WHATEVER THE INPUT: true; the input reads as it did. -/
def baroSetsSpec : ChangeSpec := { name := "baroSets", fn := fun _ => fun
  | [d1, d2] => { results := [.lit (.bool true)], args := [d1, d2] }
  | _ => none }
def baroSetsRow : OpenClaim := { program := "ytlgiefdhjhijaaa", sum := "9d1eed9ad74f8139d6dd2bc539d4508cb73bb168a3acc394ba0db9390a99c0d9", func := "aneroid/aneroidlaw11.BaroSets", spec := "baroSets", inPlace := ["sync/atomic.LoadUint32", "(*internal/sync.Mutex).Lock", "internal/race.Disable", "sync/atomic.CompareAndSwapInt32", "internal/race.Enable", "internal/race.Acquire", "(*internal/sync.Mutex).lockSlow", "internal/sync.runtime_canSpin", "internal/sync.runtime_doSpin", "internal/sync.throw", "internal/sync.runtime_nanotime", "internal/sync.runtime_SemacquireMutex", "sync/atomic.AddInt32", "(*internal/sync.Mutex).Unlock", "internal/race.ReleaseMerge", "(*internal/sync.Mutex).unlockSlow", "internal/sync.fatal", "internal/sync.runtime_Semrelease", "sync/atomic.StoreUint32"], unfollowed := true, recurses := true, named := ["math/bits.divideError", "math/bits.overflowError"], apart := false }
def BaroSetsSaid : Prop := baroSetsRow.holds Try.pinned (OpenSpec.ofChange baroSetsSpec)

/-- ITS FALSE NEIGHBOUR: 'it returns false'. Refute it at one input. -/
def baroSetsWrong : ChangeSpec := { name := "baroSets", fn := fun _ => fun
  | [d1, d2] => { results := [.lit (.bool false)], args := [d1, d2] }
  | _ => none }
def BaroSetsWrongFalsely : Prop := baroSetsRow.holds Try.pinned (OpenSpec.ofChange baroSetsWrong)

/-- 'aneroidlaw11.BaroRises': WHATEVER THE INPUT: true; the input reads as it did. -/
def baroRisesSpec : ChangeSpec := { name := "baroRises", fn := fun _ => fun
  | [d1, d2, d3] => { results := [.lit (.bool true)], args := [d1, d2, d3] }
  | _ => none }
def baroRisesRow : OpenClaim := { program := "ytlgiefdhjhijaaa", sum := "9d1eed9ad74f8139d6dd2bc539d4508cb73bb168a3acc394ba0db9390a99c0d9", func := "aneroid/aneroidlaw11.BaroRises", spec := "baroRises", inPlace := ["sync/atomic.LoadUint32", "(*internal/sync.Mutex).Lock", "internal/race.Disable", "sync/atomic.CompareAndSwapInt32", "internal/race.Enable", "internal/race.Acquire", "(*internal/sync.Mutex).lockSlow", "internal/sync.runtime_canSpin", "internal/sync.runtime_doSpin", "internal/sync.throw", "internal/sync.runtime_nanotime", "internal/sync.runtime_SemacquireMutex", "sync/atomic.AddInt32", "(*internal/sync.Mutex).Unlock", "internal/race.ReleaseMerge", "(*internal/sync.Mutex).unlockSlow", "internal/sync.fatal", "internal/sync.runtime_Semrelease", "sync/atomic.StoreUint32"], unfollowed := true, recurses := true, named := ["math/bits.divideError", "math/bits.overflowError"], apart := false }
def BaroRisesSaid : Prop := baroRisesRow.holds Try.pinned (OpenSpec.ofChange baroRisesSpec)

/-- ITS FALSE NEIGHBOUR: 'it returns false'. Refute it at one input. -/
def baroRisesWrong : ChangeSpec := { name := "baroRises", fn := fun _ => fun
  | [d1, d2, d3] => { results := [.lit (.bool false)], args := [d1, d2, d3] }
  | _ => none }
def BaroRisesWrongFalsely : Prop := baroRisesRow.holds Try.pinned (OpenSpec.ofChange baroRisesWrong)

/-- 'aneroidlaw19.HydroNew': WHATEVER THE INPUT: true; the input reads as it did. -/
def hydroNewSpec : ChangeSpec := { name := "hydroNew", fn := fun _ => fun
  | [d1, d2, d3] => { results := [.lit (.bool true)], args := [d1, d2, d3] }
  | _ => none }
def hydroNewRow : OpenClaim := { program := "ytlgiefdhjhijaaa", sum := "9d1eed9ad74f8139d6dd2bc539d4508cb73bb168a3acc394ba0db9390a99c0d9", func := "aneroid/aneroidlaw19.HydroNew", spec := "hydroNew", inPlace := ["sync/atomic.LoadUint32", "(*internal/sync.Mutex).Lock", "internal/race.Disable", "sync/atomic.CompareAndSwapInt32", "internal/race.Enable", "internal/race.Acquire", "(*internal/sync.Mutex).lockSlow", "internal/sync.runtime_canSpin", "internal/sync.runtime_doSpin", "internal/sync.throw", "internal/sync.runtime_nanotime", "internal/sync.runtime_SemacquireMutex", "sync/atomic.AddInt32", "(*internal/sync.Mutex).Unlock", "internal/race.ReleaseMerge", "(*internal/sync.Mutex).unlockSlow", "internal/sync.fatal", "internal/sync.runtime_Semrelease", "sync/atomic.StoreUint32"], unfollowed := true, recurses := true, named := ["math/bits.divideError", "math/bits.overflowError"], apart := false }
def HydroNewSaid : Prop := hydroNewRow.holds Try.pinned (OpenSpec.ofChange hydroNewSpec)

/-- ITS FALSE NEIGHBOUR: 'it returns false'. Refute it at one input. -/
def hydroNewWrong : ChangeSpec := { name := "hydroNew", fn := fun _ => fun
  | [d1, d2, d3] => { results := [.lit (.bool false)], args := [d1, d2, d3] }
  | _ => none }
def HydroNewWrongFalsely : Prop := hydroNewRow.holds Try.pinned (OpenSpec.ofChange hydroNewWrong)

/-- 'aneroidlaw19.HydroLearns': WHATEVER THE INPUT: true; the input reads as it did. -/
def hydroLearnsSpec : ChangeSpec := { name := "hydroLearns", fn := fun _ => fun
  | [d1, d2, d3] => { results := [.lit (.bool true)], args := [d1, d2, d3] }
  | _ => none }
def hydroLearnsRow : OpenClaim := { program := "ytlgiefdhjhijaaa", sum := "9d1eed9ad74f8139d6dd2bc539d4508cb73bb168a3acc394ba0db9390a99c0d9", func := "aneroid/aneroidlaw19.HydroLearns", spec := "hydroLearns", inPlace := ["sync/atomic.LoadUint32", "(*internal/sync.Mutex).Lock", "internal/race.Disable", "sync/atomic.CompareAndSwapInt32", "internal/race.Enable", "internal/race.Acquire", "(*internal/sync.Mutex).lockSlow", "internal/sync.runtime_canSpin", "internal/sync.runtime_doSpin", "internal/sync.throw", "internal/sync.runtime_nanotime", "internal/sync.runtime_SemacquireMutex", "sync/atomic.AddInt32", "(*internal/sync.Mutex).Unlock", "internal/race.ReleaseMerge", "(*internal/sync.Mutex).unlockSlow", "internal/sync.fatal", "internal/sync.runtime_Semrelease", "sync/atomic.StoreUint32"], unfollowed := true, recurses := true, named := ["math/bits.divideError", "math/bits.overflowError"], apart := false }
def HydroLearnsSaid : Prop := hydroLearnsRow.holds Try.pinned (OpenSpec.ofChange hydroLearnsSpec)

/-- ITS FALSE NEIGHBOUR: 'it returns false'. Refute it at one input. -/
def hydroLearnsWrong : ChangeSpec := { name := "hydroLearns", fn := fun _ => fun
  | [d1, d2, d3] => { results := [.lit (.bool false)], args := [d1, d2, d3] }
  | _ => none }
def HydroLearnsWrongFalsely : Prop := hydroLearnsRow.holds Try.pinned (OpenSpec.ofChange hydroLearnsWrong)

/-- 'aneroidlaw19.HydroBetween': WHATEVER THE INPUT: true; the input reads as it did. -/
def hydroBetweenSpec : ChangeSpec := { name := "hydroBetween", fn := fun _ => fun
  | [d1, d2] => { results := [.lit (.bool true)], args := [d1, d2] }
  | _ => none }
def hydroBetweenRow : OpenClaim := { program := "ytlgiefdhjhijaaa", sum := "9d1eed9ad74f8139d6dd2bc539d4508cb73bb168a3acc394ba0db9390a99c0d9", func := "aneroid/aneroidlaw19.HydroBetween", spec := "hydroBetween", apart := false }
def HydroBetweenSaid : Prop := hydroBetweenRow.holds Try.pinned (OpenSpec.ofChange hydroBetweenSpec)

/-- ITS FALSE NEIGHBOUR: 'it returns false'. Refute it at one input. -/
def hydroBetweenWrong : ChangeSpec := { name := "hydroBetween", fn := fun _ => fun
  | [d1, d2] => { results := [.lit (.bool false)], args := [d1, d2] }
  | _ => none }
def HydroBetweenWrongFalsely : Prop := hydroBetweenRow.holds Try.pinned (OpenSpec.ofChange hydroBetweenWrong)

/-- 'aneroidlaw19.HydroComes': WHATEVER THE INPUT: true; the input reads as it did. -/
def hydroComesSpec : ChangeSpec := { name := "hydroComes", fn := fun _ => fun
  | [d1, d2, d3] => { results := [.lit (.bool true)], args := [d1, d2, d3] }
  | _ => none }
def hydroComesRow : OpenClaim := { program := "ytlgiefdhjhijaaa", sum := "9d1eed9ad74f8139d6dd2bc539d4508cb73bb168a3acc394ba0db9390a99c0d9", func := "aneroid/aneroidlaw19.HydroComes", spec := "hydroComes", inPlace := ["sync/atomic.LoadUint32", "(*internal/sync.Mutex).Lock", "internal/race.Disable", "sync/atomic.CompareAndSwapInt32", "internal/race.Enable", "internal/race.Acquire", "(*internal/sync.Mutex).lockSlow", "internal/sync.runtime_canSpin", "internal/sync.runtime_doSpin", "internal/sync.throw", "internal/sync.runtime_nanotime", "internal/sync.runtime_SemacquireMutex", "sync/atomic.AddInt32", "(*internal/sync.Mutex).Unlock", "internal/race.ReleaseMerge", "(*internal/sync.Mutex).unlockSlow", "internal/sync.fatal", "internal/sync.runtime_Semrelease", "sync/atomic.StoreUint32"], unfollowed := true, recurses := true, named := ["math/bits.divideError", "math/bits.overflowError"], apart := false }
def HydroComesSaid : Prop := hydroComesRow.holds Try.pinned (OpenSpec.ofChange hydroComesSpec)

/-- ITS FALSE NEIGHBOUR: 'it returns false'. Refute it at one input. -/
def hydroComesWrong : ChangeSpec := { name := "hydroComes", fn := fun _ => fun
  | [d1, d2, d3] => { results := [.lit (.bool false)], args := [d1, d2, d3] }
  | _ => none }
def HydroComesWrongFalsely : Prop := hydroComesRow.holds Try.pinned (OpenSpec.ofChange hydroComesWrong)

/- THE SECOND FORM. 'bulk': how many values and letters a reading holds, each counted each time it is reached (what is shared counts as often as it is met; a slice's spare places count too). A statement '..UptoSaid' is the law's where the arguments, and the package variables that the reading takes, are together of bulk at most 1048576: NARROWER than '..Said'. Prove '..Said' where nothing that the law and all that it calls make is longer than what came in: it says more and counts as full. Else prove '..UptoSaid'. A law counts once. -/
mutual
def uptoBulk {H : Type} : DataW H → Nat
  | .lit (.string bytes) => bytes.length + 1
  | .lit _ => 1
  | .nil => 1
  | .ptr d => uptoBulk d + 1
  | .slice elems spare => uptoBulkAll elems + uptoBulkAll spare + 1
  | .agg parts => uptoBulkAll parts + 1
  | .iface _ d => uptoBulk d + 1
  | .map entries => uptoBulkEntries entries + 1
  | .held _ => 1
def uptoBulkAll {H : Type} : List (DataW H) → Nat
  | [] => 0
  | d :: r => uptoBulk d + uptoBulkAll r
def uptoBulkEntries {H : Type} : List (Lit × DataW H) → Nat
  | [] => 0
  | x :: r => uptoBulkEntry x + uptoBulkEntries r
def uptoBulkEntry {H : Type} : Lit × DataW H → Nat
  | (.string bytes, d) => bytes.length + uptoBulk d + 1
  | (_, d) => uptoBulk d + 1
 end
def uptoSmall : (H : Type) → List (DataW H) → Bool := fun _ ds => decide (uptoBulkAll ds ≤ 1048576)
def OpenSpec.upto (s : _root_.Go.ChangeSpec) : _root_.Go.OpenSpec := { _root_.Go.OpenSpec.ofChange s with cond := some uptoSmall }

/-- 'aneroidlaw07.AirSteps', WHERE WHAT IT READS IS OF BULK AT MOST 1048576: true; the input reads as it did. -/
def airStepsUptoRow : OpenClaim := { program := "ytlgiefdhjhijaaa", sum := "9d1eed9ad74f8139d6dd2bc539d4508cb73bb168a3acc394ba0db9390a99c0d9", func := "aneroid/aneroidlaw07.AirSteps", spec := "airSteps", inPlace := ["sync/atomic.LoadUint32", "(*internal/sync.Mutex).Lock", "internal/race.Disable", "sync/atomic.CompareAndSwapInt32", "internal/race.Enable", "internal/race.Acquire", "(*internal/sync.Mutex).lockSlow", "internal/sync.runtime_canSpin", "internal/sync.runtime_doSpin", "internal/sync.throw", "internal/sync.runtime_nanotime", "internal/sync.runtime_SemacquireMutex", "sync/atomic.AddInt32", "(*internal/sync.Mutex).Unlock", "internal/race.ReleaseMerge", "(*internal/sync.Mutex).unlockSlow", "internal/sync.fatal", "internal/sync.runtime_Semrelease", "sync/atomic.StoreUint32"], unfollowed := true, recurses := true, named := ["math/bits.divideError", "math/bits.overflowError"], apart := false, narrowed := true }
def AirStepsUptoSaid : Prop := airStepsUptoRow.holds Try.pinned (OpenSpec.upto airStepsSpec)

/-- 'aneroidlaw07.AirPressures', WHERE WHAT IT READS IS OF BULK AT MOST 1048576: true; the input reads as it did. -/
def airPressuresUptoRow : OpenClaim := { program := "ytlgiefdhjhijaaa", sum := "9d1eed9ad74f8139d6dd2bc539d4508cb73bb168a3acc394ba0db9390a99c0d9", func := "aneroid/aneroidlaw07.AirPressures", spec := "airPressures", inPlace := ["sync/atomic.LoadUint32", "(*internal/sync.Mutex).Lock", "internal/race.Disable", "sync/atomic.CompareAndSwapInt32", "internal/race.Enable", "internal/race.Acquire", "(*internal/sync.Mutex).lockSlow", "internal/sync.runtime_canSpin", "internal/sync.runtime_doSpin", "internal/sync.throw", "internal/sync.runtime_nanotime", "internal/sync.runtime_SemacquireMutex", "sync/atomic.AddInt32", "(*internal/sync.Mutex).Unlock", "internal/race.ReleaseMerge", "(*internal/sync.Mutex).unlockSlow", "internal/sync.fatal", "internal/sync.runtime_Semrelease", "sync/atomic.StoreUint32"], unfollowed := true, recurses := true, named := ["math/bits.divideError", "math/bits.overflowError"], apart := false, narrowed := true }
def AirPressuresUptoSaid : Prop := airPressuresUptoRow.holds Try.pinned (OpenSpec.upto airPressuresSpec)

/-- 'aneroidlaw07.AirHeights', WHERE WHAT IT READS IS OF BULK AT MOST 1048576: true; the input reads as it did. -/
def airHeightsUptoRow : OpenClaim := { program := "ytlgiefdhjhijaaa", sum := "9d1eed9ad74f8139d6dd2bc539d4508cb73bb168a3acc394ba0db9390a99c0d9", func := "aneroid/aneroidlaw07.AirHeights", spec := "airHeights", inPlace := ["sync/atomic.LoadUint32", "(*internal/sync.Mutex).Lock", "internal/race.Disable", "sync/atomic.CompareAndSwapInt32", "internal/race.Enable", "internal/race.Acquire", "(*internal/sync.Mutex).lockSlow", "internal/sync.runtime_canSpin", "internal/sync.runtime_doSpin", "internal/sync.throw", "internal/sync.runtime_nanotime", "internal/sync.runtime_SemacquireMutex", "sync/atomic.AddInt32", "(*internal/sync.Mutex).Unlock", "internal/race.ReleaseMerge", "(*internal/sync.Mutex).unlockSlow", "internal/sync.fatal", "internal/sync.runtime_Semrelease", "sync/atomic.StoreUint32"], unfollowed := true, recurses := true, named := ["math/bits.divideError", "math/bits.overflowError"], apart := false, narrowed := true }
def AirHeightsUptoSaid : Prop := airHeightsUptoRow.holds Try.pinned (OpenSpec.upto airHeightsSpec)

/-- 'aneroidlaw07.AirFalls', WHERE WHAT IT READS IS OF BULK AT MOST 1048576: true; the input reads as it did. -/
def airFallsUptoRow : OpenClaim := { program := "ytlgiefdhjhijaaa", sum := "9d1eed9ad74f8139d6dd2bc539d4508cb73bb168a3acc394ba0db9390a99c0d9", func := "aneroid/aneroidlaw07.AirFalls", spec := "airFalls", inPlace := ["sync/atomic.LoadUint32", "(*internal/sync.Mutex).Lock", "internal/race.Disable", "sync/atomic.CompareAndSwapInt32", "internal/race.Enable", "internal/race.Acquire", "(*internal/sync.Mutex).lockSlow", "internal/sync.runtime_canSpin", "internal/sync.runtime_doSpin", "internal/sync.throw", "internal/sync.runtime_nanotime", "internal/sync.runtime_SemacquireMutex", "sync/atomic.AddInt32", "(*internal/sync.Mutex).Unlock", "internal/race.ReleaseMerge", "(*internal/sync.Mutex).unlockSlow", "internal/sync.fatal", "internal/sync.runtime_Semrelease", "sync/atomic.StoreUint32"], unfollowed := true, recurses := true, named := ["math/bits.divideError", "math/bits.overflowError"], apart := false, narrowed := true }
def AirFallsUptoSaid : Prop := airFallsUptoRow.holds Try.pinned (OpenSpec.upto airFallsSpec)

/-- 'aneroidlaw07.AirBack', WHERE WHAT IT READS IS OF BULK AT MOST 1048576: true; the input reads as it did. -/
def airBackUptoRow : OpenClaim := { program := "ytlgiefdhjhijaaa", sum := "9d1eed9ad74f8139d6dd2bc539d4508cb73bb168a3acc394ba0db9390a99c0d9", func := "aneroid/aneroidlaw07.AirBack", spec := "airBack", inPlace := ["sync/atomic.LoadUint32", "(*internal/sync.Mutex).Lock", "internal/race.Disable", "sync/atomic.CompareAndSwapInt32", "internal/race.Enable", "internal/race.Acquire", "(*internal/sync.Mutex).lockSlow", "internal/sync.runtime_canSpin", "internal/sync.runtime_doSpin", "internal/sync.throw", "internal/sync.runtime_nanotime", "internal/sync.runtime_SemacquireMutex", "sync/atomic.AddInt32", "(*internal/sync.Mutex).Unlock", "internal/race.ReleaseMerge", "(*internal/sync.Mutex).unlockSlow", "internal/sync.fatal", "internal/sync.runtime_Semrelease", "sync/atomic.StoreUint32"], unfollowed := true, recurses := true, named := ["math/bits.divideError", "math/bits.overflowError"], apart := false, narrowed := true }
def AirBackUptoSaid : Prop := airBackUptoRow.holds Try.pinned (OpenSpec.upto airBackSpec)

/-- 'aneroidlaw11.BaroCorrects', WHERE WHAT IT READS IS OF BULK AT MOST 1048576: true; the input reads as it did. -/
def baroCorrectsUptoRow : OpenClaim := { program := "ytlgiefdhjhijaaa", sum := "9d1eed9ad74f8139d6dd2bc539d4508cb73bb168a3acc394ba0db9390a99c0d9", func := "aneroid/aneroidlaw11.BaroCorrects", spec := "baroCorrects", inPlace := ["sync/atomic.LoadUint32", "(*internal/sync.Mutex).Lock", "internal/race.Disable", "sync/atomic.CompareAndSwapInt32", "internal/race.Enable", "internal/race.Acquire", "(*internal/sync.Mutex).lockSlow", "internal/sync.runtime_canSpin", "internal/sync.runtime_doSpin", "internal/sync.throw", "internal/sync.runtime_nanotime", "internal/sync.runtime_SemacquireMutex", "sync/atomic.AddInt32", "(*internal/sync.Mutex).Unlock", "internal/race.ReleaseMerge", "(*internal/sync.Mutex).unlockSlow", "internal/sync.fatal", "internal/sync.runtime_Semrelease", "sync/atomic.StoreUint32"], unfollowed := true, recurses := true, named := ["math/bits.divideError", "math/bits.overflowError"], apart := false, narrowed := true }
def BaroCorrectsUptoSaid : Prop := baroCorrectsUptoRow.holds Try.pinned (OpenSpec.upto baroCorrectsSpec)

/-- 'aneroidlaw11.BaroSets', WHERE WHAT IT READS IS OF BULK AT MOST 1048576: true; the input reads as it did. -/
def baroSetsUptoRow : OpenClaim := { program := "ytlgiefdhjhijaaa", sum := "9d1eed9ad74f8139d6dd2bc539d4508cb73bb168a3acc394ba0db9390a99c0d9", func := "aneroid/aneroidlaw11.BaroSets", spec := "baroSets", inPlace := ["sync/atomic.LoadUint32", "(*internal/sync.Mutex).Lock", "internal/race.Disable", "sync/atomic.CompareAndSwapInt32", "internal/race.Enable", "internal/race.Acquire", "(*internal/sync.Mutex).lockSlow", "internal/sync.runtime_canSpin", "internal/sync.runtime_doSpin", "internal/sync.throw", "internal/sync.runtime_nanotime", "internal/sync.runtime_SemacquireMutex", "sync/atomic.AddInt32", "(*internal/sync.Mutex).Unlock", "internal/race.ReleaseMerge", "(*internal/sync.Mutex).unlockSlow", "internal/sync.fatal", "internal/sync.runtime_Semrelease", "sync/atomic.StoreUint32"], unfollowed := true, recurses := true, named := ["math/bits.divideError", "math/bits.overflowError"], apart := false, narrowed := true }
def BaroSetsUptoSaid : Prop := baroSetsUptoRow.holds Try.pinned (OpenSpec.upto baroSetsSpec)

/-- 'aneroidlaw11.BaroRises', WHERE WHAT IT READS IS OF BULK AT MOST 1048576: true; the input reads as it did. -/
def baroRisesUptoRow : OpenClaim := { program := "ytlgiefdhjhijaaa", sum := "9d1eed9ad74f8139d6dd2bc539d4508cb73bb168a3acc394ba0db9390a99c0d9", func := "aneroid/aneroidlaw11.BaroRises", spec := "baroRises", inPlace := ["sync/atomic.LoadUint32", "(*internal/sync.Mutex).Lock", "internal/race.Disable", "sync/atomic.CompareAndSwapInt32", "internal/race.Enable", "internal/race.Acquire", "(*internal/sync.Mutex).lockSlow", "internal/sync.runtime_canSpin", "internal/sync.runtime_doSpin", "internal/sync.throw", "internal/sync.runtime_nanotime", "internal/sync.runtime_SemacquireMutex", "sync/atomic.AddInt32", "(*internal/sync.Mutex).Unlock", "internal/race.ReleaseMerge", "(*internal/sync.Mutex).unlockSlow", "internal/sync.fatal", "internal/sync.runtime_Semrelease", "sync/atomic.StoreUint32"], unfollowed := true, recurses := true, named := ["math/bits.divideError", "math/bits.overflowError"], apart := false, narrowed := true }
def BaroRisesUptoSaid : Prop := baroRisesUptoRow.holds Try.pinned (OpenSpec.upto baroRisesSpec)

/-- 'aneroidlaw19.HydroNew', WHERE WHAT IT READS IS OF BULK AT MOST 1048576: true; the input reads as it did. -/
def hydroNewUptoRow : OpenClaim := { program := "ytlgiefdhjhijaaa", sum := "9d1eed9ad74f8139d6dd2bc539d4508cb73bb168a3acc394ba0db9390a99c0d9", func := "aneroid/aneroidlaw19.HydroNew", spec := "hydroNew", inPlace := ["sync/atomic.LoadUint32", "(*internal/sync.Mutex).Lock", "internal/race.Disable", "sync/atomic.CompareAndSwapInt32", "internal/race.Enable", "internal/race.Acquire", "(*internal/sync.Mutex).lockSlow", "internal/sync.runtime_canSpin", "internal/sync.runtime_doSpin", "internal/sync.throw", "internal/sync.runtime_nanotime", "internal/sync.runtime_SemacquireMutex", "sync/atomic.AddInt32", "(*internal/sync.Mutex).Unlock", "internal/race.ReleaseMerge", "(*internal/sync.Mutex).unlockSlow", "internal/sync.fatal", "internal/sync.runtime_Semrelease", "sync/atomic.StoreUint32"], unfollowed := true, recurses := true, named := ["math/bits.divideError", "math/bits.overflowError"], apart := false, narrowed := true }
def HydroNewUptoSaid : Prop := hydroNewUptoRow.holds Try.pinned (OpenSpec.upto hydroNewSpec)

/-- 'aneroidlaw19.HydroLearns', WHERE WHAT IT READS IS OF BULK AT MOST 1048576: true; the input reads as it did. -/
def hydroLearnsUptoRow : OpenClaim := { program := "ytlgiefdhjhijaaa", sum := "9d1eed9ad74f8139d6dd2bc539d4508cb73bb168a3acc394ba0db9390a99c0d9", func := "aneroid/aneroidlaw19.HydroLearns", spec := "hydroLearns", inPlace := ["sync/atomic.LoadUint32", "(*internal/sync.Mutex).Lock", "internal/race.Disable", "sync/atomic.CompareAndSwapInt32", "internal/race.Enable", "internal/race.Acquire", "(*internal/sync.Mutex).lockSlow", "internal/sync.runtime_canSpin", "internal/sync.runtime_doSpin", "internal/sync.throw", "internal/sync.runtime_nanotime", "internal/sync.runtime_SemacquireMutex", "sync/atomic.AddInt32", "(*internal/sync.Mutex).Unlock", "internal/race.ReleaseMerge", "(*internal/sync.Mutex).unlockSlow", "internal/sync.fatal", "internal/sync.runtime_Semrelease", "sync/atomic.StoreUint32"], unfollowed := true, recurses := true, named := ["math/bits.divideError", "math/bits.overflowError"], apart := false, narrowed := true }
def HydroLearnsUptoSaid : Prop := hydroLearnsUptoRow.holds Try.pinned (OpenSpec.upto hydroLearnsSpec)

/-- 'aneroidlaw19.HydroBetween', WHERE WHAT IT READS IS OF BULK AT MOST 1048576: true; the input reads as it did. -/
def hydroBetweenUptoRow : OpenClaim := { program := "ytlgiefdhjhijaaa", sum := "9d1eed9ad74f8139d6dd2bc539d4508cb73bb168a3acc394ba0db9390a99c0d9", func := "aneroid/aneroidlaw19.HydroBetween", spec := "hydroBetween", apart := false, narrowed := true }
def HydroBetweenUptoSaid : Prop := hydroBetweenUptoRow.holds Try.pinned (OpenSpec.upto hydroBetweenSpec)

/-- 'aneroidlaw19.HydroComes', WHERE WHAT IT READS IS OF BULK AT MOST 1048576: true; the input reads as it did. -/
def hydroComesUptoRow : OpenClaim := { program := "ytlgiefdhjhijaaa", sum := "9d1eed9ad74f8139d6dd2bc539d4508cb73bb168a3acc394ba0db9390a99c0d9", func := "aneroid/aneroidlaw19.HydroComes", spec := "hydroComes", inPlace := ["sync/atomic.LoadUint32", "(*internal/sync.Mutex).Lock", "internal/race.Disable", "sync/atomic.CompareAndSwapInt32", "internal/race.Enable", "internal/race.Acquire", "(*internal/sync.Mutex).lockSlow", "internal/sync.runtime_canSpin", "internal/sync.runtime_doSpin", "internal/sync.throw", "internal/sync.runtime_nanotime", "internal/sync.runtime_SemacquireMutex", "sync/atomic.AddInt32", "(*internal/sync.Mutex).Unlock", "internal/race.ReleaseMerge", "(*internal/sync.Mutex).unlockSlow", "internal/sync.fatal", "internal/sync.runtime_Semrelease", "sync/atomic.StoreUint32"], unfollowed := true, recurses := true, named := ["math/bits.divideError", "math/bits.overflowError"], apart := false, narrowed := true }
def HydroComesUptoSaid : Prop := hydroComesUptoRow.holds Try.pinned (OpenSpec.upto hydroComesSpec)

end Rows
end Go.Proofs.Ytlgiefdhjhijaaa
