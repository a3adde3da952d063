/-
  No cell of these rows narrows 'for every input' (looked for: loops, veiled, ifaces, maps, wideKeys, modest, calm, conditions, laid).
  DERIVED. THE GIVEN ROWS OF THIS SEAT. 15 by the template 'for every input the law returns true; each argument reads behind the call as it read before'; 0 by the template 'total and deterministic' (their statements: YtifbedliibhmoaaTotals.lean).
  GIVEN WITH THE SEED: the statements are not yours to turn. If you find one false, say at which input.
  Laid BY PROGRAM, IN A SANDBOX (cutbox-rows.mjs): the forced cells as the released guide's own fill.sh prints them over the translation e2657bd56ee4b560… (all of the seat's roots in one cut). By AI agents, Wed Nov 11 2026. No macro, syntax, notation, axiom, sorry.
-/
import Derived.Test.YtifbedliibhmoaaChecked
import GoSem.Claim
import GoSem.ClaimJoined
import GoSem.ClaimMapViews
import Derived.JoinedTies
import Derived.KernelRfl
namespace Go.Proofs.Ytifbedliibhmoaa
/- THE CELL 'sum', in the pinned program and in every row, IS THE sha256 OF THE DUMP (.gsa) THAT YtifbedliibhmoaaProg.lean LOADS. Nothing in Lean hashes anything: it is a label: what it is worth is what the hold of that sum in a sandbox is worth. -/
noncomputable def Try.pinned : Pinned := { name := "ytifbedliibhmoaa", sum := "e2657bd56ee4b5603f0ec0f8770eb026b37c72c12715843e09b85a58af845e2f", checked := Try.checked }
namespace Rows
def none {H : Type} : Left H := { results := [], args := [] }

/-- 'aneroidlaw15.GateNew': WHATEVER THE INPUT: true; the input reads as it did. -/
def gateNewSpec : ChangeSpec := { name := "gateNew", fn := fun _ => fun
  | [d1, d2] => { results := [.lit (.bool true)], args := [d1, d2] }
  | _ => none }
def gateNewRow : OpenClaim := { program := "ytifbedliibhmoaa", sum := "e2657bd56ee4b5603f0ec0f8770eb026b37c72c12715843e09b85a58af845e2f", func := "aneroid/aneroidlaw15.GateNew", spec := "gateNew", named := ["math/bits.divideError", "math/bits.overflowError"], apart := false }
def GateNewSaid : Prop := gateNewRow.holds Try.pinned (OpenSpec.ofChange gateNewSpec)

/-- ITS FALSE NEIGHBOUR: 'it returns false'. Refute it at one input. -/
def gateNewWrong : ChangeSpec := { name := "gateNew", fn := fun _ => fun
  | [d1, d2] => { results := [.lit (.bool false)], args := [d1, d2] }
  | _ => none }
def GateNewWrongFalsely : Prop := gateNewRow.holds Try.pinned (OpenSpec.ofChange gateNewWrong)

/-- 'aneroidlaw15.GatePlays': WHATEVER THE INPUT: true; the input reads as it did. -/
def gatePlaysSpec : ChangeSpec := { name := "gatePlays", fn := fun _ => fun
  | [d1, d2] => { results := [.lit (.bool true)], args := [d1, d2] }
  | _ => none }
def gatePlaysRow : OpenClaim := { program := "ytifbedliibhmoaa", sum := "e2657bd56ee4b5603f0ec0f8770eb026b37c72c12715843e09b85a58af845e2f", func := "aneroid/aneroidlaw15.GatePlays", spec := "gatePlays", named := ["math/bits.divideError", "math/bits.overflowError"], apart := false }
def GatePlaysSaid : Prop := gatePlaysRow.holds Try.pinned (OpenSpec.ofChange gatePlaysSpec)

/-- ITS FALSE NEIGHBOUR: 'it returns false'. Refute it at one input. -/
def gatePlaysWrong : ChangeSpec := { name := "gatePlays", fn := fun _ => fun
  | [d1, d2] => { results := [.lit (.bool false)], args := [d1, d2] }
  | _ => none }
def GatePlaysWrongFalsely : Prop := gatePlaysRow.holds Try.pinned (OpenSpec.ofChange gatePlaysWrong)

/-- 'aneroidlaw15.GateWithin': WHATEVER THE INPUT: true; the input reads as it did. -/
def gateWithinSpec : ChangeSpec := { name := "gateWithin", fn := fun _ => fun
  | [d1, d2] => { results := [.lit (.bool true)], args := [d1, d2] }
  | _ => none }
def gateWithinRow : OpenClaim := { program := "ytifbedliibhmoaa", sum := "e2657bd56ee4b5603f0ec0f8770eb026b37c72c12715843e09b85a58af845e2f", func := "aneroid/aneroidlaw15.GateWithin", spec := "gateWithin", named := ["math/bits.divideError", "math/bits.overflowError"], apart := false }
def GateWithinSaid : Prop := gateWithinRow.holds Try.pinned (OpenSpec.ofChange gateWithinSpec)

/-- ITS FALSE NEIGHBOUR: 'it returns false'. Refute it at one input. -/
def gateWithinWrong : ChangeSpec := { name := "gateWithin", fn := fun _ => fun
  | [d1, d2] => { results := [.lit (.bool false)], args := [d1, d2] }
  | _ => none }
def GateWithinWrongFalsely : Prop := gateWithinRow.holds Try.pinned (OpenSpec.ofChange gateWithinWrong)

/-- 'aneroidlaw15.GateSteady': WHATEVER THE INPUT: true; the input reads as it did. -/
def gateSteadySpec : ChangeSpec := { name := "gateSteady", fn := fun _ => fun
  | [d1, d2, d3] => { results := [.lit (.bool true)], args := [d1, d2, d3] }
  | _ => none }
def gateSteadyRow : OpenClaim := { program := "ytifbedliibhmoaa", sum := "e2657bd56ee4b5603f0ec0f8770eb026b37c72c12715843e09b85a58af845e2f", func := "aneroid/aneroidlaw15.GateSteady", spec := "gateSteady", named := ["math/bits.divideError", "math/bits.overflowError"], apart := false }
def GateSteadySaid : Prop := gateSteadyRow.holds Try.pinned (OpenSpec.ofChange gateSteadySpec)

/-- ITS FALSE NEIGHBOUR: 'it returns false'. Refute it at one input. -/
def gateSteadyWrong : ChangeSpec := { name := "gateSteady", fn := fun _ => fun
  | [d1, d2, d3] => { results := [.lit (.bool false)], args := [d1, d2, d3] }
  | _ => none }
def GateSteadyWrongFalsely : Prop := gateSteadyRow.holds Try.pinned (OpenSpec.ofChange gateSteadyWrong)

/-- 'aneroidlaw22.TallySteps': WHATEVER THE INPUT: true; the input reads as it did. -/
def tallyStepsSpec : ChangeSpec := { name := "tallySteps", fn := fun _ => fun
  | [d1, d2] => { results := [.lit (.bool true)], args := [d1, d2] }
  | _ => none }
def tallyStepsRow : OpenClaim := { program := "ytifbedliibhmoaa", sum := "e2657bd56ee4b5603f0ec0f8770eb026b37c72c12715843e09b85a58af845e2f", func := "aneroid/aneroidlaw22.TallySteps", spec := "tallySteps", inPlace := ["sync/atomic.LoadInt64", "sync/atomic.StoreInt64"], apart := false }
def TallyStepsSaid : Prop := tallyStepsRow.holds Try.pinned (OpenSpec.ofChange tallyStepsSpec)

/-- ITS FALSE NEIGHBOUR: 'it returns false'. Refute it at one input. -/
def tallyStepsWrong : ChangeSpec := { name := "tallySteps", fn := fun _ => fun
  | [d1, d2] => { results := [.lit (.bool false)], args := [d1, d2] }
  | _ => none }
def TallyStepsWrongFalsely : Prop := tallyStepsRow.holds Try.pinned (OpenSpec.ofChange tallyStepsWrong)

/-- 'aneroidlaw24.VotePicks': WHATEVER THE INPUT: true; the input reads as it did. -/
def votePicksSpec : ChangeSpec := { name := "votePicks", fn := fun _ => fun
  | [d1, d2] => { results := [.lit (.bool true)], args := [d1, d2] }
  | _ => none }
def votePicksRow : OpenClaim := { program := "ytifbedliibhmoaa", sum := "e2657bd56ee4b5603f0ec0f8770eb026b37c72c12715843e09b85a58af845e2f", func := "aneroid/aneroidlaw24.VotePicks", spec := "votePicks", apart := false }
def VotePicksSaid : Prop := votePicksRow.holds Try.pinned (OpenSpec.ofChange votePicksSpec)

/-- ITS FALSE NEIGHBOUR: 'it returns false'. Refute it at one input. -/
def votePicksWrong : ChangeSpec := { name := "votePicks", fn := fun _ => fun
  | [d1, d2] => { results := [.lit (.bool false)], args := [d1, d2] }
  | _ => none }
def VotePicksWrongFalsely : Prop := votePicksRow.holds Try.pinned (OpenSpec.ofChange votePicksWrong)

/-- 'aneroidlaw24.VoteBars': WHATEVER THE INPUT: true; the input reads as it did. -/
def voteBarsSpec : ChangeSpec := { name := "voteBars", fn := fun _ => fun
  | [d1, d2] => { results := [.lit (.bool true)], args := [d1, d2] }
  | _ => none }
def voteBarsRow : OpenClaim := { program := "ytifbedliibhmoaa", sum := "e2657bd56ee4b5603f0ec0f8770eb026b37c72c12715843e09b85a58af845e2f", func := "aneroid/aneroidlaw24.VoteBars", spec := "voteBars", apart := false }
def VoteBarsSaid : Prop := voteBarsRow.holds Try.pinned (OpenSpec.ofChange voteBarsSpec)

/-- ITS FALSE NEIGHBOUR: 'it returns false'. Refute it at one input. -/
def voteBarsWrong : ChangeSpec := { name := "voteBars", fn := fun _ => fun
  | [d1, d2] => { results := [.lit (.bool false)], args := [d1, d2] }
  | _ => none }
def VoteBarsWrongFalsely : Prop := voteBarsRow.holds Try.pinned (OpenSpec.ofChange voteBarsWrong)

/-- 'aneroidlaw24.VoteMost': WHATEVER THE INPUT: true; the input reads as it did. -/
def voteMostSpec : ChangeSpec := { name := "voteMost", fn := fun _ => fun
  | [d1, d2, d3] => { results := [.lit (.bool true)], args := [d1, d2, d3] }
  | _ => none }
def voteMostRow : OpenClaim := { program := "ytifbedliibhmoaa", sum := "e2657bd56ee4b5603f0ec0f8770eb026b37c72c12715843e09b85a58af845e2f", func := "aneroid/aneroidlaw24.VoteMost", spec := "voteMost", apart := false }
def VoteMostSaid : Prop := voteMostRow.holds Try.pinned (OpenSpec.ofChange voteMostSpec)

/-- ITS FALSE NEIGHBOUR: 'it returns false'. Refute it at one input. -/
def voteMostWrong : ChangeSpec := { name := "voteMost", fn := fun _ => fun
  | [d1, d2, d3] => { results := [.lit (.bool false)], args := [d1, d2, d3] }
  | _ => none }
def VoteMostWrongFalsely : Prop := voteMostRow.holds Try.pinned (OpenSpec.ofChange voteMostWrong)

/-- 'aneroidlaw24.VoteTurns': WHATEVER THE INPUT: true; the input reads as it did. -/
def voteTurnsSpec : ChangeSpec := { name := "voteTurns", fn := fun _ => fun
  | [d1, d2, d3] => { results := [.lit (.bool true)], args := [d1, d2, d3] }
  | _ => none }
def voteTurnsRow : OpenClaim := { program := "ytifbedliibhmoaa", sum := "e2657bd56ee4b5603f0ec0f8770eb026b37c72c12715843e09b85a58af845e2f", func := "aneroid/aneroidlaw24.VoteTurns", spec := "voteTurns", apart := false }
def VoteTurnsSaid : Prop := voteTurnsRow.holds Try.pinned (OpenSpec.ofChange voteTurnsSpec)

/-- ITS FALSE NEIGHBOUR: 'it returns false'. Refute it at one input. -/
def voteTurnsWrong : ChangeSpec := { name := "voteTurns", fn := fun _ => fun
  | [d1, d2, d3] => { results := [.lit (.bool false)], args := [d1, d2, d3] }
  | _ => none }
def VoteTurnsWrongFalsely : Prop := voteTurnsRow.holds Try.pinned (OpenSpec.ofChange voteTurnsWrong)

/-- 'aneroidlaw25.ModesSteps': WHATEVER THE INPUT: true; the input reads as it did. -/
def modesStepsSpec : ChangeSpec := { name := "modesSteps", fn := fun _ => fun
  | [d1, d2, d3] => { results := [.lit (.bool true)], args := [d1, d2, d3] }
  | _ => none }
def modesStepsRow : OpenClaim := { program := "ytifbedliibhmoaa", sum := "e2657bd56ee4b5603f0ec0f8770eb026b37c72c12715843e09b85a58af845e2f", func := "aneroid/aneroidlaw25.ModesSteps", spec := "modesSteps", inPlace := ["sync/atomic.AddInt64", "sync/atomic.LoadInt64"], apart := false }
def ModesStepsSaid : Prop := modesStepsRow.holds Try.pinned (OpenSpec.ofChange modesStepsSpec)

/-- ITS FALSE NEIGHBOUR: 'it returns false'. Refute it at one input. -/
def modesStepsWrong : ChangeSpec := { name := "modesSteps", fn := fun _ => fun
  | [d1, d2, d3] => { results := [.lit (.bool false)], args := [d1, d2, d3] }
  | _ => none }
def ModesStepsWrongFalsely : Prop := modesStepsRow.holds Try.pinned (OpenSpec.ofChange modesStepsWrong)

/-- 'aneroidlaw50.PhaseAsks': WHATEVER THE INPUT: true; the input reads as it did. -/
def phaseAsksSpec : ChangeSpec := { name := "phaseAsks", fn := fun _ => fun
  | [d1, d2, d3] => { results := [.lit (.bool true)], args := [d1, d2, d3] }
  | _ => none }
def phaseAsksRow : OpenClaim := { program := "ytifbedliibhmoaa", sum := "e2657bd56ee4b5603f0ec0f8770eb026b37c72c12715843e09b85a58af845e2f", func := "aneroid/aneroidlaw50.PhaseAsks", spec := "phaseAsks", apart := false }
def PhaseAsksSaid : Prop := phaseAsksRow.holds Try.pinned (OpenSpec.ofChange phaseAsksSpec)

/-- ITS FALSE NEIGHBOUR: 'it returns false'. Refute it at one input. -/
def phaseAsksWrong : ChangeSpec := { name := "phaseAsks", fn := fun _ => fun
  | [d1, d2, d3] => { results := [.lit (.bool false)], args := [d1, d2, d3] }
  | _ => none }
def PhaseAsksWrongFalsely : Prop := phaseAsksRow.holds Try.pinned (OpenSpec.ofChange phaseAsksWrong)

/-- 'aneroidlaw50.PhaseNew': WHATEVER THE INPUT: true; the input reads as it did. -/
def phaseNewSpec : ChangeSpec := { name := "phaseNew", fn := fun _ => fun
  | [d1, d2] => { results := [.lit (.bool true)], args := [d1, d2] }
  | _ => none }
def phaseNewRow : OpenClaim := { program := "ytifbedliibhmoaa", sum := "e2657bd56ee4b5603f0ec0f8770eb026b37c72c12715843e09b85a58af845e2f", func := "aneroid/aneroidlaw50.PhaseNew", spec := "phaseNew", apart := false }
def PhaseNewSaid : Prop := phaseNewRow.holds Try.pinned (OpenSpec.ofChange phaseNewSpec)

/-- ITS FALSE NEIGHBOUR: 'it returns false'. Refute it at one input. -/
def phaseNewWrong : ChangeSpec := { name := "phaseNew", fn := fun _ => fun
  | [d1, d2] => { results := [.lit (.bool false)], args := [d1, d2] }
  | _ => none }
def PhaseNewWrongFalsely : Prop := phaseNewRow.holds Try.pinned (OpenSpec.ofChange phaseNewWrong)

/-- 'aneroidlaw50.PhaseSteps': WHATEVER THE INPUT: true; the input reads as it did. -/
def phaseStepsSpec : ChangeSpec := { name := "phaseSteps", fn := fun _ => fun
  | [d1, d2] => { results := [.lit (.bool true)], args := [d1, d2] }
  | _ => none }
def phaseStepsRow : OpenClaim := { program := "ytifbedliibhmoaa", sum := "e2657bd56ee4b5603f0ec0f8770eb026b37c72c12715843e09b85a58af845e2f", func := "aneroid/aneroidlaw50.PhaseSteps", spec := "phaseSteps", apart := false }
def PhaseStepsSaid : Prop := phaseStepsRow.holds Try.pinned (OpenSpec.ofChange phaseStepsSpec)

/-- ITS FALSE NEIGHBOUR: 'it returns false'. Refute it at one input. -/
def phaseStepsWrong : ChangeSpec := { name := "phaseSteps", fn := fun _ => fun
  | [d1, d2] => { results := [.lit (.bool false)], args := [d1, d2] }
  | _ => none }
def PhaseStepsWrongFalsely : Prop := phaseStepsRow.holds Try.pinned (OpenSpec.ofChange phaseStepsWrong)

/-- 'aneroidlaw50.PhaseOrder': WHATEVER THE INPUT: true; the input reads as it did. -/
def phaseOrderSpec : ChangeSpec := { name := "phaseOrder", fn := fun _ => fun
  | [d1, d2] => { results := [.lit (.bool true)], args := [d1, d2] }
  | _ => none }
def phaseOrderRow : OpenClaim := { program := "ytifbedliibhmoaa", sum := "e2657bd56ee4b5603f0ec0f8770eb026b37c72c12715843e09b85a58af845e2f", func := "aneroid/aneroidlaw50.PhaseOrder", spec := "phaseOrder", apart := false }
def PhaseOrderSaid : Prop := phaseOrderRow.holds Try.pinned (OpenSpec.ofChange phaseOrderSpec)

/-- ITS FALSE NEIGHBOUR: 'it returns false'. Refute it at one input. -/
def phaseOrderWrong : ChangeSpec := { name := "phaseOrder", fn := fun _ => fun
  | [d1, d2] => { results := [.lit (.bool false)], args := [d1, d2] }
  | _ => none }
def PhaseOrderWrongFalsely : Prop := phaseOrderRow.holds Try.pinned (OpenSpec.ofChange phaseOrderWrong)

/-- 'aneroidlaw50.PhaseSteady': WHATEVER THE INPUT: true; the input reads as it did. -/
def phaseSteadySpec : ChangeSpec := { name := "phaseSteady", fn := fun _ => fun
  | [d1, d2, d3] => { results := [.lit (.bool true)], args := [d1, d2, d3] }
  | _ => none }
def phaseSteadyRow : OpenClaim := { program := "ytifbedliibhmoaa", sum := "e2657bd56ee4b5603f0ec0f8770eb026b37c72c12715843e09b85a58af845e2f", func := "aneroid/aneroidlaw50.PhaseSteady", spec := "phaseSteady", apart := false }
def PhaseSteadySaid : Prop := phaseSteadyRow.holds Try.pinned (OpenSpec.ofChange phaseSteadySpec)

/-- ITS FALSE NEIGHBOUR: 'it returns false'. Refute it at one input. -/
def phaseSteadyWrong : ChangeSpec := { name := "phaseSteady", fn := fun _ => fun
  | [d1, d2, d3] => { results := [.lit (.bool false)], args := [d1, d2, d3] }
  | _ => none }
def PhaseSteadyWrongFalsely : Prop := phaseSteadyRow.holds Try.pinned (OpenSpec.ofChange phaseSteadyWrong)

/- THE SECOND FORM. 'bulk': how many values and letters a reading holds, each counted each time it is reached (what is shared counts as often as it is met; a slice's spare places count too). A statement '..UptoSaid' is the law's where the arguments, and the package variables that the reading takes, are together of bulk at most 1048576: NARROWER than '..Said'. Prove '..Said' where nothing that the law and all that it calls make is longer than what came in: it says more and counts as full. Else prove '..UptoSaid'. A law counts once. -/
mutual
def uptoBulk {H : Type} : DataW H → Nat
  | .lit (.string bytes) => bytes.length + 1
  | .lit _ => 1
  | .nil => 1
  | .ptr d => uptoBulk d + 1
  | .slice elems spare => uptoBulkAll elems + uptoBulkAll spare + 1
  | .agg parts => uptoBulkAll parts + 1
  | .iface _ d => uptoBulk d + 1
  | .map entries => uptoBulkEntries entries + 1
  | .held _ => 1
def uptoBulkAll {H : Type} : List (DataW H) → Nat
  | [] => 0
  | d :: r => uptoBulk d + uptoBulkAll r
def uptoBulkEntries {H : Type} : List (Lit × DataW H) → Nat
  | [] => 0
  | x :: r => uptoBulkEntry x + uptoBulkEntries r
def uptoBulkEntry {H : Type} : Lit × DataW H → Nat
  | (.string bytes, d) => bytes.length + uptoBulk d + 1
  | (_, d) => uptoBulk d + 1
 end
def uptoSmall : (H : Type) → List (DataW H) → Bool := fun _ ds => decide (uptoBulkAll ds ≤ 1048576)
def OpenSpec.upto (s : _root_.Go.ChangeSpec) : _root_.Go.OpenSpec := { _root_.Go.OpenSpec.ofChange s with cond := some uptoSmall }

/-- 'aneroidlaw15.GateNew', WHERE WHAT IT READS IS OF BULK AT MOST 1048576: true; the input reads as it did. -/
def gateNewUptoRow : OpenClaim := { program := "ytifbedliibhmoaa", sum := "e2657bd56ee4b5603f0ec0f8770eb026b37c72c12715843e09b85a58af845e2f", func := "aneroid/aneroidlaw15.GateNew", spec := "gateNew", named := ["math/bits.divideError", "math/bits.overflowError"], apart := false, narrowed := true }
def GateNewUptoSaid : Prop := gateNewUptoRow.holds Try.pinned (OpenSpec.upto gateNewSpec)

/-- 'aneroidlaw15.GatePlays', WHERE WHAT IT READS IS OF BULK AT MOST 1048576: true; the input reads as it did. -/
def gatePlaysUptoRow : OpenClaim := { program := "ytifbedliibhmoaa", sum := "e2657bd56ee4b5603f0ec0f8770eb026b37c72c12715843e09b85a58af845e2f", func := "aneroid/aneroidlaw15.GatePlays", spec := "gatePlays", named := ["math/bits.divideError", "math/bits.overflowError"], apart := false, narrowed := true }
def GatePlaysUptoSaid : Prop := gatePlaysUptoRow.holds Try.pinned (OpenSpec.upto gatePlaysSpec)

/-- 'aneroidlaw15.GateWithin', WHERE WHAT IT READS IS OF BULK AT MOST 1048576: true; the input reads as it did. -/
def gateWithinUptoRow : OpenClaim := { program := "ytifbedliibhmoaa", sum := "e2657bd56ee4b5603f0ec0f8770eb026b37c72c12715843e09b85a58af845e2f", func := "aneroid/aneroidlaw15.GateWithin", spec := "gateWithin", named := ["math/bits.divideError", "math/bits.overflowError"], apart := false, narrowed := true }
def GateWithinUptoSaid : Prop := gateWithinUptoRow.holds Try.pinned (OpenSpec.upto gateWithinSpec)

/-- 'aneroidlaw15.GateSteady', WHERE WHAT IT READS IS OF BULK AT MOST 1048576: true; the input reads as it did. -/
def gateSteadyUptoRow : OpenClaim := { program := "ytifbedliibhmoaa", sum := "e2657bd56ee4b5603f0ec0f8770eb026b37c72c12715843e09b85a58af845e2f", func := "aneroid/aneroidlaw15.GateSteady", spec := "gateSteady", named := ["math/bits.divideError", "math/bits.overflowError"], apart := false, narrowed := true }
def GateSteadyUptoSaid : Prop := gateSteadyUptoRow.holds Try.pinned (OpenSpec.upto gateSteadySpec)

/-- 'aneroidlaw22.TallySteps', WHERE WHAT IT READS IS OF BULK AT MOST 1048576: true; the input reads as it did. -/
def tallyStepsUptoRow : OpenClaim := { program := "ytifbedliibhmoaa", sum := "e2657bd56ee4b5603f0ec0f8770eb026b37c72c12715843e09b85a58af845e2f", func := "aneroid/aneroidlaw22.TallySteps", spec := "tallySteps", inPlace := ["sync/atomic.LoadInt64", "sync/atomic.StoreInt64"], apart := false, narrowed := true }
def TallyStepsUptoSaid : Prop := tallyStepsUptoRow.holds Try.pinned (OpenSpec.upto tallyStepsSpec)

/-- 'aneroidlaw24.VotePicks', WHERE WHAT IT READS IS OF BULK AT MOST 1048576: true; the input reads as it did. -/
def votePicksUptoRow : OpenClaim := { program := "ytifbedliibhmoaa", sum := "e2657bd56ee4b5603f0ec0f8770eb026b37c72c12715843e09b85a58af845e2f", func := "aneroid/aneroidlaw24.VotePicks", spec := "votePicks", apart := false, narrowed := true }
def VotePicksUptoSaid : Prop := votePicksUptoRow.holds Try.pinned (OpenSpec.upto votePicksSpec)

/-- 'aneroidlaw24.VoteBars', WHERE WHAT IT READS IS OF BULK AT MOST 1048576: true; the input reads as it did. -/
def voteBarsUptoRow : OpenClaim := { program := "ytifbedliibhmoaa", sum := "e2657bd56ee4b5603f0ec0f8770eb026b37c72c12715843e09b85a58af845e2f", func := "aneroid/aneroidlaw24.VoteBars", spec := "voteBars", apart := false, narrowed := true }
def VoteBarsUptoSaid : Prop := voteBarsUptoRow.holds Try.pinned (OpenSpec.upto voteBarsSpec)

/-- 'aneroidlaw24.VoteMost', WHERE WHAT IT READS IS OF BULK AT MOST 1048576: true; the input reads as it did. -/
def voteMostUptoRow : OpenClaim := { program := "ytifbedliibhmoaa", sum := "e2657bd56ee4b5603f0ec0f8770eb026b37c72c12715843e09b85a58af845e2f", func := "aneroid/aneroidlaw24.VoteMost", spec := "voteMost", apart := false, narrowed := true }
def VoteMostUptoSaid : Prop := voteMostUptoRow.holds Try.pinned (OpenSpec.upto voteMostSpec)

/-- 'aneroidlaw24.VoteTurns', WHERE WHAT IT READS IS OF BULK AT MOST 1048576: true; the input reads as it did. -/
def voteTurnsUptoRow : OpenClaim := { program := "ytifbedliibhmoaa", sum := "e2657bd56ee4b5603f0ec0f8770eb026b37c72c12715843e09b85a58af845e2f", func := "aneroid/aneroidlaw24.VoteTurns", spec := "voteTurns", apart := false, narrowed := true }
def VoteTurnsUptoSaid : Prop := voteTurnsUptoRow.holds Try.pinned (OpenSpec.upto voteTurnsSpec)

/-- 'aneroidlaw25.ModesSteps', WHERE WHAT IT READS IS OF BULK AT MOST 1048576: true; the input reads as it did. -/
def modesStepsUptoRow : OpenClaim := { program := "ytifbedliibhmoaa", sum := "e2657bd56ee4b5603f0ec0f8770eb026b37c72c12715843e09b85a58af845e2f", func := "aneroid/aneroidlaw25.ModesSteps", spec := "modesSteps", inPlace := ["sync/atomic.AddInt64", "sync/atomic.LoadInt64"], apart := false, narrowed := true }
def ModesStepsUptoSaid : Prop := modesStepsUptoRow.holds Try.pinned (OpenSpec.upto modesStepsSpec)

/-- 'aneroidlaw50.PhaseAsks', WHERE WHAT IT READS IS OF BULK AT MOST 1048576: true; the input reads as it did. -/
def phaseAsksUptoRow : OpenClaim := { program := "ytifbedliibhmoaa", sum := "e2657bd56ee4b5603f0ec0f8770eb026b37c72c12715843e09b85a58af845e2f", func := "aneroid/aneroidlaw50.PhaseAsks", spec := "phaseAsks", apart := false, narrowed := true }
def PhaseAsksUptoSaid : Prop := phaseAsksUptoRow.holds Try.pinned (OpenSpec.upto phaseAsksSpec)

/-- 'aneroidlaw50.PhaseNew', WHERE WHAT IT READS IS OF BULK AT MOST 1048576: true; the input reads as it did. -/
def phaseNewUptoRow : OpenClaim := { program := "ytifbedliibhmoaa", sum := "e2657bd56ee4b5603f0ec0f8770eb026b37c72c12715843e09b85a58af845e2f", func := "aneroid/aneroidlaw50.PhaseNew", spec := "phaseNew", apart := false, narrowed := true }
def PhaseNewUptoSaid : Prop := phaseNewUptoRow.holds Try.pinned (OpenSpec.upto phaseNewSpec)

/-- 'aneroidlaw50.PhaseSteps', WHERE WHAT IT READS IS OF BULK AT MOST 1048576: true; the input reads as it did. -/
def phaseStepsUptoRow : OpenClaim := { program := "ytifbedliibhmoaa", sum := "e2657bd56ee4b5603f0ec0f8770eb026b37c72c12715843e09b85a58af845e2f", func := "aneroid/aneroidlaw50.PhaseSteps", spec := "phaseSteps", apart := false, narrowed := true }
def PhaseStepsUptoSaid : Prop := phaseStepsUptoRow.holds Try.pinned (OpenSpec.upto phaseStepsSpec)

/-- 'aneroidlaw50.PhaseOrder', WHERE WHAT IT READS IS OF BULK AT MOST 1048576: true; the input reads as it did. -/
def phaseOrderUptoRow : OpenClaim := { program := "ytifbedliibhmoaa", sum := "e2657bd56ee4b5603f0ec0f8770eb026b37c72c12715843e09b85a58af845e2f", func := "aneroid/aneroidlaw50.PhaseOrder", spec := "phaseOrder", apart := false, narrowed := true }
def PhaseOrderUptoSaid : Prop := phaseOrderUptoRow.holds Try.pinned (OpenSpec.upto phaseOrderSpec)

/-- 'aneroidlaw50.PhaseSteady', WHERE WHAT IT READS IS OF BULK AT MOST 1048576: true; the input reads as it did. -/
def phaseSteadyUptoRow : OpenClaim := { program := "ytifbedliibhmoaa", sum := "e2657bd56ee4b5603f0ec0f8770eb026b37c72c12715843e09b85a58af845e2f", func := "aneroid/aneroidlaw50.PhaseSteady", spec := "phaseSteady", apart := false, narrowed := true }
def PhaseSteadyUptoSaid : Prop := phaseSteadyUptoRow.holds Try.pinned (OpenSpec.upto phaseSteadySpec)

end Rows
end Go.Proofs.Ytifbedliibhmoaa
