/-
  No cell of these rows narrows 'for every input' (looked for: loops, veiled, ifaces, maps, wideKeys, modest, calm, conditions, laid).
  DERIVED. THE GIVEN ROWS OF THIS SEAT. 12 by the template 'for every input the law returns true; each argument reads behind the call as it read before'; 0 by the template 'total and deterministic' (their statements: YtmoamadpaepcfaaTotals.lean).
  GIVEN WITH THE SEED: the statements are not yours to turn. If you find one false, say at which input.
  Laid BY PROGRAM, IN A SANDBOX (cutbox-rows.mjs): the forced cells as the released guide's own fill.sh prints them over the translation 912196fbf8081904… (all of the seat's roots in one cut). By AI agents, Wed Nov 11 2026. No macro, syntax, notation, axiom, sorry.
-/
import Derived.Test.YtmoamadpaepcfaaChecked
import GoSem.Claim
import GoSem.ClaimJoined
import GoSem.ClaimMapViews
import Derived.JoinedTies
import Derived.KernelRfl
namespace Go.Proofs.Ytmoamadpaepcfaa
/- THE CELL 'sum', in the pinned program and in every row, IS THE sha256 OF THE DUMP (.gsa) THAT YtmoamadpaepcfaaProg.lean LOADS. Nothing in Lean hashes anything: it is a label: what it is worth is what the hold of that sum in a sandbox is worth. -/
noncomputable def Try.pinned : Pinned := { name := "ytmoamadpaepcfaa", sum := "912196fbf8081904fc1dbc6b699fb63d58caf22d195cf96727f8ce33b94c6031", checked := Try.checked }
namespace Rows
def none {H : Type} : Left H := { results := [], args := [] }

/-- 'aneroidlaw22.TallyNew': WHATEVER THE INPUT: true; the input reads as it did. -/
def tallyNewSpec : ChangeSpec := { name := "tallyNew", fn := fun _ => fun
  | [d1, d2] => { results := [.lit (.bool true)], args := [d1, d2] }
  | _ => none }
def tallyNewRow : OpenClaim := { program := "ytmoamadpaepcfaa", sum := "912196fbf8081904fc1dbc6b699fb63d58caf22d195cf96727f8ce33b94c6031", func := "aneroid/aneroidlaw22.TallyNew", spec := "tallyNew", inPlace := ["sync/atomic.StoreInt64", "sync/atomic.LoadInt64"], apart := false }
def TallyNewSaid : Prop := tallyNewRow.holds Try.pinned (OpenSpec.ofChange tallyNewSpec)

/-- ITS FALSE NEIGHBOUR: 'it returns false'. Refute it at one input. -/
def tallyNewWrong : ChangeSpec := { name := "tallyNew", fn := fun _ => fun
  | [d1, d2] => { results := [.lit (.bool false)], args := [d1, d2] }
  | _ => none }
def TallyNewWrongFalsely : Prop := tallyNewRow.holds Try.pinned (OpenSpec.ofChange tallyNewWrong)

/-- 'aneroidlaw22.TallySteps': WHATEVER THE INPUT: true; the input reads as it did. -/
def tallyStepsSpec : ChangeSpec := { name := "tallySteps", fn := fun _ => fun
  | [d1, d2] => { results := [.lit (.bool true)], args := [d1, d2] }
  | _ => none }
def tallyStepsRow : OpenClaim := { program := "ytmoamadpaepcfaa", sum := "912196fbf8081904fc1dbc6b699fb63d58caf22d195cf96727f8ce33b94c6031", func := "aneroid/aneroidlaw22.TallySteps", spec := "tallySteps", inPlace := ["sync/atomic.LoadInt64", "sync/atomic.StoreInt64"], apart := false }
def TallyStepsSaid : Prop := tallyStepsRow.holds Try.pinned (OpenSpec.ofChange tallyStepsSpec)

/-- ITS FALSE NEIGHBOUR: 'it returns false'. Refute it at one input. -/
def tallyStepsWrong : ChangeSpec := { name := "tallySteps", fn := fun _ => fun
  | [d1, d2] => { results := [.lit (.bool false)], args := [d1, d2] }
  | _ => none }
def TallyStepsWrongFalsely : Prop := tallyStepsRow.holds Try.pinned (OpenSpec.ofChange tallyStepsWrong)

/-- 'aneroidlaw22.TallySure': WHATEVER THE INPUT: true; the input reads as it did. -/
def tallySureSpec : ChangeSpec := { name := "tallySure", fn := fun _ => fun
  | [d1, d2, d3] => { results := [.lit (.bool true)], args := [d1, d2, d3] }
  | _ => none }
def tallySureRow : OpenClaim := { program := "ytmoamadpaepcfaa", sum := "912196fbf8081904fc1dbc6b699fb63d58caf22d195cf96727f8ce33b94c6031", func := "aneroid/aneroidlaw22.TallySure", spec := "tallySure", inPlace := ["sync/atomic.LoadInt64", "sync/atomic.StoreInt64"], apart := false }
def TallySureSaid : Prop := tallySureRow.holds Try.pinned (OpenSpec.ofChange tallySureSpec)

/-- ITS FALSE NEIGHBOUR: 'it returns false'. Refute it at one input. -/
def tallySureWrong : ChangeSpec := { name := "tallySure", fn := fun _ => fun
  | [d1, d2, d3] => { results := [.lit (.bool false)], args := [d1, d2, d3] }
  | _ => none }
def TallySureWrongFalsely : Prop := tallySureRow.holds Try.pinned (OpenSpec.ofChange tallySureWrong)

/-- 'aneroidlaw22.TallyFew': WHATEVER THE INPUT: true; the input reads as it did. -/
def tallyFewSpec : ChangeSpec := { name := "tallyFew", fn := fun _ => fun
  | [d1, d2] => { results := [.lit (.bool true)], args := [d1, d2] }
  | _ => none }
def tallyFewRow : OpenClaim := { program := "ytmoamadpaepcfaa", sum := "912196fbf8081904fc1dbc6b699fb63d58caf22d195cf96727f8ce33b94c6031", func := "aneroid/aneroidlaw22.TallyFew", spec := "tallyFew", inPlace := ["sync/atomic.LoadInt64", "sync/atomic.StoreInt64"], apart := false }
def TallyFewSaid : Prop := tallyFewRow.holds Try.pinned (OpenSpec.ofChange tallyFewSpec)

/-- ITS FALSE NEIGHBOUR: 'it returns false'. Refute it at one input. -/
def tallyFewWrong : ChangeSpec := { name := "tallyFew", fn := fun _ => fun
  | [d1, d2] => { results := [.lit (.bool false)], args := [d1, d2] }
  | _ => none }
def TallyFewWrongFalsely : Prop := tallyFewRow.holds Try.pinned (OpenSpec.ofChange tallyFewWrong)

/-- 'aneroidlaw25.ModesNew': WHATEVER THE INPUT: true; the input reads as it did. -/
def modesNewSpec : ChangeSpec := { name := "modesNew", fn := fun _ => fun
  | [d1, d2] => { results := [.lit (.bool true)], args := [d1, d2] }
  | _ => none }
def modesNewRow : OpenClaim := { program := "ytmoamadpaepcfaa", sum := "912196fbf8081904fc1dbc6b699fb63d58caf22d195cf96727f8ce33b94c6031", func := "aneroid/aneroidlaw25.ModesNew", spec := "modesNew", inPlace := ["sync/atomic.AddInt64", "sync/atomic.LoadInt64"], apart := false }
def ModesNewSaid : Prop := modesNewRow.holds Try.pinned (OpenSpec.ofChange modesNewSpec)

/-- ITS FALSE NEIGHBOUR: 'it returns false'. Refute it at one input. -/
def modesNewWrong : ChangeSpec := { name := "modesNew", fn := fun _ => fun
  | [d1, d2] => { results := [.lit (.bool false)], args := [d1, d2] }
  | _ => none }
def ModesNewWrongFalsely : Prop := modesNewRow.holds Try.pinned (OpenSpec.ofChange modesNewWrong)

/-- 'aneroidlaw25.ModesSteps': WHATEVER THE INPUT: true; the input reads as it did. -/
def modesStepsSpec : ChangeSpec := { name := "modesSteps", fn := fun _ => fun
  | [d1, d2, d3] => { results := [.lit (.bool true)], args := [d1, d2, d3] }
  | _ => none }
def modesStepsRow : OpenClaim := { program := "ytmoamadpaepcfaa", sum := "912196fbf8081904fc1dbc6b699fb63d58caf22d195cf96727f8ce33b94c6031", func := "aneroid/aneroidlaw25.ModesSteps", spec := "modesSteps", inPlace := ["sync/atomic.AddInt64", "sync/atomic.LoadInt64"], apart := false }
def ModesStepsSaid : Prop := modesStepsRow.holds Try.pinned (OpenSpec.ofChange modesStepsSpec)

/-- ITS FALSE NEIGHBOUR: 'it returns false'. Refute it at one input. -/
def modesStepsWrong : ChangeSpec := { name := "modesSteps", fn := fun _ => fun
  | [d1, d2, d3] => { results := [.lit (.bool false)], args := [d1, d2, d3] }
  | _ => none }
def ModesStepsWrongFalsely : Prop := modesStepsRow.holds Try.pinned (OpenSpec.ofChange modesStepsWrong)

/-- 'aneroidlaw25.ModesWaits': WHATEVER THE INPUT: true; the input reads as it did. -/
def modesWaitsSpec : ChangeSpec := { name := "modesWaits", fn := fun _ => fun
  | [d1, d2] => { results := [.lit (.bool true)], args := [d1, d2] }
  | _ => none }
def modesWaitsRow : OpenClaim := { program := "ytmoamadpaepcfaa", sum := "912196fbf8081904fc1dbc6b699fb63d58caf22d195cf96727f8ce33b94c6031", func := "aneroid/aneroidlaw25.ModesWaits", spec := "modesWaits", inPlace := ["sync/atomic.AddInt64"], apart := false }
def ModesWaitsSaid : Prop := modesWaitsRow.holds Try.pinned (OpenSpec.ofChange modesWaitsSpec)

/-- ITS FALSE NEIGHBOUR: 'it returns false'. Refute it at one input. -/
def modesWaitsWrong : ChangeSpec := { name := "modesWaits", fn := fun _ => fun
  | [d1, d2] => { results := [.lit (.bool false)], args := [d1, d2] }
  | _ => none }
def ModesWaitsWrongFalsely : Prop := modesWaitsRow.holds Try.pinned (OpenSpec.ofChange modesWaitsWrong)

/-- 'aneroidlaw25.ModesSteady': WHATEVER THE INPUT: true; the input reads as it did. -/
def modesSteadySpec : ChangeSpec := { name := "modesSteady", fn := fun _ => fun
  | [d1, d2, d3] => { results := [.lit (.bool true)], args := [d1, d2, d3] }
  | _ => none }
def modesSteadyRow : OpenClaim := { program := "ytmoamadpaepcfaa", sum := "912196fbf8081904fc1dbc6b699fb63d58caf22d195cf96727f8ce33b94c6031", func := "aneroid/aneroidlaw25.ModesSteady", spec := "modesSteady", inPlace := ["sync/atomic.AddInt64", "sync/atomic.LoadInt64"], apart := false }
def ModesSteadySaid : Prop := modesSteadyRow.holds Try.pinned (OpenSpec.ofChange modesSteadySpec)

/-- ITS FALSE NEIGHBOUR: 'it returns false'. Refute it at one input. -/
def modesSteadyWrong : ChangeSpec := { name := "modesSteady", fn := fun _ => fun
  | [d1, d2, d3] => { results := [.lit (.bool false)], args := [d1, d2, d3] }
  | _ => none }
def ModesSteadyWrongFalsely : Prop := modesSteadyRow.holds Try.pinned (OpenSpec.ofChange modesSteadyWrong)

/-- 'aneroidlaw42.AlertNexts': WHATEVER THE INPUT: true; the input reads as it did. -/
def alertNextsSpec : ChangeSpec := { name := "alertNexts", fn := fun _ => fun
  | [d1, d2, d3] => { results := [.lit (.bool true)], args := [d1, d2, d3] }
  | _ => none }
def alertNextsRow : OpenClaim := { program := "ytmoamadpaepcfaa", sum := "912196fbf8081904fc1dbc6b699fb63d58caf22d195cf96727f8ce33b94c6031", func := "aneroid/aneroidlaw42.AlertNexts", spec := "alertNexts", inPlace := ["sync/atomic.AddInt64", "sync/atomic.LoadInt64"], apart := false }
def AlertNextsSaid : Prop := alertNextsRow.holds Try.pinned (OpenSpec.ofChange alertNextsSpec)

/-- ITS FALSE NEIGHBOUR: 'it returns false'. Refute it at one input. -/
def alertNextsWrong : ChangeSpec := { name := "alertNexts", fn := fun _ => fun
  | [d1, d2, d3] => { results := [.lit (.bool false)], args := [d1, d2, d3] }
  | _ => none }
def AlertNextsWrongFalsely : Prop := alertNextsRow.holds Try.pinned (OpenSpec.ofChange alertNextsWrong)

/-- 'aneroidlaw42.AlertNew': WHATEVER THE INPUT: true; the input reads as it did. -/
def alertNewSpec : ChangeSpec := { name := "alertNew", fn := fun _ => fun
  | [d1, d2] => { results := [.lit (.bool true)], args := [d1, d2] }
  | _ => none }
def alertNewRow : OpenClaim := { program := "ytmoamadpaepcfaa", sum := "912196fbf8081904fc1dbc6b699fb63d58caf22d195cf96727f8ce33b94c6031", func := "aneroid/aneroidlaw42.AlertNew", spec := "alertNew", inPlace := ["sync/atomic.AddInt64", "sync/atomic.LoadInt64"], apart := false }
def AlertNewSaid : Prop := alertNewRow.holds Try.pinned (OpenSpec.ofChange alertNewSpec)

/-- ITS FALSE NEIGHBOUR: 'it returns false'. Refute it at one input. -/
def alertNewWrong : ChangeSpec := { name := "alertNew", fn := fun _ => fun
  | [d1, d2] => { results := [.lit (.bool false)], args := [d1, d2] }
  | _ => none }
def AlertNewWrongFalsely : Prop := alertNewRow.holds Try.pinned (OpenSpec.ofChange alertNewWrong)

/-- 'aneroidlaw42.AlertPlays': WHATEVER THE INPUT: true; the input reads as it did. -/
def alertPlaysSpec : ChangeSpec := { name := "alertPlays", fn := fun _ => fun
  | [d1, d2] => { results := [.lit (.bool true)], args := [d1, d2] }
  | _ => none }
def alertPlaysRow : OpenClaim := { program := "ytmoamadpaepcfaa", sum := "912196fbf8081904fc1dbc6b699fb63d58caf22d195cf96727f8ce33b94c6031", func := "aneroid/aneroidlaw42.AlertPlays", spec := "alertPlays", inPlace := ["sync/atomic.AddInt64", "sync/atomic.LoadInt64"], apart := false }
def AlertPlaysSaid : Prop := alertPlaysRow.holds Try.pinned (OpenSpec.ofChange alertPlaysSpec)

/-- ITS FALSE NEIGHBOUR: 'it returns false'. Refute it at one input. -/
def alertPlaysWrong : ChangeSpec := { name := "alertPlays", fn := fun _ => fun
  | [d1, d2] => { results := [.lit (.bool false)], args := [d1, d2] }
  | _ => none }
def AlertPlaysWrongFalsely : Prop := alertPlaysRow.holds Try.pinned (OpenSpec.ofChange alertPlaysWrong)

/-- 'aneroidlaw42.AlertHolds': WHATEVER THE INPUT: true; the input reads as it did. -/
def alertHoldsSpec : ChangeSpec := { name := "alertHolds", fn := fun _ => fun
  | [d1, d2, d3] => { results := [.lit (.bool true)], args := [d1, d2, d3] }
  | _ => none }
def alertHoldsRow : OpenClaim := { program := "ytmoamadpaepcfaa", sum := "912196fbf8081904fc1dbc6b699fb63d58caf22d195cf96727f8ce33b94c6031", func := "aneroid/aneroidlaw42.AlertHolds", spec := "alertHolds", inPlace := ["sync/atomic.AddInt64", "sync/atomic.LoadInt64"], apart := false }
def AlertHoldsSaid : Prop := alertHoldsRow.holds Try.pinned (OpenSpec.ofChange alertHoldsSpec)

/-- ITS FALSE NEIGHBOUR: 'it returns false'. Refute it at one input. -/
def alertHoldsWrong : ChangeSpec := { name := "alertHolds", fn := fun _ => fun
  | [d1, d2, d3] => { results := [.lit (.bool false)], args := [d1, d2, d3] }
  | _ => none }
def AlertHoldsWrongFalsely : Prop := alertHoldsRow.holds Try.pinned (OpenSpec.ofChange alertHoldsWrong)

/- THE SECOND FORM. 'bulk': how many values and letters a reading holds, each counted each time it is reached (what is shared counts as often as it is met; a slice's spare places count too). A statement '..UptoSaid' is the law's where the arguments, and the package variables that the reading takes, are together of bulk at most 1048576: NARROWER than '..Said'. Prove '..Said' where nothing that the law and all that it calls make is longer than what came in: it says more and counts as full. Else prove '..UptoSaid'. A law counts once. -/
mutual
def uptoBulk {H : Type} : DataW H → Nat
  | .lit (.string bytes) => bytes.length + 1
  | .lit _ => 1
  | .nil => 1
  | .ptr d => uptoBulk d + 1
  | .slice elems spare => uptoBulkAll elems + uptoBulkAll spare + 1
  | .agg parts => uptoBulkAll parts + 1
  | .iface _ d => uptoBulk d + 1
  | .map entries => uptoBulkEntries entries + 1
  | .held _ => 1
def uptoBulkAll {H : Type} : List (DataW H) → Nat
  | [] => 0
  | d :: r => uptoBulk d + uptoBulkAll r
def uptoBulkEntries {H : Type} : List (Lit × DataW H) → Nat
  | [] => 0
  | x :: r => uptoBulkEntry x + uptoBulkEntries r
def uptoBulkEntry {H : Type} : Lit × DataW H → Nat
  | (.string bytes, d) => bytes.length + uptoBulk d + 1
  | (_, d) => uptoBulk d + 1
 end
def uptoSmall : (H : Type) → List (DataW H) → Bool := fun _ ds => decide (uptoBulkAll ds ≤ 1048576)
def OpenSpec.upto (s : _root_.Go.ChangeSpec) : _root_.Go.OpenSpec := { _root_.Go.OpenSpec.ofChange s with cond := some uptoSmall }

/-- 'aneroidlaw22.TallyNew', WHERE WHAT IT READS IS OF BULK AT MOST 1048576: true; the input reads as it did. -/
def tallyNewUptoRow : OpenClaim := { program := "ytmoamadpaepcfaa", sum := "912196fbf8081904fc1dbc6b699fb63d58caf22d195cf96727f8ce33b94c6031", func := "aneroid/aneroidlaw22.TallyNew", spec := "tallyNew", inPlace := ["sync/atomic.StoreInt64", "sync/atomic.LoadInt64"], apart := false, narrowed := true }
def TallyNewUptoSaid : Prop := tallyNewUptoRow.holds Try.pinned (OpenSpec.upto tallyNewSpec)

/-- 'aneroidlaw22.TallySteps', WHERE WHAT IT READS IS OF BULK AT MOST 1048576: true; the input reads as it did. -/
def tallyStepsUptoRow : OpenClaim := { program := "ytmoamadpaepcfaa", sum := "912196fbf8081904fc1dbc6b699fb63d58caf22d195cf96727f8ce33b94c6031", func := "aneroid/aneroidlaw22.TallySteps", spec := "tallySteps", inPlace := ["sync/atomic.LoadInt64", "sync/atomic.StoreInt64"], apart := false, narrowed := true }
def TallyStepsUptoSaid : Prop := tallyStepsUptoRow.holds Try.pinned (OpenSpec.upto tallyStepsSpec)

/-- 'aneroidlaw22.TallySure', WHERE WHAT IT READS IS OF BULK AT MOST 1048576: true; the input reads as it did. -/
def tallySureUptoRow : OpenClaim := { program := "ytmoamadpaepcfaa", sum := "912196fbf8081904fc1dbc6b699fb63d58caf22d195cf96727f8ce33b94c6031", func := "aneroid/aneroidlaw22.TallySure", spec := "tallySure", inPlace := ["sync/atomic.LoadInt64", "sync/atomic.StoreInt64"], apart := false, narrowed := true }
def TallySureUptoSaid : Prop := tallySureUptoRow.holds Try.pinned (OpenSpec.upto tallySureSpec)

/-- 'aneroidlaw22.TallyFew', WHERE WHAT IT READS IS OF BULK AT MOST 1048576: true; the input reads as it did. -/
def tallyFewUptoRow : OpenClaim := { program := "ytmoamadpaepcfaa", sum := "912196fbf8081904fc1dbc6b699fb63d58caf22d195cf96727f8ce33b94c6031", func := "aneroid/aneroidlaw22.TallyFew", spec := "tallyFew", inPlace := ["sync/atomic.LoadInt64", "sync/atomic.StoreInt64"], apart := false, narrowed := true }
def TallyFewUptoSaid : Prop := tallyFewUptoRow.holds Try.pinned (OpenSpec.upto tallyFewSpec)

/-- 'aneroidlaw25.ModesNew', WHERE WHAT IT READS IS OF BULK AT MOST 1048576: true; the input reads as it did. -/
def modesNewUptoRow : OpenClaim := { program := "ytmoamadpaepcfaa", sum := "912196fbf8081904fc1dbc6b699fb63d58caf22d195cf96727f8ce33b94c6031", func := "aneroid/aneroidlaw25.ModesNew", spec := "modesNew", inPlace := ["sync/atomic.AddInt64", "sync/atomic.LoadInt64"], apart := false, narrowed := true }
def ModesNewUptoSaid : Prop := modesNewUptoRow.holds Try.pinned (OpenSpec.upto modesNewSpec)

/-- 'aneroidlaw25.ModesSteps', WHERE WHAT IT READS IS OF BULK AT MOST 1048576: true; the input reads as it did. -/
def modesStepsUptoRow : OpenClaim := { program := "ytmoamadpaepcfaa", sum := "912196fbf8081904fc1dbc6b699fb63d58caf22d195cf96727f8ce33b94c6031", func := "aneroid/aneroidlaw25.ModesSteps", spec := "modesSteps", inPlace := ["sync/atomic.AddInt64", "sync/atomic.LoadInt64"], apart := false, narrowed := true }
def ModesStepsUptoSaid : Prop := modesStepsUptoRow.holds Try.pinned (OpenSpec.upto modesStepsSpec)

/-- 'aneroidlaw25.ModesWaits', WHERE WHAT IT READS IS OF BULK AT MOST 1048576: true; the input reads as it did. -/
def modesWaitsUptoRow : OpenClaim := { program := "ytmoamadpaepcfaa", sum := "912196fbf8081904fc1dbc6b699fb63d58caf22d195cf96727f8ce33b94c6031", func := "aneroid/aneroidlaw25.ModesWaits", spec := "modesWaits", inPlace := ["sync/atomic.AddInt64"], apart := false, narrowed := true }
def ModesWaitsUptoSaid : Prop := modesWaitsUptoRow.holds Try.pinned (OpenSpec.upto modesWaitsSpec)

/-- 'aneroidlaw25.ModesSteady', WHERE WHAT IT READS IS OF BULK AT MOST 1048576: true; the input reads as it did. -/
def modesSteadyUptoRow : OpenClaim := { program := "ytmoamadpaepcfaa", sum := "912196fbf8081904fc1dbc6b699fb63d58caf22d195cf96727f8ce33b94c6031", func := "aneroid/aneroidlaw25.ModesSteady", spec := "modesSteady", inPlace := ["sync/atomic.AddInt64", "sync/atomic.LoadInt64"], apart := false, narrowed := true }
def ModesSteadyUptoSaid : Prop := modesSteadyUptoRow.holds Try.pinned (OpenSpec.upto modesSteadySpec)

/-- 'aneroidlaw42.AlertNexts', WHERE WHAT IT READS IS OF BULK AT MOST 1048576: true; the input reads as it did. -/
def alertNextsUptoRow : OpenClaim := { program := "ytmoamadpaepcfaa", sum := "912196fbf8081904fc1dbc6b699fb63d58caf22d195cf96727f8ce33b94c6031", func := "aneroid/aneroidlaw42.AlertNexts", spec := "alertNexts", inPlace := ["sync/atomic.AddInt64", "sync/atomic.LoadInt64"], apart := false, narrowed := true }
def AlertNextsUptoSaid : Prop := alertNextsUptoRow.holds Try.pinned (OpenSpec.upto alertNextsSpec)

/-- 'aneroidlaw42.AlertNew', WHERE WHAT IT READS IS OF BULK AT MOST 1048576: true; the input reads as it did. -/
def alertNewUptoRow : OpenClaim := { program := "ytmoamadpaepcfaa", sum := "912196fbf8081904fc1dbc6b699fb63d58caf22d195cf96727f8ce33b94c6031", func := "aneroid/aneroidlaw42.AlertNew", spec := "alertNew", inPlace := ["sync/atomic.AddInt64", "sync/atomic.LoadInt64"], apart := false, narrowed := true }
def AlertNewUptoSaid : Prop := alertNewUptoRow.holds Try.pinned (OpenSpec.upto alertNewSpec)

/-- 'aneroidlaw42.AlertPlays', WHERE WHAT IT READS IS OF BULK AT MOST 1048576: true; the input reads as it did. -/
def alertPlaysUptoRow : OpenClaim := { program := "ytmoamadpaepcfaa", sum := "912196fbf8081904fc1dbc6b699fb63d58caf22d195cf96727f8ce33b94c6031", func := "aneroid/aneroidlaw42.AlertPlays", spec := "alertPlays", inPlace := ["sync/atomic.AddInt64", "sync/atomic.LoadInt64"], apart := false, narrowed := true }
def AlertPlaysUptoSaid : Prop := alertPlaysUptoRow.holds Try.pinned (OpenSpec.upto alertPlaysSpec)

/-- 'aneroidlaw42.AlertHolds', WHERE WHAT IT READS IS OF BULK AT MOST 1048576: true; the input reads as it did. -/
def alertHoldsUptoRow : OpenClaim := { program := "ytmoamadpaepcfaa", sum := "912196fbf8081904fc1dbc6b699fb63d58caf22d195cf96727f8ce33b94c6031", func := "aneroid/aneroidlaw42.AlertHolds", spec := "alertHolds", inPlace := ["sync/atomic.AddInt64", "sync/atomic.LoadInt64"], apart := false, narrowed := true }
def AlertHoldsUptoSaid : Prop := alertHoldsUptoRow.holds Try.pinned (OpenSpec.upto alertHoldsSpec)

end Rows
end Go.Proofs.Ytmoamadpaepcfaa
