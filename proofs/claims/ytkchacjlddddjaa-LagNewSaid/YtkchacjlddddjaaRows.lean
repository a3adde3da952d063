/-
  No cell of these rows narrows 'for every input' (looked for: loops, veiled, ifaces, maps, wideKeys, modest, calm, conditions, laid).
  DERIVED. THE GIVEN ROWS OF THIS SEAT. 13 by the template 'for every input the law returns true; each argument reads behind the call as it read before'; 0 by the template 'total and deterministic' (their statements: YtkchacjlddddjaaTotals.lean).
  GIVEN WITH THE SEED: the statements are not yours to turn. If you find one false, say at which input.
  Laid BY PROGRAM, IN A SANDBOX (cutbox-rows.mjs): the forced cells as the released guide's own fill.sh prints them over the translation 072993c97ef3b8b1… (all of the seat's roots in one cut). By AI agents, Wed Nov 11 2026. No macro, syntax, notation, axiom, sorry.
-/
import Derived.Test.YtkchacjlddddjaaChecked
import GoSem.Claim
import GoSem.ClaimJoined
import GoSem.ClaimMapViews
import Derived.JoinedTies
import Derived.KernelRfl
namespace Go.Proofs.Ytkchacjlddddjaa
/- THE CELL 'sum', in the pinned program and in every row, IS THE sha256 OF THE DUMP (.gsa) THAT YtkchacjlddddjaaProg.lean LOADS. Nothing in Lean hashes anything: it is a label: what it is worth is what the hold of that sum in a sandbox is worth. -/
noncomputable def Try.pinned : Pinned := { name := "ytkchacjlddddjaa", sum := "072993c97ef3b8b12688f039aad30b8f7ba24bf070b839dd5244d53a618e5bc3", checked := Try.checked }
namespace Rows
def none {H : Type} : Left H := { results := [], args := [] }

/-- 'aneroidlaw16.LagNew': WHATEVER THE INPUT: true; the input reads as it did. -/
def lagNewSpec : ChangeSpec := { name := "lagNew", fn := fun _ => fun
  | [d1, d2, d3] => { results := [.lit (.bool true)], args := [d1, d2, d3] }
  | _ => none }
def lagNewRow : OpenClaim := { program := "ytkchacjlddddjaa", sum := "072993c97ef3b8b12688f039aad30b8f7ba24bf070b839dd5244d53a618e5bc3", func := "aneroid/aneroidlaw16.LagNew", spec := "lagNew", unfollowed := true, recurses := true, apart := false }
def LagNewSaid : Prop := lagNewRow.holds Try.pinned (OpenSpec.ofChange lagNewSpec)

/-- ITS FALSE NEIGHBOUR: 'it returns false'. Refute it at one input. -/
def lagNewWrong : ChangeSpec := { name := "lagNew", fn := fun _ => fun
  | [d1, d2, d3] => { results := [.lit (.bool false)], args := [d1, d2, d3] }
  | _ => none }
def LagNewWrongFalsely : Prop := lagNewRow.holds Try.pinned (OpenSpec.ofChange lagNewWrong)

/-- 'aneroidlaw16.LagSteps': WHATEVER THE INPUT: true; the input reads as it did. -/
def lagStepsSpec : ChangeSpec := { name := "lagSteps", fn := fun _ => fun
  | [d1, d2] => { results := [.lit (.bool true)], args := [d1, d2] }
  | _ => none }
def lagStepsRow : OpenClaim := { program := "ytkchacjlddddjaa", sum := "072993c97ef3b8b12688f039aad30b8f7ba24bf070b839dd5244d53a618e5bc3", func := "aneroid/aneroidlaw16.LagSteps", spec := "lagSteps", apart := false }
def LagStepsSaid : Prop := lagStepsRow.holds Try.pinned (OpenSpec.ofChange lagStepsSpec)

/-- ITS FALSE NEIGHBOUR: 'it returns false'. Refute it at one input. -/
def lagStepsWrong : ChangeSpec := { name := "lagSteps", fn := fun _ => fun
  | [d1, d2] => { results := [.lit (.bool false)], args := [d1, d2] }
  | _ => none }
def LagStepsWrongFalsely : Prop := lagStepsRow.holds Try.pinned (OpenSpec.ofChange lagStepsWrong)

/-- 'aneroidlaw16.LagHolds': WHATEVER THE INPUT: true; the input reads as it did. -/
def lagHoldsSpec : ChangeSpec := { name := "lagHolds", fn := fun _ => fun
  | [d1, d2, d3] => { results := [.lit (.bool true)], args := [d1, d2, d3] }
  | _ => none }
def lagHoldsRow : OpenClaim := { program := "ytkchacjlddddjaa", sum := "072993c97ef3b8b12688f039aad30b8f7ba24bf070b839dd5244d53a618e5bc3", func := "aneroid/aneroidlaw16.LagHolds", spec := "lagHolds", apart := false }
def LagHoldsSaid : Prop := lagHoldsRow.holds Try.pinned (OpenSpec.ofChange lagHoldsSpec)

/-- ITS FALSE NEIGHBOUR: 'it returns false'. Refute it at one input. -/
def lagHoldsWrong : ChangeSpec := { name := "lagHolds", fn := fun _ => fun
  | [d1, d2, d3] => { results := [.lit (.bool false)], args := [d1, d2, d3] }
  | _ => none }
def LagHoldsWrongFalsely : Prop := lagHoldsRow.holds Try.pinned (OpenSpec.ofChange lagHoldsWrong)

/-- 'aneroidlaw21.PairNew': WHATEVER THE INPUT: true; the input reads as it did. -/
def pairNewSpec : ChangeSpec := { name := "pairNew", fn := fun _ => fun
  | [d1, d2, d3] => { results := [.lit (.bool true)], args := [d1, d2, d3] }
  | _ => none }
def pairNewRow : OpenClaim := { program := "ytkchacjlddddjaa", sum := "072993c97ef3b8b12688f039aad30b8f7ba24bf070b839dd5244d53a618e5bc3", func := "aneroid/aneroidlaw21.PairNew", spec := "pairNew", apart := false }
def PairNewSaid : Prop := pairNewRow.holds Try.pinned (OpenSpec.ofChange pairNewSpec)

/-- ITS FALSE NEIGHBOUR: 'it returns false'. Refute it at one input. -/
def pairNewWrong : ChangeSpec := { name := "pairNew", fn := fun _ => fun
  | [d1, d2, d3] => { results := [.lit (.bool false)], args := [d1, d2, d3] }
  | _ => none }
def PairNewWrongFalsely : Prop := pairNewRow.holds Try.pinned (OpenSpec.ofChange pairNewWrong)

/-- 'aneroidlaw21.PairSteps': WHATEVER THE INPUT: true; the input reads as it did. -/
def pairStepsSpec : ChangeSpec := { name := "pairSteps", fn := fun _ => fun
  | [d1, d2] => { results := [.lit (.bool true)], args := [d1, d2] }
  | _ => none }
def pairStepsRow : OpenClaim := { program := "ytkchacjlddddjaa", sum := "072993c97ef3b8b12688f039aad30b8f7ba24bf070b839dd5244d53a618e5bc3", func := "aneroid/aneroidlaw21.PairSteps", spec := "pairSteps", apart := false }
def PairStepsSaid : Prop := pairStepsRow.holds Try.pinned (OpenSpec.ofChange pairStepsSpec)

/-- ITS FALSE NEIGHBOUR: 'it returns false'. Refute it at one input. -/
def pairStepsWrong : ChangeSpec := { name := "pairSteps", fn := fun _ => fun
  | [d1, d2] => { results := [.lit (.bool false)], args := [d1, d2] }
  | _ => none }
def PairStepsWrongFalsely : Prop := pairStepsRow.holds Try.pinned (OpenSpec.ofChange pairStepsWrong)

/-- 'aneroidlaw23.SignsNew': WHATEVER THE INPUT: true; the input reads as it did. -/
def signsNewSpec : ChangeSpec := { name := "signsNew", fn := fun _ => fun
  | [d1, d2] => { results := [.lit (.bool true)], args := [d1, d2] }
  | _ => none }
def signsNewRow : OpenClaim := { program := "ytkchacjlddddjaa", sum := "072993c97ef3b8b12688f039aad30b8f7ba24bf070b839dd5244d53a618e5bc3", func := "aneroid/aneroidlaw23.SignsNew", spec := "signsNew", apart := false }
def SignsNewSaid : Prop := signsNewRow.holds Try.pinned (OpenSpec.ofChange signsNewSpec)

/-- ITS FALSE NEIGHBOUR: 'it returns false'. Refute it at one input. -/
def signsNewWrong : ChangeSpec := { name := "signsNew", fn := fun _ => fun
  | [d1, d2] => { results := [.lit (.bool false)], args := [d1, d2] }
  | _ => none }
def SignsNewWrongFalsely : Prop := signsNewRow.holds Try.pinned (OpenSpec.ofChange signsNewWrong)

/-- 'aneroidlaw23.SignsSteps': WHATEVER THE INPUT: true; the input reads as it did. -/
def signsStepsSpec : ChangeSpec := { name := "signsSteps", fn := fun _ => fun
  | [d1, d2, d3] => { results := [.lit (.bool true)], args := [d1, d2, d3] }
  | _ => none }
def signsStepsRow : OpenClaim := { program := "ytkchacjlddddjaa", sum := "072993c97ef3b8b12688f039aad30b8f7ba24bf070b839dd5244d53a618e5bc3", func := "aneroid/aneroidlaw23.SignsSteps", spec := "signsSteps", apart := false }
def SignsStepsSaid : Prop := signsStepsRow.holds Try.pinned (OpenSpec.ofChange signsStepsSpec)

/-- ITS FALSE NEIGHBOUR: 'it returns false'. Refute it at one input. -/
def signsStepsWrong : ChangeSpec := { name := "signsSteps", fn := fun _ => fun
  | [d1, d2, d3] => { results := [.lit (.bool false)], args := [d1, d2, d3] }
  | _ => none }
def SignsStepsWrongFalsely : Prop := signsStepsRow.holds Try.pinned (OpenSpec.ofChange signsStepsWrong)

/-- 'aneroidlaw23.SignsClear': WHATEVER THE INPUT: true; the input reads as it did. -/
def signsClearSpec : ChangeSpec := { name := "signsClear", fn := fun _ => fun
  | [d1, d2, d3] => { results := [.lit (.bool true)], args := [d1, d2, d3] }
  | _ => none }
def signsClearRow : OpenClaim := { program := "ytkchacjlddddjaa", sum := "072993c97ef3b8b12688f039aad30b8f7ba24bf070b839dd5244d53a618e5bc3", func := "aneroid/aneroidlaw23.SignsClear", spec := "signsClear", apart := false }
def SignsClearSaid : Prop := signsClearRow.holds Try.pinned (OpenSpec.ofChange signsClearSpec)

/-- ITS FALSE NEIGHBOUR: 'it returns false'. Refute it at one input. -/
def signsClearWrong : ChangeSpec := { name := "signsClear", fn := fun _ => fun
  | [d1, d2, d3] => { results := [.lit (.bool false)], args := [d1, d2, d3] }
  | _ => none }
def SignsClearWrongFalsely : Prop := signsClearRow.holds Try.pinned (OpenSpec.ofChange signsClearWrong)

/-- 'aneroidlaw23.SignsStill': WHATEVER THE INPUT: true; the input reads as it did. -/
def signsStillSpec : ChangeSpec := { name := "signsStill", fn := fun _ => fun
  | [d1, d2, d3] => { results := [.lit (.bool true)], args := [d1, d2, d3] }
  | _ => none }
def signsStillRow : OpenClaim := { program := "ytkchacjlddddjaa", sum := "072993c97ef3b8b12688f039aad30b8f7ba24bf070b839dd5244d53a618e5bc3", func := "aneroid/aneroidlaw23.SignsStill", spec := "signsStill", apart := false }
def SignsStillSaid : Prop := signsStillRow.holds Try.pinned (OpenSpec.ofChange signsStillSpec)

/-- ITS FALSE NEIGHBOUR: 'it returns false'. Refute it at one input. -/
def signsStillWrong : ChangeSpec := { name := "signsStill", fn := fun _ => fun
  | [d1, d2, d3] => { results := [.lit (.bool false)], args := [d1, d2, d3] }
  | _ => none }
def SignsStillWrongFalsely : Prop := signsStillRow.holds Try.pinned (OpenSpec.ofChange signsStillWrong)

/-- 'aneroidlaw26.FadeNew': WHATEVER THE INPUT: true; the input reads as it did. -/
def fadeNewSpec : ChangeSpec := { name := "fadeNew", fn := fun _ => fun
  | [d1, d2, d3] => { results := [.lit (.bool true)], args := [d1, d2, d3] }
  | _ => none }
def fadeNewRow : OpenClaim := { program := "ytkchacjlddddjaa", sum := "072993c97ef3b8b12688f039aad30b8f7ba24bf070b839dd5244d53a618e5bc3", func := "aneroid/aneroidlaw26.FadeNew", spec := "fadeNew", apart := false }
def FadeNewSaid : Prop := fadeNewRow.holds Try.pinned (OpenSpec.ofChange fadeNewSpec)

/-- ITS FALSE NEIGHBOUR: 'it returns false'. Refute it at one input. -/
def fadeNewWrong : ChangeSpec := { name := "fadeNew", fn := fun _ => fun
  | [d1, d2, d3] => { results := [.lit (.bool false)], args := [d1, d2, d3] }
  | _ => none }
def FadeNewWrongFalsely : Prop := fadeNewRow.holds Try.pinned (OpenSpec.ofChange fadeNewWrong)

/-- 'aneroidlaw26.FadeSteps': WHATEVER THE INPUT: true; the input reads as it did. -/
def fadeStepsSpec : ChangeSpec := { name := "fadeSteps", fn := fun _ => fun
  | [d1, d2] => { results := [.lit (.bool true)], args := [d1, d2] }
  | _ => none }
def fadeStepsRow : OpenClaim := { program := "ytkchacjlddddjaa", sum := "072993c97ef3b8b12688f039aad30b8f7ba24bf070b839dd5244d53a618e5bc3", func := "aneroid/aneroidlaw26.FadeSteps", spec := "fadeSteps", apart := false }
def FadeStepsSaid : Prop := fadeStepsRow.holds Try.pinned (OpenSpec.ofChange fadeStepsSpec)

/-- ITS FALSE NEIGHBOUR: 'it returns false'. Refute it at one input. -/
def fadeStepsWrong : ChangeSpec := { name := "fadeSteps", fn := fun _ => fun
  | [d1, d2] => { results := [.lit (.bool false)], args := [d1, d2] }
  | _ => none }
def FadeStepsWrongFalsely : Prop := fadeStepsRow.holds Try.pinned (OpenSpec.ofChange fadeStepsWrong)

/-- 'aneroidlaw26.FadeBetween': WHATEVER THE INPUT: true; the input reads as it did. -/
def fadeBetweenSpec : ChangeSpec := { name := "fadeBetween", fn := fun _ => fun
  | [d1, d2, d3] => { results := [.lit (.bool true)], args := [d1, d2, d3] }
  | _ => none }
def fadeBetweenRow : OpenClaim := { program := "ytkchacjlddddjaa", sum := "072993c97ef3b8b12688f039aad30b8f7ba24bf070b839dd5244d53a618e5bc3", func := "aneroid/aneroidlaw26.FadeBetween", spec := "fadeBetween", apart := false }
def FadeBetweenSaid : Prop := fadeBetweenRow.holds Try.pinned (OpenSpec.ofChange fadeBetweenSpec)

/-- ITS FALSE NEIGHBOUR: 'it returns false'. Refute it at one input. -/
def fadeBetweenWrong : ChangeSpec := { name := "fadeBetween", fn := fun _ => fun
  | [d1, d2, d3] => { results := [.lit (.bool false)], args := [d1, d2, d3] }
  | _ => none }
def FadeBetweenWrongFalsely : Prop := fadeBetweenRow.holds Try.pinned (OpenSpec.ofChange fadeBetweenWrong)

/-- 'aneroidlaw26.FadeEnds': WHATEVER THE INPUT: true; the input reads as it did. -/
def fadeEndsSpec : ChangeSpec := { name := "fadeEnds", fn := fun _ => fun
  | [d1, d2] => { results := [.lit (.bool true)], args := [d1, d2] }
  | _ => none }
def fadeEndsRow : OpenClaim := { program := "ytkchacjlddddjaa", sum := "072993c97ef3b8b12688f039aad30b8f7ba24bf070b839dd5244d53a618e5bc3", func := "aneroid/aneroidlaw26.FadeEnds", spec := "fadeEnds", apart := false }
def FadeEndsSaid : Prop := fadeEndsRow.holds Try.pinned (OpenSpec.ofChange fadeEndsSpec)

/-- ITS FALSE NEIGHBOUR: 'it returns false'. Refute it at one input. -/
def fadeEndsWrong : ChangeSpec := { name := "fadeEnds", fn := fun _ => fun
  | [d1, d2] => { results := [.lit (.bool false)], args := [d1, d2] }
  | _ => none }
def FadeEndsWrongFalsely : Prop := fadeEndsRow.holds Try.pinned (OpenSpec.ofChange fadeEndsWrong)

/- THE SECOND FORM. 'bulk': how many values and letters a reading holds, each counted each time it is reached (what is shared counts as often as it is met; a slice's spare places count too). A statement '..UptoSaid' is the law's where the arguments, and the package variables that the reading takes, are together of bulk at most 1048576: NARROWER than '..Said'. Prove '..Said' where nothing that the law and all that it calls make is longer than what came in: it says more and counts as full. Else prove '..UptoSaid'. A law counts once. -/
mutual
def uptoBulk {H : Type} : DataW H → Nat
  | .lit (.string bytes) => bytes.length + 1
  | .lit _ => 1
  | .nil => 1
  | .ptr d => uptoBulk d + 1
  | .slice elems spare => uptoBulkAll elems + uptoBulkAll spare + 1
  | .agg parts => uptoBulkAll parts + 1
  | .iface _ d => uptoBulk d + 1
  | .map entries => uptoBulkEntries entries + 1
  | .held _ => 1
def uptoBulkAll {H : Type} : List (DataW H) → Nat
  | [] => 0
  | d :: r => uptoBulk d + uptoBulkAll r
def uptoBulkEntries {H : Type} : List (Lit × DataW H) → Nat
  | [] => 0
  | x :: r => uptoBulkEntry x + uptoBulkEntries r
def uptoBulkEntry {H : Type} : Lit × DataW H → Nat
  | (.string bytes, d) => bytes.length + uptoBulk d + 1
  | (_, d) => uptoBulk d + 1
 end
def uptoSmall : (H : Type) → List (DataW H) → Bool := fun _ ds => decide (uptoBulkAll ds ≤ 1048576)
def OpenSpec.upto (s : _root_.Go.ChangeSpec) : _root_.Go.OpenSpec := { _root_.Go.OpenSpec.ofChange s with cond := some uptoSmall }

/-- 'aneroidlaw16.LagNew', WHERE WHAT IT READS IS OF BULK AT MOST 1048576: true; the input reads as it did. -/
def lagNewUptoRow : OpenClaim := { program := "ytkchacjlddddjaa", sum := "072993c97ef3b8b12688f039aad30b8f7ba24bf070b839dd5244d53a618e5bc3", func := "aneroid/aneroidlaw16.LagNew", spec := "lagNew", unfollowed := true, recurses := true, apart := false, narrowed := true }
def LagNewUptoSaid : Prop := lagNewUptoRow.holds Try.pinned (OpenSpec.upto lagNewSpec)

/-- 'aneroidlaw16.LagSteps', WHERE WHAT IT READS IS OF BULK AT MOST 1048576: true; the input reads as it did. -/
def lagStepsUptoRow : OpenClaim := { program := "ytkchacjlddddjaa", sum := "072993c97ef3b8b12688f039aad30b8f7ba24bf070b839dd5244d53a618e5bc3", func := "aneroid/aneroidlaw16.LagSteps", spec := "lagSteps", apart := false, narrowed := true }
def LagStepsUptoSaid : Prop := lagStepsUptoRow.holds Try.pinned (OpenSpec.upto lagStepsSpec)

/-- 'aneroidlaw16.LagHolds', WHERE WHAT IT READS IS OF BULK AT MOST 1048576: true; the input reads as it did. -/
def lagHoldsUptoRow : OpenClaim := { program := "ytkchacjlddddjaa", sum := "072993c97ef3b8b12688f039aad30b8f7ba24bf070b839dd5244d53a618e5bc3", func := "aneroid/aneroidlaw16.LagHolds", spec := "lagHolds", apart := false, narrowed := true }
def LagHoldsUptoSaid : Prop := lagHoldsUptoRow.holds Try.pinned (OpenSpec.upto lagHoldsSpec)

/-- 'aneroidlaw21.PairNew', WHERE WHAT IT READS IS OF BULK AT MOST 1048576: true; the input reads as it did. -/
def pairNewUptoRow : OpenClaim := { program := "ytkchacjlddddjaa", sum := "072993c97ef3b8b12688f039aad30b8f7ba24bf070b839dd5244d53a618e5bc3", func := "aneroid/aneroidlaw21.PairNew", spec := "pairNew", apart := false, narrowed := true }
def PairNewUptoSaid : Prop := pairNewUptoRow.holds Try.pinned (OpenSpec.upto pairNewSpec)

/-- 'aneroidlaw21.PairSteps', WHERE WHAT IT READS IS OF BULK AT MOST 1048576: true; the input reads as it did. -/
def pairStepsUptoRow : OpenClaim := { program := "ytkchacjlddddjaa", sum := "072993c97ef3b8b12688f039aad30b8f7ba24bf070b839dd5244d53a618e5bc3", func := "aneroid/aneroidlaw21.PairSteps", spec := "pairSteps", apart := false, narrowed := true }
def PairStepsUptoSaid : Prop := pairStepsUptoRow.holds Try.pinned (OpenSpec.upto pairStepsSpec)

/-- 'aneroidlaw23.SignsNew', WHERE WHAT IT READS IS OF BULK AT MOST 1048576: true; the input reads as it did. -/
def signsNewUptoRow : OpenClaim := { program := "ytkchacjlddddjaa", sum := "072993c97ef3b8b12688f039aad30b8f7ba24bf070b839dd5244d53a618e5bc3", func := "aneroid/aneroidlaw23.SignsNew", spec := "signsNew", apart := false, narrowed := true }
def SignsNewUptoSaid : Prop := signsNewUptoRow.holds Try.pinned (OpenSpec.upto signsNewSpec)

/-- 'aneroidlaw23.SignsSteps', WHERE WHAT IT READS IS OF BULK AT MOST 1048576: true; the input reads as it did. -/
def signsStepsUptoRow : OpenClaim := { program := "ytkchacjlddddjaa", sum := "072993c97ef3b8b12688f039aad30b8f7ba24bf070b839dd5244d53a618e5bc3", func := "aneroid/aneroidlaw23.SignsSteps", spec := "signsSteps", apart := false, narrowed := true }
def SignsStepsUptoSaid : Prop := signsStepsUptoRow.holds Try.pinned (OpenSpec.upto signsStepsSpec)

/-- 'aneroidlaw23.SignsClear', WHERE WHAT IT READS IS OF BULK AT MOST 1048576: true; the input reads as it did. -/
def signsClearUptoRow : OpenClaim := { program := "ytkchacjlddddjaa", sum := "072993c97ef3b8b12688f039aad30b8f7ba24bf070b839dd5244d53a618e5bc3", func := "aneroid/aneroidlaw23.SignsClear", spec := "signsClear", apart := false, narrowed := true }
def SignsClearUptoSaid : Prop := signsClearUptoRow.holds Try.pinned (OpenSpec.upto signsClearSpec)

/-- 'aneroidlaw23.SignsStill', WHERE WHAT IT READS IS OF BULK AT MOST 1048576: true; the input reads as it did. -/
def signsStillUptoRow : OpenClaim := { program := "ytkchacjlddddjaa", sum := "072993c97ef3b8b12688f039aad30b8f7ba24bf070b839dd5244d53a618e5bc3", func := "aneroid/aneroidlaw23.SignsStill", spec := "signsStill", apart := false, narrowed := true }
def SignsStillUptoSaid : Prop := signsStillUptoRow.holds Try.pinned (OpenSpec.upto signsStillSpec)

/-- 'aneroidlaw26.FadeNew', WHERE WHAT IT READS IS OF BULK AT MOST 1048576: true; the input reads as it did. -/
def fadeNewUptoRow : OpenClaim := { program := "ytkchacjlddddjaa", sum := "072993c97ef3b8b12688f039aad30b8f7ba24bf070b839dd5244d53a618e5bc3", func := "aneroid/aneroidlaw26.FadeNew", spec := "fadeNew", apart := false, narrowed := true }
def FadeNewUptoSaid : Prop := fadeNewUptoRow.holds Try.pinned (OpenSpec.upto fadeNewSpec)

/-- 'aneroidlaw26.FadeSteps', WHERE WHAT IT READS IS OF BULK AT MOST 1048576: true; the input reads as it did. -/
def fadeStepsUptoRow : OpenClaim := { program := "ytkchacjlddddjaa", sum := "072993c97ef3b8b12688f039aad30b8f7ba24bf070b839dd5244d53a618e5bc3", func := "aneroid/aneroidlaw26.FadeSteps", spec := "fadeSteps", apart := false, narrowed := true }
def FadeStepsUptoSaid : Prop := fadeStepsUptoRow.holds Try.pinned (OpenSpec.upto fadeStepsSpec)

/-- 'aneroidlaw26.FadeBetween', WHERE WHAT IT READS IS OF BULK AT MOST 1048576: true; the input reads as it did. -/
def fadeBetweenUptoRow : OpenClaim := { program := "ytkchacjlddddjaa", sum := "072993c97ef3b8b12688f039aad30b8f7ba24bf070b839dd5244d53a618e5bc3", func := "aneroid/aneroidlaw26.FadeBetween", spec := "fadeBetween", apart := false, narrowed := true }
def FadeBetweenUptoSaid : Prop := fadeBetweenUptoRow.holds Try.pinned (OpenSpec.upto fadeBetweenSpec)

/-- 'aneroidlaw26.FadeEnds', WHERE WHAT IT READS IS OF BULK AT MOST 1048576: true; the input reads as it did. -/
def fadeEndsUptoRow : OpenClaim := { program := "ytkchacjlddddjaa", sum := "072993c97ef3b8b12688f039aad30b8f7ba24bf070b839dd5244d53a618e5bc3", func := "aneroid/aneroidlaw26.FadeEnds", spec := "fadeEnds", apart := false, narrowed := true }
def FadeEndsUptoSaid : Prop := fadeEndsUptoRow.holds Try.pinned (OpenSpec.upto fadeEndsSpec)

end Rows
end Go.Proofs.Ytkchacjlddddjaa
