/-
  No cell of these rows narrows 'for every input' (looked for: loops, veiled, ifaces, maps, wideKeys, modest, calm, conditions, laid).
  DERIVED. THE GIVEN ROWS OF THIS SEAT. 12 by the template 'for every input the law returns true; each argument reads behind the call as it read before'; 0 by the template 'total and deterministic' (their statements: YtdpiamgglfejbaaTotals.lean).
  GIVEN WITH THE SEED: the statements are not yours to turn. If you find one false, say at which input.
  Laid BY PROGRAM, IN A SANDBOX (cutbox-rows.mjs): the forced cells as the released guide's own fill.sh prints them over the translation 65158b3a4d925534… (all of the seat's roots in one cut). By AI agents, Wed Nov 11 2026. No macro, syntax, notation, axiom, sorry.
-/
import Derived.Test.YtdpiamgglfejbaaChecked
import GoSem.Claim
import GoSem.ClaimJoined
import GoSem.ClaimMapViews
import Derived.JoinedTies
import Derived.KernelRfl
namespace Go.Proofs.Ytdpiamgglfejbaa
/- THE CELL 'sum', in the pinned program and in every row, IS THE sha256 OF THE DUMP (.gsa) THAT YtdpiamgglfejbaaProg.lean LOADS. Nothing in Lean hashes anything: it is a label: what it is worth is what the hold of that sum in a sandbox is worth. -/
noncomputable def Try.pinned : Pinned := { name := "ytdpiamgglfejbaa", sum := "65158b3a4d925534ffdfa6bdcb014feddd9f3f827dda40e1d779481a0e84cc81", checked := Try.checked }
namespace Rows
def none {H : Type} : Left H := { results := [], args := [] }

/-- 'aneroidlaw01.SatClips': WHATEVER THE INPUT: true; the input reads as it did. -/
def satClipsSpec : ChangeSpec := { name := "satClips", fn := fun _ => fun
  | [d] => { results := [.lit (.bool true)], args := [d] }
  | _ => none }
def satClipsRow : OpenClaim := { program := "ytdpiamgglfejbaa", sum := "65158b3a4d925534ffdfa6bdcb014feddd9f3f827dda40e1d779481a0e84cc81", func := "aneroid/aneroidlaw01.SatClips", spec := "satClips", inPlace := ["sync/atomic.StoreUint32", "sync/atomic.LoadUint32"], apart := false }
def SatClipsSaid : Prop := satClipsRow.holds Try.pinned (OpenSpec.ofChange satClipsSpec)

/-- ITS FALSE NEIGHBOUR: 'it returns false'. Refute it at one input. -/
def satClipsWrong : ChangeSpec := { name := "satClips", fn := fun _ => fun
  | [d] => { results := [.lit (.bool false)], args := [d] }
  | _ => none }
def SatClipsWrongFalsely : Prop := satClipsRow.holds Try.pinned (OpenSpec.ofChange satClipsWrong)

/-- 'aneroidlaw01.SatSums': WHATEVER THE INPUT: true; the input reads as it did. -/
def satSumsSpec : ChangeSpec := { name := "satSums", fn := fun _ => fun
  | [d1, d2] => { results := [.lit (.bool true)], args := [d1, d2] }
  | _ => none }
def satSumsRow : OpenClaim := { program := "ytdpiamgglfejbaa", sum := "65158b3a4d925534ffdfa6bdcb014feddd9f3f827dda40e1d779481a0e84cc81", func := "aneroid/aneroidlaw01.SatSums", spec := "satSums", inPlace := ["sync/atomic.StoreUint32", "sync/atomic.LoadUint32"], apart := false }
def SatSumsSaid : Prop := satSumsRow.holds Try.pinned (OpenSpec.ofChange satSumsSpec)

/-- ITS FALSE NEIGHBOUR: 'it returns false'. Refute it at one input. -/
def satSumsWrong : ChangeSpec := { name := "satSums", fn := fun _ => fun
  | [d1, d2] => { results := [.lit (.bool false)], args := [d1, d2] }
  | _ => none }
def SatSumsWrongFalsely : Prop := satSumsRow.holds Try.pinned (OpenSpec.ofChange satSumsWrong)

/-- 'aneroidlaw01.SatMany': WHATEVER THE INPUT: true; the input reads as it did. -/
def satManySpec : ChangeSpec := { name := "satMany", fn := fun _ => fun
  | [d] => { results := [.lit (.bool true)], args := [d] }
  | _ => none }
def satManyRow : OpenClaim := { program := "ytdpiamgglfejbaa", sum := "65158b3a4d925534ffdfa6bdcb014feddd9f3f827dda40e1d779481a0e84cc81", func := "aneroid/aneroidlaw01.SatMany", spec := "satMany", inPlace := ["sync/atomic.StoreUint32", "sync/atomic.LoadUint32"], apart := false }
def SatManySaid : Prop := satManyRow.holds Try.pinned (OpenSpec.ofChange satManySpec)

/-- ITS FALSE NEIGHBOUR: 'it returns false'. Refute it at one input. -/
def satManyWrong : ChangeSpec := { name := "satMany", fn := fun _ => fun
  | [d] => { results := [.lit (.bool false)], args := [d] }
  | _ => none }
def SatManyWrongFalsely : Prop := satManyRow.holds Try.pinned (OpenSpec.ofChange satManyWrong)

/-- 'aneroidlaw01.SatWithin': WHATEVER THE INPUT: true; the input reads as it did. -/
def satWithinSpec : ChangeSpec := { name := "satWithin", fn := fun _ => fun
  | [d1, d2, d3] => { results := [.lit (.bool true)], args := [d1, d2, d3] }
  | _ => none }
def satWithinRow : OpenClaim := { program := "ytdpiamgglfejbaa", sum := "65158b3a4d925534ffdfa6bdcb014feddd9f3f827dda40e1d779481a0e84cc81", func := "aneroid/aneroidlaw01.SatWithin", spec := "satWithin", inPlace := ["sync/atomic.StoreUint32", "sync/atomic.LoadUint32"], apart := false }
def SatWithinSaid : Prop := satWithinRow.holds Try.pinned (OpenSpec.ofChange satWithinSpec)

/-- ITS FALSE NEIGHBOUR: 'it returns false'. Refute it at one input. -/
def satWithinWrong : ChangeSpec := { name := "satWithin", fn := fun _ => fun
  | [d1, d2, d3] => { results := [.lit (.bool false)], args := [d1, d2, d3] }
  | _ => none }
def SatWithinWrongFalsely : Prop := satWithinRow.holds Try.pinned (OpenSpec.ofChange satWithinWrong)

/-- 'aneroidlaw21.PairVerdicts': WHATEVER THE INPUT: true; the input reads as it did. -/
def pairVerdictsSpec : ChangeSpec := { name := "pairVerdicts", fn := fun _ => fun
  | [d1, d2, d3] => { results := [.lit (.bool true)], args := [d1, d2, d3] }
  | _ => none }
def pairVerdictsRow : OpenClaim := { program := "ytdpiamgglfejbaa", sum := "65158b3a4d925534ffdfa6bdcb014feddd9f3f827dda40e1d779481a0e84cc81", func := "aneroid/aneroidlaw21.PairVerdicts", spec := "pairVerdicts", apart := false }
def PairVerdictsSaid : Prop := pairVerdictsRow.holds Try.pinned (OpenSpec.ofChange pairVerdictsSpec)

/-- ITS FALSE NEIGHBOUR: 'it returns false'. Refute it at one input. -/
def pairVerdictsWrong : ChangeSpec := { name := "pairVerdicts", fn := fun _ => fun
  | [d1, d2, d3] => { results := [.lit (.bool false)], args := [d1, d2, d3] }
  | _ => none }
def PairVerdictsWrongFalsely : Prop := pairVerdictsRow.holds Try.pinned (OpenSpec.ofChange pairVerdictsWrong)

/-- 'aneroidlaw21.PairEither': WHATEVER THE INPUT: true; the input reads as it did. -/
def pairEitherSpec : ChangeSpec := { name := "pairEither", fn := fun _ => fun
  | [d1, d2, d3] => { results := [.lit (.bool true)], args := [d1, d2, d3] }
  | _ => none }
def pairEitherRow : OpenClaim := { program := "ytdpiamgglfejbaa", sum := "65158b3a4d925534ffdfa6bdcb014feddd9f3f827dda40e1d779481a0e84cc81", func := "aneroid/aneroidlaw21.PairEither", spec := "pairEither", apart := false }
def PairEitherSaid : Prop := pairEitherRow.holds Try.pinned (OpenSpec.ofChange pairEitherSpec)

/-- ITS FALSE NEIGHBOUR: 'it returns false'. Refute it at one input. -/
def pairEitherWrong : ChangeSpec := { name := "pairEither", fn := fun _ => fun
  | [d1, d2, d3] => { results := [.lit (.bool false)], args := [d1, d2, d3] }
  | _ => none }
def PairEitherWrongFalsely : Prop := pairEitherRow.holds Try.pinned (OpenSpec.ofChange pairEitherWrong)

/-- 'aneroidlaw24.VoteMost': WHATEVER THE INPUT: true; the input reads as it did. -/
def voteMostSpec : ChangeSpec := { name := "voteMost", fn := fun _ => fun
  | [d1, d2, d3] => { results := [.lit (.bool true)], args := [d1, d2, d3] }
  | _ => none }
def voteMostRow : OpenClaim := { program := "ytdpiamgglfejbaa", sum := "65158b3a4d925534ffdfa6bdcb014feddd9f3f827dda40e1d779481a0e84cc81", func := "aneroid/aneroidlaw24.VoteMost", spec := "voteMost", apart := false }
def VoteMostSaid : Prop := voteMostRow.holds Try.pinned (OpenSpec.ofChange voteMostSpec)

/-- ITS FALSE NEIGHBOUR: 'it returns false'. Refute it at one input. -/
def voteMostWrong : ChangeSpec := { name := "voteMost", fn := fun _ => fun
  | [d1, d2, d3] => { results := [.lit (.bool false)], args := [d1, d2, d3] }
  | _ => none }
def VoteMostWrongFalsely : Prop := voteMostRow.holds Try.pinned (OpenSpec.ofChange voteMostWrong)

/-- 'aneroidlaw24.VoteTurns': WHATEVER THE INPUT: true; the input reads as it did. -/
def voteTurnsSpec : ChangeSpec := { name := "voteTurns", fn := fun _ => fun
  | [d1, d2, d3] => { results := [.lit (.bool true)], args := [d1, d2, d3] }
  | _ => none }
def voteTurnsRow : OpenClaim := { program := "ytdpiamgglfejbaa", sum := "65158b3a4d925534ffdfa6bdcb014feddd9f3f827dda40e1d779481a0e84cc81", func := "aneroid/aneroidlaw24.VoteTurns", spec := "voteTurns", apart := false }
def VoteTurnsSaid : Prop := voteTurnsRow.holds Try.pinned (OpenSpec.ofChange voteTurnsSpec)

/-- ITS FALSE NEIGHBOUR: 'it returns false'. Refute it at one input. -/
def voteTurnsWrong : ChangeSpec := { name := "voteTurns", fn := fun _ => fun
  | [d1, d2, d3] => { results := [.lit (.bool false)], args := [d1, d2, d3] }
  | _ => none }
def VoteTurnsWrongFalsely : Prop := voteTurnsRow.holds Try.pinned (OpenSpec.ofChange voteTurnsWrong)

/-- 'aneroidlaw25.ModesAsks': WHATEVER THE INPUT: true; the input reads as it did. -/
def modesAsksSpec : ChangeSpec := { name := "modesAsks", fn := fun _ => fun
  | [d] => { results := [.lit (.bool true)], args := [d] }
  | _ => none }
def modesAsksRow : OpenClaim := { program := "ytdpiamgglfejbaa", sum := "65158b3a4d925534ffdfa6bdcb014feddd9f3f827dda40e1d779481a0e84cc81", func := "aneroid/aneroidlaw25.ModesAsks", spec := "modesAsks", apart := false }
def ModesAsksSaid : Prop := modesAsksRow.holds Try.pinned (OpenSpec.ofChange modesAsksSpec)

/-- ITS FALSE NEIGHBOUR: 'it returns false'. Refute it at one input. -/
def modesAsksWrong : ChangeSpec := { name := "modesAsks", fn := fun _ => fun
  | [d] => { results := [.lit (.bool false)], args := [d] }
  | _ => none }
def ModesAsksWrongFalsely : Prop := modesAsksRow.holds Try.pinned (OpenSpec.ofChange modesAsksWrong)

/-- 'aneroidlaw35.HullSpans': WHATEVER THE INPUT: true; the input reads as it did. -/
def hullSpansSpec : ChangeSpec := { name := "hullSpans", fn := fun _ => fun
  | [d1, d2, d3] => { results := [.lit (.bool true)], args := [d1, d2, d3] }
  | _ => none }
def hullSpansRow : OpenClaim := { program := "ytdpiamgglfejbaa", sum := "65158b3a4d925534ffdfa6bdcb014feddd9f3f827dda40e1d779481a0e84cc81", func := "aneroid/aneroidlaw35.HullSpans", spec := "hullSpans", apart := false }
def HullSpansSaid : Prop := hullSpansRow.holds Try.pinned (OpenSpec.ofChange hullSpansSpec)

/-- ITS FALSE NEIGHBOUR: 'it returns false'. Refute it at one input. -/
def hullSpansWrong : ChangeSpec := { name := "hullSpans", fn := fun _ => fun
  | [d1, d2, d3] => { results := [.lit (.bool false)], args := [d1, d2, d3] }
  | _ => none }
def HullSpansWrongFalsely : Prop := hullSpansRow.holds Try.pinned (OpenSpec.ofChange hullSpansWrong)

/-- 'aneroidlaw35.HullWidens': WHATEVER THE INPUT: true; the input reads as it did. -/
def hullWidensSpec : ChangeSpec := { name := "hullWidens", fn := fun _ => fun
  | [d1, d2] => { results := [.lit (.bool true)], args := [d1, d2] }
  | _ => none }
def hullWidensRow : OpenClaim := { program := "ytdpiamgglfejbaa", sum := "65158b3a4d925534ffdfa6bdcb014feddd9f3f827dda40e1d779481a0e84cc81", func := "aneroid/aneroidlaw35.HullWidens", spec := "hullWidens", apart := false }
def HullWidensSaid : Prop := hullWidensRow.holds Try.pinned (OpenSpec.ofChange hullWidensSpec)

/-- ITS FALSE NEIGHBOUR: 'it returns false'. Refute it at one input. -/
def hullWidensWrong : ChangeSpec := { name := "hullWidens", fn := fun _ => fun
  | [d1, d2] => { results := [.lit (.bool false)], args := [d1, d2] }
  | _ => none }
def HullWidensWrongFalsely : Prop := hullWidensRow.holds Try.pinned (OpenSpec.ofChange hullWidensWrong)

/-- 'aneroidlaw35.HullJoins': WHATEVER THE INPUT: true; the input reads as it did. -/
def hullJoinsSpec : ChangeSpec := { name := "hullJoins", fn := fun _ => fun
  | [d1, d2, d3] => { results := [.lit (.bool true)], args := [d1, d2, d3] }
  | _ => none }
def hullJoinsRow : OpenClaim := { program := "ytdpiamgglfejbaa", sum := "65158b3a4d925534ffdfa6bdcb014feddd9f3f827dda40e1d779481a0e84cc81", func := "aneroid/aneroidlaw35.HullJoins", spec := "hullJoins", apart := false }
def HullJoinsSaid : Prop := hullJoinsRow.holds Try.pinned (OpenSpec.ofChange hullJoinsSpec)

/-- ITS FALSE NEIGHBOUR: 'it returns false'. Refute it at one input. -/
def hullJoinsWrong : ChangeSpec := { name := "hullJoins", fn := fun _ => fun
  | [d1, d2, d3] => { results := [.lit (.bool false)], args := [d1, d2, d3] }
  | _ => none }
def HullJoinsWrongFalsely : Prop := hullJoinsRow.holds Try.pinned (OpenSpec.ofChange hullJoinsWrong)

/- THE SECOND FORM. 'bulk': how many values and letters a reading holds, each counted each time it is reached (what is shared counts as often as it is met; a slice's spare places count too). A statement '..UptoSaid' is the law's where the arguments, and the package variables that the reading takes, are together of bulk at most 1048576: NARROWER than '..Said'. Prove '..Said' where nothing that the law and all that it calls make is longer than what came in: it says more and counts as full. Else prove '..UptoSaid'. A law counts once. -/
mutual
def uptoBulk {H : Type} : DataW H → Nat
  | .lit (.string bytes) => bytes.length + 1
  | .lit _ => 1
  | .nil => 1
  | .ptr d => uptoBulk d + 1
  | .slice elems spare => uptoBulkAll elems + uptoBulkAll spare + 1
  | .agg parts => uptoBulkAll parts + 1
  | .iface _ d => uptoBulk d + 1
  | .map entries => uptoBulkEntries entries + 1
  | .held _ => 1
def uptoBulkAll {H : Type} : List (DataW H) → Nat
  | [] => 0
  | d :: r => uptoBulk d + uptoBulkAll r
def uptoBulkEntries {H : Type} : List (Lit × DataW H) → Nat
  | [] => 0
  | x :: r => uptoBulkEntry x + uptoBulkEntries r
def uptoBulkEntry {H : Type} : Lit × DataW H → Nat
  | (.string bytes, d) => bytes.length + uptoBulk d + 1
  | (_, d) => uptoBulk d + 1
 end
def uptoSmall : (H : Type) → List (DataW H) → Bool := fun _ ds => decide (uptoBulkAll ds ≤ 1048576)
def OpenSpec.upto (s : _root_.Go.ChangeSpec) : _root_.Go.OpenSpec := { _root_.Go.OpenSpec.ofChange s with cond := some uptoSmall }

/-- 'aneroidlaw01.SatClips', WHERE WHAT IT READS IS OF BULK AT MOST 1048576: true; the input reads as it did. -/
def satClipsUptoRow : OpenClaim := { program := "ytdpiamgglfejbaa", sum := "65158b3a4d925534ffdfa6bdcb014feddd9f3f827dda40e1d779481a0e84cc81", func := "aneroid/aneroidlaw01.SatClips", spec := "satClips", inPlace := ["sync/atomic.StoreUint32", "sync/atomic.LoadUint32"], apart := false, narrowed := true }
def SatClipsUptoSaid : Prop := satClipsUptoRow.holds Try.pinned (OpenSpec.upto satClipsSpec)

/-- 'aneroidlaw01.SatSums', WHERE WHAT IT READS IS OF BULK AT MOST 1048576: true; the input reads as it did. -/
def satSumsUptoRow : OpenClaim := { program := "ytdpiamgglfejbaa", sum := "65158b3a4d925534ffdfa6bdcb014feddd9f3f827dda40e1d779481a0e84cc81", func := "aneroid/aneroidlaw01.SatSums", spec := "satSums", inPlace := ["sync/atomic.StoreUint32", "sync/atomic.LoadUint32"], apart := false, narrowed := true }
def SatSumsUptoSaid : Prop := satSumsUptoRow.holds Try.pinned (OpenSpec.upto satSumsSpec)

/-- 'aneroidlaw01.SatMany', WHERE WHAT IT READS IS OF BULK AT MOST 1048576: true; the input reads as it did. -/
def satManyUptoRow : OpenClaim := { program := "ytdpiamgglfejbaa", sum := "65158b3a4d925534ffdfa6bdcb014feddd9f3f827dda40e1d779481a0e84cc81", func := "aneroid/aneroidlaw01.SatMany", spec := "satMany", inPlace := ["sync/atomic.StoreUint32", "sync/atomic.LoadUint32"], apart := false, narrowed := true }
def SatManyUptoSaid : Prop := satManyUptoRow.holds Try.pinned (OpenSpec.upto satManySpec)

/-- 'aneroidlaw01.SatWithin', WHERE WHAT IT READS IS OF BULK AT MOST 1048576: true; the input reads as it did. -/
def satWithinUptoRow : OpenClaim := { program := "ytdpiamgglfejbaa", sum := "65158b3a4d925534ffdfa6bdcb014feddd9f3f827dda40e1d779481a0e84cc81", func := "aneroid/aneroidlaw01.SatWithin", spec := "satWithin", inPlace := ["sync/atomic.StoreUint32", "sync/atomic.LoadUint32"], apart := false, narrowed := true }
def SatWithinUptoSaid : Prop := satWithinUptoRow.holds Try.pinned (OpenSpec.upto satWithinSpec)

/-- 'aneroidlaw21.PairVerdicts', WHERE WHAT IT READS IS OF BULK AT MOST 1048576: true; the input reads as it did. -/
def pairVerdictsUptoRow : OpenClaim := { program := "ytdpiamgglfejbaa", sum := "65158b3a4d925534ffdfa6bdcb014feddd9f3f827dda40e1d779481a0e84cc81", func := "aneroid/aneroidlaw21.PairVerdicts", spec := "pairVerdicts", apart := false, narrowed := true }
def PairVerdictsUptoSaid : Prop := pairVerdictsUptoRow.holds Try.pinned (OpenSpec.upto pairVerdictsSpec)

/-- 'aneroidlaw21.PairEither', WHERE WHAT IT READS IS OF BULK AT MOST 1048576: true; the input reads as it did. -/
def pairEitherUptoRow : OpenClaim := { program := "ytdpiamgglfejbaa", sum := "65158b3a4d925534ffdfa6bdcb014feddd9f3f827dda40e1d779481a0e84cc81", func := "aneroid/aneroidlaw21.PairEither", spec := "pairEither", apart := false, narrowed := true }
def PairEitherUptoSaid : Prop := pairEitherUptoRow.holds Try.pinned (OpenSpec.upto pairEitherSpec)

/-- 'aneroidlaw24.VoteMost', WHERE WHAT IT READS IS OF BULK AT MOST 1048576: true; the input reads as it did. -/
def voteMostUptoRow : OpenClaim := { program := "ytdpiamgglfejbaa", sum := "65158b3a4d925534ffdfa6bdcb014feddd9f3f827dda40e1d779481a0e84cc81", func := "aneroid/aneroidlaw24.VoteMost", spec := "voteMost", apart := false, narrowed := true }
def VoteMostUptoSaid : Prop := voteMostUptoRow.holds Try.pinned (OpenSpec.upto voteMostSpec)

/-- 'aneroidlaw24.VoteTurns', WHERE WHAT IT READS IS OF BULK AT MOST 1048576: true; the input reads as it did. -/
def voteTurnsUptoRow : OpenClaim := { program := "ytdpiamgglfejbaa", sum := "65158b3a4d925534ffdfa6bdcb014feddd9f3f827dda40e1d779481a0e84cc81", func := "aneroid/aneroidlaw24.VoteTurns", spec := "voteTurns", apart := false, narrowed := true }
def VoteTurnsUptoSaid : Prop := voteTurnsUptoRow.holds Try.pinned (OpenSpec.upto voteTurnsSpec)

/-- 'aneroidlaw25.ModesAsks', WHERE WHAT IT READS IS OF BULK AT MOST 1048576: true; the input reads as it did. -/
def modesAsksUptoRow : OpenClaim := { program := "ytdpiamgglfejbaa", sum := "65158b3a4d925534ffdfa6bdcb014feddd9f3f827dda40e1d779481a0e84cc81", func := "aneroid/aneroidlaw25.ModesAsks", spec := "modesAsks", apart := false, narrowed := true }
def ModesAsksUptoSaid : Prop := modesAsksUptoRow.holds Try.pinned (OpenSpec.upto modesAsksSpec)

/-- 'aneroidlaw35.HullSpans', WHERE WHAT IT READS IS OF BULK AT MOST 1048576: true; the input reads as it did. -/
def hullSpansUptoRow : OpenClaim := { program := "ytdpiamgglfejbaa", sum := "65158b3a4d925534ffdfa6bdcb014feddd9f3f827dda40e1d779481a0e84cc81", func := "aneroid/aneroidlaw35.HullSpans", spec := "hullSpans", apart := false, narrowed := true }
def HullSpansUptoSaid : Prop := hullSpansUptoRow.holds Try.pinned (OpenSpec.upto hullSpansSpec)

/-- 'aneroidlaw35.HullWidens', WHERE WHAT IT READS IS OF BULK AT MOST 1048576: true; the input reads as it did. -/
def hullWidensUptoRow : OpenClaim := { program := "ytdpiamgglfejbaa", sum := "65158b3a4d925534ffdfa6bdcb014feddd9f3f827dda40e1d779481a0e84cc81", func := "aneroid/aneroidlaw35.HullWidens", spec := "hullWidens", apart := false, narrowed := true }
def HullWidensUptoSaid : Prop := hullWidensUptoRow.holds Try.pinned (OpenSpec.upto hullWidensSpec)

/-- 'aneroidlaw35.HullJoins', WHERE WHAT IT READS IS OF BULK AT MOST 1048576: true; the input reads as it did. -/
def hullJoinsUptoRow : OpenClaim := { program := "ytdpiamgglfejbaa", sum := "65158b3a4d925534ffdfa6bdcb014feddd9f3f827dda40e1d779481a0e84cc81", func := "aneroid/aneroidlaw35.HullJoins", spec := "hullJoins", apart := false, narrowed := true }
def HullJoinsUptoSaid : Prop := hullJoinsUptoRow.holds Try.pinned (OpenSpec.upto hullJoinsSpec)

end Rows
end Go.Proofs.Ytdpiamgglfejbaa
