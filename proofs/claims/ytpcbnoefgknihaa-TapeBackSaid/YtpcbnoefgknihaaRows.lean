/-
  No cell of these rows narrows 'for every input' (looked for: loops, veiled, ifaces, maps, wideKeys, modest, calm, conditions, laid).
  DERIVED. THE GIVEN ROWS OF THIS SEAT. 11 by the template 'for every input the law returns true; each argument reads behind the call as it read before'; 0 by the template 'total and deterministic' (their statements: YtpcbnoefgknihaaTotals.lean).
  GIVEN WITH THE SEED: the statements are not yours to turn. If you find one false, say at which input.
  Laid BY PROGRAM, IN A SANDBOX (cutbox-rows.mjs): the forced cells as the released guide's own fill.sh prints them over the translation dd6dd2b891d7af06… (all of the seat's roots in one cut). By AI agents, Wed Nov 11 2026. No macro, syntax, notation, axiom, sorry.
-/
import Derived.Test.YtpcbnoefgknihaaChecked
import GoSem.Claim
import GoSem.ClaimJoined
import GoSem.ClaimMapViews
import Derived.JoinedTies
import Derived.KernelRfl
namespace Go.Proofs.Ytpcbnoefgknihaa
/- THE CELL 'sum', in the pinned program and in every row, IS THE sha256 OF THE DUMP (.gsa) THAT YtpcbnoefgknihaaProg.lean LOADS. Nothing in Lean hashes anything: it is a label: what it is worth is what the hold of that sum in a sandbox is worth. -/
noncomputable def Try.pinned : Pinned := { name := "ytpcbnoefgknihaa", sum := "dd6dd2b891d7af0622d690c8f3df018f4606f2195664a6099c5c8dc74765aa25", checked := Try.checked }
namespace Rows
def none {H : Type} : Left H := { results := [], args := [] }

/-- 'aneroidlaw45.TapeNumbers': WHATEVER THE INPUT: true; the input reads as it did. -/
def tapeNumbersSpec : ChangeSpec := { name := "tapeNumbers", fn := fun _ => fun
  | [d1, d2] => { results := [.lit (.bool true)], args := [d1, d2] }
  | _ => none }
def tapeNumbersRow : OpenClaim := { program := "ytpcbnoefgknihaa", sum := "dd6dd2b891d7af0622d690c8f3df018f4606f2195664a6099c5c8dc74765aa25", func := "aneroid/aneroidlaw45.TapeNumbers", spec := "tapeNumbers", unfollowed := true, recurses := true, apart := false }
def TapeNumbersSaid : Prop := tapeNumbersRow.holds Try.pinned (OpenSpec.ofChange tapeNumbersSpec)

/-- ITS FALSE NEIGHBOUR: 'it returns false'. Refute it at one input. -/
def tapeNumbersWrong : ChangeSpec := { name := "tapeNumbers", fn := fun _ => fun
  | [d1, d2] => { results := [.lit (.bool false)], args := [d1, d2] }
  | _ => none }
def TapeNumbersWrongFalsely : Prop := tapeNumbersRow.holds Try.pinned (OpenSpec.ofChange tapeNumbersWrong)

/-- 'aneroidlaw45.TapeBlocks': WHATEVER THE INPUT: true; the input reads as it did. -/
def tapeBlocksSpec : ChangeSpec := { name := "tapeBlocks", fn := fun _ => fun
  | [d1, d2] => { results := [.lit (.bool true)], args := [d1, d2] }
  | _ => none }
def tapeBlocksRow : OpenClaim := { program := "ytpcbnoefgknihaa", sum := "dd6dd2b891d7af0622d690c8f3df018f4606f2195664a6099c5c8dc74765aa25", func := "aneroid/aneroidlaw45.TapeBlocks", spec := "tapeBlocks", apart := false }
def TapeBlocksSaid : Prop := tapeBlocksRow.holds Try.pinned (OpenSpec.ofChange tapeBlocksSpec)

/-- ITS FALSE NEIGHBOUR: 'it returns false'. Refute it at one input. -/
def tapeBlocksWrong : ChangeSpec := { name := "tapeBlocks", fn := fun _ => fun
  | [d1, d2] => { results := [.lit (.bool false)], args := [d1, d2] }
  | _ => none }
def TapeBlocksWrongFalsely : Prop := tapeBlocksRow.holds Try.pinned (OpenSpec.ofChange tapeBlocksWrong)

/-- 'aneroidlaw45.TapeReads': WHATEVER THE INPUT: true; the input reads as it did. -/
def tapeReadsSpec : ChangeSpec := { name := "tapeReads", fn := fun _ => fun
  | [d1, d2] => { results := [.lit (.bool true)], args := [d1, d2] }
  | _ => none }
def tapeReadsRow : OpenClaim := { program := "ytpcbnoefgknihaa", sum := "dd6dd2b891d7af0622d690c8f3df018f4606f2195664a6099c5c8dc74765aa25", func := "aneroid/aneroidlaw45.TapeReads", spec := "tapeReads", unfollowed := true, recurses := true, apart := false }
def TapeReadsSaid : Prop := tapeReadsRow.holds Try.pinned (OpenSpec.ofChange tapeReadsSpec)

/-- ITS FALSE NEIGHBOUR: 'it returns false'. Refute it at one input. -/
def tapeReadsWrong : ChangeSpec := { name := "tapeReads", fn := fun _ => fun
  | [d1, d2] => { results := [.lit (.bool false)], args := [d1, d2] }
  | _ => none }
def TapeReadsWrongFalsely : Prop := tapeReadsRow.holds Try.pinned (OpenSpec.ofChange tapeReadsWrong)

/-- 'aneroidlaw45.TapeWrites': WHATEVER THE INPUT: true; the input reads as it did. -/
def tapeWritesSpec : ChangeSpec := { name := "tapeWrites", fn := fun _ => fun
  | [d1, d2] => { results := [.lit (.bool true)], args := [d1, d2] }
  | _ => none }
def tapeWritesRow : OpenClaim := { program := "ytpcbnoefgknihaa", sum := "dd6dd2b891d7af0622d690c8f3df018f4606f2195664a6099c5c8dc74765aa25", func := "aneroid/aneroidlaw45.TapeWrites", spec := "tapeWrites", unfollowed := true, recurses := true, apart := false }
def TapeWritesSaid : Prop := tapeWritesRow.holds Try.pinned (OpenSpec.ofChange tapeWritesSpec)

/-- ITS FALSE NEIGHBOUR: 'it returns false'. Refute it at one input. -/
def tapeWritesWrong : ChangeSpec := { name := "tapeWrites", fn := fun _ => fun
  | [d1, d2] => { results := [.lit (.bool false)], args := [d1, d2] }
  | _ => none }
def TapeWritesWrongFalsely : Prop := tapeWritesRow.holds Try.pinned (OpenSpec.ofChange tapeWritesWrong)

/-- 'aneroidlaw45.TapeBack': WHATEVER THE INPUT: true; the input reads as it did. -/
def tapeBackSpec : ChangeSpec := { name := "tapeBack", fn := fun _ => fun
  | [d1, d2, d3] => { results := [.lit (.bool true)], args := [d1, d2, d3] }
  | _ => none }
def tapeBackRow : OpenClaim := { program := "ytpcbnoefgknihaa", sum := "dd6dd2b891d7af0622d690c8f3df018f4606f2195664a6099c5c8dc74765aa25", func := "aneroid/aneroidlaw45.TapeBack", spec := "tapeBack", unfollowed := true, recurses := true, apart := false }
def TapeBackSaid : Prop := tapeBackRow.holds Try.pinned (OpenSpec.ofChange tapeBackSpec)

/-- ITS FALSE NEIGHBOUR: 'it returns false'. Refute it at one input. -/
def tapeBackWrong : ChangeSpec := { name := "tapeBack", fn := fun _ => fun
  | [d1, d2, d3] => { results := [.lit (.bool false)], args := [d1, d2, d3] }
  | _ => none }
def TapeBackWrongFalsely : Prop := tapeBackRow.holds Try.pinned (OpenSpec.ofChange tapeBackWrong)

/-- 'aneroidlaw45.TapeRound': WHATEVER THE INPUT: true; the input reads as it did. -/
def tapeRoundSpec : ChangeSpec := { name := "tapeRound", fn := fun _ => fun
  | [d1, d2] => { results := [.lit (.bool true)], args := [d1, d2] }
  | _ => none }
def tapeRoundRow : OpenClaim := { program := "ytpcbnoefgknihaa", sum := "dd6dd2b891d7af0622d690c8f3df018f4606f2195664a6099c5c8dc74765aa25", func := "aneroid/aneroidlaw45.TapeRound", spec := "tapeRound", unfollowed := true, recurses := true, apart := false }
def TapeRoundSaid : Prop := tapeRoundRow.holds Try.pinned (OpenSpec.ofChange tapeRoundSpec)

/-- ITS FALSE NEIGHBOUR: 'it returns false'. Refute it at one input. -/
def tapeRoundWrong : ChangeSpec := { name := "tapeRound", fn := fun _ => fun
  | [d1, d2] => { results := [.lit (.bool false)], args := [d1, d2] }
  | _ => none }
def TapeRoundWrongFalsely : Prop := tapeRoundRow.holds Try.pinned (OpenSpec.ofChange tapeRoundWrong)

/-- 'aneroidlaw47.StreamPacks': WHATEVER THE INPUT: true; the input reads as it did. -/
def streamPacksSpec : ChangeSpec := { name := "streamPacks", fn := fun _ => fun
  | [d] => { results := [.lit (.bool true)], args := [d] }
  | _ => none }
def streamPacksRow : OpenClaim := { program := "ytpcbnoefgknihaa", sum := "dd6dd2b891d7af0622d690c8f3df018f4606f2195664a6099c5c8dc74765aa25", func := "aneroid/aneroidlaw47.StreamPacks", spec := "streamPacks", apart := false }
def StreamPacksSaid : Prop := streamPacksRow.holds Try.pinned (OpenSpec.ofChange streamPacksSpec)

/-- ITS FALSE NEIGHBOUR: 'it returns false'. Refute it at one input. -/
def streamPacksWrong : ChangeSpec := { name := "streamPacks", fn := fun _ => fun
  | [d] => { results := [.lit (.bool false)], args := [d] }
  | _ => none }
def StreamPacksWrongFalsely : Prop := streamPacksRow.holds Try.pinned (OpenSpec.ofChange streamPacksWrong)

/-- 'aneroidlaw47.StreamFinds': WHATEVER THE INPUT: true; the input reads as it did. -/
def streamFindsSpec : ChangeSpec := { name := "streamFinds", fn := fun _ => fun
  | [d] => { results := [.lit (.bool true)], args := [d] }
  | _ => none }
def streamFindsRow : OpenClaim := { program := "ytpcbnoefgknihaa", sum := "dd6dd2b891d7af0622d690c8f3df018f4606f2195664a6099c5c8dc74765aa25", func := "aneroid/aneroidlaw47.StreamFinds", spec := "streamFinds", inPlace := ["sync/atomic.AddInt64", "sync/atomic.LoadInt64"], apart := false }
def StreamFindsSaid : Prop := streamFindsRow.holds Try.pinned (OpenSpec.ofChange streamFindsSpec)

/-- ITS FALSE NEIGHBOUR: 'it returns false'. Refute it at one input. -/
def streamFindsWrong : ChangeSpec := { name := "streamFinds", fn := fun _ => fun
  | [d] => { results := [.lit (.bool false)], args := [d] }
  | _ => none }
def StreamFindsWrongFalsely : Prop := streamFindsRow.holds Try.pinned (OpenSpec.ofChange streamFindsWrong)

/-- 'aneroidlaw47.StreamNils': WHATEVER THE INPUT: true; the input reads as it did. -/
def streamNilsSpec : ChangeSpec := { name := "streamNils", fn := fun _ => fun
  | [d1, d2] => { results := [.lit (.bool true)], args := [d1, d2] }
  | _ => none }
def streamNilsRow : OpenClaim := { program := "ytpcbnoefgknihaa", sum := "dd6dd2b891d7af0622d690c8f3df018f4606f2195664a6099c5c8dc74765aa25", func := "aneroid/aneroidlaw47.StreamNils", spec := "streamNils", inPlace := ["sync/atomic.LoadInt64", "sync/atomic.AddInt64"], apart := false }
def StreamNilsSaid : Prop := streamNilsRow.holds Try.pinned (OpenSpec.ofChange streamNilsSpec)

/-- ITS FALSE NEIGHBOUR: 'it returns false'. Refute it at one input. -/
def streamNilsWrong : ChangeSpec := { name := "streamNils", fn := fun _ => fun
  | [d1, d2] => { results := [.lit (.bool false)], args := [d1, d2] }
  | _ => none }
def StreamNilsWrongFalsely : Prop := streamNilsRow.holds Try.pinned (OpenSpec.ofChange streamNilsWrong)

/-- 'aneroidlaw47.StreamWhole': WHATEVER THE INPUT: true; the input reads as it did. -/
def streamWholeSpec : ChangeSpec := { name := "streamWhole", fn := fun _ => fun
  | [d1, d2, d3] => { results := [.lit (.bool true)], args := [d1, d2, d3] }
  | _ => none }
def streamWholeRow : OpenClaim := { program := "ytpcbnoefgknihaa", sum := "dd6dd2b891d7af0622d690c8f3df018f4606f2195664a6099c5c8dc74765aa25", func := "aneroid/aneroidlaw47.StreamWhole", spec := "streamWhole", inPlace := ["sync/atomic.AddInt64", "sync/atomic.LoadInt64"], apart := false }
def StreamWholeSaid : Prop := streamWholeRow.holds Try.pinned (OpenSpec.ofChange streamWholeSpec)

/-- ITS FALSE NEIGHBOUR: 'it returns false'. Refute it at one input. -/
def streamWholeWrong : ChangeSpec := { name := "streamWhole", fn := fun _ => fun
  | [d1, d2, d3] => { results := [.lit (.bool false)], args := [d1, d2, d3] }
  | _ => none }
def StreamWholeWrongFalsely : Prop := streamWholeRow.holds Try.pinned (OpenSpec.ofChange streamWholeWrong)

/-- 'aneroidlaw47.StreamSpoilt': WHATEVER THE INPUT: true; the input reads as it did. -/
def streamSpoiltSpec : ChangeSpec := { name := "streamSpoilt", fn := fun _ => fun
  | [d1, d2, d3] => { results := [.lit (.bool true)], args := [d1, d2, d3] }
  | _ => none }
def streamSpoiltRow : OpenClaim := { program := "ytpcbnoefgknihaa", sum := "dd6dd2b891d7af0622d690c8f3df018f4606f2195664a6099c5c8dc74765aa25", func := "aneroid/aneroidlaw47.StreamSpoilt", spec := "streamSpoilt", inPlace := ["sync/atomic.AddInt64", "sync/atomic.LoadInt64"], apart := false }
def StreamSpoiltSaid : Prop := streamSpoiltRow.holds Try.pinned (OpenSpec.ofChange streamSpoiltSpec)

/-- ITS FALSE NEIGHBOUR: 'it returns false'. Refute it at one input. -/
def streamSpoiltWrong : ChangeSpec := { name := "streamSpoilt", fn := fun _ => fun
  | [d1, d2, d3] => { results := [.lit (.bool false)], args := [d1, d2, d3] }
  | _ => none }
def StreamSpoiltWrongFalsely : Prop := streamSpoiltRow.holds Try.pinned (OpenSpec.ofChange streamSpoiltWrong)

/- THE SECOND FORM. 'bulk': how many values and letters a reading holds, each counted each time it is reached (what is shared counts as often as it is met; a slice's spare places count too). A statement '..UptoSaid' is the law's where the arguments, and the package variables that the reading takes, are together of bulk at most 1048576: NARROWER than '..Said'. Prove '..Said' where nothing that the law and all that it calls make is longer than what came in: it says more and counts as full. Else prove '..UptoSaid'. A law counts once. -/
mutual
def uptoBulk {H : Type} : DataW H → Nat
  | .lit (.string bytes) => bytes.length + 1
  | .lit _ => 1
  | .nil => 1
  | .ptr d => uptoBulk d + 1
  | .slice elems spare => uptoBulkAll elems + uptoBulkAll spare + 1
  | .agg parts => uptoBulkAll parts + 1
  | .iface _ d => uptoBulk d + 1
  | .map entries => uptoBulkEntries entries + 1
  | .held _ => 1
def uptoBulkAll {H : Type} : List (DataW H) → Nat
  | [] => 0
  | d :: r => uptoBulk d + uptoBulkAll r
def uptoBulkEntries {H : Type} : List (Lit × DataW H) → Nat
  | [] => 0
  | x :: r => uptoBulkEntry x + uptoBulkEntries r
def uptoBulkEntry {H : Type} : Lit × DataW H → Nat
  | (.string bytes, d) => bytes.length + uptoBulk d + 1
  | (_, d) => uptoBulk d + 1
 end
def uptoSmall : (H : Type) → List (DataW H) → Bool := fun _ ds => decide (uptoBulkAll ds ≤ 1048576)
def OpenSpec.upto (s : _root_.Go.ChangeSpec) : _root_.Go.OpenSpec := { _root_.Go.OpenSpec.ofChange s with cond := some uptoSmall }

/-- 'aneroidlaw45.TapeNumbers', WHERE WHAT IT READS IS OF BULK AT MOST 1048576: true; the input reads as it did. -/
def tapeNumbersUptoRow : OpenClaim := { program := "ytpcbnoefgknihaa", sum := "dd6dd2b891d7af0622d690c8f3df018f4606f2195664a6099c5c8dc74765aa25", func := "aneroid/aneroidlaw45.TapeNumbers", spec := "tapeNumbers", unfollowed := true, recurses := true, apart := false, narrowed := true }
def TapeNumbersUptoSaid : Prop := tapeNumbersUptoRow.holds Try.pinned (OpenSpec.upto tapeNumbersSpec)

/-- 'aneroidlaw45.TapeBlocks', WHERE WHAT IT READS IS OF BULK AT MOST 1048576: true; the input reads as it did. -/
def tapeBlocksUptoRow : OpenClaim := { program := "ytpcbnoefgknihaa", sum := "dd6dd2b891d7af0622d690c8f3df018f4606f2195664a6099c5c8dc74765aa25", func := "aneroid/aneroidlaw45.TapeBlocks", spec := "tapeBlocks", apart := false, narrowed := true }
def TapeBlocksUptoSaid : Prop := tapeBlocksUptoRow.holds Try.pinned (OpenSpec.upto tapeBlocksSpec)

/-- 'aneroidlaw45.TapeReads', WHERE WHAT IT READS IS OF BULK AT MOST 1048576: true; the input reads as it did. -/
def tapeReadsUptoRow : OpenClaim := { program := "ytpcbnoefgknihaa", sum := "dd6dd2b891d7af0622d690c8f3df018f4606f2195664a6099c5c8dc74765aa25", func := "aneroid/aneroidlaw45.TapeReads", spec := "tapeReads", unfollowed := true, recurses := true, apart := false, narrowed := true }
def TapeReadsUptoSaid : Prop := tapeReadsUptoRow.holds Try.pinned (OpenSpec.upto tapeReadsSpec)

/-- 'aneroidlaw45.TapeWrites', WHERE WHAT IT READS IS OF BULK AT MOST 1048576: true; the input reads as it did. -/
def tapeWritesUptoRow : OpenClaim := { program := "ytpcbnoefgknihaa", sum := "dd6dd2b891d7af0622d690c8f3df018f4606f2195664a6099c5c8dc74765aa25", func := "aneroid/aneroidlaw45.TapeWrites", spec := "tapeWrites", unfollowed := true, recurses := true, apart := false, narrowed := true }
def TapeWritesUptoSaid : Prop := tapeWritesUptoRow.holds Try.pinned (OpenSpec.upto tapeWritesSpec)

/-- 'aneroidlaw45.TapeBack', WHERE WHAT IT READS IS OF BULK AT MOST 1048576: true; the input reads as it did. -/
def tapeBackUptoRow : OpenClaim := { program := "ytpcbnoefgknihaa", sum := "dd6dd2b891d7af0622d690c8f3df018f4606f2195664a6099c5c8dc74765aa25", func := "aneroid/aneroidlaw45.TapeBack", spec := "tapeBack", unfollowed := true, recurses := true, apart := false, narrowed := true }
def TapeBackUptoSaid : Prop := tapeBackUptoRow.holds Try.pinned (OpenSpec.upto tapeBackSpec)

/-- 'aneroidlaw45.TapeRound', WHERE WHAT IT READS IS OF BULK AT MOST 1048576: true; the input reads as it did. -/
def tapeRoundUptoRow : OpenClaim := { program := "ytpcbnoefgknihaa", sum := "dd6dd2b891d7af0622d690c8f3df018f4606f2195664a6099c5c8dc74765aa25", func := "aneroid/aneroidlaw45.TapeRound", spec := "tapeRound", unfollowed := true, recurses := true, apart := false, narrowed := true }
def TapeRoundUptoSaid : Prop := tapeRoundUptoRow.holds Try.pinned (OpenSpec.upto tapeRoundSpec)

/-- 'aneroidlaw47.StreamPacks', WHERE WHAT IT READS IS OF BULK AT MOST 1048576: true; the input reads as it did. -/
def streamPacksUptoRow : OpenClaim := { program := "ytpcbnoefgknihaa", sum := "dd6dd2b891d7af0622d690c8f3df018f4606f2195664a6099c5c8dc74765aa25", func := "aneroid/aneroidlaw47.StreamPacks", spec := "streamPacks", apart := false, narrowed := true }
def StreamPacksUptoSaid : Prop := streamPacksUptoRow.holds Try.pinned (OpenSpec.upto streamPacksSpec)

/-- 'aneroidlaw47.StreamFinds', WHERE WHAT IT READS IS OF BULK AT MOST 1048576: true; the input reads as it did. -/
def streamFindsUptoRow : OpenClaim := { program := "ytpcbnoefgknihaa", sum := "dd6dd2b891d7af0622d690c8f3df018f4606f2195664a6099c5c8dc74765aa25", func := "aneroid/aneroidlaw47.StreamFinds", spec := "streamFinds", inPlace := ["sync/atomic.AddInt64", "sync/atomic.LoadInt64"], apart := false, narrowed := true }
def StreamFindsUptoSaid : Prop := streamFindsUptoRow.holds Try.pinned (OpenSpec.upto streamFindsSpec)

/-- 'aneroidlaw47.StreamNils', WHERE WHAT IT READS IS OF BULK AT MOST 1048576: true; the input reads as it did. -/
def streamNilsUptoRow : OpenClaim := { program := "ytpcbnoefgknihaa", sum := "dd6dd2b891d7af0622d690c8f3df018f4606f2195664a6099c5c8dc74765aa25", func := "aneroid/aneroidlaw47.StreamNils", spec := "streamNils", inPlace := ["sync/atomic.LoadInt64", "sync/atomic.AddInt64"], apart := false, narrowed := true }
def StreamNilsUptoSaid : Prop := streamNilsUptoRow.holds Try.pinned (OpenSpec.upto streamNilsSpec)

/-- 'aneroidlaw47.StreamWhole', WHERE WHAT IT READS IS OF BULK AT MOST 1048576: true; the input reads as it did. -/
def streamWholeUptoRow : OpenClaim := { program := "ytpcbnoefgknihaa", sum := "dd6dd2b891d7af0622d690c8f3df018f4606f2195664a6099c5c8dc74765aa25", func := "aneroid/aneroidlaw47.StreamWhole", spec := "streamWhole", inPlace := ["sync/atomic.AddInt64", "sync/atomic.LoadInt64"], apart := false, narrowed := true }
def StreamWholeUptoSaid : Prop := streamWholeUptoRow.holds Try.pinned (OpenSpec.upto streamWholeSpec)

/-- 'aneroidlaw47.StreamSpoilt', WHERE WHAT IT READS IS OF BULK AT MOST 1048576: true; the input reads as it did. -/
def streamSpoiltUptoRow : OpenClaim := { program := "ytpcbnoefgknihaa", sum := "dd6dd2b891d7af0622d690c8f3df018f4606f2195664a6099c5c8dc74765aa25", func := "aneroid/aneroidlaw47.StreamSpoilt", spec := "streamSpoilt", inPlace := ["sync/atomic.AddInt64", "sync/atomic.LoadInt64"], apart := false, narrowed := true }
def StreamSpoiltUptoSaid : Prop := streamSpoiltUptoRow.holds Try.pinned (OpenSpec.upto streamSpoiltSpec)

end Rows
end Go.Proofs.Ytpcbnoefgknihaa
