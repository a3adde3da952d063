/-
  No cell of these rows narrows 'for every input' (looked for: loops, veiled, ifaces, maps, wideKeys, modest, calm, conditions, laid).
  DERIVED. THE GIVEN ROWS OF THIS SEAT. 4 by the template 'for every input the law returns true; each argument reads behind the call as it read before'; 0 by the template 'total and deterministic' (their statements: YtecpmffmmiogfabTotals.lean).
  GIVEN WITH THE SEED: the statements are not yours to turn. If you find one false, say at which input.
  Laid BY PROGRAM, IN A SANDBOX (cutbox-rows.mjs): the forced cells as the released guide's own fill.sh prints them over the translation 1829bdb9b59bdfca… (all of the seat's roots in one cut). By AI agents, Wed Nov 11 2026. No macro, syntax, notation, axiom, sorry.
-/
import Derived.Test.YtecpmffmmiogfabChecked
import GoSem.Claim
import GoSem.ClaimJoined
import GoSem.ClaimMapViews
import Derived.JoinedTies
import Derived.KernelRfl
namespace Go.Proofs.Ytecpmffmmiogfab
/- THE CELL 'sum', in the pinned program and in every row, IS THE sha256 OF THE DUMP (.gsa) THAT YtecpmffmmiogfabProg.lean LOADS. Nothing in Lean hashes anything: it is a label: what it is worth is what the hold of that sum in a sandbox is worth. -/
noncomputable def Try.pinned : Pinned := { name := "ytecpmffmmiogfab", sum := "1829bdb9b59bdfca2cb349058c033765e92ca2bb28c50f42402e7bc6334f050a", checked := Try.checked }
namespace Rows
def none {H : Type} : Left H := { results := [], args := [] }

/-- 'aneroidlaw48.BiteNew': WHATEVER THE INPUT: true; the input reads as it did. -/
def biteNewSpec : ChangeSpec := { name := "biteNew", fn := fun _ => fun
  | [d1, d2] => { results := [.lit (.bool true)], args := [d1, d2] }
  | _ => none }
def biteNewRow : OpenClaim := { program := "ytecpmffmmiogfab", sum := "1829bdb9b59bdfca2cb349058c033765e92ca2bb28c50f42402e7bc6334f050a", func := "aneroid/aneroidlaw48.BiteNew", spec := "biteNew", inPlace := ["internal/abi.NoEscape"], unfollowed := true, recurses := true, apart := false }
def BiteNewSaid : Prop := biteNewRow.holds Try.pinned (OpenSpec.ofChange biteNewSpec)

/-- ITS FALSE NEIGHBOUR: 'it returns false'. Refute it at one input. -/
def biteNewWrong : ChangeSpec := { name := "biteNew", fn := fun _ => fun
  | [d1, d2] => { results := [.lit (.bool false)], args := [d1, d2] }
  | _ => none }
def BiteNewWrongFalsely : Prop := biteNewRow.holds Try.pinned (OpenSpec.ofChange biteNewWrong)

/-- 'aneroidlaw48.BitePlays': WHATEVER THE INPUT: true; the input reads as it did. -/
def bitePlaysSpec : ChangeSpec := { name := "bitePlays", fn := fun _ => fun
  | [d1, d2] => { results := [.lit (.bool true)], args := [d1, d2] }
  | _ => none }
def bitePlaysRow : OpenClaim := { program := "ytecpmffmmiogfab", sum := "1829bdb9b59bdfca2cb349058c033765e92ca2bb28c50f42402e7bc6334f050a", func := "aneroid/aneroidlaw48.BitePlays", spec := "bitePlays", inPlace := ["internal/abi.NoEscape"], unfollowed := true, recurses := true, apart := false }
def BitePlaysSaid : Prop := bitePlaysRow.holds Try.pinned (OpenSpec.ofChange bitePlaysSpec)

/-- ITS FALSE NEIGHBOUR: 'it returns false'. Refute it at one input. -/
def bitePlaysWrong : ChangeSpec := { name := "bitePlays", fn := fun _ => fun
  | [d1, d2] => { results := [.lit (.bool false)], args := [d1, d2] }
  | _ => none }
def BitePlaysWrongFalsely : Prop := bitePlaysRow.holds Try.pinned (OpenSpec.ofChange bitePlaysWrong)

/-- 'aneroidlaw48.BiteEnds': WHATEVER THE INPUT: true; the input reads as it did. -/
def biteEndsSpec : ChangeSpec := { name := "biteEnds", fn := fun _ => fun
  | [d1, d2] => { results := [.lit (.bool true)], args := [d1, d2] }
  | _ => none }
def biteEndsRow : OpenClaim := { program := "ytecpmffmmiogfab", sum := "1829bdb9b59bdfca2cb349058c033765e92ca2bb28c50f42402e7bc6334f050a", func := "aneroid/aneroidlaw48.BiteEnds", spec := "biteEnds", inPlace := ["internal/abi.NoEscape"], unfollowed := true, recurses := true, apart := false }
def BiteEndsSaid : Prop := biteEndsRow.holds Try.pinned (OpenSpec.ofChange biteEndsSpec)

/-- ITS FALSE NEIGHBOUR: 'it returns false'. Refute it at one input. -/
def biteEndsWrong : ChangeSpec := { name := "biteEnds", fn := fun _ => fun
  | [d1, d2] => { results := [.lit (.bool false)], args := [d1, d2] }
  | _ => none }
def BiteEndsWrongFalsely : Prop := biteEndsRow.holds Try.pinned (OpenSpec.ofChange biteEndsWrong)

/-- 'aneroidlaw48.BiteFails': WHATEVER THE INPUT: true; the input reads as it did. -/
def biteFailsSpec : ChangeSpec := { name := "biteFails", fn := fun _ => fun
  | [d] => { results := [.lit (.bool true)], args := [d] }
  | _ => none }
def biteFailsRow : OpenClaim := { program := "ytecpmffmmiogfab", sum := "1829bdb9b59bdfca2cb349058c033765e92ca2bb28c50f42402e7bc6334f050a", func := "aneroid/aneroidlaw48.BiteFails", spec := "biteFails", inPlace := ["internal/abi.NoEscape"], unfollowed := true, recurses := true, apart := false }
def BiteFailsSaid : Prop := biteFailsRow.holds Try.pinned (OpenSpec.ofChange biteFailsSpec)

/-- ITS FALSE NEIGHBOUR: 'it returns false'. Refute it at one input. -/
def biteFailsWrong : ChangeSpec := { name := "biteFails", fn := fun _ => fun
  | [d] => { results := [.lit (.bool false)], args := [d] }
  | _ => none }
def BiteFailsWrongFalsely : Prop := biteFailsRow.holds Try.pinned (OpenSpec.ofChange biteFailsWrong)

/- THE SECOND FORM. 'bulk': how many values and letters a reading holds, each counted each time it is reached (what is shared counts as often as it is met; a slice's spare places count too). A statement '..UptoSaid' is the law's where the arguments, and the package variables that the reading takes, are together of bulk at most 1048576: NARROWER than '..Said'. Prove '..Said' where nothing that the law and all that it calls make is longer than what came in: it says more and counts as full. Else prove '..UptoSaid'. A law counts once. -/
mutual
def uptoBulk {H : Type} : DataW H → Nat
  | .lit (.string bytes) => bytes.length + 1
  | .lit _ => 1
  | .nil => 1
  | .ptr d => uptoBulk d + 1
  | .slice elems spare => uptoBulkAll elems + uptoBulkAll spare + 1
  | .agg parts => uptoBulkAll parts + 1
  | .iface _ d => uptoBulk d + 1
  | .map entries => uptoBulkEntries entries + 1
  | .held _ => 1
def uptoBulkAll {H : Type} : List (DataW H) → Nat
  | [] => 0
  | d :: r => uptoBulk d + uptoBulkAll r
def uptoBulkEntries {H : Type} : List (Lit × DataW H) → Nat
  | [] => 0
  | x :: r => uptoBulkEntry x + uptoBulkEntries r
def uptoBulkEntry {H : Type} : Lit × DataW H → Nat
  | (.string bytes, d) => bytes.length + uptoBulk d + 1
  | (_, d) => uptoBulk d + 1
 end
def uptoSmall : (H : Type) → List (DataW H) → Bool := fun _ ds => decide (uptoBulkAll ds ≤ 1048576)
def OpenSpec.upto (s : _root_.Go.ChangeSpec) : _root_.Go.OpenSpec := { _root_.Go.OpenSpec.ofChange s with cond := some uptoSmall }

/-- 'aneroidlaw48.BiteNew', WHERE WHAT IT READS IS OF BULK AT MOST 1048576: true; the input reads as it did. -/
def biteNewUptoRow : OpenClaim := { program := "ytecpmffmmiogfab", sum := "1829bdb9b59bdfca2cb349058c033765e92ca2bb28c50f42402e7bc6334f050a", func := "aneroid/aneroidlaw48.BiteNew", spec := "biteNew", inPlace := ["internal/abi.NoEscape"], unfollowed := true, recurses := true, apart := false, narrowed := true }
def BiteNewUptoSaid : Prop := biteNewUptoRow.holds Try.pinned (OpenSpec.upto biteNewSpec)

/-- 'aneroidlaw48.BitePlays', WHERE WHAT IT READS IS OF BULK AT MOST 1048576: true; the input reads as it did. -/
def bitePlaysUptoRow : OpenClaim := { program := "ytecpmffmmiogfab", sum := "1829bdb9b59bdfca2cb349058c033765e92ca2bb28c50f42402e7bc6334f050a", func := "aneroid/aneroidlaw48.BitePlays", spec := "bitePlays", inPlace := ["internal/abi.NoEscape"], unfollowed := true, recurses := true, apart := false, narrowed := true }
def BitePlaysUptoSaid : Prop := bitePlaysUptoRow.holds Try.pinned (OpenSpec.upto bitePlaysSpec)

/-- 'aneroidlaw48.BiteEnds', WHERE WHAT IT READS IS OF BULK AT MOST 1048576: true; the input reads as it did. -/
def biteEndsUptoRow : OpenClaim := { program := "ytecpmffmmiogfab", sum := "1829bdb9b59bdfca2cb349058c033765e92ca2bb28c50f42402e7bc6334f050a", func := "aneroid/aneroidlaw48.BiteEnds", spec := "biteEnds", inPlace := ["internal/abi.NoEscape"], unfollowed := true, recurses := true, apart := false, narrowed := true }
def BiteEndsUptoSaid : Prop := biteEndsUptoRow.holds Try.pinned (OpenSpec.upto biteEndsSpec)

/-- 'aneroidlaw48.BiteFails', WHERE WHAT IT READS IS OF BULK AT MOST 1048576: true; the input reads as it did. -/
def biteFailsUptoRow : OpenClaim := { program := "ytecpmffmmiogfab", sum := "1829bdb9b59bdfca2cb349058c033765e92ca2bb28c50f42402e7bc6334f050a", func := "aneroid/aneroidlaw48.BiteFails", spec := "biteFails", inPlace := ["internal/abi.NoEscape"], unfollowed := true, recurses := true, apart := false, narrowed := true }
def BiteFailsUptoSaid : Prop := biteFailsUptoRow.holds Try.pinned (OpenSpec.upto biteFailsSpec)

end Rows
end Go.Proofs.Ytecpmffmmiogfab
