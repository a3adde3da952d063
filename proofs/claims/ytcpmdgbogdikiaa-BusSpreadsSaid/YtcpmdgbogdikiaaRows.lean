/-
  No cell of these rows narrows 'for every input' (looked for: loops, veiled, ifaces, maps, wideKeys, modest, calm, conditions, laid).
  DERIVED. THE GIVEN ROWS OF THIS SEAT. 5 by the template 'for every input the law returns true; each argument reads behind the call as it read before'; 0 by the template 'total and deterministic' (their statements: YtcpmdgbogdikiaaTotals.lean).
  GIVEN WITH THE SEED: the statements are not yours to turn. If you find one false, say at which input.
  Laid BY PROGRAM, IN A SANDBOX (cutbox-rows.mjs): the forced cells as the released guide's own fill.sh prints them over the translation 3b492acce9782a7b… (all of the seat's roots in one cut). By AI agents, Wed Nov 11 2026. No macro, syntax, notation, axiom, sorry.
-/
import Derived.Test.YtcpmdgbogdikiaaChecked
import GoSem.Claim
import GoSem.ClaimJoined
import GoSem.ClaimMapViews
import Derived.JoinedTies
import Derived.KernelRfl
namespace Go.Proofs.Ytcpmdgbogdikiaa
/- THE CELL 'sum', in the pinned program and in every row, IS THE sha256 OF THE DUMP (.gsa) THAT YtcpmdgbogdikiaaProg.lean LOADS. Nothing in Lean hashes anything: it is a label: what it is worth is what the hold of that sum in a sandbox is worth. -/
noncomputable def Try.pinned : Pinned := { name := "ytcpmdgbogdikiaa", sum := "3b492acce9782a7bb242b47cf3c6a2981e8ec3d057604730a44ce4fada781692", checked := Try.checked }
namespace Rows
def none {H : Type} : Left H := { results := [], args := [] }

/-- 'aneroidlaw46.BusPlans': WHATEVER THE INPUT: true; the input reads as it did. -/
def busPlansSpec : ChangeSpec := { name := "busPlans", fn := fun _ => fun
  | [d1, d2] => { results := [.lit (.bool true)], args := [d1, d2] }
  | _ => none }
def busPlansRow : OpenClaim := { program := "ytcpmdgbogdikiaa", sum := "3b492acce9782a7bb242b47cf3c6a2981e8ec3d057604730a44ce4fada781692", func := "aneroid/aneroidlaw46.BusPlans", spec := "busPlans", unfollowed := true, recurses := true, apart := false }
def BusPlansSaid : Prop := busPlansRow.holds Try.pinned (OpenSpec.ofChange busPlansSpec)

/-- ITS FALSE NEIGHBOUR: 'it returns false'. Refute it at one input. -/
def busPlansWrong : ChangeSpec := { name := "busPlans", fn := fun _ => fun
  | [d1, d2] => { results := [.lit (.bool false)], args := [d1, d2] }
  | _ => none }
def BusPlansWrongFalsely : Prop := busPlansRow.holds Try.pinned (OpenSpec.ofChange busPlansWrong)

/-- 'aneroidlaw46.BusSpreads': WHATEVER THE INPUT: true; the input reads as it did. -/
def busSpreadsSpec : ChangeSpec := { name := "busSpreads", fn := fun _ => fun
  | [d1, d2, d3] => { results := [.lit (.bool true)], args := [d1, d2, d3] }
  | _ => none }
def busSpreadsRow : OpenClaim := { program := "ytcpmdgbogdikiaa", sum := "3b492acce9782a7bb242b47cf3c6a2981e8ec3d057604730a44ce4fada781692", func := "aneroid/aneroidlaw46.BusSpreads", spec := "busSpreads", unfollowed := true, recurses := true, apart := false }
def BusSpreadsSaid : Prop := busSpreadsRow.holds Try.pinned (OpenSpec.ofChange busSpreadsSpec)

/-- ITS FALSE NEIGHBOUR: 'it returns false'. Refute it at one input. -/
def busSpreadsWrong : ChangeSpec := { name := "busSpreads", fn := fun _ => fun
  | [d1, d2, d3] => { results := [.lit (.bool false)], args := [d1, d2, d3] }
  | _ => none }
def BusSpreadsWrongFalsely : Prop := busSpreadsRow.holds Try.pinned (OpenSpec.ofChange busSpreadsWrong)

/-- 'aneroidlaw46.BusNew': WHATEVER THE INPUT: true; the input reads as it did. -/
def busNewSpec : ChangeSpec := { name := "busNew", fn := fun _ => fun
  | [d1, d2, d3] => { results := [.lit (.bool true)], args := [d1, d2, d3] }
  | _ => none }
def busNewRow : OpenClaim := { program := "ytcpmdgbogdikiaa", sum := "3b492acce9782a7bb242b47cf3c6a2981e8ec3d057604730a44ce4fada781692", func := "aneroid/aneroidlaw46.BusNew", spec := "busNew", unfollowed := true, recurses := true, apart := false }
def BusNewSaid : Prop := busNewRow.holds Try.pinned (OpenSpec.ofChange busNewSpec)

/-- ITS FALSE NEIGHBOUR: 'it returns false'. Refute it at one input. -/
def busNewWrong : ChangeSpec := { name := "busNew", fn := fun _ => fun
  | [d1, d2, d3] => { results := [.lit (.bool false)], args := [d1, d2, d3] }
  | _ => none }
def BusNewWrongFalsely : Prop := busNewRow.holds Try.pinned (OpenSpec.ofChange busNewWrong)

/-- 'aneroidlaw46.BusWatches': WHATEVER THE INPUT: true; the input reads as it did. -/
def busWatchesSpec : ChangeSpec := { name := "busWatches", fn := fun _ => fun
  | [d1, d2, d3] => { results := [.lit (.bool true)], args := [d1, d2, d3] }
  | _ => none }
def busWatchesRow : OpenClaim := { program := "ytcpmdgbogdikiaa", sum := "3b492acce9782a7bb242b47cf3c6a2981e8ec3d057604730a44ce4fada781692", func := "aneroid/aneroidlaw46.BusWatches", spec := "busWatches", unfollowed := true, recurses := true, apart := false }
def BusWatchesSaid : Prop := busWatchesRow.holds Try.pinned (OpenSpec.ofChange busWatchesSpec)

/-- ITS FALSE NEIGHBOUR: 'it returns false'. Refute it at one input. -/
def busWatchesWrong : ChangeSpec := { name := "busWatches", fn := fun _ => fun
  | [d1, d2, d3] => { results := [.lit (.bool false)], args := [d1, d2, d3] }
  | _ => none }
def BusWatchesWrongFalsely : Prop := busWatchesRow.holds Try.pinned (OpenSpec.ofChange busWatchesWrong)

/-- 'aneroidlaw46.BusFull': WHATEVER THE INPUT: true; the input reads as it did. -/
def busFullSpec : ChangeSpec := { name := "busFull", fn := fun _ => fun
  | [d1, d2] => { results := [.lit (.bool true)], args := [d1, d2] }
  | _ => none }
def busFullRow : OpenClaim := { program := "ytcpmdgbogdikiaa", sum := "3b492acce9782a7bb242b47cf3c6a2981e8ec3d057604730a44ce4fada781692", func := "aneroid/aneroidlaw46.BusFull", spec := "busFull", unfollowed := true, recurses := true, apart := false }
def BusFullSaid : Prop := busFullRow.holds Try.pinned (OpenSpec.ofChange busFullSpec)

/-- ITS FALSE NEIGHBOUR: 'it returns false'. Refute it at one input. -/
def busFullWrong : ChangeSpec := { name := "busFull", fn := fun _ => fun
  | [d1, d2] => { results := [.lit (.bool false)], args := [d1, d2] }
  | _ => none }
def BusFullWrongFalsely : Prop := busFullRow.holds Try.pinned (OpenSpec.ofChange busFullWrong)

/- THE SECOND FORM. 'bulk': how many values and letters a reading holds, each counted each time it is reached (what is shared counts as often as it is met; a slice's spare places count too). A statement '..UptoSaid' is the law's where the arguments, and the package variables that the reading takes, are together of bulk at most 1048576: NARROWER than '..Said'. Prove '..Said' where nothing that the law and all that it calls make is longer than what came in: it says more and counts as full. Else prove '..UptoSaid'. A law counts once. -/
mutual
def uptoBulk {H : Type} : DataW H → Nat
  | .lit (.string bytes) => bytes.length + 1
  | .lit _ => 1
  | .nil => 1
  | .ptr d => uptoBulk d + 1
  | .slice elems spare => uptoBulkAll elems + uptoBulkAll spare + 1
  | .agg parts => uptoBulkAll parts + 1
  | .iface _ d => uptoBulk d + 1
  | .map entries => uptoBulkEntries entries + 1
  | .held _ => 1
def uptoBulkAll {H : Type} : List (DataW H) → Nat
  | [] => 0
  | d :: r => uptoBulk d + uptoBulkAll r
def uptoBulkEntries {H : Type} : List (Lit × DataW H) → Nat
  | [] => 0
  | x :: r => uptoBulkEntry x + uptoBulkEntries r
def uptoBulkEntry {H : Type} : Lit × DataW H → Nat
  | (.string bytes, d) => bytes.length + uptoBulk d + 1
  | (_, d) => uptoBulk d + 1
 end
def uptoSmall : (H : Type) → List (DataW H) → Bool := fun _ ds => decide (uptoBulkAll ds ≤ 1048576)
def OpenSpec.upto (s : _root_.Go.ChangeSpec) : _root_.Go.OpenSpec := { _root_.Go.OpenSpec.ofChange s with cond := some uptoSmall }

/-- 'aneroidlaw46.BusPlans', WHERE WHAT IT READS IS OF BULK AT MOST 1048576: true; the input reads as it did. -/
def busPlansUptoRow : OpenClaim := { program := "ytcpmdgbogdikiaa", sum := "3b492acce9782a7bb242b47cf3c6a2981e8ec3d057604730a44ce4fada781692", func := "aneroid/aneroidlaw46.BusPlans", spec := "busPlans", unfollowed := true, recurses := true, apart := false, narrowed := true }
def BusPlansUptoSaid : Prop := busPlansUptoRow.holds Try.pinned (OpenSpec.upto busPlansSpec)

/-- 'aneroidlaw46.BusSpreads', WHERE WHAT IT READS IS OF BULK AT MOST 1048576: true; the input reads as it did. -/
def busSpreadsUptoRow : OpenClaim := { program := "ytcpmdgbogdikiaa", sum := "3b492acce9782a7bb242b47cf3c6a2981e8ec3d057604730a44ce4fada781692", func := "aneroid/aneroidlaw46.BusSpreads", spec := "busSpreads", unfollowed := true, recurses := true, apart := false, narrowed := true }
def BusSpreadsUptoSaid : Prop := busSpreadsUptoRow.holds Try.pinned (OpenSpec.upto busSpreadsSpec)

/-- 'aneroidlaw46.BusNew', WHERE WHAT IT READS IS OF BULK AT MOST 1048576: true; the input reads as it did. -/
def busNewUptoRow : OpenClaim := { program := "ytcpmdgbogdikiaa", sum := "3b492acce9782a7bb242b47cf3c6a2981e8ec3d057604730a44ce4fada781692", func := "aneroid/aneroidlaw46.BusNew", spec := "busNew", unfollowed := true, recurses := true, apart := false, narrowed := true }
def BusNewUptoSaid : Prop := busNewUptoRow.holds Try.pinned (OpenSpec.upto busNewSpec)

/-- 'aneroidlaw46.BusWatches', WHERE WHAT IT READS IS OF BULK AT MOST 1048576: true; the input reads as it did. -/
def busWatchesUptoRow : OpenClaim := { program := "ytcpmdgbogdikiaa", sum := "3b492acce9782a7bb242b47cf3c6a2981e8ec3d057604730a44ce4fada781692", func := "aneroid/aneroidlaw46.BusWatches", spec := "busWatches", unfollowed := true, recurses := true, apart := false, narrowed := true }
def BusWatchesUptoSaid : Prop := busWatchesUptoRow.holds Try.pinned (OpenSpec.upto busWatchesSpec)

/-- 'aneroidlaw46.BusFull', WHERE WHAT IT READS IS OF BULK AT MOST 1048576: true; the input reads as it did. -/
def busFullUptoRow : OpenClaim := { program := "ytcpmdgbogdikiaa", sum := "3b492acce9782a7bb242b47cf3c6a2981e8ec3d057604730a44ce4fada781692", func := "aneroid/aneroidlaw46.BusFull", spec := "busFull", unfollowed := true, recurses := true, apart := false, narrowed := true }
def BusFullUptoSaid : Prop := busFullUptoRow.holds Try.pinned (OpenSpec.upto busFullSpec)

end Rows
end Go.Proofs.Ytcpmdgbogdikiaa
