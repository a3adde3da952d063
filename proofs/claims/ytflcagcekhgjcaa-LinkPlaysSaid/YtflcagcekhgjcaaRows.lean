/-
  No cell of these rows narrows 'for every input' (looked for: loops, veiled, ifaces, maps, wideKeys, modest, calm, conditions, laid).
  DERIVED. THE GIVEN ROWS OF THIS SEAT. 12 by the template 'for every input the law returns true; each argument reads behind the call as it read before'; 0 by the template 'total and deterministic' (their statements: YtflcagcekhgjcaaTotals.lean).
  GIVEN WITH THE SEED: the statements are not yours to turn. If you find one false, say at which input.
  Laid BY PROGRAM, IN A SANDBOX (cutbox-rows.mjs): the forced cells as the released guide's own fill.sh prints them over the translation 923cef2292adaf42… (all of the seat's roots in one cut). By AI agents, Wed Nov 11 2026. No macro, syntax, notation, axiom, sorry.
-/
import Derived.Test.YtflcagcekhgjcaaChecked
import GoSem.Claim
import GoSem.ClaimJoined
import GoSem.ClaimMapViews
import Derived.JoinedTies
import Derived.KernelRfl
namespace Go.Proofs.Ytflcagcekhgjcaa
/- THE CELL 'sum', in the pinned program and in every row, IS THE sha256 OF THE DUMP (.gsa) THAT YtflcagcekhgjcaaProg.lean LOADS. Nothing in Lean hashes anything: it is a label: what it is worth is what the hold of that sum in a sandbox is worth. -/
noncomputable def Try.pinned : Pinned := { name := "ytflcagcekhgjcaa", sum := "923cef2292adaf420388ba07bd2fff0cfc51a2645e37fd51295ecbedc7563407", checked := Try.checked }
namespace Rows
def none {H : Type} : Left H := { results := [], args := [] }

/-- 'aneroidlaw12.FramePuts': WHATEVER THE INPUT: true; the input reads as it did. -/
def framePutsSpec : ChangeSpec := { name := "framePuts", fn := fun _ => fun
  | [d] => { results := [.lit (.bool true)], args := [d] }
  | _ => none }
def framePutsRow : OpenClaim := { program := "ytflcagcekhgjcaa", sum := "923cef2292adaf420388ba07bd2fff0cfc51a2645e37fd51295ecbedc7563407", func := "aneroid/aneroidlaw12.FramePuts", spec := "framePuts", apart := false }
def FramePutsSaid : Prop := framePutsRow.holds Try.pinned (OpenSpec.ofChange framePutsSpec)

/-- ITS FALSE NEIGHBOUR: 'it returns false'. Refute it at one input. -/
def framePutsWrong : ChangeSpec := { name := "framePuts", fn := fun _ => fun
  | [d] => { results := [.lit (.bool false)], args := [d] }
  | _ => none }
def FramePutsWrongFalsely : Prop := framePutsRow.holds Try.pinned (OpenSpec.ofChange framePutsWrong)

/-- 'aneroidlaw12.FrameTakes': WHATEVER THE INPUT: true; the input reads as it did. -/
def frameTakesSpec : ChangeSpec := { name := "frameTakes", fn := fun _ => fun
  | [d] => { results := [.lit (.bool true)], args := [d] }
  | _ => none }
def frameTakesRow : OpenClaim := { program := "ytflcagcekhgjcaa", sum := "923cef2292adaf420388ba07bd2fff0cfc51a2645e37fd51295ecbedc7563407", func := "aneroid/aneroidlaw12.FrameTakes", spec := "frameTakes", apart := false }
def FrameTakesSaid : Prop := frameTakesRow.holds Try.pinned (OpenSpec.ofChange frameTakesSpec)

/-- ITS FALSE NEIGHBOUR: 'it returns false'. Refute it at one input. -/
def frameTakesWrong : ChangeSpec := { name := "frameTakes", fn := fun _ => fun
  | [d] => { results := [.lit (.bool false)], args := [d] }
  | _ => none }
def FrameTakesWrongFalsely : Prop := frameTakesRow.holds Try.pinned (OpenSpec.ofChange frameTakesWrong)

/-- 'aneroidlaw12.FrameFinds': WHATEVER THE INPUT: true; the input reads as it did. -/
def frameFindsSpec : ChangeSpec := { name := "frameFinds", fn := fun _ => fun
  | [d] => { results := [.lit (.bool true)], args := [d] }
  | _ => none }
def frameFindsRow : OpenClaim := { program := "ytflcagcekhgjcaa", sum := "923cef2292adaf420388ba07bd2fff0cfc51a2645e37fd51295ecbedc7563407", func := "aneroid/aneroidlaw12.FrameFinds", spec := "frameFinds", apart := false }
def FrameFindsSaid : Prop := frameFindsRow.holds Try.pinned (OpenSpec.ofChange frameFindsSpec)

/-- ITS FALSE NEIGHBOUR: 'it returns false'. Refute it at one input. -/
def frameFindsWrong : ChangeSpec := { name := "frameFinds", fn := fun _ => fun
  | [d] => { results := [.lit (.bool false)], args := [d] }
  | _ => none }
def FrameFindsWrongFalsely : Prop := frameFindsRow.holds Try.pinned (OpenSpec.ofChange frameFindsWrong)

/-- 'aneroidlaw12.FrameBack': WHATEVER THE INPUT: true; the input reads as it did. -/
def frameBackSpec : ChangeSpec := { name := "frameBack", fn := fun _ => fun
  | [d1, d2, d3] => { results := [.lit (.bool true)], args := [d1, d2, d3] }
  | _ => none }
def frameBackRow : OpenClaim := { program := "ytflcagcekhgjcaa", sum := "923cef2292adaf420388ba07bd2fff0cfc51a2645e37fd51295ecbedc7563407", func := "aneroid/aneroidlaw12.FrameBack", spec := "frameBack", apart := false }
def FrameBackSaid : Prop := frameBackRow.holds Try.pinned (OpenSpec.ofChange frameBackSpec)

/-- ITS FALSE NEIGHBOUR: 'it returns false'. Refute it at one input. -/
def frameBackWrong : ChangeSpec := { name := "frameBack", fn := fun _ => fun
  | [d1, d2, d3] => { results := [.lit (.bool false)], args := [d1, d2, d3] }
  | _ => none }
def FrameBackWrongFalsely : Prop := frameBackRow.holds Try.pinned (OpenSpec.ofChange frameBackWrong)

/-- 'aneroidlaw13.LinkNew': WHATEVER THE INPUT: true; the input reads as it did. -/
def linkNewSpec : ChangeSpec := { name := "linkNew", fn := fun _ => fun
  | [d1, d2, d3] => { results := [.lit (.bool true)], args := [d1, d2, d3] }
  | _ => none }
def linkNewRow : OpenClaim := { program := "ytflcagcekhgjcaa", sum := "923cef2292adaf420388ba07bd2fff0cfc51a2645e37fd51295ecbedc7563407", func := "aneroid/aneroidlaw13.LinkNew", spec := "linkNew", inPlace := ["sync/atomic.AddInt64", "sync/atomic.LoadInt64"], apart := false }
def LinkNewSaid : Prop := linkNewRow.holds Try.pinned (OpenSpec.ofChange linkNewSpec)

/-- ITS FALSE NEIGHBOUR: 'it returns false'. Refute it at one input. -/
def linkNewWrong : ChangeSpec := { name := "linkNew", fn := fun _ => fun
  | [d1, d2, d3] => { results := [.lit (.bool false)], args := [d1, d2, d3] }
  | _ => none }
def LinkNewWrongFalsely : Prop := linkNewRow.holds Try.pinned (OpenSpec.ofChange linkNewWrong)

/-- 'aneroidlaw13.LinkPlays': WHATEVER THE INPUT: true; the input reads as it did. -/
def linkPlaysSpec : ChangeSpec := { name := "linkPlays", fn := fun _ => fun
  | [d1, d2, d3] => { results := [.lit (.bool true)], args := [d1, d2, d3] }
  | _ => none }
def linkPlaysRow : OpenClaim := { program := "ytflcagcekhgjcaa", sum := "923cef2292adaf420388ba07bd2fff0cfc51a2645e37fd51295ecbedc7563407", func := "aneroid/aneroidlaw13.LinkPlays", spec := "linkPlays", inPlace := ["sync/atomic.AddInt64", "sync/atomic.LoadInt64"], apart := false }
def LinkPlaysSaid : Prop := linkPlaysRow.holds Try.pinned (OpenSpec.ofChange linkPlaysSpec)

/-- ITS FALSE NEIGHBOUR: 'it returns false'. Refute it at one input. -/
def linkPlaysWrong : ChangeSpec := { name := "linkPlays", fn := fun _ => fun
  | [d1, d2, d3] => { results := [.lit (.bool false)], args := [d1, d2, d3] }
  | _ => none }
def LinkPlaysWrongFalsely : Prop := linkPlaysRow.holds Try.pinned (OpenSpec.ofChange linkPlaysWrong)

/-- 'aneroidlaw13.LinkOrder': WHATEVER THE INPUT: true; the input reads as it did. -/
def linkOrderSpec : ChangeSpec := { name := "linkOrder", fn := fun _ => fun
  | [d1, d2, d3] => { results := [.lit (.bool true)], args := [d1, d2, d3] }
  | _ => none }
def linkOrderRow : OpenClaim := { program := "ytflcagcekhgjcaa", sum := "923cef2292adaf420388ba07bd2fff0cfc51a2645e37fd51295ecbedc7563407", func := "aneroid/aneroidlaw13.LinkOrder", spec := "linkOrder", inPlace := ["sync/atomic.AddInt64", "sync/atomic.LoadInt64"], apart := false }
def LinkOrderSaid : Prop := linkOrderRow.holds Try.pinned (OpenSpec.ofChange linkOrderSpec)

/-- ITS FALSE NEIGHBOUR: 'it returns false'. Refute it at one input. -/
def linkOrderWrong : ChangeSpec := { name := "linkOrder", fn := fun _ => fun
  | [d1, d2, d3] => { results := [.lit (.bool false)], args := [d1, d2, d3] }
  | _ => none }
def LinkOrderWrongFalsely : Prop := linkOrderRow.holds Try.pinned (OpenSpec.ofChange linkOrderWrong)

/-- 'aneroidlaw13.LinkStale': WHATEVER THE INPUT: true; the input reads as it did. -/
def linkStaleSpec : ChangeSpec := { name := "linkStale", fn := fun _ => fun
  | [d1, d2, d3] => { results := [.lit (.bool true)], args := [d1, d2, d3] }
  | _ => none }
def linkStaleRow : OpenClaim := { program := "ytflcagcekhgjcaa", sum := "923cef2292adaf420388ba07bd2fff0cfc51a2645e37fd51295ecbedc7563407", func := "aneroid/aneroidlaw13.LinkStale", spec := "linkStale", inPlace := ["sync/atomic.AddInt64"], apart := false }
def LinkStaleSaid : Prop := linkStaleRow.holds Try.pinned (OpenSpec.ofChange linkStaleSpec)

/-- ITS FALSE NEIGHBOUR: 'it returns false'. Refute it at one input. -/
def linkStaleWrong : ChangeSpec := { name := "linkStale", fn := fun _ => fun
  | [d1, d2, d3] => { results := [.lit (.bool false)], args := [d1, d2, d3] }
  | _ => none }
def LinkStaleWrongFalsely : Prop := linkStaleRow.holds Try.pinned (OpenSpec.ofChange linkStaleWrong)

/-- 'aneroidlaw27.ClimbNew': WHATEVER THE INPUT: true; the input reads as it did. -/
def climbNewSpec : ChangeSpec := { name := "climbNew", fn := fun _ => fun
  | [d1, d2] => { results := [.lit (.bool true)], args := [d1, d2] }
  | _ => none }
def climbNewRow : OpenClaim := { program := "ytflcagcekhgjcaa", sum := "923cef2292adaf420388ba07bd2fff0cfc51a2645e37fd51295ecbedc7563407", func := "aneroid/aneroidlaw27.ClimbNew", spec := "climbNew", named := ["math/bits.divideError", "math/bits.overflowError"], apart := false }
def ClimbNewSaid : Prop := climbNewRow.holds Try.pinned (OpenSpec.ofChange climbNewSpec)

/-- ITS FALSE NEIGHBOUR: 'it returns false'. Refute it at one input. -/
def climbNewWrong : ChangeSpec := { name := "climbNew", fn := fun _ => fun
  | [d1, d2] => { results := [.lit (.bool false)], args := [d1, d2] }
  | _ => none }
def ClimbNewWrongFalsely : Prop := climbNewRow.holds Try.pinned (OpenSpec.ofChange climbNewWrong)

/-- 'aneroidlaw27.ClimbRates': WHATEVER THE INPUT: true; the input reads as it did. -/
def climbRatesSpec : ChangeSpec := { name := "climbRates", fn := fun _ => fun
  | [d1, d2] => { results := [.lit (.bool true)], args := [d1, d2] }
  | _ => none }
def climbRatesRow : OpenClaim := { program := "ytflcagcekhgjcaa", sum := "923cef2292adaf420388ba07bd2fff0cfc51a2645e37fd51295ecbedc7563407", func := "aneroid/aneroidlaw27.ClimbRates", spec := "climbRates", named := ["math/bits.divideError", "math/bits.overflowError"], apart := false }
def ClimbRatesSaid : Prop := climbRatesRow.holds Try.pinned (OpenSpec.ofChange climbRatesSpec)

/-- ITS FALSE NEIGHBOUR: 'it returns false'. Refute it at one input. -/
def climbRatesWrong : ChangeSpec := { name := "climbRates", fn := fun _ => fun
  | [d1, d2] => { results := [.lit (.bool false)], args := [d1, d2] }
  | _ => none }
def ClimbRatesWrongFalsely : Prop := climbRatesRow.holds Try.pinned (OpenSpec.ofChange climbRatesWrong)

/-- 'aneroidlaw27.ClimbSteep': WHATEVER THE INPUT: true; the input reads as it did. -/
def climbSteepSpec : ChangeSpec := { name := "climbSteep", fn := fun _ => fun
  | [d1, d2] => { results := [.lit (.bool true)], args := [d1, d2] }
  | _ => none }
def climbSteepRow : OpenClaim := { program := "ytflcagcekhgjcaa", sum := "923cef2292adaf420388ba07bd2fff0cfc51a2645e37fd51295ecbedc7563407", func := "aneroid/aneroidlaw27.ClimbSteep", spec := "climbSteep", named := ["math/bits.divideError", "math/bits.overflowError"], apart := false }
def ClimbSteepSaid : Prop := climbSteepRow.holds Try.pinned (OpenSpec.ofChange climbSteepSpec)

/-- ITS FALSE NEIGHBOUR: 'it returns false'. Refute it at one input. -/
def climbSteepWrong : ChangeSpec := { name := "climbSteep", fn := fun _ => fun
  | [d1, d2] => { results := [.lit (.bool false)], args := [d1, d2] }
  | _ => none }
def ClimbSteepWrongFalsely : Prop := climbSteepRow.holds Try.pinned (OpenSpec.ofChange climbSteepWrong)

/-- 'aneroidlaw27.ClimbEven': WHATEVER THE INPUT: true; the input reads as it did. -/
def climbEvenSpec : ChangeSpec := { name := "climbEven", fn := fun _ => fun
  | [d1, d2, d3] => { results := [.lit (.bool true)], args := [d1, d2, d3] }
  | _ => none }
def climbEvenRow : OpenClaim := { program := "ytflcagcekhgjcaa", sum := "923cef2292adaf420388ba07bd2fff0cfc51a2645e37fd51295ecbedc7563407", func := "aneroid/aneroidlaw27.ClimbEven", spec := "climbEven", named := ["math/bits.divideError", "math/bits.overflowError"], apart := false }
def ClimbEvenSaid : Prop := climbEvenRow.holds Try.pinned (OpenSpec.ofChange climbEvenSpec)

/-- ITS FALSE NEIGHBOUR: 'it returns false'. Refute it at one input. -/
def climbEvenWrong : ChangeSpec := { name := "climbEven", fn := fun _ => fun
  | [d1, d2, d3] => { results := [.lit (.bool false)], args := [d1, d2, d3] }
  | _ => none }
def ClimbEvenWrongFalsely : Prop := climbEvenRow.holds Try.pinned (OpenSpec.ofChange climbEvenWrong)

/- THE SECOND FORM. 'bulk': how many values and letters a reading holds, each counted each time it is reached (what is shared counts as often as it is met; a slice's spare places count too). A statement '..UptoSaid' is the law's where the arguments, and the package variables that the reading takes, are together of bulk at most 1048576: NARROWER than '..Said'. Prove '..Said' where nothing that the law and all that it calls make is longer than what came in: it says more and counts as full. Else prove '..UptoSaid'. A law counts once. -/
mutual
def uptoBulk {H : Type} : DataW H → Nat
  | .lit (.string bytes) => bytes.length + 1
  | .lit _ => 1
  | .nil => 1
  | .ptr d => uptoBulk d + 1
  | .slice elems spare => uptoBulkAll elems + uptoBulkAll spare + 1
  | .agg parts => uptoBulkAll parts + 1
  | .iface _ d => uptoBulk d + 1
  | .map entries => uptoBulkEntries entries + 1
  | .held _ => 1
def uptoBulkAll {H : Type} : List (DataW H) → Nat
  | [] => 0
  | d :: r => uptoBulk d + uptoBulkAll r
def uptoBulkEntries {H : Type} : List (Lit × DataW H) → Nat
  | [] => 0
  | x :: r => uptoBulkEntry x + uptoBulkEntries r
def uptoBulkEntry {H : Type} : Lit × DataW H → Nat
  | (.string bytes, d) => bytes.length + uptoBulk d + 1
  | (_, d) => uptoBulk d + 1
 end
def uptoSmall : (H : Type) → List (DataW H) → Bool := fun _ ds => decide (uptoBulkAll ds ≤ 1048576)
def OpenSpec.upto (s : _root_.Go.ChangeSpec) : _root_.Go.OpenSpec := { _root_.Go.OpenSpec.ofChange s with cond := some uptoSmall }

/-- 'aneroidlaw12.FramePuts', WHERE WHAT IT READS IS OF BULK AT MOST 1048576: true; the input reads as it did. -/
def framePutsUptoRow : OpenClaim := { program := "ytflcagcekhgjcaa", sum := "923cef2292adaf420388ba07bd2fff0cfc51a2645e37fd51295ecbedc7563407", func := "aneroid/aneroidlaw12.FramePuts", spec := "framePuts", apart := false, narrowed := true }
def FramePutsUptoSaid : Prop := framePutsUptoRow.holds Try.pinned (OpenSpec.upto framePutsSpec)

/-- 'aneroidlaw12.FrameTakes', WHERE WHAT IT READS IS OF BULK AT MOST 1048576: true; the input reads as it did. -/
def frameTakesUptoRow : OpenClaim := { program := "ytflcagcekhgjcaa", sum := "923cef2292adaf420388ba07bd2fff0cfc51a2645e37fd51295ecbedc7563407", func := "aneroid/aneroidlaw12.FrameTakes", spec := "frameTakes", apart := false, narrowed := true }
def FrameTakesUptoSaid : Prop := frameTakesUptoRow.holds Try.pinned (OpenSpec.upto frameTakesSpec)

/-- 'aneroidlaw12.FrameFinds', WHERE WHAT IT READS IS OF BULK AT MOST 1048576: true; the input reads as it did. -/
def frameFindsUptoRow : OpenClaim := { program := "ytflcagcekhgjcaa", sum := "923cef2292adaf420388ba07bd2fff0cfc51a2645e37fd51295ecbedc7563407", func := "aneroid/aneroidlaw12.FrameFinds", spec := "frameFinds", apart := false, narrowed := true }
def FrameFindsUptoSaid : Prop := frameFindsUptoRow.holds Try.pinned (OpenSpec.upto frameFindsSpec)

/-- 'aneroidlaw12.FrameBack', WHERE WHAT IT READS IS OF BULK AT MOST 1048576: true; the input reads as it did. -/
def frameBackUptoRow : OpenClaim := { program := "ytflcagcekhgjcaa", sum := "923cef2292adaf420388ba07bd2fff0cfc51a2645e37fd51295ecbedc7563407", func := "aneroid/aneroidlaw12.FrameBack", spec := "frameBack", apart := false, narrowed := true }
def FrameBackUptoSaid : Prop := frameBackUptoRow.holds Try.pinned (OpenSpec.upto frameBackSpec)

/-- 'aneroidlaw13.LinkNew', WHERE WHAT IT READS IS OF BULK AT MOST 1048576: true; the input reads as it did. -/
def linkNewUptoRow : OpenClaim := { program := "ytflcagcekhgjcaa", sum := "923cef2292adaf420388ba07bd2fff0cfc51a2645e37fd51295ecbedc7563407", func := "aneroid/aneroidlaw13.LinkNew", spec := "linkNew", inPlace := ["sync/atomic.AddInt64", "sync/atomic.LoadInt64"], apart := false, narrowed := true }
def LinkNewUptoSaid : Prop := linkNewUptoRow.holds Try.pinned (OpenSpec.upto linkNewSpec)

/-- 'aneroidlaw13.LinkPlays', WHERE WHAT IT READS IS OF BULK AT MOST 1048576: true; the input reads as it did. -/
def linkPlaysUptoRow : OpenClaim := { program := "ytflcagcekhgjcaa", sum := "923cef2292adaf420388ba07bd2fff0cfc51a2645e37fd51295ecbedc7563407", func := "aneroid/aneroidlaw13.LinkPlays", spec := "linkPlays", inPlace := ["sync/atomic.AddInt64", "sync/atomic.LoadInt64"], apart := false, narrowed := true }
def LinkPlaysUptoSaid : Prop := linkPlaysUptoRow.holds Try.pinned (OpenSpec.upto linkPlaysSpec)

/-- 'aneroidlaw13.LinkOrder', WHERE WHAT IT READS IS OF BULK AT MOST 1048576: true; the input reads as it did. -/
def linkOrderUptoRow : OpenClaim := { program := "ytflcagcekhgjcaa", sum := "923cef2292adaf420388ba07bd2fff0cfc51a2645e37fd51295ecbedc7563407", func := "aneroid/aneroidlaw13.LinkOrder", spec := "linkOrder", inPlace := ["sync/atomic.AddInt64", "sync/atomic.LoadInt64"], apart := false, narrowed := true }
def LinkOrderUptoSaid : Prop := linkOrderUptoRow.holds Try.pinned (OpenSpec.upto linkOrderSpec)

/-- 'aneroidlaw13.LinkStale', WHERE WHAT IT READS IS OF BULK AT MOST 1048576: true; the input reads as it did. -/
def linkStaleUptoRow : OpenClaim := { program := "ytflcagcekhgjcaa", sum := "923cef2292adaf420388ba07bd2fff0cfc51a2645e37fd51295ecbedc7563407", func := "aneroid/aneroidlaw13.LinkStale", spec := "linkStale", inPlace := ["sync/atomic.AddInt64"], apart := false, narrowed := true }
def LinkStaleUptoSaid : Prop := linkStaleUptoRow.holds Try.pinned (OpenSpec.upto linkStaleSpec)

/-- 'aneroidlaw27.ClimbNew', WHERE WHAT IT READS IS OF BULK AT MOST 1048576: true; the input reads as it did. -/
def climbNewUptoRow : OpenClaim := { program := "ytflcagcekhgjcaa", sum := "923cef2292adaf420388ba07bd2fff0cfc51a2645e37fd51295ecbedc7563407", func := "aneroid/aneroidlaw27.ClimbNew", spec := "climbNew", named := ["math/bits.divideError", "math/bits.overflowError"], apart := false, narrowed := true }
def ClimbNewUptoSaid : Prop := climbNewUptoRow.holds Try.pinned (OpenSpec.upto climbNewSpec)

/-- 'aneroidlaw27.ClimbRates', WHERE WHAT IT READS IS OF BULK AT MOST 1048576: true; the input reads as it did. -/
def climbRatesUptoRow : OpenClaim := { program := "ytflcagcekhgjcaa", sum := "923cef2292adaf420388ba07bd2fff0cfc51a2645e37fd51295ecbedc7563407", func := "aneroid/aneroidlaw27.ClimbRates", spec := "climbRates", named := ["math/bits.divideError", "math/bits.overflowError"], apart := false, narrowed := true }
def ClimbRatesUptoSaid : Prop := climbRatesUptoRow.holds Try.pinned (OpenSpec.upto climbRatesSpec)

/-- 'aneroidlaw27.ClimbSteep', WHERE WHAT IT READS IS OF BULK AT MOST 1048576: true; the input reads as it did. -/
def climbSteepUptoRow : OpenClaim := { program := "ytflcagcekhgjcaa", sum := "923cef2292adaf420388ba07bd2fff0cfc51a2645e37fd51295ecbedc7563407", func := "aneroid/aneroidlaw27.ClimbSteep", spec := "climbSteep", named := ["math/bits.divideError", "math/bits.overflowError"], apart := false, narrowed := true }
def ClimbSteepUptoSaid : Prop := climbSteepUptoRow.holds Try.pinned (OpenSpec.upto climbSteepSpec)

/-- 'aneroidlaw27.ClimbEven', WHERE WHAT IT READS IS OF BULK AT MOST 1048576: true; the input reads as it did. -/
def climbEvenUptoRow : OpenClaim := { program := "ytflcagcekhgjcaa", sum := "923cef2292adaf420388ba07bd2fff0cfc51a2645e37fd51295ecbedc7563407", func := "aneroid/aneroidlaw27.ClimbEven", spec := "climbEven", named := ["math/bits.divideError", "math/bits.overflowError"], apart := false, narrowed := true }
def ClimbEvenUptoSaid : Prop := climbEvenUptoRow.holds Try.pinned (OpenSpec.upto climbEvenSpec)

end Rows
end Go.Proofs.Ytflcagcekhgjcaa
