/-
  No cell of these rows narrows 'for every input' (looked for: loops, veiled, ifaces, maps, wideKeys, modest, calm, conditions, laid).
  DERIVED. THE GIVEN ROWS OF THIS SEAT. 6 by the template 'for every input the law returns true; each argument reads behind the call as it read before'; 0 by the template 'total and deterministic' (their statements: YticecjjlafmclaaTotals.lean).
  GIVEN WITH THE SEED: the statements are not yours to turn. If you find one false, say at which input.
  Laid BY PROGRAM, IN A SANDBOX (cutbox-rows.mjs): the forced cells as the released guide's own fill.sh prints them over the translation 638cb9cb3bd970e2… (all of the seat's roots in one cut). By AI agents, Wed Nov 11 2026. No macro, syntax, notation, axiom, sorry.
-/
import Derived.Test.YticecjjlafmclaaChecked
import GoSem.Claim
import GoSem.ClaimJoined
import GoSem.ClaimMapViews
import Derived.JoinedTies
import Derived.KernelRfl
namespace Go.Proofs.Yticecjjlafmclaa
/- THE CELL 'sum', in the pinned program and in every row, IS THE sha256 OF THE DUMP (.gsa) THAT YticecjjlafmclaaProg.lean LOADS. Nothing in Lean hashes anything: it is a label: what it is worth is what the hold of that sum in a sandbox is worth. -/
noncomputable def Try.pinned : Pinned := { name := "yticecjjlafmclaa", sum := "638cb9cb3bd970e21bd20c70372f1ae09b1ed6661808d0a36b66fa56d438e5e0", checked := Try.checked }
namespace Rows
def none {H : Type} : Left H := { results := [], args := [] }

/-- 'aneroidlaw38.SsecFlat': WHATEVER THE INPUT: true; the input reads as it did. -/
def ssecFlatSpec : ChangeSpec := { name := "ssecFlat", fn := fun _ => fun
  | [d1, d2, d3] => { results := [.lit (.bool true)], args := [d1, d2, d3] }
  | _ => none }
def ssecFlatRow : OpenClaim := { program := "yticecjjlafmclaa", sum := "638cb9cb3bd970e21bd20c70372f1ae09b1ed6661808d0a36b66fa56d438e5e0", func := "aneroid/aneroidlaw38.SsecFlat", spec := "ssecFlat", unfollowed := true, recurses := true, named := ["math/bits.divideError", "math/bits.overflowError"], apart := false }
def SsecFlatSaid : Prop := ssecFlatRow.holds Try.pinned (OpenSpec.ofChange ssecFlatSpec)

/-- ITS FALSE NEIGHBOUR: 'it returns false'. Refute it at one input. -/
def ssecFlatWrong : ChangeSpec := { name := "ssecFlat", fn := fun _ => fun
  | [d1, d2, d3] => { results := [.lit (.bool false)], args := [d1, d2, d3] }
  | _ => none }
def SsecFlatWrongFalsely : Prop := ssecFlatRow.holds Try.pinned (OpenSpec.ofChange ssecFlatWrong)

/-- 'aneroidlaw44.TrendNew': WHATEVER THE INPUT: true; the input reads as it did. -/
def trendNewSpec : ChangeSpec := { name := "trendNew", fn := fun _ => fun
  | [d1, d2] => { results := [.lit (.bool true)], args := [d1, d2] }
  | _ => none }
def trendNewRow : OpenClaim := { program := "yticecjjlafmclaa", sum := "638cb9cb3bd970e21bd20c70372f1ae09b1ed6661808d0a36b66fa56d438e5e0", func := "aneroid/aneroidlaw44.TrendNew", spec := "trendNew", unfollowed := true, recurses := true, apart := false }
def TrendNewSaid : Prop := trendNewRow.holds Try.pinned (OpenSpec.ofChange trendNewSpec)

/-- ITS FALSE NEIGHBOUR: 'it returns false'. Refute it at one input. -/
def trendNewWrong : ChangeSpec := { name := "trendNew", fn := fun _ => fun
  | [d1, d2] => { results := [.lit (.bool false)], args := [d1, d2] }
  | _ => none }
def TrendNewWrongFalsely : Prop := trendNewRow.holds Try.pinned (OpenSpec.ofChange trendNewWrong)

/-- 'aneroidlaw44.TrendLines': WHATEVER THE INPUT: true; the input reads as it did. -/
def trendLinesSpec : ChangeSpec := { name := "trendLines", fn := fun _ => fun
  | [d1, d2, d3] => { results := [.lit (.bool true)], args := [d1, d2, d3] }
  | _ => none }
def trendLinesRow : OpenClaim := { program := "yticecjjlafmclaa", sum := "638cb9cb3bd970e21bd20c70372f1ae09b1ed6661808d0a36b66fa56d438e5e0", func := "aneroid/aneroidlaw44.TrendLines", spec := "trendLines", unfollowed := true, recurses := true, apart := false }
def TrendLinesSaid : Prop := trendLinesRow.holds Try.pinned (OpenSpec.ofChange trendLinesSpec)

/-- ITS FALSE NEIGHBOUR: 'it returns false'. Refute it at one input. -/
def trendLinesWrong : ChangeSpec := { name := "trendLines", fn := fun _ => fun
  | [d1, d2, d3] => { results := [.lit (.bool false)], args := [d1, d2, d3] }
  | _ => none }
def TrendLinesWrongFalsely : Prop := trendLinesRow.holds Try.pinned (OpenSpec.ofChange trendLinesWrong)

/-- 'aneroidlaw44.TrendAway': WHATEVER THE INPUT: true; the input reads as it did. -/
def trendAwaySpec : ChangeSpec := { name := "trendAway", fn := fun _ => fun
  | [d1, d2, d3] => { results := [.lit (.bool true)], args := [d1, d2, d3] }
  | _ => none }
def trendAwayRow : OpenClaim := { program := "yticecjjlafmclaa", sum := "638cb9cb3bd970e21bd20c70372f1ae09b1ed6661808d0a36b66fa56d438e5e0", func := "aneroid/aneroidlaw44.TrendAway", spec := "trendAway", unfollowed := true, recurses := true, apart := false }
def TrendAwaySaid : Prop := trendAwayRow.holds Try.pinned (OpenSpec.ofChange trendAwaySpec)

/-- ITS FALSE NEIGHBOUR: 'it returns false'. Refute it at one input. -/
def trendAwayWrong : ChangeSpec := { name := "trendAway", fn := fun _ => fun
  | [d1, d2, d3] => { results := [.lit (.bool false)], args := [d1, d2, d3] }
  | _ => none }
def TrendAwayWrongFalsely : Prop := trendAwayRow.holds Try.pinned (OpenSpec.ofChange trendAwayWrong)

/-- 'aneroidlaw44.TrendEven': WHATEVER THE INPUT: true; the input reads as it did. -/
def trendEvenSpec : ChangeSpec := { name := "trendEven", fn := fun _ => fun
  | [d1, d2, d3] => { results := [.lit (.bool true)], args := [d1, d2, d3] }
  | _ => none }
def trendEvenRow : OpenClaim := { program := "yticecjjlafmclaa", sum := "638cb9cb3bd970e21bd20c70372f1ae09b1ed6661808d0a36b66fa56d438e5e0", func := "aneroid/aneroidlaw44.TrendEven", spec := "trendEven", unfollowed := true, recurses := true, apart := false }
def TrendEvenSaid : Prop := trendEvenRow.holds Try.pinned (OpenSpec.ofChange trendEvenSpec)

/-- ITS FALSE NEIGHBOUR: 'it returns false'. Refute it at one input. -/
def trendEvenWrong : ChangeSpec := { name := "trendEven", fn := fun _ => fun
  | [d1, d2, d3] => { results := [.lit (.bool false)], args := [d1, d2, d3] }
  | _ => none }
def TrendEvenWrongFalsely : Prop := trendEvenRow.holds Try.pinned (OpenSpec.ofChange trendEvenWrong)

/-- 'aneroidlaw44.TrendRises': WHATEVER THE INPUT: true; the input reads as it did. -/
def trendRisesSpec : ChangeSpec := { name := "trendRises", fn := fun _ => fun
  | [d1, d2] => { results := [.lit (.bool true)], args := [d1, d2] }
  | _ => none }
def trendRisesRow : OpenClaim := { program := "yticecjjlafmclaa", sum := "638cb9cb3bd970e21bd20c70372f1ae09b1ed6661808d0a36b66fa56d438e5e0", func := "aneroid/aneroidlaw44.TrendRises", spec := "trendRises", apart := false }
def TrendRisesSaid : Prop := trendRisesRow.holds Try.pinned (OpenSpec.ofChange trendRisesSpec)

/-- ITS FALSE NEIGHBOUR: 'it returns false'. Refute it at one input. -/
def trendRisesWrong : ChangeSpec := { name := "trendRises", fn := fun _ => fun
  | [d1, d2] => { results := [.lit (.bool false)], args := [d1, d2] }
  | _ => none }
def TrendRisesWrongFalsely : Prop := trendRisesRow.holds Try.pinned (OpenSpec.ofChange trendRisesWrong)

/- THE SECOND FORM. 'bulk': how many values and letters a reading holds, each counted each time it is reached (what is shared counts as often as it is met; a slice's spare places count too). A statement '..UptoSaid' is the law's where the arguments, and the package variables that the reading takes, are together of bulk at most 1048576: NARROWER than '..Said'. Prove '..Said' where nothing that the law and all that it calls make is longer than what came in: it says more and counts as full. Else prove '..UptoSaid'. A law counts once. -/
mutual
def uptoBulk {H : Type} : DataW H → Nat
  | .lit (.string bytes) => bytes.length + 1
  | .lit _ => 1
  | .nil => 1
  | .ptr d => uptoBulk d + 1
  | .slice elems spare => uptoBulkAll elems + uptoBulkAll spare + 1
  | .agg parts => uptoBulkAll parts + 1
  | .iface _ d => uptoBulk d + 1
  | .map entries => uptoBulkEntries entries + 1
  | .held _ => 1
def uptoBulkAll {H : Type} : List (DataW H) → Nat
  | [] => 0
  | d :: r => uptoBulk d + uptoBulkAll r
def uptoBulkEntries {H : Type} : List (Lit × DataW H) → Nat
  | [] => 0
  | x :: r => uptoBulkEntry x + uptoBulkEntries r
def uptoBulkEntry {H : Type} : Lit × DataW H → Nat
  | (.string bytes, d) => bytes.length + uptoBulk d + 1
  | (_, d) => uptoBulk d + 1
 end
def uptoSmall : (H : Type) → List (DataW H) → Bool := fun _ ds => decide (uptoBulkAll ds ≤ 1048576)
def OpenSpec.upto (s : _root_.Go.ChangeSpec) : _root_.Go.OpenSpec := { _root_.Go.OpenSpec.ofChange s with cond := some uptoSmall }

/-- 'aneroidlaw38.SsecFlat', WHERE WHAT IT READS IS OF BULK AT MOST 1048576: true; the input reads as it did. -/
def ssecFlatUptoRow : OpenClaim := { program := "yticecjjlafmclaa", sum := "638cb9cb3bd970e21bd20c70372f1ae09b1ed6661808d0a36b66fa56d438e5e0", func := "aneroid/aneroidlaw38.SsecFlat", spec := "ssecFlat", unfollowed := true, recurses := true, named := ["math/bits.divideError", "math/bits.overflowError"], apart := false, narrowed := true }
def SsecFlatUptoSaid : Prop := ssecFlatUptoRow.holds Try.pinned (OpenSpec.upto ssecFlatSpec)

/-- 'aneroidlaw44.TrendNew', WHERE WHAT IT READS IS OF BULK AT MOST 1048576: true; the input reads as it did. -/
def trendNewUptoRow : OpenClaim := { program := "yticecjjlafmclaa", sum := "638cb9cb3bd970e21bd20c70372f1ae09b1ed6661808d0a36b66fa56d438e5e0", func := "aneroid/aneroidlaw44.TrendNew", spec := "trendNew", unfollowed := true, recurses := true, apart := false, narrowed := true }
def TrendNewUptoSaid : Prop := trendNewUptoRow.holds Try.pinned (OpenSpec.upto trendNewSpec)

/-- 'aneroidlaw44.TrendLines', WHERE WHAT IT READS IS OF BULK AT MOST 1048576: true; the input reads as it did. -/
def trendLinesUptoRow : OpenClaim := { program := "yticecjjlafmclaa", sum := "638cb9cb3bd970e21bd20c70372f1ae09b1ed6661808d0a36b66fa56d438e5e0", func := "aneroid/aneroidlaw44.TrendLines", spec := "trendLines", unfollowed := true, recurses := true, apart := false, narrowed := true }
def TrendLinesUptoSaid : Prop := trendLinesUptoRow.holds Try.pinned (OpenSpec.upto trendLinesSpec)

/-- 'aneroidlaw44.TrendAway', WHERE WHAT IT READS IS OF BULK AT MOST 1048576: true; the input reads as it did. -/
def trendAwayUptoRow : OpenClaim := { program := "yticecjjlafmclaa", sum := "638cb9cb3bd970e21bd20c70372f1ae09b1ed6661808d0a36b66fa56d438e5e0", func := "aneroid/aneroidlaw44.TrendAway", spec := "trendAway", unfollowed := true, recurses := true, apart := false, narrowed := true }
def TrendAwayUptoSaid : Prop := trendAwayUptoRow.holds Try.pinned (OpenSpec.upto trendAwaySpec)

/-- 'aneroidlaw44.TrendEven', WHERE WHAT IT READS IS OF BULK AT MOST 1048576: true; the input reads as it did. -/
def trendEvenUptoRow : OpenClaim := { program := "yticecjjlafmclaa", sum := "638cb9cb3bd970e21bd20c70372f1ae09b1ed6661808d0a36b66fa56d438e5e0", func := "aneroid/aneroidlaw44.TrendEven", spec := "trendEven", unfollowed := true, recurses := true, apart := false, narrowed := true }
def TrendEvenUptoSaid : Prop := trendEvenUptoRow.holds Try.pinned (OpenSpec.upto trendEvenSpec)

/-- 'aneroidlaw44.TrendRises', WHERE WHAT IT READS IS OF BULK AT MOST 1048576: true; the input reads as it did. -/
def trendRisesUptoRow : OpenClaim := { program := "yticecjjlafmclaa", sum := "638cb9cb3bd970e21bd20c70372f1ae09b1ed6661808d0a36b66fa56d438e5e0", func := "aneroid/aneroidlaw44.TrendRises", spec := "trendRises", apart := false, narrowed := true }
def TrendRisesUptoSaid : Prop := trendRisesUptoRow.holds Try.pinned (OpenSpec.upto trendRisesSpec)

end Rows
end Go.Proofs.Yticecjjlafmclaa
