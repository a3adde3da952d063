/- The law HullSpans. -/
import Derived.Test.YtaijkngdelolgaaHull4
import Derived.Test.YtaijkngdelolgaaHull5
import Derived.Test.YtaijkngdelolgaaHull6
import Derived.Test.YtaijkngdelolgaaHull7
import Derived.Test.YtaijkngdelolgaaHull8
namespace Go.Proofs.Ytaijkngdelolgaa
open Go.ChangeShapes Go.WideShapes Go.ChangeAt Go.RowKit
set_option linter.unusedVariables false
set_option linter.unusedSimpArgs false
theorem law_HullSpans (a : Option Addr) (cap : Nat) (l : List Int) (A B : Nat → Int) (v : Int) (w : World) (hr : RowIs .i64 w a l) (hl : l.length ≤ maxLen) : Calls Try.prog 8 #[.slice a l.length cap, .agg #[.int .i64 (A 0), .int .i64 (A 1), .int .i64 (B 0), .int .i64 (B 1)], .int .i64 v] w fun e w' => e = .returned (.bool true) ∧ Below w.heap.size w w' := by
  by_cases h : 200 < l.length
  · exact hs_long a cap l A B v w hr hl h
  replace h : l.length ≤ 200 := by omega
  by_cases hA : A 0 ≤ A 1
  all_goals by_cases hB : B 0 ≤ B 1
  all_goals by_cases hV : A 0 ≤ v
  · by_cases hM : (if A 0 < B 0 then B 0 else A 0) ≤ (if B 1 < A 1 then B 1 else A 1)
    · exact hs_1111 a cap l A B v w hr hl h hA hB hV hM
    · exact hs_1101 a cap l A B v w hr hl h hA hB hV (Int.not_le.1 hM)
  · by_cases hM : (if A 0 < B 0 then B 0 else A 0) ≤ (if B 1 < A 1 then B 1 else A 1)
    · exact hs_1110 a cap l A B v w hr hl h hA hB (Int.not_le.1 hV) hM
    · exact hs_1100 a cap l A B v w hr hl h hA hB (Int.not_le.1 hV) (Int.not_le.1 hM)
  · exact hs_10x1 a cap l A B v w hr hl h hA (Int.not_le.1 hB) hV
  · exact hs_10x0 a cap l A B v w hr hl h hA (Int.not_le.1 hB) (Int.not_le.1 hV)
  · exact hs_01x1 a cap l A B v w hr hl h (Int.not_le.1 hA) hB hV
  · exact hs_01x0 a cap l A B v w hr hl h (Int.not_le.1 hA) hB (Int.not_le.1 hV)
  · exact hs_00x1 a cap l A B v w hr hl h (Int.not_le.1 hA) (Int.not_le.1 hB) hV
  · exact hs_00x0 a cap l A B v w hr hl h (Int.not_le.1 hA) (Int.not_le.1 hB) (Int.not_le.1 hV)
end Go.Proofs.Ytaijkngdelolgaa
