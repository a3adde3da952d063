/- Contracts of the spans of package hull (Right, Has, Join, Meet, Widen). -/
import Derived.Test.YtecpmffmmiogfaaGreatMgAg
namespace Go.Proofs.YtecpmffmmiogfaaGreat
open Go.ChangeShapes Go.WideShapes Go.ChangeAt Go.RowKit
set_option linter.unusedVariables false

def cle (n : Int) : Int := if n < -1099511627776 then -1099511627776 else if 1099511627776 < n then 1099511627776 else n
theorem cle_bd (n : Int) : -1099511627776 ≤ cle n ∧ cle n ≤ 1099511627776 := by unfold cle; omega
def widB (n : Int) : Int := if cle n < 0 then 0 else cle n
theorem widB_bd (n : Int) : 0 ≤ widB n ∧ widB n ≤ 1099511627776 := by have := cle_bd n; unfold widB; omega

set_option maxHeartbeats 400000 in
theorem hright_any (a b : Int) (w : World) : Calls Tryz.prog 39 #[.agg #[.int .i64 a, .int .i64 b]] w fun e w' => e = .returned (.bool (decide (a ≤ b))) ∧ Below w.heap.size w w' := by
  go_enter Tryz.func39, Tryz.ntmps39
  go_wp2
  go_ret
  exact ⟨rfl, (by repeat (first | exact Below.refl _ _ | assumption | apply Below.drew | apply below_drewN | (refine Below.alloc ?_ (by first | exact Nat.le_refl _ | omega | (simp <;> omega)) _) | (refine Below.setCell ?_ (by first | exact Nat.le_refl _ | omega | (simp <;> omega)) _)))⟩

set_option maxHeartbeats 400000 in
theorem lright_any (a b : Int) (w : World) : Calls Tryz.prog 14 #[.agg #[.int .i64 a, .int .i64 b]] w fun e w' => e = .returned (.bool (decide (a ≤ b))) ∧ Below w.heap.size w w' := by
  go_enter Tryz.func14, Tryz.ntmps14
  go_wp2
  go_ret
  exact ⟨rfl, (by repeat (first | exact Below.refl _ _ | assumption | apply Below.drew | apply below_drewN | (refine Below.alloc ?_ (by first | exact Nat.le_refl _ | omega | (simp <;> omega)) _) | (refine Below.setCell ?_ (by first | exact Nat.le_refl _ | omega | (simp <;> omega)) _)))⟩

def joinL (a b c d : Int) : Int := if b < a then c else if d < c then a else min a c
def joinH (a b c d : Int) : Int := if b < a then d else if d < c then b else max b d
theorem ret_span {a b c d : Int} (h : a = c) (g : b = d) : Ending.returned (.agg #[.int .i64 a, .int .i64 b]) = .returned (.agg #[.int .i64 c, .int .i64 d]) := by rw [h, g]
theorem ret_spanb {a b c d : Int} {x y : Bool} (h : a = c) (g : b = d) (k : x = y) : Ending.returned (.tuple #[.agg #[.int .i64 a, .int .i64 b], .bool x]) = .returned (.tuple #[.agg #[.int .i64 c, .int .i64 d], .bool y]) := by rw [h, g, k]
def meetL (a b c d : Int) : Int := if (if d < b then d else b) < (if a < c then c else a) then 0 else if a < c then c else a
def meetH (a b c d : Int) : Int := if (if d < b then d else b) < (if a < c then c else a) then 0 else if d < b then d else b
def meetB (a b c d : Int) : Bool := decide ((if a < c then c else a) ≤ (if d < b then d else b))
end Go.Proofs.YtecpmffmmiogfaaGreat
