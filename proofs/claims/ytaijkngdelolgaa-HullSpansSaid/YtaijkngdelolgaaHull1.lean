/- Contracts of the spans of package hull (Right, Has, Join, Meet, Widen). -/
import Derived.Test.YtaijkngdelolgaaBase
namespace Go.Proofs.Ytaijkngdelolgaa
open Go.ChangeShapes Go.WideShapes Go.ChangeAt Go.RowKit
set_option linter.unusedVariables false

def cle (n : Int) : Int := if n < -1099511627776 then -1099511627776 else if 1099511627776 < n then 1099511627776 else n
theorem cle_bd (n : Int) : -1099511627776 ≤ cle n ∧ cle n ≤ 1099511627776 := by unfold cle; omega
def widB (n : Int) : Int := if cle n < 0 then 0 else cle n
theorem widB_bd (n : Int) : 0 ≤ widB n ∧ widB n ≤ 1099511627776 := by have := cle_bd n; unfold widB; omega

set_option maxHeartbeats 400000 in
theorem hright_any (a b : Int) (w : World) : Calls Try.prog 25 #[.agg #[.int .i64 a, .int .i64 b]] w fun e w' => e = .returned (.bool (decide (a ≤ b))) ∧ Below w.heap.size w w' := by
  go_enter Try.func25, Try.ntmps25
  go_wp2
  go_ret
  exact ⟨rfl, (by repeat (first | exact Below.refl _ _ | assumption | apply Below.drew | apply below_drewN | (refine Below.alloc ?_ (by first | exact Nat.le_refl _ | omega | (simp <;> omega)) _) | (refine Below.setCell ?_ (by first | exact Nat.le_refl _ | omega | (simp <;> omega)) _)))⟩

set_option maxHeartbeats 400000 in
theorem lright_any (a b : Int) (w : World) : Calls Try.prog 26 #[.agg #[.int .i64 a, .int .i64 b]] w fun e w' => e = .returned (.bool (decide (a ≤ b))) ∧ Below w.heap.size w w' := by
  go_enter Try.func26, Try.ntmps26
  go_wp2
  go_ret
  exact ⟨rfl, (by repeat (first | exact Below.refl _ _ | assumption | apply Below.drew | apply below_drewN | (refine Below.alloc ?_ (by first | exact Nat.le_refl _ | omega | (simp <;> omega)) _) | (refine Below.setCell ?_ (by first | exact Nat.le_refl _ | omega | (simp <;> omega)) _)))⟩

set_option maxHeartbeats 400000 in
theorem has_any (a b v : Int) (w : World) : Calls Try.prog 27 #[.agg #[.int .i64 a, .int .i64 b], .int .i64 v] w fun e w' => e = .returned (.bool (decide (a ≤ v ∧ v ≤ b))) ∧ Below w.heap.size w w' := by
  by_cases h1 : a ≤ v
  all_goals
    go_enter Try.func27, Try.ntmps27
    go_wp2
    go_ret
    exact ⟨ret_bool (by simp; omega), (by repeat (first | exact Below.refl _ _ | assumption | apply Below.drew | apply below_drewN | (refine Below.alloc ?_ (by first | exact Nat.le_refl _ | omega | (simp <;> omega)) _) | (refine Below.setCell ?_ (by first | exact Nat.le_refl _ | omega | (simp <;> omega)) _)))⟩

def joinL (a b c d : Int) : Int := if b < a then c else if d < c then a else min a c
def joinH (a b c d : Int) : Int := if b < a then d else if d < c then b else max b d
theorem ret_span {a b c d : Int} (h : a = c) (g : b = d) : Ending.returned (.agg #[.int .i64 a, .int .i64 b]) = .returned (.agg #[.int .i64 c, .int .i64 d]) := by rw [h, g]
theorem ret_spanb {a b c d : Int} {x y : Bool} (h : a = c) (g : b = d) (k : x = y) : Ending.returned (.tuple #[.agg #[.int .i64 a, .int .i64 b], .bool x]) = .returned (.tuple #[.agg #[.int .i64 c, .int .i64 d], .bool y]) := by rw [h, g, k]
set_option maxHeartbeats 400000 in
theorem join_any (a b c d : Int) (w : World) : Calls Try.prog 28 #[.agg #[.int .i64 a, .int .i64 b], .agg #[.int .i64 c, .int .i64 d]] w fun e w' => e = .returned (.agg #[.int .i64 (joinL a b c d), .int .i64 (joinH a b c d)]) ∧ Below w.heap.size w w' := by
  by_cases h1 : b < a
  · have e1 : joinL a b c d = c := by unfold joinL; omega
    have e2 : joinH a b c d = d := by unfold joinH; omega
    rw [e1, e2]
    clear e1 e2
    have dab : decide (a ≤ b) = false := by simp; omega
    go_enter Try.func28, Try.ntmps28
    go_wp2
    exact bodyPost_ret (v := .agg #[.int .i64 c, .int .i64 d]) (by simp [results, Try.results28, go_sem]) rfl ⟨rfl, (by repeat (first | exact Below.refl _ _ | assumption | apply Below.drew | apply below_drewN | (refine Below.alloc ?_ (by first | exact Nat.le_refl _ | omega | (simp <;> omega)) _) | (refine Below.setCell ?_ (by first | exact Nat.le_refl _ | omega | (simp <;> omega)) _)))⟩
  · by_cases h2 : d < c
    · have e1 : joinL a b c d = a := by unfold joinL; omega
      have e2 : joinH a b c d = b := by unfold joinH; omega
      rw [e1, e2]
      clear e1 e2
      have dab : decide (a ≤ b) = true := by simp; omega
      have dcd : decide (c ≤ d) = false := by simp; omega
      go_enter Try.func28, Try.ntmps28
      go_wp2
      exact bodyPost_ret (v := .agg #[.int .i64 a, .int .i64 b]) (by simp [results, Try.results28, go_sem]) rfl ⟨rfl, (by repeat (first | exact Below.refl _ _ | assumption | apply Below.drew | apply below_drewN | (refine Below.alloc ?_ (by first | exact Nat.le_refl _ | omega | (simp <;> omega)) _) | (refine Below.setCell ?_ (by first | exact Nat.le_refl _ | omega | (simp <;> omega)) _)))⟩
    · by_cases h3 : c < a
      · by_cases h4 : b < d
        · have e1 : joinL a b c d = c := by unfold joinL; omega
          have e2 : joinH a b c d = d := by unfold joinH; omega
          rw [e1, e2]
          clear e1 e2
          have dab : decide (a ≤ b) = true := by simp; omega
          have dcd : decide (c ≤ d) = true := by simp; omega
          go_enter Try.func28, Try.ntmps28
          go_wp2
          exact bodyPost_ret (v := .agg #[.int .i64 c, .int .i64 d]) (by simp [results, Try.results28, go_sem]) rfl ⟨rfl, (by repeat (first | exact Below.refl _ _ | assumption | apply Below.drew | apply below_drewN | (refine Below.alloc ?_ (by first | exact Nat.le_refl _ | omega | (simp <;> omega)) _) | (refine Below.setCell ?_ (by first | exact Nat.le_refl _ | omega | (simp <;> omega)) _)))⟩
        · have e1 : joinL a b c d = c := by unfold joinL; omega
          have e2 : joinH a b c d = b := by unfold joinH; omega
          rw [e1, e2]
          clear e1 e2
          have dab : decide (a ≤ b) = true := by simp; omega
          have dcd : decide (c ≤ d) = true := by simp; omega
          go_enter Try.func28, Try.ntmps28
          go_wp2
          exact bodyPost_ret (v := .agg #[.int .i64 c, .int .i64 b]) (by simp [results, Try.results28, go_sem]) rfl ⟨rfl, (by repeat (first | exact Below.refl _ _ | assumption | apply Below.drew | apply below_drewN | (refine Below.alloc ?_ (by first | exact Nat.le_refl _ | omega | (simp <;> omega)) _) | (refine Below.setCell ?_ (by first | exact Nat.le_refl _ | omega | (simp <;> omega)) _)))⟩
      · by_cases h4 : b < d
        · have e1 : joinL a b c d = a := by unfold joinL; omega
          have e2 : joinH a b c d = d := by unfold joinH; omega
          rw [e1, e2]
          clear e1 e2
          have dab : decide (a ≤ b) = true := by simp; omega
          have dcd : decide (c ≤ d) = true := by simp; omega
          go_enter Try.func28, Try.ntmps28
          go_wp2
          exact bodyPost_ret (v := .agg #[.int .i64 a, .int .i64 d]) (by simp [results, Try.results28, go_sem]) rfl ⟨rfl, (by repeat (first | exact Below.refl _ _ | assumption | apply Below.drew | apply below_drewN | (refine Below.alloc ?_ (by first | exact Nat.le_refl _ | omega | (simp <;> omega)) _) | (refine Below.setCell ?_ (by first | exact Nat.le_refl _ | omega | (simp <;> omega)) _)))⟩
        · have e1 : joinL a b c d = a := by unfold joinL; omega
          have e2 : joinH a b c d = b := by unfold joinH; omega
          rw [e1, e2]
          clear e1 e2
          have dab : decide (a ≤ b) = true := by simp; omega
          have dcd : decide (c ≤ d) = true := by simp; omega
          go_enter Try.func28, Try.ntmps28
          go_wp2
          exact bodyPost_ret (v := .agg #[.int .i64 a, .int .i64 b]) (by simp [results, Try.results28, go_sem]) rfl ⟨rfl, (by repeat (first | exact Below.refl _ _ | assumption | apply Below.drew | apply below_drewN | (refine Below.alloc ?_ (by first | exact Nat.le_refl _ | omega | (simp <;> omega)) _) | (refine Below.setCell ?_ (by first | exact Nat.le_refl _ | omega | (simp <;> omega)) _)))⟩

def meetL (a b c d : Int) : Int := if (if d < b then d else b) < (if a < c then c else a) then 0 else if a < c then c else a
def meetH (a b c d : Int) : Int := if (if d < b then d else b) < (if a < c then c else a) then 0 else if d < b then d else b
def meetB (a b c d : Int) : Bool := decide ((if a < c then c else a) ≤ (if d < b then d else b))
set_option maxHeartbeats 800000 in
theorem meet_any (a b c d : Int) (w : World) : Calls Try.prog 29 #[.agg #[.int .i64 a, .int .i64 b], .agg #[.int .i64 c, .int .i64 d]] w fun e w' => e = .returned (.tuple #[.agg #[.int .i64 (meetL a b c d), .int .i64 (meetH a b c d)], .bool (meetB a b c d)]) ∧ Below w.heap.size w w' := by
  by_cases h1 : a < c
  · by_cases h2 : d < b
    · by_cases h3 : c ≤ d
      · have e1 : meetL a b c d = c := by unfold meetL; omega
        have e2 : meetH a b c d = d := by unfold meetH; omega
        have e3 : meetB a b c d = true := by unfold meetB; simp; omega
        rw [e1, e2, e3]
        clear e1 e2 e3
        have hd : decide (c ≤ d) = true := by simp; omega
        go_enter Try.func29, Try.ntmps29
        go_wp2
        exact bodyPost_ret (v := .tuple #[.agg #[.int .i64 c, .int .i64 d], .bool true]) (by simp [results, Try.results29, go_sem]) rfl ⟨rfl, (by repeat (first | exact Below.refl _ _ | assumption | apply Below.drew | apply below_drewN | (refine Below.alloc ?_ (by first | exact Nat.le_refl _ | omega | (simp <;> omega)) _) | (refine Below.setCell ?_ (by first | exact Nat.le_refl _ | omega | (simp <;> omega)) _)))⟩
      · have e1 : meetL a b c d = 0 := by unfold meetL; omega
        have e2 : meetH a b c d = 0 := by unfold meetH; omega
        have e3 : meetB a b c d = false := by unfold meetB; simp; omega
        rw [e1, e2, e3]
        clear e1 e2 e3
        have hd : decide (c ≤ d) = false := by simp; omega
        go_enter Try.func29, Try.ntmps29
        go_wp2
        exact bodyPost_ret (v := .tuple #[.agg #[.int .i64 0, .int .i64 0], .bool false]) (by simp [results, Try.results29, go_sem]) rfl ⟨rfl, (by repeat (first | exact Below.refl _ _ | assumption | apply Below.drew | apply below_drewN | (refine Below.alloc ?_ (by first | exact Nat.le_refl _ | omega | (simp <;> omega)) _) | (refine Below.setCell ?_ (by first | exact Nat.le_refl _ | omega | (simp <;> omega)) _)))⟩
    · by_cases h3 : c ≤ b
      · have e1 : meetL a b c d = c := by unfold meetL; omega
        have e2 : meetH a b c d = b := by unfold meetH; omega
        have e3 : meetB a b c d = true := by unfold meetB; simp; omega
        rw [e1, e2, e3]
        clear e1 e2 e3
        have hd : decide (c ≤ b) = true := by simp; omega
        go_enter Try.func29, Try.ntmps29
        go_wp2
        exact bodyPost_ret (v := .tuple #[.agg #[.int .i64 c, .int .i64 b], .bool true]) (by simp [results, Try.results29, go_sem]) rfl ⟨rfl, (by repeat (first | exact Below.refl _ _ | assumption | apply Below.drew | apply below_drewN | (refine Below.alloc ?_ (by first | exact Nat.le_refl _ | omega | (simp <;> omega)) _) | (refine Below.setCell ?_ (by first | exact Nat.le_refl _ | omega | (simp <;> omega)) _)))⟩
      · have e1 : meetL a b c d = 0 := by unfold meetL; omega
        have e2 : meetH a b c d = 0 := by unfold meetH; omega
        have e3 : meetB a b c d = false := by unfold meetB; simp; omega
        rw [e1, e2, e3]
        clear e1 e2 e3
        have hd : decide (c ≤ b) = false := by simp; omega
        go_enter Try.func29, Try.ntmps29
        go_wp2
        exact bodyPost_ret (v := .tuple #[.agg #[.int .i64 0, .int .i64 0], .bool false]) (by simp [results, Try.results29, go_sem]) rfl ⟨rfl, (by repeat (first | exact Below.refl _ _ | assumption | apply Below.drew | apply below_drewN | (refine Below.alloc ?_ (by first | exact Nat.le_refl _ | omega | (simp <;> omega)) _) | (refine Below.setCell ?_ (by first | exact Nat.le_refl _ | omega | (simp <;> omega)) _)))⟩
  · by_cases h2 : d < b
    · by_cases h3 : a ≤ d
      · have e1 : meetL a b c d = a := by unfold meetL; omega
        have e2 : meetH a b c d = d := by unfold meetH; omega
        have e3 : meetB a b c d = true := by unfold meetB; simp; omega
        rw [e1, e2, e3]
        clear e1 e2 e3
        have hd : decide (a ≤ d) = true := by simp; omega
        go_enter Try.func29, Try.ntmps29
        go_wp2
        exact bodyPost_ret (v := .tuple #[.agg #[.int .i64 a, .int .i64 d], .bool true]) (by simp [results, Try.results29, go_sem]) rfl ⟨rfl, (by repeat (first | exact Below.refl _ _ | assumption | apply Below.drew | apply below_drewN | (refine Below.alloc ?_ (by first | exact Nat.le_refl _ | omega | (simp <;> omega)) _) | (refine Below.setCell ?_ (by first | exact Nat.le_refl _ | omega | (simp <;> omega)) _)))⟩
      · have e1 : meetL a b c d = 0 := by unfold meetL; omega
        have e2 : meetH a b c d = 0 := by unfold meetH; omega
        have e3 : meetB a b c d = false := by unfold meetB; simp; omega
        rw [e1, e2, e3]
        clear e1 e2 e3
        have hd : decide (a ≤ d) = false := by simp; omega
        go_enter Try.func29, Try.ntmps29
        go_wp2
        exact bodyPost_ret (v := .tuple #[.agg #[.int .i64 0, .int .i64 0], .bool false]) (by simp [results, Try.results29, go_sem]) rfl ⟨rfl, (by repeat (first | exact Below.refl _ _ | assumption | apply Below.drew | apply below_drewN | (refine Below.alloc ?_ (by first | exact Nat.le_refl _ | omega | (simp <;> omega)) _) | (refine Below.setCell ?_ (by first | exact Nat.le_refl _ | omega | (simp <;> omega)) _)))⟩
    · by_cases h3 : a ≤ b
      · have e1 : meetL a b c d = a := by unfold meetL; omega
        have e2 : meetH a b c d = b := by unfold meetH; omega
        have e3 : meetB a b c d = true := by unfold meetB; simp; omega
        rw [e1, e2, e3]
        clear e1 e2 e3
        have hd : decide (a ≤ b) = true := by simp; omega
        go_enter Try.func29, Try.ntmps29
        go_wp2
        exact bodyPost_ret (v := .tuple #[.agg #[.int .i64 a, .int .i64 b], .bool true]) (by simp [results, Try.results29, go_sem]) rfl ⟨rfl, (by repeat (first | exact Below.refl _ _ | assumption | apply Below.drew | apply below_drewN | (refine Below.alloc ?_ (by first | exact Nat.le_refl _ | omega | (simp <;> omega)) _) | (refine Below.setCell ?_ (by first | exact Nat.le_refl _ | omega | (simp <;> omega)) _)))⟩
      · have e1 : meetL a b c d = 0 := by unfold meetL; omega
        have e2 : meetH a b c d = 0 := by unfold meetH; omega
        have e3 : meetB a b c d = false := by unfold meetB; simp; omega
        rw [e1, e2, e3]
        clear e1 e2 e3
        have hd : decide (a ≤ b) = false := by simp; omega
        go_enter Try.func29, Try.ntmps29
        go_wp2
        exact bodyPost_ret (v := .tuple #[.agg #[.int .i64 0, .int .i64 0], .bool false]) (by simp [results, Try.results29, go_sem]) rfl ⟨rfl, (by repeat (first | exact Below.refl _ _ | assumption | apply Below.drew | apply below_drewN | (refine Below.alloc ?_ (by first | exact Nat.le_refl _ | omega | (simp <;> omega)) _) | (refine Below.setCell ?_ (by first | exact Nat.le_refl _ | omega | (simp <;> omega)) _)))⟩
end Go.Proofs.Ytaijkngdelolgaa
