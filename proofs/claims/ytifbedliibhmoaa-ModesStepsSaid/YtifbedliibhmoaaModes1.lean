/- What facts ask for (modes.Asked and the document's answer), and the law ModesAsks, walked. -/
import Derived.Test.YtifbedliibhmoaaBase
namespace Go.Proofs.Ytifbedliibhmoaa
open Go.ChangeShapes Go.WideShapes Go.ChangeAt Go.RowKit
set_option linter.unusedVariables false

def askd (wm a b s d : Bool) : Int := if wm = false then 0 else if a && b && !d then 1 else if a && !b then 2 else if b && !a then 3 else if s then 4 else 5
set_option maxHeartbeats 1000000 in
theorem asked_any (wm a b s d : Bool) (w : World) :
    Calls Try.prog 79 #[.agg #[.bool wm, .bool a, .bool b, .bool s, .bool d]] w fun r w' => r = .returned (.int .i64 (askd wm a b s d)) ∧ Below w.heap.size w w' := by
  cases wm <;> cases a <;> cases b <;> cases s <;> cases d
  all_goals
    go_enter Try.func79, Try.ntmps79
    go_wp2
    go_ret
    exact ⟨rfl, (by repeat (first | exact Below.refl _ _ | assumption | apply Below.drew | apply below_drewN | (refine Below.alloc ?_ (by first | exact Nat.le_refl _ | omega | (simp <;> omega)) _) | (refine Below.setCell ?_ (by first | exact Nat.le_refl _ | omega | (simp <;> omega)) _)))⟩

set_option maxHeartbeats 1000000 in
theorem rasked_any (wm a b s d : Bool) (w : World) :
    Calls Try.prog 82 #[.agg #[.bool wm, .bool a, .bool b, .bool s, .bool d]] w fun r w' => r = .returned (.int .i64 (askd wm a b s d)) ∧ Below w.heap.size w w' := by
  cases wm <;> cases a <;> cases b <;> cases s <;> cases d
  all_goals
    go_enter Try.func82, Try.ntmps82
    go_wp2
    go_ret
    exact ⟨rfl, (by repeat (first | exact Below.refl _ _ | assumption | apply Below.drew | apply below_drewN | (refine Below.alloc ?_ (by first | exact Nat.le_refl _ | omega | (simp <;> omega)) _) | (refine Below.setCell ?_ (by first | exact Nat.le_refl _ | omega | (simp <;> omega)) _)))⟩

set_option maxHeartbeats 1000000 in
theorem lives25 (w : World) : Calls Try.prog 43 #[] w fun e w' => e = .returned (.bool true) ∧ Below w.heap.size w w' := by
  go_enter Try.func43, Try.ntmps43
  go_wp2_with fail
  refine (asked_any _ _ _ _ _ _).mono ?_
  rintro e w1 ⟨rfl, hb1⟩
  rw [show askd true true true false false = 1 from by decide]
  obtain ⟨hc1, hf1⟩ := bcell hb1
  go_wp2_with fail
  refine (asked_any _ _ _ _ _ _).mono ?_
  rintro e w2 ⟨rfl, hb2⟩
  rw [show askd true true true true true = 4 from by decide]
  have hbel : Below w.heap.size w w2 := (Below.trans (by repeat (first | exact Below.refl _ _ | assumption | apply Below.drew | apply below_drewN | (refine Below.alloc ?_ (by first | exact Nat.le_refl _ | omega | (simp <;> omega)) _) | (refine Below.setCell ?_ (by first | exact Nat.le_refl _ | omega | (simp <;> omega)) _))) (hb1.mono (by simp; omega))).trans (hb2.mono (by have := hb1.size; simp at this; omega))
  go_wp2
  go_ret
  exact ⟨rfl, hbel⟩

end Go.Proofs.Ytifbedliibhmoaa
