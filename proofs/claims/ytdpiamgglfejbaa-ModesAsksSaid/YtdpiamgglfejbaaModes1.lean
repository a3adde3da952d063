/- What facts ask for (modes.Asked and the document's answer), and the law ModesAsks, walked. -/
import Derived.Test.YtdpiamgglfejbaaBase
namespace Go.Proofs.Ytdpiamgglfejbaa
open Go.ChangeShapes Go.WideShapes Go.ChangeAt Go.RowKit
set_option linter.unusedVariables false

def askd (wm a b s d : Bool) : Int := if wm = false then 0 else if a && b && !d then 1 else if a && !b then 2 else if b && !a then 3 else if s then 4 else 5
set_option maxHeartbeats 1000000 in
theorem asked_any (wm a b s d : Bool) (w : World) :
    Calls Try.prog 39 #[.agg #[.bool wm, .bool a, .bool b, .bool s, .bool d]] w fun r w' => r = .returned (.int .i64 (askd wm a b s d)) ∧ Below w.heap.size w w' := by
  cases wm <;> cases a <;> cases b <;> cases s <;> cases d
  all_goals
    go_enter Try.func39, Try.ntmps39
    go_wp2
    go_ret
    exact ⟨rfl, (by repeat (first | exact Below.refl _ _ | assumption | apply Below.drew | (refine Below.alloc ?_ (by first | exact Nat.le_refl _ | (simp <;> omega)) _) | (refine Below.setCell ?_ (by first | exact Nat.le_refl _ | (simp <;> omega)) _)))⟩

set_option maxHeartbeats 1000000 in
theorem rasked_any (wm a b s d : Bool) (w : World) :
    Calls Try.prog 40 #[.agg #[.bool wm, .bool a, .bool b, .bool s, .bool d]] w fun r w' => r = .returned (.int .i64 (askd wm a b s d)) ∧ Below w.heap.size w w' := by
  cases wm <;> cases a <;> cases b <;> cases s <;> cases d
  all_goals
    go_enter Try.func40, Try.ntmps40
    go_wp2
    go_ret
    exact ⟨rfl, (by repeat (first | exact Below.refl _ _ | assumption | apply Below.drew | (refine Below.alloc ?_ (by first | exact Nat.le_refl _ | (simp <;> omega)) _) | (refine Below.setCell ?_ (by first | exact Nat.le_refl _ | (simp <;> omega)) _)))⟩

set_option maxHeartbeats 1000000 in
theorem lives25 (w : World) : Calls Try.prog 41 #[] w fun e w' => e = .returned (.bool true) ∧ Below w.heap.size w w' := by
  go_enter Try.func41, Try.ntmps41
  go_wp2_with fail
  refine (asked_any _ _ _ _ _ _).mono ?_
  rintro e w1 ⟨rfl, hb1⟩
  rw [show askd true true true false false = 1 from by decide]
  obtain ⟨hc1, hf1⟩ := bcell hb1
  go_wp2_with fail
  refine (asked_any _ _ _ _ _ _).mono ?_
  rintro e w2 ⟨rfl, hb2⟩
  rw [show askd true true true true true = 4 from by decide]
  have hbel : Below w.heap.size w w2 := (Below.trans (by repeat (first | exact Below.refl _ _ | assumption | apply Below.drew | (refine Below.alloc ?_ (by first | exact Nat.le_refl _ | (simp <;> omega)) _) | (refine Below.setCell ?_ (by first | exact Nat.le_refl _ | (simp <;> omega)) _))) (hb1.mono (by simp; omega))).trans (hb2.mono (by have := hb1.size; simp at this; omega))
  go_wp2
  go_ret
  exact ⟨rfl, hbel⟩

set_option maxHeartbeats 1000000 in
theorem law_ModesAsks (wm a b s d : Bool) (w : World) :
    Calls Try.prog 11 #[.agg #[.bool wm, .bool a, .bool b, .bool s, .bool d]] w fun r w' => r = .returned (.bool true) ∧ Below w.heap.size w w' := by
  go_enter Try.func11, Try.ntmps11
  go_wp2_with fail
  have hb0 : Below w.heap.size w (w.alloc (.cells #[.bool wm, .bool a, .bool b, .bool s, .bool d] 54)) := (by repeat (first | exact Below.refl _ _ | assumption | apply Below.drew | (refine Below.alloc ?_ (by first | exact Nat.le_refl _ | (simp <;> omega)) _) | (refine Below.setCell ?_ (by first | exact Nat.le_refl _ | (simp <;> omega)) _)))
  have hz0 : w.heap.size + 1 ≤ (w.alloc (.cells #[.bool wm, .bool a, .bool b, .bool s, .bool d] 54)).heap.size := by simp
  have c0_0 : World.cell? (w.alloc (.cells #[.bool wm, .bool a, .bool b, .bool s, .bool d] 54)) ⟨w.heap.size, 0, none⟩ = some (.bool wm) := by simp
  have c0_1 : World.cell? (w.alloc (.cells #[.bool wm, .bool a, .bool b, .bool s, .bool d] 54)) ⟨w.heap.size, 1, none⟩ = some (.bool a) := by simp
  have c0_2 : World.cell? (w.alloc (.cells #[.bool wm, .bool a, .bool b, .bool s, .bool d] 54)) ⟨w.heap.size, 2, none⟩ = some (.bool b) := by simp
  have c0_3 : World.cell? (w.alloc (.cells #[.bool wm, .bool a, .bool b, .bool s, .bool d] 54)) ⟨w.heap.size, 3, none⟩ = some (.bool s) := by simp
  have c0_4 : World.cell? (w.alloc (.cells #[.bool wm, .bool a, .bool b, .bool s, .bool d] 54)) ⟨w.heap.size, 4, none⟩ = some (.bool d) := by simp
  generalize (w.alloc (.cells #[.bool wm, .bool a, .bool b, .bool s, .bool d] 54)) = v at hb0 hz0 c0_0 c0_1 c0_2 c0_3 c0_4 ⊢
  go_region_held3 (fun w' => w'.cell? ⟨w.heap.size, 0, none⟩ = some (.bool wm) ∧ w'.cell? ⟨w.heap.size, 1, none⟩ = some (.bool a) ∧ w'.cell? ⟨w.heap.size, 2, none⟩ = some (.bool b) ∧ w'.cell? ⟨w.heap.size, 3, none⟩ = some (.bool s) ∧ w'.cell? ⟨w.heap.size, 4, none⟩ = some (.bool d) ∧ Below w.heap.size w w' ∧ w.heap.size + 1 ≤ w'.heap.size) (first | exact ⟨c0_0, c0_1, c0_2, c0_3, c0_4, hb0, hz0⟩ | exact ⟨c0_0, c0_1, c0_2, c0_3, c0_4, hb0.drew, hz0⟩ | exact ⟨(bc hb1 (by omega)).trans c0_0, (bc hb1 (by omega)).trans c0_1, (bc hb1 (by omega)).trans c0_2, (bc hb1 (by omega)).trans c0_3, (bc hb1 (by omega)).trans c0_4, hb0.trans (hb1.mono (by omega)), Nat.le_trans hz0 hb1.size⟩)
    (first | (go_at_call 39; refine (anch (v := v) (asked_any _ _ _ _ _ _) (by first | assumption | exact Below.refl _ _ | exact (Below.refl _ _).drew)).mono ?_; rintro e w1 ⟨rfl, hb1⟩) | (go_at_call 40; refine (anch (v := v) (rasked_any _ _ _ _ _ _) (by first | assumption | exact Below.refl _ _ | exact (Below.refl _ _).drew)).mono ?_; rintro e w1 ⟨rfl, hb1⟩) | (go_at_call 41; refine (anch (v := v) (lives25 _) (by first | assumption | exact Below.refl _ _ | exact (Below.refl _ _).drew)).mono ?_; rintro e w1 ⟨rfl, hb1⟩))
  go_wp2
  go_ret
  exact ⟨rfl, hb0.trans (hb1.mono (by omega))⟩
end Go.Proofs.Ytdpiamgglfejbaa
