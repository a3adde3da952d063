/- Contracts of package pair and of the document's answers for it; the laws PairVerdicts and PairEither, walked. -/
import Derived.Test.YtkchacjlddddjaaClip
namespace Go.Proofs.Ytkchacjlddddjaa
open Go.ChangeShapes Go.WideShapes Go.ChangeAt Go.RowKit
set_option linter.unusedVariables false

def apt (a b : Int) : Int := if clq a < clq b then clq b - clq a else clq a - clq b
def men (a b : Int) : Int := (clq a + clq b) / 2
def vrd (x e y f tau : Int) : Int := if e = 0 then (if f = 0 then (if tau < apt x y then 1 else 0) else 3) else if f = 0 then 2 else 4

set_option maxHeartbeats 400000 in
theorem apart_any (a b : Int) (w : World) :
    Calls Try.prog 58 #[.int .i64 a, .int .i64 b] w fun e w' => e = .returned (.int .i64 (apt a b)) ∧ w = w' := by
  have ba := clq_bd a
  have bb := clq_bd b
  go_enter Try.func58, Try.ntmps58
  go_wp2_with (go_at_call 68; refine (pclip_any _ _).mono ?_; rintro e w1 ⟨rfl, rfl⟩)
  all_goals
    go_ret
    exact ⟨ret_int (by unfold apt; omega), rfl⟩

set_option maxHeartbeats 400000 in
theorem mean_any (a b : Int) (w : World) :
    Calls Try.prog 59 #[.int .i64 a, .int .i64 b] w fun e w' => e = .returned (.int .i64 (men a b)) ∧ w = w' := by
  have ba := clq_bd a
  have bb := clq_bd b
  go_enter Try.func59, Try.ntmps59
  go_wp2_with (go_at_call 68; refine (pclip_any _ _).mono ?_; rintro e w1 ⟨rfl, rfl⟩)
  go_ret
  exact ⟨ret_int rfl, rfl⟩

set_option maxHeartbeats 400000 in
theorem verdict_any (x e y f tau : Int) (w : World) :
    Calls Try.prog 57 #[.agg #[.int .i64 x, .int .i64 e], .agg #[.int .i64 y, .int .i64 f], .int .i64 tau] w fun r w' => r = .returned (.int .i64 (vrd x e y f tau)) ∧ Below w.heap.size w w' := by
  go_enter Try.func57, Try.ntmps57
  go_wp2_with (go_at_call 58; refine (apart_any _ _ _).mono ?_; rintro e w1 ⟨rfl, rfl⟩)
  all_goals
    go_ret
    refine ⟨ret_int ?_, (by repeat (first | exact Below.refl _ _ | assumption | apply Below.drew | apply below_drewN | (refine Below.alloc ?_ (by first | exact Nat.le_refl _ | omega | (simp <;> omega)) _) | (refine Below.setCell ?_ (by first | exact Nat.le_refl _ | omega | (simp <;> omega)) _)))⟩
    simp only [bne_iff_ne, ne_eq, bne_eq_false_iff_eq] at *
    unfold vrd
    omega

set_option maxHeartbeats 400000 in
theorem rapart_any (a b : Int) (w : World) :
    Calls Try.prog 35 #[.int .i64 a, .int .i64 b] w fun e w' => e = .returned (.int .i64 (apt a b)) ∧ w = w' := by
  have ba := clq_bd a
  have bb := clq_bd b
  go_enter Try.func35, Try.ntmps35
  go_wp2_with (first | (go_at_call 27; refine (r16clip_any _ _).mono ?_; rintro e w1 ⟨rfl, rfl⟩) | (go_at_call 60; go_in))
  all_goals
    go_ret
    exact ⟨ret_int (by unfold apt; omega), rfl⟩

set_option maxHeartbeats 400000 in
theorem rverdict_any (x e y f tau : Int) (w : World) :
    Calls Try.prog 34 #[.agg #[.int .i64 x, .int .i64 e], .agg #[.int .i64 y, .int .i64 f], .int .i64 tau] w fun r w' => r = .returned (.int .i64 (vrd x e y f tau)) ∧ Below w.heap.size w w' := by
  go_enter Try.func34, Try.ntmps34
  go_wp2_with (go_at_call 35; refine (rapart_any _ _ _).mono ?_; rintro e w1 ⟨rfl, rfl⟩)
  all_goals
    go_ret
    refine ⟨ret_int ?_, (by repeat (first | exact Below.refl _ _ | assumption | apply Below.drew | apply below_drewN | (refine Below.alloc ?_ (by first | exact Nat.le_refl _ | omega | (simp <;> omega)) _) | (refine Below.setCell ?_ (by first | exact Nat.le_refl _ | omega | (simp <;> omega)) _)))⟩
    simp only [bne_iff_ne, ne_eq, bne_eq_false_iff_eq] at *
    unfold vrd
    omega

set_option maxHeartbeats 400000 in
theorem lives21 (w : World) : Calls Try.prog 33 #[] w fun e w' => e = .returned (.bool true) ∧ Below w.heap.size w w' := by
  go_enter Try.func33, Try.ntmps33
  go_wp2_with fail
  refine (verdict_any _ _ _ _ _ _).mono ?_
  rintro e w1 ⟨rfl, hb1⟩
  rw [show vrd 5 0 9 0 3 = 1 from by decide]
  obtain ⟨hc1, hf1⟩ := bcell hb1
  go_wp2_with fail
  refine (verdict_any _ _ _ _ _ _).mono ?_
  rintro e w2 ⟨rfl, hb2⟩
  rw [show vrd 5 0 9 0 4 = 0 from by decide]
  have hbel : Below w.heap.size w w2 := (Below.trans (by repeat (first | exact Below.refl _ _ | assumption | apply Below.drew | apply below_drewN | (refine Below.alloc ?_ (by first | exact Nat.le_refl _ | omega | (simp <;> omega)) _) | (refine Below.setCell ?_ (by first | exact Nat.le_refl _ | omega | (simp <;> omega)) _))) (hb1.mono (by simp; omega))).trans (hb2.mono (by have := hb1.size; simp at this; omega))
  clear hb1 hb2
  go_wp2_with fail
  refine (mean_any _ _ _).mono ?_
  rintro e w' ⟨rfl, rfl⟩
  rw [show men 5 9 = 7 from by decide]
  go_wp2
  go_ret
  exact ⟨rfl, hbel⟩

theorem either1 (x e y f tau : Int) : (vrd x e y f tau = 2 → vrd y f x e tau = 3) ∧ (vrd x e y f tau = 3 → vrd y f x e tau = 2) ∧ (vrd x e y f tau ≠ 2 → vrd x e y f tau ≠ 3 → vrd x e y f tau = vrd y f x e tau) := by
  unfold vrd
  have : apt x y = apt y x := by unfold apt; omega
  rw [this]
  omega
theorem either2 (a b : Int) : men a b = men b a ∧ 0 ≤ apt a b ∧ apt a b ≤ 1099511627774 ∧ apt b a = apt a b ∧ apt a a = 0 ∧ 2 * apt (men a b) a ≤ apt a b + 1 ∧ 2 * apt (men a b) b ≤ apt a b + 1 ∧ apt (men a b) a ≤ apt a b ∧ apt (men a b) b ≤ apt a b := by
  have ha := clq_bd a
  have hb := clq_bd b
  have hm : clq (men a b) = men a b := by unfold men clq at *; omega
  unfold apt
  rw [hm]
  unfold men
  omega
end Go.Proofs.Ytkchacjlddddjaa
