/- Contracts of package pair and of the document's answers for it; the laws PairVerdicts and PairEither, walked. -/
import Derived.Test.YtifbedliibhmoaaClip
namespace Go.Proofs.Ytifbedliibhmoaa
open Go.ChangeShapes Go.WideShapes Go.ChangeAt Go.RowKit
set_option linter.unusedVariables false

def apt (a b : Int) : Int := if clq a < clq b then clq b - clq a else clq a - clq b
def men (a b : Int) : Int := (clq a + clq b) / 2
def vrd (x e y f tau : Int) : Int := if e = 0 then (if f = 0 then (if tau < apt x y then 1 else 0) else 3) else if f = 0 then 2 else 4

set_option maxHeartbeats 400000 in
theorem apart_any (a b : Int) (w : World) :
    Calls Try.prog 78 #[.int .i64 a, .int .i64 b] w fun e w' => e = .returned (.int .i64 (apt a b)) ∧ w = w' := by
  have ba := clq_bd a
  have bb := clq_bd b
  go_enter Try.func78, Try.ntmps78
  go_wp2_with (go_at_call 95; refine (pclip_any _ _).mono ?_; rintro e w1 ⟨rfl, rfl⟩)
  all_goals
    go_ret
    exact ⟨ret_int (by unfold apt; omega), rfl⟩

set_option maxHeartbeats 400000 in
theorem mean_any (a b : Int) (w : World) :
    Calls Try.prog 71 #[.int .i64 a, .int .i64 b] w fun e w' => e = .returned (.int .i64 (men a b)) ∧ w = w' := by
  have ba := clq_bd a
  have bb := clq_bd b
  go_enter Try.func71, Try.ntmps71
  go_wp2_with (go_at_call 95; refine (pclip_any _ _).mono ?_; rintro e w1 ⟨rfl, rfl⟩)
  go_ret
  exact ⟨ret_int rfl, rfl⟩

set_option maxHeartbeats 400000 in
theorem rapart_any (a b : Int) (w : World) :
    Calls Try.prog 76 #[.int .i64 a, .int .i64 b] w fun e w' => e = .returned (.int .i64 (apt a b)) ∧ w = w' := by
  have ba := clq_bd a
  have bb := clq_bd b
  go_enter Try.func76, Try.ntmps76
  go_wp2_with (first | (go_at_call 40; refine (r16clip_any _ _).mono ?_; rintro e w1 ⟨rfl, rfl⟩) | (go_at_call 27; go_in))
  all_goals
    go_ret
    exact ⟨ret_int (by unfold apt; omega), rfl⟩

set_option maxHeartbeats 400000 in
theorem rmean_any (a b : Int) (w : World) :
    Calls Try.prog 75 #[.int .i64 a, .int .i64 b] w fun e w' => e = .returned (.int .i64 (men a b)) ∧ w = w' := by
  have ba := clq_bd a
  have bb := clq_bd b
  go_enter Try.func75, Try.ntmps75
  go_wp2_with (first | (go_at_call 40; refine (r16clip_any _ _).mono ?_; rintro e w1 ⟨rfl, rfl⟩) | (go_at_call 96; refine (floor01_any _ _ _ (by omega) (by omega) (by omega)).mono ?_; rintro e w1 ⟨rfl, rfl⟩))
  go_ret
  exact ⟨rfl, rfl⟩

theorem either1 (x e y f tau : Int) : (vrd x e y f tau = 2 → vrd y f x e tau = 3) ∧ (vrd x e y f tau = 3 → vrd y f x e tau = 2) ∧ (vrd x e y f tau ≠ 2 → vrd x e y f tau ≠ 3 → vrd x e y f tau = vrd y f x e tau) := by
  unfold vrd
  have : apt x y = apt y x := by unfold apt; omega
  rw [this]
  omega
theorem either2 (a b : Int) : men a b = men b a ∧ 0 ≤ apt a b ∧ apt a b ≤ 1099511627774 ∧ apt b a = apt a b ∧ apt a a = 0 ∧ 2 * apt (men a b) a ≤ apt a b + 1 ∧ 2 * apt (men a b) b ≤ apt a b + 1 ∧ apt (men a b) a ≤ apt a b ∧ apt (men a b) b ≤ apt a b := by
  have ha := clq_bd a
  have hb := clq_bd b
  have hm : clq (men a b) = men a b := by unfold men clq at *; omega
  unfold apt
  rw [hm]
  unfold men
  omega
end Go.Proofs.Ytifbedliibhmoaa
