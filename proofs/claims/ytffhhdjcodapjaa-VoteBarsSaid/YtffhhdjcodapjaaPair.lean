/- Contracts of package pair and of the document's answers for it; the laws PairVerdicts and PairEither, walked. -/
import Derived.Test.YtffhhdjcodapjaaClip
namespace Go.Proofs.Ytffhhdjcodapjaa
open Go.ChangeShapes Go.WideShapes Go.ChangeAt Go.RowKit
set_option linter.unusedVariables false

def apt (a b : Int) : Int := if clq a < clq b then clq b - clq a else clq a - clq b
def men (a b : Int) : Int := (clq a + clq b) / 2
def vrd (x e y f tau : Int) : Int := if e = 0 then (if f = 0 then (if tau < apt x y then 1 else 0) else 3) else if f = 0 then 2 else 4

set_option maxHeartbeats 400000 in
theorem apart_any (a b : Int) (w : World) :
    Calls Try.prog 46 #[.int .i64 a, .int .i64 b] w fun e w' => e = .returned (.int .i64 (apt a b)) ∧ w = w' := by
  have ba := clq_bd a
  have bb := clq_bd b
  go_enter Try.func46, Try.ntmps46
  go_wp2_with (go_at_call 62; refine (pclip_any _ _).mono ?_; rintro e w1 ⟨rfl, rfl⟩)
  all_goals
    go_ret
    exact ⟨ret_int (by unfold apt; omega), rfl⟩

set_option maxHeartbeats 400000 in
theorem mean_any (a b : Int) (w : World) :
    Calls Try.prog 49 #[.int .i64 a, .int .i64 b] w fun e w' => e = .returned (.int .i64 (men a b)) ∧ w = w' := by
  have ba := clq_bd a
  have bb := clq_bd b
  go_enter Try.func49, Try.ntmps49
  go_wp2_with (go_at_call 62; refine (pclip_any _ _).mono ?_; rintro e w1 ⟨rfl, rfl⟩)
  go_ret
  exact ⟨ret_int rfl, rfl⟩

theorem either1 (x e y f tau : Int) : (vrd x e y f tau = 2 → vrd y f x e tau = 3) ∧ (vrd x e y f tau = 3 → vrd y f x e tau = 2) ∧ (vrd x e y f tau ≠ 2 → vrd x e y f tau ≠ 3 → vrd x e y f tau = vrd y f x e tau) := by
  unfold vrd
  have : apt x y = apt y x := by unfold apt; omega
  rw [this]
  omega
theorem either2 (a b : Int) : men a b = men b a ∧ 0 ≤ apt a b ∧ apt a b ≤ 1099511627774 ∧ apt b a = apt a b ∧ apt a a = 0 ∧ 2 * apt (men a b) a ≤ apt a b + 1 ∧ 2 * apt (men a b) b ≤ apt a b + 1 ∧ apt (men a b) a ≤ apt a b ∧ apt (men a b) b ≤ apt a b := by
  have ha := clq_bd a
  have hb := clq_bd b
  have hm : clq (men a b) = men a b := by unfold men clq at *; omega
  unfold apt
  rw [hm]
  unfold men
  omega
end Go.Proofs.Ytffhhdjcodapjaa
