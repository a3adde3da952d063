/- Contracts of package pair and of the document's answers for it; the laws PairVerdicts and PairEither, walked. -/
import Derived.Test.YtdpiamgglfejbaaNum
namespace Go.Proofs.Ytdpiamgglfejbaa
open Go.ChangeShapes Go.WideShapes Go.ChangeAt Go.RowKit
set_option linter.unusedVariables false

def clq (n : Int) : Int := if n < -549755813887 then -549755813887 else if 549755813887 < n then 549755813887 else n
theorem clq_bd (n : Int) : -549755813887 ≤ clq n ∧ clq n ≤ 549755813887 := by unfold clq; omega
def apt (a b : Int) : Int := if clq a < clq b then clq b - clq a else clq a - clq b
def men (a b : Int) : Int := (clq a + clq b) / 2
def vrd (x e y f tau : Int) : Int := if e = 0 then (if f = 0 then (if tau < apt x y then 1 else 0) else 3) else if f = 0 then 2 else 4

set_option maxHeartbeats 400000 in
theorem pclip_any (n : Int) (w : World) :
    Calls Try.prog 53 #[.int .i64 n] w fun e w' => e = .returned (.int .i64 (clq n)) ∧ w = w' := by
  go_enter Try.func53, Try.ntmps53
  go_wp2
  all_goals
    go_ret
    exact ⟨ret_int (by unfold clq; omega), rfl⟩

set_option maxHeartbeats 400000 in
theorem r16clip_any (n : Int) (w : World) :
    Calls Try.prog 36 #[.int .i64 n] w fun e w' => e = .returned (.int .i64 (clq n)) ∧ w = w' := by
  go_enter Try.func36, Try.ntmps36
  go_wp2
  all_goals
    go_ret
    exact ⟨ret_int (by unfold clq; omega), rfl⟩

set_option maxHeartbeats 400000 in
theorem apart_any (a b : Int) (w : World) :
    Calls Try.prog 28 #[.int .i64 a, .int .i64 b] w fun e w' => e = .returned (.int .i64 (apt a b)) ∧ w = w' := by
  have ba := clq_bd a
  have bb := clq_bd b
  go_enter Try.func28, Try.ntmps28
  go_wp2_with (go_at_call 53; refine (pclip_any _ _).mono ?_; rintro e w1 ⟨rfl, rfl⟩)
  all_goals
    go_ret
    exact ⟨ret_int (by unfold apt; omega), rfl⟩

set_option maxHeartbeats 400000 in
theorem mean_any (a b : Int) (w : World) :
    Calls Try.prog 30 #[.int .i64 a, .int .i64 b] w fun e w' => e = .returned (.int .i64 (men a b)) ∧ w = w' := by
  have ba := clq_bd a
  have bb := clq_bd b
  go_enter Try.func30, Try.ntmps30
  go_wp2_with (go_at_call 53; refine (pclip_any _ _).mono ?_; rintro e w1 ⟨rfl, rfl⟩)
  go_ret
  exact ⟨ret_int rfl, rfl⟩

set_option maxHeartbeats 400000 in
theorem verdict_any (x e y f tau : Int) (w : World) :
    Calls Try.prog 32 #[.agg #[.int .i64 x, .int .i64 e], .agg #[.int .i64 y, .int .i64 f], .int .i64 tau] w fun r w' => r = .returned (.int .i64 (vrd x e y f tau)) ∧ Below w.heap.size w w' := by
  go_enter Try.func32, Try.ntmps32
  go_wp2_with (go_at_call 28; refine (apart_any _ _ _).mono ?_; rintro e w1 ⟨rfl, rfl⟩)
  all_goals
    go_ret
    refine ⟨ret_int ?_, (by repeat (first | exact Below.refl _ _ | assumption | apply Below.drew | (refine Below.alloc ?_ (by first | exact Nat.le_refl _ | (simp <;> omega)) _) | (refine Below.setCell ?_ (by first | exact Nat.le_refl _ | (simp <;> omega)) _)))⟩
    simp only [bne_iff_ne, ne_eq, bne_eq_false_iff_eq] at *
    unfold vrd
    omega

set_option maxHeartbeats 400000 in
theorem rapart_any (a b : Int) (w : World) :
    Calls Try.prog 29 #[.int .i64 a, .int .i64 b] w fun e w' => e = .returned (.int .i64 (apt a b)) ∧ w = w' := by
  have ba := clq_bd a
  have bb := clq_bd b
  go_enter Try.func29, Try.ntmps29
  go_wp2_with (first | (go_at_call 36; refine (r16clip_any _ _).mono ?_; rintro e w1 ⟨rfl, rfl⟩) | (go_at_call 24; go_in))
  all_goals
    go_ret
    exact ⟨ret_int (by unfold apt; omega), rfl⟩

set_option maxHeartbeats 400000 in
theorem rmean_any (a b : Int) (w : World) :
    Calls Try.prog 31 #[.int .i64 a, .int .i64 b] w fun e w' => e = .returned (.int .i64 (men a b)) ∧ w = w' := by
  have ba := clq_bd a
  have bb := clq_bd b
  go_enter Try.func31, Try.ntmps31
  go_wp2_with (first | (go_at_call 36; refine (r16clip_any _ _).mono ?_; rintro e w1 ⟨rfl, rfl⟩) | (go_at_call 54; refine (floor01_any _ _ _ (by omega) (by omega) (by omega)).mono ?_; rintro e w1 ⟨rfl, rfl⟩))
  go_ret
  exact ⟨rfl, rfl⟩

set_option maxHeartbeats 400000 in
theorem rverdict_any (x e y f tau : Int) (w : World) :
    Calls Try.prog 33 #[.agg #[.int .i64 x, .int .i64 e], .agg #[.int .i64 y, .int .i64 f], .int .i64 tau] w fun r w' => r = .returned (.int .i64 (vrd x e y f tau)) ∧ Below w.heap.size w w' := by
  go_enter Try.func33, Try.ntmps33
  go_wp2_with (go_at_call 29; refine (rapart_any _ _ _).mono ?_; rintro e w1 ⟨rfl, rfl⟩)
  all_goals
    go_ret
    refine ⟨ret_int ?_, (by repeat (first | exact Below.refl _ _ | assumption | apply Below.drew | (refine Below.alloc ?_ (by first | exact Nat.le_refl _ | (simp <;> omega)) _) | (refine Below.setCell ?_ (by first | exact Nat.le_refl _ | (simp <;> omega)) _)))⟩
    simp only [bne_iff_ne, ne_eq, bne_eq_false_iff_eq] at *
    unfold vrd
    omega

set_option maxHeartbeats 400000 in
theorem lives21 (w : World) : Calls Try.prog 34 #[] w fun e w' => e = .returned (.bool true) ∧ Below w.heap.size w w' := by
  go_enter Try.func34, Try.ntmps34
  go_wp2_with fail
  refine (verdict_any _ _ _ _ _ _).mono ?_
  rintro e w1 ⟨rfl, hb1⟩
  rw [show vrd 5 0 9 0 3 = 1 from by decide]
  obtain ⟨hc1, hf1⟩ := bcell hb1
  go_wp2_with fail
  refine (verdict_any _ _ _ _ _ _).mono ?_
  rintro e w2 ⟨rfl, hb2⟩
  rw [show vrd 5 0 9 0 4 = 0 from by decide]
  have hbel : Below w.heap.size w w2 := (Below.trans (by repeat (first | exact Below.refl _ _ | assumption | apply Below.drew | (refine Below.alloc ?_ (by first | exact Nat.le_refl _ | (simp <;> omega)) _) | (refine Below.setCell ?_ (by first | exact Nat.le_refl _ | (simp <;> omega)) _))) (hb1.mono (by simp; omega))).trans (hb2.mono (by have := hb1.size; simp at this; omega))
  clear hb1 hb2
  go_wp2_with fail
  refine (mean_any _ _ _).mono ?_
  rintro e w' ⟨rfl, rfl⟩
  rw [show men 5 9 = 7 from by decide]
  go_wp2
  go_ret
  exact ⟨rfl, hbel⟩

set_option maxHeartbeats 4000000 in
theorem law_PairVerdicts (x e y f tau : Int) (w : World) :
    Calls Try.prog 7 #[.agg #[.int .i64 x, .int .i64 e], .agg #[.int .i64 y, .int .i64 f], .int .i64 tau] w fun r w' => r = .returned (.bool true) ∧ Below w.heap.size w w' := by
  go_enter Try.func7, Try.ntmps7
  go_wp2_with fail
  have hb0 : Below w.heap.size w ((w.alloc (.cells #[.int .i64 x, .int .i64 e] 43)).alloc (.cells #[.int .i64 y, .int .i64 f] 43)) := (by repeat (first | exact Below.refl _ _ | assumption | apply Below.drew | (refine Below.alloc ?_ (by first | exact Nat.le_refl _ | (simp <;> omega)) _) | (refine Below.setCell ?_ (by first | exact Nat.le_refl _ | (simp <;> omega)) _)))
  have hz0 : w.heap.size + 2 ≤ ((w.alloc (.cells #[.int .i64 x, .int .i64 e] 43)).alloc (.cells #[.int .i64 y, .int .i64 f] 43)).heap.size := by simp
  have c00 : ((w.alloc (.cells #[.int .i64 x, .int .i64 e] 43)).alloc (.cells #[.int .i64 y, .int .i64 f] 43)).cell? ⟨w.heap.size, 0, none⟩ = some (.int .i64 x) := by simp
  have c01 : ((w.alloc (.cells #[.int .i64 x, .int .i64 e] 43)).alloc (.cells #[.int .i64 y, .int .i64 f] 43)).cell? ⟨w.heap.size, 1, none⟩ = some (.int .i64 e) := by simp
  have c10 : ((w.alloc (.cells #[.int .i64 x, .int .i64 e] 43)).alloc (.cells #[.int .i64 y, .int .i64 f] 43)).cell? ⟨w.heap.size + 1, 0, none⟩ = some (.int .i64 y) := by simp
  have c11 : ((w.alloc (.cells #[.int .i64 x, .int .i64 e] 43)).alloc (.cells #[.int .i64 y, .int .i64 f] 43)).cell? ⟨w.heap.size + 1, 1, none⟩ = some (.int .i64 f) := by simp
  generalize ((w.alloc (.cells #[.int .i64 x, .int .i64 e] 43)).alloc (.cells #[.int .i64 y, .int .i64 f] 43)) = v at hb0 hz0 c00 c01 c10 c11 ⊢
  go_region_held3 (fun w' => w'.cell? ⟨w.heap.size, 0, none⟩ = some (.int .i64 x) ∧ w'.cell? ⟨w.heap.size, 1, none⟩ = some (.int .i64 e) ∧ w'.cell? ⟨w.heap.size + 1, 0, none⟩ = some (.int .i64 y) ∧ w'.cell? ⟨w.heap.size + 1, 1, none⟩ = some (.int .i64 f) ∧ Below w.heap.size w w' ∧ w.heap.size + 2 ≤ w'.heap.size)
    (first | exact ⟨c00, c01, c10, c11, hb0, hz0⟩ | exact ⟨c00, c01, c10, c11, hb0.drew, hz0⟩ | exact ⟨(bc hb1 (by omega)).trans c00, (bc hb1 (by omega)).trans c01, (bc hb1 (by omega)).trans c10, (bc hb1 (by omega)).trans c11, hb0.trans (hb1.mono (by omega)), Nat.le_trans hz0 hb1.size⟩)
    (first | (go_at_call 28; refine (apart_any _ _ _).mono ?_; rintro e w1 ⟨rfl, rfl⟩) | (go_at_call 29; refine (rapart_any _ _ _).mono ?_; rintro e w1 ⟨rfl, rfl⟩) | (go_at_call 30; refine (mean_any _ _ _).mono ?_; rintro e w1 ⟨rfl, rfl⟩) | (go_at_call 31; refine (rmean_any _ _ _).mono ?_; rintro e w1 ⟨rfl, rfl⟩) | (go_at_call 32; refine (anch (v := v) (verdict_any _ _ _ _ _ _) (by first | assumption | exact Below.refl _ _ | exact (Below.refl _ _).drew)).mono ?_; rintro e w1 ⟨rfl, hb1⟩) | (go_at_call 33; refine (anch (v := v) (rverdict_any _ _ _ _ _ _) (by first | assumption | exact Below.refl _ _ | exact (Below.refl _ _).drew)).mono ?_; rintro e w1 ⟨rfl, hb1⟩) | (go_at_call 34; refine (anch (v := v) (lives21 _) (by first | assumption | exact Below.refl _ _ | exact (Below.refl _ _).drew)).mono ?_; rintro e w1 ⟨rfl, hb1⟩))
  go_wp2
  go_ret
  exact ⟨rfl, hb0.trans (hb1.mono (by omega))⟩

theorem either1 (x e y f tau : Int) : (vrd x e y f tau = 2 → vrd y f x e tau = 3) ∧ (vrd x e y f tau = 3 → vrd y f x e tau = 2) ∧ (vrd x e y f tau ≠ 2 → vrd x e y f tau ≠ 3 → vrd x e y f tau = vrd y f x e tau) := by
  unfold vrd
  have : apt x y = apt y x := by unfold apt; omega
  rw [this]
  omega
theorem either2 (a b : Int) : men a b = men b a ∧ 0 ≤ apt a b ∧ apt a b ≤ 1099511627774 ∧ apt b a = apt a b ∧ apt a a = 0 ∧ 2 * apt (men a b) a ≤ apt a b + 1 ∧ 2 * apt (men a b) b ≤ apt a b + 1 ∧ apt (men a b) a ≤ apt a b ∧ apt (men a b) b ≤ apt a b := by
  have ha := clq_bd a
  have hb := clq_bd b
  have hm : clq (men a b) = men a b := by unfold men clq at *; omega
  unfold apt
  rw [hm]
  unfold men
  omega
end Go.Proofs.Ytdpiamgglfejbaa
