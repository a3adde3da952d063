/- Widen, and the laws HullWidens and HullJoins, walked. -/
import Derived.Test.YtdpiamgglfejbaaHull1
namespace Go.Proofs.Ytdpiamgglfejbaa
open Go.ChangeShapes Go.WideShapes Go.ChangeAt Go.RowKit
set_option linter.unusedVariables false

def widL (a b n : Int) : Int := if b < a then a else cle a - widB n
def widH (a b n : Int) : Int := if b < a then b else cle b + widB n
set_option maxHeartbeats 800000 in
theorem widen_any (a b n : Int) (w : World) : Calls Try.prog 49 #[.agg #[.int .i64 a, .int .i64 b], .int .i64 n] w fun e w' => e = .returned (.agg #[.int .i64 (widL a b n), .int .i64 (widH a b n)]) ∧ Below w.heap.size w w' := by
  by_cases h1 : b < a
  · have e1 : widL a b n = a := by unfold widL; omega
    have e2 : widH a b n = b := by unfold widH; omega
    rw [e1, e2]
    clear e1 e2
    have dab : decide (a ≤ b) = false := by simp; omega
    go_enter Try.func49, Try.ntmps49
    go_wp2
    exact bodyPost_ret (v := .agg #[.int .i64 a, .int .i64 b]) (by simp [results, Try.results49, go_sem]) rfl ⟨rfl, (by repeat (first | exact Below.refl _ _ | assumption | apply Below.drew | (refine Below.alloc ?_ (by first | exact Nat.le_refl _ | omega | (simp <;> omega)) _) | (refine Below.setCell ?_ (by first | exact Nat.le_refl _ | omega | (simp <;> omega)) _)))⟩
  · have e1 : widL a b n = cle a - widB n := by unfold widL; omega
    have e2 : widH a b n = cle b + widB n := by unfold widH; omega
    rw [e1, e2]
    clear e1 e2
    have dab : decide (a ≤ b) = true := by simp; omega
    have ba := cle_bd a
    have bb := cle_bd b
    have bn := widB_bd n
    have hwb : widB n = if cle n < 0 then 0 else cle n := rfl
    have HW := Lib.hid hwb
    clear hwb
    go_enter Try.func49, Try.ntmps49
    go_wp2_with (first | (go_at_call 44; go_in) | (go_at_call 60; refine (hclip_any _ _).mono ?_; rintro e w1 ⟨rfl, rfl⟩))
    all_goals
      have hw2 : (if cle n < 0 then 0 else cle n) = widB n := HW.out.symm
      first | rw [if_pos (by omega)] at hw2 | rw [if_neg (by omega)] at hw2
      have hb0 : Below w.heap.size w (((w.alloc (.cells #[.int .i64 a, .int .i64 b] 60)).alloc (.cells #[.int .i64 0, .int .i64 0] 60)).alloc (.cells #[.int .i64 a, .int .i64 b] 60)) := (by repeat (first | exact Below.refl _ _ | assumption | apply Below.drew | (refine Below.alloc ?_ (by first | exact Nat.le_refl _ | omega | (simp <;> omega)) _) | (refine Below.setCell ?_ (by first | exact Nat.le_refl _ | omega | (simp <;> omega)) _)))
      have hz0 : w.heap.size + 3 ≤ (((w.alloc (.cells #[.int .i64 a, .int .i64 b] 60)).alloc (.cells #[.int .i64 0, .int .i64 0] 60)).alloc (.cells #[.int .i64 a, .int .i64 b] 60)).heap.size := by first | (simp; done) | (simp; omega)
      have c0_0 : World.cell? (((w.alloc (.cells #[.int .i64 a, .int .i64 b] 60)).alloc (.cells #[.int .i64 0, .int .i64 0] 60)).alloc (.cells #[.int .i64 a, .int .i64 b] 60)) ⟨w.heap.size, 0, none⟩ = some (.int .i64 a) := by first | (simp; done) | go_simp
      have c0_1 : World.cell? (((w.alloc (.cells #[.int .i64 a, .int .i64 b] 60)).alloc (.cells #[.int .i64 0, .int .i64 0] 60)).alloc (.cells #[.int .i64 a, .int .i64 b] 60)) ⟨w.heap.size, 1, none⟩ = some (.int .i64 b) := by first | (simp; done) | go_simp
      have c1_0 : World.cell? (((w.alloc (.cells #[.int .i64 a, .int .i64 b] 60)).alloc (.cells #[.int .i64 0, .int .i64 0] 60)).alloc (.cells #[.int .i64 a, .int .i64 b] 60)) ⟨w.heap.size + 1, 0, none⟩ = some (.int .i64 0) := by first | (simp; done) | go_simp
      have c1_1 : World.cell? (((w.alloc (.cells #[.int .i64 a, .int .i64 b] 60)).alloc (.cells #[.int .i64 0, .int .i64 0] 60)).alloc (.cells #[.int .i64 a, .int .i64 b] 60)) ⟨w.heap.size + 1, 1, none⟩ = some (.int .i64 0) := by first | (simp; done) | go_simp
      have c2_0 : World.cell? (((w.alloc (.cells #[.int .i64 a, .int .i64 b] 60)).alloc (.cells #[.int .i64 0, .int .i64 0] 60)).alloc (.cells #[.int .i64 a, .int .i64 b] 60)) ⟨w.heap.size + 1 + 1, 0, none⟩ = some (.int .i64 a) := by first | (simp; done) | go_simp
      have c2_1 : World.cell? (((w.alloc (.cells #[.int .i64 a, .int .i64 b] 60)).alloc (.cells #[.int .i64 0, .int .i64 0] 60)).alloc (.cells #[.int .i64 a, .int .i64 b] 60)) ⟨w.heap.size + 1 + 1, 1, none⟩ = some (.int .i64 b) := by first | (simp; done) | go_simp
      have f0_0 : World.frozen? (((w.alloc (.cells #[.int .i64 a, .int .i64 b] 60)).alloc (.cells #[.int .i64 0, .int .i64 0] 60)).alloc (.cells #[.int .i64 a, .int .i64 b] 60)) ⟨w.heap.size, 0, none⟩ = false := by first | (simp; done) | go_simp
      have f0_1 : World.frozen? (((w.alloc (.cells #[.int .i64 a, .int .i64 b] 60)).alloc (.cells #[.int .i64 0, .int .i64 0] 60)).alloc (.cells #[.int .i64 a, .int .i64 b] 60)) ⟨w.heap.size, 1, none⟩ = false := by first | (simp; done) | go_simp
      have f1_0 : World.frozen? (((w.alloc (.cells #[.int .i64 a, .int .i64 b] 60)).alloc (.cells #[.int .i64 0, .int .i64 0] 60)).alloc (.cells #[.int .i64 a, .int .i64 b] 60)) ⟨w.heap.size + 1, 0, none⟩ = false := by first | (simp; done) | go_simp
      have f1_1 : World.frozen? (((w.alloc (.cells #[.int .i64 a, .int .i64 b] 60)).alloc (.cells #[.int .i64 0, .int .i64 0] 60)).alloc (.cells #[.int .i64 a, .int .i64 b] 60)) ⟨w.heap.size + 1, 1, none⟩ = false := by first | (simp; done) | go_simp
      have f2_0 : World.frozen? (((w.alloc (.cells #[.int .i64 a, .int .i64 b] 60)).alloc (.cells #[.int .i64 0, .int .i64 0] 60)).alloc (.cells #[.int .i64 a, .int .i64 b] 60)) ⟨w.heap.size + 1 + 1, 0, none⟩ = false := by first | (simp; done) | go_simp
      have f2_1 : World.frozen? (((w.alloc (.cells #[.int .i64 a, .int .i64 b] 60)).alloc (.cells #[.int .i64 0, .int .i64 0] 60)).alloc (.cells #[.int .i64 a, .int .i64 b] 60)) ⟨w.heap.size + 1 + 1, 1, none⟩ = false := by first | (simp; done) | go_simp
      generalize (((w.alloc (.cells #[.int .i64 a, .int .i64 b] 60)).alloc (.cells #[.int .i64 0, .int .i64 0] 60)).alloc (.cells #[.int .i64 a, .int .i64 b] 60)) = v at hb0 hz0 c0_0 c0_1 c1_0 c1_1 c2_0 c2_1 f0_0 f0_1 f1_0 f1_1 f2_0 f2_1 ⊢
      clear HW
      have ew1 : IntKind.i64.wrap (cle a - widB n) = cle a - widB n := IntWalk.i64_in _ (by omega)
      have ew2 : IntKind.i64.wrap (cle b + widB n) = cle b + widB n := IntWalk.i64_in _ (by omega)
      go_region_held3 (fun w' => w'.cell? ⟨w.heap.size, 0, none⟩ = some (.int .i64 a) ∧ w'.cell? ⟨w.heap.size, 1, none⟩ = some (.int .i64 b))
        (first | exact ⟨c0_0, c0_1⟩ | go_keep)
        (first | (go_at_call 60; refine (hclip_any _ _).mono ?_; rintro e w1 ⟨rfl, rfl⟩))
      go_wp2
      exact bodyPost_ret (v := .agg #[.int .i64 (cle a - widB n), .int .i64 (cle b + widB n)]) (by simp [results, Try.results49, go_sem, c1_0, c1_1]) rfl ⟨rfl, ((hb0.setCell (by simp) _).setCell (by simp) _).drew⟩
end Go.Proofs.Ytdpiamgglfejbaa
