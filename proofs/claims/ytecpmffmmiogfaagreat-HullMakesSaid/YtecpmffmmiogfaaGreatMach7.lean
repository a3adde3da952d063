/- The law MachMore, walked. -/
import Derived.Test.YtecpmffmmiogfaaGreatMach5
namespace Go.Proofs.YtecpmffmmiogfaaGreat
open Go.ChangeShapes Go.WideShapes Go.ChangeAt Go.RowKit
set_option linter.unusedVariables false
set_option linter.unusedSimpArgs false

theorem two_box (w : World) (x0 x1 y0 y1 : Int) : ∃ V, V = (w.alloc (.cells #[.int .i64 x0, .int .i64 x1] 48)).alloc (.cells #[.int .i64 y0, .int .i64 y1] 48) ∧ Below w.heap.size w V ∧ V.heap.size = w.heap.size + 2 ∧ ∀ u, Below (w.heap.size + 2) V u → u.cell? ⟨w.heap.size, 0, none⟩ = some (.int .i64 x0) ∧ u.cell? ⟨w.heap.size, 1, none⟩ = some (.int .i64 x1) ∧ u.cell? ⟨w.heap.size + 1, 0, none⟩ = some (.int .i64 y0) ∧ u.cell? ⟨w.heap.size + 1, 1, none⟩ = some (.int .i64 y1) :=
  ⟨_, rfl, (by repeat (first | exact Below.refl _ _ | assumption | apply Below.drew | apply below_drewN | (refine Below.alloc ?_ (by first | exact Nat.le_refl _ | omega | (simp <;> omega)) _) | (refine Below.setCell ?_ (by first | exact Nat.le_refl _ | omega | (simp <;> omega)) _))), by simp, fun u hu => ⟨(bc hu (by omega)).trans (by go_simp), (bc hu (by omega)).trans (by go_simp), (bc hu (by omega)).trans (by go_simp), (bc hu (by omega)).trans (by go_simp)⟩⟩

theorem mcO_mono {r s : Int} (h : r ≤ s) : mcO r ≤ mcO s := by
  obtain ⟨a1, a2, a3⟩ := mcK_is r
  obtain ⟨b1, b2, b3⟩ := mcK_is s
  have : mcK r ≤ mcK s := by
    by_cases e : mcK r ≤ mcK s
    · exact e
    · have x := a2 (mcK s) (by omega)
      have y := b3 (mcK s) (Nat.le_refl _) (by omega)
      unfold mcP at x y
      simp only [decide_eq_true_eq, decide_eq_false_iff_not] at x y
      omega
  unfold mcO
  omega
theorem mcR_mcO {r : Int} (h : 0 ≤ r) : mcR (mcO r) ≤ r := by
  obtain ⟨a1, a2, a3⟩ := mcK_is r
  by_cases e : mcK r = 0
  · have : mcO r = 0 := by unfold mcO; rw [e]; rfl
    rw [this, mcR_zero]; exact h
  · have x := a2 (mcK r - 1) (by omega)
    unfold mcP at x
    simp only [decide_eq_false_iff_not] at x
    unfold mcO
    omega
theorem mcO_mcR {m : Int} (h0 : 0 ≤ m) (h1 : m ≤ 20000) : m ≤ mcO (mcR m) ∧ mcR (mcO (mcR m)) = mcR m := by
  obtain ⟨a1, a2, a3⟩ := mcK_is (mcR m)
  have hk : m.toNat < mcK (mcR m) := by
    by_cases e : m.toNat < mcK (mcR m)
    · exact e
    · have x := a3 m.toNat (by omega) (by omega)
      unfold mcP at x
      simp only [decide_eq_true_eq] at x
      rw [show ((m.toNat : Nat) : Int) = m by omega] at x
      omega
  have g : m ≤ mcO (mcR m) := by unfold mcO; omega
  have b := mcR_bd m
  have c := mcR_mcO b.1
  have d := mcR_mono g
  exact ⟨g, by omega⟩
theorem wq_ps {a b c : Int} (hc : 0 < c) : wq a b c = a * b / c := by
  unfold wq wN mag
  rw [if_neg (by omega), if_neg (by omega)]
theorem maV_more {q0 q1 p0 p1 : Int} (a : 0 ≤ q0) (b : q0 ≤ q1) (c : 1 ≤ p0) (d : p0 ≤ p1) : maV q0 p0 ≤ maV q1 p0 ∧ maV q0 p1 ≤ maV q0 p0 := by
  have e : ∀ q p, 0 ≤ q → 1 ≤ p → maV q p = mcO (fitV q 1073741824 p) := fun q p x y => by
    have : maB q p = true := by unfold maB; rw [decide_eq_false (by omega), decide_eq_false (by omega)]; rfl
    unfold maV; rw [this]; rfl
  rw [e q0 p0 a c, e q1 p0 (by omega) c, e q0 p1 a (by omega)]
  have x : q0 * 1073741824 / p0 ≤ q1 * 1073741824 / p0 := Int.ediv_le_ediv (by omega) (by omega)
  have y : q0 * 1073741824 / p1 ≤ q0 * 1073741824 / p0 := by
    apply Int.le_ediv_of_mul_le (by omega)
    have e3 := Int.ediv_mul_le (q0 * 1073741824) (show p1 ≠ 0 by omega)
    have e4 : 0 ≤ q0 * 1073741824 / p1 := Int.ediv_nonneg (by omega) (by omega)
    have e5 := Int.mul_le_mul_of_nonneg_left d e4
    omega
  constructor
  · apply mcO_mono
    unfold fitV
    rw [wq_ps (by omega), wq_ps (by omega)]
    omega
  · apply mcO_mono
    unfold fitV
    rw [wq_ps (by omega), wq_ps (by omega)]
    omega

end Go.Proofs.YtecpmffmmiogfaaGreat
