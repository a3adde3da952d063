/- The law MachMore, walked. -/
import Derived.Test.YtbhoallcoblcoaaMach5
namespace Go.Proofs.Ytbhoallcoblcoaa
open Go.ChangeShapes Go.WideShapes Go.ChangeAt Go.RowKit
set_option linter.unusedVariables false
set_option linter.unusedSimpArgs false

theorem two_box (w : World) (x0 x1 y0 y1 : Int) : ∃ V, V = (w.alloc (.cells #[.int .i64 x0, .int .i64 x1] 39)).alloc (.cells #[.int .i64 y0, .int .i64 y1] 39) ∧ Below w.heap.size w V ∧ V.heap.size = w.heap.size + 2 ∧ ∀ u, Below (w.heap.size + 2) V u → u.cell? ⟨w.heap.size, 0, none⟩ = some (.int .i64 x0) ∧ u.cell? ⟨w.heap.size, 1, none⟩ = some (.int .i64 x1) ∧ u.cell? ⟨w.heap.size + 1, 0, none⟩ = some (.int .i64 y0) ∧ u.cell? ⟨w.heap.size + 1, 1, none⟩ = some (.int .i64 y1) :=
  ⟨_, rfl, (by repeat (first | exact Below.refl _ _ | assumption | apply Below.drew | apply below_drewN | (refine Below.alloc ?_ (by first | exact Nat.le_refl _ | omega | (simp <;> omega)) _) | (refine Below.setCell ?_ (by first | exact Nat.le_refl _ | omega | (simp <;> omega)) _))), by simp, fun u hu => ⟨(bc hu (by omega)).trans (by go_simp), (bc hu (by omega)).trans (by go_simp), (bc hu (by omega)).trans (by go_simp), (bc hu (by omega)).trans (by go_simp)⟩⟩

theorem mcO_mono {r s : Int} (h : r ≤ s) : mcO r ≤ mcO s := by
  obtain ⟨a1, a2, a3⟩ := mcK_is r
  obtain ⟨b1, b2, b3⟩ := mcK_is s
  have : mcK r ≤ mcK s := by
    by_cases e : mcK r ≤ mcK s
    · exact e
    · have x := a2 (mcK s) (by omega)
      have y := b3 (mcK s) (Nat.le_refl _) (by omega)
      unfold mcP at x y
      simp only [decide_eq_true_eq, decide_eq_false_iff_not] at x y
      omega
  unfold mcO
  omega
theorem mcR_mcO {r : Int} (h : 0 ≤ r) : mcR (mcO r) ≤ r := by
  obtain ⟨a1, a2, a3⟩ := mcK_is r
  by_cases e : mcK r = 0
  · have : mcO r = 0 := by unfold mcO; rw [e]; rfl
    rw [this, mcR_zero]; exact h
  · have x := a2 (mcK r - 1) (by omega)
    unfold mcP at x
    simp only [decide_eq_false_iff_not] at x
    unfold mcO
    omega
theorem mcO_mcR {m : Int} (h0 : 0 ≤ m) (h1 : m ≤ 20000) : m ≤ mcO (mcR m) ∧ mcR (mcO (mcR m)) = mcR m := by
  obtain ⟨a1, a2, a3⟩ := mcK_is (mcR m)
  have hk : m.toNat < mcK (mcR m) := by
    by_cases e : m.toNat < mcK (mcR m)
    · exact e
    · have x := a3 m.toNat (by omega) (by omega)
      unfold mcP at x
      simp only [decide_eq_true_eq] at x
      rw [show ((m.toNat : Nat) : Int) = m by omega] at x
      omega
  have g : m ≤ mcO (mcR m) := by unfold mcO; omega
  have b := mcR_bd m
  have c := mcR_mcO b.1
  have d := mcR_mono g
  exact ⟨g, by omega⟩
theorem wq_ps {a b c : Int} (hc : 0 < c) : wq a b c = a * b / c := by
  unfold wq wN mag
  rw [if_neg (by omega), if_neg (by omega)]
theorem maV_more {q0 q1 p0 p1 : Int} (a : 0 ≤ q0) (b : q0 ≤ q1) (c : 1 ≤ p0) (d : p0 ≤ p1) : maV q0 p0 ≤ maV q1 p0 ∧ maV q0 p1 ≤ maV q0 p0 := by
  have e : ∀ q p, 0 ≤ q → 1 ≤ p → maV q p = mcO (fitV q 1073741824 p) := fun q p x y => by
    have : maB q p = true := by unfold maB; rw [decide_eq_false (by omega), decide_eq_false (by omega)]; rfl
    unfold maV; rw [this]; rfl
  rw [e q0 p0 a c, e q1 p0 (by omega) c, e q0 p1 a (by omega)]
  have x : q0 * 1073741824 / p0 ≤ q1 * 1073741824 / p0 := Int.ediv_le_ediv (by omega) (by omega)
  have y : q0 * 1073741824 / p1 ≤ q0 * 1073741824 / p0 := by
    apply Int.le_ediv_of_mul_le (by omega)
    have e3 := Int.ediv_mul_le (q0 * 1073741824) (show p1 ≠ 0 by omega)
    have e4 : 0 ≤ q0 * 1073741824 / p1 := Int.ediv_nonneg (by omega) (by omega)
    have e5 := Int.mul_le_mul_of_nonneg_left d e4
    omega
  constructor
  · apply mcO_mono
    unfold fitV
    rw [wq_ps (by omega), wq_ps (by omega)]
    omega
  · apply mcO_mono
    unfold fitV
    rw [wq_ps (by omega), wq_ps (by omega)]
    omega

set_option maxRecDepth 100000 in
set_option maxHeartbeats 8000000 in
theorem law_MachMore (x0 x1 y0 y1 : Int) (w : World) (a1 : -9223372036854775808 ≤ x0) (a2 : x0 ≤ 9223372036854775807) (b1 : -9223372036854775808 ≤ x1) (b2 : x1 ≤ 9223372036854775807) (c1 : -9223372036854775808 ≤ y0) (c2 : y0 ≤ 9223372036854775807) (d1 : -9223372036854775808 ≤ y1) (d2 : y1 ≤ 9223372036854775807) :
    Calls Try.prog 11 #[.agg #[.int .i64 x0, .int .i64 x1], .agg #[.int .i64 y0, .int .i64 y1]] w fun e w' => e = .returned (.bool true) ∧ Below w.heap.size w w' := by
  obtain ⟨V, eV, hb0, hz, hcs⟩ := two_box w x0 x1 y0 y1
  replace hb0 := Lib.hid hb0
  replace hz := Lib.hid hz
  replace hcs := Lib.hid hcs
  replace eV := Lib.hid eV
  by_cases hin : 0 ≤ x0 ∧ x0 ≤ x1 ∧ 1 ≤ y0 ∧ y0 ≤ y1
  · obtain ⟨i1, i2, i3, i4⟩ := hin
    have A1 := Lib.hid (fun u => mat_any x0 y0 u a1 a2 c1 c2)
    have A2 := Lib.hid (fun u => mat_any x1 y0 u b1 b2 c1 c2)
    have A3 := Lib.hid (fun u => mat_any x0 y1 u a1 a2 d1 d2)
    obtain ⟨g1, g2⟩ := maV_more i1 i2 i3 i4
    clear a1 a2 b1 b2 c1 c2 d1 d2
    generalize maV x0 y0 = p at *
    generalize maV x1 y0 = q at *
    generalize maV x0 y1 = r at *
    generalize maB x0 y0 = pb at *
    generalize maB x1 y0 = qb at *
    generalize maB x0 y1 = rb at *
    go_enter Try.func11, Try.ntmps11
    go_wp2_with fail
    rw [← eV.out]
    obtain ⟨k0, k1, k2, k3⟩ := hcs.out _ (Below.refl _ _)
    go_wp2_with fail
    refine (A1.out _).mono ?_
    rintro e w1 ⟨rfl, hb1⟩
    have hb1 := (Below.refl (w.heap.size + 2) V).trans (hb1.mono (Nat.le_of_eq hz.out.symm))
    obtain ⟨k0, k1, k2, k3⟩ := hcs.out _ hb1
    go_wp2_with fail
    refine (A2.out _).mono ?_
    rintro e w2 ⟨rfl, hb2⟩
    have hb2 := hb1.trans (hb2.mono (by have := hb1.size; have := hz.out; omega))
    clear hb1
    obtain ⟨k0, k1, k2, k3⟩ := hcs.out _ hb2
    go_wp2_with fail
    refine (A3.out _).mono ?_
    rintro e w3 ⟨rfl, hb3⟩
    have hb3 := hb2.trans (hb3.mono (by have := hb2.size; have := hz.out; omega))
    clear hb2
    obtain ⟨k0, k1, k2, k3⟩ := hcs.out _ hb3
    go_wp2_with fail
    refine (lives08 _).mono ?_
    rintro e w4 ⟨rfl, hb4⟩
    go_wp2
    go_ret
    exact ⟨rfl, (hb0.out.trans (hb3.mono (by omega))).trans (hb4.mono (by have := hb0.out.size; have := hb3.size; have := hz.out; omega))⟩
  · clear a1 a2 b1 b2 c1 c2 d1 d2
    have hc : x0 < 0 ∨ (0 ≤ x0 ∧ x1 < x0) ∨ (0 ≤ x0 ∧ x0 ≤ x1 ∧ y0 < 1) ∨ (0 ≤ x0 ∧ x0 ≤ x1 ∧ 1 ≤ y0 ∧ y1 < y0) := by omega
    clear hin
    rcases hc with h | ⟨h, h2⟩ | ⟨h, h2, h3⟩ | ⟨h, h2, h3, h4⟩
    all_goals
      go_enter Try.func11, Try.ntmps11
      go_wp2_with fail
      rw [← eV.out]
      obtain ⟨k0, k1, k2, k3⟩ := hcs.out _ (Below.refl _ _)
      go_wp2_with fail
      refine (lives08 _).mono ?_
      rintro e w4 ⟨rfl, hb4⟩
      go_wp2
      go_ret
      exact ⟨rfl, hb0.out.trans (hb4.mono hb0.out.size)⟩

end Go.Proofs.Ytbhoallcoblcoaa
