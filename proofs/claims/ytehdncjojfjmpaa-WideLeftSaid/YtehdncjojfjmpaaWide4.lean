/- The chapter's examples of layer 2; the law WideGrows, walked. -/
import Derived.Test.YtehdncjojfjmpaaWide3
namespace Go.Proofs.Ytehdncjojfjmpaa
open Go.ChangeShapes Go.WideShapes Go.ChangeAt Go.RowKit
set_option linter.unusedVariables false

set_option maxHeartbeats 1000000 in
theorem lives02 (w : World) : Calls Try.prog 15 #[] w fun e w' => e = .returned (.bool true) ∧ Below w.heap.size w w' := by
  go_enter Try.func15, Try.ntmps15
  go_wp2_with fail
  refine (floor_any 7 (-3) 2 _ (by omega) (by omega) (by omega) (by omega) (by omega) (by omega)).mono ?_
  rintro e w1 ⟨rfl, hb1⟩
  rw [show flV 7 (-3) 2 = -11 from by decide, show flB 7 (-3) 2 = true from by decide]
  go_wp2_with fail
  refine (near_yes 7 (-3) 2 _ (by omega) (by omega) (by omega) (by omega) (by omega) (by omega) (by decide)).mono ?_
  rintro e w2 ⟨rfl, hb2⟩
  rw [show awV (mag 7 * mag (-3) / mag 2) (xr 7 (-3) 2) (nrS 7 (-3) 2) = -10 from by decide, show awB (mag 7 * mag (-3) / mag 2) (nrS 7 (-3) 2) = true from by decide]
  go_wp2_with fail
  refine (trunc_yes 7 (-3) 2 _ (by omega) (by omega) (by omega) (by omega) (by omega) (by omega) (by decide)).mono ?_
  rintro e w3 ⟨rfl, hb3⟩
  rw [show awV (mag 7 * mag (-3) / mag 2) (xr 7 (-3) 2) false = -10 from by decide, show awB (mag 7 * mag (-3) / mag 2) false = true from by decide]
  go_wp2
  go_ret
  exact ⟨rfl, (hb1.trans (hb2.mono hb1.size)).trans (hb3.mono (Nat.le_trans hb1.size hb2.size))⟩

theorem fit_bd (a b c : Int) : -1099511627775 ≤ fitV a b c ∧ fitV a b c ≤ 1099511627775 := by unfold fitV; omega
theorem fit_grows (x y b c : Int) (hb : 0 ≤ b) (hc : 1 ≤ c) (h : x ≤ y) : fitV x b c ≤ fitV y b c := by
  have hq : wq x b c ≤ wq y b c := by
    unfold wq wN mag
    rw [if_neg (by omega), if_neg (by omega), if_neg (by omega)]
    exact Int.ediv_le_ediv (by omega) (Int.mul_le_mul_of_nonneg_right h hb)
  unfold fitV
  omega

set_option maxHeartbeats 4000000 in
theorem law_WideGrows (x y b c : Int) (w : World) (hx1 : -9223372036854775808 ≤ x) (hx2 : x ≤ 9223372036854775807) (hy1 : -9223372036854775808 ≤ y) (hy2 : y ≤ 9223372036854775807) (hb1' : -9223372036854775808 ≤ b) (hb2' : b ≤ 9223372036854775807) (hc1 : -9223372036854775808 ≤ c) (hc2 : c ≤ 9223372036854775807) :
    Calls Try.prog 7 #[.agg #[.int .i64 x, .int .i64 y], .int .i64 b, .int .i64 c] w fun e w' => e = .returned (.bool true) ∧ Below w.heap.size w w' := by
  have F1 := Lib.hid (fun v => fit_any x b c v hx1 hx2 hb1' hb2' hc1 hc2)
  have F2 := Lib.hid (fun v => fit_any y b c v hy1 hy2 hb1' hb2' hc1 hc2)
  have g1 := fit_bd x b c
  have g2 := fit_bd y b c
  have HG := Lib.hid (fit_grows x y b c)
  generalize fitV x b c = U at *
  generalize fitV y b c = V at *
  by_cases h : 0 ≤ b ∧ 1 ≤ c ∧ x ≤ y
  · have hg := HG.out h.1 h.2.1 h.2.2
    obtain ⟨h1, h2, h3⟩ := h
    clear HG
    go_enter Try.func7, Try.ntmps7
    go_wp2_with fail
    have hb0 : Below w.heap.size w (w.alloc (.cells #[.int .i64 x, .int .i64 y] 28)) := (by repeat (first | exact Below.refl _ _ | assumption | apply Below.drew | apply below_drewN | (refine Below.alloc ?_ (by first | exact Nat.le_refl _ | omega | (simp <;> omega)) _) | (refine Below.setCell ?_ (by first | exact Nat.le_refl _ | omega | (simp <;> omega)) _)))
    have hz0 : w.heap.size + 1 ≤ (w.alloc (.cells #[.int .i64 x, .int .i64 y] 28)).heap.size := by first | (simp; done) | (simp; omega)
    have c0_0 : World.cell? (w.alloc (.cells #[.int .i64 x, .int .i64 y] 28)) ⟨w.heap.size, 0, none⟩ = some (.int .i64 x) := by first | (simp; done) | go_simp
    have c0_1 : World.cell? (w.alloc (.cells #[.int .i64 x, .int .i64 y] 28)) ⟨w.heap.size, 1, none⟩ = some (.int .i64 y) := by first | (simp; done) | go_simp
    have f0_0 : World.frozen? (w.alloc (.cells #[.int .i64 x, .int .i64 y] 28)) ⟨w.heap.size, 0, none⟩ = false := by first | (simp; done) | go_simp
    have f0_1 : World.frozen? (w.alloc (.cells #[.int .i64 x, .int .i64 y] 28)) ⟨w.heap.size, 1, none⟩ = false := by first | (simp; done) | go_simp
    generalize (w.alloc (.cells #[.int .i64 x, .int .i64 y] 28)) = v at hb0 hz0 c0_0 c0_1 f0_0 f0_1 ⊢
    go_region_held3 (fun w' => w'.cell? ⟨w.heap.size, 0, none⟩ = some (.int .i64 x) ∧ w'.cell? ⟨w.heap.size, 1, none⟩ = some (.int .i64 y) ∧ Below w.heap.size w w' ∧ w.heap.size + 1 ≤ w'.heap.size) (first | exact ⟨c0_0, c0_1, hb0, hz0⟩ | exact ⟨c0_0, c0_1, hb0.drew, hz0⟩ | exact ⟨(bc hb1 (by omega)).trans c0_0, (bc hb1 (by omega)).trans c0_1, hb0.trans (hb1.mono (by omega)), Nat.le_trans hz0 hb1.size⟩)
      (first | (go_at_call 19; (with_reducible refine (anch (v := v) (F1.out _) (by first | assumption | exact Below.refl _ _ | exact (Below.refl _ _).drew)).mono ?_); rintro e w1 ⟨rfl, hb1⟩) | (go_at_call 19; (with_reducible refine (anch (v := v) (F2.out _) (by first | assumption | exact Below.refl _ _ | exact (Below.refl _ _).drew)).mono ?_); rintro e w1 ⟨rfl, hb1⟩))
    go_wp2_with (go_at_call 15; refine (anch (v := v) (lives02 _) (by first | assumption | exact Below.refl _ _ | exact (Below.refl _ _).drew)).mono ?_; rintro e w1 ⟨rfl, hb2⟩)
    go_ret
    exact ⟨rfl, hb0.trans (hb2.mono (by omega))⟩
  · clear HG
    go_enter Try.func7, Try.ntmps7
    go_wp2_with (go_at_call 15; refine (lives02 _).mono ?_; rintro e w1 ⟨rfl, hb2⟩)
    all_goals
      go_ret
      exact ⟨rfl, Below.trans (by repeat (first | exact Below.refl _ _ | assumption | apply Below.drew | apply below_drewN | (refine Below.alloc ?_ (by first | exact Nat.le_refl _ | omega | (simp <;> omega)) _) | (refine Below.setCell ?_ (by first | exact Nat.le_refl _ | omega | (simp <;> omega)) _))) (hb2.mono (by simp))⟩
end Go.Proofs.Ytehdncjojfjmpaa
