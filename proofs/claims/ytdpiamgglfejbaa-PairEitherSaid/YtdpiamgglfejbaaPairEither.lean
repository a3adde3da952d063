/- The law PairEither, walked. -/
import Derived.Test.YtdpiamgglfejbaaPair
namespace Go.Proofs.Ytdpiamgglfejbaa
open Go.ChangeShapes Go.WideShapes Go.ChangeAt Go.RowKit
set_option linter.unusedVariables false

set_option maxHeartbeats 4000000 in
theorem law_PairEither (x e y f tau : Int) (w : World) :
    Calls Try.prog 8 #[.agg #[.int .i64 x, .int .i64 e], .agg #[.int .i64 y, .int .i64 f], .int .i64 tau] w fun r w' => r = .returned (.bool true) ∧ Below w.heap.size w w' := by
  have E1 := Lib.hid (either1 x e y f tau)
  have E2 := Lib.hid (either2 x y)
  go_enter Try.func8, Try.ntmps8
  go_wp2_with fail
  have hb0 : Below w.heap.size w ((w.alloc (.cells #[.int .i64 x, .int .i64 e] 43)).alloc (.cells #[.int .i64 y, .int .i64 f] 43)) := (by repeat (first | exact Below.refl _ _ | assumption | apply Below.drew | (refine Below.alloc ?_ (by first | exact Nat.le_refl _ | (simp <;> omega)) _) | (refine Below.setCell ?_ (by first | exact Nat.le_refl _ | (simp <;> omega)) _)))
  have hz0 : w.heap.size + 2 ≤ ((w.alloc (.cells #[.int .i64 x, .int .i64 e] 43)).alloc (.cells #[.int .i64 y, .int .i64 f] 43)).heap.size := by simp
  have c00 : ((w.alloc (.cells #[.int .i64 x, .int .i64 e] 43)).alloc (.cells #[.int .i64 y, .int .i64 f] 43)).cell? ⟨w.heap.size, 0, none⟩ = some (.int .i64 x) := by simp
  have c01 : ((w.alloc (.cells #[.int .i64 x, .int .i64 e] 43)).alloc (.cells #[.int .i64 y, .int .i64 f] 43)).cell? ⟨w.heap.size, 1, none⟩ = some (.int .i64 e) := by simp
  have c10 : ((w.alloc (.cells #[.int .i64 x, .int .i64 e] 43)).alloc (.cells #[.int .i64 y, .int .i64 f] 43)).cell? ⟨w.heap.size + 1, 0, none⟩ = some (.int .i64 y) := by simp
  have c11 : ((w.alloc (.cells #[.int .i64 x, .int .i64 e] 43)).alloc (.cells #[.int .i64 y, .int .i64 f] 43)).cell? ⟨w.heap.size + 1, 1, none⟩ = some (.int .i64 f) := by simp
  generalize ((w.alloc (.cells #[.int .i64 x, .int .i64 e] 43)).alloc (.cells #[.int .i64 y, .int .i64 f] 43)) = v at hb0 hz0 c00 c01 c10 c11 ⊢
  go_region_held3 (fun w' => w'.cell? ⟨w.heap.size, 0, none⟩ = some (.int .i64 x) ∧ w'.cell? ⟨w.heap.size, 1, none⟩ = some (.int .i64 e) ∧ w'.cell? ⟨w.heap.size + 1, 0, none⟩ = some (.int .i64 y) ∧ w'.cell? ⟨w.heap.size + 1, 1, none⟩ = some (.int .i64 f) ∧ Below w.heap.size w w' ∧ w.heap.size + 2 ≤ w'.heap.size)
    (first | exact ⟨c00, c01, c10, c11, hb0, hz0⟩ | exact ⟨c00, c01, c10, c11, hb0.drew, hz0⟩ | exact ⟨(bc hb1 (by omega)).trans c00, (bc hb1 (by omega)).trans c01, (bc hb1 (by omega)).trans c10, (bc hb1 (by omega)).trans c11, hb0.trans (hb1.mono (by omega)), Nat.le_trans hz0 hb1.size⟩)
    (first | (go_at_call 28; refine (apart_any _ _ _).mono ?_; rintro e w1 ⟨rfl, rfl⟩) | (go_at_call 29; refine (rapart_any _ _ _).mono ?_; rintro e w1 ⟨rfl, rfl⟩) | (go_at_call 30; refine (mean_any _ _ _).mono ?_; rintro e w1 ⟨rfl, rfl⟩) | (go_at_call 31; refine (rmean_any _ _ _).mono ?_; rintro e w1 ⟨rfl, rfl⟩) | (go_at_call 32; refine (anch (v := v) (verdict_any _ _ _ _ _ _) (by first | assumption | exact Below.refl _ _ | exact (Below.refl _ _).drew)).mono ?_; rintro e w1 ⟨rfl, hb1⟩) | (go_at_call 33; refine (anch (v := v) (rverdict_any _ _ _ _ _ _) (by first | assumption | exact Below.refl _ _ | exact (Below.refl _ _).drew)).mono ?_; rintro e w1 ⟨rfl, hb1⟩) | (go_at_call 34; refine (anch (v := v) (lives21 _) (by first | assumption | exact Below.refl _ _ | exact (Below.refl _ _).drew)).mono ?_; rintro e w1 ⟨rfl, hb1⟩))
  have hbw := hb0.trans (hb1.mono (by omega))
  have hzw := Nat.le_trans hz0 hb1.size
  have k00 := (bc (o := 0) hb1 (b := w.heap.size) (by omega)).trans c00
  have k10 := (bc (o := 0) hb1 (b := w.heap.size + 1) (by omega)).trans c10
  clear hb0 hz0 c00 c01 c10 c11 hb1
  obtain ⟨p1, p2, p3⟩ := E1.out
  clear E1
  generalize vrd x e y f tau = V at p1 p2 p3 ⊢
  generalize vrd y f x e tau = V' at p1 p2 p3 ⊢
  obtain ⟨m1, d0, d1, m2, m3, m4, m5, m6, m7⟩ := E2.out
  clear E2
  have hMean : ∀ v, Calls Try.prog 30 #[.int .i64 y, .int .i64 x] v fun e w' => e = .returned (.int .i64 (men x y)) ∧ v = w' := fun v => by rw [m1]; exact mean_any y x v
  have hApart : ∀ v, Calls Try.prog 28 #[.int .i64 y, .int .i64 x] v fun e w' => e = .returned (.int .i64 (apt x y)) ∧ v = w' := fun v => by rw [← m2]; exact apart_any y x v
  have hApart0 : ∀ v, Calls Try.prog 28 #[.int .i64 x, .int .i64 x] v fun e w' => e = .returned (.int .i64 0) ∧ v = w' := fun v => by rw [← m3]; exact apart_any x x v
  have hA1 : ∀ v, Calls Try.prog 28 #[.int .i64 (men x y), .int .i64 x] v fun e w' => e = .returned (.int .i64 (apt (men x y) x)) ∧ v = w' := fun v => apart_any _ x v
  have hA2 : ∀ v, Calls Try.prog 28 #[.int .i64 (men x y), .int .i64 y] v fun e w' => e = .returned (.int .i64 (apt (men x y) y)) ∧ v = w' := fun v => apart_any _ y v
  have n1 : 0 ≤ apt (men x y) x := by unfold apt; omega
  have n2 : 0 ≤ apt (men x y) y := by unfold apt; omega
  generalize apt (men x y) x = A1 at hA1 m4 m6 n1
  generalize apt (men x y) y = A2 at hA2 m5 m7 n2
  have HM := Lib.hid hMean
  have HP := Lib.hid hApart
  have HP0 := Lib.hid hApart0
  have HA1 := Lib.hid hA1
  have HA2 := Lib.hid hA2
  have HMx := Lib.hid (fun v => mean_any x y v)
  have HPx := Lib.hid (fun v => apart_any x y v)
  clear hMean hApart hApart0 hA1 hA2 m1 m2 m3
  generalize men x y = M at *
  generalize apt x y = D at *
  have b1 : decide (D < 0) = false := by simp; omega
  have b2 : decide (2 * A1 ≤ D + 1) = true := by simp; omega
  have b3 : decide (2 * A2 ≤ D + 1) = true := by simp; omega
  have b4 : decide (A1 ≤ D) = true := by simp; omega
  have b5 : decide (A2 ≤ D) = true := by simp; omega
  by_cases q2 : V = 2
  · have q3 := p1 q2
    subst q2 q3
    clear p1 p2 p3
    go_wp2_with fail
    go_quiet ((first | (go_at_call 30; (with_reducible exact quiet_as _ rfl (HMx.out _))) | (go_at_call 28; (with_reducible exact quiet_as _ rfl (HPx.out _)))))
    go_wp2_with (first | (go_at_call 30; (with_reducible refine (HM.out _).mono ?_); rintro e w1 ⟨rfl, rfl⟩) | (go_at_call 28; (with_reducible refine (HP.out _).mono ?_); rintro e w1 ⟨rfl, rfl⟩) | (go_at_call 28; (with_reducible refine (HP0.out _).mono ?_); rintro e w1 ⟨rfl, rfl⟩) | (go_at_call 28; (with_reducible refine (HA1.out _).mono ?_); rintro e w1 ⟨rfl, rfl⟩) | (go_at_call 28; (with_reducible refine (HA2.out _).mono ?_); rintro e w1 ⟨rfl, rfl⟩) | (go_at_call 34; refine (lives21 _).mono ?_; rintro e w1 ⟨rfl, hlv⟩))
    go_ret
    exact ⟨rfl, (below_drewN hbw nq).trans (hlv.mono (below_drewN hbw nq).size)⟩
  · by_cases q3 : V = 3
    · have q4 := p2 q3
      subst q3 q4
      clear p1 p2 p3 q2
      go_wp2_with fail
      go_quiet ((first | (go_at_call 30; (with_reducible exact quiet_as _ rfl (HMx.out _))) | (go_at_call 28; (with_reducible exact quiet_as _ rfl (HPx.out _)))))
      go_wp2_with (first | (go_at_call 30; (with_reducible refine (HM.out _).mono ?_); rintro e w1 ⟨rfl, rfl⟩) | (go_at_call 28; (with_reducible refine (HP.out _).mono ?_); rintro e w1 ⟨rfl, rfl⟩) | (go_at_call 28; (with_reducible refine (HP0.out _).mono ?_); rintro e w1 ⟨rfl, rfl⟩) | (go_at_call 28; (with_reducible refine (HA1.out _).mono ?_); rintro e w1 ⟨rfl, rfl⟩) | (go_at_call 28; (with_reducible refine (HA2.out _).mono ?_); rintro e w1 ⟨rfl, rfl⟩) | (go_at_call 34; refine (lives21 _).mono ?_; rintro e w1 ⟨rfl, hlv⟩))
      go_ret
      exact ⟨rfl, (below_drewN hbw nq).trans (hlv.mono (below_drewN hbw nq).size)⟩
    · have q4 := p3 q2 q3
      subst q4
      have u2 : (V == 2) = false := by simp [q2]
      have u3 : (V == 3) = false := by simp [q3]
      have u4 : (V != 2) = true := by simp [q2]
      have u5 : (V != 3) = true := by simp [q3]
      clear p1 p2 p3 q2 q3
      go_wp2_with fail
      go_quiet ((first | (go_at_call 30; (with_reducible exact quiet_as _ rfl (HMx.out _))) | (go_at_call 28; (with_reducible exact quiet_as _ rfl (HPx.out _)))))
      go_wp2_with (first | (go_at_call 30; (with_reducible refine (HM.out _).mono ?_); rintro e w1 ⟨rfl, rfl⟩) | (go_at_call 28; (with_reducible refine (HP.out _).mono ?_); rintro e w1 ⟨rfl, rfl⟩) | (go_at_call 28; (with_reducible refine (HP0.out _).mono ?_); rintro e w1 ⟨rfl, rfl⟩) | (go_at_call 28; (with_reducible refine (HA1.out _).mono ?_); rintro e w1 ⟨rfl, rfl⟩) | (go_at_call 28; (with_reducible refine (HA2.out _).mono ?_); rintro e w1 ⟨rfl, rfl⟩) | (go_at_call 34; refine (lives21 _).mono ?_; rintro e w1 ⟨rfl, hlv⟩))
      go_ret
      exact ⟨rfl, (below_drewN hbw nq).trans (hlv.mono (below_drewN hbw nq).size)⟩
end Go.Proofs.Ytdpiamgglfejbaa
