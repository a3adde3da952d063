/- The laws RootBetween and RootSides, walked. -/
import Derived.Test.YtehdncjojfjmpaaRoot5
namespace Go.Proofs.Ytehdncjojfjmpaa
open Go.ChangeShapes Go.WideShapes Go.ChangeAt Go.RowKit
set_option linter.unusedVariables false

theorem u64_bd {n : Int} (h : (Lit.int .u64 n).wf = true) : 0 ≤ n ∧ n ≤ 18446744073709551615 := by
  simp [Lit.wf, IntKind.min, IntKind.max, IntKind.signed, IntKind.bits] at h
  omega

theorem k_bd (a : Int) : 0 ≤ a % 4294967296 * (a % 4294967296) ∧ a % 4294967296 * (a % 4294967296) ≤ 18446744065119617025 := by
  have h0 : 0 ≤ a % 4294967296 := by omega
  have h1 : a % 4294967296 ≤ 4294967295 := by omega
  exact ⟨Int.mul_nonneg h0 h0, by have := Int.mul_le_mul h1 h1 h0 (by omega); omega⟩

set_option maxHeartbeats 4000000 in
theorem law_RootBetween (a b : Int) (w : World) (ha0 : 0 ≤ a) (ha : a ≤ 18446744073709551615) (hb0 : 0 ≤ b) (hb : b ≤ 18446744073709551615) :
    Calls Try.prog 11 #[.int .u64 a, .int .u64 b] w fun e w' => e = .returned (.bool true) ∧ Below w.heap.size w w' := by
  have S1 := Lib.hid (fun v => sqrt_rt a v ha0 ha)
  have S2 := Lib.hid (fun v => sqrt_rt b v hb0 hb)
  have kb := k_bd a
  have k0 : 0 ≤ a % 4294967296 ∧ a % 4294967296 ≤ 4294967295 := by omega
  have S3 := Lib.hid (fun v => sqrt_rt (a % 4294967296 * (a % 4294967296)) v kb.1 (by omega))
  have Q := Lib.hid (fun v => rsquare_rt (a % 4294967296 * (a % 4294967296)) v kb.1 (by omega))
  rw [rt_sq _ k0.1] at S3 Q
  rw [beq_self_eq_true] at Q
  have W := Lib.hid (fun v => rwide_rt 0 a v (by omega) (by omega) ha0 ha)
  rw [show (0 : Int) * 18446744073709551616 + a = a by omega] at W
  have hr := rt_u64 a ha0 ha
  have hs := rt_u64 b hb0 hb
  have is := rt_is a ha0
  have m1 := rt_mono a b ha0
  have m2 := rt_mono b a hb0
  generalize rt a = r at *
  generalize rt b = s at *
  obtain ⟨_, i1, i2⟩ := is
  have L := Lib.hid (fun v => lives03 v)
  have q0 : 0 ≤ r * r := Int.mul_nonneg hr.1 hr.1
  have q2 : r < 4294967295 → (r + 1) * (r + 1) ≤ 18446744065119617025 := fun h => by
    have := Int.mul_le_mul (show r + 1 ≤ 4294967295 by omega) (show r + 1 ≤ 4294967295 by omega) (by omega) (by omega : (0 : Int) ≤ 4294967295)
    omega
  have q3 : 0 ≤ (r + 1) * (r + 1) := Int.mul_nonneg (by omega) (by omega)
  have w1 : IntKind.u64.wrap (r * r) = r * r := IntWalk.u64_in _ ⟨q0, by omega⟩
  have w3 : IntKind.u64.wrap (a % 4294967296 * (a % 4294967296)) = a % 4294967296 * (a % 4294967296) := IntWalk.u64_in _ ⟨kb.1, by omega⟩
  have d1 : decide (4294967295 < r) = false := decide_eq_false (by omega)
  have d2 : decide (a < r * r) = false := decide_eq_false (by omega)
  have e1 : a ≤ b → decide (s < r) = false := fun h => decide_eq_false (by have := m1 h; omega)
  have e2 : b ≤ a → decide (r < s) = false := fun h => decide_eq_false (by have := m2 h; omega)
  clear m1 m2 kb
  by_cases h : r < 4294967295
  · have w2 : IntKind.u64.wrap ((r + 1) * (r + 1)) = (r + 1) * (r + 1) := IntWalk.u64_in _ ⟨q3, by have := q2 h; omega⟩
    have d3 : decide ((r + 1) * (r + 1) ≤ a) = false := decide_eq_false (by omega)
    have d4 : decide (r < 4294967295) = true := decide_eq_true h
    clear q2 q3 i1 i2 q0
    by_cases h1 : a ≤ b
    · have e1 := e1 h1
      have g1 := decide_eq_true h1
      by_cases h2 : b ≤ a
      · have e2 := e2 h2
        have g2 := decide_eq_true h2
        go_enter Try.func11, Try.ntmps11
        go_wp2_with (first | (go_at_call 21; (with_reducible refine (S1.out _).mono ?_); rintro e w1 ⟨rfl, rfl⟩) | (go_at_call 21; (with_reducible refine (S2.out _).mono ?_); rintro e w1 ⟨rfl, rfl⟩) | (go_at_call 21; (with_reducible refine (S3.out _).mono ?_); rintro e w1 ⟨rfl, rfl⟩) | (go_at_call 29; refine (Q.out _).mono ?_; rintro e w1 ⟨rfl, rfl⟩) | (go_at_call 24; refine (W.out _).mono ?_; rintro e w1 ⟨rfl, rfl⟩) | (go_at_call 25; refine (L.out _).mono ?_; rintro e w1 ⟨rfl, rfl⟩))
        go_ret
        exact ⟨rfl, (by repeat (first | exact Below.refl _ _ | assumption | apply Below.drew | apply below_drewN | (refine Below.alloc ?_ (by first | exact Nat.le_refl _ | omega | (simp <;> omega)) _) | (refine Below.setCell ?_ (by first | exact Nat.le_refl _ | omega | (simp <;> omega)) _)))⟩
      · have g2 := decide_eq_false h2
        go_enter Try.func11, Try.ntmps11
        go_wp2_with (first | (go_at_call 21; (with_reducible refine (S1.out _).mono ?_); rintro e w1 ⟨rfl, rfl⟩) | (go_at_call 21; (with_reducible refine (S2.out _).mono ?_); rintro e w1 ⟨rfl, rfl⟩) | (go_at_call 21; (with_reducible refine (S3.out _).mono ?_); rintro e w1 ⟨rfl, rfl⟩) | (go_at_call 29; refine (Q.out _).mono ?_; rintro e w1 ⟨rfl, rfl⟩) | (go_at_call 24; refine (W.out _).mono ?_; rintro e w1 ⟨rfl, rfl⟩) | (go_at_call 25; refine (L.out _).mono ?_; rintro e w1 ⟨rfl, rfl⟩))
        go_ret
        exact ⟨rfl, (by repeat (first | exact Below.refl _ _ | assumption | apply Below.drew | apply below_drewN | (refine Below.alloc ?_ (by first | exact Nat.le_refl _ | omega | (simp <;> omega)) _) | (refine Below.setCell ?_ (by first | exact Nat.le_refl _ | omega | (simp <;> omega)) _)))⟩
    · have h2 : b ≤ a := by omega
      have e2 := e2 h2
      have g1 := decide_eq_false h1
      have g2 := decide_eq_true h2
      go_enter Try.func11, Try.ntmps11
      go_wp2_with (first | (go_at_call 21; (with_reducible refine (S1.out _).mono ?_); rintro e w1 ⟨rfl, rfl⟩) | (go_at_call 21; (with_reducible refine (S2.out _).mono ?_); rintro e w1 ⟨rfl, rfl⟩) | (go_at_call 21; (with_reducible refine (S3.out _).mono ?_); rintro e w1 ⟨rfl, rfl⟩) | (go_at_call 29; refine (Q.out _).mono ?_; rintro e w1 ⟨rfl, rfl⟩) | (go_at_call 24; refine (W.out _).mono ?_; rintro e w1 ⟨rfl, rfl⟩) | (go_at_call 25; refine (L.out _).mono ?_; rintro e w1 ⟨rfl, rfl⟩))
      go_ret
      exact ⟨rfl, (by repeat (first | exact Below.refl _ _ | assumption | apply Below.drew | apply below_drewN | (refine Below.alloc ?_ (by first | exact Nat.le_refl _ | omega | (simp <;> omega)) _) | (refine Below.setCell ?_ (by first | exact Nat.le_refl _ | omega | (simp <;> omega)) _)))⟩
  · have d4 : decide (r < 4294967295) = false := decide_eq_false h
    clear q2 q3 i1 i2 q0
    by_cases h1 : a ≤ b
    · have e1 := e1 h1
      have g1 := decide_eq_true h1
      by_cases h2 : b ≤ a
      · have e2 := e2 h2
        have g2 := decide_eq_true h2
        go_enter Try.func11, Try.ntmps11
        go_wp2_with (first | (go_at_call 21; (with_reducible refine (S1.out _).mono ?_); rintro e w1 ⟨rfl, rfl⟩) | (go_at_call 21; (with_reducible refine (S2.out _).mono ?_); rintro e w1 ⟨rfl, rfl⟩) | (go_at_call 21; (with_reducible refine (S3.out _).mono ?_); rintro e w1 ⟨rfl, rfl⟩) | (go_at_call 29; refine (Q.out _).mono ?_; rintro e w1 ⟨rfl, rfl⟩) | (go_at_call 24; refine (W.out _).mono ?_; rintro e w1 ⟨rfl, rfl⟩) | (go_at_call 25; refine (L.out _).mono ?_; rintro e w1 ⟨rfl, rfl⟩))
        go_ret
        exact ⟨rfl, (by repeat (first | exact Below.refl _ _ | assumption | apply Below.drew | apply below_drewN | (refine Below.alloc ?_ (by first | exact Nat.le_refl _ | omega | (simp <;> omega)) _) | (refine Below.setCell ?_ (by first | exact Nat.le_refl _ | omega | (simp <;> omega)) _)))⟩
      · have g2 := decide_eq_false h2
        go_enter Try.func11, Try.ntmps11
        go_wp2_with (first | (go_at_call 21; (with_reducible refine (S1.out _).mono ?_); rintro e w1 ⟨rfl, rfl⟩) | (go_at_call 21; (with_reducible refine (S2.out _).mono ?_); rintro e w1 ⟨rfl, rfl⟩) | (go_at_call 21; (with_reducible refine (S3.out _).mono ?_); rintro e w1 ⟨rfl, rfl⟩) | (go_at_call 29; refine (Q.out _).mono ?_; rintro e w1 ⟨rfl, rfl⟩) | (go_at_call 24; refine (W.out _).mono ?_; rintro e w1 ⟨rfl, rfl⟩) | (go_at_call 25; refine (L.out _).mono ?_; rintro e w1 ⟨rfl, rfl⟩))
        go_ret
        exact ⟨rfl, (by repeat (first | exact Below.refl _ _ | assumption | apply Below.drew | apply below_drewN | (refine Below.alloc ?_ (by first | exact Nat.le_refl _ | omega | (simp <;> omega)) _) | (refine Below.setCell ?_ (by first | exact Nat.le_refl _ | omega | (simp <;> omega)) _)))⟩
    · have h2 : b ≤ a := by omega
      have e2 := e2 h2
      have g1 := decide_eq_false h1
      have g2 := decide_eq_true h2
      go_enter Try.func11, Try.ntmps11
      go_wp2_with (first | (go_at_call 21; (with_reducible refine (S1.out _).mono ?_); rintro e w1 ⟨rfl, rfl⟩) | (go_at_call 21; (with_reducible refine (S2.out _).mono ?_); rintro e w1 ⟨rfl, rfl⟩) | (go_at_call 21; (with_reducible refine (S3.out _).mono ?_); rintro e w1 ⟨rfl, rfl⟩) | (go_at_call 29; refine (Q.out _).mono ?_; rintro e w1 ⟨rfl, rfl⟩) | (go_at_call 24; refine (W.out _).mono ?_; rintro e w1 ⟨rfl, rfl⟩) | (go_at_call 25; refine (L.out _).mono ?_; rintro e w1 ⟨rfl, rfl⟩))
      go_ret
      exact ⟨rfl, (by repeat (first | exact Below.refl _ _ | assumption | apply Below.drew | apply below_drewN | (refine Below.alloc ?_ (by first | exact Nat.le_refl _ | omega | (simp <;> omega)) _) | (refine Below.setCell ?_ (by first | exact Nat.le_refl _ | omega | (simp <;> omega)) _)))⟩

theorem sqc_abs (a b : Int) : sqc (absI (clp b)) + sqc (-absI (clp a)) = sqc a + sqc b := by
  have h1 : absI (clp (absI (clp b))) = absI (clp b) := by have := clp_bd b; unfold absI clp; unfold clp at this; omega
  have h2 : absI (clp (-absI (clp a))) = absI (clp a) := by have := clp_bd a; unfold absI clp; unfold clp at this; omega
  unfold sqc
  rw [h1, h2]
  omega

theorem sides (a b : Int) : absI (clp a) ≤ rt (sqc a + sqc b) ∧ absI (clp b) ≤ rt (sqc a + sqc b) ∧ rt (sqc a + sqc b) ≤ absI (clp a) + absI (clp b) := by
  have ha := absc_bd a
  have hb := absc_bd b
  have sa := sqc_bd a
  have sb := sqc_bd b
  have m := Int.mul_nonneg ha.1 hb.1
  refine ⟨le_rt _ _ ha.1 ?_, le_rt _ _ hb.1 ?_, rt_le _ _ (by omega) (by omega) ?_⟩
  · show sqc a ≤ _; omega
  · show sqc b ≤ _; omega
  · unfold sqc
    generalize absI (clp a) = x at *
    generalize absI (clp b) = y at *
    have : (x + y + 1) * (x + y + 1) = x * x + y * y + 2 * (x * y) + 2 * x + 2 * y + 1 := by
      simp only [Int.add_mul, Int.mul_add, Int.mul_one, Int.one_mul, Int.mul_comm y x]; omega
    omega

set_option maxHeartbeats 4000000 in
theorem law_RootSides (a b : Int) (w : World) :
    Calls Try.prog 12 #[.int .i64 a, .int .i64 b] w fun e w' => e = .returned (.bool true) ∧ Below w.heap.size w w' := by
  have C1 := Lib.hid (fun v => rclip_any a v)
  have C2 := Lib.hid (fun v => rclip_any b v)
  have A1 := Lib.hid (fun v => rabs_any (clp a) v (clp_bd a))
  have A2 := Lib.hid (fun v => rabs_any (clp b) v (clp_bd b))
  have H1 := Lib.hid (fun v => hypot_any a b v)
  have H2 := Lib.hid (fun v => hypot_any (absI (clp b)) (-absI (clp a)) v)
  rw [sqc_abs] at H2
  have sd := sides a b
  have ha := absc_bd a
  have hb := absc_bd b
  have hr := rhyp_bd a b
  generalize rt (sqc a + sqc b) = r at *
  generalize hx : absI (clp a) = x at *
  generalize hy : absI (clp b) = y at *
  generalize clp a = ca at *
  generalize clp b = cb at *
  clear hx hy
  have L := Lib.hid (fun v => lives03 v)
  go_enter Try.func12, Try.ntmps12
  go_wp2_with (first | (go_at_call 32; (with_reducible refine (C1.out _).mono ?_); rintro e w1 ⟨rfl, rfl⟩) | (go_at_call 32; (with_reducible refine (C2.out _).mono ?_); rintro e w1 ⟨rfl, rfl⟩) | (go_at_call 34; (with_reducible refine (A1.out _).mono ?_); rintro e w1 ⟨rfl, rfl⟩) | (go_at_call 34; (with_reducible refine (A2.out _).mono ?_); rintro e w1 ⟨rfl, rfl⟩) | (go_at_call 33; (with_reducible refine (H1.out _).mono ?_); rintro e w1 ⟨rfl, rfl⟩) | (go_at_call 33; (with_reducible refine (H2.out _).mono ?_); rintro e w1 ⟨rfl, rfl⟩) | (go_at_call 25; refine (L.out _).mono ?_; rintro e w1 ⟨rfl, rfl⟩))
  go_ret
  exact ⟨rfl, (by repeat (first | exact Below.refl _ _ | assumption | apply Below.drew | apply below_drewN | (refine Below.alloc ?_ (by first | exact Nat.le_refl _ | omega | (simp <;> omega)) _) | (refine Below.setCell ?_ (by first | exact Nat.le_refl _ | omega | (simp <;> omega)) _)))⟩
end Go.Proofs.Ytehdncjojfjmpaa
