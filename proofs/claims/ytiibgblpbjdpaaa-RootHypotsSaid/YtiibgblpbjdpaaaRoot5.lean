/- root.Hypot and the examples of layer 3; the laws RootBetween and RootSides, walked. -/
import Derived.Test.YtiibgblpbjdpaaaRoot4
namespace Go.Proofs.Ytiibgblpbjdpaaa
open Go.ChangeShapes Go.WideShapes Go.ChangeAt Go.RowKit
set_option linter.unusedVariables false

theorem add64_run (x y c : Int) (hx : 0 ≤ x) (hy : 0 ≤ y) (hc0 : 0 ≤ c) (hc : c ≤ 1) (w : World) :
    (callFunc 60 #[.int .u64 x, .int .u64 y, .int .u64 c]).run Try.prog w = .ok (.value (.tuple #[.int .u64 ((x + y + c) % 18446744073709551616), .int .u64 ((x + y + c) / 18446744073709551616)])) w := by
  rw [run_callFunc_extern Try.func60 (by kernel_rfl) (by kernel_rfl) (by kernel_rfl) (e := add64Entry) (by kernel_rfl), run_add64 x y c hx hy hc0 hc]
  rfl

/-- The square of what n is clipped to. -/
def sqc (n : Int) : Int := absI (clp n) * absI (clp n)
theorem absc_bd (n : Int) : 0 ≤ absI (clp n) ∧ absI (clp n) ≤ 1099511627775 := by have := clp_bd n; unfold absI; omega
theorem sqc_bd (n : Int) : 0 ≤ sqc n ∧ sqc n ≤ 1208925819612430151450625 := by
  have h := absc_bd n
  exact ⟨Int.mul_nonneg h.1 h.1, by have := Int.mul_le_mul h.2 h.2 h.1 (by omega); unfold sqc; omega⟩

set_option maxHeartbeats 400000 in
theorem square_any (n : Int) (w : World) :
    Calls Try.prog 59 #[.int .i64 n] w fun e w' => e = .returned (.tuple #[.int .u64 (sqc n / 18446744073709551616), .int .u64 (sqc n % 18446744073709551616)]) ∧ w = w' := by
  have C := Lib.hid (fun v => clip_any n v)
  have b := absc_bd n
  have bc := clp_bd n
  have M := Lib.hid (fun v => mul64_any (absI (clp n)) (absI (clp n)) v b.1 (by omega) b.1 (by omega))
  unfold sqc
  have e1 : (if clp n < -clp n then -clp n else clp n) = absI (clp n) := by unfold absI; omega
  generalize hA : absI (clp n) = A at *
  unfold absI at hA
  generalize clp n = c at *
  generalize beyB n = o at *
  by_cases hc : c < 0
  all_goals
    have hA' : A = _ := hA.symm
    first | rw [if_pos hc] at hA' | rw [if_neg hc] at hA'
    subst hA'
    clear hA e1
    go_enter Try.func59, Try.ntmps59
    go_wp2_with (first | (go_at_call 46; refine (C.out _).mono ?_; rintro e w1 ⟨rfl, rfl⟩) | (go_at_call 76; refine (M.out _).mono ?_; rintro e w1 ⟨rfl, rfl⟩))
    go_ret2
    exact ⟨rfl, rfl⟩

theorem carry_plain (p q : Int) (hp : 0 ≤ p) (hq : 0 ≤ q) (hp2 : p ≤ 1208925819612430151450625) (hq2 : q ≤ 1208925819612430151450625) :
    (p / 18446744073709551616 + q / 18446744073709551616 + (p % 18446744073709551616 + q % 18446744073709551616 + 0) / 18446744073709551616) % 18446744073709551616 * 18446744073709551616 + (p % 18446744073709551616 + q % 18446744073709551616 + 0) % 18446744073709551616 = p + q := by omega

theorem rhyp_bd (a b : Int) : 0 ≤ rt (sqc a + sqc b) ∧ rt (sqc a + sqc b) ≤ 2199023255550 := by
  have h1 := sqc_bd a
  have h2 := sqc_bd b
  exact ⟨(rt_is _ (by omega)).1, rt_le _ 2199023255550 (by omega) (by omega) (by omega)⟩

set_option maxHeartbeats 1000000 in
theorem hypot_any (a b : Int) (w : World) :
    Calls Try.prog 37 #[.int .i64 a, .int .i64 b] w fun e w' => e = .returned (.int .i64 (rt (sqc a + sqc b))) ∧ w = w' := by
  have S1 := Lib.hid (fun v => square_any a v)
  have S2 := Lib.hid (fun v => square_any b v)
  have h1 := sqc_bd a
  have h2 := sqc_bd b
  have hr := rhyp_bd a b
  generalize sqc a = p at *
  generalize sqc b = q at *
  have cp := carry_plain p q h1.1 h2.1 h1.2 h2.2
  have A1 := fun v => add64_run (p % 18446744073709551616) (q % 18446744073709551616) 0 (by omega) (by omega) (by omega) (by omega) v
  have A2 := fun v => add64_run (p / 18446744073709551616) (q / 18446744073709551616) ((p % 18446744073709551616 + q % 18446744073709551616 + 0) / 18446744073709551616) (by omega) (by omega) (by omega) (by omega) v
  have W := Lib.hid (fun v => rwide_rt ((p / 18446744073709551616 + q / 18446744073709551616 + (p % 18446744073709551616 + q % 18446744073709551616 + 0) / 18446744073709551616) % 18446744073709551616) ((p % 18446744073709551616 + q % 18446744073709551616 + 0) % 18446744073709551616) v (by omega) (by omega) (by omega) (by omega))
  rw [cp] at W
  clear cp
  generalize rt (p + q) = r at *
  generalize (p / 18446744073709551616 + q / 18446744073709551616 + (p % 18446744073709551616 + q % 18446744073709551616 + 0) / 18446744073709551616) % 18446744073709551616 = X1 at *
  generalize (p % 18446744073709551616 + q % 18446744073709551616 + 0) % 18446744073709551616 = X2 at *
  generalize (p / 18446744073709551616 + q / 18446744073709551616 + (p % 18446744073709551616 + q % 18446744073709551616 + 0) / 18446744073709551616) / 18446744073709551616 = X3 at *
  generalize (p % 18446744073709551616 + q % 18446744073709551616 + 0) / 18446744073709551616 = X4 at *
  generalize p / 18446744073709551616 = Y1 at *
  generalize q / 18446744073709551616 = Y2 at *
  generalize p % 18446744073709551616 = Y3 at *
  generalize q % 18446744073709551616 = Y4 at *
  clear h1 h2
  have A1w := A1 w
  have A2w := A2 w
  clear A1 A2
  go_enter Try.func37, Try.ntmps37
  go_wp2_with (first | (go_at_call 59; (with_reducible refine (S1.out _).mono ?_); rintro e w1 ⟨rfl, rfl⟩) | (go_at_call 59; (with_reducible refine (S2.out _).mono ?_); rintro e w1 ⟨rfl, rfl⟩) | (go_at_call 61; refine (W.out _).mono ?_; rintro e w1 ⟨rfl, rfl⟩))
  go_ret
  exact ⟨rfl, rfl⟩

set_option maxHeartbeats 1000000 in
theorem lives03 (w : World) : Calls Try.prog 39 #[] w fun e w' => e = .returned (.bool true) ∧ w = w' := by
  have S := Lib.hid (fun v => sqrt_rt 99 v (by omega) (by omega))
  have W := Lib.hid (fun v => rwide_rt 1 0 v (by omega) (by omega) (by omega) (by omega))
  have H := Lib.hid (fun v => hypot_any 3 (-4) v)
  rw [show rt 99 = 9 from rt_eq ⟨by omega, by omega, by omega⟩] at S
  rw [show rt (1 * 18446744073709551616 + 0) = 4294967296 from rt_eq ⟨by omega, by omega, by omega⟩] at W
  rw [show rt (sqc 3 + sqc (-4)) = 5 from by rw [show sqc 3 + sqc (-4) = 25 from by decide]; exact rt_eq ⟨by omega, by omega, by omega⟩] at H
  go_enter Try.func39, Try.ntmps39
  go_wp2_with (first | (go_at_call 63; refine (S.out _).mono ?_; rintro e w1 ⟨rfl, rfl⟩) | (go_at_call 61; refine (W.out _).mono ?_; rintro e w1 ⟨rfl, rfl⟩) | (go_at_call 37; refine (H.out _).mono ?_; rintro e w1 ⟨rfl, rfl⟩))
  go_ret
  exact ⟨rfl, rfl⟩
end Go.Proofs.Ytiibgblpbjdpaaa
