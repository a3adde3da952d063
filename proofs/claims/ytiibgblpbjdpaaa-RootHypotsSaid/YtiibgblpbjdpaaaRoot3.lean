/- root.Wide, walked. -/
import Derived.Test.YtiibgblpbjdpaaaRoot2
namespace Go.Proofs.Ytiibgblpbjdpaaa
open Go.ChangeShapes Go.WideShapes Go.ChangeAt Go.RowKit
set_option linter.unusedVariables false

def SomeRoot (N : Int) (w : World) (e : Ending) (w' : World) : Prop := ∃ r, IsRoot N r ∧ r ≤ 18446744073709551615 ∧ e = .returned (.int .u64 r) ∧ w = w'

theorem pow_le64 (j : Nat) (h : j ≤ 64) : (2 : Int) ^ j ≤ 18446744073709551616 := by
  have h1 : (2 : Nat) ^ j ≤ 2 ^ 64 := Nat.pow_le_pow_right (by omega) h
  have h2 : ((2 ^ j : Nat) : Int) ≤ ((2 ^ 64 : Nat) : Int) := Int.ofNat_le.2 h1
  have h3 : ((2 ^ j : Nat) : Int) = (2 : Int) ^ j := by push_cast; rfl
  have h4 : ((2 ^ 64 : Nat) : Int) = 18446744073709551616 := by decide
  rw [h3, h4] at h2
  exact h2

theorem sq_bd (x : Int) (h0 : 0 ≤ x) (h : x ≤ 18446744073709551615) : 0 ≤ x * x ∧ x * x ≤ 340282366920938463426481119284349108225 :=
  ⟨Int.mul_nonneg h0 h0, by have := Int.mul_le_mul h h h0 (by omega : (0 : Int) ≤ 18446744073709551615); omega⟩

set_option maxHeartbeats 1000000 in
theorem rwide_any (hi lo : Int) (w : World) (hh0 : 0 ≤ hi) (hh : hi ≤ 18446744073709551615) (hl0 : 0 ≤ lo) (hl : lo ≤ 18446744073709551615) :
    Calls Try.prog 61 #[.int .u64 hi, .int .u64 lo] w (SomeRoot (hi * 18446744073709551616 + lo) w) := by
  have TB := Lib.hid (fun v => topBit_any hi lo v hh0 hh hl0 hl)
  obtain ⟨j, hj, ej, hN⟩ := root_top hi lo hh0 hh hl0 hl
  rw [ej] at TB
  clear ej
  have HN := Lib.hid hN
  clear hN
  go_enter Try.func61, Try.ntmps61
  go_wp2_with (go_at_call 77; refine (TB.out _).mono ?_; rintro e w1 ⟨rfl, rfl⟩)
  go_loop [5, 6] (fun a b => ∃ (k : Nat) (t : Int), k ≤ 64 ∧ 0 ≤ t ∧ a = .int .u64 (2 ^ k * t) ∧ b = .int .u64 (bitAt k) ∧ 2 ^ k * t + 2 ^ k ≤ 18446744073709551616 ∧ Hid ((2 ^ k * t) * (2 ^ k * t) ≤ hi * 18446744073709551616 + lo ∧ hi * 18446744073709551616 + lo < (2 ^ k * t + 2 ^ k) * (2 ^ k * t + 2 ^ k))) (fun _ b => (intOf b).toNat)
  case atStart => exact ⟨j, 0, hj, by omega, by simp, rfl, by have := pow_le64 j hj; simpa using this, Lib.hid (by have := HN.out; simp; omega)⟩
  case round =>
    obtain ⟨k, t, hk, ht, rfl, rfl, hb, hr⟩ := hrel
    cases k with
    | zero =>
      have hz : bitAt 0 = 0 := rfl
      rw [hz]
      clear hz
      go_wp2
      go_ret
      have hr := hr.out
      simp at hr hb ⊢
      exact ⟨t, ⟨ht, hr.1, hr.2⟩, by omega, rfl, rfl⟩
    | succ i =>
      have hbit : bitAt (i + 1) = 2 ^ i := rfl
      rw [hbit]
      clear hbit
      have hor := or_bit t i ht hb
      have e2 : (2 : Int) ^ (i + 1) = 2 * 2 ^ i := by rw [Int.pow_succ, Int.mul_comm]
      have B0 : (0 : Int) < 2 ^ i := Int.pow_pos (by omega)
      have HH := Lib.hid (bitAt_half i)
      have P0 : 0 ≤ (2 : Int) ^ (i + 1) * t := Int.mul_nonneg (by omega) ht
      have hp0 : (2 : Int) ^ (i + 1) * t = 2 ^ i * (2 * t) := by rw [e2, Int.mul_comm 2, Int.mul_assoc]
      have hp1 : (2 : Int) ^ (i + 1) * t + 2 ^ i = 2 ^ i * (2 * t + 1) := by rw [hp0, Int.mul_add, Int.mul_one]
      rw [e2] at hb hr
      rw [← e2] at hb hr
      have hb' : (2 : Int) ^ (i + 1) * t + 2 * 2 ^ i ≤ 18446744073709551616 := by rw [← e2]; exact hb
      rw [e2] at hr
      generalize hP : (2 : Int) ^ (i + 1) * t = P at *
      have hr' : Hid (P * P ≤ hi * 18446744073709551616 + lo ∧ hi * 18446744073709551616 + lo < (P + 2 * 2 ^ i) * (P + 2 * 2 ^ i)) := by
        have := hr.out
        rw [← e2, hP] at this
        rw [← e2]
        exact Lib.hid this
      clear hr e2 hb hP
      have hr := hr'
      clear hr'
      have HP0 := Lib.hid hp0
      have HP1 := Lib.hid hp1
      clear hp0 hp1
      obtain ⟨X, eX⟩ : ∃ X, P + 2 ^ i = X := ⟨_, rfl⟩
      rw [eX] at hor
      have X0 : 0 ≤ X := by omega
      have X1 : X ≤ 18446744073709551615 := by omega
      have MU := Lib.hid (fun v => mul64_any X X v X0 X1 X0 X1)
      have sq := sq_bd X X0 X1
      have hq : X * X = X * X / 18446744073709551616 * 18446744073709551616 + X * X % 18446744073709551616 := by omega
      have L0 : 0 ≤ X * X % 18446744073709551616 ∧ X * X % 18446744073709551616 ≤ 18446744073709551615 := by omega
      have H0 : 0 ≤ X * X / 18446744073709551616 ∧ X * X / 18446744073709551616 ≤ 18446744073709551615 := by omega
      have HX := Lib.hid eX
      generalize X * X / 18446744073709551616 = H at *
      generalize X * X % 18446744073709551616 = L at *
      have HQ := Lib.hid hq
      clear hq eX sq
      have hgt : (0 : Int) < 2 ^ i := B0
      by_cases c1 : H < hi
      · have d1 : decide (H < hi) = true := decide_eq_true c1
        go_wp2_with (go_at_call 76; refine (MU.out _).mono ?_; rintro e w1 ⟨rfl, rfl⟩)
        go_round
        case rel => exact ⟨i, 2 * t + 1, by omega, by omega, by rw [← HP1.out, HX.out], by rw [HH.out], by rw [← HP1.out]; omega, Lib.hid (by rw [← HP1.out, HX.out]; have h1 := hr.out; have h2 := HQ.out; exact ⟨by omega, by rw [show X + 2 ^ i = P + 2 * 2 ^ i from by have := HX.out; omega]; exact h1.2⟩)⟩
        case measure => simp [intOf]; omega
      · have d1 : decide (H < hi) = false := decide_eq_false c1
        by_cases c2 : H = hi
        · have d2 : (H == hi) = true := beq_iff_eq.2 c2
          by_cases c3 : L ≤ lo
          · have d3 : decide (L ≤ lo) = true := decide_eq_true c3
            have C2 := Lib.hid c2
            clear c2
            go_wp2_with (go_at_call 76; refine (MU.out _).mono ?_; rintro e w1 ⟨rfl, rfl⟩)
            go_round
            case rel => exact ⟨i, 2 * t + 1, by omega, by omega, by rw [← HP1.out, HX.out], by rw [HH.out], by rw [← HP1.out]; omega, Lib.hid (by rw [← HP1.out, HX.out]; have h1 := hr.out; have h2 := HQ.out; have h3 := C2.out; exact ⟨by omega, by rw [show X + 2 ^ i = P + 2 * 2 ^ i from by have := HX.out; omega]; exact h1.2⟩)⟩
            case measure => simp [intOf]; omega
          · have d3 : decide (L ≤ lo) = false := decide_eq_false c3
            have C2 := Lib.hid c2
            clear c2
            go_wp2_with (go_at_call 76; refine (MU.out _).mono ?_; rintro e w1 ⟨rfl, rfl⟩)
            go_round
            case rel => exact ⟨i, 2 * t, by omega, by omega, by rw [← HP0.out], by rw [HH.out], by rw [← HP0.out]; omega, Lib.hid (by rw [← HP0.out, HX.out]; have h1 := hr.out; have h2 := HQ.out; have h3 := C2.out; exact ⟨h1.1, by omega⟩)⟩
            case measure => simp [intOf]; omega
        · have d2 : (H == hi) = false := beq_eq_false_iff_ne.2 c2
          go_wp2_with (go_at_call 76; refine (MU.out _).mono ?_; rintro e w1 ⟨rfl, rfl⟩)
          go_round
          case rel => exact ⟨i, 2 * t, by omega, by omega, by rw [← HP0.out], by rw [HH.out], by rw [← HP0.out]; omega, Lib.hid (by rw [← HP0.out, HX.out]; have h1 := hr.out; have h2 := HQ.out; exact ⟨h1.1, by omega⟩)⟩
          case measure => simp [intOf]; omega
end Go.Proofs.Ytiibgblpbjdpaaa
