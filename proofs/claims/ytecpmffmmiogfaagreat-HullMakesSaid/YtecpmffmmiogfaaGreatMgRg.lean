/- MgRg: Root Root2 Root3. -/
import Derived.Test.YtecpmffmmiogfaaGreatMgWg
namespace Go.Proofs.YtecpmffmmiogfaaGreat
open Go.ChangeShapes Go.WideShapes Go.ChangeAt Go.RowKit
set_option linter.unusedVariables false

theorem pow_wrap (k : Nat) (h : k ≤ 63) : IntKind.u64.wrap (2 ^ k) = 2 ^ k := by
  rw [IntKind.wrap_u64]
  have h1 : (2 : Nat) ^ k ≤ 2 ^ 63 := Nat.pow_le_pow_right (by omega) h
  have h2 : ((2 ^ k : Nat) : Int) ≤ ((2 ^ 63 : Nat) : Int) := Int.ofNat_le.2 h1
  have h3 : ((2 ^ k : Nat) : Int) = (2 : Int) ^ k := by push_cast; rfl
  have h4 : ((2 ^ 63 : Nat) : Int) = 9223372036854775808 := by decide
  rw [h3, h4] at h2
  have h5 : (0 : Int) < 2 ^ k := Int.pow_pos (by omega)
  omega

/-- The highest bit of the root of hi * 2^64 + lo; 0 where that is 0. -/
def tbit (hi lo : Int) : Int := if 0 < hi then 2 ^ ((64 + Lib.bitLen hi.toNat - 1) / 2) else if Lib.bitLen lo.toNat = 0 then 0 else 2 ^ ((Lib.bitLen lo.toNat - 1) / 2)

set_option maxHeartbeats 400000 in
theorem topBit_any (hi lo : Int) (w : World) (hh0 : 0 ≤ hi) (hh : hi ≤ 18446744073709551615) (hl0 : 0 ≤ lo) (hl : lo ≤ 18446744073709551615) :
    Calls Tryz.prog 131 #[.int .u64 hi, .int .u64 lo] w fun e w' => e = .returned (.int .u64 (tbit hi lo)) ∧ w = w' := by
  have L1 := Lib.hid (fun v => len64_any lo v hl0 hl)
  have L2 := Lib.hid (fun v => len64_any hi v hh0 hh)
  have b1 := Lib.bitLen_le lo.toNat 64 (by omega) (by omega)
  have b2 := Lib.bitLen_le hi.toNat 64 (by omega) (by omega)
  unfold tbit
  generalize Lib.bitLen lo.toNat = m at *
  generalize Lib.bitLen hi.toNat = n at *
  by_cases h : 0 < hi
  · rw [if_pos h]
    have hz : ((64 : Int) + (n : Int) == 0) = false := by simp; omega
    have hw := pow_wrap ((64 + n - 1) / 2) (by omega)
    generalize hX : (2 : Int) ^ ((64 + n - 1) / 2) = X at hw ⊢
    have HX := Lib.hid hX
    clear hX
    go_enter Tryz.func131, Tryz.ntmps131
    go_wp2_with (first | (go_at_call 120; (with_reducible refine (L1.out _).mono ?_); rintro e w1 ⟨rfl, rfl⟩) | (go_at_call 120; (with_reducible refine (L2.out _).mono ?_); rintro e w1 ⟨rfl, rfl⟩))
    go_ret
    exact ⟨ret_int (by rw [HX.out]; exact hw), rfl⟩
  · rw [if_neg h]
    by_cases hm : m = 0
    · subst hm
      go_enter Tryz.func131, Tryz.ntmps131
      go_wp2_with (first | (go_at_call 120; (with_reducible refine (L1.out _).mono ?_); rintro e w1 ⟨rfl, rfl⟩) | (go_at_call 120; (with_reducible refine (L2.out _).mono ?_); rintro e w1 ⟨rfl, rfl⟩))
      go_ret
      exact ⟨rfl, rfl⟩
    · rw [if_neg hm]
      have hz : ((m : Int) == 0) = false := by simp; omega
      have hp : 1 ≤ m := by omega
      have hw := pow_wrap ((m - 1) / 2) (by omega)
      generalize hX : (2 : Int) ^ ((m - 1) / 2) = X at hw ⊢
      have HX := Lib.hid hX
      clear hX hm
      go_enter Tryz.func131, Tryz.ntmps131
      go_wp2_with (first | (go_at_call 120; (with_reducible refine (L1.out _).mono ?_); rintro e w1 ⟨rfl, rfl⟩) | (go_at_call 120; (with_reducible refine (L2.out _).mono ?_); rintro e w1 ⟨rfl, rfl⟩))
      go_ret
      exact ⟨ret_int (by rw [HX.out]; exact hw), rfl⟩
end Go.Proofs.YtecpmffmmiogfaaGreat
namespace Go.Proofs.YtecpmffmmiogfaaGreat
open Go.ChangeShapes Go.WideShapes Go.ChangeAt Go.RowKit
set_option linter.unusedVariables false

def IsRoot (N r : Int) : Prop := 0 ≤ r ∧ r * r ≤ N ∧ N < (r + 1) * (r + 1)

def bitAt : Nat → Int
  | 0 => 0
  | i + 1 => 2 ^ i

theorem bitAt_half (i : Nat) : (2 : Int) ^ i / 2 = bitAt i := by
  cases i with
  | zero => rfl
  | succ i => show (2 : Int) ^ (i + 1) / 2 = 2 ^ i; rw [Int.pow_succ]; exact Int.mul_ediv_cancel _ (by omega)

theorem or_bit (t : Int) (i : Nat) (ht : 0 ≤ t) (h : 2 ^ (i + 1) * t + 2 ^ (i + 1) ≤ 18446744073709551616) : bits .or .u64 (2 ^ (i + 1) * t) (2 ^ i) = 2 ^ (i + 1) * t + 2 ^ i := by
  have h1 : (0 : Int) < 2 ^ i := Int.pow_pos (by omega)
  have h2 : (2 : Int) ^ (i + 1) = 2 * 2 ^ i := by rw [Int.pow_succ, Int.mul_comm]
  have h3 : 0 ≤ (2 : Int) ^ (i + 1) * t := Int.mul_nonneg (by omega) ht
  rw [u64_or _ _ h3 (by omega) (by omega) (by omega)]
  obtain ⟨T, rfl⟩ := Int.eq_ofNat_of_zero_le ht
  have e1 : (2 : Int) ^ (i + 1) * (T : Int) = ((2 ^ (i + 1) * T : Nat) : Int) := by push_cast; rfl
  have e2 : (2 : Int) ^ i = ((2 ^ i : Nat) : Int) := by push_cast; rfl
  rw [e1, e2, Int.toNat_natCast, Int.toNat_natCast, ← Nat.two_pow_add_eq_or_of_lt (Nat.pow_lt_pow_right (by omega) (by omega)) T]
  push_cast
  rfl

theorem len_top (x : Int) (h0 : 0 ≤ x) (h : x ≤ 18446744073709551615) : x < 2 ^ Lib.bitLen x.toNat ∧ (Lib.bitLen x.toNat = 0 → x = 0) := by
  by_cases hx : x = 0
  · subst hx; exact ⟨by decide, fun _ => rfl⟩
  · have hb := Lib.bitLenAux_bounds 64 x.toNat (by omega) (by omega)
    have e : Lib.bitLenAux 64 x.toNat = Lib.bitLen x.toNat := rfl
    rw [e] at hb
    generalize Lib.bitLen x.toNat = L at *
    have h2 : ((x.toNat : Nat) : Int) < ((2 ^ L : Nat) : Int) := Int.ofNat_lt.2 hb.2.2
    have h3 : ((2 ^ L : Nat) : Int) = (2 : Int) ^ L := by push_cast; rfl
    rw [h3] at h2
    exact ⟨by omega, by omega⟩

theorem pow_sq (L j : Nat) (h : L ≤ 2 * j) (N : Int) (hN : N < 2 ^ L) : N < 2 ^ j * 2 ^ j := by
  rw [← Int.pow_add]
  have h1 : (2 : Nat) ^ L ≤ 2 ^ (j + j) := Nat.pow_le_pow_right (by omega) (by omega)
  have h2 : ((2 ^ L : Nat) : Int) ≤ ((2 ^ (j + j) : Nat) : Int) := Int.ofNat_le.2 h1
  have h3 : ((2 ^ L : Nat) : Int) = (2 : Int) ^ L := by push_cast; rfl
  have h4 : ((2 ^ (j + j) : Nat) : Int) = (2 : Int) ^ (j + j) := by push_cast; rfl
  rw [h3, h4] at h2
  omega

theorem root_top (hi lo : Int) (hh0 : 0 ≤ hi) (hh : hi ≤ 18446744073709551615) (hl0 : 0 ≤ lo) (hl : lo ≤ 18446744073709551615) :
    ∃ j, j ≤ 64 ∧ tbit hi lo = bitAt j ∧ hi * 18446744073709551616 + lo < 2 ^ j * 2 ^ j := by
  have b1 := Lib.bitLen_le lo.toNat 64 (by omega) (by omega)
  have b2 := Lib.bitLen_le hi.toNat 64 (by omega) (by omega)
  have t1 := len_top lo hl0 hl
  have t2 := len_top hi hh0 hh
  unfold tbit
  generalize Lib.bitLen lo.toNat = m at *
  generalize Lib.bitLen hi.toNat = n at *
  by_cases h : 0 < hi
  · refine ⟨(64 + n - 1) / 2 + 1, by omega, by rw [if_pos h]; rfl, ?_⟩
    apply pow_sq (64 + n) _ (by omega)
    rw [Int.pow_add]
    have e : (2 : Int) ^ 64 = 18446744073709551616 := by decide
    rw [e]
    generalize (2 : Int) ^ n = X at *
    omega
  · have e0 : hi = 0 := by omega
    rw [if_neg h, e0]
    by_cases hm : m = 0
    · refine ⟨0, by omega, by rw [if_pos hm]; rfl, ?_⟩
      have := t1.2 hm
      rw [this]; decide
    · refine ⟨(m - 1) / 2 + 1, by omega, by rw [if_neg hm]; rfl, ?_⟩
      apply pow_sq m _ (by omega)
      have := t1.1
      omega
end Go.Proofs.YtecpmffmmiogfaaGreat
namespace Go.Proofs.YtecpmffmmiogfaaGreat
open Go.ChangeShapes Go.WideShapes Go.ChangeAt Go.RowKit
set_option linter.unusedVariables false

def SomeRoot (N : Int) (w : World) (e : Ending) (w' : World) : Prop := ∃ r, IsRoot N r ∧ r ≤ 18446744073709551615 ∧ e = .returned (.int .u64 r) ∧ w = w'

theorem pow_le64 (j : Nat) (h : j ≤ 64) : (2 : Int) ^ j ≤ 18446744073709551616 := by
  have h1 : (2 : Nat) ^ j ≤ 2 ^ 64 := Nat.pow_le_pow_right (by omega) h
  have h2 : ((2 ^ j : Nat) : Int) ≤ ((2 ^ 64 : Nat) : Int) := Int.ofNat_le.2 h1
  have h3 : ((2 ^ j : Nat) : Int) = (2 : Int) ^ j := by push_cast; rfl
  have h4 : ((2 ^ 64 : Nat) : Int) = 18446744073709551616 := by decide
  rw [h3, h4] at h2
  exact h2

theorem sq_bd (x : Int) (h0 : 0 ≤ x) (h : x ≤ 18446744073709551615) : 0 ≤ x * x ∧ x * x ≤ 340282366920938463426481119284349108225 :=
  ⟨Int.mul_nonneg h0 h0, by have := Int.mul_le_mul h h h0 (by omega : (0 : Int) ≤ 18446744073709551615); omega⟩

set_option maxHeartbeats 1000000 in
theorem rwide_any (hi lo : Int) (w : World) (hh0 : 0 ≤ hi) (hh : hi ≤ 18446744073709551615) (hl0 : 0 ≤ lo) (hl : lo ≤ 18446744073709551615) :
    Calls Tryz.prog 121 #[.int .u64 hi, .int .u64 lo] w (SomeRoot (hi * 18446744073709551616 + lo) w) := by
  have TB := Lib.hid (fun v => topBit_any hi lo v hh0 hh hl0 hl)
  obtain ⟨j, hj, ej, hN⟩ := root_top hi lo hh0 hh hl0 hl
  rw [ej] at TB
  clear ej
  have HN := Lib.hid hN
  clear hN
  go_enter Tryz.func121, Tryz.ntmps121
  go_wp2_with (go_at_call 131; refine (TB.out _).mono ?_; rintro e w1 ⟨rfl, rfl⟩)
  go_loop [5, 6] (fun a b => ∃ (k : Nat) (t : Int), k ≤ 64 ∧ 0 ≤ t ∧ a = .int .u64 (2 ^ k * t) ∧ b = .int .u64 (bitAt k) ∧ 2 ^ k * t + 2 ^ k ≤ 18446744073709551616 ∧ Hid ((2 ^ k * t) * (2 ^ k * t) ≤ hi * 18446744073709551616 + lo ∧ hi * 18446744073709551616 + lo < (2 ^ k * t + 2 ^ k) * (2 ^ k * t + 2 ^ k))) (fun _ b => (intOf b).toNat)
  case atStart => exact ⟨j, 0, hj, by omega, by simp, rfl, by have := pow_le64 j hj; simpa using this, Lib.hid (by have := HN.out; simp; omega)⟩
  case round =>
    obtain ⟨k, t, hk, ht, rfl, rfl, hb, hr⟩ := hrel
    cases k with
    | zero =>
      have hz : bitAt 0 = 0 := rfl
      rw [hz]
      clear hz
      go_wp2
      go_ret
      have hr := hr.out
      simp at hr hb ⊢
      exact ⟨t, ⟨ht, hr.1, hr.2⟩, by omega, rfl, rfl⟩
    | succ i =>
      have hbit : bitAt (i + 1) = 2 ^ i := rfl
      rw [hbit]
      clear hbit
      have hor := or_bit t i ht hb
      have e2 : (2 : Int) ^ (i + 1) = 2 * 2 ^ i := by rw [Int.pow_succ, Int.mul_comm]
      have B0 : (0 : Int) < 2 ^ i := Int.pow_pos (by omega)
      have HH := Lib.hid (bitAt_half i)
      have P0 : 0 ≤ (2 : Int) ^ (i + 1) * t := Int.mul_nonneg (by omega) ht
      have hp0 : (2 : Int) ^ (i + 1) * t = 2 ^ i * (2 * t) := by rw [e2, Int.mul_comm 2, Int.mul_assoc]
      have hp1 : (2 : Int) ^ (i + 1) * t + 2 ^ i = 2 ^ i * (2 * t + 1) := by rw [hp0, Int.mul_add, Int.mul_one]
      rw [e2] at hb hr
      rw [← e2] at hb hr
      have hb' : (2 : Int) ^ (i + 1) * t + 2 * 2 ^ i ≤ 18446744073709551616 := by rw [← e2]; exact hb
      rw [e2] at hr
      generalize hP : (2 : Int) ^ (i + 1) * t = P at *
      have hr' : Hid (P * P ≤ hi * 18446744073709551616 + lo ∧ hi * 18446744073709551616 + lo < (P + 2 * 2 ^ i) * (P + 2 * 2 ^ i)) := by
        have := hr.out
        rw [← e2, hP] at this
        rw [← e2]
        exact Lib.hid this
      clear hr e2 hb hP
      have hr := hr'
      clear hr'
      have HP0 := Lib.hid hp0
      have HP1 := Lib.hid hp1
      clear hp0 hp1
      obtain ⟨X, eX⟩ : ∃ X, P + 2 ^ i = X := ⟨_, rfl⟩
      rw [eX] at hor
      have X0 : 0 ≤ X := by omega
      have X1 : X ≤ 18446744073709551615 := by omega
      have MU := Lib.hid (fun v => mul64_any X X v X0 X1 X0 X1)
      have sq := sq_bd X X0 X1
      have hq : X * X = X * X / 18446744073709551616 * 18446744073709551616 + X * X % 18446744073709551616 := by omega
      have L0 : 0 ≤ X * X % 18446744073709551616 ∧ X * X % 18446744073709551616 ≤ 18446744073709551615 := by omega
      have H0 : 0 ≤ X * X / 18446744073709551616 ∧ X * X / 18446744073709551616 ≤ 18446744073709551615 := by omega
      have HX := Lib.hid eX
      generalize X * X / 18446744073709551616 = H at *
      generalize X * X % 18446744073709551616 = L at *
      have HQ := Lib.hid hq
      clear hq eX sq
      have hgt : (0 : Int) < 2 ^ i := B0
      by_cases c1 : H < hi
      · have d1 : decide (H < hi) = true := decide_eq_true c1
        go_wp2_with (go_at_call 85; refine (MU.out _).mono ?_; rintro e w1 ⟨rfl, rfl⟩)
        go_round
        case rel => exact ⟨i, 2 * t + 1, by omega, by omega, by rw [← HP1.out, HX.out], by rw [HH.out], by rw [← HP1.out]; omega, Lib.hid (by rw [← HP1.out, HX.out]; have h1 := hr.out; have h2 := HQ.out; exact ⟨by omega, by rw [show X + 2 ^ i = P + 2 * 2 ^ i from by have := HX.out; omega]; exact h1.2⟩)⟩
        case measure => simp [intOf]; omega
      · have d1 : decide (H < hi) = false := decide_eq_false c1
        by_cases c2 : H = hi
        · have d2 : (H == hi) = true := beq_iff_eq.2 c2
          by_cases c3 : L ≤ lo
          · have d3 : decide (L ≤ lo) = true := decide_eq_true c3
            have C2 := Lib.hid c2
            clear c2
            go_wp2_with (go_at_call 85; refine (MU.out _).mono ?_; rintro e w1 ⟨rfl, rfl⟩)
            go_round
            case rel => exact ⟨i, 2 * t + 1, by omega, by omega, by rw [← HP1.out, HX.out], by rw [HH.out], by rw [← HP1.out]; omega, Lib.hid (by rw [← HP1.out, HX.out]; have h1 := hr.out; have h2 := HQ.out; have h3 := C2.out; exact ⟨by omega, by rw [show X + 2 ^ i = P + 2 * 2 ^ i from by have := HX.out; omega]; exact h1.2⟩)⟩
            case measure => simp [intOf]; omega
          · have d3 : decide (L ≤ lo) = false := decide_eq_false c3
            have C2 := Lib.hid c2
            clear c2
            go_wp2_with (go_at_call 85; refine (MU.out _).mono ?_; rintro e w1 ⟨rfl, rfl⟩)
            go_round
            case rel => exact ⟨i, 2 * t, by omega, by omega, by rw [← HP0.out], by rw [HH.out], by rw [← HP0.out]; omega, Lib.hid (by rw [← HP0.out, HX.out]; have h1 := hr.out; have h2 := HQ.out; have h3 := C2.out; exact ⟨h1.1, by omega⟩)⟩
            case measure => simp [intOf]; omega
        · have d2 : (H == hi) = false := beq_eq_false_iff_ne.2 c2
          go_wp2_with (go_at_call 85; refine (MU.out _).mono ?_; rintro e w1 ⟨rfl, rfl⟩)
          go_round
          case rel => exact ⟨i, 2 * t, by omega, by omega, by rw [← HP0.out], by rw [HH.out], by rw [← HP0.out]; omega, Lib.hid (by rw [← HP0.out, HX.out]; have h1 := hr.out; have h2 := HQ.out; exact ⟨h1.1, by omega⟩)⟩
          case measure => simp [intOf]; omega
end Go.Proofs.YtecpmffmmiogfaaGreat
