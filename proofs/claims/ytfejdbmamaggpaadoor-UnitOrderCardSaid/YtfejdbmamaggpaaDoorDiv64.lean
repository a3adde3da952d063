/- math/bits.Div64: the quotient and the remainder of 128 bits by 64. -/
import Derived.Test.YtfejdbmamaggpaaDoorBits
namespace Go.Proofs.YtfejdbmamaggpaaDoor
open Go.ChangeShapes Go.WideShapes Go.ChangeAt Go.RowKit
set_option linter.unusedVariables false

theorem lz_norm (y : Int) (h0 : 0 < y) (h1 : y ≤ 18446744073709551615) : ∃ s : Nat, s ≤ 63 ∧ (64 : Int) - (Lib.bitLen y.toNat : Int) = s ∧ 9223372036854775808 ≤ y * 2 ^ s ∧ y * 2 ^ s ≤ 18446744073709551615 := by
  have hb := Lib.bitLenAux_bounds 64 y.toNat (by omega) (by omega)
  have hle := Lib.bitLen_le y.toNat 64 (by omega) (by omega)
  have e : Lib.bitLenAux 64 y.toNat = Lib.bitLen y.toNat := rfl
  rw [e] at hb
  generalize Lib.bitLen y.toNat = L at *
  obtain ⟨n, rfl⟩ := Int.eq_ofNat_of_zero_le (Int.le_of_lt h0)
  simp only [Int.toNat_natCast] at hb
  refine ⟨64 - L, by omega, by omega, ?_, ?_⟩
  · have h3 : ((n * 2 ^ (64 - L) : Nat) : Int) = (n : Int) * 2 ^ (64 - L) := by push_cast; rfl
    have : 9223372036854775808 ≤ n * 2 ^ (64 - L) := by
      have h := Nat.mul_le_mul_right (2 ^ (64 - L)) hb.2.1
      rw [← Nat.pow_add, show L - 1 + (64 - L) = 63 from by omega] at h
      exact Nat.le_trans (by decide) h
    rw [← h3]
    exact Int.ofNat_le.2 this
  · have : n * 2 ^ (64 - L) < 2 ^ 64 := by
      have h := Nat.mul_lt_mul_of_pos_right hb.2.2 (Nat.two_pow_pos (64 - L))
      rw [← Nat.pow_add, show L + (64 - L) = 64 from by omega] at h
      exact h
    have h2 : ((n * 2 ^ (64 - L) : Nat) : Int) < ((18446744073709551616 : Nat) : Int) := Int.ofNat_lt.2 (Nat.lt_of_lt_of_le this (by decide))
    have h3 : ((n * 2 ^ (64 - L) : Nat) : Int) = (n : Int) * 2 ^ (64 - L) := by push_cast; rfl
    rw [h3] at h2
    exact Int.le_of_lt_add_one h2

set_option maxHeartbeats 400000 in
theorem lz64_any (y : Int) (w : World) (h0 : 0 ≤ y) (h1 : y ≤ 18446744073709551615) :
    Calls Tryd.prog 177 #[.int .u64 y] w fun e w' => e = .returned (.int .i64 (64 - (Lib.bitLen y.toNat : Int))) ∧ w = w' := by
  have hl := Lib.bitLen_le y.toNat 64 (by omega) (by omega)
  go_enter Tryd.func177, Tryd.ntmps177
  go_wp2_with (go_at_call 173; refine (len64_any _ _ h0 h1).mono ?_; rintro e w1 ⟨rfl, rfl⟩)
  go_ret
  exact ⟨rfl, rfl⟩

set_option maxHeartbeats 400000 in
theorem div64_zero (lo y : Int) (w : World) (hl0 : 0 ≤ lo) (hl : lo ≤ 18446744073709551615) (hy0 : 0 < y) (hy : y ≤ 18446744073709551615) :
    Calls Tryd.prog 145 #[.int .u64 0, .int .u64 lo, .int .u64 y] w fun e w' => e = .returned (.tuple #[.int .u64 (lo / y), .int .u64 (lo % y)]) ∧ ∃ n, w' = w.drewN n := by
  have hne : ¬ y = 0 := by omega
  have hb : (y == 0) = false := by simp; omega
  go_enter Tryd.func145, Tryd.ntmps145
  go_wp2_with fail
  go_quiet (fail)
  go_wp2
  go_ret2
  exact ⟨rfl, _, rfl⟩

/-- What the shifts of the dividend come to: u * 2^64 + v, with u below the shifted divisor. -/
theorem norm_parts (hi lo y : Int) (s : Nat) (hs : s ≤ 63) (hh0 : 0 ≤ hi) (hhy : hi < y) (hl0 : 0 ≤ lo) (hl : lo ≤ 18446744073709551615) (n2 : y * 2 ^ s ≤ 18446744073709551615) :
    ∃ u v : Int, bits .or .u64 (IntKind.u64.wrap (hi * 2 ^ s)) (lo / 2 ^ (64 - s)) = u ∧ IntKind.u64.wrap (lo * 2 ^ s) = v ∧ 0 ≤ u ∧ u < y * 2 ^ s ∧ 0 ≤ v ∧ v ≤ 18446744073709551615 ∧ (hi * 18446744073709551616 + lo) * 2 ^ s = u * 18446744073709551616 + v := by
  have hST : (2 : Int) ^ s * 2 ^ (64 - s) = 18446744073709551616 := by
    rw [← Int.pow_add, show s + (64 - s) = 64 from by omega]; decide
  have hS : (0 : Int) < 2 ^ s := Int.pow_pos (by omega)
  have hT : (0 : Int) < 2 ^ (64 - s) := Int.pow_pos (by omega)
  have hq : lo / 2 ^ (64 - s) < 2 ^ s := Int.ediv_lt_of_lt_mul hT (by rw [hST]; omega)
  have hq0 : 0 ≤ lo / 2 ^ (64 - s) := Int.ediv_nonneg hl0 (Int.le_of_lt hT)
  have hd : (lo * 2 ^ s) / 18446744073709551616 = lo / 2 ^ (64 - s) := by
    rw [← hST, Int.mul_comm lo]
    exact Int.mul_ediv_mul_of_pos _ _ hS
  have hy1 : (hi + 1) * 2 ^ s ≤ y * 2 ^ s := Int.mul_le_mul_of_nonneg_right (by omega) (Int.le_of_lt hS)
  rw [Int.add_mul, Int.one_mul] at hy1
  have hh1 : 0 ≤ hi * 2 ^ s := Int.mul_nonneg hh0 (Int.le_of_lt hS)
  have hor : bits .or .u64 (hi * 2 ^ s) (lo / 2 ^ (64 - s)) = hi * 2 ^ s + lo / 2 ^ (64 - s) := by
    rw [u64_or _ _ hh1 (by omega) hq0 (by omega)]
    obtain ⟨H, rfl⟩ := Int.eq_ofNat_of_zero_le hh0
    obtain ⟨B, eB⟩ := Int.eq_ofNat_of_zero_le hq0
    rw [eB] at hq ⊢
    have e1 : (H : Int) * 2 ^ s = ((2 ^ s * H : Nat) : Int) := by push_cast; rw [Int.mul_comm]
    have hB : B < 2 ^ s := by
      have : ((B : Nat) : Int) < ((2 ^ s : Nat) : Int) := by push_cast; exact hq
      exact Int.ofNat_lt.1 this
    rw [e1, Int.toNat_natCast, Int.toNat_natCast, ← Nat.two_pow_add_eq_or_of_lt hB H]
    push_cast
    rfl
  have hw : IntKind.u64.wrap (hi * 2 ^ s) = hi * 2 ^ s := by rw [IntKind.wrap_u64]; omega
  refine ⟨hi * 2 ^ s + lo / 2 ^ (64 - s), lo * 2 ^ s % 18446744073709551616, by rw [hw]; exact hor, IntKind.wrap_u64 _, by omega, by omega, by omega, by omega, ?_⟩
  rw [← hd, Int.add_mul, Int.mul_assoc, Int.mul_comm 18446744073709551616 (2 ^ s), ← Int.mul_assoc]
  generalize hi * 2 ^ s = A
  generalize lo * 2 ^ s = B
  omega

theorem digit_pack (u d y1 y0 : Int) (hy : 2147483648 ≤ y1) (h0 : 0 ≤ y0) (h0' : y0 < 4294967296) (hu0 : 0 ≤ u) (hu : u < y1 * 4294967296 + y0) (hd0 : 0 ≤ d) (hd : d < 4294967296) (hy' : y1 < 4294967296) :
    ∃ q Q R : Int, u / y1 = q ∧ 0 ≤ q ∧ q ≤ 4294967297 ∧ 0 ≤ q * y1 ∧ q * y1 ≤ u ∧ u - q * y1 < 4294967296 ∧ 0 ≤ Q ∧ Q < 4294967296 ∧ Q ≤ q ∧ (u * 4294967296 + d) / (y1 * 4294967296 + y0) = Q ∧
      u * 4294967296 + d = Q * (y1 * 4294967296 + y0) + R ∧ 0 ≤ R ∧ R < y1 * 4294967296 + y0 := by
  have g0 : 0 ≤ u / y1 := Int.ediv_nonneg hu0 (by omega)
  have gm := Int.mul_ediv_add_emod u y1
  have gr := Int.emod_nonneg u (by omega : y1 ≠ 0)
  have gr2 := Int.emod_lt_of_pos u (by omega : 0 < y1)
  have QM := Int.mul_ediv_add_emod (u * 4294967296 + d) (y1 * 4294967296 + y0)
  rw [Int.mul_comm] at gm QM
  refine ⟨u / y1, (u * 4294967296 + d) / (y1 * 4294967296 + y0), (u * 4294967296 + d) % (y1 * 4294967296 + y0), rfl, g0, DivM.guess_hi u y1 y0 hy h0' hu, Int.mul_nonneg g0 (by omega), by omega, by omega,
    Int.ediv_nonneg (by omega) (by omega), DivM.digit_lt u d y1 y0 hy h0 hu hd hu0 hd0, DivM.guess_lo u d y1 y0 hy h0 hu0 hd0 hd, rfl, QM.symm, Int.emod_nonneg _ (by omega), Int.emod_lt_of_pos _ (by omega)⟩

theorem wrap_rest (u d Q Y R : Int) (h : u * 4294967296 + d = Q * Y + R) (h0 : 0 ≤ R) (h1 : R ≤ 18446744073709551615) :
    IntKind.u64.wrap (IntKind.u64.wrap (IntKind.u64.wrap (u * 4294967296) + d) - IntKind.u64.wrap (Q * Y)) = R := by
  simp only [IntKind.wrap_u64]
  generalize Q * Y = A at h
  omega

set_option maxHeartbeats 8000000 in
theorem div64_big (hi lo y : Int) (w : World) (hh0 : 0 < hi) (hhy : hi < y) (hl0 : 0 ≤ lo) (hl : lo ≤ 18446744073709551615) (hy : y ≤ 18446744073709551615) :
    Calls Tryd.prog 145 #[.int .u64 hi, .int .u64 lo, .int .u64 y] w fun e w' => e = .returned (.tuple #[.int .u64 ((hi * 18446744073709551616 + lo) / y), .int .u64 ((hi * 18446744073709551616 + lo) % y)]) ∧ w = w' := by
  have hne : ¬ y = 0 := by omega
  have hb : (y == 0) = false := by simp; omega
  have hb2 : (hi == 0) = false := by simp; omega
  obtain ⟨s, hs, es, n1, n2⟩ := lz_norm y (by omega) hy
  have hc : ∀ v, Calls Tryd.prog 177 #[.int .u64 y] v fun e w' => e = .returned (.int .i64 (s : Int)) ∧ v = w' := fun v => by rw [← es]; exact lz64_any y v (by omega) hy
  have HC := Lib.hid hc
  clear hc es
  obtain ⟨u, v, eu, ev, u0', uY, v0, v1, eN⟩ := norm_parts hi lo y s hs (by omega) hhy hl0 hl n2
  obtain ⟨y1, ey1⟩ : ∃ y1, y * 2 ^ s / 4294967296 = y1 := ⟨_, rfl⟩
  obtain ⟨y0, ey0⟩ : ∃ y0, y * 2 ^ s % 4294967296 = y0 := ⟨_, rfl⟩
  have ea : bits .and .u64 (y * 2 ^ s) 4294967295 = y0 := (and_low32 _ (by omega) (by omega)).trans ey0
  obtain ⟨d1, ed1⟩ : ∃ d1, v / 4294967296 = d1 := ⟨_, rfl⟩
  obtain ⟨d0, ed0⟩ : ∃ d0, v % 4294967296 = d0 := ⟨_, rfl⟩
  have eb : bits .and .u64 v 4294967295 = d0 := (and_low32 _ (by omega) (by omega)).trans ed0
  have by1 : 2147483648 ≤ y1 ∧ y1 < 4294967296 := by omega
  have by0 : 0 ≤ y0 ∧ y0 < 4294967296 := by omega
  have bd1 : 0 ≤ d1 ∧ d1 < 4294967296 := by omega
  have bd0 : 0 ≤ d0 ∧ d0 < 4294967296 := by omega
  have eY : y * 2 ^ s = y1 * 4294967296 + y0 := by omega
  have eV : v = d1 * 4294967296 + d0 := by omega
  obtain ⟨q, Q, R, eq, g0, g1, p0, p1, pr, Q0, Q1, gl, eQ, QM, R0, R1⟩ := digit_pack u d1 y1 y0 by1.1 by0.1 by0.2 u0' (by omega) bd1.1 bd1.2 by1.2
  obtain ⟨k, Z, X, ek, k0, k1, l0, l1, lr, Z0, Z1, kZ, eZ, ZM, X0, X1⟩ := digit_pack R d0 y1 y0 by1.1 by0.1 by0.2 R0 R1 bd0.1 bd0.2 by1.2
  have HE := Lib.hid eQ
  have HZ := Lib.hid eZ
  rw [← eY] at QM ZM R1 X1
  have hfin := DivM.two_digits (hi * 18446744073709551616 + lo) y (2 ^ s) u d1 d0 Q R Z X (Int.pow_pos (by omega)) (by omega) (by rw [eN, eV, Int.add_mul, Int.mul_assoc]; omega) QM ZM X0 X1
  have HF := Lib.hid hfin
  have eW := wrap_rest u d1 Q (y * 2 ^ s) R QM R0 (by omega)
  have eW2 := wrap_rest R d0 Z (y * 2 ^ s) X ZM X0 (by omega)
  have et : u.tdiv y1 = q := by rw [Int.tdiv_eq_ediv_of_nonneg u0', eq]
  have hy1n : ¬ y1 = 0 := by omega
  clear ey0 ed0 eQ eZ QM ZM hfin eN eY eV
  go_enter Tryd.func145, Tryd.ntmps145
  go_wp2_with (go_at_call 177; refine (HC.out _).mono ?_; rintro e w1 ⟨rfl, rfl⟩)
  go_loop [15, 16] (fun a b => ∃ q r : Int, a = .int .u64 q ∧ b = .int .u64 r ∧ 0 ≤ r ∧ r < 4294967296 ∧ 0 ≤ q ∧ q ≤ 4294967297 ∧ Q ≤ q ∧ Hid (q * y1 + r = u)) (fun a _ => (intOf a).toNat)
  case atStart => exact ⟨q, u - q * y1, rfl, rfl, by omega, by omega, g0, g1, gl, Lib.hid (by omega)⟩
  case round =>
    obtain ⟨q, r, rfl, rfl, r0, r1, q0, q1, qQ, hq⟩ := hrel
    by_cases c1 : 4294967296 ≤ q
    · have qQ : Q ≤ q - 1 := by omega
      by_cases c3 : 4294967296 ≤ r + y1
      · have e : q - 1 = Q := by
          have := DivM.digit_brk (q - 1) (r + y1) u d1 y1 y0 by1.1 by0.1 by0.2 (by have := hq.out; rw [Int.sub_mul]; omega) (by omega) (by omega) (by omega) c3
          rw [HE.out] at this
          omega
        clear hq qQ
        obtain rfl : q = Q + 1 := by omega
        have e2 : Q + 1 - 1 = Q := by omega
        clear e
        go_wp2
        go_loop [18, 16] (fun a b => ∃ q r : Int, a = .int .u64 q ∧ b = .int .u64 r ∧ 0 ≤ r ∧ r < 4294967296 ∧ 0 ≤ q ∧ q ≤ 4294967297 ∧ Z ≤ q ∧ Hid (q * y1 + r = R)) (fun a _ => (intOf a).toNat)
        case atStart => exact ⟨k, R - k * y1, rfl, rfl, by omega, by omega, k0, k1, kZ, Lib.hid (by omega)⟩
        case round =>
          obtain ⟨q, r, rfl, rfl, r0, r1, q0, q1, qQ, hq⟩ := hrel
          by_cases c1 : 4294967296 ≤ q
          · have qQ : Z ≤ q - 1 := by omega
            by_cases c3 : 4294967296 ≤ r + y1
            · have e : q - 1 = Z := by
                have := DivM.digit_brk (q - 1) (r + y1) R d0 y1 y0 by1.1 by0.1 by0.2 (by have := hq.out; rw [Int.sub_mul]; omega) (by omega) (by omega) (by omega) c3
                rw [HZ.out] at this
                omega
              clear hq qQ
              obtain rfl : q = Z + 1 := by omega
              have e2 : Z + 1 - 1 = Z := by omega
              clear e
              go_wp2
              go_ret2
              exact ⟨ret_uu HF.out.1.symm HF.out.2, rfl⟩
            · go_wp2
              go_round
              case rel => exact ⟨q - 1, r + y1, rfl, rfl, by omega, by omega, by omega, by omega, by omega, Lib.hid (by have := hq.out; rw [Int.sub_mul]; omega)⟩
              case measure => simp [intOf]; omega
          · have pq : 0 ≤ q * y0 ∧ q * y0 ≤ 18446744073709551615 := ⟨Int.mul_nonneg q0 by0.1, by
              have := Int.mul_le_mul (by omega : q ≤ 4294967295) (by omega : y0 ≤ 4294967295) by0.1 (by omega : (0 : Int) ≤ 4294967295)
              omega⟩
            by_cases c2 : 4294967296 * r + d0 < q * y0
            · have qQ : Z ≤ q - 1 := by
                have := DivM.digit_gt q r R d0 y1 y0 by1.1 by0.1 hq.out c2
                rw [HZ.out] at this
                omega
              by_cases c3 : 4294967296 ≤ r + y1
              · have e : q - 1 = Z := by
                  have := DivM.digit_brk (q - 1) (r + y1) R d0 y1 y0 by1.1 by0.1 by0.2 (by have := hq.out; rw [Int.sub_mul]; omega) (by omega) (by omega) (by omega) c3
                  rw [HZ.out] at this
                  omega
                clear hq qQ
                obtain rfl : q = Z + 1 := by omega
                have e2 : Z + 1 - 1 = Z := by omega
                clear e
                go_wp2
                go_ret2
                exact ⟨ret_uu HF.out.1.symm HF.out.2, rfl⟩
              · go_wp2
                go_round
                case rel => exact ⟨q - 1, r + y1, rfl, rfl, by omega, by omega, by omega, by omega, by omega, Lib.hid (by have := hq.out; rw [Int.sub_mul]; omega)⟩
                case measure => simp [intOf]; omega
            · have e : q = Z := by
                have := DivM.digit_le q r R d0 y1 y0 by1.1 by0.1 hq.out (by omega)
                rw [HZ.out] at this
                omega
              clear hq qQ
              subst e
              go_wp2
              go_ret2
              exact ⟨ret_uu HF.out.1.symm HF.out.2, rfl⟩
      · go_wp2
        go_round
        case rel => exact ⟨q - 1, r + y1, rfl, rfl, by omega, by omega, by omega, by omega, by omega, Lib.hid (by have := hq.out; rw [Int.sub_mul]; omega)⟩
        case measure => simp [intOf]; omega
    · have pq : 0 ≤ q * y0 ∧ q * y0 ≤ 18446744073709551615 := ⟨Int.mul_nonneg q0 by0.1, by
        have := Int.mul_le_mul (by omega : q ≤ 4294967295) (by omega : y0 ≤ 4294967295) by0.1 (by omega : (0 : Int) ≤ 4294967295)
        omega⟩
      by_cases c2 : 4294967296 * r + d1 < q * y0
      · have qQ : Q ≤ q - 1 := by
          have := DivM.digit_gt q r u d1 y1 y0 by1.1 by0.1 hq.out c2
          rw [HE.out] at this
          omega
        by_cases c3 : 4294967296 ≤ r + y1
        · have e : q - 1 = Q := by
            have := DivM.digit_brk (q - 1) (r + y1) u d1 y1 y0 by1.1 by0.1 by0.2 (by have := hq.out; rw [Int.sub_mul]; omega) (by omega) (by omega) (by omega) c3
            rw [HE.out] at this
            omega
          clear hq qQ
          obtain rfl : q = Q + 1 := by omega
          have e2 : Q + 1 - 1 = Q := by omega
          clear e
          go_wp2
          go_loop [18, 16] (fun a b => ∃ q r : Int, a = .int .u64 q ∧ b = .int .u64 r ∧ 0 ≤ r ∧ r < 4294967296 ∧ 0 ≤ q ∧ q ≤ 4294967297 ∧ Z ≤ q ∧ Hid (q * y1 + r = R)) (fun a _ => (intOf a).toNat)
          case atStart => exact ⟨k, R - k * y1, rfl, rfl, by omega, by omega, k0, k1, kZ, Lib.hid (by omega)⟩
          case round =>
            obtain ⟨q, r, rfl, rfl, r0, r1, q0, q1, qQ, hq⟩ := hrel
            by_cases c1 : 4294967296 ≤ q
            · have qQ : Z ≤ q - 1 := by omega
              by_cases c3 : 4294967296 ≤ r + y1
              · have e : q - 1 = Z := by
                  have := DivM.digit_brk (q - 1) (r + y1) R d0 y1 y0 by1.1 by0.1 by0.2 (by have := hq.out; rw [Int.sub_mul]; omega) (by omega) (by omega) (by omega) c3
                  rw [HZ.out] at this
                  omega
                clear hq qQ
                obtain rfl : q = Z + 1 := by omega
                have e2 : Z + 1 - 1 = Z := by omega
                clear e
                go_wp2
                go_ret2
                exact ⟨ret_uu HF.out.1.symm HF.out.2, rfl⟩
              · go_wp2
                go_round
                case rel => exact ⟨q - 1, r + y1, rfl, rfl, by omega, by omega, by omega, by omega, by omega, Lib.hid (by have := hq.out; rw [Int.sub_mul]; omega)⟩
                case measure => simp [intOf]; omega
            · have pq : 0 ≤ q * y0 ∧ q * y0 ≤ 18446744073709551615 := ⟨Int.mul_nonneg q0 by0.1, by
                have := Int.mul_le_mul (by omega : q ≤ 4294967295) (by omega : y0 ≤ 4294967295) by0.1 (by omega : (0 : Int) ≤ 4294967295)
                omega⟩
              by_cases c2 : 4294967296 * r + d0 < q * y0
              · have qQ : Z ≤ q - 1 := by
                  have := DivM.digit_gt q r R d0 y1 y0 by1.1 by0.1 hq.out c2
                  rw [HZ.out] at this
                  omega
                by_cases c3 : 4294967296 ≤ r + y1
                · have e : q - 1 = Z := by
                    have := DivM.digit_brk (q - 1) (r + y1) R d0 y1 y0 by1.1 by0.1 by0.2 (by have := hq.out; rw [Int.sub_mul]; omega) (by omega) (by omega) (by omega) c3
                    rw [HZ.out] at this
                    omega
                  clear hq qQ
                  obtain rfl : q = Z + 1 := by omega
                  have e2 : Z + 1 - 1 = Z := by omega
                  clear e
                  go_wp2
                  go_ret2
                  exact ⟨ret_uu HF.out.1.symm HF.out.2, rfl⟩
                · go_wp2
                  go_round
                  case rel => exact ⟨q - 1, r + y1, rfl, rfl, by omega, by omega, by omega, by omega, by omega, Lib.hid (by have := hq.out; rw [Int.sub_mul]; omega)⟩
                  case measure => simp [intOf]; omega
              · have e : q = Z := by
                  have := DivM.digit_le q r R d0 y1 y0 by1.1 by0.1 hq.out (by omega)
                  rw [HZ.out] at this
                  omega
                clear hq qQ
                subst e
                go_wp2
                go_ret2
                exact ⟨ret_uu HF.out.1.symm HF.out.2, rfl⟩
        · go_wp2
          go_round
          case rel => exact ⟨q - 1, r + y1, rfl, rfl, by omega, by omega, by omega, by omega, by omega, Lib.hid (by have := hq.out; rw [Int.sub_mul]; omega)⟩
          case measure => simp [intOf]; omega
      · have e : q = Q := by
          have := DivM.digit_le q r u d1 y1 y0 by1.1 by0.1 hq.out (by omega)
          rw [HE.out] at this
          omega
        clear hq qQ
        subst e
        go_wp2
        go_loop [18, 16] (fun a b => ∃ q r : Int, a = .int .u64 q ∧ b = .int .u64 r ∧ 0 ≤ r ∧ r < 4294967296 ∧ 0 ≤ q ∧ q ≤ 4294967297 ∧ Z ≤ q ∧ Hid (q * y1 + r = R)) (fun a _ => (intOf a).toNat)
        case atStart => exact ⟨k, R - k * y1, rfl, rfl, by omega, by omega, k0, k1, kZ, Lib.hid (by omega)⟩
        case round =>
          obtain ⟨q, r, rfl, rfl, r0, r1, q0, q1, qQ, hq⟩ := hrel
          by_cases c1 : 4294967296 ≤ q
          · have qQ : Z ≤ q - 1 := by omega
            by_cases c3 : 4294967296 ≤ r + y1
            · have e : q - 1 = Z := by
                have := DivM.digit_brk (q - 1) (r + y1) R d0 y1 y0 by1.1 by0.1 by0.2 (by have := hq.out; rw [Int.sub_mul]; omega) (by omega) (by omega) (by omega) c3
                rw [HZ.out] at this
                omega
              clear hq qQ
              obtain rfl : q = Z + 1 := by omega
              have e2 : Z + 1 - 1 = Z := by omega
              clear e
              go_wp2
              go_ret2
              exact ⟨ret_uu HF.out.1.symm HF.out.2, rfl⟩
            · go_wp2
              go_round
              case rel => exact ⟨q - 1, r + y1, rfl, rfl, by omega, by omega, by omega, by omega, by omega, Lib.hid (by have := hq.out; rw [Int.sub_mul]; omega)⟩
              case measure => simp [intOf]; omega
          · have pq : 0 ≤ q * y0 ∧ q * y0 ≤ 18446744073709551615 := ⟨Int.mul_nonneg q0 by0.1, by
              have := Int.mul_le_mul (by omega : q ≤ 4294967295) (by omega : y0 ≤ 4294967295) by0.1 (by omega : (0 : Int) ≤ 4294967295)
              omega⟩
            by_cases c2 : 4294967296 * r + d0 < q * y0
            · have qQ : Z ≤ q - 1 := by
                have := DivM.digit_gt q r R d0 y1 y0 by1.1 by0.1 hq.out c2
                rw [HZ.out] at this
                omega
              by_cases c3 : 4294967296 ≤ r + y1
              · have e : q - 1 = Z := by
                  have := DivM.digit_brk (q - 1) (r + y1) R d0 y1 y0 by1.1 by0.1 by0.2 (by have := hq.out; rw [Int.sub_mul]; omega) (by omega) (by omega) (by omega) c3
                  rw [HZ.out] at this
                  omega
                clear hq qQ
                obtain rfl : q = Z + 1 := by omega
                have e2 : Z + 1 - 1 = Z := by omega
                clear e
                go_wp2
                go_ret2
                exact ⟨ret_uu HF.out.1.symm HF.out.2, rfl⟩
              · go_wp2
                go_round
                case rel => exact ⟨q - 1, r + y1, rfl, rfl, by omega, by omega, by omega, by omega, by omega, Lib.hid (by have := hq.out; rw [Int.sub_mul]; omega)⟩
                case measure => simp [intOf]; omega
            · have e : q = Z := by
                have := DivM.digit_le q r R d0 y1 y0 by1.1 by0.1 hq.out (by omega)
                rw [HZ.out] at this
                omega
              clear hq qQ
              subst e
              go_wp2
              go_ret2
              exact ⟨ret_uu HF.out.1.symm HF.out.2, rfl⟩

/-- Div64, whatever the high word. -/
theorem div64_any (hi lo y : Int) (w : World) (hh0 : 0 ≤ hi) (hhy : hi < y) (hl0 : 0 ≤ lo) (hl : lo ≤ 18446744073709551615) (hy : y ≤ 18446744073709551615) :
    Calls Tryd.prog 145 #[.int .u64 hi, .int .u64 lo, .int .u64 y] w fun e w' => e = .returned (.tuple #[.int .u64 ((hi * 18446744073709551616 + lo) / y), .int .u64 ((hi * 18446744073709551616 + lo) % y)]) ∧ ∃ n, w' = w.drewN n := by
  by_cases h : hi = 0
  · subst h
    rw [Int.zero_mul, Int.zero_add]
    exact div64_zero lo y w hl0 hl hhy hy
  · exact (div64_big hi lo y w (by omega) hhy hl0 hl hy).mono fun e w' ⟨he, hw⟩ => ⟨he, 0, hw.symm⟩
end Go.Proofs.YtfejdbmamaggpaaDoor
