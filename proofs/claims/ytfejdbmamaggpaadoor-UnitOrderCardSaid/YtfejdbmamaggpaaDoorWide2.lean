/- Contracts of wide.Floor, Near, Trunc and Fit, told by magnitudes. -/
import Derived.Test.YtfejdbmamaggpaaDoorWide
namespace Go.Proofs.YtfejdbmamaggpaaDoor
open Go.ChangeShapes Go.WideShapes Go.ChangeAt Go.RowKit
set_option linter.unusedVariables false

theorem quo_bd (a b c : Int) (ha : 0 ≤ mag a * mag b) (h : mag a * mag b / 18446744073709551616 < mag c) (hc : mag c ≤ 9223372036854775808) :
    0 ≤ mag a * mag b / mag c ∧ mag a * mag b / mag c ≤ 18446744073709551615 ∧ 0 ≤ mag a * mag b % mag c ∧ mag a * mag b % mag c < mag c := by
  generalize mag a * mag b = M at *
  generalize mag c = C at *
  have hC : 0 < C := by omega
  have h1 : M / C < 18446744073709551616 := by
    apply Int.ediv_lt_of_lt_mul hC
    have : M < (M / 18446744073709551616 + 1) * 18446744073709551616 := by omega
    have h2 : (M / 18446744073709551616 + 1) * 18446744073709551616 ≤ C * 18446744073709551616 := by omega
    rw [Int.mul_comm]
    omega
  exact ⟨Int.ediv_nonneg ha (by omega), by omega, Int.emod_nonneg _ (by omega), Int.emod_lt_of_pos _ hC⟩

/-- Is the step away from 0 taken? -/
def flS (a b c : Int) : Bool := xr a b c && decide (0 < mag a * mag b % mag c)
def nrS (a b c : Int) : Bool := decide (mag c - mag a * mag b % mag c < mag a * mag b % mag c) || (mag a * mag b % mag c == mag c - mag a * mag b % mag c) && !xr a b c
def wOk (a b c : Int) : Bool := decide (mag a * mag b / 18446744073709551616 < mag c)

set_option maxHeartbeats 2000000 in
theorem near_yes (a b c : Int) (w : World) (ha1 : -9223372036854775808 ≤ a) (ha2 : a ≤ 9223372036854775807) (hb1 : -9223372036854775808 ≤ b) (hb2 : b ≤ 9223372036854775807) (hc1 : -9223372036854775808 ≤ c) (hc2 : c ≤ 9223372036854775807) (h : mag a * mag b / 18446744073709551616 < mag c) :
    Calls Tryd.prog 67 #[.int .i64 a, .int .i64 b, .int .i64 c] w fun e w' => e = .returned (.tuple #[.int .i64 (awV (mag a * mag b / mag c) (xr a b c) (nrS a b c)), .bool (awB (mag a * mag b / mag c) (nrS a b c))]) ∧ Below w.heap.size w w' := by
  have bc' := mag_bd c hc1 hc2
  have bm := mag_mul a b (mag_bd a ha1 ha2) (mag_bd b hb1 hb2)
  obtain ⟨q0, q1, r0, r1⟩ := quo_bd a b c bm.1 h bc'.2
  have D := Lib.hid (fun v => divide_yes a b c v ha1 ha2 hb1 hb2 hc1 hc2 h)
  clear h bm
  have hst : nrS a b c = (decide (mag c - mag a * mag b % mag c < mag a * mag b % mag c) || (mag a * mag b % mag c == mag c - mag a * mag b % mag c) && !xr a b c) := rfl
  generalize (nrS a b c) = S at *
  have HS := Lib.hid hst
  clear hst
  generalize mag a * mag b / mag c = q at *
  generalize mag a * mag b % mag c = r at *
  generalize mag c = C at *
  generalize xr a b c = x at *
  by_cases hr : C - r < r
  · have d1 : decide (C - r < r) = true := decide_eq_true hr
    have hr2 : True := trivial
    cases x
    all_goals
      have hs := HS.out
      rw [d1] at hs
      first | rw [d2] at hs | skip
      simp at hs
      subst hs
      clear HS hr hr2
      go_enter Tryd.func67, Tryd.ntmps67
      go_wp2_with fail
      refine (D.out _).mono ?_
      rintro e w1 ⟨rfl, hb1⟩
      have hz1 := hb1.size
      go_wp2_with fail
      refine (away_any _ _ _ _ _ _ q0 q1).mono ?_
      rintro e w2 ⟨rfl, hb2⟩
      go_wp2
      go_ret2
      exact ⟨rfl, (hb1.alloc (by omega) _).trans (hb2.mono (by simp; omega))⟩
  · have d1 : decide (C - r < r) = false := decide_eq_false hr
    by_cases hr2 : r = C - r
    · have d2 : (r == C - r) = true := beq_iff_eq.2 hr2
      cases x
      all_goals
        have hs := HS.out
        rw [d1] at hs
        first | rw [d2] at hs | skip
        simp at hs
        subst hs
        clear HS hr hr2
        go_enter Tryd.func67, Tryd.ntmps67
        go_wp2_with fail
        refine (D.out _).mono ?_
        rintro e w1 ⟨rfl, hb1⟩
        have hz1 := hb1.size
        go_wp2_with fail
        refine (away_any _ _ _ _ _ _ q0 q1).mono ?_
        rintro e w2 ⟨rfl, hb2⟩
        go_wp2
        go_ret2
        exact ⟨rfl, (hb1.alloc (by omega) _).trans (hb2.mono (by simp; omega))⟩
    · have d2 : (r == C - r) = false := beq_eq_false_iff_ne.2 hr2
      cases x
      all_goals
        have hs := HS.out
        rw [d1] at hs
        first | rw [d2] at hs | skip
        simp at hs
        subst hs
        clear HS hr hr2
        go_enter Tryd.func67, Tryd.ntmps67
        go_wp2_with fail
        refine (D.out _).mono ?_
        rintro e w1 ⟨rfl, hb1⟩
        have hz1 := hb1.size
        go_wp2_with fail
        refine (away_any _ _ _ _ _ _ q0 q1).mono ?_
        rintro e w2 ⟨rfl, hb2⟩
        go_wp2
        go_ret2
        exact ⟨rfl, (hb1.alloc (by omega) _).trans (hb2.mono (by simp; omega))⟩

set_option maxHeartbeats 1000000 in
theorem near_no (a b c : Int) (w : World) (ha1 : -9223372036854775808 ≤ a) (ha2 : a ≤ 9223372036854775807) (hb1 : -9223372036854775808 ≤ b) (hb2 : b ≤ 9223372036854775807) (hc1 : -9223372036854775808 ≤ c) (hc2 : c ≤ 9223372036854775807) (h : mag c ≤ mag a * mag b / 18446744073709551616) :
    Calls Tryd.prog 67 #[.int .i64 a, .int .i64 b, .int .i64 c] w fun e w' => e = .returned (.tuple #[.int .i64 0, .bool false]) ∧ Below w.heap.size w w' := by
  have D := Lib.hid (fun v => divide_no a b c v ha1 ha2 hb1 hb2 hc1 hc2 h)
  clear h
  go_enter Tryd.func67, Tryd.ntmps67
  go_wp2_with fail
  refine (D.out _).mono ?_
  rintro e w1 ⟨rfl, hb1⟩
  have hz1 := hb1.size
  go_wp2
  go_ret2
  exact ⟨rfl, hb1.alloc (by omega) _⟩

/-- The dividend with the divisor's sign: N / |c|, rounded down, is what Floor tells. -/
def wN (a b c : Int) : Int := if c < 0 then -(a * b) else a * b

theorem wN_mag (a b c : Int) : wN a b c = if xr a b c then -(mag a * mag b) else mag a * mag b := by
  unfold wN xr mag
  by_cases h1 : a < 0 <;> by_cases h2 : b < 0 <;> by_cases h3 : c < 0 <;> simp [h1, h2, h3, Int.neg_mul, Int.mul_neg]

theorem neg_floor (M C : Int) (hC : 0 < C) : (-M) / C = if 0 < M % C then -(M / C) - 1 else -(M / C) := by
  have h1 := Int.mul_ediv_add_emod M C
  have h2 := Int.emod_nonneg M (by omega : C ≠ 0)
  have h3 := Int.emod_lt_of_pos M hC
  split
  · exact ediv_is hC (r := C - M % C) (by rw [Int.mul_sub, Int.mul_neg]; omega) (by omega) (by omega)
  · exact ediv_is hC (r := 0) (by rw [Int.mul_neg]; omega) (by omega) (by omega)

/-- What Floor tells, in plain numbers. -/
theorem floor_plain (a b c : Int) (h : mag a * mag b / 18446744073709551616 < mag c) (hM : 0 ≤ mag a * mag b) :
    awB (mag a * mag b / mag c) (flS a b c) = decide (-1099511627775 ≤ wN a b c / mag c ∧ wN a b c / mag c ≤ 1099511627775) ∧
    awV (mag a * mag b / mag c) (xr a b c) (flS a b c) = if -1099511627775 ≤ wN a b c / mag c ∧ wN a b c / mag c ≤ 1099511627775 then wN a b c / mag c else 0 := by
  have hC : 0 < mag c := by have := Int.ediv_nonneg hM (by omega : (0 : Int) ≤ 18446744073709551616); omega
  have hq : 0 ≤ mag a * mag b / mag c := Int.ediv_nonneg hM (by omega)
  rw [wN_mag]
  unfold awV awB awN flS
  cases xr a b c
  · simp
    by_cases h2 : mag a * mag b / mag c ≤ 1099511627775
    · first | (simp [h2]; done) | (simp [h2]; omega)
    · simp [h2]
  · have hn := neg_floor (mag a * mag b) (mag c) hC
    rw [if_pos rfl, hn]
    by_cases h1 : 0 < mag a * mag b % mag c
    · simp [h1]
      by_cases h2 : mag a * mag b / mag c + 1 ≤ 1099511627775
      · first | (simp [h2]; done) | (simp [h2]; omega)
      · first | (simp [h2]; done) | (simp [h2]; omega)
    · simp [h1]
      by_cases h2 : mag a * mag b / mag c ≤ 1099511627775
      · first | (simp [h2]; done) | (simp [h2]; omega)
      · first | (simp [h2]; done) | (simp [h2]; omega)
end Go.Proofs.YtfejdbmamaggpaaDoor
