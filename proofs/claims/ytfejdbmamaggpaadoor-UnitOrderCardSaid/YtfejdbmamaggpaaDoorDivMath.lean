/- The arithmetic behind a division of 128 bits by 64 in two digits of 32 bits. -/
namespace Go.Proofs.YtfejdbmamaggpaaDoor.DivM
set_option linter.unusedVariables false

/-- One digit: what the loop holds at every head: q * y1 + r = u, and q is not below the digit. -/
theorem digit_lt (u u1 y1 y0 : Int) (hy : 2147483648 ≤ y1) (hy0 : 0 ≤ y0) (hu : u < y1 * 4294967296 + y0) (hu1 : u1 < 4294967296) (h0 : 0 ≤ u) (h1 : 0 ≤ u1) :
    (u * 4294967296 + u1) / (y1 * 4294967296 + y0) < 4294967296 := by
  apply Int.ediv_lt_of_lt_mul
  · omega
  · omega

/-- The condition that ends the loop: q is not above the digit. -/
theorem digit_le (q r u u1 y1 y0 : Int) (hy : 2147483648 ≤ y1) (hy0 : 0 ≤ y0) (hq : q * y1 + r = u) (h : q * y0 ≤ 4294967296 * r + u1) :
    q ≤ (u * 4294967296 + u1) / (y1 * 4294967296 + y0) := by
  apply Int.le_ediv_of_mul_le (by omega)
  have e : q * (y1 * 4294967296 + y0) = (q * y1) * 4294967296 + q * y0 := by rw [Int.mul_add, Int.mul_assoc]
  rw [e]
  have : q * y1 = u - r := by omega
  rw [this]
  omega

/-- The condition that goes on: q is above the digit. -/
theorem digit_gt (q r u u1 y1 y0 : Int) (hy : 2147483648 ≤ y1) (hy0 : 0 ≤ y0) (hq : q * y1 + r = u) (h : 4294967296 * r + u1 < q * y0) :
    (u * 4294967296 + u1) / (y1 * 4294967296 + y0) < q := by
  apply Int.ediv_lt_of_lt_mul (by omega)
  have e : q * (y1 * 4294967296 + y0) = (q * y1) * 4294967296 + q * y0 := by rw [Int.mul_add, Int.mul_assoc]
  rw [e]
  have : q * y1 = u - r := by omega
  rw [this]
  omega

/-- The first guess is at most 2^32 + 1, and not below the digit. -/
theorem guess_hi (u y1 y0 : Int) (hy : 2147483648 ≤ y1) (hy0 : y0 < 4294967296) (hu : u < y1 * 4294967296 + y0) : u / y1 ≤ 4294967297 := by
  have : u / y1 < 4294967298 := by
    apply Int.ediv_lt_of_lt_mul (by omega)
    omega
  omega

theorem guess_lo (u u1 y1 y0 : Int) (hy : 2147483648 ≤ y1) (hy0 : 0 ≤ y0) (h0 : 0 ≤ u) (h1 : 0 ≤ u1) (hu1 : u1 < 4294967296) :
    (u * 4294967296 + u1) / (y1 * 4294967296 + y0) ≤ u / y1 := by
  have a1 : (u * 4294967296 + u1) / (y1 * 4294967296 + y0) ≤ (u * 4294967296 + u1) / (y1 * 4294967296) := by
    apply Int.le_ediv_of_mul_le (by omega)
    have hq := Int.ediv_mul_le (u * 4294967296 + u1) (b := y1 * 4294967296 + y0) (by omega)
    have hp : 0 ≤ (u * 4294967296 + u1) / (y1 * 4294967296 + y0) := Int.ediv_nonneg (by omega) (by omega)
    generalize (u * 4294967296 + u1) / (y1 * 4294967296 + y0) = q at *
    have : 0 ≤ q * y0 := Int.mul_nonneg hp hy0
    rw [Int.mul_add] at hq
    omega
  have a2 : (u * 4294967296 + u1) / (y1 * 4294967296) = u / y1 := by
    rw [Int.mul_comm y1, ← Int.ediv_ediv_of_nonneg (by omega)]
    congr 1
    omega
  omega

/-- Behind the break: q, at most 2^32, is not above the digit. -/
theorem digit_brk (q r u u1 y1 y0 : Int) (hy : 2147483648 ≤ y1) (hy0 : 0 ≤ y0) (hy0' : y0 < 4294967296) (hq : q * y1 + r = u) (h1 : 0 ≤ u1) (hq0 : 0 ≤ q) (hq1 : q ≤ 4294967296) (hr : 4294967296 ≤ r) :
    q ≤ (u * 4294967296 + u1) / (y1 * 4294967296 + y0) := by
  apply digit_le q r u u1 y1 y0 hy hy0 hq
  have : q * y0 ≤ 4294967296 * 4294967296 := by
    have := Int.mul_le_mul hq1 (by omega : y0 ≤ 4294967296) hy0 (by omega : (0:Int) ≤ 4294967296)
    exact this
  omega

/-- Two digits make the quotient. -/
theorem two_digits (N y S u u1 u0 q1 r1 q0 r0 : Int) (hS : 0 < S) (hy : 0 < y) (hU : N * S = (u * 4294967296 + u1) * 4294967296 + u0)
    (h1 : u * 4294967296 + u1 = q1 * (y * S) + r1) (h0 : r1 * 4294967296 + u0 = q0 * (y * S) + r0) (hr0 : 0 ≤ r0) (hr : r0 < y * S) :
    N / y = q1 * 4294967296 + q0 ∧ r0 / S = N % y := by
  have e : N * S = ((q1 * 4294967296 + q0) * y) * S + r0 := by
    rw [hU, h1, Int.add_mul (q1 * (y * S)), Int.add_assoc, h0]
    have : q1 * (y * S) * 4294967296 = (q1 * 4294967296) * y * S := by
      rw [Int.mul_assoc, Int.mul_comm (y * S), ← Int.mul_assoc, Int.mul_assoc _ y S]
    rw [this]
    have : q0 * (y * S) = q0 * y * S := by rw [Int.mul_assoc]
    rw [this, Int.add_mul (q1 * 4294967296) q0 y, Int.add_mul]
    omega
  have e2 : r0 = (N - (q1 * 4294967296 + q0) * y) * S := by rw [Int.sub_mul]; omega
  generalize q1 * 4294967296 + q0 = Q at *
  have hd : r0 / S = N - Q * y := by rw [e2]; exact Int.mul_ediv_cancel _ (by omega)
  have hlo : 0 ≤ N - Q * y := by rw [← hd]; exact Int.ediv_nonneg hr0 (by omega)
  have hhi : N - Q * y < y := by
    rw [← hd]
    apply Int.ediv_lt_of_lt_mul hS
    exact hr
  have := (Int.ediv_emod_unique (a := N) (b := y) (r := N - Q * y) (q := Q) hy).2 ⟨by rw [Int.mul_comm]; omega, hlo, hhi⟩
  exact ⟨this.1, by rw [hd]; exact this.2.symm⟩
end Go.Proofs.YtfejdbmamaggpaaDoor.DivM
