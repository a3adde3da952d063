/- MgWg: DivMath Bits Div64 Num Wide Wide2 Wide3. -/
import Derived.Test.YtecpmffmmiogfaaGreatMgAg
import Derived.Laws.MathBits
import Derived.Lib.BitFns
import Derived.Lib.ItoaNum
namespace Go.Proofs.YtecpmffmmiogfaaGreat.DivM
set_option linter.unusedVariables false

/-- One digit: what the loop holds at every head: q * y1 + r = u, and q is not below the digit. -/
theorem digit_lt (u u1 y1 y0 : Int) (hy : 2147483648 ≤ y1) (hy0 : 0 ≤ y0) (hu : u < y1 * 4294967296 + y0) (hu1 : u1 < 4294967296) (h0 : 0 ≤ u) (h1 : 0 ≤ u1) :
    (u * 4294967296 + u1) / (y1 * 4294967296 + y0) < 4294967296 := by
  apply Int.ediv_lt_of_lt_mul
  · omega
  · omega

/-- The condition that ends the loop: q is not above the digit. -/
theorem digit_le (q r u u1 y1 y0 : Int) (hy : 2147483648 ≤ y1) (hy0 : 0 ≤ y0) (hq : q * y1 + r = u) (h : q * y0 ≤ 4294967296 * r + u1) :
    q ≤ (u * 4294967296 + u1) / (y1 * 4294967296 + y0) := by
  apply Int.le_ediv_of_mul_le (by omega)
  have e : q * (y1 * 4294967296 + y0) = (q * y1) * 4294967296 + q * y0 := by rw [Int.mul_add, Int.mul_assoc]
  rw [e]
  have : q * y1 = u - r := by omega
  rw [this]
  omega

/-- The condition that goes on: q is above the digit. -/
theorem digit_gt (q r u u1 y1 y0 : Int) (hy : 2147483648 ≤ y1) (hy0 : 0 ≤ y0) (hq : q * y1 + r = u) (h : 4294967296 * r + u1 < q * y0) :
    (u * 4294967296 + u1) / (y1 * 4294967296 + y0) < q := by
  apply Int.ediv_lt_of_lt_mul (by omega)
  have e : q * (y1 * 4294967296 + y0) = (q * y1) * 4294967296 + q * y0 := by rw [Int.mul_add, Int.mul_assoc]
  rw [e]
  have : q * y1 = u - r := by omega
  rw [this]
  omega

/-- The first guess is at most 2^32 + 1, and not below the digit. -/
theorem guess_hi (u y1 y0 : Int) (hy : 2147483648 ≤ y1) (hy0 : y0 < 4294967296) (hu : u < y1 * 4294967296 + y0) : u / y1 ≤ 4294967297 := by
  have : u / y1 < 4294967298 := by
    apply Int.ediv_lt_of_lt_mul (by omega)
    omega
  omega

theorem guess_lo (u u1 y1 y0 : Int) (hy : 2147483648 ≤ y1) (hy0 : 0 ≤ y0) (h0 : 0 ≤ u) (h1 : 0 ≤ u1) (hu1 : u1 < 4294967296) :
    (u * 4294967296 + u1) / (y1 * 4294967296 + y0) ≤ u / y1 := by
  have a1 : (u * 4294967296 + u1) / (y1 * 4294967296 + y0) ≤ (u * 4294967296 + u1) / (y1 * 4294967296) := by
    apply Int.le_ediv_of_mul_le (by omega)
    have hq := Int.ediv_mul_le (u * 4294967296 + u1) (b := y1 * 4294967296 + y0) (by omega)
    have hp : 0 ≤ (u * 4294967296 + u1) / (y1 * 4294967296 + y0) := Int.ediv_nonneg (by omega) (by omega)
    generalize (u * 4294967296 + u1) / (y1 * 4294967296 + y0) = q at *
    have : 0 ≤ q * y0 := Int.mul_nonneg hp hy0
    rw [Int.mul_add] at hq
    omega
  have a2 : (u * 4294967296 + u1) / (y1 * 4294967296) = u / y1 := by
    rw [Int.mul_comm y1, ← Int.ediv_ediv_of_nonneg (by omega)]
    congr 1
    omega
  omega

/-- Behind the break: q, at most 2^32, is not above the digit. -/
theorem digit_brk (q r u u1 y1 y0 : Int) (hy : 2147483648 ≤ y1) (hy0 : 0 ≤ y0) (hy0' : y0 < 4294967296) (hq : q * y1 + r = u) (h1 : 0 ≤ u1) (hq0 : 0 ≤ q) (hq1 : q ≤ 4294967296) (hr : 4294967296 ≤ r) :
    q ≤ (u * 4294967296 + u1) / (y1 * 4294967296 + y0) := by
  apply digit_le q r u u1 y1 y0 hy hy0 hq
  have : q * y0 ≤ 4294967296 * 4294967296 := by
    have := Int.mul_le_mul hq1 (by omega : y0 ≤ 4294967296) hy0 (by omega : (0:Int) ≤ 4294967296)
    exact this
  omega

/-- Two digits make the quotient. -/
theorem two_digits (N y S u u1 u0 q1 r1 q0 r0 : Int) (hS : 0 < S) (hy : 0 < y) (hU : N * S = (u * 4294967296 + u1) * 4294967296 + u0)
    (h1 : u * 4294967296 + u1 = q1 * (y * S) + r1) (h0 : r1 * 4294967296 + u0 = q0 * (y * S) + r0) (hr0 : 0 ≤ r0) (hr : r0 < y * S) :
    N / y = q1 * 4294967296 + q0 ∧ r0 / S = N % y := by
  have e : N * S = ((q1 * 4294967296 + q0) * y) * S + r0 := by
    rw [hU, h1, Int.add_mul (q1 * (y * S)), Int.add_assoc, h0]
    have : q1 * (y * S) * 4294967296 = (q1 * 4294967296) * y * S := by
      rw [Int.mul_assoc, Int.mul_comm (y * S), ← Int.mul_assoc, Int.mul_assoc _ y S]
    rw [this]
    have : q0 * (y * S) = q0 * y * S := by rw [Int.mul_assoc]
    rw [this, Int.add_mul (q1 * 4294967296) q0 y, Int.add_mul]
    omega
  have e2 : r0 = (N - (q1 * 4294967296 + q0) * y) * S := by rw [Int.sub_mul]; omega
  generalize q1 * 4294967296 + q0 = Q at *
  have hd : r0 / S = N - Q * y := by rw [e2]; exact Int.mul_ediv_cancel _ (by omega)
  have hlo : 0 ≤ N - Q * y := by rw [← hd]; exact Int.ediv_nonneg hr0 (by omega)
  have hhi : N - Q * y < y := by
    rw [← hd]
    apply Int.ediv_lt_of_lt_mul hS
    exact hr
  have := (Int.ediv_emod_unique (a := N) (b := y) (r := N - Q * y) (q := Q) hy).2 ⟨by rw [Int.mul_comm]; omega, hlo, hhi⟩
  exact ⟨this.1, by rw [hd]; exact this.2.symm⟩
end Go.Proofs.YtecpmffmmiogfaaGreat.DivM
namespace Go.Proofs.YtecpmffmmiogfaaGreat
open Go.ChangeShapes Go.WideShapes Go.ChangeAt Go.RowKit
set_option linter.unusedVariables false

theorem ret_uu {k l : IntKind} {a b c d : Int} (h : a = b) (g : c = d) : Ending.returned (.tuple #[.int k a, .int l c]) = .returned (.tuple #[.int k b, .int l d]) := by rw [h, g]

set_option maxHeartbeats 400000 in
theorem mul64_any (x y : Int) (w : World) (hx0 : 0 ≤ x) (hx : x ≤ 18446744073709551615) (hy0 : 0 ≤ y) (hy : y ≤ 18446744073709551615) :
    Calls Tryz.prog 85 #[.int .u64 x, .int .u64 y] w fun e w' => e = .returned (.tuple #[.int .u64 (x * y / 18446744073709551616), .int .u64 (x * y % 18446744073709551616)]) ∧ w = w' := by
  go_enter Tryz.func85, Tryz.ntmps85
  go_wp2
  go_ret2
  refine ⟨ret_uu ?_ ?_, rfl⟩
  · simp (disch := omega) only [IntKind.wrap_u64, and_low32]
    exact mul64_arith x y hx0 (by omega) hy0 (by omega)
  · exact IntKind.wrap_u64 _

theorem len_way (x z : Int) (k : Nat) (h0 : 0 ≤ x) (hx : x ≤ 18446744073709551615) (hz : z.toNat = x.toNat / 2 ^ k) (hz0 : 0 ≤ z) (hz1 : z ≤ 255) (hk : k = 0 ∨ 2 ^ k ≤ x.toNat) :
    (k : Int) + Lib.len8 z = Lib.bitLen x.toNat ∧ 0 ≤ Lib.len8 z ∧ Lib.len8 z ≤ 8 := by
  have e := Lib.len8_of z hz0 hz1
  have l := Lib.bitLen_le8' z hz0 hz1
  rw [e]
  refine ⟨?_, by omega, by omega⟩
  rcases hk with rfl | hk
  · simp at hz; rw [hz]; simp
  · rw [Lib.bitLen_shift k x.toNat hk (by omega), ← hz]; omega

theorem len8_get (z : Int) (h : z.toNat < Lib.len8tab.size) : ((Lib.len8tab[z.toNat]'h).toNat : Int) = Lib.len8 z := by
  unfold Lib.len8
  rw [show Lib.len8tab[z.toNat]? = some (Lib.len8tab[z.toNat]'h) from by simp [h]]
  rfl

set_option maxRecDepth 1000000 in
set_option maxHeartbeats 1000000 in
theorem len64_any (x : Int) (w : World) (hx0 : 0 ≤ x) (hx : x ≤ 18446744073709551615) :
    Calls Tryz.prog 120 #[.int .u64 x] w fun e w' => e = .returned (.int .i64 (Lib.bitLen x.toNat)) ∧ w = w' := by
  have hsz : 255 < Lib.len8tab.size := by rw [Lib.len8tab_size]; omega
  go_enter Tryz.func120, Tryz.ntmps120
  go_wp2
  all_goals
    go_ret
    refine ⟨ret_int ?_, rfl⟩
    first
      | (have h := len_way x (x / 4294967296 / 65536 / 256) 56 hx0 hx (by omega) (by omega) (by omega) (by first | exact .inl rfl | (right; omega))
         have g := len8_get (x / 4294967296 / 65536 / 256) (by omega)
         unfold wrap64
         omega)
      | (have h := len_way x (x / 4294967296 / 65536) 48 hx0 hx (by omega) (by omega) (by omega) (by first | exact .inl rfl | (right; omega))
         have g := len8_get (x / 4294967296 / 65536) (by omega)
         unfold wrap64
         omega)
      | (have h := len_way x (x / 4294967296 / 256) 40 hx0 hx (by omega) (by omega) (by omega) (by first | exact .inl rfl | (right; omega))
         have g := len8_get (x / 4294967296 / 256) (by omega)
         unfold wrap64
         omega)
      | (have h := len_way x (x / 4294967296) 32 hx0 hx (by omega) (by omega) (by omega) (by first | exact .inl rfl | (right; omega))
         have g := len8_get (x / 4294967296) (by omega)
         unfold wrap64
         omega)
      | (have h := len_way x (x / 65536 / 256) 24 hx0 hx (by omega) (by omega) (by omega) (by first | exact .inl rfl | (right; omega))
         have g := len8_get (x / 65536 / 256) (by omega)
         unfold wrap64
         omega)
      | (have h := len_way x (x / 65536) 16 hx0 hx (by omega) (by omega) (by omega) (by first | exact .inl rfl | (right; omega))
         have g := len8_get (x / 65536) (by omega)
         unfold wrap64
         omega)
      | (have h := len_way x (x / 256) 8 hx0 hx (by omega) (by omega) (by omega) (by first | exact .inl rfl | (right; omega))
         have g := len8_get (x / 256) (by omega)
         unfold wrap64
         omega)
      | (have h := len_way x (x) 0 hx0 hx (by omega) (by omega) (by omega) (by first | exact .inl rfl | (right; omega))
         have g := len8_get (x) (by omega)
         unfold wrap64
         omega)
end Go.Proofs.YtecpmffmmiogfaaGreat
namespace Go.Proofs.YtecpmffmmiogfaaGreat
open Go.ChangeShapes Go.WideShapes Go.ChangeAt Go.RowKit
set_option linter.unusedVariables false

theorem lz_norm (y : Int) (h0 : 0 < y) (h1 : y ≤ 18446744073709551615) : ∃ s : Nat, s ≤ 63 ∧ (64 : Int) - (Lib.bitLen y.toNat : Int) = s ∧ 9223372036854775808 ≤ y * 2 ^ s ∧ y * 2 ^ s ≤ 18446744073709551615 := by
  have hb := Lib.bitLenAux_bounds 64 y.toNat (by omega) (by omega)
  have hle := Lib.bitLen_le y.toNat 64 (by omega) (by omega)
  have e : Lib.bitLenAux 64 y.toNat = Lib.bitLen y.toNat := rfl
  rw [e] at hb
  generalize Lib.bitLen y.toNat = L at *
  obtain ⟨n, rfl⟩ := Int.eq_ofNat_of_zero_le (Int.le_of_lt h0)
  simp only [Int.toNat_natCast] at hb
  refine ⟨64 - L, by omega, by omega, ?_, ?_⟩
  · have h3 : ((n * 2 ^ (64 - L) : Nat) : Int) = (n : Int) * 2 ^ (64 - L) := by push_cast; rfl
    have : 9223372036854775808 ≤ n * 2 ^ (64 - L) := by
      have h := Nat.mul_le_mul_right (2 ^ (64 - L)) hb.2.1
      rw [← Nat.pow_add, show L - 1 + (64 - L) = 63 from by omega] at h
      exact Nat.le_trans (by decide) h
    rw [← h3]
    exact Int.ofNat_le.2 this
  · have : n * 2 ^ (64 - L) < 2 ^ 64 := by
      have h := Nat.mul_lt_mul_of_pos_right hb.2.2 (Nat.two_pow_pos (64 - L))
      rw [← Nat.pow_add, show L + (64 - L) = 64 from by omega] at h
      exact h
    have h2 : ((n * 2 ^ (64 - L) : Nat) : Int) < ((18446744073709551616 : Nat) : Int) := Int.ofNat_lt.2 (Nat.lt_of_lt_of_le this (by decide))
    have h3 : ((n * 2 ^ (64 - L) : Nat) : Int) = (n : Int) * 2 ^ (64 - L) := by push_cast; rfl
    rw [h3] at h2
    exact Int.le_of_lt_add_one h2

set_option maxHeartbeats 400000 in
theorem lz64_any (y : Int) (w : World) (h0 : 0 ≤ y) (h1 : y ≤ 18446744073709551615) :
    Calls Tryz.prog 109 #[.int .u64 y] w fun e w' => e = .returned (.int .i64 (64 - (Lib.bitLen y.toNat : Int))) ∧ w = w' := by
  have hl := Lib.bitLen_le y.toNat 64 (by omega) (by omega)
  go_enter Tryz.func109, Tryz.ntmps109
  go_wp2_with (go_at_call 120; refine (len64_any _ _ h0 h1).mono ?_; rintro e w1 ⟨rfl, rfl⟩)
  go_ret
  exact ⟨rfl, rfl⟩

set_option maxHeartbeats 400000 in
theorem div64_zero (lo y : Int) (w : World) (hl0 : 0 ≤ lo) (hl : lo ≤ 18446744073709551615) (hy0 : 0 < y) (hy : y ≤ 18446744073709551615) :
    Calls Tryz.prog 87 #[.int .u64 0, .int .u64 lo, .int .u64 y] w fun e w' => e = .returned (.tuple #[.int .u64 (lo / y), .int .u64 (lo % y)]) ∧ ∃ n, w' = w.drewN n := by
  have hne : ¬ y = 0 := by omega
  have hb : (y == 0) = false := by simp; omega
  go_enter Tryz.func87, Tryz.ntmps87
  go_wp2_with fail
  go_quiet (fail)
  go_wp2
  go_ret2
  exact ⟨rfl, _, rfl⟩

/-- What the shifts of the dividend come to: u * 2^64 + v, with u below the shifted divisor. -/
theorem norm_parts (hi lo y : Int) (s : Nat) (hs : s ≤ 63) (hh0 : 0 ≤ hi) (hhy : hi < y) (hl0 : 0 ≤ lo) (hl : lo ≤ 18446744073709551615) (n2 : y * 2 ^ s ≤ 18446744073709551615) :
    ∃ u v : Int, bits .or .u64 (IntKind.u64.wrap (hi * 2 ^ s)) (lo / 2 ^ (64 - s)) = u ∧ IntKind.u64.wrap (lo * 2 ^ s) = v ∧ 0 ≤ u ∧ u < y * 2 ^ s ∧ 0 ≤ v ∧ v ≤ 18446744073709551615 ∧ (hi * 18446744073709551616 + lo) * 2 ^ s = u * 18446744073709551616 + v := by
  have hST : (2 : Int) ^ s * 2 ^ (64 - s) = 18446744073709551616 := by
    rw [← Int.pow_add, show s + (64 - s) = 64 from by omega]; decide
  have hS : (0 : Int) < 2 ^ s := Int.pow_pos (by omega)
  have hT : (0 : Int) < 2 ^ (64 - s) := Int.pow_pos (by omega)
  have hq : lo / 2 ^ (64 - s) < 2 ^ s := Int.ediv_lt_of_lt_mul hT (by rw [hST]; omega)
  have hq0 : 0 ≤ lo / 2 ^ (64 - s) := Int.ediv_nonneg hl0 (Int.le_of_lt hT)
  have hd : (lo * 2 ^ s) / 18446744073709551616 = lo / 2 ^ (64 - s) := by
    rw [← hST, Int.mul_comm lo]
    exact Int.mul_ediv_mul_of_pos _ _ hS
  have hy1 : (hi + 1) * 2 ^ s ≤ y * 2 ^ s := Int.mul_le_mul_of_nonneg_right (by omega) (Int.le_of_lt hS)
  rw [Int.add_mul, Int.one_mul] at hy1
  have hh1 : 0 ≤ hi * 2 ^ s := Int.mul_nonneg hh0 (Int.le_of_lt hS)
  have hor : bits .or .u64 (hi * 2 ^ s) (lo / 2 ^ (64 - s)) = hi * 2 ^ s + lo / 2 ^ (64 - s) := by
    rw [u64_or _ _ hh1 (by omega) hq0 (by omega)]
    obtain ⟨H, rfl⟩ := Int.eq_ofNat_of_zero_le hh0
    obtain ⟨B, eB⟩ := Int.eq_ofNat_of_zero_le hq0
    rw [eB] at hq ⊢
    have e1 : (H : Int) * 2 ^ s = ((2 ^ s * H : Nat) : Int) := by push_cast; rw [Int.mul_comm]
    have hB : B < 2 ^ s := by
      have : ((B : Nat) : Int) < ((2 ^ s : Nat) : Int) := by push_cast; exact hq
      exact Int.ofNat_lt.1 this
    rw [e1, Int.toNat_natCast, Int.toNat_natCast, ← Nat.two_pow_add_eq_or_of_lt hB H]
    push_cast
    rfl
  have hw : IntKind.u64.wrap (hi * 2 ^ s) = hi * 2 ^ s := by rw [IntKind.wrap_u64]; omega
  refine ⟨hi * 2 ^ s + lo / 2 ^ (64 - s), lo * 2 ^ s % 18446744073709551616, by rw [hw]; exact hor, IntKind.wrap_u64 _, by omega, by omega, by omega, by omega, ?_⟩
  rw [← hd, Int.add_mul, Int.mul_assoc, Int.mul_comm 18446744073709551616 (2 ^ s), ← Int.mul_assoc]
  generalize hi * 2 ^ s = A
  generalize lo * 2 ^ s = B
  omega

theorem digit_pack (u d y1 y0 : Int) (hy : 2147483648 ≤ y1) (h0 : 0 ≤ y0) (h0' : y0 < 4294967296) (hu0 : 0 ≤ u) (hu : u < y1 * 4294967296 + y0) (hd0 : 0 ≤ d) (hd : d < 4294967296) (hy' : y1 < 4294967296) :
    ∃ q Q R : Int, u / y1 = q ∧ 0 ≤ q ∧ q ≤ 4294967297 ∧ 0 ≤ q * y1 ∧ q * y1 ≤ u ∧ u - q * y1 < 4294967296 ∧ 0 ≤ Q ∧ Q < 4294967296 ∧ Q ≤ q ∧ (u * 4294967296 + d) / (y1 * 4294967296 + y0) = Q ∧
      u * 4294967296 + d = Q * (y1 * 4294967296 + y0) + R ∧ 0 ≤ R ∧ R < y1 * 4294967296 + y0 := by
  have g0 : 0 ≤ u / y1 := Int.ediv_nonneg hu0 (by omega)
  have gm := Int.mul_ediv_add_emod u y1
  have gr := Int.emod_nonneg u (by omega : y1 ≠ 0)
  have gr2 := Int.emod_lt_of_pos u (by omega : 0 < y1)
  have QM := Int.mul_ediv_add_emod (u * 4294967296 + d) (y1 * 4294967296 + y0)
  rw [Int.mul_comm] at gm QM
  refine ⟨u / y1, (u * 4294967296 + d) / (y1 * 4294967296 + y0), (u * 4294967296 + d) % (y1 * 4294967296 + y0), rfl, g0, DivM.guess_hi u y1 y0 hy h0' hu, Int.mul_nonneg g0 (by omega), by omega, by omega,
    Int.ediv_nonneg (by omega) (by omega), DivM.digit_lt u d y1 y0 hy h0 hu hd hu0 hd0, DivM.guess_lo u d y1 y0 hy h0 hu0 hd0 hd, rfl, QM.symm, Int.emod_nonneg _ (by omega), Int.emod_lt_of_pos _ (by omega)⟩

theorem wrap_rest (u d Q Y R : Int) (h : u * 4294967296 + d = Q * Y + R) (h0 : 0 ≤ R) (h1 : R ≤ 18446744073709551615) :
    IntKind.u64.wrap (IntKind.u64.wrap (IntKind.u64.wrap (u * 4294967296) + d) - IntKind.u64.wrap (Q * Y)) = R := by
  simp only [IntKind.wrap_u64]
  generalize Q * Y = A at h
  omega

set_option maxHeartbeats 8000000 in
theorem div64_big (hi lo y : Int) (w : World) (hh0 : 0 < hi) (hhy : hi < y) (hl0 : 0 ≤ lo) (hl : lo ≤ 18446744073709551615) (hy : y ≤ 18446744073709551615) :
    Calls Tryz.prog 87 #[.int .u64 hi, .int .u64 lo, .int .u64 y] w fun e w' => e = .returned (.tuple #[.int .u64 ((hi * 18446744073709551616 + lo) / y), .int .u64 ((hi * 18446744073709551616 + lo) % y)]) ∧ w = w' := by
  have hne : ¬ y = 0 := by omega
  have hb : (y == 0) = false := by simp; omega
  have hb2 : (hi == 0) = false := by simp; omega
  obtain ⟨s, hs, es, n1, n2⟩ := lz_norm y (by omega) hy
  have hc : ∀ v, Calls Tryz.prog 109 #[.int .u64 y] v fun e w' => e = .returned (.int .i64 (s : Int)) ∧ v = w' := fun v => by rw [← es]; exact lz64_any y v (by omega) hy
  have HC := Lib.hid hc
  clear hc es
  obtain ⟨u, v, eu, ev, u0', uY, v0, v1, eN⟩ := norm_parts hi lo y s hs (by omega) hhy hl0 hl n2
  obtain ⟨y1, ey1⟩ : ∃ y1, y * 2 ^ s / 4294967296 = y1 := ⟨_, rfl⟩
  obtain ⟨y0, ey0⟩ : ∃ y0, y * 2 ^ s % 4294967296 = y0 := ⟨_, rfl⟩
  have ea : bits .and .u64 (y * 2 ^ s) 4294967295 = y0 := (and_low32 _ (by omega) (by omega)).trans ey0
  obtain ⟨d1, ed1⟩ : ∃ d1, v / 4294967296 = d1 := ⟨_, rfl⟩
  obtain ⟨d0, ed0⟩ : ∃ d0, v % 4294967296 = d0 := ⟨_, rfl⟩
  have eb : bits .and .u64 v 4294967295 = d0 := (and_low32 _ (by omega) (by omega)).trans ed0
  have by1 : 2147483648 ≤ y1 ∧ y1 < 4294967296 := by omega
  have by0 : 0 ≤ y0 ∧ y0 < 4294967296 := by omega
  have bd1 : 0 ≤ d1 ∧ d1 < 4294967296 := by omega
  have bd0 : 0 ≤ d0 ∧ d0 < 4294967296 := by omega
  have eY : y * 2 ^ s = y1 * 4294967296 + y0 := by omega
  have eV : v = d1 * 4294967296 + d0 := by omega
  obtain ⟨q, Q, R, eq, g0, g1, p0, p1, pr, Q0, Q1, gl, eQ, QM, R0, R1⟩ := digit_pack u d1 y1 y0 by1.1 by0.1 by0.2 u0' (by omega) bd1.1 bd1.2 by1.2
  obtain ⟨k, Z, X, ek, k0, k1, l0, l1, lr, Z0, Z1, kZ, eZ, ZM, X0, X1⟩ := digit_pack R d0 y1 y0 by1.1 by0.1 by0.2 R0 R1 bd0.1 bd0.2 by1.2
  have HE := Lib.hid eQ
  have HZ := Lib.hid eZ
  rw [← eY] at QM ZM R1 X1
  have hfin := DivM.two_digits (hi * 18446744073709551616 + lo) y (2 ^ s) u d1 d0 Q R Z X (Int.pow_pos (by omega)) (by omega) (by rw [eN, eV, Int.add_mul, Int.mul_assoc]; omega) QM ZM X0 X1
  have HF := Lib.hid hfin
  have eW := wrap_rest u d1 Q (y * 2 ^ s) R QM R0 (by omega)
  have eW2 := wrap_rest R d0 Z (y * 2 ^ s) X ZM X0 (by omega)
  have et : u.tdiv y1 = q := by rw [Int.tdiv_eq_ediv_of_nonneg u0', eq]
  have hy1n : ¬ y1 = 0 := by omega
  clear ey0 ed0 eQ eZ QM ZM hfin eN eY eV
  go_enter Tryz.func87, Tryz.ntmps87
  go_wp2_with (go_at_call 109; refine (HC.out _).mono ?_; rintro e w1 ⟨rfl, rfl⟩)
  go_loop [15, 16] (fun a b => ∃ q r : Int, a = .int .u64 q ∧ b = .int .u64 r ∧ 0 ≤ r ∧ r < 4294967296 ∧ 0 ≤ q ∧ q ≤ 4294967297 ∧ Q ≤ q ∧ Hid (q * y1 + r = u)) (fun a _ => (intOf a).toNat)
  case atStart => exact ⟨q, u - q * y1, rfl, rfl, by omega, by omega, g0, g1, gl, Lib.hid (by omega)⟩
  case round =>
    obtain ⟨q, r, rfl, rfl, r0, r1, q0, q1, qQ, hq⟩ := hrel
    by_cases c1 : 4294967296 ≤ q
    · have qQ : Q ≤ q - 1 := by omega
      by_cases c3 : 4294967296 ≤ r + y1
      · have e : q - 1 = Q := by
          have := DivM.digit_brk (q - 1) (r + y1) u d1 y1 y0 by1.1 by0.1 by0.2 (by have := hq.out; rw [Int.sub_mul]; omega) (by omega) (by omega) (by omega) c3
          rw [HE.out] at this
          omega
        clear hq qQ
        obtain rfl : q = Q + 1 := by omega
        have e2 : Q + 1 - 1 = Q := by omega
        clear e
        go_wp2
        go_loop [18, 16] (fun a b => ∃ q r : Int, a = .int .u64 q ∧ b = .int .u64 r ∧ 0 ≤ r ∧ r < 4294967296 ∧ 0 ≤ q ∧ q ≤ 4294967297 ∧ Z ≤ q ∧ Hid (q * y1 + r = R)) (fun a _ => (intOf a).toNat)
        case atStart => exact ⟨k, R - k * y1, rfl, rfl, by omega, by omega, k0, k1, kZ, Lib.hid (by omega)⟩
        case round =>
          obtain ⟨q, r, rfl, rfl, r0, r1, q0, q1, qQ, hq⟩ := hrel
          by_cases c1 : 4294967296 ≤ q
          · have qQ : Z ≤ q - 1 := by omega
            by_cases c3 : 4294967296 ≤ r + y1
            · have e : q - 1 = Z := by
                have := DivM.digit_brk (q - 1) (r + y1) R d0 y1 y0 by1.1 by0.1 by0.2 (by have := hq.out; rw [Int.sub_mul]; omega) (by omega) (by omega) (by omega) c3
                rw [HZ.out] at this
                omega
              clear hq qQ
              obtain rfl : q = Z + 1 := by omega
              have e2 : Z + 1 - 1 = Z := by omega
              clear e
              go_wp2
              go_ret2
              exact ⟨ret_uu HF.out.1.symm HF.out.2, rfl⟩
            · go_wp2
              go_round
              case rel => exact ⟨q - 1, r + y1, rfl, rfl, by omega, by omega, by omega, by omega, by omega, Lib.hid (by have := hq.out; rw [Int.sub_mul]; omega)⟩
              case measure => simp [intOf]; omega
          · have pq : 0 ≤ q * y0 ∧ q * y0 ≤ 18446744073709551615 := ⟨Int.mul_nonneg q0 by0.1, by
              have := Int.mul_le_mul (by omega : q ≤ 4294967295) (by omega : y0 ≤ 4294967295) by0.1 (by omega : (0 : Int) ≤ 4294967295)
              omega⟩
            by_cases c2 : 4294967296 * r + d0 < q * y0
            · have qQ : Z ≤ q - 1 := by
                have := DivM.digit_gt q r R d0 y1 y0 by1.1 by0.1 hq.out c2
                rw [HZ.out] at this
                omega
              by_cases c3 : 4294967296 ≤ r + y1
              · have e : q - 1 = Z := by
                  have := DivM.digit_brk (q - 1) (r + y1) R d0 y1 y0 by1.1 by0.1 by0.2 (by have := hq.out; rw [Int.sub_mul]; omega) (by omega) (by omega) (by omega) c3
                  rw [HZ.out] at this
                  omega
                clear hq qQ
                obtain rfl : q = Z + 1 := by omega
                have e2 : Z + 1 - 1 = Z := by omega
                clear e
                go_wp2
                go_ret2
                exact ⟨ret_uu HF.out.1.symm HF.out.2, rfl⟩
              · go_wp2
                go_round
                case rel => exact ⟨q - 1, r + y1, rfl, rfl, by omega, by omega, by omega, by omega, by omega, Lib.hid (by have := hq.out; rw [Int.sub_mul]; omega)⟩
                case measure => simp [intOf]; omega
            · have e : q = Z := by
                have := DivM.digit_le q r R d0 y1 y0 by1.1 by0.1 hq.out (by omega)
                rw [HZ.out] at this
                omega
              clear hq qQ
              subst e
              go_wp2
              go_ret2
              exact ⟨ret_uu HF.out.1.symm HF.out.2, rfl⟩
      · go_wp2
        go_round
        case rel => exact ⟨q - 1, r + y1, rfl, rfl, by omega, by omega, by omega, by omega, by omega, Lib.hid (by have := hq.out; rw [Int.sub_mul]; omega)⟩
        case measure => simp [intOf]; omega
    · have pq : 0 ≤ q * y0 ∧ q * y0 ≤ 18446744073709551615 := ⟨Int.mul_nonneg q0 by0.1, by
        have := Int.mul_le_mul (by omega : q ≤ 4294967295) (by omega : y0 ≤ 4294967295) by0.1 (by omega : (0 : Int) ≤ 4294967295)
        omega⟩
      by_cases c2 : 4294967296 * r + d1 < q * y0
      · have qQ : Q ≤ q - 1 := by
          have := DivM.digit_gt q r u d1 y1 y0 by1.1 by0.1 hq.out c2
          rw [HE.out] at this
          omega
        by_cases c3 : 4294967296 ≤ r + y1
        · have e : q - 1 = Q := by
            have := DivM.digit_brk (q - 1) (r + y1) u d1 y1 y0 by1.1 by0.1 by0.2 (by have := hq.out; rw [Int.sub_mul]; omega) (by omega) (by omega) (by omega) c3
            rw [HE.out] at this
            omega
          clear hq qQ
          obtain rfl : q = Q + 1 := by omega
          have e2 : Q + 1 - 1 = Q := by omega
          clear e
          go_wp2
          go_loop [18, 16] (fun a b => ∃ q r : Int, a = .int .u64 q ∧ b = .int .u64 r ∧ 0 ≤ r ∧ r < 4294967296 ∧ 0 ≤ q ∧ q ≤ 4294967297 ∧ Z ≤ q ∧ Hid (q * y1 + r = R)) (fun a _ => (intOf a).toNat)
          case atStart => exact ⟨k, R - k * y1, rfl, rfl, by omega, by omega, k0, k1, kZ, Lib.hid (by omega)⟩
          case round =>
            obtain ⟨q, r, rfl, rfl, r0, r1, q0, q1, qQ, hq⟩ := hrel
            by_cases c1 : 4294967296 ≤ q
            · have qQ : Z ≤ q - 1 := by omega
              by_cases c3 : 4294967296 ≤ r + y1
              · have e : q - 1 = Z := by
                  have := DivM.digit_brk (q - 1) (r + y1) R d0 y1 y0 by1.1 by0.1 by0.2 (by have := hq.out; rw [Int.sub_mul]; omega) (by omega) (by omega) (by omega) c3
                  rw [HZ.out] at this
                  omega
                clear hq qQ
                obtain rfl : q = Z + 1 := by omega
                have e2 : Z + 1 - 1 = Z := by omega
                clear e
                go_wp2
                go_ret2
                exact ⟨ret_uu HF.out.1.symm HF.out.2, rfl⟩
              · go_wp2
                go_round
                case rel => exact ⟨q - 1, r + y1, rfl, rfl, by omega, by omega, by omega, by omega, by omega, Lib.hid (by have := hq.out; rw [Int.sub_mul]; omega)⟩
                case measure => simp [intOf]; omega
            · have pq : 0 ≤ q * y0 ∧ q * y0 ≤ 18446744073709551615 := ⟨Int.mul_nonneg q0 by0.1, by
                have := Int.mul_le_mul (by omega : q ≤ 4294967295) (by omega : y0 ≤ 4294967295) by0.1 (by omega : (0 : Int) ≤ 4294967295)
                omega⟩
              by_cases c2 : 4294967296 * r + d0 < q * y0
              · have qQ : Z ≤ q - 1 := by
                  have := DivM.digit_gt q r R d0 y1 y0 by1.1 by0.1 hq.out c2
                  rw [HZ.out] at this
                  omega
                by_cases c3 : 4294967296 ≤ r + y1
                · have e : q - 1 = Z := by
                    have := DivM.digit_brk (q - 1) (r + y1) R d0 y1 y0 by1.1 by0.1 by0.2 (by have := hq.out; rw [Int.sub_mul]; omega) (by omega) (by omega) (by omega) c3
                    rw [HZ.out] at this
                    omega
                  clear hq qQ
                  obtain rfl : q = Z + 1 := by omega
                  have e2 : Z + 1 - 1 = Z := by omega
                  clear e
                  go_wp2
                  go_ret2
                  exact ⟨ret_uu HF.out.1.symm HF.out.2, rfl⟩
                · go_wp2
                  go_round
                  case rel => exact ⟨q - 1, r + y1, rfl, rfl, by omega, by omega, by omega, by omega, by omega, Lib.hid (by have := hq.out; rw [Int.sub_mul]; omega)⟩
                  case measure => simp [intOf]; omega
              · have e : q = Z := by
                  have := DivM.digit_le q r R d0 y1 y0 by1.1 by0.1 hq.out (by omega)
                  rw [HZ.out] at this
                  omega
                clear hq qQ
                subst e
                go_wp2
                go_ret2
                exact ⟨ret_uu HF.out.1.symm HF.out.2, rfl⟩
        · go_wp2
          go_round
          case rel => exact ⟨q - 1, r + y1, rfl, rfl, by omega, by omega, by omega, by omega, by omega, Lib.hid (by have := hq.out; rw [Int.sub_mul]; omega)⟩
          case measure => simp [intOf]; omega
      · have e : q = Q := by
          have := DivM.digit_le q r u d1 y1 y0 by1.1 by0.1 hq.out (by omega)
          rw [HE.out] at this
          omega
        clear hq qQ
        subst e
        go_wp2
        go_loop [18, 16] (fun a b => ∃ q r : Int, a = .int .u64 q ∧ b = .int .u64 r ∧ 0 ≤ r ∧ r < 4294967296 ∧ 0 ≤ q ∧ q ≤ 4294967297 ∧ Z ≤ q ∧ Hid (q * y1 + r = R)) (fun a _ => (intOf a).toNat)
        case atStart => exact ⟨k, R - k * y1, rfl, rfl, by omega, by omega, k0, k1, kZ, Lib.hid (by omega)⟩
        case round =>
          obtain ⟨q, r, rfl, rfl, r0, r1, q0, q1, qQ, hq⟩ := hrel
          by_cases c1 : 4294967296 ≤ q
          · have qQ : Z ≤ q - 1 := by omega
            by_cases c3 : 4294967296 ≤ r + y1
            · have e : q - 1 = Z := by
                have := DivM.digit_brk (q - 1) (r + y1) R d0 y1 y0 by1.1 by0.1 by0.2 (by have := hq.out; rw [Int.sub_mul]; omega) (by omega) (by omega) (by omega) c3
                rw [HZ.out] at this
                omega
              clear hq qQ
              obtain rfl : q = Z + 1 := by omega
              have e2 : Z + 1 - 1 = Z := by omega
              clear e
              go_wp2
              go_ret2
              exact ⟨ret_uu HF.out.1.symm HF.out.2, rfl⟩
            · go_wp2
              go_round
              case rel => exact ⟨q - 1, r + y1, rfl, rfl, by omega, by omega, by omega, by omega, by omega, Lib.hid (by have := hq.out; rw [Int.sub_mul]; omega)⟩
              case measure => simp [intOf]; omega
          · have pq : 0 ≤ q * y0 ∧ q * y0 ≤ 18446744073709551615 := ⟨Int.mul_nonneg q0 by0.1, by
              have := Int.mul_le_mul (by omega : q ≤ 4294967295) (by omega : y0 ≤ 4294967295) by0.1 (by omega : (0 : Int) ≤ 4294967295)
              omega⟩
            by_cases c2 : 4294967296 * r + d0 < q * y0
            · have qQ : Z ≤ q - 1 := by
                have := DivM.digit_gt q r R d0 y1 y0 by1.1 by0.1 hq.out c2
                rw [HZ.out] at this
                omega
              by_cases c3 : 4294967296 ≤ r + y1
              · have e : q - 1 = Z := by
                  have := DivM.digit_brk (q - 1) (r + y1) R d0 y1 y0 by1.1 by0.1 by0.2 (by have := hq.out; rw [Int.sub_mul]; omega) (by omega) (by omega) (by omega) c3
                  rw [HZ.out] at this
                  omega
                clear hq qQ
                obtain rfl : q = Z + 1 := by omega
                have e2 : Z + 1 - 1 = Z := by omega
                clear e
                go_wp2
                go_ret2
                exact ⟨ret_uu HF.out.1.symm HF.out.2, rfl⟩
              · go_wp2
                go_round
                case rel => exact ⟨q - 1, r + y1, rfl, rfl, by omega, by omega, by omega, by omega, by omega, Lib.hid (by have := hq.out; rw [Int.sub_mul]; omega)⟩
                case measure => simp [intOf]; omega
            · have e : q = Z := by
                have := DivM.digit_le q r R d0 y1 y0 by1.1 by0.1 hq.out (by omega)
                rw [HZ.out] at this
                omega
              clear hq qQ
              subst e
              go_wp2
              go_ret2
              exact ⟨ret_uu HF.out.1.symm HF.out.2, rfl⟩

/-- Div64, whatever the high word. -/
theorem div64_any (hi lo y : Int) (w : World) (hh0 : 0 ≤ hi) (hhy : hi < y) (hl0 : 0 ≤ lo) (hl : lo ≤ 18446744073709551615) (hy : y ≤ 18446744073709551615) :
    Calls Tryz.prog 87 #[.int .u64 hi, .int .u64 lo, .int .u64 y] w fun e w' => e = .returned (.tuple #[.int .u64 ((hi * 18446744073709551616 + lo) / y), .int .u64 ((hi * 18446744073709551616 + lo) % y)]) ∧ ∃ n, w' = w.drewN n := by
  by_cases h : hi = 0
  · subst h
    rw [Int.zero_mul, Int.zero_add]
    exact div64_zero lo y w hl0 hl hhy hy
  · exact (div64_big hi lo y w (by omega) hhy hl0 hl hy).mono fun e w' ⟨he, hw⟩ => ⟨he, 0, hw.symm⟩
end Go.Proofs.YtecpmffmmiogfaaGreat
namespace Go.Proofs.YtecpmffmmiogfaaGreat
open Go.ChangeShapes Go.WideShapes Go.ChangeAt Go.RowKit
set_option linter.unusedVariables false

theorem tdiv_le (a b B : Int) (h1 : -B ≤ a) (h2 : a ≤ B) : -B ≤ a.tdiv b ∧ a.tdiv b ≤ B := by
  have h := Int.natAbs_tdiv_le_natAbs a b
  omega

theorem tdm (a b : Int) : b * a.tdiv b + a.tmod b = a := Int.mul_tdiv_add_tmod a b

theorem tmod_bd (a b : Int) (hb : 0 < b) : -b < a.tmod b ∧ a.tmod b < b ∧ (0 ≤ a → 0 ≤ a.tmod b) ∧ (a ≤ 0 → a.tmod b ≤ 0) := by
  rcases Int.le_total 0 a with h | h
  · have e : a.tmod b = a % b := Int.tmod_eq_emod_of_nonneg h
    have h1 := Int.emod_nonneg a (by omega : b ≠ 0)
    have h2 := Int.emod_lt_of_pos a hb
    rw [e]
    refine ⟨by omega, h2, fun _ => h1, fun h0 => ?_⟩
    have : a = 0 := by omega
    subst this; simp
  · obtain ⟨n, rfl⟩ : ∃ n, a = -n := ⟨-a, by omega⟩
    have e : (-n).tmod b = -(n % b) := by rw [Int.neg_tmod, Int.tmod_eq_emod_of_nonneg (by omega)]
    have h1 := Int.emod_nonneg n (by omega : b ≠ 0)
    have h2 := Int.emod_lt_of_pos n hb
    rw [e]
    refine ⟨by omega, by omega, fun h0 => ?_, fun _ => by omega⟩
    have : n = 0 := by omega
    subst this; simp

/-- The quotient of the one pair with a remainder in the bounds. -/
theorem ediv_is {a b q r : Int} (hb : 0 < b) (h : b * q + r = a) (h1 : 0 ≤ r) (h2 : r < b) : a / b = q := by
  have := (Int.ediv_emod_unique (a := a) (b := b) (r := r) (q := q) hb).2 ⟨by rw [← h]; omega, h1, h2⟩
  exact this.1

theorem floor_td (a b : Int) (hb : 0 < b) : a / b = if a.tmod b < 0 then a.tdiv b - 1 else a.tdiv b := by
  have h := tdm a b
  have hm := tmod_bd a b hb
  split
  · exact ediv_is hb (r := a.tmod b + b) (by rw [Int.mul_sub, Int.mul_one]; omega) (by omega) (by omega)
  · exact ediv_is hb (r := a.tmod b) h (by omega) (by omega)

set_option maxHeartbeats 400000 in
theorem floor01_any (a b : Int) (w : World) (hb : 0 < b) (h1 : -4611686018427387904 ≤ a) (h2 : a ≤ 4611686018427387904) :
    Calls Tryz.prog 47 #[.int .i64 a, .int .i64 b] w fun e w' => e = .returned (.int .i64 (a / b)) ∧ w = w' := by
  have hq := tdiv_le a b _ h1 h2
  have HF := Lib.hid (floor_td a b hb)
  have hne : ¬ b = 0 := by omega
  have hm1 : ¬ b = -1 := by omega
  generalize a / b = q at HF ⊢
  go_enter Tryz.func47, Tryz.ntmps47
  go_wp2
  all_goals
    go_ret
    refine ⟨ret_int ?_, rfl⟩
    have := HF.out
    omega
end Go.Proofs.YtecpmffmmiogfaaGreat
namespace Go.Proofs.YtecpmffmmiogfaaGreat
open Go.ChangeShapes Go.WideShapes Go.ChangeAt Go.RowKit
set_option linter.unusedVariables false

def mag (n : Int) : Int := if n < 0 then -n else n
def xr (a b c : Int) : Bool := (decide (a < 0) != decide (b < 0)) != decide (c < 0)

set_option maxHeartbeats 400000 in
theorem magnitude_any (n : Int) (w : World) (h1 : -9223372036854775808 ≤ n) (h2 : n ≤ 9223372036854775807) :
    Calls Tryz.prog 86 #[.int .i64 n] w fun e w' => e = .returned (.int .u64 (mag n)) ∧ w = w' := by
  go_enter Tryz.func86, Tryz.ntmps86
  go_wp2
  all_goals
    go_ret
    refine ⟨ret_int ?_, rfl⟩
    unfold mag
    first | omega | (simp only [IntKind.wrap_u64]; omega)

set_option maxHeartbeats 400000 in
theorem negative_any (a b c : Int) (w : World) :
    Calls Tryz.prog 88 #[.int .i64 a, .int .i64 b, .int .i64 c] w fun e w' => e = .returned (.bool (xr a b c)) ∧ w = w' := by
  go_enter Tryz.func88, Tryz.ntmps88
  go_wp2
  go_ret
  exact ⟨rfl, rfl⟩

theorem mag_bd (n : Int) (h1 : -9223372036854775808 ≤ n) (h2 : n ≤ 9223372036854775807) : 0 ≤ mag n ∧ mag n ≤ 9223372036854775808 := by unfold mag; omega
theorem mag_mul (a b : Int) (ha : 0 ≤ mag a ∧ mag a ≤ 9223372036854775808) (hb : 0 ≤ mag b ∧ mag b ≤ 9223372036854775808) : 0 ≤ mag a * mag b ∧ mag a * mag b ≤ 85070591730234615865843651857942052864 :=
  ⟨Int.mul_nonneg ha.1 hb.1, by have := Int.mul_le_mul ha.2 hb.2 hb.1 (by omega : (0 : Int) ≤ 9223372036854775808); omega⟩

/-- What divide hands back: whole, rest, by, negative; and whether. -/
def dvB (a b c : Int) : Bool := decide (mag a * mag b / 18446744073709551616 < mag c)

set_option maxHeartbeats 1000000 in
theorem divide_yes (a b c : Int) (w : World) (ha1 : -9223372036854775808 ≤ a) (ha2 : a ≤ 9223372036854775807) (hb1 : -9223372036854775808 ≤ b) (hb2 : b ≤ 9223372036854775807) (hc1 : -9223372036854775808 ≤ c) (hc2 : c ≤ 9223372036854775807)
    (h : mag a * mag b / 18446744073709551616 < mag c) :
    Calls Tryz.prog 62 #[.int .i64 a, .int .i64 b, .int .i64 c] w fun e w' =>
      e = .returned (.tuple #[.agg #[.int .u64 (mag a * mag b / mag c), .int .u64 (mag a * mag b % mag c), .int .u64 (mag c), .bool (xr a b c)], .bool true]) ∧ Below w.heap.size w w' := by
  have ba := mag_bd a ha1 ha2
  have bb := mag_bd b hb1 hb2
  have bc' := mag_bd c hc1 hc2
  have bm := mag_mul a b ba bb
  have M1 := Lib.hid (fun v => magnitude_any a v ha1 ha2)
  have M2 := Lib.hid (fun v => magnitude_any b v hb1 hb2)
  have M3 := Lib.hid (fun v => magnitude_any c v hc1 hc2)
  have MU := Lib.hid (fun v => mul64_any (mag a) (mag b) v ba.1 (by omega) bb.1 (by omega))
  have hN : mag a * mag b / 18446744073709551616 * 18446744073709551616 + mag a * mag b % 18446744073709551616 = mag a * mag b := by omega
  have DV := Lib.hid (fun v => div64_any (mag a * mag b / 18446744073709551616) (mag a * mag b % 18446744073709551616) (mag c) v (by omega) h (by omega) (by omega) (by omega))
  rw [hN] at DV
  have NG := Lib.hid (fun v => negative_any a b c v)
  clear hN
  generalize mag a * mag b / 18446744073709551616 = H at *
  generalize mag a * mag b % 18446744073709551616 = L at *
  generalize mag a * mag b / mag c = q at *
  generalize mag a * mag b % mag c = r at *
  generalize mag a = A at *
  generalize mag b = B at *
  generalize mag c = C at *
  generalize xr a b c = x at *
  go_enter Tryz.func62, Tryz.ntmps62
  go_wp2_with (first | (go_at_call 86; (with_reducible refine (M1.out _).mono ?_); rintro e w1 ⟨rfl, rfl⟩) | (go_at_call 86; (with_reducible refine (M2.out _).mono ?_); rintro e w1 ⟨rfl, rfl⟩) | (go_at_call 86; (with_reducible refine (M3.out _).mono ?_); rintro e w1 ⟨rfl, rfl⟩) | (go_at_call 85; (with_reducible refine (MU.out _).mono ?_); rintro e w1 ⟨rfl, rfl⟩) | (go_at_call 88; (with_reducible refine (NG.out _).mono ?_); rintro e w1 ⟨rfl, rfl⟩) | (go_at_call 87; (with_reducible refine (DV.out _).mono ?_); rintro e w1 ⟨rfl, n, rfl⟩))
  exact bodyPost_ret (v := .tuple #[.agg #[.int .u64 q, .int .u64 r, .int .u64 C, .bool x], .bool true]) (by simp [results, Tryz.results62, go_sem]) rfl ⟨rfl, (by repeat (first | exact Below.refl _ _ | assumption | apply Below.drew | apply below_drewN | (refine Below.alloc ?_ (by first | exact Nat.le_refl _ | omega | (simp <;> omega)) _) | (refine Below.setCell ?_ (by first | exact Nat.le_refl _ | omega | (simp <;> omega)) _)))⟩

set_option maxHeartbeats 1000000 in
theorem divide_no (a b c : Int) (w : World) (ha1 : -9223372036854775808 ≤ a) (ha2 : a ≤ 9223372036854775807) (hb1 : -9223372036854775808 ≤ b) (hb2 : b ≤ 9223372036854775807) (hc1 : -9223372036854775808 ≤ c) (hc2 : c ≤ 9223372036854775807)
    (h : mag c ≤ mag a * mag b / 18446744073709551616) :
    Calls Tryz.prog 62 #[.int .i64 a, .int .i64 b, .int .i64 c] w fun e w' =>
      e = .returned (.tuple #[.agg #[.int .u64 0, .int .u64 0, .int .u64 0, .bool false], .bool false]) ∧ Below w.heap.size w w' := by
  have ba := mag_bd a ha1 ha2
  have bb := mag_bd b hb1 hb2
  have bm := mag_mul a b ba bb
  have M1 := Lib.hid (fun v => magnitude_any a v ha1 ha2)
  have M2 := Lib.hid (fun v => magnitude_any b v hb1 hb2)
  have M3 := Lib.hid (fun v => magnitude_any c v hc1 hc2)
  have MU := Lib.hid (fun v => mul64_any (mag a) (mag b) v ba.1 (by omega) bb.1 (by omega))
  generalize mag a * mag b / 18446744073709551616 = H at *
  generalize mag a * mag b % 18446744073709551616 = L at *
  generalize mag a = A at *
  generalize mag b = B at *
  generalize mag c = C at *
  go_enter Tryz.func62, Tryz.ntmps62
  go_wp2_with (first | (go_at_call 86; (with_reducible refine (M1.out _).mono ?_); rintro e w1 ⟨rfl, rfl⟩) | (go_at_call 86; (with_reducible refine (M2.out _).mono ?_); rintro e w1 ⟨rfl, rfl⟩) | (go_at_call 86; (with_reducible refine (M3.out _).mono ?_); rintro e w1 ⟨rfl, rfl⟩) | (go_at_call 85; (with_reducible refine (MU.out _).mono ?_); rintro e w1 ⟨rfl, rfl⟩))
  exact bodyPost_ret (v := .tuple #[.agg #[.int .u64 0, .int .u64 0, .int .u64 0, .bool false], .bool false]) (by simp [results, Tryz.results62, go_sem]) rfl ⟨rfl, (by repeat (first | exact Below.refl _ _ | assumption | apply Below.drew | apply below_drewN | (refine Below.alloc ?_ (by first | exact Nat.le_refl _ | omega | (simp <;> omega)) _) | (refine Below.setCell ?_ (by first | exact Nat.le_refl _ | omega | (simp <;> omega)) _)))⟩

/-- The number one farther from 0, with its sign, if it is within the bounds. -/
def awN (W : Int) (st : Bool) : Int := if st then W + 1 else W
def awB (W : Int) (st : Bool) : Bool := decide (awN W st ≤ 1099511627775)
def awV (W : Int) (ng st : Bool) : Int := if awB W st then (if ng then -awN W st else awN W st) else 0

set_option maxHeartbeats 1000000 in
theorem away_any (W r y : Int) (ng st : Bool) (w : World) (h0 : 0 ≤ W) (h1 : W ≤ 18446744073709551615) :
    Calls Tryz.prog 63 #[.agg #[.int .u64 W, .int .u64 r, .int .u64 y, .bool ng], .bool st] w fun e w' => e = .returned (.tuple #[.int .i64 (awV W ng st), .bool (awB W st)]) ∧ Below w.heap.size w w' := by
  cases ng <;> cases st
  all_goals
    go_enter Tryz.func63, Tryz.ntmps63
    go_wp2
    all_goals
      go_ret2
      refine ⟨ret_ib ?_ ?_, (by repeat (first | exact Below.refl _ _ | assumption | apply Below.drew | apply below_drewN | (refine Below.alloc ?_ (by first | exact Nat.le_refl _ | omega | (simp <;> omega)) _) | (refine Below.setCell ?_ (by first | exact Nat.le_refl _ | omega | (simp <;> omega)) _)))⟩
      · unfold awV awB awN
        simp
        first | omega | (split <;> omega)
      · unfold awB awN
        simp
        first | omega | (split <;> omega)
end Go.Proofs.YtecpmffmmiogfaaGreat
namespace Go.Proofs.YtecpmffmmiogfaaGreat
open Go.ChangeShapes Go.WideShapes Go.ChangeAt Go.RowKit
set_option linter.unusedVariables false

theorem quo_bd (a b c : Int) (ha : 0 ≤ mag a * mag b) (h : mag a * mag b / 18446744073709551616 < mag c) (hc : mag c ≤ 9223372036854775808) :
    0 ≤ mag a * mag b / mag c ∧ mag a * mag b / mag c ≤ 18446744073709551615 ∧ 0 ≤ mag a * mag b % mag c ∧ mag a * mag b % mag c < mag c := by
  generalize mag a * mag b = M at *
  generalize mag c = C at *
  have hC : 0 < C := by omega
  have h1 : M / C < 18446744073709551616 := by
    apply Int.ediv_lt_of_lt_mul hC
    have : M < (M / 18446744073709551616 + 1) * 18446744073709551616 := by omega
    have h2 : (M / 18446744073709551616 + 1) * 18446744073709551616 ≤ C * 18446744073709551616 := by omega
    rw [Int.mul_comm]
    omega
  exact ⟨Int.ediv_nonneg ha (by omega), by omega, Int.emod_nonneg _ (by omega), Int.emod_lt_of_pos _ hC⟩

/-- Is the step away from 0 taken? -/
def flS (a b c : Int) : Bool := xr a b c && decide (0 < mag a * mag b % mag c)
def nrS (a b c : Int) : Bool := decide (mag c - mag a * mag b % mag c < mag a * mag b % mag c) || (mag a * mag b % mag c == mag c - mag a * mag b % mag c) && !xr a b c
def wOk (a b c : Int) : Bool := decide (mag a * mag b / 18446744073709551616 < mag c)

set_option maxHeartbeats 2000000 in
theorem floor_yes (a b c : Int) (w : World) (ha1 : -9223372036854775808 ≤ a) (ha2 : a ≤ 9223372036854775807) (hb1 : -9223372036854775808 ≤ b) (hb2 : b ≤ 9223372036854775807) (hc1 : -9223372036854775808 ≤ c) (hc2 : c ≤ 9223372036854775807) (h : mag a * mag b / 18446744073709551616 < mag c) :
    Calls Tryz.prog 33 #[.int .i64 a, .int .i64 b, .int .i64 c] w fun e w' => e = .returned (.tuple #[.int .i64 (awV (mag a * mag b / mag c) (xr a b c) (flS a b c)), .bool (awB (mag a * mag b / mag c) (flS a b c))]) ∧ Below w.heap.size w w' := by
  have bc' := mag_bd c hc1 hc2
  have bm := mag_mul a b (mag_bd a ha1 ha2) (mag_bd b hb1 hb2)
  obtain ⟨q0, q1, r0, r1⟩ := quo_bd a b c bm.1 h bc'.2
  have D := Lib.hid (fun v => divide_yes a b c v ha1 ha2 hb1 hb2 hc1 hc2 h)
  clear h bm
  have hst : flS a b c = (xr a b c && decide (0 < mag a * mag b % mag c)) := rfl
  generalize (flS a b c) = S at *
  have HS := Lib.hid hst
  clear hst
  generalize mag a * mag b / mag c = q at *
  generalize mag a * mag b % mag c = r at *
  generalize mag c = C at *
  generalize xr a b c = x at *
  cases x
  all_goals
    have hs := HS.out
    simp only [Bool.true_and, Bool.false_and] at hs
    subst hs
    clear HS
    go_enter Tryz.func33, Tryz.ntmps33
    go_wp2_with fail
    refine (D.out _).mono ?_
    rintro e w1 ⟨rfl, hb1⟩
    have hz1 := hb1.size
    go_wp2_with fail
    refine (away_any _ _ _ _ _ _ q0 q1).mono ?_
    rintro e w2 ⟨rfl, hb2⟩
    go_wp2
    go_ret2
    exact ⟨rfl, (hb1.alloc (by omega) _).trans (hb2.mono (by simp; omega))⟩

set_option maxHeartbeats 1000000 in
theorem floor_no (a b c : Int) (w : World) (ha1 : -9223372036854775808 ≤ a) (ha2 : a ≤ 9223372036854775807) (hb1 : -9223372036854775808 ≤ b) (hb2 : b ≤ 9223372036854775807) (hc1 : -9223372036854775808 ≤ c) (hc2 : c ≤ 9223372036854775807) (h : mag c ≤ mag a * mag b / 18446744073709551616) :
    Calls Tryz.prog 33 #[.int .i64 a, .int .i64 b, .int .i64 c] w fun e w' => e = .returned (.tuple #[.int .i64 0, .bool false]) ∧ Below w.heap.size w w' := by
  have D := Lib.hid (fun v => divide_no a b c v ha1 ha2 hb1 hb2 hc1 hc2 h)
  clear h
  go_enter Tryz.func33, Tryz.ntmps33
  go_wp2_with fail
  refine (D.out _).mono ?_
  rintro e w1 ⟨rfl, hb1⟩
  have hz1 := hb1.size
  go_wp2
  go_ret2
  exact ⟨rfl, hb1.alloc (by omega) _⟩

/-- The dividend with the divisor's sign: N / |c|, rounded down, is what Floor tells. -/
def wN (a b c : Int) : Int := if c < 0 then -(a * b) else a * b

theorem wN_mag (a b c : Int) : wN a b c = if xr a b c then -(mag a * mag b) else mag a * mag b := by
  unfold wN xr mag
  by_cases h1 : a < 0 <;> by_cases h2 : b < 0 <;> by_cases h3 : c < 0 <;> simp [h1, h2, h3, Int.neg_mul, Int.mul_neg]

theorem neg_floor (M C : Int) (hC : 0 < C) : (-M) / C = if 0 < M % C then -(M / C) - 1 else -(M / C) := by
  have h1 := Int.mul_ediv_add_emod M C
  have h2 := Int.emod_nonneg M (by omega : C ≠ 0)
  have h3 := Int.emod_lt_of_pos M hC
  split
  · exact ediv_is hC (r := C - M % C) (by rw [Int.mul_sub, Int.mul_neg]; omega) (by omega) (by omega)
  · exact ediv_is hC (r := 0) (by rw [Int.mul_neg]; omega) (by omega) (by omega)

/-- What Floor tells, in plain numbers. -/
theorem floor_plain (a b c : Int) (h : mag a * mag b / 18446744073709551616 < mag c) (hM : 0 ≤ mag a * mag b) :
    awB (mag a * mag b / mag c) (flS a b c) = decide (-1099511627775 ≤ wN a b c / mag c ∧ wN a b c / mag c ≤ 1099511627775) ∧
    awV (mag a * mag b / mag c) (xr a b c) (flS a b c) = if -1099511627775 ≤ wN a b c / mag c ∧ wN a b c / mag c ≤ 1099511627775 then wN a b c / mag c else 0 := by
  have hC : 0 < mag c := by have := Int.ediv_nonneg hM (by omega : (0 : Int) ≤ 18446744073709551616); omega
  have hq : 0 ≤ mag a * mag b / mag c := Int.ediv_nonneg hM (by omega)
  rw [wN_mag]
  unfold awV awB awN flS
  cases xr a b c
  · simp
    by_cases h2 : mag a * mag b / mag c ≤ 1099511627775
    · first | (simp [h2]; done) | (simp [h2]; omega)
    · simp [h2]
  · have hn := neg_floor (mag a * mag b) (mag c) hC
    rw [if_pos rfl, hn]
    by_cases h1 : 0 < mag a * mag b % mag c
    · simp [h1]
      by_cases h2 : mag a * mag b / mag c + 1 ≤ 1099511627775
      · first | (simp [h2]; done) | (simp [h2]; omega)
      · first | (simp [h2]; done) | (simp [h2]; omega)
    · simp [h1]
      by_cases h2 : mag a * mag b / mag c ≤ 1099511627775
      · first | (simp [h2]; done) | (simp [h2]; omega)
      · first | (simp [h2]; done) | (simp [h2]; omega)
end Go.Proofs.YtecpmffmmiogfaaGreat
namespace Go.Proofs.YtecpmffmmiogfaaGreat
open Go.ChangeShapes Go.WideShapes Go.ChangeAt Go.RowKit
set_option linter.unusedVariables false

/-- The quotient, rounded down (of a divisor that is not 0). -/
def wq (a b c : Int) : Int := wN a b c / mag c
def wIn (q : Int) : Bool := decide (-1099511627775 ≤ q ∧ q ≤ 1099511627775)
def flB (a b c : Int) : Bool := (c != 0) && wIn (wq a b c)
def flV (a b c : Int) : Int := if flB a b c then wq a b c else 0

theorem far (a b c : Int) (hM : 0 ≤ mag a * mag b) (hc : 0 < mag c) (h : mag c ≤ mag a * mag b / 18446744073709551616) : wq a b c ≤ -18446744073709551616 ∨ 18446744073709551616 ≤ wq a b c := by
  unfold wq
  rw [wN_mag]
  have h1 : 18446744073709551616 ≤ mag a * mag b / mag c := by
    apply Int.le_ediv_of_mul_le hc
    omega
  cases xr a b c
  · right; simpa using h1
  · left
    rw [if_pos rfl, neg_floor _ _ hc]
    split <;> omega

theorem floor_any (a b c : Int) (w : World) (ha1 : -9223372036854775808 ≤ a) (ha2 : a ≤ 9223372036854775807) (hb1 : -9223372036854775808 ≤ b) (hb2 : b ≤ 9223372036854775807) (hc1 : -9223372036854775808 ≤ c) (hc2 : c ≤ 9223372036854775807) :
    Calls Tryz.prog 33 #[.int .i64 a, .int .i64 b, .int .i64 c] w fun e w' => e = .returned (.tuple #[.int .i64 (flV a b c), .bool (flB a b c)]) ∧ Below w.heap.size w w' := by
  have bc' := mag_bd c hc1 hc2
  have bm := mag_mul a b (mag_bd a ha1 ha2) (mag_bd b hb1 hb2)
  by_cases h : mag a * mag b / 18446744073709551616 < mag c
  · have hp := floor_plain a b c h bm.1
    have hc0 : (c != 0) = true := by
      have := Int.ediv_nonneg bm.1 (by omega : (0 : Int) ≤ 18446744073709551616)
      have h' : 0 < mag c := by omega
      unfold mag at h'
      simp
      omega
    have e1 : flB a b c = awB (mag a * mag b / mag c) (flS a b c) := by rw [hp.1]; unfold flB wIn wq; rw [hc0]; rfl
    have e2 : flV a b c = awV (mag a * mag b / mag c) (xr a b c) (flS a b c) := by
      unfold flV; rw [e1, hp.1, hp.2]; simp only [decide_eq_true_eq]; rfl
    rw [e1, e2]
    exact floor_yes a b c w ha1 ha2 hb1 hb2 hc1 hc2 h
  · have e1 : flB a b c = false := by
      unfold flB
      by_cases hc : c = 0
      · subst hc; rfl
      · have := far a b c bm.1 (by unfold mag; omega) (by omega)
        have : wIn (wq a b c) = false := by unfold wIn; apply decide_eq_false; omega
        rw [this]; simp
    have e2 : flV a b c = 0 := by unfold flV; rw [e1]; rfl
    rw [e1, e2]
    exact floor_no a b c w ha1 ha2 hb1 hb2 hc1 hc2 (by omega)

/-- Floor within the bounds. -/
def fitV (a b c : Int) : Int := if c = 0 then 0 else if wq a b c < -1099511627775 then -1099511627775 else if 1099511627775 < wq a b c then 1099511627775 else wq a b c

theorem wq_sign (a b c : Int) (hc : ¬ c = 0) : (xr a b c = true → wq a b c ≤ 0) ∧ (xr a b c = false → 0 ≤ wq a b c) := by
  have hC : 0 < mag c := by unfold mag; omega
  have hM : 0 ≤ mag a * mag b := Int.mul_nonneg (by unfold mag; omega) (by unfold mag; omega)
  have hq : 0 ≤ mag a * mag b / mag c := Int.ediv_nonneg hM (by omega)
  unfold wq
  rw [wN_mag]
  refine ⟨fun h => ?_, fun h => ?_⟩
  · rw [h, if_pos rfl, neg_floor _ _ hC]; split <;> omega
  · rw [h]; simpa using hq

set_option maxHeartbeats 1000000 in
theorem fit_any (a b c : Int) (w : World) (ha1 : -9223372036854775808 ≤ a) (ha2 : a ≤ 9223372036854775807) (hb1 : -9223372036854775808 ≤ b) (hb2 : b ≤ 9223372036854775807) (hc1 : -9223372036854775808 ≤ c) (hc2 : c ≤ 9223372036854775807) :
    Calls Tryz.prog 70 #[.int .i64 a, .int .i64 b, .int .i64 c] w fun e w' => e = .returned (.int .i64 (fitV a b c)) ∧ Below w.heap.size w w' := by
  have F := Lib.hid (fun v => floor_any a b c v ha1 ha2 hb1 hb2 hc1 hc2)
  have NG := Lib.hid (fun v => negative_any a b c v)
  have hsg := wq_sign a b c
  cases hB : flB a b c
  · by_cases hc : c = 0
    · have e : fitV a b c = 0 := by unfold fitV; rw [if_pos hc]
      have hb : (c == 0) = true := by simp [hc]
      rw [e]
      rw [hB] at F
      clear e hsg hB
      generalize flV a b c = V at *
      have HC := Lib.hid hc
      clear hc
      go_enter Tryz.func70, Tryz.ntmps70
      go_wp2_with fail
      refine (F.out _).mono ?_
      rintro e w1 ⟨rfl, hb1⟩
      go_wp2
      go_ret
      exact ⟨rfl, hb1⟩
    · have hb : (c == 0) = false := by simp [hc]
      have hout : wq a b c < -1099511627775 ∨ 1099511627775 < wq a b c := by
        unfold flB wIn at hB
        simp [hc] at hB
        omega
      have hsg := hsg hc
      rw [hB] at F
      cases hx : xr a b c
      · have h0 := hsg.2 hx
        have e : fitV a b c = 1099511627775 := by unfold fitV; rw [if_neg hc]; omega
        rw [hx] at NG
        rw [e]
        clear e hsg hB hout h0 hx
        generalize flV a b c = V at *
        go_enter Tryz.func70, Tryz.ntmps70
        go_wp2_with fail
        refine (F.out _).mono ?_
        rintro e w1 ⟨rfl, hb1⟩
        go_wp2_with (go_at_call 88; refine (NG.out _).mono ?_; rintro e w1 ⟨rfl, rfl⟩)
        go_ret
        exact ⟨rfl, hb1⟩
      · have h0 := hsg.1 hx
        have e : fitV a b c = -1099511627775 := by unfold fitV; rw [if_neg hc]; omega
        rw [hx] at NG
        rw [e]
        clear e hsg hB hout h0 hx
        generalize flV a b c = V at *
        go_enter Tryz.func70, Tryz.ntmps70
        go_wp2_with fail
        refine (F.out _).mono ?_
        rintro e w1 ⟨rfl, hb1⟩
        go_wp2_with (go_at_call 88; refine (NG.out _).mono ?_; rintro e w1 ⟨rfl, rfl⟩)
        go_ret
        exact ⟨rfl, hb1⟩
  · have hc : ¬ c = 0 := by intro h; subst h; simp [flB] at hB
    have hin : -1099511627775 ≤ wq a b c ∧ wq a b c ≤ 1099511627775 := by
      unfold flB wIn at hB
      simp [hc] at hB
      exact hB
    have e : fitV a b c = flV a b c := by unfold fitV flV; rw [if_neg hc, hB]; simp; omega
    rw [e]
    rw [hB] at F
    clear e hsg hB hin hc
    generalize flV a b c = V at *
    go_enter Tryz.func70, Tryz.ntmps70
    go_wp2_with fail
    refine (F.out _).mono ?_
    rintro e w1 ⟨rfl, hb1⟩
    go_wp2
    go_ret
    exact ⟨rfl, hb1⟩
end Go.Proofs.YtecpmffmmiogfaaGreat
