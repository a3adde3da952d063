/- root.Wide: the root of 128 bits. -/
import Derived.Test.YtiibgblpbjdpaaaRoot
namespace Go.Proofs.Ytiibgblpbjdpaaa
open Go.ChangeShapes Go.WideShapes Go.ChangeAt Go.RowKit
set_option linter.unusedVariables false

def IsRoot (N r : Int) : Prop := 0 ≤ r ∧ r * r ≤ N ∧ N < (r + 1) * (r + 1)

def bitAt : Nat → Int
  | 0 => 0
  | i + 1 => 2 ^ i

theorem bitAt_half (i : Nat) : (2 : Int) ^ i / 2 = bitAt i := by
  cases i with
  | zero => rfl
  | succ i => show (2 : Int) ^ (i + 1) / 2 = 2 ^ i; rw [Int.pow_succ]; exact Int.mul_ediv_cancel _ (by omega)

theorem or_bit (t : Int) (i : Nat) (ht : 0 ≤ t) (h : 2 ^ (i + 1) * t + 2 ^ (i + 1) ≤ 18446744073709551616) : bits .or .u64 (2 ^ (i + 1) * t) (2 ^ i) = 2 ^ (i + 1) * t + 2 ^ i := by
  have h1 : (0 : Int) < 2 ^ i := Int.pow_pos (by omega)
  have h2 : (2 : Int) ^ (i + 1) = 2 * 2 ^ i := by rw [Int.pow_succ, Int.mul_comm]
  have h3 : 0 ≤ (2 : Int) ^ (i + 1) * t := Int.mul_nonneg (by omega) ht
  rw [u64_or _ _ h3 (by omega) (by omega) (by omega)]
  obtain ⟨T, rfl⟩ := Int.eq_ofNat_of_zero_le ht
  have e1 : (2 : Int) ^ (i + 1) * (T : Int) = ((2 ^ (i + 1) * T : Nat) : Int) := by push_cast; rfl
  have e2 : (2 : Int) ^ i = ((2 ^ i : Nat) : Int) := by push_cast; rfl
  rw [e1, e2, Int.toNat_natCast, Int.toNat_natCast, ← Nat.two_pow_add_eq_or_of_lt (Nat.pow_lt_pow_right (by omega) (by omega)) T]
  push_cast
  rfl

theorem len_top (x : Int) (h0 : 0 ≤ x) (h : x ≤ 18446744073709551615) : x < 2 ^ Lib.bitLen x.toNat ∧ (Lib.bitLen x.toNat = 0 → x = 0) := by
  by_cases hx : x = 0
  · subst hx; exact ⟨by decide, fun _ => rfl⟩
  · have hb := Lib.bitLenAux_bounds 64 x.toNat (by omega) (by omega)
    have e : Lib.bitLenAux 64 x.toNat = Lib.bitLen x.toNat := rfl
    rw [e] at hb
    generalize Lib.bitLen x.toNat = L at *
    have h2 : ((x.toNat : Nat) : Int) < ((2 ^ L : Nat) : Int) := Int.ofNat_lt.2 hb.2.2
    have h3 : ((2 ^ L : Nat) : Int) = (2 : Int) ^ L := by push_cast; rfl
    rw [h3] at h2
    exact ⟨by omega, by omega⟩

theorem pow_sq (L j : Nat) (h : L ≤ 2 * j) (N : Int) (hN : N < 2 ^ L) : N < 2 ^ j * 2 ^ j := by
  rw [← Int.pow_add]
  have h1 : (2 : Nat) ^ L ≤ 2 ^ (j + j) := Nat.pow_le_pow_right (by omega) (by omega)
  have h2 : ((2 ^ L : Nat) : Int) ≤ ((2 ^ (j + j) : Nat) : Int) := Int.ofNat_le.2 h1
  have h3 : ((2 ^ L : Nat) : Int) = (2 : Int) ^ L := by push_cast; rfl
  have h4 : ((2 ^ (j + j) : Nat) : Int) = (2 : Int) ^ (j + j) := by push_cast; rfl
  rw [h3, h4] at h2
  omega

theorem root_top (hi lo : Int) (hh0 : 0 ≤ hi) (hh : hi ≤ 18446744073709551615) (hl0 : 0 ≤ lo) (hl : lo ≤ 18446744073709551615) :
    ∃ j, j ≤ 64 ∧ tbit hi lo = bitAt j ∧ hi * 18446744073709551616 + lo < 2 ^ j * 2 ^ j := by
  have b1 := Lib.bitLen_le lo.toNat 64 (by omega) (by omega)
  have b2 := Lib.bitLen_le hi.toNat 64 (by omega) (by omega)
  have t1 := len_top lo hl0 hl
  have t2 := len_top hi hh0 hh
  unfold tbit
  generalize Lib.bitLen lo.toNat = m at *
  generalize Lib.bitLen hi.toNat = n at *
  by_cases h : 0 < hi
  · refine ⟨(64 + n - 1) / 2 + 1, by omega, by rw [if_pos h]; rfl, ?_⟩
    apply pow_sq (64 + n) _ (by omega)
    rw [Int.pow_add]
    have e : (2 : Int) ^ 64 = 18446744073709551616 := by decide
    rw [e]
    generalize (2 : Int) ^ n = X at *
    omega
  · have e0 : hi = 0 := by omega
    rw [if_neg h, e0]
    by_cases hm : m = 0
    · refine ⟨0, by omega, by rw [if_pos hm]; rfl, ?_⟩
      have := t1.2 hm
      rw [this]; decide
    · refine ⟨(m - 1) / 2 + 1, by omega, by rw [if_neg hm]; rfl, ?_⟩
      apply pow_sq m _ (by omega)
      have := t1.1
      omega
end Go.Proofs.Ytiibgblpbjdpaaa
