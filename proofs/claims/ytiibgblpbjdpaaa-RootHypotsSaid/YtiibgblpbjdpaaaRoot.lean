/- Contracts of package root: the highest bit that the root can have. -/
import Derived.Test.YtiibgblpbjdpaaaBits
namespace Go.Proofs.Ytiibgblpbjdpaaa
open Go.ChangeShapes Go.WideShapes Go.ChangeAt Go.RowKit
set_option linter.unusedVariables false

theorem pow_wrap (k : Nat) (h : k ≤ 63) : IntKind.u64.wrap (2 ^ k) = 2 ^ k := by
  rw [IntKind.wrap_u64]
  have h1 : (2 : Nat) ^ k ≤ 2 ^ 63 := Nat.pow_le_pow_right (by omega) h
  have h2 : ((2 ^ k : Nat) : Int) ≤ ((2 ^ 63 : Nat) : Int) := Int.ofNat_le.2 h1
  have h3 : ((2 ^ k : Nat) : Int) = (2 : Int) ^ k := by push_cast; rfl
  have h4 : ((2 ^ 63 : Nat) : Int) = 9223372036854775808 := by decide
  rw [h3, h4] at h2
  have h5 : (0 : Int) < 2 ^ k := Int.pow_pos (by omega)
  omega

/-- The highest bit of the root of hi * 2^64 + lo; 0 where that is 0. -/
def tbit (hi lo : Int) : Int := if 0 < hi then 2 ^ ((64 + Lib.bitLen hi.toNat - 1) / 2) else if Lib.bitLen lo.toNat = 0 then 0 else 2 ^ ((Lib.bitLen lo.toNat - 1) / 2)

set_option maxHeartbeats 400000 in
theorem topBit_any (hi lo : Int) (w : World) (hh0 : 0 ≤ hi) (hh : hi ≤ 18446744073709551615) (hl0 : 0 ≤ lo) (hl : lo ≤ 18446744073709551615) :
    Calls Try.prog 77 #[.int .u64 hi, .int .u64 lo] w fun e w' => e = .returned (.int .u64 (tbit hi lo)) ∧ w = w' := by
  have L1 := Lib.hid (fun v => len64_any lo v hl0 hl)
  have L2 := Lib.hid (fun v => len64_any hi v hh0 hh)
  have b1 := Lib.bitLen_le lo.toNat 64 (by omega) (by omega)
  have b2 := Lib.bitLen_le hi.toNat 64 (by omega) (by omega)
  unfold tbit
  generalize Lib.bitLen lo.toNat = m at *
  generalize Lib.bitLen hi.toNat = n at *
  by_cases h : 0 < hi
  · rw [if_pos h]
    have hz : ((64 : Int) + (n : Int) == 0) = false := by simp; omega
    have hw := pow_wrap ((64 + n - 1) / 2) (by omega)
    generalize hX : (2 : Int) ^ ((64 + n - 1) / 2) = X at hw ⊢
    have HX := Lib.hid hX
    clear hX
    go_enter Try.func77, Try.ntmps77
    go_wp2_with (first | (go_at_call 86; (with_reducible refine (L1.out _).mono ?_); rintro e w1 ⟨rfl, rfl⟩) | (go_at_call 86; (with_reducible refine (L2.out _).mono ?_); rintro e w1 ⟨rfl, rfl⟩))
    go_ret
    exact ⟨ret_int (by rw [HX.out]; exact hw), rfl⟩
  · rw [if_neg h]
    by_cases hm : m = 0
    · subst hm
      go_enter Try.func77, Try.ntmps77
      go_wp2_with (first | (go_at_call 86; (with_reducible refine (L1.out _).mono ?_); rintro e w1 ⟨rfl, rfl⟩) | (go_at_call 86; (with_reducible refine (L2.out _).mono ?_); rintro e w1 ⟨rfl, rfl⟩))
      go_ret
      exact ⟨rfl, rfl⟩
    · rw [if_neg hm]
      have hz : ((m : Int) == 0) = false := by simp; omega
      have hp : 1 ≤ m := by omega
      have hw := pow_wrap ((m - 1) / 2) (by omega)
      generalize hX : (2 : Int) ^ ((m - 1) / 2) = X at hw ⊢
      have HX := Lib.hid hX
      clear hX hm
      go_enter Try.func77, Try.ntmps77
      go_wp2_with (first | (go_at_call 86; (with_reducible refine (L1.out _).mono ?_); rintro e w1 ⟨rfl, rfl⟩) | (go_at_call 86; (with_reducible refine (L2.out _).mono ?_); rintro e w1 ⟨rfl, rfl⟩))
      go_ret
      exact ⟨ret_int (by rw [HX.out]; exact hw), rfl⟩
end Go.Proofs.Ytiibgblpbjdpaaa
