/- Trunc, and the document's, of a seat that has no Near; by One; walked. -/
import Derived.Test.YtiibgblpbjdpaaaDig8
import Derived.Test.YtiibgblpbjdpaaaTurn1
namespace Go.Proofs.Ytiibgblpbjdpaaa
open Go.ChangeShapes Go.WideShapes Go.ChangeAt Go.RowKit
set_option linter.unusedVariables false
set_option linter.unusedSimpArgs false
def trB (a b c : Int) : Bool := (c != 0) && nbB (awN (mag a * mag b / mag c) false)
def trV (a b c : Int) : Int := if c = 0 then 0 else nbV (awN (mag a * mag b / mag c) false) (xr a b c)
theorem trunc_any (a b c : Int) (w : World) (ha1 : -9223372036854775808 ≤ a) (ha2 : a ≤ 9223372036854775807) (hb1 : -9223372036854775808 ≤ b) (hb2 : b ≤ 9223372036854775807) (hc1 : -9223372036854775808 ≤ c) (hc2 : c ≤ 9223372036854775807) : Calls Try.prog 47 #[.int .i64 a, .int .i64 b, .int .i64 c] w fun e w' => e = .returned (.tuple #[.int .i64 (trV a b c), .bool (trB a b c)]) ∧ Below w.heap.size w w' := by
  have bm := mag_mul a b (mag_bd a ha1 ha2) (mag_bd b hb1 hb2)
  by_cases hc : c = 0
  · subst hc
    exact trunc_no a b 0 w ha1 ha2 hb1 hb2 hc1 hc2 (by rw [show mag 0 = 0 from rfl]; exact Int.ediv_nonneg bm.1 (by omega))
  · have hc0 : (c != 0) = true := by simp; exact hc
    by_cases h : mag a * mag b / 18446744073709551616 < mag c
    · have := trunc_yes a b c w ha1 ha2 hb1 hb2 hc1 hc2 h
      unfold trV trB
      rw [if_neg hc, hc0]
      exact this
    · obtain ⟨n1, n2⟩ := big_nb (big_W bm.1 hc h) (xr a b c) false
      have := trunc_no a b c w ha1 ha2 hb1 hb2 hc1 hc2 (by omega)
      unfold trV trB
      rw [if_neg hc, hc0, n1, n2]
      exact this
theorem rquo_tr (a b c : Int) (w : World) (ha1 : -9223372036854775808 ≤ a) (ha2 : a ≤ 9223372036854775807) (hb1 : -9223372036854775808 ≤ b) (hb2 : b ≤ 9223372036854775807) (hc1 : -9223372036854775808 ≤ c) (hc2 : c ≤ 9223372036854775807) : Calls Try.prog 45 #[.int .i64 a, .int .i64 b, .int .i64 c, .int .i64 0] w fun e w' => e = .returned (.tuple #[.int .i64 (trV a b c), .bool (trB a b c)]) ∧ Below w.heap.size w w' := by
  by_cases hc : c = 0
  · subst hc
    exact rquo_zero a b 0 w
  · have hc0 : (c != 0) = true := by simp; exact hc
    have := rquo_1 a b c 0 _ _ _ w ha1 ha2 hb1 hb2 hc1 hc2 hc rfl rfl rfl (.inl rfl)
    unfold trV trB
    rw [if_neg hc, hc0]
    exact this
theorem mag_abs {a : Int} : (0 ≤ a → mag a = a) ∧ (a < 0 → mag a = -a) := by unfold mag; omega
theorem trV_tdO {a b : Int} (ha : -1073741824 ≤ a ∧ a ≤ 1073741824) (hb : -1099511627775 ≤ b ∧ b ≤ 1099511627775) : trV a b 1073741824 = tdO (a * b) := by
  have ma : 0 ≤ mag a ∧ mag a ≤ 1073741824 := by unfold mag; omega
  have mb : 0 ≤ mag b ∧ mag b ≤ 1099511627775 := by unfold mag; omega
  have m : mag a * mag b ≤ 1073741824 * mag b := Int.mul_le_mul_of_nonneg_right ma.2 mb.1
  have m0 : 0 ≤ mag a * mag b := Int.mul_nonneg ma.1 mb.1
  have mc : mag 1073741824 = 1073741824 := rfl
  have w : mag a * mag b / 1073741824 ≤ 1099511627775 := by omega
  have sg : tdO (a * b) = if xr a b 1073741824 then -(mag a * mag b / 1073741824) else mag a * mag b / 1073741824 := by
    unfold xr
    rcases Int.lt_or_le a 0 with p | p <;> rcases Int.lt_or_le b 0 with q | q
    · rw [(mag_abs).2 p, (mag_abs).2 q, Int.neg_mul_neg, decide_eq_true p, decide_eq_true q]
      exact tdO_pos (by have := Int.mul_nonneg (show 0 ≤ -a by omega) (show 0 ≤ -b by omega); rwa [Int.neg_mul_neg] at this)
    · rw [(mag_abs).2 p, (mag_abs).1 q, decide_eq_true p, decide_eq_false (by omega : ¬ b < 0)]
      have z : 0 ≤ -a * b := Int.mul_nonneg (by omega) q
      have e : a * b = -(-a * b) := by rw [Int.neg_mul, Int.neg_neg]
      rw [e, tdO_neg, tdO_pos z]
      rfl
    · rw [(mag_abs).1 p, (mag_abs).2 q, decide_eq_true q, decide_eq_false (by omega : ¬ a < 0)]
      have z : 0 ≤ a * -b := Int.mul_nonneg p (by omega)
      have e : a * b = -(a * -b) := by rw [Int.mul_neg, Int.neg_neg]
      rw [e, tdO_neg, tdO_pos z]
      rfl
    · rw [(mag_abs).1 p, (mag_abs).1 q, decide_eq_false (by omega : ¬ a < 0), decide_eq_false (by omega : ¬ b < 0)]
      exact tdO_pos (Int.mul_nonneg p q)
  rw [sg]
  unfold trV nbV nbB awN
  rw [if_neg (by decide), mc]
  simp [w]
end Go.Proofs.Ytiibgblpbjdpaaa
