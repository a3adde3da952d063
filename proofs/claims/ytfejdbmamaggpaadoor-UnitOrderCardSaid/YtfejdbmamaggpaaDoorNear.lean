/- wide.Near and the document's Quotient to the nearest, for every input; walked. -/
import Derived.Test.YtfejdbmamaggpaaDoorDig8
namespace Go.Proofs.YtfejdbmamaggpaaDoor
open Go.ChangeShapes Go.WideShapes Go.ChangeAt Go.RowKit
set_option linter.unusedVariables false
set_option linter.unusedSimpArgs false
def nrB (a b c : Int) : Bool := (c != 0) && nbB (awN (mag a * mag b / mag c) (nrS a b c))
def nrV (a b c : Int) : Int := if c = 0 then 0 else nbV (awN (mag a * mag b / mag c) (nrS a b c)) (xr a b c)
theorem near_any (a b c : Int) (w : World) (ha1 : -9223372036854775808 ≤ a) (ha2 : a ≤ 9223372036854775807) (hb1 : -9223372036854775808 ≤ b) (hb2 : b ≤ 9223372036854775807) (hc1 : -9223372036854775808 ≤ c) (hc2 : c ≤ 9223372036854775807) : Calls Tryd.prog 67 #[.int .i64 a, .int .i64 b, .int .i64 c] w fun e w' => e = .returned (.tuple #[.int .i64 (nrV a b c), .bool (nrB a b c)]) ∧ Below w.heap.size w w' := by
  have bm := mag_mul a b (mag_bd a ha1 ha2) (mag_bd b hb1 hb2)
  by_cases hc : c = 0
  · subst hc
    exact near_no a b 0 w ha1 ha2 hb1 hb2 hc1 hc2 (by rw [show mag 0 = 0 from rfl]; exact Int.ediv_nonneg bm.1 (by omega))
  · have hc0 : (c != 0) = true := by simp; exact hc
    by_cases h : mag a * mag b / 18446744073709551616 < mag c
    · have := near_yes a b c w ha1 ha2 hb1 hb2 hc1 hc2 h
      unfold nrV nrB
      rw [if_neg hc, hc0]
      exact this
    · obtain ⟨n1, n2⟩ := big_nb (big_W bm.1 hc h) (xr a b c) (nrS a b c)
      have := near_no a b c w ha1 ha2 hb1 hb2 hc1 hc2 (by omega)
      unfold nrV nrB
      rw [if_neg hc, hc0, n1, n2]
      exact this

theorem rquo_nr (a b c : Int) (w : World) (ha1 : -9223372036854775808 ≤ a) (ha2 : a ≤ 9223372036854775807) (hb1 : -9223372036854775808 ≤ b) (hb2 : b ≤ 9223372036854775807) (hc1 : -9223372036854775808 ≤ c) (hc2 : c ≤ 9223372036854775807) : Calls Tryd.prog 69 #[.int .i64 a, .int .i64 b, .int .i64 c, .int .i64 1] w fun e w' => e = .returned (.tuple #[.int .i64 (nrV a b c), .bool (nrB a b c)]) ∧ Below w.heap.size w w' := by
  by_cases hc : c = 0
  · subst hc
    exact rquo_zero a b 1 w
  · have hc0 : (c != 0) = true := by simp; exact hc
    have hS : nrS a b c = (decide (mag c - mag a * mag b % mag c < mag a * mag b % mag c) || (mag a * mag b % mag c == mag c - mag a * mag b % mag c) && !xr a b c) := rfl
    unfold nrV nrB
    rw [if_neg hc, hc0]
    by_cases h1 : mag c - mag a * mag b % mag c < mag a * mag b % mag c
    · have e : nrS a b c = true := by rw [hS, decide_eq_true h1]; rfl
      have := rquo_2 a b c 1 1 _ _ w ha1 ha2 hb1 hb2 hc1 hc2 hc rfl (by unfold rcmp; omega) rfl (.inl ⟨rfl, rfl⟩)
      rw [e]; exact this
    · rw [decide_eq_false h1] at hS
      by_cases h2 : mag a * mag b % mag c = mag c - mag a * mag b % mag c
      · rw [beq_iff_eq.2 h2] at hS
        cases hx : xr a b c
        · have e : nrS a b c = true := by rw [hS, hx]; rfl
          have := rquo_2 a b c 1 0 _ false w ha1 ha2 hb1 hb2 hc1 hc2 hc hx (by unfold rcmp; omega) rfl (.inr ⟨rfl, rfl, rfl⟩)
          rw [e]; exact this
        · have e : nrS a b c = false := by rw [hS, hx]; rfl
          have := rquo_1 a b c 1 0 _ true w ha1 ha2 hb1 hb2 hc1 hc2 hc hx (by unfold rcmp; omega) rfl (.inr (.inr (.inl ⟨rfl, rfl, rfl⟩)))
          rw [e]; exact this
      · rw [beq_eq_false_iff_ne.2 h2] at hS
        have e : nrS a b c = false := by rw [hS]; rfl
        have := rquo_1 a b c 1 (-1) _ _ w ha1 ha2 hb1 hb2 hc1 hc2 hc rfl (by unfold rcmp; omega) rfl (.inr (.inr (.inr ⟨rfl, rfl⟩)))
        rw [e]; exact this
end Go.Proofs.YtfejdbmamaggpaaDoor
