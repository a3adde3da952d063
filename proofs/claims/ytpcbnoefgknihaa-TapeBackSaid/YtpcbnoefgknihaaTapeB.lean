/- Numbers there and back; plain. -/
import Derived.Test.YtpcbnoefgknihaaTapeA
namespace Go.Proofs.Ytpcbnoefgknihaa
open Go.ChangeShapes Go.WideShapes Go.ChangeAt Go.RowKit
set_option linter.unusedVariables false
set_option linter.unusedSimpArgs false
theorem tk_vnF : ∀ (f i u : Nat) (r : List Int), i + f = 9 → u * 128 ^ i < 18446744073709551616 → (0 < i → 0 < u) → tkU i (vnF f u ++ r) = some (u * 128 ^ i, (vnF f u).length)
  | 0, i, u, r, hi, hu, h0 => by
    obtain rfl : i = 9 := by omega
    have : u ≤ 1 := by
      rcases Nat.lt_or_ge u 2 with q | q
      · omega
      · have := Nat.mul_le_mul_right (128 ^ 9) q; omega
    have h0 := h0 (by omega)
    show tkU 9 ((u : Int) :: r) = _
    rw [tkU_cons, if_neg (by omega), if_neg (by omega), if_pos (by omega), if_neg (by omega)]
    simp [vnF]
  | f + 1, i, u, r, hi, hu, h0 => by
    by_cases q : u < 128
    · rw [vnF_small q]
      show tkU i ((u : Int) :: r) = _
      rw [tkU_cons, if_neg (by omega), if_neg (by omega), if_pos (by omega), if_neg (by omega)]
      simp
    · have e : u / 128 * 128 ^ (i + 1) + u % 128 * 128 ^ i = u * 128 ^ i := by
        rw [Nat.pow_succ, Nat.mul_comm (128 ^ i) 128, ← Nat.mul_assoc, ← Nat.add_mul, show u / 128 * 128 + u % 128 = u by omega]
      have ih := tk_vnF f (i + 1) (u / 128) r (by omega) (by omega) (fun _ => by omega)
      rw [vnF_big q]
      show tkU i (((128 + u % 128 : Nat) : Int) :: (vnF f (u / 128) ++ r)) = _
      rw [tkU_cons, if_neg (by omega), if_neg (by omega), if_neg (by omega), ih]
      refine congrArg some (Prod.ext ?_ rfl)
      show (((128 + u % 128 : Nat) : Int)).toNat % 128 * 128 ^ i + u / 128 * 128 ^ (i + 1) = u * 128 ^ i
      rw [show (((128 + u % 128 : Nat) : Int)).toNat % 128 = u % 128 by omega]
      exact (Nat.add_comm _ _).trans e
theorem tk_vn {u : Nat} (h : u < 18446744073709551616) (r : List Int) : tkU 0 (vn u ++ r) = some (u, (vn u).length) := by
  have := tk_vnF 9 0 u r (by omega) (by simpa using h) (fun h => absurd h (by omega))
  simpa [vn] using this
theorem vn_tkF : ∀ (L : List Int) (i c k : Nat), BYL L → tkU i L = some (c, k) → i ≤ 9 ∧ ∃ u, c = u * 128 ^ i ∧ (0 < i → 0 < u) ∧ L = vnF (9 - i) u ++ L.drop k
  | [], i, c, k, _, h => by cases h
  | x :: r, i, c, k, hb, h => by
    have bx := hb x (by simp)
    rw [tkU_cons] at h
    by_cases q1 : 10 ≤ i
    · rw [if_pos q1] at h; cases h
    · rw [if_neg q1] at h
      by_cases q2 : i = 9 ∧ 1 < x
      · rw [if_pos q2] at h; cases h
      · rw [if_neg q2] at h
        by_cases q3 : x < 128
        · rw [if_pos q3] at h
          by_cases q4 : x = 0 ∧ 0 < i
          · rw [if_pos q4] at h; cases h
          · rw [if_neg q4] at h
            injection h with h
            injection h with h1 h2
            subst h1 h2
            refine ⟨by omega, x.toNat, rfl, fun _ => by omega, ?_⟩
            rw [vnF_small (by omega), show ((x.toNat : Nat) : Int) = x by omega]
            rfl
        · rw [if_neg q3] at h
          obtain ⟨p, hp, e⟩ := Option.map_eq_some_iff.1 h
          obtain ⟨p1, p2⟩ := p
          injection e with e1 e2
          obtain ⟨g1, u, g2, g3, g4⟩ := vn_tkF r (i + 1) p1 p2 (fun b hb' => hb b (by simp [hb'])) hp
          refine ⟨by omega, x.toNat % 128 + 128 * u, ?_, fun _ => by omega, ?_⟩
          · rw [← e1, g2, Nat.add_mul, Nat.pow_succ, Nat.mul_comm (128 ^ i) 128, ← Nat.mul_assoc, Nat.mul_comm u 128]
          · have gu := g3 (by omega)
            subst e2
            rw [show 9 - i = (9 - (i + 1)) + 1 by omega, vnF_big (by omega), show (x.toNat % 128 + 128 * u) % 128 = x.toNat % 128 by omega, show (x.toNat % 128 + 128 * u) / 128 = u by omega, show ((128 + x.toNat % 128 : Nat) : Int) = x by omega]
            show x :: r = x :: (vnF (9 - (i + 1)) u ++ r.drop p2)
            rw [← g4]
theorem vn_tk {L : List Int} {c k : Nat} (hb : BYL L) (h : tkU 0 L = some (c, k)) : L = vn c ++ L.drop k := by
  obtain ⟨-, u, h1, -, h2⟩ := vn_tkF L 0 c k hb h
  rw [show c = u by simpa using h1]
  exact h2
theorem unfo_fo {n : Int} (h1 : -9223372036854775808 ≤ n) (h2 : n ≤ 9223372036854775807) : unfo (fo n) = n := by
  unfold unfo fo
  split <;> split <;> omega
theorem fo_unfo {c : Nat} (h : c < 18446744073709551616) : fo (unfo c) = c := by
  unfold unfo fo
  split <;> split <;> omega
theorem unfo_bd {c : Nat} (h : c < 18446744073709551616) : -9223372036854775808 ≤ unfo c ∧ unfo c ≤ 9223372036854775807 := by
  unfold unfo
  split <;> omega
end Go.Proofs.Ytpcbnoefgknihaa
