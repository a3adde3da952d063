/- The document's Mach number of a ratio, and its answers; the laws MachOfs and MachAts, walked. -/
import Derived.Test.YtecpmffmmiogfaaMach5
import Derived.Test.YtecpmffmmiogfaaMgR
namespace Go.Proofs.Ytecpmffmmiogfaa
open Go.ChangeShapes Go.WideShapes Go.ChangeAt Go.RowKit
set_option linter.unusedVariables false
set_option linter.unusedSimpArgs false

theorem mcO_eq {r m : Int} (h0 : 0 ≤ m) (h1 : m ≤ 20000) (ha : m = 0 ∨ mcR m ≤ r) (hb : m = 20000 ∨ r < mcR (m + 1)) : mcO r = m := by
  obtain ⟨k1, k2, k3⟩ := mcK_is r
  obtain ⟨M, rfl⟩ : ∃ M : Nat, m = (M : Int) := ⟨m.toNat, by omega⟩
  by_cases hK : mcK r ≤ M
  · have := k3 M hK (by omega)
    unfold mcP at this
    simp only [decide_eq_true_eq] at this
    have hz : (M : Int) = 0 := by rcases ha with h | h <;> omega
    unfold mcO
    omega
  · by_cases hK2 : mcK r = M + 1
    · unfold mcO
      rw [hK2]
      simp
    · have := k2 (M + 1) (by omega)
      unfold mcP at this
      simp only [decide_eq_false_iff_not] at this
      rcases hb with h | h
      · omega
      · rw [show ((M + 1 : Nat) : Int) = (M : Int) + 1 by omega] at this
        omega

theorem p2b (i : Nat) (h : i ≤ 13) : 1 ≤ (2 : Int) ^ i ∧ (2 : Int) ^ i ≤ 8192 := by
  rcases i with _ | _ | _ | _ | _ | _ | _ | _ | _ | _ | _ | _ | _ | _ | i
  all_goals first | omega | decide

end Go.Proofs.Ytecpmffmmiogfaa
