/- Pressures and heights: how they fall, and back; plain. -/
import Derived.Test.YtecpmffmmiogfaaGreatAir6
namespace Go.Proofs.YtecpmffmmiogfaaGreat
open Go.ChangeShapes Go.WideShapes Go.ChangeAt Go.RowKit
set_option linter.unusedVariables false
set_option linter.unusedSimpArgs false
theorem heV_in {p : Int} {k : Nat} (hk : k < 2100) (h1 : p ≤ aS k) (h2 : aS (k + 1) < p) : heV p = heF p k := by
  have e : heR p = k + 1 := heR_eq ⟨by omega, fun t ht => by have := aS_le (i := t) (j := k) (by omega) (by omega); omega, fun t a b => by have := aS_le (i := k + 1) (j := t) a (by omega); omega⟩
  unfold heV
  rw [e, if_neg (by omega), if_neg (by omega)]
  rfl
theorem heV_step {k : Nat} (hk : k ≤ 2100) : heV (aS k) = -100000 + (k : Int) * 1000 := by
  by_cases e : k = 2100
  · subst e
    rw [heV_bot (Int.le_refl _)]
    rfl
  · have s := aS_step k (by omega)
    rw [heV_in (by omega) (Int.le_refl _) (by omega)]
    unfold heF
    simp
theorem prV_of {h : Int} {k : Nat} {r : Int} (hk : k ≤ 2100) (h0 : 0 ≤ r) (h1 : r < 1000) (h2 : k = 2100 → r = 0) (e : h = -100000 + (k : Int) * 1000 + r) : prV h = aS k + (aS (k + 1) - aS k) * r / 1000 := by
  have a : arC h = h := by unfold arC; rw [if_neg (by omega), if_neg (by omega)]
  have b : prK h = k := by unfold prK; rw [a]; omega
  have c : prR h = r := by unfold prR; rw [a]; omega
  unfold prV
  rw [b, c]
theorem he_pr {h : Int} (a : -100000 ≤ h) (b : h ≤ 2000000) : 0 ≤ heV (prV h) - h ∧ heV (prV h) - h ≤ 1 := by
  obtain ⟨p1, p2, p3, p4, p5⟩ := prK_is h
  have ac : arC h = h := by unfold arC; rw [if_neg (by omega), if_neg (by omega)]
  rw [ac] at p2
  unfold prV
  generalize prK h = k at *
  generalize prR h = r at *
  by_cases e : k = 2100
  · have r0 := p5 e
    subst e r0
    rw [show aS 2100 + (aS (2100 + 1) - aS 2100) * 0 / 1000 = aS 2100 by simp, heV_step (by omega)]
    omega
  · have s := aS_step k (by omega)
    have he : heV (aS (k + 1)) = -100000 + ((k + 1 : Nat) : Int) * 1000 := heV_step (by omega)
    obtain ⟨D, hD⟩ : ∃ D, D = aS k - aS (k + 1) := ⟨_, rfl⟩
    rw [show aS (k + 1) - aS k = -D by omega, Int.neg_mul]
    obtain ⟨M, hM⟩ : ∃ M, M = D * r := ⟨_, rfl⟩
    rw [← hM]
    have m0 : 0 ≤ M := by rw [hM]; exact Int.mul_nonneg (by omega) p3
    obtain ⟨c, hc⟩ : ∃ c, c = -(-M / 1000) := ⟨_, rfl⟩
    rw [show -M / 1000 = -c by omega]
    have m1 : M ≤ D * 999 := by rw [hM]; exact Int.mul_le_mul_of_nonneg_left (by omega) (by omega)
    have c1 : M ≤ c * 1000 ∧ c * 1000 < M + 1000 := by omega
    rcases (show aS (k + 1) < aS k + -c ∨ aS k + -c ≤ aS (k + 1) by omega) with g | g
    · rw [heV_in (by omega) (by omega) g]
      unfold heF
      rw [show aS k - (aS k + -c) = c by omega, ← hD]
      have u1 : r ≤ c * 1000 / D := (Int.le_ediv_iff_mul_le (by omega)).2 (by rw [Int.mul_comm, ← hM]; omega)
      have u2 : c * 1000 / D < r + 2 := Int.ediv_lt_of_lt_mul (by omega) (by rw [Int.add_mul, Int.mul_comm r D, ← hM]; omega)
      omega
    · have ec : c = D := by omega
      rw [ec, show aS k + -D = aS (k + 1) by omega, he]
      have : D * (1000 - r) < 1000 := by rw [Int.mul_sub, ← hM]; omega
      have r9 : 999 ≤ r := by
        rcases (show r ≤ 998 ∨ 999 ≤ r by omega) with q | q
        · have := Int.mul_le_mul (show (500 : Int) ≤ D by omega) (show (2 : Int) ≤ 1000 - r by omega) (by omega) (by omega)
          omega
        · exact q
      push_cast
      omega
theorem pr_he {p : Int} (a : aS 2100 ≤ p) (b : p ≤ aS 0) : 0 ≤ prV (heV p) - p ∧ prV (heV p) - p ≤ 9 := by
  rcases (show p = aS 2100 ∨ aS 2100 < p by omega) with e | g
  · rw [e, heV_step (by omega), prV_of (k := 2100) (r := 0) (by omega) (by omega) (by omega) (fun _ => rfl) (by omega)]
    simp
  · obtain ⟨j, hj, g3, g4⟩ : ∃ j, j < 2100 ∧ p ≤ aS j ∧ aS (j + 1) < p := by
      rcases (show p = aS 0 ∨ p < aS 0 by omega) with e | g1
      · exact ⟨0, by omega, by omega, by have := aS_step 0 (by omega); omega⟩
      · obtain ⟨j, hj, _, _, g3, g4⟩ := heV_mid g1 g
        exact ⟨j, hj, g3, g4⟩
    rw [heV_in hj g3 g4]
    have fb := heF_bd hj g3 g4
    have s := aS_step j hj
    unfold heF
    obtain ⟨D, hD⟩ : ∃ D, D = aS j - aS (j + 1) := ⟨_, rfl⟩
    rw [← hD] at fb ⊢
    have q1 := Int.mul_ediv_add_emod ((aS j - p) * 1000) D
    have q2 := Int.emod_nonneg ((aS j - p) * 1000) (show D ≠ 0 by omega)
    have q3 := Int.emod_lt_of_pos ((aS j - p) * 1000) (show 0 < D by omega)
    generalize (aS j - p) * 1000 / D = q at *
    generalize (aS j - p) * 1000 % D = z at *
    rw [prV_of (k := j) (r := q) (by omega) fb.1 fb.2 (by omega) rfl, show aS (j + 1) - aS j = -D by omega, Int.neg_mul]
    generalize D * q = M at *
    omega
theorem prV_fall {a b : Int} (h : a ≤ b) : prV b ≤ prV a := by
  obtain ⟨p1, p2, p3, p4, p5⟩ := prK_is a
  obtain ⟨q1, q2, q3, q4, q5⟩ := prK_is b
  have m : arC a ≤ arC b := by unfold arC; omega
  unfold prV
  generalize prK a = k at *
  generalize prR a = r at *
  generalize prK b = l at *
  generalize prR b = t at *
  have u := prV_at p1 p3 p4 p5
  have v := prV_at q1 q3 q4 q5
  rcases (show k = l ∨ k < l by omega) with e | e
  · subst e
    by_cases e2 : k = 2100
    · rw [p5 e2, q5 e2]
      exact Int.le_refl _
    · have s := aS_step k (by omega)
      obtain ⟨D, hD⟩ : ∃ D, D = aS k - aS (k + 1) := ⟨_, rfl⟩
      rw [show aS (k + 1) - aS k = -D by omega, Int.neg_mul, Int.neg_mul]
      have w : D * r ≤ D * t := Int.mul_le_mul_of_nonneg_left (by omega) (by omega)
      generalize D * r = x at *
      generalize D * t = y at *
      omega
  · rw [if_neg (by omega)] at u
    have := aS_le (i := k + 1) (j := l) (by omega) (by omega)
    omega
theorem prV_bd (h : Int) : 300000 ≤ prV h ∧ prV h ≤ 8000000 := by
  obtain ⟨p1, p2, p3, p4, p5⟩ := prK_is h
  have u := prV_at p1 p3 p4 p5
  unfold prV
  generalize prK h = k at *
  generalize prR h = r at *
  have b1 := aS_bd k p1
  by_cases e : k = 2100
  · rw [if_pos e] at u
    omega
  · rw [if_neg e] at u
    have b2 := aS_bd (k + 1) (by omega)
    omega
theorem heV_bd (p : Int) : -100000 ≤ heV p ∧ heV p ≤ 2000000 := by
  rcases (show aS 0 ≤ p ∨ p < aS 0 by omega) with g | g
  · rw [heV_top g]; omega
  · rcases (show p ≤ aS 2100 ∨ aS 2100 < p by omega) with g2 | g2
    · rw [heV_bot g2]; omega
    · obtain ⟨j, hj, _, e, g3, g4⟩ := heV_mid g g2
      have fb := heF_bd hj g3 g4
      rw [e]
      unfold heF
      omega
theorem heV_fall {p q : Int} (h : p ≤ q) : heV q ≤ heV p := by
  rcases (show aS 0 ≤ q ∨ q < aS 0 by omega) with g | g
  · rw [heV_top g]; exact (heV_bd p).1
  · rcases (show p ≤ aS 2100 ∨ aS 2100 < p by omega) with g2 | g2
    · rw [heV_bot g2]; exact (heV_bd q).2
    · obtain ⟨j, hj, _, e, g3, g4⟩ := heV_mid (p := p) (by omega) g2
      obtain ⟨l, hl, _, e', k3, k4⟩ := heV_mid (p := q) g (by omega)
      have fb := heF_bd hj g3 g4
      have kb := heF_bd hl k3 k4
      rw [e, e']
      unfold heF
      rcases (show j < l ∨ l = j ∨ l < j by omega) with c | c | c
      · have := aS_le (i := j + 1) (j := l) (by omega) (by omega)
        omega
      · subst c
        have s := aS_step l hl
        have := Int.ediv_le_ediv (show 0 < aS l - aS (l + 1) by omega) (show (aS l - q) * 1000 ≤ (aS l - p) * 1000 by omega)
        omega
      · omega
end Go.Proofs.YtecpmffmmiogfaaGreat
