/- The pressure at a height and the height of a pressure as numbers; plain. -/
import Derived.Test.YtecpmffmmiogfaaGreatAir5
import Derived.Test.YtecpmffmmiogfaaGreatSearch
namespace Go.Proofs.YtecpmffmmiogfaaGreat
open Go.ChangeShapes Go.WideShapes Go.ChangeAt Go.RowKit
set_option linter.unusedVariables false
set_option linter.unusedSimpArgs false
theorem aS_bd (i : Nat) (hi : i ≤ 2100) : 300000 ≤ aS i ∧ aS i ≤ 8000000 := by
  have := asN_bd i hi
  unfold aS
  omega
theorem aS_step (i : Nat) (hi : i < 2100) : aS (i + 1) + 500 ≤ aS i ∧ aS i ≤ aS (i + 1) + 9999 := by
  have := asN_step i hi
  unfold aS
  omega
theorem aS_lt {i j : Nat} (h : i < j) (hj : j ≤ 2100) : aS j < aS i := by
  have := asN_lt h hj
  unfold aS
  omega
theorem aS_le {i j : Nat} (h : i ≤ j) (hj : j ≤ 2100) : aS j ≤ aS i := by
  rcases Nat.lt_or_ge i j with q | q
  · have := aS_lt q hj; omega
  · rw [show i = j by omega]; exact Int.le_refl _
/-- The step below a height, and what is left. -/
def prK (h : Int) : Nat := ((arC h + 100000) / 1000).toNat
def prR (h : Int) : Int := (arC h + 100000) % 1000
def prV (h : Int) : Int := aS (prK h) + (aS (prK h + 1) - aS (prK h)) * prR h / 1000
theorem prK_is (h : Int) : prK h ≤ 2100 ∧ arC h + 100000 = 1000 * (prK h : Int) + prR h ∧ 0 ≤ prR h ∧ prR h < 1000 ∧ (prK h = 2100 → prR h = 0) := by
  have b := arC_bd h
  unfold prK prR
  omega
theorem prV_at {k : Nat} {r : Int} (hk : k ≤ 2100) (h0 : 0 ≤ r) (h1 : r < 1000) (h2 : k = 2100 → r = 0) : aS (k + 1) + (if k = 2100 then aS k - aS (k + 1) else 0) ≤ aS k + (aS (k + 1) - aS k) * r / 1000 ∧ aS k + (aS (k + 1) - aS k) * r / 1000 ≤ aS k := by
  by_cases e : k = 2100
  · rw [if_pos e, h2 e]
    simp
    omega
  · rw [if_neg e]
    have s := aS_step k (by omega)
    obtain ⟨D, hD⟩ : ∃ D, D = aS k - aS (k + 1) := ⟨_, rfl⟩
    rw [show aS (k + 1) - aS k = -D by omega]
    have u : D * r ≤ D * 1000 := Int.mul_le_mul_of_nonneg_left (by omega) (by omega)
    have v : 0 ≤ D * r := Int.mul_nonneg (by omega) h0
    rw [Int.neg_mul]
    generalize D * r = P at *
    omega
/-- The first step whose pressure is below p. -/
structure HeR (p : Int) (r : Nat) : Prop where
  le : r ≤ 2101
  lo : ∀ t, t < r → p ≤ aS t
  hi : ∀ t, r ≤ t → t < 2101 → aS t < p
theorem heR_ex (p : Int) : ∃ r, HeR p r := by
  obtain ⟨r, h1, h2, h3⟩ := least_place (fun i => decide (aS i < p)) 2101 (fun a b hab hb ha => by
    simp only [decide_eq_true_eq] at ha ⊢
    have := aS_le hab (by omega)
    omega)
  exact ⟨r, h1, fun t ht => by have := h2 t ht; simp only [decide_eq_false_iff_not] at this; omega, fun t a b => by have := h3 t a b; simpa using this⟩
theorem HeR.uniq {p : Int} {r s : Nat} (h : HeR p r) (k : HeR p s) : r = s := by
  have := h.le
  have := k.le
  rcases (show r = s ∨ r < s ∨ s < r by omega) with e | e | e
  · exact e
  · have := k.lo r e; have := h.hi r (Nat.le_refl _) (by omega); omega
  · have := h.lo s e; have := k.hi s (Nat.le_refl _) (by omega); omega
noncomputable def heR (p : Int) : Nat := Classical.epsilon (HeR p)
theorem heR_is (p : Int) : HeR p (heR p) := Classical.epsilon_spec (heR_ex p)
theorem heR_eq {p : Int} {r : Nat} (h : HeR p r) : heR p = r := (heR_is p).uniq h
def heF (p : Int) (j : Nat) : Int := -100000 + (j : Int) * 1000 + (aS j - p) * 1000 / (aS j - aS (j + 1))
noncomputable def heV (p : Int) : Int := if heR p = 0 then -100000 else if heR p = 2101 then 2000000 else heF p (heR p - 1)
theorem heV_top {p : Int} (h : aS 0 ≤ p) : heV p = -100000 := by
  unfold heV
  have H := heR_is p
  by_cases e : heR p = 0
  · rw [if_pos e]
  · rw [if_neg e]
    have a0 := H.lo 0 (by omega)
    have e1 : heR p = 1 := by
      rcases Nat.lt_or_ge 1 (heR p) with q | q
      · have := H.lo 1 q; have := aS_lt (i := 0) (j := 1) (by omega) (by omega); omega
      · omega
    rw [e1]
    rw [if_neg (by omega), show p = aS 0 by omega]
    unfold heF
    simp
theorem heV_bot {p : Int} (h : p ≤ aS 2100) : heV p = 2000000 := by
  unfold heV
  have e : heR p = 2101 := heR_eq ⟨by omega, fun t ht => by have := aS_le (i := t) (j := 2100) (by omega) (by omega); omega, fun t a b => by omega⟩
  rw [e, if_neg (by omega), if_pos rfl]
theorem heV_mid {p : Int} (h1 : p < aS 0) (h2 : aS 2100 < p) : ∃ j, j < 2100 ∧ HeR p (j + 1) ∧ heV p = heF p j ∧ p ≤ aS j ∧ aS (j + 1) < p := by
  have H := heR_is p
  have n0 : heR p ≠ 0 := fun e => by have := H.hi 0 (by omega) (by omega); omega
  have n1 : heR p ≠ 2101 := fun e => by have := H.lo 2100 (by omega); omega
  have := H.le
  obtain ⟨j, ej⟩ : ∃ j, heR p = j + 1 := ⟨heR p - 1, by omega⟩
  refine ⟨j, by omega, ej ▸ H, ?_, H.lo j (by omega), H.hi (j + 1) (by omega) (by omega)⟩
  unfold heV
  rw [if_neg n0, if_neg n1, ej]
  rfl
theorem heF_bd {p : Int} {j : Nat} (hj : j < 2100) (h1 : p ≤ aS j) (h2 : aS (j + 1) < p) : 0 ≤ (aS j - p) * 1000 / (aS j - aS (j + 1)) ∧ (aS j - p) * 1000 / (aS j - aS (j + 1)) < 1000 := by
  have s := aS_step j hj
  refine ⟨Int.ediv_nonneg (by omega) (by omega), Int.ediv_lt_of_lt_mul (by omega) (by omega)⟩
end Go.Proofs.YtecpmffmmiogfaaGreat
