/- Values on a line: slope, middle and differences; plain. -/
import Derived.Test.YticecjjlafmclaaTrend12
namespace Go.Proofs.Yticecjjlafmclaa
open Go.ChangeShapes Go.WideShapes Go.ChangeAt Go.RowKit
set_option linter.unusedVariables false
set_option linter.unusedSimpArgs false
/-- The numbers lie on a line. -/
def LnI (a d : Int) (L : List Int) : Prop := ∀ i, i < L.length → L.getD i 0 = a + d * (i : Int)
theorem tsY_line {a d : Int} {L : List Int} (h : LnI a d L) : ∀ k, k ≤ L.length → 2 * tsY L k = 2 * a * (k : Int) + d * (k : Int) * ((k : Int) - 1)
  | 0, _ => by simp [tsY]
  | k + 1, hk => by
    have ih := tsY_line h k (by omega)
    have e := h k (by omega)
    show 2 * (tsY L k + L.getD k 0) = _
    rw [e]
    generalize tsY L k = y at *
    push_cast
    generalize (k : Int) = K at *
    clear h e hk
    grind
theorem tsX_line {a d : Int} {L : List Int} (h : LnI a d L) : ∀ k, k ≤ L.length → 6 * tsX L k = 3 * a * (k : Int) * ((k : Int) - 1) + d * ((k : Int) - 1) * (k : Int) * (2 * (k : Int) - 1)
  | 0, _ => by simp [tsX]
  | k + 1, hk => by
    have ih := tsX_line h k (by omega)
    have e := h k (by omega)
    show 6 * (tsX L k + (k : Int) * L.getD k 0) = _
    rw [e]
    generalize tsX L k = y at *
    push_cast
    generalize (k : Int) = K at *
    clear h e hk
    grind
theorem trS_line {a d : Int} {L : List Int} (h : LnI a d L) (h2 : 2 ≤ L.length) : trS L = 1000 * d := by
  have e1 := tsY_line h L.length (Nat.le_refl _)
  have e2 := tsX_line h L.length (Nat.le_refl _)
  unfold trS
  have n2 : 2 ≤ (L.length : Int) := by omega
  clear h h2
  generalize tsY L L.length = y at *
  generalize tsX L L.length = x at *
  generalize (L.length : Int) = n at *
  have e3 : 12000 * x - 6000 * (n - 1) * y = (1000 * d) * (n * (n * n - 1)) := by grind
  have p : 0 < n * (n * n - 1) := by
    have u1 := Int.mul_le_mul n2 n2 (by omega) (by omega)
    exact Int.mul_pos (by omega) (by omega)
  rw [e3]
  exact Int.mul_ediv_cancel _ (by omega)
theorem trM_line {a d : Int} {L : List Int} (h : LnI a d L) (h2 : 2 ≤ L.length) : trM L = a + d * ((L.length : Int) - 1) / 2 := by
  have e1 := tsY_line h L.length (Nat.le_refl _)
  unfold trM
  have n2 : 2 ≤ (L.length : Int) := by omega
  clear h h2
  generalize tsY L L.length = y at *
  generalize (L.length : Int) = n at *
  obtain ⟨q, eq⟩ : ∃ q, q = d * (n - 1) := ⟨_, rfl⟩
  have e2 : 2 * y = n * (2 * a + q) := by rw [eq]; grind
  rw [← eq]
  have a1 := Int.mul_ediv_add_emod y n
  have a2 := Int.emod_nonneg y (show n ≠ 0 by omega)
  have a3 := Int.emod_lt_of_pos y (show 0 < n by omega)
  generalize y / n = Q at *
  generalize y % n = r at *
  obtain ⟨t, et⟩ : ∃ t, t = 2 * a + q := ⟨_, rfl⟩
  rw [← et] at e2
  -- n * (t - 2 * Q) = 2 * r
  have e3 : n * (t - 2 * Q) = 2 * r := by grind
  have b1 : 0 ≤ t - 2 * Q := by
    rcases (show t - 2 * Q ≤ -1 ∨ 0 ≤ t - 2 * Q by omega) with c | c
    · have := Int.mul_le_mul_of_nonneg_left c (show 0 ≤ n by omega)
      omega
    · exact c
  have b2 : t - 2 * Q ≤ 1 := by
    rcases (show 2 ≤ t - 2 * Q ∨ t - 2 * Q ≤ 1 by omega) with c | c
    · have := Int.mul_le_mul_of_nonneg_left c (show 0 ≤ n by omega)
      omega
    · exact c
  omega
theorem dfV_line {a d : Int} {L : List Int} (h : LnI a d L) (h2 : 2 ≤ L.length) (i : Nat) (hi : i < L.length) : dfV (trM L) (trS L) L i ≤ 1 := by
  unfold dfV
  rw [trM_line h h2, trS_line h h2, h i hi]
  unfold lnV
  generalize (L.length : Int) = n
  generalize (i : Int) = k
  have e : 1000 * d * (2 * k - n + 1) = (d * (2 * k - n + 1)) * 1000 := by grind
  rw [e, show (2000 : Int) = 2 * 1000 from rfl, Int.mul_ediv_mul_of_pos_left _ _ (by decide)]
  obtain ⟨u, eu⟩ : ∃ u, u = d * (2 * k - n + 1) := ⟨_, rfl⟩
  obtain ⟨v, ev⟩ : ∃ v, v = d * (n - 1) := ⟨_, rfl⟩
  obtain ⟨t, et⟩ : ∃ t, t = d * k := ⟨_, rfl⟩
  have e3 : u = 2 * t - v := by rw [eu, ev, et]; grind
  rw [← eu, ← ev, ← et, e3]
  split <;> omega
theorem mxN_le {D : List Int} {c : Int} (h : ∀ i, D.getD i 0 ≤ c) : ∀ k, mxN D k ≤ c
  | 0 => h 0
  | k + 1 => by
    have := mxN_le h k
    have := h k
    show max (mxN D k) (D.getD k 0) ≤ c
    omega
theorem getD_app {L : List Int} {y : Int} {i : Nat} (h : i < L.length) : (L ++ [y]).getD i 0 = L.getD i 0 := by
  simp [List.getD, List.getElem?_append_left h]
theorem otN_none {far : Int} {D : List Int} (h : ∀ i, D.getD i 0 ≤ far) : ∀ k, otN far D k = []
  | 0 => rfl
  | k + 1 => by rw [otN_miss (by have := h k; omega), otN_none h k]
theorem dfN_line {a d : Int} {L : List Int} (h : LnI a d L) (h2 : 2 ≤ L.length) (i : Nat) : (dfN (trM L) (trS L) L L.length).getD i 0 ≤ 1 := by
  by_cases hi : i < L.length
  · rw [dfN_at _ _ _ hi]
    exact dfV_line h h2 i hi
  · rw [show (dfN (trM L) (trS L) L L.length).getD i 0 = 0 by simp [List.getD, dfN, hi]]
    omega
/-- One more number of the line. -/
theorem LnI.next {a d sz h : Int} {L : List Int} {k : Nat} (hs : 2 ≤ sz) (hL : L.length = min k sz.toNat) (h1 : LnI (a + d * ((k : Int) - (L.length : Int))) d L) (hh : trH h = a + d * (k : Int)) : (trN sz L h).length = min (k + 1) sz.toNat ∧ LnI (a + d * (((k + 1 : Nat) : Int) - ((trN sz L h).length : Int))) d (trN sz L h) := by
  have hl := trN_len (sz := sz) (L := L) h
  have h3 : (trN sz L h).length = min (k + 1) sz.toNat := by rw [hl]; split <;> omega
  refine ⟨h3, ?_⟩
  rw [hl] at h3
  intro i hi
  rw [hl] at hi ⊢
  by_cases c : (L.length : Int) < sz
  · rw [if_pos c] at hi ⊢
    unfold trN
    rw [if_pos c]
    have ek : L.length = k := by omega
    rcases (show i < L.length ∨ i = L.length by omega) with q | q
    · rw [getD_app q, h1 i q]
      rw [ek]
      push_cast
      grind
    · subst q
      rw [show (L ++ [trH h]).getD L.length 0 = trH h by simp [List.getD], hh, ek]
      push_cast
      grind
  · rw [if_neg c] at hi ⊢
    unfold trN
    rw [if_neg c]
    rw [show ((L ++ [trH h]).drop 1).getD i 0 = (L ++ [trH h]).getD (i + 1) 0 by simp [List.getD, Nat.add_comm]]
    rcases (show i + 1 < L.length ∨ i + 1 = L.length by omega) with q | q
    · rw [getD_app q, h1 (i + 1) q]
      push_cast
      grind
    · rw [show i + 1 = L.length from q, show (L ++ [trH h]).getD L.length 0 = trH h by simp [List.getD], hh]
      have q' : (i : Int) = (L.length : Int) - 1 := by omega
      rw [q']
      push_cast
      grind
end Go.Proofs.Yticecjjlafmclaa
