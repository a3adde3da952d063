/- Plain laws on the last values, the positions and the greatest difference. -/
import Derived.Test.YticecjjlafmclaaTrend11
namespace Go.Proofs.Yticecjjlafmclaa
open Go.ChangeShapes Go.WideShapes Go.ChangeAt Go.RowKit
set_option linter.unusedVariables false
set_option linter.unusedSimpArgs false

theorem trN_last {sz : Int} {L : List Int} (h : Int) (s : 2 ≤ sz) : trN sz (L.drop (L.length - sz.toNat)) h = (L ++ [trH h]).drop (L.length + 1 - sz.toNat) := by
  unfold trN
  by_cases hc : (L.length : Int) < sz
  · rw [show L.length - sz.toNat = 0 by omega, show L.length + 1 - sz.toNat = 0 by omega, List.drop_zero, List.drop_zero, if_pos hc]
  · have hl : (L.drop (L.length - sz.toNat)).length = sz.toNat := by rw [List.length_drop]; omega
    have e : (L ++ [trH h]).drop (L.length - sz.toNat) = L.drop (L.length - sz.toNat) ++ [trH h] := List.drop_append_of_le_length (by omega)
    rw [if_neg (by rw [hl]; omega), show L.length + 1 - sz.toNat = (L.length - sz.toNat) + 1 by omega, ← List.drop_drop, e]
theorem otN_pre (far : Int) (D : List Int) (i : Nat) : ∀ n, i ≤ n → ∃ R, otN far D n = otN far D i ++ R
  | 0, h => ⟨[], by rw [show i = 0 by omega]; simp⟩
  | n + 1, h => by
    by_cases e : i = n + 1
    · exact ⟨[], by rw [e]; simp⟩
    · obtain ⟨R, hR⟩ := otN_pre far D i n (by omega)
      by_cases hf : far < D.getD n 0
      · exact ⟨R ++ [(n : Int)], by rw [show otN far D (n + 1) = if far < D.getD n 0 then otN far D n ++ [(n : Int)] else otN far D n from rfl, if_pos hf, hR, List.append_assoc]⟩
      · exact ⟨R, by rw [show otN far D (n + 1) = if far < D.getD n 0 then otN far D n ++ [(n : Int)] else otN far D n from rfl, if_neg hf, hR]⟩
theorem otN_hit {far : Int} {D : List Int} {i n : Nat} (h : i < n) (hf : far < D.getD i 0) : (otN far D i).length < (otN far D n).length ∧ (otN far D n).getD (otN far D i).length 0 = (i : Int) ∧ (otN far D (i + 1)).length = (otN far D i).length + 1 := by
  obtain ⟨R, hR⟩ := otN_pre far D (i + 1) n (by omega)
  have e : otN far D (i + 1) = otN far D i ++ [(i : Int)] := by
    show (if far < D.getD i 0 then otN far D i ++ [(i : Int)] else otN far D i) = _
    rw [if_pos hf]
  rw [hR, e]
  refine ⟨by simp, ?_, by simp⟩
  simp [List.getD]
theorem otN_miss {far : Int} {D : List Int} {i : Nat} (hf : ¬ far < D.getD i 0) : otN far D (i + 1) = otN far D i := by
  show (if far < D.getD i 0 then otN far D i ++ [(i : Int)] else otN far D i) = _
  rw [if_neg hf]
/-- The greatest so far, 0 ahead of all. -/
def tpN (D : List Int) : Nat → Int
  | 0 => 0
  | k + 1 => max (tpN D k) (D.getD k 0)
theorem tpN_mx {D : List Int} (h : ∀ i, 0 ≤ D.getD i 0) : ∀ k, tpN D (k + 1) = mxN D (k + 1)
  | 0 => by
    show max 0 (D.getD 0 0) = max (D.getD 0 0) (D.getD 0 0)
    have := h 0
    omega
  | k + 1 => by
    show max (tpN D (k + 1)) _ = max (mxN D (k + 1)) _
    rw [tpN_mx h k]
theorem dfV_pos (m s : Int) (L : List Int) (i : Nat) : 0 ≤ dfV m s L i := by
  unfold dfV
  split <;> omega
theorem dfN_pos (m s : Int) (L : List Int) (k i : Nat) : 0 ≤ (dfN m s L k).getD i 0 := by
  by_cases h : i < k
  · rw [dfN_at m s L h]
    exact dfV_pos m s L i
  · have : (dfN m s L k).getD i 0 = 0 := by simp [dfN, List.getD, show k ≤ i by omega]
    omega
end Go.Proofs.Yticecjjlafmclaa
