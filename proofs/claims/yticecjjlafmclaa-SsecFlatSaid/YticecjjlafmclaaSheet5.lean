/- The law SheetBetween, walked. -/
import Derived.Test.YticecjjlafmclaaSheet4
import Derived.Deep.Cut
namespace Go.Proofs.Yticecjjlafmclaa
open Go.ChangeShapes Go.WideShapes Go.ChangeAt Go.RowKit
set_option linter.unusedVariables false
set_option linter.unusedSimpArgs false

theorem crF_in {X Y : List Int} (hg : rgtB X Y = true) (x : Int) {lo hi : Int} (h : ∀ i, i < Y.length → lo ≤ Y.getD i 0 ∧ Y.getD i 0 ≤ hi) : lo ≤ crF X Y x ∧ crF X Y x ≤ hi :=
  crV_in hg (crK_ok (rgtB_at hg).2.2.2.1 x) h
theorem crF_pt {X Y : List Int} {t : Nat} (hg : rgtB X Y = true) (ht : t < X.length) : crF X Y (X.getD t 0) = Y.getD t 0 :=
  crV_at hg ht (crK_ok (rgtB_at hg).2.2.2.1 _)
theorem sheet_in {X Y : List Int} {Z : List (List Int)} (hs : shB X Y Z = true) (x y : Int) {lo hi : Int} (h : ∀ i, i < Z.length → ∀ k, k < (Z.getD i []).length → lo ≤ (Z.getD i []).getD k 0 ∧ (Z.getD i []).getD k 0 ≤ hi) : lo ≤ crF X (cuL Y Z y) x ∧ crF X (cuL Y Z y) x ≤ hi := by
  refine crF_in (cuL_right hs y) x fun i hi => ?_
  rw [cuL_len] at hi
  rw [cuL_at y hi]
  exact crF_in ((shB_at hs).2.2.2.2.2 i hi) y (h i hi)
theorem sheet_pt {X Y : List Int} {Z : List (List Int)} (hs : shB X Y Z = true) {i k : Nat} (hi : i < X.length) (hk : k < Y.length) : crF X (cuL Y Z (Y.getD k 0)) (X.getD i 0) = (Z.getD i []).getD k 0 := by
  obtain ⟨_, _, _, _, s5, s6⟩ := shB_at hs
  rw [crF_pt (cuL_right hs _) hi, cuL_at _ (by omega), crF_pt (s6 i (by omega)) hk]
end Go.Proofs.Yticecjjlafmclaa
