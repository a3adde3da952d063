/- Package cal and the document's answers; the laws CalTells and CalRises, walked. -/
import Derived.Test.YtbbmkmkalghaeaaNum
import Derived.Test.YtbbmkmkalghaeaaWide3
import Derived.Test.YtbbmkmkalghaeaaReg
namespace Go.Proofs.Ytbbmkmkalghaeaa
open Go.ChangeShapes Go.WideShapes Go.ChangeAt Go.RowKit
set_option linter.unusedVariables false
set_option linter.unusedSimpArgs false

theorem wq_pos {a b c : Int} (hc : 0 < c) : wq a b c = a * b / c := by
  unfold wq wN mag
  rw [if_neg (by omega), if_neg (by omega)]
theorem flV_pos {a b c : Int} (hc : 0 < c) (h1 : -1099511627775 ≤ a * b / c) (h2 : a * b / c ≤ 1099511627775) : flV a b c = a * b / c := by
  unfold flV flB wIn
  rw [wq_pos hc]
  rw [if_pos]
  simp
  exact ⟨by omega, h1, h2⟩
/-- The bounds of a quotient, rounded down. -/
theorem ediv_bd {a c B : Int} (hc : 0 < c) (h1 : -(B * c) ≤ a) (h2 : a ≤ B * c) : -B ≤ a / c ∧ a / c ≤ B :=
  ⟨Int.le_ediv_of_mul_le hc (by rw [Int.neg_mul]; exact h1), Int.ediv_le_of_le_mul hc h2⟩
theorem prod_bd {a b A B : Int} (a1 : -A ≤ a) (a2 : a ≤ A) (b1 : -B ≤ b) (b2 : b ≤ B) (hA : 0 ≤ A) : -(A * B) ≤ a * b ∧ a * b ≤ A * B := by
  have h1 : a * b ≤ A * B := by
    rcases Int.le_total 0 b with hb | hb
    · have e1 := Int.mul_le_mul_of_nonneg_right a2 hb
      have e2 := Int.mul_le_mul_of_nonneg_left b2 hA
      omega
    · have e1 := Int.mul_le_mul_of_nonpos_right a1 hb
      have e2 := Int.mul_le_mul_of_nonneg_left (show -b ≤ B by omega) hA
      rw [Int.neg_mul] at e1
      rw [Int.mul_neg] at e2
      omega
  have h2 : -(A * B) ≤ a * b := by
    rcases Int.le_total 0 b with hb | hb
    · have e1 := Int.mul_le_mul_of_nonneg_right a1 hb
      have e2 := Int.mul_le_mul_of_nonneg_left b2 hA
      rw [Int.neg_mul] at e1
      omega
    · have e1 := Int.mul_le_mul_of_nonpos_right a2 hb
      have e2 := Int.mul_le_mul_of_nonneg_left (show -b ≤ B by omega) hA
      rw [Int.mul_neg] at e2
      omega
  exact ⟨h2, h1⟩

structure ClOk (ga of sl dr : Int) : Prop where
  a1 : 256 ≤ ga
  a2 : ga ≤ 16777216
  b1 : -4294967296 ≤ of
  b2 : of ≤ 4294967296
  c1 : -1048576 ≤ sl
  c2 : sl ≤ 1048576
  d1 : -ga ≤ dr
  d2 : dr ≤ ga
def clR (ga of sl dr : Int) : Bool := decide (256 ≤ ga) && decide (ga ≤ 16777216) && decide (-4294967296 ≤ of) && decide (of ≤ 4294967296) && decide (-1048576 ≤ sl) && decide (sl ≤ 1048576) && decide (-ga ≤ dr) && decide (dr ≤ ga)
theorem clR_ok {ga of sl dr : Int} (h : clR ga of sl dr = true) : ClOk ga of sl dr := by
  unfold clR at h
  simp at h
  obtain ⟨⟨⟨⟨⟨⟨⟨a, b⟩, c⟩, d⟩, e⟩, f⟩, g⟩, i⟩ := h
  exact ⟨a, b, c, d, e, f, g, i⟩
theorem clR_no {ga of sl dr : Int} (h : clR ga of sl dr = false) : ¬ (256 ≤ ga ∧ ga ≤ 16777216 ∧ -4294967296 ≤ of ∧ of ≤ 4294967296 ∧ -1048576 ≤ sl ∧ sl ≤ 1048576 ∧ -ga ≤ dr ∧ dr ≤ ga) := by
  intro ⟨a, b, c, d, e, f, g, i⟩
  simp [clR, a, b, c, d, e, f, g, i] at h
def clT (t : Int) : Int := if t < -128 then -128 else if 127 < t then 127 else t
def clX (x : Int) : Int := if x < -8388608 then -8388608 else if 8388607 < x then 8388607 else x
theorem clT_bd (t : Int) : -128 ≤ clT t ∧ clT t ≤ 127 := by unfold clT; omega
theorem clX_bd (x : Int) : -8388608 ≤ clX x ∧ clX x ≤ 8388607 := by unfold clX; omega
def clG (ga dr t : Int) : Int := ga + dr * clT t / 256
def clV (ga of sl dr x t : Int) : Int := of + clG ga dr t * clX x / 65536 + sl * clT t / 256
theorem clP_bd {ga of sl dr : Int} (ok : ClOk ga of sl dr) (t : Int) : -2147483648 ≤ dr * clT t ∧ dr * clT t ≤ 2147483648 ∧ -8388608 ≤ dr * clT t / 256 ∧ dr * clT t / 256 ≤ 8388608 ∧ 127 ≤ clG ga dr t ∧ clG ga dr t ≤ 33554432 := by
  obtain ⟨a1, a2, b1, b2, c1, c2, d1, d2⟩ := ok
  have hT := clT_bd t
  have p := prod_bd (a := dr) (b := clT t) (A := ga) (B := 128) d1 d2 (by omega) (by omega) (by omega)
  unfold clG
  generalize dr * clT t = P at *
  omega
theorem clS_bd {ga of sl dr : Int} (ok : ClOk ga of sl dr) (t : Int) : -134217728 ≤ sl * clT t ∧ sl * clT t ≤ 134217728 ∧ -524288 ≤ sl * clT t / 256 ∧ sl * clT t / 256 ≤ 524288 := by
  obtain ⟨a1, a2, b1, b2, c1, c2, d1, d2⟩ := ok
  have hT := clT_bd t
  have p := prod_bd (a := sl) (b := clT t) (A := 1048576) (B := 128) c1 c2 (by omega) (by omega) (by omega)
  generalize sl * clT t = P at *
  omega
theorem clM_bd {ga of sl dr : Int} (ok : ClOk ga of sl dr) (t x : Int) : -281474976710656 ≤ clG ga dr t * clX x ∧ clG ga dr t * clX x ≤ 281474976710656 ∧ -4294967296 ≤ clG ga dr t * clX x / 65536 ∧ clG ga dr t * clX x / 65536 ≤ 4294967296 := by
  have g := clP_bd ok t
  have hX := clX_bd x
  have p := prod_bd (a := clG ga dr t) (b := clX x) (A := 33554432) (B := 8388608) (by omega) (by omega) (by omega) (by omega) (by omega)
  generalize clG ga dr t * clX x = P at *
  omega
theorem clV_bd {ga of sl dr : Int} (ok : ClOk ga of sl dr) (t x : Int) : -8600000000 ≤ clV ga of sl dr x t ∧ clV ga of sl dr x t ≤ 8600000000 := by
  have a := clM_bd ok t x
  have b := clS_bd ok t
  have c := ok.b1
  have d := ok.b2
  unfold clV
  omega
/-- Monotone, and how far apart at most. -/
theorem clV_rises {ga of sl dr : Int} (ok : ClOk ga of sl dr) (t : Int) {x y : Int} (h : x ≤ y) : clV ga of sl dr x t ≤ clV ga of sl dr y t := by
  have g := clP_bd ok t
  have e : clX x ≤ clX y := by unfold clX; omega
  have m := Int.mul_le_mul_of_nonneg_left e (show 0 ≤ clG ga dr t by omega)
  have d := Int.ediv_le_ediv (show (0 : Int) < 65536 by omega) m
  unfold clV
  omega
theorem clV_apart {ga of sl dr : Int} (ok : ClOk ga of sl dr) (t : Int) {x y : Int} (h1 : -8388608 ≤ x) (h : x ≤ y) (h2 : y ≤ 8388607) : clV ga of sl dr y t - clV ga of sl dr x t ≤ (y - x) * clG ga dr t / 65536 + 1 := by
  rw [show clV ga of sl dr y t = of + clG ga dr t * y / 65536 + sl * clT t / 256 by unfold clV clX; rw [if_neg (by omega), if_neg (by omega)], show clV ga of sl dr x t = of + clG ga dr t * x / 65536 + sl * clT t / 256 by unfold clV clX; rw [if_neg (by omega), if_neg (by omega)]]
  rw [Int.sub_mul, Int.mul_comm y, Int.mul_comm x]
  generalize clG ga dr t * y = P
  generalize clG ga dr t * x = Q
  omega
end Go.Proofs.Ytbbmkmkalghaeaa
