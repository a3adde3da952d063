/- The steps of a turn, rotations by them, cosine and sine, and the angle of a point, as numbers; plain. -/
import Derived.Test.YtiibgblpbjdpaaaRoot4
namespace Go.Proofs.Ytiibgblpbjdpaaa
open Go.ChangeShapes Go.WideShapes Go.ChangeAt Go.RowKit
set_option linter.unusedVariables false
set_option linter.unusedSimpArgs false
def tcN : Nat → Nat
  | 0 => 1073741818
  | 1 => 1073741803
  | 2 => 1073741744
  | 3 => 1073741507
  | 4 => 1073740560
  | 5 => 1073736770
  | 6 => 1073721610
  | 7 => 1073660972
  | 8 => 1073418432
  | 9 => 1072448454
  | 10 => 1068571463
  | 11 => 1053110175
  | 12 => 992008094
  | 13 => 759250124
  | _ => 1073741824
def tsN : Nat → Nat
  | 0 => 102943
  | 1 => 205887
  | 2 => 411774
  | 3 => 823549
  | 4 => 1647098
  | 5 => 3294193
  | 6 => 6588355
  | 7 => 13176463
  | 8 => 26350942
  | 9 => 52686013
  | 10 => 105245102
  | 11 => 209476638
  | 12 => 410903206
  | 13 => 759250125
  | _ => 1073741824
/-- Cosine and sine of a step. -/
def tC (k : Nat) : Int := (tcN k : Int)
def tS (k : Nat) : Int := (tsN k : Int)
/-- The cells of the steps. -/
def tG (i : Nat) : Int := if i < 14 then tC i else tS (i - 14)
theorem tcs_fin : ∀ k : Fin 14, 500000000 ≤ tC k.val ∧ tC k.val ≤ 1073741824 ∧ 0 < tS k.val ∧ tS k.val ≤ 1073741824 ∧ tC k.val * tC k.val + tS k.val * tS k.val ≤ 1152921504606846976 := by decide +kernel
theorem tcs_bd (k : Nat) (h : k < 14) : 500000000 ≤ tC k ∧ tC k ≤ 1073741824 ∧ 0 < tS k ∧ tS k ≤ 1073741824 ∧ tC k * tC k + tS k * tS k ≤ 1152921504606846976 := tcs_fin ⟨k, h⟩
/-- The steps come one from the other. -/
theorem tcs_next : ∀ k : Fin 13, (IsRoot ((1152921504606846976 + 1073741824 * tC (k.val + 1)) / 2) (tC k.val)) ∧ (1073741824 * tS (k.val + 1)) / (2 * tC k.val) = tS k.val := by unfold IsRoot; decide +kernel
theorem tcs_top : IsRoot 576460752303423488 (tC 13) ∧ 1152921504606846976 / (2 * tC 13) = tS 13 := by unfold IsRoot; decide +kernel
theorem rt_next (k : Nat) (h : k < 13) : rt ((1152921504606846976 + 1073741824 * tC (k + 1)) / 2) = tC k := rt_eq (tcs_next ⟨k, h⟩).1
theorem ts_next (k : Nat) (h : k < 13) : (1073741824 * tS (k + 1)) / (2 * tC k) = tS k := (tcs_next ⟨k, h⟩).2
theorem rt_top : rt 576460752303423488 = tC 13 := rt_eq tcs_top.1
/-- A quotient by One, as the program takes it. -/
def tdO (v : Int) : Int := v.tdiv 1073741824
theorem tdO_neg (v : Int) : tdO (-v) = -tdO v := Int.neg_tdiv ..
theorem tdO_pos {v : Int} (h : 0 ≤ v) : tdO v = v / 1073741824 := Int.tdiv_eq_ediv_of_nonneg h
theorem tdO_abs (v : Int) : (0 ≤ v → 0 ≤ tdO v ∧ tdO v * 1073741824 ≤ v) ∧ (v ≤ 0 → tdO v ≤ 0 ∧ v ≤ tdO v * 1073741824) := by
  refine ⟨fun h => by rw [tdO_pos h]; omega, fun h => ?_⟩
  obtain ⟨u, rfl⟩ : ∃ u, v = -u := ⟨-v, by omega⟩
  rw [tdO_neg, tdO_pos (by omega)]
  omega
theorem tdO_sign (v : Int) : 0 ≤ tdO v ↔ -1073741824 < v := by
  rcases Int.lt_or_le v 0 with h | h
  · obtain ⟨u, rfl⟩ : ∃ u, v = -u := ⟨-v, by omega⟩
    rw [tdO_neg, tdO_pos (by omega)]
    omega
  · have := ((tdO_abs v).1 h).1
    omega
theorem tsq_le {a b : Int} (h : (0 ≤ b → 0 ≤ a ∧ a ≤ b) ∧ (b ≤ 0 → a ≤ 0 ∧ b ≤ a)) : a * a ≤ b * b := by
  rcases Int.le_total 0 b with q | q
  · have := h.1 q
    exact Int.mul_le_mul this.2 this.2 this.1 q
  · have h2 := h.2 q
    have : (-a) * (-a) ≤ (-b) * (-b) := Int.mul_le_mul (by omega) (by omega) (by omega) (by omega)
    simpa [Int.neg_mul_neg] using this
theorem tdO_sq (v : Int) : (tdO v * tdO v) * 1152921504606846976 ≤ v * v := by
  have h := tdO_abs v
  have := tsq_le (a := tdO v * 1073741824) (b := v) ⟨fun q => ⟨by have := h.1 q; omega, (h.1 q).2⟩, fun q => ⟨by have := h.2 q; omega, (h.2 q).2⟩⟩
  have e : (tdO v * 1073741824) * (tdO v * 1073741824) = (tdO v * tdO v) * 1152921504606846976 := by grind
  omega
def fX (k : Nat) (x y : Int) : Int := tdO (x * tC k - y * tS k)
def fY (k : Nat) (x y : Int) : Int := tdO (x * tS k + y * tC k)
def bX (k : Nat) (x y : Int) : Int := tdO (x * tC k + y * tS k)
def bY (k : Nat) (x y : Int) : Int := tdO (y * tC k - x * tS k)
/-- A point's square, within M. -/
def Nm (x y M : Int) : Prop := x * x + y * y ≤ M
theorem rot_le {x y c s X Y M : Int} (h : x * x + y * y ≤ M) (hn : c * c + s * s ≤ 1152921504606846976) (e : X * X + Y * Y = (x * x + y * y) * (c * c + s * s)) : tdO X * tdO X + tdO Y * tdO Y ≤ M := by
  have a := tdO_sq X
  have b := tdO_sq Y
  have sq : ∀ z : Int, 0 ≤ z * z := fun z => by
    rcases Int.le_total 0 z with q | q
    · exact Int.mul_nonneg q q
    · have := Int.mul_nonneg (show 0 ≤ -z by omega) (show 0 ≤ -z by omega); simpa [Int.neg_mul_neg] using this
  have p := sq x
  have q := sq y
  have m : (x * x + y * y) * (c * c + s * s) ≤ (x * x + y * y) * 1152921504606846976 := Int.mul_le_mul_of_nonneg_left hn (by omega)
  generalize (x * x + y * y) * (c * c + s * s) = Z at *
  generalize x * x + y * y = N at *
  generalize tdO X * tdO X = u at *
  generalize tdO Y * tdO Y = v at *
  generalize X * X = U at *
  generalize Y * Y = V at *
  omega
theorem f_le {k : Nat} (hk : k < 14) {x y M : Int} (h : Nm x y M) : Nm (fX k x y) (fY k x y) M := rot_le h (tcs_bd k hk).2.2.2.2 (by grind)
theorem b_le {k : Nat} (hk : k < 14) {x y M : Int} (h : Nm x y M) : Nm (bX k x y) (bY k x y) M := rot_le h (tcs_bd k hk).2.2.2.2 (by grind)
theorem tsq_bd {x M : Int} (B : Int) (hB : 0 ≤ B) (h : x * x ≤ M) (hM : M < (B + 1) * (B + 1)) : -B ≤ x ∧ x ≤ B := by
  have k : ∀ z : Int, z * z ≤ M → z ≤ B := fun z hz => by
    by_cases a : z ≤ B
    · exact a
    · have := Int.mul_le_mul (show B + 1 ≤ z by omega) (show B + 1 ≤ z by omega) (by omega) (by omega : (0:Int) ≤ z)
      omega
  have := k x h
  have := k (-x) (by simpa [Int.neg_mul_neg] using h)
  omega
theorem tsq_nn (z : Int) : 0 ≤ z * z := by
  rcases Int.le_total 0 z with q | q
  · exact Int.mul_nonneg q q
  · have := Int.mul_nonneg (show 0 ≤ -z by omega) (show 0 ≤ -z by omega); simpa [Int.neg_mul_neg] using this
theorem Nm.bd {x y : Int} (h : Nm x y 2305843009213693952) : (-1518500250 ≤ x ∧ x ≤ 1518500250) ∧ (-1518500250 ≤ y ∧ y ≤ 1518500250) := by
  have h : x * x + y * y ≤ 2305843009213693952 := h
  have := tsq_nn x
  have := tsq_nn y
  exact ⟨tsq_bd (M := 2305843009213693952) 1518500250 (by omega) (by omega) (by decide), tsq_bd (M := 2305843009213693952) 1518500250 (by omega) (by omega) (by decide)⟩
theorem Nm.one {x y : Int} (h : Nm x y 1152921504606846976) : (-1073741824 ≤ x ∧ x ≤ 1073741824) ∧ (-1073741824 ≤ y ∧ y ≤ 1073741824) := by
  have h : x * x + y * y ≤ 1152921504606846976 := h
  have := tsq_nn x
  have := tsq_nn y
  exact ⟨tsq_bd (M := 1152921504606846976) 1073741824 (by omega) (by omega) (by decide), tsq_bd (M := 1152921504606846976) 1073741824 (by omega) (by omega) (by decide)⟩
theorem Nm.mono {x y M K : Int} (h : Nm x y M) (hM : M ≤ K) : Nm x y K := Int.le_trans h hM
theorem mulT {x c : Int} (h : -1518500250 ≤ x ∧ x ≤ 1518500250) (h0 : 0 ≤ c) (h1 : c ≤ 1073741824) : -1630477228179456000 ≤ x * c ∧ x * c ≤ 1630477228179456000 := by
  have a : x * c ≤ 1518500250 * c := Int.mul_le_mul_of_nonneg_right h.2 h0
  have b : -1518500250 * c ≤ x * c := Int.mul_le_mul_of_nonneg_right h.1 h0
  omega
/-- The point at an angle: the bits below k are still to be gone through. -/
def atF (a : Nat) : Nat → Int × Int → Int × Int
  | 0, p => p
  | k + 1, p => if a / 2 ^ k % 2 = 1 then atF a k (fX k p.1 p.2, fY k p.1 p.2) else atF a k p
def atH (a : Nat) : Int × Int := if a / 32768 % 2 = 1 then (-1073741824, 0) else (1073741824, 0)
def atS (a : Nat) : Int × Int := if a / 16384 % 2 = 1 then (-(atH a).2, (atH a).1) else atH a
def atP (a : Nat) : Int × Int := atF a 14 (atS a)
theorem atF_le (a : Nat) {M : Int} : ∀ k, k ≤ 14 → ∀ p, Nm p.1 p.2 M → Nm (atF a k p).1 (atF a k p).2 M
  | 0, _, p, h => h
  | k + 1, hk, p, h => by
    unfold atF
    split
    · exact atF_le a k (by omega) _ (f_le (by omega) h)
    · exact atF_le a k (by omega) _ h
theorem atS_le (a : Nat) : Nm (atS a).1 (atS a).2 1152921504606846976 := by
  unfold atS atH Nm
  split <;> split <;> simp <;> decide
theorem atP_le (a : Nat) : Nm (atP a).1 (atP a).2 1152921504606846976 := atF_le a 14 (by omega) _ (atS_le a)
/-- The angle of a point of the first quarter: the bits below k are still to be found. -/
def anF : Nat → Int × Int → Nat → Nat
  | 0, _, A => A
  | k + 1, p, A => if 0 ≤ bY k p.1 p.2 then anF k (bX k p.1 p.2, bY k p.1 p.2) (A + 2 ^ k) else anF k p A
theorem anF_add : ∀ k p A, anF k p A = anF k p 0 + A
  | 0, p, A => by simp [anF]
  | k + 1, p, A => by
    unfold anF
    split
    · rw [anF_add k _ (A + 2 ^ k), anF_add k _ (0 + 2 ^ k)]; omega
    · rw [anF_add k _ A]
theorem anF_lt : ∀ k p, anF k p 0 < 2 ^ k
  | 0, p => by simp [anF]
  | k + 1, p => by
    have e : 2 ^ (k + 1) = 2 ^ k + 2 ^ k := by rw [Nat.pow_succ]; omega
    unfold anF
    split
    · have := anF_lt k (bX k p.1 p.2, bY k p.1 p.2)
      rw [anF_add]; omega
    · have := anF_lt k p
      omega
def tcl (n : Int) : Int := if n < -1073741824 then -1073741824 else if 1073741824 < n then 1073741824 else n
theorem tcl_bd (n : Int) : -1073741824 ≤ tcl n ∧ tcl n ≤ 1073741824 := by unfold tcl; omega
/-- The angle of a point. -/
def anS (p : Int × Int) : (Int × Int) × Nat := if p.2 < 0 then ((-p.1, -p.2), 32768) else (p, 0)
def anQ (p : (Int × Int) × Nat) : (Int × Int) × Nat := if p.1.1 < 0 then ((p.1.2, -p.1.1), p.2 + 16384) else p
def anC (p : Int × Int) : Nat := anF 14 (anQ (anS p)).1 (anQ (anS p)).2
def anV (x y : Int) : Nat := if tcl x = 0 ∧ tcl y = 0 then 0 else anC (tcl x, tcl y)
theorem anQ_le (p : Int × Int) : (anQ (anS p)).2 ≤ 49152 := by
  have h1 : (anS p).2 ≤ 32768 := by
    unfold anS
    by_cases h : p.2 < 0
    · rw [if_pos h]; exact Nat.le_refl _
    · rw [if_neg h]; exact Nat.zero_le _
  unfold anQ
  by_cases h : (anS p).1.1 < 0
  · rw [if_pos h]; exact Nat.add_le_add_right h1 16384
  · rw [if_neg h]; exact Nat.le_trans h1 (by decide)
theorem sum_lt {u v : Nat} (h1 : u < 16384) (h2 : v ≤ 49152) : u + v < 65536 := by omega
theorem anF_14 (p : Int × Int) (A : Nat) (h : A ≤ 49152) : anF 14 p A < 65536 := by
  rw [anF_add]
  exact sum_lt (anF_lt 14 p) h
theorem anC_lt (p : Int × Int) : anC p < 65536 := anF_14 _ _ (anQ_le p)
theorem anV_lt (x y : Int) : anV x y < 65536 := by
  unfold anV
  by_cases h : tcl x = 0 ∧ tcl y = 0
  · rw [if_pos h]; decide
  · rw [if_neg h]; exact anC_lt _
end Go.Proofs.Ytiibgblpbjdpaaa
