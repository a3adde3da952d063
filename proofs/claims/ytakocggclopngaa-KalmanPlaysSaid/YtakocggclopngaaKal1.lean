/- Plain: a Kalman estimator's numbers, as the document computes them. -/
import Derived.Test.YtakocggclopngaaMat7
namespace Go.Proofs.Ytakocggclopngaa
open Go.ChangeShapes Go.WideShapes Go.ChangeAt Go.RowKit
set_option linter.unusedVariables false
set_option linter.unusedSimpArgs false

/-- Three numbers lie between two. -/
def kIn (A : Nat → Int) (lo hi : Int) : Bool := decide ((lo ≤ A 0 ∧ A 0 ≤ hi) ∧ (lo ≤ A 1 ∧ A 1 ≤ hi) ∧ (lo ≤ A 2 ∧ A 2 ≤ hi))
theorem kIn_at {A : Nat → Int} {lo hi : Int} (h : kIn A lo hi = true) {i : Nat} (hi3 : i < 3) : lo ≤ A i ∧ A i ≤ hi := by
  simp only [kIn, decide_eq_true_eq] at h
  rcases (show i = 0 ∨ i = 1 ∨ i = 2 by omega) with rfl | rfl | rfl
  · exact h.1
  · exact h.2.1
  · exact h.2.2
/-- Clipped to 2^36. -/
def c36 (n : Int) : Int := if n < -68719476736 then -68719476736 else if 68719476736 < n then 68719476736 else n
theorem c36_bd (n : Int) : -68719476736 ≤ c36 n ∧ c36 n ≤ 68719476736 := by unfold c36; omega
theorem c36_in {n : Int} (h : -68719476736 ≤ n ∧ n ≤ 68719476736) : c36 n = n := by unfold c36; omega
theorem clp_in {n : Int} (h : -1099511627775 ≤ n ∧ n ≤ 1099511627775) : clp n = n := by unfold clp; omega
theorem clp_neg (n : Int) : clp (-n) = -clp n := by unfold clp; omega
theorem smI_neg (x y : Int) : smI x (-y) = sbI x y := by
  unfold smI sbI
  rw [clp_neg, Int.sub_eq_add_neg]
theorem smI_zero {x : Int} (h : -1099511627775 ≤ x ∧ x ≤ 1099511627775) : smI x 0 = x := by
  unfold smI
  rw [show clp 0 = 0 by decide, Int.add_zero, clp_clp, clp_in h]
/-- What a prediction makes of the doubt. -/
def kPr (P N : Nat → Int) (t : Nat) : Int := if t % 4 = 0 then min (smI (P t) (N (t / 4))) 274877906944 else P t
/-- The doubt times the factors; how sure it is; the gain; the move; the new state; the doubt less. -/
def kV (P H : Nat → Int) : Nat → Int := apl P H
def kS (P H : Nat → Int) (n : Int) : Int := (if dtI H (kV P H) < 0 then 0 else dtI H (kV P H)) + n
def kGn (P H : Nat → Int) (n : Int) (t : Nat) : Int := c36 (fitV (kV P H t) 1048576 (kS P H n))
def kMv (P H : Nat → Int) (n off : Int) (t : Nat) : Int := fitV (kGn P H n t) off 1048576
def kX (X P H : Nat → Int) (n off : Int) (t : Nat) : Int := c36 (smI (X t) (kMv P H n off t))
def kD (P H : Nat → Int) (n : Int) (t : Nat) : Int := if t % 4 = 0 then (if sbI (P t) (out (kGn P H n) (kV P H) t) < 0 then 0 else sbI (P t) (out (kGn P H n) (kV P H) t)) else sbI (P t) (out (kGn P H n) (kV P H) t)
def kP (P H : Nat → Int) (n : Int) : Nat → Int := mir (kD P H n)
theorem dtI_bd (A B : Nat → Int) : -1099511627775 ≤ dtI A B ∧ dtI A B ≤ 1099511627775 := clp_bd _
theorem kV_bd (P H : Nat → Int) (t : Nat) : -1099511627775 ≤ kV P H t ∧ kV P H t ≤ 1099511627775 := by
  unfold kV apl
  first | exact dtI_bd _ _ | (split <;> first | exact dtI_bd _ _ | omega)
theorem kS_bd (P H : Nat → Int) {n : Int} (h : 1 ≤ n ∧ n ≤ 68719476736) : 1 ≤ kS P H n ∧ kS P H n ≤ 1168231104511 := by
  have := dtI_bd H (kV P H)
  unfold kS
  split <;> omega
theorem sbI_bd (x y : Int) : -1099511627775 ≤ sbI x y ∧ sbI x y ≤ 1099511627775 := clp_bd _
theorem smI_bd (x y : Int) : -1099511627775 ≤ smI x y ∧ smI x y ≤ 1099511627775 := clp_bd _
/-- A move is a product. -/
theorem kMv_prd (P H : Nat → Int) (n : Int) {off : Int} (h : -68719476736 ≤ off ∧ off ≤ 68719476736) (t : Nat) : kMv P H n off t = prd (kGn P H n t) off := by
  have := c36_bd (fitV (kV P H t) 1048576 (kS P H n))
  unfold kMv prd
  rw [clp_in (n := kGn P H n t) (by unfold kGn; omega), clp_in (n := off) (by omega)]
/-- No number outside of the bounds. -/
def kB (P : Nat → Int) : Prop := ∀ t, t < 9 → -1099511627775 ≤ P t ∧ P t ≤ 1099511627775
theorem kPr_B {P : Nat → Int} (h : kB P) (N : Nat → Int) : kB (kPr P N) := fun t ht => by
  have := smI_bd (P t) (N (t / 4))
  have := h t ht
  unfold kPr
  split <;> omega
theorem kD_bd (P H : Nat → Int) (n : Int) (t : Nat) : -1099511627775 ≤ kD P H n t ∧ kD P H n t ≤ 1099511627775 := by
  have := sbI_bd (P t) (out (kGn P H n) (kV P H) t)
  unfold kD
  repeat' split
  all_goals omega
theorem kP_B (P H : Nat → Int) (n : Int) : kB (kP P H n) := fun t ht => kD_bd P H n _
/-- A gain has the sign of its number: what is taken off the diagonal is not below 0. -/
theorem gain_sign {v s : Int} (hs : 0 < s) : (0 ≤ v → 0 ≤ c36 (fitV v 1048576 s)) ∧ (v ≤ 0 → c36 (fitV v 1048576 s) ≤ 0) := by
  have hf : fitV v 1048576 s = if v * 1048576 / s < -1099511627775 then -1099511627775 else if 1099511627775 < v * 1048576 / s then 1099511627775 else v * 1048576 / s := by
    unfold fitV
    rw [wq_posM hs, if_neg (by omega)]
  refine ⟨fun h => ?_, fun h => ?_⟩
  · have : 0 ≤ v * 1048576 / s := Int.ediv_nonneg (by omega) (by omega)
    rw [hf]; unfold c36; omega
  · have : v * 1048576 / s ≤ 0 := by
      have h1 : v * 1048576 / s ≤ 0 / s := Int.ediv_le_ediv hs (by omega)
      simpa using h1
    rw [hf]; unfold c36; omega
theorem prd_sign {g v : Int} (h : (0 ≤ v → 0 ≤ g) ∧ (v ≤ 0 → g ≤ 0)) : 0 ≤ prd g v := by
  rw [prd_is]
  have hm : 0 ≤ clp g * clp v := by
    rcases Int.le_total 0 v with hv | hv
    · exact Int.mul_nonneg (by have := h.1 hv; unfold clp; omega) (by unfold clp; omega)
    · have h1 : clp g ≤ 0 := by have := h.2 hv; unfold clp; omega
      have h2 : clp v ≤ 0 := by unfold clp; omega
      have := Int.mul_nonneg (a := -clp g) (b := -clp v) (by omega) (by omega)
      rwa [Int.neg_mul_neg] at this
  have : 0 ≤ clp g * clp v / 1048576 := Int.ediv_nonneg hm (by omega)
  unfold clv
  omega
/-- What stays so of the doubt. -/
structure KOk (P : Nat → Int) : Prop where
  b : kB P
  sym : ∀ t, t < 9 → trp P t = P t
  d : ∀ t, t < 9 → t % 4 = 0 → 0 ≤ P t ∧ P t ≤ 274877906944
theorem kPr_ok {P N : Nat → Int} (h : KOk P) (hN : kIn N 0 68719476736 = true) : KOk (kPr P N) := by
  refine ⟨kPr_B h.b N, fun t ht => ?_, fun t ht hd => ?_⟩
  · have hs := h.sym t ht
    unfold trp at hs ⊢
    unfold kPr
    rcases (show t = 0 ∨ t = 1 ∨ t = 2 ∨ t = 3 ∨ t = 4 ∨ t = 5 ∨ t = 6 ∨ t = 7 ∨ t = 8 by omega) with rfl | rfl | rfl | rfl | rfl | rfl | rfl | rfl | rfl <;> simp at hs ⊢ <;> exact hs
  · have h1 := h.d t ht hd
    have h2 := kIn_at hN (i := t / 4) (by omega)
    unfold kPr
    rw [if_pos hd]
    have h3 : smI (P t) (N (t / 4)) = P t + N (t / 4) := by
      unfold smI
      rw [clp_in (n := P t) (by omega), clp_in (n := N (t / 4)) (by omega), clp_in (by omega)]
    rw [h3]
    omega
theorem kP_ok {P H : Nat → Int} {n : Int} (h : KOk P) (hn : 1 ≤ n ∧ n ≤ 68719476736) : KOk (kP P H n) := by
  refine ⟨kP_B P H n, fun t ht => ?_, fun t ht hd => ?_⟩
  · unfold kP trp mir
    rcases (show t = 0 ∨ t = 1 ∨ t = 2 ∨ t = 3 ∨ t = 4 ∨ t = 5 ∨ t = 6 ∨ t = 7 ∨ t = 8 by omega) with rfl | rfl | rfl | rfl | rfl | rfl | rfl | rfl | rfl <;> rfl
  · have e : kP P H n t = kD P H n t := by
      unfold kP mir
      rcases (show t = 0 ∨ t = 4 ∨ t = 8 by omega) with rfl | rfl | rfl <;> rfl
    rw [e]
    have h1 := h.d t ht hd
    have hs := kS_bd P H hn
    have hp : 0 ≤ out (kGn P H n) (kV P H) t := by
      unfold out
      rw [show t % 3 = t / 3 by omega]
      exact prd_sign (gain_sign (by omega))
    have hu : sbI (P t) (out (kGn P H n) (kV P H) t) ≤ P t := by
      unfold sbI
      rw [clp_in (n := P t) (by omega)]
      have : 0 ≤ clp (out (kGn P H n) (kV P H) t) := by unfold clp; omega
      unfold clp at this ⊢
      omega
    unfold kD
    rw [if_pos hd]
    split <;> omega
/-- A measurement that is what was expected moves no state. -/
theorem kX_same {X P H : Nat → Int} {n : Int} {t : Nat} (hX : -68719476736 ≤ X t ∧ X t ≤ 68719476736) : kX X P H n 0 t = X t := by
  have hm : kMv P H n 0 t = 0 := by
    unfold kMv fitV
    rw [wq_posM (by omega), Int.mul_zero]
    decide
  unfold kX
  rw [hm, smI_zero (by omega), c36_in hX]
theorem kX_in (X P H : Nat → Int) (n off : Int) : kIn (kX X P H n off) (-68719476736) 68719476736 = true := by
  simp only [kIn, decide_eq_true_eq]
  exact ⟨c36_bd _, c36_bd _, c36_bd _⟩
end Go.Proofs.Ytakocggclopngaa
