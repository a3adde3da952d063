/- Package curve: plain facts on what a right curve tells. -/
import Derived.Test.YticecjjlafmclaaCurve3
namespace Go.Proofs.Yticecjjlafmclaa
open Go.ChangeShapes Go.WideShapes Go.ChangeAt Go.RowKit
set_option linter.unusedVariables false
set_option linter.unusedSimpArgs false

theorem cwq_pos {a b c : Int} (hc : 0 < c) : wq a b c = a * b / c := by
  unfold wq wN mag
  rw [if_neg (by omega), if_neg (by omega)]
theorem cflV_pos {a b c : Int} (hc : 0 < c) (h1 : -1099511627775 ≤ a * b / c) (h2 : a * b / c ≤ 1099511627775) : flV a b c = a * b / c := by
  unfold flV flB wIn
  rw [cwq_pos hc]
  rw [if_pos]
  simp
  exact ⟨by omega, h1, h2⟩

/-- A step between two points lies between both. -/
theorem step_up {a b c : Int} (ha : 0 ≤ a) (hb : 0 ≤ b) (hbc : b < c) : 0 ≤ a * b / c ∧ a * b / c ≤ a := by
  have h1 : 0 ≤ a * b := Int.mul_nonneg ha hb
  have h2 : a * b ≤ a * c := Int.mul_le_mul_of_nonneg_left (by omega) ha
  exact ⟨Int.ediv_nonneg h1 (by omega), Int.ediv_le_of_le_mul (by omega) h2⟩
theorem step_down {a b c : Int} (ha : a ≤ 0) (hb : 0 ≤ b) (hbc : b < c) : a ≤ a * b / c ∧ a * b / c ≤ 0 := by
  have h0 : 0 ≤ -a * (c - b) := Int.mul_nonneg (by omega) (by omega)
  rw [Int.neg_mul, Int.mul_sub] at h0
  have h1 : 0 ≤ -a * b := Int.mul_nonneg (by omega) hb
  rw [Int.neg_mul] at h1
  exact ⟨Int.le_ediv_of_mul_le (by omega) (by omega), Int.ediv_le_of_le_mul (by omega) (by omega)⟩

/-- Where a place lies, and what is told there. -/
theorem crV_seg {X Y : List Int} {x : Int} {k : Nat} (hg : rgtB X Y = true) (hk : CrK X x k) :
    (k = 0 ∧ crV X Y x k = Y.getD 0 0) ∨ (k = X.length ∧ crV X Y x k = Y.getD (X.length - 1) 0) ∨
    ∃ j, k = j + 1 ∧ j + 1 < X.length ∧ crV X Y x k = Y.getD j 0 + (Y.getD (j + 1) 0 - Y.getD j 0) * (x - X.getD j 0) / (X.getD (j + 1) 0 - X.getD j 0) ∧ X.getD j 0 ≤ x ∧ x < X.getD (j + 1) 0 ∧
      (Y.getD j 0 ≤ Y.getD (j + 1) 0 → Y.getD j 0 ≤ crV X Y x k ∧ crV X Y x k ≤ Y.getD (j + 1) 0) ∧ (Y.getD (j + 1) 0 ≤ Y.getD j 0 → Y.getD (j + 1) 0 ≤ crV X Y x k ∧ crV X Y x k ≤ Y.getD j 0) := by
  obtain ⟨n1, n2, n3, g1, g2, g3⟩ := rgtB_at hg
  obtain ⟨a1, a2⟩ := hk.at
  have hkl := hk.le
  rcases (show k = 0 ∨ k = X.length ∨ (∃ j, k = j + 1 ∧ j + 1 < X.length) by
    rcases Nat.eq_zero_or_pos k with h | h
    · exact .inl h
    · by_cases e : k = X.length
      · exact .inr (.inl e)
      · exact .inr (.inr ⟨k - 1, by omega, by omega⟩)) with rfl | ek | ⟨j, rfl, hj⟩
  · exact .inl ⟨rfl, rfl⟩
  · refine .inr (.inl ⟨ek, ?_⟩)
    unfold crV; rw [if_neg (by omega), if_pos ek]
  · refine .inr (.inr ⟨j, rfl, hj, ?_⟩)
    have e0 : crV X Y x (j + 1) = Y.getD j 0 + flV (Y.getD (j + 1) 0 - Y.getD j 0) (x - X.getD j 0) (X.getD (j + 1) 0 - X.getD j 0) := by unfold crV; rw [if_neg (by omega), if_neg (by omega)]; rfl
    have b3 := insB_at g3 (show j < Y.length by omega)
    have b4 := insB_at g3 (show j + 1 < Y.length by omega)
    have b5 := a1 j (by omega)
    have b6 := a2 hj
    rw [e0]
    generalize X.getD j 0 = p0 at *
    generalize X.getD (j + 1) 0 = p1 at *
    generalize Y.getD j 0 = q0 at *
    generalize Y.getD (j + 1) 0 = q1 at *
    have hu := fun h => step_up (a := q1 - q0) (b := x - p0) (c := p1 - p0) h (by omega) (by omega)
    have hd := fun h => step_down (a := q1 - q0) (b := x - p0) (c := p1 - p0) h (by omega) (by omega)
    have e1 : flV (q1 - q0) (x - p0) (p1 - p0) = (q1 - q0) * (x - p0) / (p1 - p0) := by
      by_cases c : 0 ≤ q1 - q0
      · have := hu c
        exact cflV_pos (by omega) (by omega) (by omega)
      · have := hd (by omega)
        exact cflV_pos (by omega) (by omega) (by omega)
    rw [e1]
    refine ⟨rfl, b5, b6, fun h => ?_, fun h => ?_⟩
    · have := hu (by omega)
      omega
    · have := hd (by omega)
      omega

theorem crV_in {X Y : List Int} {x : Int} {k : Nat} (hg : rgtB X Y = true) (hk : CrK X x k) {lo hi : Int} (h : ∀ i, i < Y.length → lo ≤ Y.getD i 0 ∧ Y.getD i 0 ≤ hi) : lo ≤ crV X Y x k ∧ crV X Y x k ≤ hi := by
  obtain ⟨n1, n2, n3, g1, g2, g3⟩ := rgtB_at hg
  rcases crV_seg hg hk with ⟨_, e⟩ | ⟨_, e⟩ | ⟨j, _, hj, _, _, _, h1, h2⟩
  · rw [e]; exact h 0 (by omega)
  · rw [e]; exact h _ (by omega)
  · have a := h j (by omega)
    have b := h (j + 1) (by omega)
    by_cases c : Y.getD j 0 ≤ Y.getD (j + 1) 0
    · have := h1 c; omega
    · have := h2 (by omega); omega

theorem crV_bd {X Y : List Int} {x : Int} {k : Nat} (hg : rgtB X Y = true) (hk : CrK X x k) : -549755813887 ≤ crV X Y x k ∧ crV X Y x k ≤ 549755813887 :=
  crV_in hg hk (fun i hi => insB_at (rgtB_at hg).2.2.2.2.2 hi)

theorem risB_le {l : List Int} (h : risB l = true) {i j : Nat} (hij : i ≤ j) (hj : j < l.length) : l.getD i 0 ≤ l.getD j 0 := by
  by_cases e : i = j
  · subst e; exact Int.le_refl _
  · obtain ⟨d, rfl⟩ : ∃ d, j = i + d + 1 := ⟨j - i - 1, by omega⟩
    have := risB_lt h i d hj
    omega

/-- At a point the point is told. -/
theorem crV_at {X Y : List Int} {k t : Nat} (hg : rgtB X Y = true) (ht : t < X.length) (hk : CrK X (X.getD t 0) k) : crV X Y (X.getD t 0) k = Y.getD t 0 := by
  obtain ⟨n1, n2, n3, g1, g2, g3⟩ := rgtB_at hg
  obtain ⟨a1, a2⟩ := hk.at
  have hkl := hk.le
  have h1 : t < k := by
    rcases Nat.lt_or_ge t k with h | h
    · exact h
    · have := a2 (by omega)
      have := risB_le g1 h ht
      omega
  have h2 : ¬ t + 1 < k := fun h => by
    have := a1 (t + 1) h
    have := risB_at g1 (i := t) (by omega)
    omega
  obtain rfl : k = t + 1 := by omega
  rcases crV_seg hg hk with ⟨c, e⟩ | ⟨c, e⟩ | ⟨j, c, hj, e, _, _, _, _⟩
  · omega
  · rw [e, ← c]; rfl
  · obtain rfl : j = t := by omega
    rw [e, Int.sub_self, Int.mul_zero, Int.zero_ediv, Int.add_zero]

/-- Does a row never go down? -/
def ndB (l : List Int) : Bool := decide (∀ i, i < l.length → 1 ≤ i → l.getD (i - 1) 0 ≤ l.getD i 0)
theorem ndB_at {l : List Int} (h : ndB l = true) {i : Nat} (hi : i + 1 < l.length) : l.getD i 0 ≤ l.getD (i + 1) 0 := by
  have := of_decide_eq_true h (i + 1) hi (by omega)
  rwa [show i + 1 - 1 = i by omega] at this
theorem ndB_add {l : List Int} (h : ndB l = true) : ∀ (i d : Nat), i + d < l.length → l.getD i 0 ≤ l.getD (i + d) 0
  | i, 0, hi => Int.le_refl _
  | i, d + 1, hi => by
    have a := ndB_add h i d (by omega)
    have b := ndB_at h (i := i + d) (by omega)
    rw [show i + (d + 1) = i + d + 1 by omega]
    omega
theorem ndB_le {l : List Int} (h : ndB l = true) {i j : Nat} (hij : i ≤ j) (hj : j < l.length) : l.getD i 0 ≤ l.getD j 0 := by
  have := ndB_add h i (j - i) (by omega)
  rwa [show i + (j - i) = j by omega] at this
theorem risB_ndB {l : List Int} (h : risB l = true) : ndB l = true := decide_eq_true fun i a b => by
  have := of_decide_eq_true h i a b
  omega

/-- Where Y never goes down a greater place tells as much, or more. -/
theorem crV_mono {X Y : List Int} {x y : Int} {k m : Nat} (hg : rgtB X Y = true) (hn : ndB Y = true) (hk : CrK X x k) (hm : CrK X y m) (h : x ≤ y) : crV X Y x k ≤ crV X Y y m := by
  obtain ⟨n1, n2, n3, g1, g2, g3⟩ := rgtB_at hg
  obtain ⟨a1, a2⟩ := hk.at
  obtain ⟨b1, b2⟩ := hm.at
  have hkl := hk.le
  have hml := hm.le
  have hkm : k ≤ m := by
    rcases Nat.lt_or_ge m k with c | c
    · have := b2 (by omega)
      have := a1 m c
      omega
    · exact c
  by_cases e : k = m
  · subst e
    rcases crV_seg hg hk with ⟨c, e⟩ | ⟨c, e⟩ | ⟨j, c, hj, e, i1, i2, _, _⟩
    · subst c; exact Int.le_refl _
    · have : crV X Y y k = crV X Y x k := by unfold crV; rw [if_neg (by omega), if_pos c, if_neg (by omega), if_pos c]
      omega
    · rcases crV_seg hg hm with ⟨c', e'⟩ | ⟨c', e'⟩ | ⟨j', c', hj', e', _, _, _, _⟩
      · omega
      · omega
      · obtain rfl : j = j' := by omega
        rw [e, e']
        have hs := ndB_at hn (i := j) (by omega)
        have hr := risB_at g1 hj
        have : (Y.getD (j + 1) 0 - Y.getD j 0) * (x - X.getD j 0) ≤ (Y.getD (j + 1) 0 - Y.getD j 0) * (y - X.getD j 0) := Int.mul_le_mul_of_nonneg_left (by omega) (by omega)
        have := Int.ediv_le_ediv (show 0 < X.getD (j + 1) 0 - X.getD j 0 by omega) this
        omega
  · have u : crV X Y x k ≤ Y.getD k 0 := by
      rcases crV_seg hg hk with ⟨c, e⟩ | ⟨c, e⟩ | ⟨j, c, hj, _, _, _, h1, _⟩
      · rw [e, c]; exact Int.le_refl _
      · omega
      · rw [c]; rw [c] at h1; exact (h1 (ndB_at hn (by omega))).2
    have v : Y.getD (m - 1) 0 ≤ crV X Y y m := by
      rcases crV_seg hg hm with ⟨c, e⟩ | ⟨c, e⟩ | ⟨j, c, hj, _, _, _, h1, _⟩
      · omega
      · rw [e, c]; exact Int.le_refl _
      · rw [show m - 1 = j by omega]; exact (h1 (ndB_at hn (by omega))).1
    have := ndB_le hn (show k ≤ m - 1 by omega) (by omega)
    omega

/-- The least and the greatest of the first n. -/
def mnP (l : List Int) : Nat → Int
  | 0 => l.getD 0 0
  | n + 1 => min (mnP l n) (l.getD n 0)
def mxP (l : List Int) : Nat → Int
  | 0 => l.getD 0 0
  | n + 1 => max (mxP l n) (l.getD n 0)
theorem mnP_le (l : List Int) : ∀ (n i : Nat), i < n → mnP l n ≤ l.getD i 0
  | 0, i, h => absurd h (Nat.not_lt_zero _)
  | n + 1, i, h => by
    show min (mnP l n) (l.getD n 0) ≤ _
    by_cases e : i = n
    · subst e; omega
    · have := mnP_le l n i (by omega); omega
theorem mxP_le (l : List Int) : ∀ (n i : Nat), i < n → l.getD i 0 ≤ mxP l n
  | 0, i, h => absurd h (Nat.not_lt_zero _)
  | n + 1, i, h => by
    show _ ≤ max (mxP l n) (l.getD n 0)
    by_cases e : i = n
    · subst e; omega
    · have := mxP_le l n i (by omega); omega
end Go.Proofs.Yticecjjlafmclaa
