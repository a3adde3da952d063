/- A quarter of a turn more; what holds of all angles of the first quarter, gone through one by one; plain. -/
import Derived.Test.YtiibgblpbjdpaaaTurn1
namespace Go.Proofs.Ytiibgblpbjdpaaa
open Go.ChangeShapes Go.WideShapes Go.ChangeAt Go.RowKit
set_option linter.unusedVariables false
set_option linter.unusedSimpArgs false
/-- A quarter of a turn. -/
def rq (p : Int × Int) : Int × Int := (-p.2, p.1)
theorem fX_rq (k : Nat) (x y : Int) : fX k (-y) x = -fY k x y := by
  unfold fX fY
  rw [← tdO_neg]
  congr 1
  grind
theorem fY_rq (k : Nat) (x y : Int) : fY k (-y) x = fX k x y := by
  unfold fX fY
  congr 1
  grind
theorem atF_rq (a : Nat) : ∀ k p, atF a k (rq p) = rq (atF a k p)
  | 0, p => rfl
  | k + 1, p => by
    unfold atF
    split
    · rw [← atF_rq a k]
      show atF a k (fX k (-p.2) p.1, fY k (-p.2) p.1) = atF a k (-fY k p.1 p.2, fX k p.1 p.2)
      rw [fX_rq, fY_rq]
    · exact atF_rq a k p
theorem bit_low (a : Nat) (k : Nat) (hk : k < 14) : a % 16384 / 2 ^ k % 2 = a / 2 ^ k % 2 := by
  obtain rfl | rfl | rfl | rfl | rfl | rfl | rfl | rfl | rfl | rfl | rfl | rfl | rfl | rfl : k = 0 ∨ k = 1 ∨ k = 2 ∨ k = 3 ∨ k = 4 ∨ k = 5 ∨ k = 6 ∨ k = 7 ∨ k = 8 ∨ k = 9 ∨ k = 10 ∨ k = 11 ∨ k = 12 ∨ k = 13 := by omega
  all_goals omega
theorem atF_low (a : Nat) : ∀ k, k ≤ 14 → ∀ p, atF (a % 16384) k p = atF a k p
  | 0, _, p => rfl
  | k + 1, hk, p => by
    unfold atF
    rw [bit_low a k (by omega)]
    split
    · exact atF_low a k (by omega) _
    · exact atF_low a k (by omega) _
theorem atS_rq (a : Nat) (h : a < 65536) : atS ((a + 16384) % 65536) = rq (atS a) := by
  obtain q | q | q | q : (a / 32768 = 0 ∧ a / 16384 = 0) ∨ (a / 32768 = 0 ∧ a / 16384 = 1) ∨ (a / 32768 = 1 ∧ a / 16384 = 2) ∨ (a / 32768 = 1 ∧ a / 16384 = 3) := by omega
  · have e1 : (a + 16384) % 65536 / 32768 = 0 := by omega
    have e2 : (a + 16384) % 65536 / 16384 = 1 := by omega
    simp [atS, atH, rq, q.1, q.2, e1, e2]
  · have e1 : (a + 16384) % 65536 / 32768 = 1 := by omega
    have e2 : (a + 16384) % 65536 / 16384 = 2 := by omega
    simp [atS, atH, rq, q.1, q.2, e1, e2]
  · have e1 : (a + 16384) % 65536 / 32768 = 1 := by omega
    have e2 : (a + 16384) % 65536 / 16384 = 3 := by omega
    simp [atS, atH, rq, q.1, q.2, e1, e2]
  · have e1 : (a + 16384) % 65536 / 32768 = 0 := by omega
    have e2 : (a + 16384) % 65536 / 16384 = 0 := by omega
    simp [atS, atH, rq, q.1, q.2, e1, e2]
theorem at_low14 {a b : Nat} (h : a % 16384 = b % 16384) (p : Int × Int) : atF a 14 p = atF b 14 p := by
  rw [← atF_low a 14 (Nat.le_refl _), ← atF_low b 14 (Nat.le_refl _), h]
theorem mod_q (a : Nat) : (a + 16384) % 65536 % 16384 = a % 16384 := by omega
/-- A quarter of a turn more. -/
theorem atP_quarter (a : Nat) (h : a < 65536) : atP ((a + 16384) % 65536) = rq (atP a) := by
  show atF _ 14 (atS _) = rq (atF a 14 (atS a))
  rw [atS_rq a h, atF_rq]
  exact congrArg rq (at_low14 (mod_q a) _)
theorem atP_half (a : Nat) (h : a < 65536) : atP ((a + 32768) % 65536) = (-(atP a).1, -(atP a).2) := by
  have e : (a + 32768) % 65536 = ((a + 16384) % 65536 + 16384) % 65536 := by omega
  rw [e, atP_quarter _ (by omega), atP_quarter a h]
  rfl
/-- A point's angle, gone through on natural numbers. -/
def decN : List (Nat × Nat) → Nat → Nat → Nat → Nat
  | [], _, _, A => A
  | p :: r, x, y, A => match Nat.ble (x * p.2) (y * p.1 + 1073741823) with
    | true => decN r ((x * p.1 + y * p.2) / 1073741824) ((y * p.1 - x * p.2) / 1073741824) (2 * A + 1)
    | false => decN r x y (2 * A)
def stL : Nat → List (Nat × Nat)
  | 0 => []
  | k + 1 => (tcN k, tsN k) :: stL k
def leafN (L : List (Nat × Nat)) (x y a : Nat) : Bool :=
  Nat.ble 1 x && (Nat.ble 1 y || Nat.ble a 0) && Nat.ble 1152921504606846976 (x * x + y * y + 1023 * 1073741824) && (Nat.ble (decN L x y 0) (a + 2) && Nat.ble a (decN L x y 0 + 2))
def ckN (L : List (Nat × Nat)) : List (Nat × Nat) → Nat → Nat → Nat → Bool
  | [], x, y, a => leafN L x y a
  | p :: r, x, y, a => ckN L r x y (2 * a) && (Nat.ble (y * p.2) (x * p.1) && ckN L r ((x * p.1 - y * p.2) / 1073741824) ((x * p.2 + y * p.1) / 1073741824) (2 * a + 1))
def trL : List (Nat × Nat) := [(759250124, 759250125), (992008094, 410903206), (1053110175, 209476638), (1068571463, 105245102), (1072448454, 52686013), (1073418432, 26350942), (1073660972, 13176463), (1073721610, 6588355), (1073736770, 3294193), (1073740560, 1647098), (1073741507, 823549), (1073741744, 411774), (1073741803, 205887), (1073741818, 102943)]
theorem stL_14 : stL 14 = trL := by decide
set_option maxRecDepth 100000 in
theorem ck_all : ckN trL trL 1073741824 0 0 = true := by decide +kernel
theorem decN_eq : ∀ (k x y A : Nat), decN (stL k) x y A = anF k ((x : Int), (y : Int)) 0 + A * 2 ^ k
  | 0, x, y, A => by simp [decN, stL, anF]
  | k + 1, x, y, A => by
    have e : 2 ^ (k + 1) = 2 ^ k * 2 := Nat.pow_succ ..
    obtain ⟨P, hP⟩ : ∃ P, P = 2 ^ k := ⟨_, rfl⟩
    unfold stL decN anF
    have s := tdO_sign ((y : Int) * tC k - (x : Int) * tS k)
    have t : bY k (x : Int) (y : Int) = tdO ((y : Int) * tC k - (x : Int) * tS k) := rfl
    have u : bX k (x : Int) (y : Int) = tdO ((x : Int) * tC k + (y : Int) * tS k) := rfl
    have c1 : (y : Int) * tC k = ((y * tcN k : Nat) : Int) := by simp [tC]
    have c2 : (x : Int) * tS k = ((x * tsN k : Nat) : Int) := by simp [tS]
    have c3 : (x : Int) * tC k = ((x * tcN k : Nat) : Int) := by simp [tC]
    have c4 : (y : Int) * tS k = ((y * tsN k : Nat) : Int) := by simp [tS]
    rw [c1, c2] at s t
    rw [c3, c4] at u
    rw [e, ← hP]
    show (match Nat.ble (x * tsN k) (y * tcN k + 1073741823) with
      | true => decN (stL k) ((x * tcN k + y * tsN k) / 1073741824) ((y * tcN k - x * tsN k) / 1073741824) (2 * A + 1)
      | false => decN (stL k) x y (2 * A)) = _
    have ih1 := decN_eq k ((x * tcN k + y * tsN k) / 1073741824) ((y * tcN k - x * tsN k) / 1073741824) (2 * A + 1)
    have ih2 := decN_eq k x y (2 * A)
    rw [← hP] at ih1 ih2
    generalize x * tcN k = a1 at *
    generalize y * tsN k = a2 at *
    generalize y * tcN k = a3 at *
    generalize x * tsN k = a4 at *
    cases hb : Nat.ble a4 (a3 + 1073741823) with
    | true =>
      have hb' : a4 ≤ a3 + 1073741823 := Nat.le_of_ble_eq_true hb
      rw [t, if_pos (s.2 (by omega)), ← t]
      have x1 : bX k (x : Int) (y : Int) = (((a1 + a2) / 1073741824 : Nat) : Int) := by
        rw [u, tdO_pos (by omega)]
        omega
      have x2 : bY k (x : Int) (y : Int) = (((a3 - a4) / 1073741824 : Nat) : Int) := by
        rw [t]
        rcases Nat.lt_or_ge a3 a4 with q | q
        · have := (tdO_abs ((a3 : Int) - (a4 : Int))).2 (by omega)
          have := s.2 (by omega)
          omega
        · rw [tdO_pos (by omega)]
          omega
      rw [x1, x2, anF_add]
      show decN (stL k) _ _ _ = _
      rw [ih1, Nat.add_mul, Nat.one_mul]
      generalize anF k _ 0 = z
      have : 2 * A * P = A * (P * 2) := by grind
      omega
    | false =>
      have hb' : ¬ a4 ≤ a3 + 1073741823 := fun h => by rw [Nat.ble_eq_true_of_le h] at hb; cases hb
      rw [t, if_neg (fun h => by have := s.1 h; omega)]
      show decN (stL k) _ _ _ = _
      rw [ih2]
      have : 2 * A * P = A * (P * 2) := by grind
      omega
theorem ck_at (L : List (Nat × Nat)) : ∀ (k x y a : Nat), ckN L (stL k) x y a = true → ∀ d, d < 2 ^ k → ∃ u v : Nat, atF (a * 2 ^ k + d) k ((x : Int), (y : Int)) = ((u : Int), (v : Int)) ∧ leafN L u v (a * 2 ^ k + d) = true
  | 0, x, y, a, h, d, hd => by
    have : d = 0 := by simpa using hd
    subst this
    refine ⟨x, y, rfl, ?_⟩
    simpa [ckN, stL] using h
  | k + 1, x, y, a, h, d, hd => by
    have e : 2 ^ (k + 1) = 2 ^ k * 2 := Nat.pow_succ ..
    have hp : 0 < 2 ^ k := Nat.two_pow_pos k
    have h' : (ckN L (stL k) x y (2 * a) && (Nat.ble (y * tsN k) (x * tcN k) && ckN L (stL k) ((x * tcN k - y * tsN k) / 1073741824) ((x * tsN k + y * tcN k) / 1073741824) (2 * a + 1))) = true := h
    simp only [Bool.and_eq_true] at h'
    obtain ⟨h1, h2, h3⟩ := h'
    have h2 := Nat.le_of_ble_eq_true h2
    have ih1 := ck_at L k x y (2 * a) h1
    have ih2 := ck_at L k _ _ (2 * a + 1) h3
    unfold atF
    generalize hP : 2 ^ k = P at *
    rw [e] at hd ⊢
    by_cases q : d < P
    · have b : (a * (P * 2) + d) / P % 2 = 0 := by
        rw [show a * (P * 2) + d = P * (2 * a) + d by grind, Nat.mul_add_div hp, Nat.div_eq_of_lt q]
        omega
      rw [if_neg (by omega), show a * (P * 2) + d = 2 * a * P + d by grind]
      exact ih1 d q
    · obtain ⟨f, rfl⟩ : ∃ f, d = P + f := ⟨d - P, by omega⟩
      have b : (a * (P * 2) + (P + f)) / P % 2 = 1 := by
        rw [show a * (P * 2) + (P + f) = P * (2 * a + 1) + f by grind, Nat.mul_add_div hp, Nat.div_eq_of_lt (by omega)]
        omega
      rw [if_pos b, show a * (P * 2) + (P + f) = (2 * a + 1) * P + f by grind]
      have x1 : fX k (x : Int) (y : Int) = (((x * tcN k - y * tsN k) / 1073741824 : Nat) : Int) := by
        have c3 : (x : Int) * tC k = ((x * tcN k : Nat) : Int) := by simp [tC]
        have c4 : (y : Int) * tS k = ((y * tsN k : Nat) : Int) := by simp [tS]
        unfold fX
        rw [c3, c4, tdO_pos (by omega)]
        omega
      have x2 : fY k (x : Int) (y : Int) = (((x * tsN k + y * tcN k) / 1073741824 : Nat) : Int) := by
        have c3 : (x : Int) * tS k = ((x * tsN k : Nat) : Int) := by simp [tS]
        have c4 : (y : Int) * tC k = ((y * tcN k : Nat) : Int) := by simp [tC]
        unfold fY
        rw [c3, c4, tdO_pos (by omega)]
        omega
      show ∃ u v : Nat, atF _ k (fX k (x : Int) (y : Int), fY k (x : Int) (y : Int)) = _ ∧ _
      rw [x1, x2]
      exact ih2 f (by omega)
theorem anF_dec (u v : Nat) : decN trL u v 0 = anF 14 ((u : Int), (v : Int)) 0 := by
  rw [← stL_14, decN_eq, Nat.zero_mul, Nat.add_zero]
theorem ck_first (r : Nat) (h : r < 16384) : ∃ u v : Nat, atF r 14 (1073741824, 0) = ((u : Int), (v : Int)) ∧ leafN trL u v r = true := by
  have k := ck_at trL 14 1073741824 0 0 (by rw [stL_14]; exact ck_all) r h
  rw [Nat.zero_mul, Nat.zero_add, show ((1073741824 : Nat) : Int) = 1073741824 from rfl, show ((0 : Nat) : Int) = 0 from rfl] at k
  exact k
/-- What holds of all angles of the first quarter. -/
theorem first_at (r : Nat) (h : r < 16384) : ∃ u v : Nat, atP r = ((u : Int), (v : Int)) ∧ 1 ≤ u ∧ u ≤ 1073741824 ∧ v ≤ 1073741824 ∧ (r = 0 ∨ 1 ≤ v) ∧ 1152921504606846976 ≤ u * u + v * v + 1098437885952 ∧ anF 14 ((u : Int), (v : Int)) 0 ≤ r + 2 ∧ r ≤ anF 14 ((u : Int), (v : Int)) 0 + 2 := by
  obtain ⟨u, v, e, l⟩ := ck_first r h
  have hs : atS r = (1073741824, 0) := by
    unfold atS atH
    rw [if_neg (by omega), if_neg (by omega)]
  have ep : atP r = ((u : Int), (v : Int)) := by
    unfold atP
    rw [hs, e]
  have b := (atP_le r).one
  rw [ep] at b
  unfold leafN at l
  rw [anF_dec] at l
  simp only [Bool.and_eq_true, Bool.or_eq_true, Nat.ble_eq] at l
  obtain ⟨⟨⟨l1, l2⟩, l3⟩, l4, l5⟩ := l
  have b1 : (u : Int) ≤ 1073741824 := b.1.2
  have b2 : (v : Int) ≤ 1073741824 := b.2.2
  exact ⟨u, v, ep, l1, by omega, by omega, by rcases l2 with q | q; exact .inr q; exact .inl (by omega), by omega, l4, l5⟩
theorem tcl_id {n : Int} (h : -1073741824 ≤ n) (k : n ≤ 1073741824) : tcl n = n := by unfold tcl; rw [if_neg (by omega), if_neg (by omega)]
theorem anV_at {x y : Int} (h1 : -1073741824 ≤ x ∧ x ≤ 1073741824) (h2 : -1073741824 ≤ y ∧ y ≤ 1073741824) (h : x ≠ 0 ∨ y ≠ 0) : anV x y = anC (x, y) := by
  unfold anV
  rw [tcl_id h1.1 h1.2, tcl_id h2.1 h2.2, if_neg (by omega)]
theorem anQS (p : Int × Int) : anC p = anF 14 (anQ (anS p)).1 0 + (anQ (anS p)).2 := anF_add ..
theorem anQ0 {u v : Int} (h1 : 0 ≤ u) (h2 : 0 ≤ v) : anQ (anS (u, v)) = ((u, v), 0) := by
  have e : anS (u, v) = ((u, v), 0) := by unfold anS; exact if_neg (by show ¬ v < 0; omega)
  rw [e]; unfold anQ; exact if_neg (by show ¬ u < 0; omega)
theorem anQ1 {u v : Int} (h1 : 0 ≤ u) (h2 : 0 < v) : anQ (anS (-v, u)) = ((u, v), 16384) := by
  have e : anS (-v, u) = ((-v, u), 0) := by unfold anS; exact if_neg (by show ¬ u < 0; omega)
  rw [e]; unfold anQ
  rw [if_pos (by show -v < 0; omega)]
  show ((u, - -v), 0 + 16384) = _
  rw [Int.neg_neg]
theorem anQ2 {u v : Int} (h1 : 0 ≤ u) (h2 : 0 < v) : anQ (anS (-u, -v)) = ((u, v), 32768) := by
  have e : anS (-u, -v) = ((u, v), 32768) := by
    unfold anS
    rw [if_pos (by show -v < 0; omega)]
    show ((- -u, - -v), 32768) = _
    rw [Int.neg_neg, Int.neg_neg]
  rw [e]; unfold anQ; exact if_neg (by show ¬ u < 0; omega)
theorem anQ3 {u v : Int} (h1 : 0 < u) (h2 : 0 < v) : anQ (anS (v, -u)) = ((u, v), 49152) := by
  have e : anS (v, -u) = ((-v, u), 32768) := by
    unfold anS
    rw [if_pos (by show -u < 0; omega)]
    show ((-v, - -u), 32768) = _
    rw [Int.neg_neg]
  rw [e]; unfold anQ
  rw [if_pos (by show -v < 0; omega)]
  show ((u, - -v), 32768 + 16384) = _
  rw [Int.neg_neg]
theorem app_pair {F : Int × Int → Nat} {q : (Int × Int) × Nat} {p : Int × Int} {n : Nat} (h : q = (p, n)) : F q.1 + q.2 = F p + n := by rw [h]
/-- The angle of a point by its quarter. -/
theorem anC_q : ∃ F : Int × Int → Nat, (∀ u v : Nat, F ((u : Int), (v : Int)) = anF 14 ((u : Int), (v : Int)) 0) ∧ (∀ u v : Int, 0 ≤ u → 0 ≤ v → anC (u, v) = F (u, v) + 0) ∧ (∀ u v : Int, 0 ≤ u → 0 < v → anC (-v, u) = F (u, v) + 16384) ∧ (∀ u v : Int, 0 ≤ u → 0 < v → anC (-u, -v) = F (u, v) + 32768) ∧ (∀ u v : Int, 0 < u → 0 < v → anC (v, -u) = F (u, v) + 49152) :=
  ⟨fun p => anF 14 p 0, fun _ _ => rfl, fun u v h1 h2 => (anQS _).trans (app_pair (F := fun p => anF 14 p 0) (anQ0 h1 h2)), fun u v h1 h2 => (anQS _).trans (app_pair (F := fun p => anF 14 p 0) (anQ1 h1 h2)), fun u v h1 h2 => (anQS _).trans (app_pair (F := fun p => anF 14 p 0) (anQ2 h1 h2)), fun u v h1 h2 => (anQS _).trans (app_pair (F := fun p => anF 14 p 0) (anQ3 h1 h2))⟩
theorem an_axes : anV 1073741824 0 = 0 ∧ (16382 ≤ anV 0 1073741824 ∧ anV 0 1073741824 ≤ 16386) ∧ (32766 ≤ anV (-1073741824) 0 ∧ anV (-1073741824) 0 ≤ 32770) ∧ (49150 ≤ anV 0 (-1073741824) ∧ anV 0 (-1073741824) ≤ 49154) := by decide +kernel
theorem at_axes : atP 0 = (1073741824, 0) ∧ atP 16384 = (0, 1073741824) ∧ atP 32768 = (-1073741824, 0) ∧ atP 49152 = (0, -1073741824) := by decide +kernel
theorem atP_of {a : Nat} (h : a < 65536) (r : Nat) (q : Nat) (hr : r < 16384) (e : a = q * 16384 + r) : (q = 0 ∧ atP a = atP r) ∨ (q = 1 ∧ atP a = rq (atP r)) ∨ (q = 2 ∧ atP a = rq (rq (atP r))) ∨ (q = 3 ∧ atP a = rq (rq (rq (atP r)))) := by
  have hq : q = 0 ∨ q = 1 ∨ q = 2 ∨ q = 3 := by omega
  have s1 := atP_quarter r (by omega)
  have s2 := atP_quarter (r + 16384) (by omega)
  have s3 := atP_quarter (r + 32768) (by omega)
  rw [show (r + 16384) % 65536 = r + 16384 by omega] at s1
  rw [show (r + 16384 + 16384) % 65536 = r + 32768 by omega, s1] at s2
  rw [show (r + 32768 + 16384) % 65536 = r + 49152 by omega, s2] at s3
  rcases hq with rfl | rfl | rfl | rfl
  · exact .inl ⟨rfl, by rw [show a = r by omega]⟩
  · exact .inr (.inl ⟨rfl, by rw [show a = r + 16384 by omega, s1]⟩)
  · exact .inr (.inr (.inl ⟨rfl, by rw [show a = r + 32768 by omega, s2]⟩))
  · exact .inr (.inr (.inr ⟨rfl, by rw [show a = r + 49152 by omega, s3]⟩))
/-- What at_any says of a point and an angle. -/
def AtR (x y : Int) (V a : Int) : Prop := 1152921504606846976 ≤ x * x + y * y + 1098437885952 ∧ x * x + y * y ≤ 1152921504606846976 ∧ V - a ≤ 2 ∧ -2 ≤ V - a
theorem AtR.q1 {u v V a : Int} (h : AtR u v V a) {V' a' : Int} (e : V' - a' = V - a) : AtR u v V' a' := by unfold AtR at *; omega
theorem AtR.neg1 {u v V a : Int} (h : AtR u v V a) : AtR (-v) u V a := by
  unfold AtR at *
  rw [Int.neg_mul_neg]
  omega
theorem AtR.neg2 {u v V a : Int} (h : AtR u v V a) : AtR (-u) (-v) V a := by
  unfold AtR at *
  rw [Int.neg_mul_neg, Int.neg_mul_neg]
  omega
theorem AtR.neg3 {u v V a : Int} (h : AtR u v V a) : AtR v (-u) V a := by
  unfold AtR at *
  rw [Int.neg_mul_neg]
  omega
theorem at_ax (a : Nat) (h : a < 65536) (r0 : a % 16384 = 0) : AtR (atP a).1 (atP a).2 (anV (atP a).1 (atP a).2 : Int) (a : Int) := by
  have q : a = 0 ∨ a = 16384 ∨ a = 32768 ∨ a = 49152 := by omega
  obtain ⟨x0, x1, x2, x3⟩ := an_axes
  obtain ⟨y0, y1, y2, y3⟩ := at_axes
  generalize h0 : anV 1073741824 0 = z0 at *
  generalize h1 : anV 0 1073741824 = z1 at *
  generalize h2 : anV (-1073741824) 0 = z2 at *
  generalize h3 : anV 0 (-1073741824) = z3 at *
  rcases q with q | q | q | q
  · subst q; rw [y0, h0]; exact ⟨by decide +kernel, by decide +kernel, by omega, by omega⟩
  · subst q; rw [y1, h1]; exact ⟨by decide +kernel, by decide +kernel, by omega, by omega⟩
  · subst q; rw [y2, h2]; exact ⟨by decide +kernel, by decide +kernel, by omega, by omega⟩
  · subst q; rw [y3, h3]; exact ⟨by decide +kernel, by decide +kernel, by omega, by omega⟩
theorem at_in (a r q A : Nat) (u v : Nat) (h : a < 65536) (hr : r < 16384) (ea : a = q * 16384 + r) (e : atP r = ((u : Int), (v : Int))) (hu : 1 ≤ u) (hv : 1 ≤ v) (u2 : u ≤ 1073741824) (v2 : v ≤ 1073741824) (hA : anF 14 ((u : Int), (v : Int)) 0 = A) (R : AtR (u : Int) (v : Int) (A : Int) (r : Int)) : AtR (atP a).1 (atP a).2 (anV (atP a).1 (atP a).2 : Int) (a : Int) := by
  obtain ⟨F, f0, f1, f2, f3, f4⟩ := anC_q
  have f0 := (f0 u v).trans hA
  clear hA
  have hu : (1 : Int) ≤ (u : Int) := by omega
  have hu2 : (u : Int) ≤ 1073741824 := by omega
  have hv : (1 : Int) ≤ (v : Int) := by omega
  have hv2 : (v : Int) ≤ 1073741824 := by omega
  rcases atP_of h r q hr ea with ⟨z, p⟩ | ⟨z, p⟩ | ⟨z, p⟩ | ⟨z, p⟩
  · rw [p, e]
    show AtR (u : Int) (v : Int) (anV (u : Int) (v : Int) : Int) (a : Int)
    rw [anV_at ⟨by omega, by omega⟩ ⟨by omega, by omega⟩ (.inl (by omega)), f1 _ _ (by omega) (by omega), f0]
    exact R.q1 (by omega)
  · rw [p, e]
    show AtR (-(v : Int)) (u : Int) (anV (-(v : Int)) (u : Int) : Int) (a : Int)
    rw [anV_at ⟨by omega, by omega⟩ ⟨by omega, by omega⟩ (.inr (by omega)), f2 _ _ (by omega) (by omega), f0]
    exact R.neg1.q1 (by omega)
  · rw [p, e]
    show AtR (-(u : Int)) (-(v : Int)) (anV (-(u : Int)) (-(v : Int)) : Int) (a : Int)
    rw [anV_at ⟨by omega, by omega⟩ ⟨by omega, by omega⟩ (.inr (by omega)), f3 _ _ (by omega) (by omega), f0]
    exact R.neg2.q1 (by omega)
  · rw [p, e]
    show AtR (- -(v : Int)) (-(u : Int)) (anV (- -(v : Int)) (-(u : Int)) : Int) (a : Int)
    rw [Int.neg_neg, anV_at ⟨by omega, by omega⟩ ⟨by omega, by omega⟩ (.inr (by omega)), f4 _ _ (by omega) (by omega), f0]
    exact R.neg3.q1 (by omega)
/-- Cosine and sine of any angle: their squares, and their angle. -/
theorem at_any (a : Nat) (h : a < 65536) : AtR (atP a).1 (atP a).2 (anV (atP a).1 (atP a).2 : Int) (a : Int) := by
  by_cases r0 : a % 16384 = 0
  · exact at_ax a h r0
  obtain ⟨u, v, e, u1, u2, v2, hv, sq, d1, d2⟩ := first_at (a % 16384) (by omega)
  have n' := atP_le (a % 16384)
  rw [e] at n'
  generalize hA : anF 14 ((u : Int), (v : Int)) 0 = A at *
  have sq' : (1152921504606846976 : Int) ≤ (u : Int) * (u : Int) + (v : Int) * (v : Int) + 1098437885952 := by
    rw [← Int.natCast_mul, ← Int.natCast_mul]
    generalize u * u = U at *
    generalize v * v = V at *
    omega
  exact at_in a (a % 16384) (a / 16384) A u v h (by omega) (by omega) e u1 (by omega) u2 v2 hA ⟨sq', n', by omega, by omega⟩
end Go.Proofs.Ytiibgblpbjdpaaa
