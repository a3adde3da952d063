/- The steps of the atmosphere as numbers; plain. -/
import Derived.Test.YtecpmffmmiogfaaGreatAir0
namespace Go.Proofs.YtecpmffmmiogfaaGreat
open Go.ChangeShapes Go.WideShapes Go.ChangeAt Go.RowKit
set_option linter.unusedVariables false
set_option linter.unusedSimpArgs false
def atN (k : Nat) : Nat := if k ≤ 1199 then 294618 - 65 * k else 216650
def alN (k : Nat) : Nat := 2 * (287053 * atN k) - 98066500
def amN (k : Nat) : Nat := 2 * (287053 * atN k) + 98066500
/-- A number that goes on by steps. -/
def itN (f : Nat → Nat → Nat) (p : Nat) : Nat → Nat
  | 0 => p
  | k + 1 => f k (itN f p k)
def chkN (ok : Nat → Nat → Bool) (f : Nat → Nat → Nat) : Nat → Nat → Nat → Bool
  | 0, _, _ => true
  | n + 1, p, k => match ok p (f k p) with
    | true => chkN ok f n (f k p) (k + 1)
    | false => false
theorem chkN_at {ok : Nat → Nat → Bool} {f : Nat → Nat → Nat} {p : Nat} : ∀ n k, chkN ok f n (itN f p k) k = true → ∀ j, j < n → ok (itN f p (k + j)) (itN f p (k + j + 1)) = true
  | 0, k, _, j, hj => absurd hj (by omega)
  | n + 1, k, h, j, hj => by
    have e : itN f p (k + 1) = f k (itN f p k) := rfl
    unfold chkN at h
    rw [← e] at h
    cases hb : ok (itN f p k) (itN f p (k + 1)) with
    | false => rw [hb] at h; cases h
    | true =>
      rw [hb] at h
      cases j with
      | zero => exact hb
      | succ j =>
        have := chkN_at n (k + 1) h j (by omega)
        rwa [show k + 1 + j = k + (j + 1) by omega] at this
def auF (k p : Nat) : Nat := p * alN (100 + k) / amN (100 + k)
def adF (k p : Nat) : Nat := p * amN (99 - k) / alN (99 - k)
/-- From the sea up, and down. -/
def auN (k : Nat) : Nat := itN auF 6484800 k
def adN (k : Nat) : Nat := itN adF 6484800 k
/-- The pressure of a step. -/
def asN (i : Nat) : Nat := if 100 ≤ i then auN (i - 100) else adN (100 - i)
theorem auF_eq (k p : Nat) : auF k p = p * alN (100 + k) / amN (100 + k) := rfl
theorem adF_eq (k p : Nat) : adF k p = p * amN (99 - k) / alN (99 - k) := rfl
theorem itN_succ (f : Nat → Nat → Nat) (p k : Nat) : itN f p (k + 1) = f k (itN f p k) := rfl
theorem auN_succ (k : Nat) : auN (k + 1) = auN k * alN (100 + k) / amN (100 + k) := by
  unfold auN
  rw [itN_succ, auF_eq]
theorem adN_succ (k : Nat) : adN (k + 1) = adN k * amN (99 - k) / alN (99 - k) := by
  unfold adN
  rw [itN_succ, adF_eq]
def okU (p q : Nat) : Bool := Nat.ble (q + 500) p && Nat.ble p (q + 9999) && Nat.ble 300000 q
def okD (p q : Nat) : Bool := Nat.ble (p + 500) q && Nat.ble q (p + 9999) && Nat.ble q 8000000
set_option maxRecDepth 100000 in
theorem chkU_ok : chkN okU auF 2000 6484800 0 = true := by kernel_rfl
set_option maxRecDepth 100000 in
theorem chkD_ok : chkN okD adF 100 6484800 0 = true := by kernel_rfl
theorem auN_step (j : Nat) (hj : j < 2000) : auN (j + 1) + 500 ≤ auN j ∧ auN j ≤ auN (j + 1) + 9999 ∧ 300000 ≤ auN (j + 1) := by
  have h := chkN_at (p := 6484800) 2000 0 chkU_ok j hj
  rw [Nat.zero_add] at h
  unfold okU at h
  simp only [Bool.and_eq_true, Nat.ble_eq] at h
  exact ⟨h.1.1, h.1.2, h.2⟩
theorem adN_step (j : Nat) (hj : j < 100) : adN j + 500 ≤ adN (j + 1) ∧ adN (j + 1) ≤ adN j + 9999 ∧ adN (j + 1) ≤ 8000000 := by
  have h := chkN_at (p := 6484800) 100 0 chkD_ok j hj
  rw [Nat.zero_add] at h
  unfold okD at h
  simp only [Bool.and_eq_true, Nat.ble_eq] at h
  exact ⟨h.1.1, h.1.2, h.2⟩
theorem auN_bd : ∀ j, j ≤ 2000 → 300000 ≤ auN j ∧ auN j ≤ 6484800
  | 0, _ => by simp [auN, itN]
  | j + 1, hj => by
    have := auN_bd j (by omega)
    have := auN_step j (by omega)
    omega
theorem adN_bd : ∀ j, j ≤ 100 → 6484800 ≤ adN j ∧ adN j ≤ 8000000
  | 0, _ => by simp [adN, itN]
  | j + 1, hj => by
    have := adN_bd j (by omega)
    have := adN_step j (by omega)
    omega
theorem asN_bd (i : Nat) (hi : i ≤ 2100) : 300000 ≤ asN i ∧ asN i ≤ 8000000 := by
  unfold asN
  split
  · have := auN_bd (i - 100) (by omega); omega
  · have := adN_bd (100 - i) (by omega); omega
theorem asN_step (i : Nat) (hi : i < 2100) : asN (i + 1) + 500 ≤ asN i ∧ asN i ≤ asN (i + 1) + 9999 := by
  unfold asN
  by_cases h : 100 ≤ i
  · rw [if_pos h, if_pos (by omega), show i + 1 - 100 = (i - 100) + 1 by omega]
    have := auN_step (i - 100) (by omega)
    omega
  · by_cases h2 : i = 99
    · subst h2
      have := adN_step 0 (by omega)
      have e1 : auN 0 = 6484800 := rfl
      have e2 : adN 0 = 6484800 := rfl
      simp only [show 100 ≤ 99 + 1 from by omega, if_true, show ¬ 100 ≤ 99 from by omega, if_false, show 99 + 1 - 100 = 0 from rfl, show 100 - 99 = 0 + 1 from rfl]
      omega
    · rw [if_neg h, if_neg (by omega), show 100 - i = (100 - (i + 1)) + 1 by omega]
      have := adN_step (100 - (i + 1)) (by omega)
      omega
theorem asN_lt {i j : Nat} (h : i < j) (hj : j ≤ 2100) : asN j < asN i := by
  obtain ⟨d, rfl⟩ : ∃ d, j = i + 1 + d := ⟨j - (i + 1), by omega⟩
  clear h
  induction d with
  | zero => have := asN_step i (by omega); show asN (i + 1) < _; omega
  | succ d ih =>
    have := asN_step (i + 1 + d) (by omega)
    have := ih (by omega)
    show asN (i + 1 + d + 1) < _
    omega
/-- The layer above a step. -/
theorem at_arT (k : Nat) (hk : k < 2100) : arT (-100000 + (k : Int) * 1000 + 500) = (atN k : Int) := by
  have c : arC (-100000 + (k : Int) * 1000 + 500) = -100000 + (k : Int) * 1000 + 500 := by
    unfold arC
    rw [if_neg (by omega), if_neg (by omega)]
  unfold arT
  rw [c]
  unfold atN
  split <;> split <;> omega
theorem atN_bd (k : Nat) : 216650 ≤ atN k ∧ atN k ≤ 294618 := by unfold atN; split <;> omega
theorem al_pos (k : Nat) : 26253744400 ≤ alN k ∧ alN k ≤ 170000000000 ∧ amN k ≤ 170000000000 ∧ alN k + 196133000 = amN k := by
  have := atN_bd k
  unfold alN amN
  omega
theorem au_flV (k : Nat) (hk : k < 2000) : flV (auN k : Int) (alN (100 + k) : Int) (amN (100 + k) : Int) = (auN (k + 1) : Int) := by
  have b := auN_bd (k + 1) (by omega)
  have s := auN_succ k
  obtain ⟨p1, -, p3, p4⟩ := al_pos (100 + k)
  generalize alN (100 + k) = l at *
  generalize amN (100 + k) = m at *
  have e : (auN k : Int) * (l : Int) / (m : Int) = (auN (k + 1) : Int) := by
    rw [s, Int.natCast_ediv, Int.natCast_mul]
  rw [flV_posA (by omega) (by rw [e]; omega) (by rw [e]; omega), e]
theorem ad_flV (k : Nat) (hk : k < 100) : flV (adN k : Int) (amN (99 - k) : Int) (alN (99 - k) : Int) = (adN (k + 1) : Int) := by
  have b := adN_bd (k + 1) (by omega)
  have s := adN_succ k
  obtain ⟨p1, -, p3, p4⟩ := al_pos (99 - k)
  generalize alN (99 - k) = l at *
  generalize amN (99 - k) = m at *
  have e : (adN k : Int) * (m : Int) / (l : Int) = (adN (k + 1) : Int) := by
    rw [s, Int.natCast_ediv, Int.natCast_mul]
  rw [flV_posA (by omega) (by rw [e]; omega) (by rw [e]; omega), e]
end Go.Proofs.YtecpmffmmiogfaaGreat
