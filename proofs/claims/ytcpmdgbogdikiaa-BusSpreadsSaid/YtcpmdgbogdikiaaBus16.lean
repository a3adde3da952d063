/- Package bus: the busiest tick; numbers spread over a period; plain. -/
import Derived.Test.YtcpmdgbogdikiaaBus5
namespace Go.Proofs.Ytcpmdgbogdikiaa
set_option linter.unusedVariables false
set_option linter.unusedSimpArgs false
def cnN (P F : Nat → Int) (n t : Nat) : Nat := (duL P F (t : Int) n).length
/-- The busiest of the first m ticks: how many, and when. -/
def buM (P F : Nat → Int) (n : Nat) : Nat → Nat
  | 0 => 0
  | t + 1 => if buM P F n t < cnN P F n t then cnN P F n t else buM P F n t
def buA (P F : Nat → Int) (n : Nat) : Nat → Nat
  | 0 => 0
  | t + 1 => if buM P F n t < cnN P F n t then t else buA P F n t
theorem cnN_le (P F : Nat → Int) (n t : Nat) : cnN P F n t ≤ n := duL_len P F t n
theorem buM_le (P F : Nat → Int) (n : Nat) : ∀ t, buM P F n t ≤ n
  | 0 => Nat.zero_le _
  | t + 1 => by
    have := buM_le P F n t
    have := cnN_le P F n t
    unfold buM
    split <;> omega
theorem buA_le (P F : Nat → Int) (n : Nat) : ∀ t, buA P F n t ≤ t
  | 0 => Nat.zero_le _
  | t + 1 => by
    have := buA_le P F n t
    unfold buA
    split <;> omega
theorem buM_max {P F : Nat → Int} {n c : Nat} (h : ∀ t, cnN P F n t ≤ c) : ∀ t, buM P F n t ≤ c
  | 0 => Nat.zero_le _
  | t + 1 => by
    have := buM_max h t
    have := h t
    unfold buM
    split <;> omega
/-- The phases of numbers that are spread over p ticks. -/
def spF (p : Nat) (i : Nat) : Int := ((i % p : Nat) : Int)
theorem sp_count {p : Nat} (hp : 0 < p) (t : Nat) : ∀ n, (duL (fun _ => (p : Int)) (spF p) (t : Int) n).length ≤ (n + p - 1 - t % p) / p
  | 0 => by simp [duL]
  | n + 1 => by
    have ih := sp_count hp t n
    have hr := Nat.mod_lt t hp
    have e1 : n + 1 + p - 1 - t % p = (n + p - 1 - t % p) + 1 := by omega
    rw [e1, Nat.succ_div]
    cases d : dtB (p : Int) (spF p n) (t : Int) with
    | false =>
      rw [duL_no d]
      split <;> omega
    | true =>
      rw [duL_yes d, List.length_append]
      have q := of_decide_eq_true d
      have q2 : ((t - n % p : Nat) : Int) % (p : Int) = 0 := by
        have e : ((t - n % p : Nat) : Int) = (t : Int) - spF p n := by
          unfold spF
          have := q.1
          unfold spF at this
          omega
        rw [e]; exact q.2
      have q3 : (t - n % p) % p = 0 := by exact_mod_cast q2
      have q4 : n % p ≤ t := by have := q.1; unfold spF at this; omega
      have q5 : t % p = n % p := by
        have h1 : t = n % p + p * ((t - n % p) / p) := by
          have := Nat.div_add_mod (t - n % p) p
          omega
        have h2 : t % p = (n % p + p * ((t - n % p) / p)) % p := congrArg (· % p) h1
        rw [h2, Nat.add_mul_mod_self_left, Nat.mod_mod]
      have q6 : p ∣ n + p - 1 - t % p + 1 := by
        have h1 : n + p - 1 - t % p + 1 = p * (n / p + 1) := by
          have := Nat.div_add_mod n p
          rw [Nat.mul_add, Nat.mul_one]
          omega
        rw [h1]; exact Nat.dvd_mul_right _ _
      rw [if_pos q6]
      show _ + 1 ≤ _
      omega
theorem sp_busy {p : Nat} (hp : 0 < p) (n t : Nat) : buM (fun _ => (p : Int)) (spF p) n t ≤ (n + p - 1) / p :=
  buM_max (fun t => Nat.le_trans (sp_count hp t n) (Nat.div_le_div_right (by omega))) t
theorem sp_right {p : Nat} (hp : 0 < p) (i : Nat) : 0 ≤ spF p i ∧ spF p i < p := by
  have := Nat.mod_lt i hp
  unfold spF
  omega
end Go.Proofs.Ytcpmdgbogdikiaa
