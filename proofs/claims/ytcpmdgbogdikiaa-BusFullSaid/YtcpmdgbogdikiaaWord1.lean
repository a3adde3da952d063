/- The document's powers and ones of a word. -/
import Derived.Test.YtcpmdgbogdikiaaBase
namespace Go.Proofs.Ytcpmdgbogdikiaa
open Go.ChangeShapes Go.WideShapes Go.ChangeAt
set_option linter.unusedVariables false
set_option linter.unusedSimpArgs false

def wInt : Value → Int
  | .int _ n => n
  | _ => 0
theorem w2b (i : Nat) (h : i ≤ 18) : 1 ≤ (2 : Int) ^ i ∧ (2 : Int) ^ i ≤ 262144 := by
  rcases i with _ | _ | _ | _ | _ | _ | _ | _ | _ | _ | _ | _ | _ | _ | _ | _ | _ | _ | _ | i
  all_goals first | omega | decide
/-- How many of the lowest k bits of a number not below 0 are 1. -/
def onI (n : Int) : Nat → Int
  | 0 => 0
  | k + 1 => onI n k + n / 2 ^ k % 2
theorem onI_bd (n : Int) (k : Nat) : 0 ≤ onI n k ∧ onI n k ≤ k := by
  induction k with
  | zero => simp [onI]
  | succ k ih =>
    have := Int.emod_two_eq (n / 2 ^ k)
    unfold onI
    omega
theorem w2q (n : Int) (k : Nat) (h : 0 ≤ n) : 0 ≤ n / 2 ^ k ∧ n / 2 ^ k ≤ n :=
  ⟨Int.ediv_nonneg h (Int.le_of_lt (Int.pow_pos (by decide))), Int.ediv_le_self _ h⟩
theorem half_of (n : Int) (k : Nat) : n / 2 ^ k / 2 = n / 2 ^ (k + 1) := by
  rw [Int.ediv_ediv_of_nonneg (by exact Int.le_of_lt (Int.pow_pos (by decide))), Int.pow_succ]

set_option maxHeartbeats 1000000 in
theorem rones_any (n : Int) (h0 : 0 ≤ n) (h1 : n ≤ 9223372036854775807) (w : World) : Calls Try.prog 21 #[.int .i64 n] w fun e w' => e = .returned (.int .i64 (onI n 40)) ∧ w = w' := by
  go_enter Try.func21, Try.ntmps21
  go_wp2
  go_loopw [0, 3, 4] (fun m s i v => ∃ k : Nat, k ≤ 40 ∧ m = .int .i64 (n / 2 ^ k) ∧ s = .int .i64 (onI n k) ∧ i = .int .i64 k ∧ w = v) (fun _ _ i _ => (40 - wInt i).toNat)
  case atStart => exact ⟨0, by omega, by simp, rfl, rfl, rfl⟩
  case round =>
    obtain ⟨k, hk, rfl, rfl, rfl, rfl⟩ := hrel
    by_cases hlt : k < 40
    · have hh := Lib.hid (half_of n k)
      have hb := onI_bd n k
      have hm : 0 ≤ n / 2 ^ k ∧ n / 2 ^ k ≤ 9223372036854775807 := by
        have := w2q n k h0
        omega
      have ho := Lib.hid (show onI n (k + 1) = onI n k + n / 2 ^ k % 2 from rfl)
      obtain ⟨M, hM⟩ : ∃ M : Int, n / 2 ^ k = M := ⟨_, rfl⟩
      obtain ⟨S, hS⟩ : ∃ S : Int, onI n k = S := ⟨_, rfl⟩
      rw [hM] at hm hh ho
      rw [hS] at hb ho
      rw [hM, hS]
      have ht : M.tmod 2 = M % 2 := Int.tmod_eq_emod_of_nonneg hm.1
      have hd : M.tdiv 2 = M / 2 := Int.tdiv_eq_ediv_of_nonneg hm.1
      rcases Int.emod_two_eq M with hz | hz
      · go_wp2
        all_goals exact ⟨⟨k + 1, by omega, by rw [← hh.out]; try simp [hd], by rw [ho.out, hz]; simp, by simp, by trivial⟩, by simp [wInt]; omega⟩
      · go_wp2
        all_goals exact ⟨⟨k + 1, by omega, by rw [← hh.out]; try simp [hd], by rw [ho.out, hz], by simp, by trivial⟩, by simp [wInt]; omega⟩
    · have : k = 40 := by omega
      subst this
      go_wp2
      go_ret
      exact ⟨rfl, rfl⟩
end Go.Proofs.Ytcpmdgbogdikiaa
