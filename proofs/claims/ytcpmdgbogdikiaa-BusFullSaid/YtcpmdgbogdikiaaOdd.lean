/- Package word: Odd, for every number; walked (the head of Word3). -/
import Derived.Test.YtcpmdgbogdikiaaWord2
import Derived.Deep.Cut
namespace Go.Proofs.Ytcpmdgbogdikiaa
open Go.ChangeShapes Go.WideShapes Go.ChangeAt Go.RowKit
set_option linter.unusedVariables false
set_option linter.unusedSimpArgs false
theorem u32_bd {n : Int} (h : (Lit.int .u32 n).wf = true) : 0 ≤ n ∧ n ≤ 4294967295 := by
  simp [Lit.wf, IntKind.min, IntKind.max, IntKind.signed, IntKind.bits] at h
  omega
theorem onI_split (n : Int) (a b : Nat) : onI n (a + b) = onI n a + onI (n / 2 ^ a) b := by
  induction b with
  | zero => simp [onI]
  | succ b ih =>
    show onI n (a + b) + n / 2 ^ (a + b) % 2 = onI n a + (onI (n / 2 ^ a) b + n / 2 ^ a / 2 ^ b % 2)
    rw [ih, Int.ediv_ediv_of_nonneg (Int.le_of_lt (Int.pow_pos (by decide))), ← Int.pow_add]
    omega
theorem onI_zero (k : Nat) : onI 0 k = 0 := by
  induction k with
  | zero => rfl
  | succ k ih => show onI 0 k + 0 / 2 ^ k % 2 = 0; rw [ih]; simp
theorem onI_low (n : Int) : onI n 8 = onI (n % 256) 8 := by
  have e0 : n % 256 % 2 = n % 2 := by omega
  have e1 : n % 256 / 2 % 2 = n / 2 % 2 := by omega
  have e2 : n % 256 / 4 % 2 = n / 4 % 2 := by omega
  have e3 : n % 256 / 8 % 2 = n / 8 % 2 := by omega
  have e4 : n % 256 / 16 % 2 = n / 16 % 2 := by omega
  have e5 : n % 256 / 32 % 2 = n / 32 % 2 := by omega
  have e6 : n % 256 / 64 % 2 = n / 64 % 2 := by omega
  have e7 : n % 256 / 128 % 2 = n / 128 % 2 := by omega
  have f : ∀ m : Int, onI m 8 = m % 2 + m / 2 % 2 + m / 4 % 2 + m / 8 % 2 + m / 16 % 2 + m / 32 % 2 + m / 64 % 2 + m / 128 % 2 := fun m => by
    simp [onI]
  rw [f, f, e0, e1, e2, e3, e4, e5, e6, e7]
theorem onI_40 {n : Int} (h0 : 0 ≤ n) (h1 : n ≤ 4294967295) : onI n 40 = Lib.pop8 (n / 16777216) + Lib.pop8 (n / 65536 % 256) + Lib.pop8 (n / 256 % 256) + Lib.pop8 (n % 256) := by
  have s1 := onI_split n 8 32
  have s2 := onI_split (n / 256) 8 24
  have s3 := onI_split (n / 65536) 8 16
  have s4 := onI_split (n / 16777216) 8 8
  have p8 : (2 : Int) ^ 8 = 256 := by decide
  rw [p8] at s1 s2 s3 s4
  rw [show n / 256 / 256 = n / 65536 by omega] at s2
  rw [show n / 65536 / 256 = n / 16777216 by omega] at s3
  rw [show n / 16777216 / 256 = 0 by omega, onI_zero] at s4
  have e : onI n 40 = onI n 8 + onI (n / 256) 8 + onI (n / 65536) 8 + onI (n / 16777216) 8 := by
    rw [show (40 : Nat) = 8 + 32 from rfl, s1, show (32 : Nat) = 8 + 24 from rfl, s2, show (24 : Nat) = 8 + 16 from rfl, s3, show (16 : Nat) = 8 + 8 from rfl, s4]
    omega
  rw [e, onI_low n, onI_low (n / 256), onI_low (n / 65536), onI_low (n / 16777216), pop8_is (by omega) (by omega), pop8_is (by omega) (by omega), pop8_is (by omega) (by omega), pop8_is (by omega) (by omega), show n / 16777216 % 256 = n / 16777216 by omega]
  omega
/-- Whether the ones are odd. -/
def odB (n : Int) : Bool := decide (onI n 40 % 2 = 1)
theorem onI_flip {m : Int} (h0 : 0 ≤ m) (h1 : m < 2147483648) : onI (m + 2147483648) 40 = onI m 40 + 1 := by
  have s1 := onI_split (m + 2147483648) 31 9
  have s2 := onI_split m 31 9
  have p : (2 : Int) ^ 31 = 2147483648 := by decide
  rw [p] at s1 s2
  rw [show (m + 2147483648) / 2147483648 = 1 by omega] at s1
  rw [show m / 2147483648 = 0 by omega, onI_zero] at s2
  have e9 : onI 1 9 = 1 := by decide +kernel
  have el : ∀ k : Nat, k ≤ 31 → onI (m + 2147483648) k = onI m k := by
    intro k
    induction k with
    | zero => intro _; rfl
    | succ k ih =>
      intro hk
      show onI (m + 2147483648) k + (m + 2147483648) / 2 ^ k % 2 = onI m k + m / 2 ^ k % 2
      rw [ih (by omega)]
      have e : (2147483648 : Int) = 2 ^ k * 2 ^ (31 - k) := by rw [← Int.pow_add, show k + (31 - k) = 31 by omega]; decide
      have hp : (0 : Int) < 2 ^ k := Int.pow_pos (by decide)
      rw [e, Int.add_mul_ediv_left _ _ (by omega), show 31 - k = (30 - k) + 1 by omega, Int.pow_succ]
      omega
  rw [show (40 : Nat) = 31 + 9 from rfl, s1, s2, el 31 (by omega), e9]
  omega
/-- The word with its parity. -/
def parW (n : Int) : Int := if odB (n % 2147483648) = true then n % 2147483648 else n % 2147483648 + 2147483648
theorem parW_bd (n : Int) : 0 ≤ parW n ∧ parW n ≤ 4294967295 := by
  unfold parW
  split <;> omega
theorem parW_low (n : Int) : parW n % 2147483648 = n % 2147483648 := by
  unfold parW
  split <;> omega
theorem parW_odd (n : Int) : odB (parW n) = true := by
  unfold parW
  split
  · assumption
  · rename_i h
    simp only [odB, decide_eq_true_eq] at h ⊢
    rw [onI_flip (by omega) (by omega)]
    have := onI_bd (n % 2147483648) 40
    omega
theorem and_not31 {n : Int} (h0 : 0 ≤ n) (h1 : n ≤ 4294967295) : bits .andNot .u32 n 2147483648 = n % 2147483648 := by
  have e : bits .andNot .u32 n 2147483648 = bits .and .u32 n 2147483647 := by
    simp only [bits]
    rw [show ~~~(BitVec.ofInt IntKind.u32.bits 2147483648) = BitVec.ofInt IntKind.u32.bits 2147483647 by decide]
  rw [e]
  exact u32_mask n 31 (by decide) h0 (by omega)
theorem or_31 {m : Int} (h0 : 0 ≤ m) (h1 : m < 2147483648) : bits .or .u32 m 2147483648 = m + 2147483648 :=
  bits_join_low .u32 32 (by decide) wraps_u32 31 m 2147483648 h0 (by omega) (by omega) (by decide) (by decide) (by decide)
set_option maxRecDepth 100000 in
set_option maxHeartbeats 8000000 in
theorem wodd (n : Int) (h0 : 0 ≤ n) (h1 : n ≤ 4294967295) (w : World) : Calls Try.prog 27 #[.int .u32 n] w fun e w' => e = .returned (.bool (odB n)) ∧ ∃ m, w' = w.drewN m := by
  have OC := fun u => ones32_any n h0 h1 u
  rw [← onI_40 h0 h1] at OC
  have hb := onI_bd n 40
  have hod : odB n = (onI n 40 % 2 == 1) := by unfold odB; rw [Bool.eq_iff_iff]; simp
  rw [hod]
  generalize onI n 40 = x at *
  replace OC := Lib.hid OC
  clear hod
  obtain ⟨b0, b1⟩ := hb
  go_enter Try.func27, Try.ntmps27
  go_wp2_with fail
  refine (OC.out _).mono ?_
  rintro e w1 ⟨rfl, m, rfl⟩
  go_wp2
  go_ret
  exact ⟨rfl, _, rfl⟩
end Go.Proofs.Ytcpmdgbogdikiaa
