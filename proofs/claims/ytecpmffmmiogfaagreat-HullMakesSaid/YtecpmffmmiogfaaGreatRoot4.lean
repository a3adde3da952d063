/- The root of a number as a function; Sqrt, Of, Square, square and Hypot. -/
import Derived.Test.YtecpmffmmiogfaaGreatMgRg
import Derived.Test.YtecpmffmmiogfaaGreatSatClip
import Derived.Laws.Externs
namespace Go.Proofs.YtecpmffmmiogfaaGreat
open Go.ChangeShapes Go.WideShapes Go.ChangeAt Go.RowKit
set_option linter.unusedVariables false

theorem root_uniq {N r s : Int} (h : IsRoot N r) (k : IsRoot N s) : r = s := by
  obtain ⟨h0, h1, h2⟩ := h
  obtain ⟨k0, k1, k2⟩ := k
  by_cases a : r < s
  · have := Int.mul_le_mul (show r + 1 ≤ s by omega) (show r + 1 ≤ s by omega) (by omega) k0
    omega
  · by_cases b : s < r
    · have := Int.mul_le_mul (show s + 1 ≤ r by omega) (show s + 1 ≤ r by omega) (by omega) h0
      omega
    · omega

def rtN : Nat → Nat
  | 0 => 0
  | n + 1 => if (rtN n + 1) * (rtN n + 1) ≤ n + 1 then rtN n + 1 else rtN n

theorem rtN_is : ∀ n : Nat, IsRoot n (rtN n)
  | 0 => by simp [IsRoot, rtN]
  | n + 1 => by
    obtain ⟨h0, h1, h2⟩ := rtN_is n
    unfold rtN
    split
    · rename_i hc
      have hc' : (((rtN n + 1) * (rtN n + 1) : Nat) : Int) ≤ ((n + 1 : Nat) : Int) := Int.ofNat_le.2 hc
      push_cast at hc' ⊢
      generalize (rtN n : Int) = r at *
      refine ⟨by omega, hc', ?_⟩
      have : (r + 1 + 1) * (r + 1 + 1) = (r + 1) * (r + 1) + 2 * (r + 1) + 1 := by rw [Int.add_mul, Int.mul_add, Int.mul_add]; omega
      omega
    · rename_i hc
      have hc' : ¬ (((rtN n + 1) * (rtN n + 1) : Nat) : Int) ≤ ((n + 1 : Nat) : Int) := fun h => hc (Int.ofNat_le.1 h)
      push_cast at hc' ⊢
      generalize (rtN n : Int) = r at *
      exact ⟨h0, by omega, by omega⟩

def rt (N : Int) : Int := (rtN N.toNat : Int)
theorem rt_is (N : Int) (h : 0 ≤ N) : IsRoot N (rt N) := by
  have := rtN_is N.toNat
  unfold rt
  rwa [show ((N.toNat : Nat) : Int) = N by omega] at this
theorem rt_eq {N r : Int} (h : IsRoot N r) : rt N = r := root_uniq (rt_is N (by have := Int.mul_nonneg h.1 h.1; have := h.2.1; omega)) h
theorem rt_zero : rt 0 = 0 := rfl
theorem rt_le (N B : Int) (h : 0 ≤ N) (hB : 0 ≤ B) (hN : N < (B + 1) * (B + 1)) : rt N ≤ B := by
  obtain ⟨h0, h1, h2⟩ := rt_is N h
  by_cases a : rt N ≤ B
  · exact a
  · have := Int.mul_le_mul (show B + 1 ≤ rt N by omega) (show B + 1 ≤ rt N by omega) (by omega) h0
    omega
theorem rt_mono (M N : Int) (h : 0 ≤ M) (hN : M ≤ N) : rt M ≤ rt N := by
  obtain ⟨h0, h1, h2⟩ := rt_is N (by omega)
  exact rt_le M (rt N) h h0 (by omega)
theorem le_rt (N x : Int) (hx : 0 ≤ x) (h : x * x ≤ N) : x ≤ rt N := by
  have h3 := Int.mul_nonneg hx hx
  obtain ⟨h0, h1, h2⟩ := rt_is N (by omega)
  by_cases a : x ≤ rt N
  · exact a
  · have := Int.mul_le_mul (show rt N + 1 ≤ x by omega) (show rt N + 1 ≤ x by omega) (by omega) hx
    omega
theorem rt_sq (x : Int) (h : 0 ≤ x) : rt (x * x) = x :=
  rt_eq ⟨h, Int.le_refl _, by rw [Int.add_mul, Int.mul_add]; omega⟩

theorem rwide_rt (hi lo : Int) (w : World) (hh0 : 0 ≤ hi) (hh : hi ≤ 18446744073709551615) (hl0 : 0 ≤ lo) (hl : lo ≤ 18446744073709551615) :
    Calls Tryz.prog 121 #[.int .u64 hi, .int .u64 lo] w fun e w' => e = .returned (.int .u64 (rt (hi * 18446744073709551616 + lo))) ∧ w = w' :=
  (rwide_any hi lo w hh0 hh hl0 hl).mono fun e w' ⟨r, h1, h2, h3, h4⟩ => ⟨by rw [h3, rt_eq h1], h4⟩

theorem rt_u64 (n : Int) (h0 : 0 ≤ n) (h : n ≤ 18446744073709551615) : 0 ≤ rt n ∧ rt n ≤ 4294967295 := ⟨(rt_is n h0).1, rt_le n 4294967295 h0 (by omega) (by omega)⟩

set_option maxHeartbeats 400000 in
theorem sqrt_rt (n : Int) (w : World) (h0 : 0 ≤ n) (h : n ≤ 18446744073709551615) :
    Calls Tryz.prog 112 #[.int .u64 n] w fun e w' => e = .returned (.int .u64 (rt n)) ∧ w = w' := by
  have W := fun v => rwide_rt 0 n v (by omega) (by omega) h0 h
  rw [show (0 : Int) * 18446744073709551616 + n = n by omega] at W
  go_enter Tryz.func112, Tryz.ntmps112
  go_wp2_with (go_at_call 121; refine (W _).mono ?_; rintro e w1 ⟨rfl, rfl⟩)
  go_ret
  exact ⟨rfl, rfl⟩

set_option maxHeartbeats 400000 in
theorem rof_rt (n : Int) (w : World) (h0 : -9223372036854775808 ≤ n) (h : n ≤ 9223372036854775807) :
    Calls Tryz.prog 96 #[.int .i64 n] w fun e w' => e = .returned (.int .i64 (if n < 0 then 0 else rt n)) ∧ w = w' := by
  by_cases hn : n < 0
  · rw [if_pos hn]
    go_enter Tryz.func96, Tryz.ntmps96
    go_wp2
    go_ret
    exact ⟨rfl, rfl⟩
  · rw [if_neg hn]
    have S := fun v => sqrt_rt n v (by omega) (by omega)
    have b := rt_u64 n (by omega) (by omega)
    generalize rt n = r at *
    go_enter Tryz.func96, Tryz.ntmps96
    go_wp2_with (go_at_call 112; refine (S _).mono ?_; rintro e w1 ⟨rfl, rfl⟩)
    go_ret
    exact ⟨rfl, rfl⟩

end Go.Proofs.YtecpmffmmiogfaaGreat
