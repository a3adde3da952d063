/- The laws' own line and its value at a place; walked. -/
import Derived.Test.YticecjjlafmclaaTrend4
import Derived.Test.YticecjjlafmclaaClip09
namespace Go.Proofs.Yticecjjlafmclaa
open Go.ChangeShapes Go.WideShapes Go.ChangeAt Go.RowKit
set_option linter.unusedVariables false
set_option linter.unusedSimpArgs false
set_option maxRecDepth 100000 in
set_option maxHeartbeats 8000000 in
theorem lwline (ao : Option Addr) (cap : Nat) (L : List Int) (w : World) (hr : RowIs .i64 w ao L) (hbd : ∀ i, i < L.length → -100000000 ≤ L.getD i 0 ∧ L.getD i 0 ≤ 100000000) (h2 : 2 ≤ L.length) (h64 : L.length ≤ 64) : Calls Try.prog 27 #[.slice ao L.length cap] w fun e w' => e = .returned (.tuple #[.int .i64 (trS L), .int .i64 (trM L)]) ∧ w = w' := by
  have BD := Lib.hid hbd
  have TBA := ts_bd hbd h64
  have TB := TBA L.length (Nat.le_refl _)
  have n2 : 2 ≤ (L.length : Int) := by omega
  have n64 : (L.length : Int) ≤ 64 := by omega
  obtain ⟨y, ey⟩ : ∃ y, y = tsY L L.length := ⟨_, rfl⟩
  obtain ⟨q, eq⟩ : ∃ q, q = tsX L L.length := ⟨_, rfl⟩
  obtain ⟨n, en⟩ : ∃ n, n = (L.length : Int) := ⟨_, rfl⟩
  have eS : trS L = (12000 * q - 6000 * (n - 1) * y) / (n * (n * n - 1)) := by rw [ey, eq, en]; rfl
  have eM : trM L = y / n := by rw [ey, en]; rfl
  rw [← ey, ← eq, ← en] at TB
  rw [← en] at n2 n64
  rw [eS, eM]
  have y1 : -6400000000 ≤ y ∧ y ≤ 6400000000 := by omega
  have q1 : -409600000000 ≤ q ∧ q ≤ 409600000000 := by omega
  have p1 : 6000 * (n - 1) * y ≤ 378000 * 6400000000 ∧ -(378000 * 6400000000) ≤ 6000 * (n - 1) * y := by
    have a0 : (0 : Int) ≤ 6000 * (n - 1) := by omega
    have a1 : 6000 * (n - 1) ≤ 378000 := by omega
    have u1 := Int.mul_le_mul_of_nonneg_left y1.2 a0
    have u2 := Int.mul_le_mul_of_nonneg_left y1.1 a0
    omega
  have p2 : 4 ≤ n * n ∧ n * n ≤ 4096 := by
    have u1 := Int.mul_le_mul n2 n2 (by omega) (by omega)
    have u2 := Int.mul_le_mul n64 n64 (by omega) (by omega)
    omega
  obtain ⟨N, eN⟩ : ∃ N, N = n * n := ⟨_, rfl⟩
  rw [← eN] at p2 ⊢
  have p3 : 0 < n * (N - 1) ∧ n * (N - 1) ≤ 64 * 4095 := by
    have u1 := Int.mul_le_mul n2 (show (3 : Int) ≤ N - 1 by omega) (by omega) (by omega)
    have u2 := Int.mul_le_mul n64 (show N - 1 ≤ (4095 : Int) by omega) (by omega) (by omega)
    omega
  obtain ⟨D, eD⟩ : ∃ D, D = n * (N - 1) := ⟨_, rfl⟩
  obtain ⟨P, eP⟩ : ∃ P, P = 6000 * (n - 1) * y := ⟨_, rfl⟩
  obtain ⟨Z, eZ⟩ : ∃ Z, Z = 12000 * q - P := ⟨_, rfl⟩
  rw [← eD] at p3
  rw [← eP] at p1
  rw [← eD, ← eP, ← eZ]
  have FL := Lib.hid (fun u => floor01_any Z D u p3.1 (by omega) (by omega))
  have m1 : IntKind.i64.wrap (n * n) = N := by rw [← eN, IntKind.wrap_i64]; omega
  have m2 : IntKind.i64.wrap (N - 1) = N - 1 := by rw [IntKind.wrap_i64]; omega
  have m3 : IntKind.i64.wrap (n * (N - 1)) = D := by rw [← eD, IntKind.wrap_i64]; omega
  have m4 : IntKind.i64.wrap (6000 * (n - 1)) = 6000 * (n - 1) := by rw [IntKind.wrap_i64]; omega
  have m5 : IntKind.i64.wrap (6000 * (n - 1) * y) = P := by rw [← eP, IntKind.wrap_i64]; omega
  have m6 : IntKind.i64.wrap (12000 * q) = 12000 * q := by rw [IntKind.wrap_i64]; omega
  have m7 : IntKind.i64.wrap (12000 * q - P) = Z := by rw [← eZ, IntKind.wrap_i64]; omega
  have m8 : IntKind.i64.wrap (n - 1) = n - 1 := by rw [IntKind.wrap_i64]; omega
  have FM := Lib.hid (fun u => floor01_any y n u (by omega) (by omega) (by omega))
  generalize Z / D = R at *
  generalize y / n = R2 at *
  replace ey := Lib.hid ey
  replace eq := Lib.hid eq
  replace en := Lib.hid en
  replace eS := Lib.hid eS
  replace eM := Lib.hid eM
  replace eD := Lib.hid eD
  replace eN := Lib.hid eN
  replace eP := Lib.hid eP
  replace eZ := Lib.hid eZ
  replace p1 := Lib.hid p1
  replace p2 := Lib.hid p2
  replace p3 := Lib.hid p3
  replace y1 := Lib.hid y1
  replace q1 := Lib.hid q1
  replace TB := Lib.hid TB
  replace TBA := Lib.hid TBA
  clear hbd
  go_enter Try.func27, Try.ntmps27
  go_wp2_with fail
  go_loopw [5, 6, 7] (fun y z i v => ∃ k : Nat, k ≤ L.length ∧ y = .int .i64 (tsY L k) ∧ z = .int .i64 (tsX L k) ∧ i = .int .i64 (k : Int) ∧ w = v) (fun _ _ i _ => L.length - (intOf i).toNat)
  case atStart => exact ⟨0, by omega, rfl, rfl, rfl, rfl⟩
  case round =>
    obtain ⟨k, hk, rfl, rfl, rfl, rfl⟩ := hrel
    by_cases hlt : k < L.length
    · obtain ⟨g, off, rfl, -, hc⟩ := hr.at hlt
      have tb := TBA.out k hk
      have a := BD.out k hlt
      have k0 : (0 : Int) ≤ (k : Int) := by omega
      have k1 : (k : Int) < (L.length : Int) := by omega
      have u1 : (k : Int) * L.getD k 0 ≤ (k : Int) * 100000000 := Int.mul_le_mul_of_nonneg_left a.2 k0
      have u2 : (k : Int) * (-100000000) ≤ (k : Int) * L.getD k 0 := Int.mul_le_mul_of_nonneg_left a.1 k0
      have e1 := Lib.hid (show tsY L (k + 1) = tsY L k + L.getD k 0 from rfl)
      have e2 := Lib.hid (show tsX L (k + 1) = tsX L k + (k : Int) * L.getD k 0 from rfl)
      generalize L.getD k 0 = z at *
      generalize tsY L k = y' at *
      generalize tsX L k = q' at *
      obtain ⟨P', eP'⟩ : ∃ P', P' = (k : Int) * z := ⟨_, rfl⟩
      rw [← eP'] at u1 u2 e2
      have r1 : IntKind.i64.wrap (y' + z) = y' + z := by rw [IntKind.wrap_i64]; omega
      have r2 : IntKind.i64.wrap (z * (k : Int)) = P' := by rw [Int.mul_comm, ← eP', IntKind.wrap_i64]; omega
      have r3 : IntKind.i64.wrap (q' + P') = q' + P' := by rw [IntKind.wrap_i64]; omega
      replace eP' := Lib.hid eP'
      clear FL FM u1 u2 tb a m1 m2 m3 m4 m5 m6 m7 m8
      go_wp2
      go_roundw
      case rel => exact ⟨k + 1, by omega, by rw [e1.out], by rw [e2.out], by go_num, by first | rfl | trivial⟩
      case measure => simp [intOf]; omega
    · have hge : (L.length : Int) ≤ (k : Int) := by omega
      obtain rfl : k = L.length := by omega
      clear hge
      rw [← ey.out, ← eq.out, ← en.out]
      have z1 : ¬ n < (L.length : Int) := by have := en.out; omega
      have z2 : decide (n < (L.length : Int)) = false := by simpa using z1
      go_wp2_with fail
      refine (FL.out _).mono ?_
      rintro e w3 ⟨rfl, rfl⟩
      go_wp2_with fail
      refine (FM.out _).mono ?_
      rintro e w3 ⟨rfl, rfl⟩
      go_wp2
      go_ret2
      exact ⟨rfl, rfl⟩
theorem c19 (h : Int) (w : World) : Calls Try.prog 26 #[.int .i64 h] w fun e w' => e = .returned (.int .i64 (trH h)) ∧ w = w' := by
  have C := fun u => c09_any h (-100000000) 100000000 (by omega) u
  rw [show c09 h (-100000000) 100000000 = trH h from by unfold c09 trH; omega] at C
  replace C := Lib.hid C
  go_enter Try.func26, Try.ntmps26
  go_wp2_with fail
  refine (C.out _).mono ?_
  rintro e w1 ⟨rfl, rfl⟩
  go_wp2
  go_ret
  exact ⟨rfl, rfl⟩
set_option maxRecDepth 100000 in
set_option maxHeartbeats 8000000 in
theorem lwat (ao : Option Addr) (cap : Nat) (L : List Int) (x : Int) (w : World) (hr : RowIs .i64 w ao L) (hbd : ∀ i, i < L.length → -100000000 ≤ L.getD i 0 ∧ L.getD i 0 ≤ 100000000) (h2 : 2 ≤ L.length) (h64 : L.length ≤ 64) (hx : -1000 ≤ x ∧ x ≤ 1000) : Calls Try.prog 28 #[.slice ao L.length cap, .int .i64 x] w fun e w' => e = .returned (.int .i64 (lnV (trM L) (trS L) (L.length : Int) x)) ∧ w = w' := by
  have LI := Lib.hid (lwline ao cap L w hr hbd h2 h64)
  have hs := trS_bd hbd h2 h64
  have hm := trM_bd hbd h2 h64
  clear hr hbd
  have LI := LI.out
  generalize trS L = s at *
  generalize trM L = m at *
  obtain ⟨n, en⟩ : ∃ n, n = (L.length : Int) := ⟨_, rfl⟩
  have hn : 2 ≤ n ∧ n ≤ 64 := by omega
  rw [← en]
  replace LI := Lib.hid LI
  unfold lnV
  obtain ⟨K, eK⟩ : ∃ K, K = 2 * x - n + 1 := ⟨_, rfl⟩
  rw [← eK]
  have hK : -2063 ≤ K ∧ K ≤ 2063 := by omega
  obtain ⟨Z, eZ⟩ : ∃ Z, Z = s * K := ⟨_, rfl⟩
  have hZ : -2700000000000000000 ≤ Z ∧ Z ≤ 2700000000000000000 := by
    have h := Int.natAbs_mul s K
    have h1 : s.natAbs ≤ 1300000000000000 := by omega
    have h2 : K.natAbs ≤ 2063 := by omega
    have h3 := Nat.mul_le_mul h1 h2
    rw [← eZ] at h
    omega
  rw [← eZ]
  have hD := Int.ediv_lt_iff_lt_mul (a := Z) (b := 1350000000000001) (show (0 : Int) < 2000 by decide)
  have hE := Int.le_ediv_iff_mul_le (a := -1350000000000000) (b := Z) (show (0 : Int) < 2000 by decide)
  have FL := Lib.hid (fun u => floor01_any Z 2000 u (by omega) (by omega) (by omega))
  have hq : -1350000000000000 ≤ Z / 2000 ∧ Z / 2000 ≤ 1350000000000000 := by omega
  generalize Z / 2000 = R at *
  have m1 : IntKind.i64.wrap (2 * x) = 2 * x := by rw [IntKind.wrap_i64]; omega
  have m2 : IntKind.i64.wrap (2 * x - n) = 2 * x - n := by rw [IntKind.wrap_i64]; omega
  have m3 : IntKind.i64.wrap (2 * x - n + 1) = K := by rw [IntKind.wrap_i64]; omega
  have m4 : IntKind.i64.wrap (s * K) = Z := by rw [← eZ, IntKind.wrap_i64]; omega
  have m5 : IntKind.i64.wrap (m + R) = m + R := by rw [IntKind.wrap_i64]; omega
  replace eK := Lib.hid eK
  replace eZ := Lib.hid eZ
  clear hD hE hZ hK hq hx hm hs hn
  clear h2 h64
  have ee := en
  replace en := Lib.hid en
  clear ee
  go_enter Try.func28, Try.ntmps28
  go_wp2_with fail
  refine LI.out.mono ?_
  rintro e w3 ⟨rfl, rfl⟩
  go_upto_region 3 with (fail)
  rw [← en.out]
  go_wp2_with fail
  refine (FL.out _).mono ?_
  rintro e w3 ⟨rfl, rfl⟩
  go_wp2
  go_ret
  exact ⟨rfl, rfl⟩
end Go.Proofs.Yticecjjlafmclaa
