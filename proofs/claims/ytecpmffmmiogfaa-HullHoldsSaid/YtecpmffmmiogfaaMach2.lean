/- Package mach: the ratio of a Mach number, and the document's; walked. -/
import Derived.Test.YtecpmffmmiogfaaMach1
import Derived.Test.YtecpmffmmiogfaaCurve3
import Derived.Test.YtecpmffmmiogfaaSqrt
namespace Go.Proofs.Ytecpmffmmiogfaa
open Go.ChangeShapes Go.WideShapes Go.ChangeAt Go.RowKit
set_option linter.unusedVariables false
set_option linter.unusedSimpArgs false

/-- A Mach number within its bounds. -/
def mcM (m : Int) : Int := if m < 0 then 0 else if 20000 < m then 20000 else m
theorem mcM_is (m : Int) : (m < 0 ∧ mcM m = 0) ∨ (20000 < m ∧ mcM m = 20000) ∨ (0 ≤ m ∧ m ≤ 20000 ∧ mcM m = m) := by unfold mcM; omega
theorem mcM_bd (m : Int) : 0 ≤ mcM m ∧ mcM m ≤ 20000 := by unfold mcM; omega
def mcX (m : Int) : Int := 1073741824 + m * m * 1073741824 / 500000000
def mcC (m : Int) : Int := mcX m * mcX m / 1073741824 * mcX m / 1073741824
def mcS (m : Int) : Int := mcC m * rt (mcX m * 1073741824) / 1073741824 - 1073741824
def mcA (k : Nat) : Int := mpt k * 1073741824 / 10000
/-- Above Mach 1: between two points. -/
def mcB (m : Int) : Int := mcA ((m - 10000) / 1000).toNat + (mcA (((m - 10000) / 1000).toNat + 1) - mcA ((m - 10000) / 1000).toNat) * ((m - 10000) % 1000) / 1000
def mcT (m : Int) : Int := if m ≤ 10000 then mcS m else if m = 20000 then mcA 10 else mcB m
def mcR (m : Int) : Int := mcT (mcM m)

theorem mcX_bd {m : Int} (h0 : 0 ≤ m) (h1 : m ≤ 10000) : (0 ≤ m * m ∧ m * m ≤ 100000000) ∧ (1073741824 ≤ mcX m ∧ mcX m ≤ 1288490189) := by
  have a := Int.mul_nonneg h0 h0
  have b := Int.mul_le_mul h1 h1 h0 (by omega : (0 : Int) ≤ 10000)
  unfold mcX
  omega
theorem mcC_bd {m : Int} (h0 : 0 ≤ m) (h1 : m ≤ 10000) : (0 ≤ mcX m * mcX m ∧ mcX m * mcX m ≤ 1700000000000000000) ∧ (0 ≤ mcX m * mcX m / 1073741824 * mcX m ∧ mcX m * mcX m / 1073741824 * mcX m ≤ 2000000000000000000) ∧ (0 ≤ mcC m ∧ mcC m ≤ 1900000000) := by
  obtain ⟨-, x0, x1⟩ := mcX_bd h0 h1
  unfold mcC
  generalize mcX m = x at *
  have a := Int.mul_nonneg (show 0 ≤ x by omega) (show 0 ≤ x by omega)
  have b := Int.mul_le_mul x1 x1 (by omega) (by omega : (0 : Int) ≤ 1288490189)
  have c : 0 ≤ x * x / 1073741824 ∧ x * x / 1073741824 ≤ 1546188300 := by omega
  have d := Int.mul_nonneg c.1 (show 0 ≤ x by omega)
  have e := Int.mul_le_mul c.2 x1 (by omega) (by omega : (0 : Int) ≤ 1546188300)
  omega
theorem mcS_bd {m : Int} (h0 : 0 ≤ m) (h1 : m ≤ 10000) : (0 ≤ mcX m * 1073741824 ∧ mcX m * 1073741824 ≤ 1400000000000000000) ∧ (0 ≤ rt (mcX m * 1073741824) ∧ rt (mcX m * 1073741824) ≤ 1300000000) ∧ (0 ≤ mcC m * rt (mcX m * 1073741824) ∧ mcC m * rt (mcX m * 1073741824) ≤ 2470000000000000000) := by
  obtain ⟨-, x0, x1⟩ := mcX_bd h0 h1
  obtain ⟨-, -, c0, c1⟩ := mcC_bd h0 h1
  have r0 := (rt_is (mcX m * 1073741824) (by omega)).1
  have r1 := rt_le (mcX m * 1073741824) 1300000000 (by omega) (by omega) (by omega)
  have p0 := Int.mul_nonneg c0 r0
  have p1 := Int.mul_le_mul c1 r1 r0 (by omega : (0 : Int) ≤ 1900000000)
  omega

set_option maxHeartbeats 4000000 in
theorem msub_any (m : Int) (w : World) (h0 : 0 ≤ m) (h1 : m ≤ 10000) : Calls Try.prog 84 #[.int .i64 m] w fun e w' => e = .returned (.int .i64 (mcS m)) ∧ w = w' := by
  have RF := fun u => rof_rt (mcX m * 1073741824) u (by have := (mcS_bd h0 h1).1; omega) (by have := (mcS_bd h0 h1).1; omega)
  rw [if_neg (by have := (mcS_bd h0 h1).1; omega)] at RF
  replace RF := Lib.hid RF
  obtain ⟨a1, a2⟩ := mcX_bd h0 h1
  obtain ⟨b1, b2, b3⟩ := mcC_bd h0 h1
  obtain ⟨d1, d2, d3⟩ := mcS_bd h0 h1
  have HV := Lib.hid (show mcS m = mcC m * rt (mcX m * 1073741824) / 1073741824 - 1073741824 from rfl)
  have HC : mcC m = mcX m * mcX m / 1073741824 * mcX m / 1073741824 := rfl
  have HX : mcX m = 1073741824 + m * m * 1073741824 / 500000000 := rfl
  generalize mcS m = V at *
  generalize mcC m = C at *
  generalize mcX m = X at *
  generalize hR : rt (X * 1073741824) = R at *
  clear hR
  generalize hM : m * m = M at *
  generalize hQ : X * X = Q at *
  generalize hP : Q / 1073741824 * X = P at *
  generalize hD : C * R = D at *
  replace HX := HX.symm
  replace HC := HC.symm
  go_enter Try.func84, Try.ntmps84
  go_wp2_with fail
  refine (RF.out _).mono ?_
  rintro e w1 ⟨rfl, rfl⟩
  go_wp2
  go_ret
  exact ⟨ret_int (by rw [HV.out]), rfl⟩

theorem mcA_bd (k : Nat) : 0 ≤ mcA k ∧ mcA k ≤ 5000000000 := by have := mpt_bd k; unfold mcA; omega
theorem mcA_step : ∀ k, k < 10 → mcA k ≤ mcA (k + 1) := fun k hk => by
  rcases k with _ | _ | _ | _ | _ | _ | _ | _ | _ | _ | k
  all_goals first | omega | decide

end Go.Proofs.Ytecpmffmmiogfaa
