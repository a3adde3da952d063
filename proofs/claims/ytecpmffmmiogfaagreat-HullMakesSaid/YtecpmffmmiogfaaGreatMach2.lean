/- Package mach: the ratio of a Mach number, and the document's; walked. -/
import Derived.Test.YtecpmffmmiogfaaGreatMach1
import Derived.Test.YtecpmffmmiogfaaGreatCurve3
import Derived.Test.YtecpmffmmiogfaaGreatSqrt
namespace Go.Proofs.YtecpmffmmiogfaaGreat
open Go.ChangeShapes Go.WideShapes Go.ChangeAt Go.RowKit
set_option linter.unusedVariables false
set_option linter.unusedSimpArgs false

/-- A Mach number within its bounds. -/
def mcM (m : Int) : Int := if m < 0 then 0 else if 20000 < m then 20000 else m
theorem mcM_is (m : Int) : (m < 0 ∧ mcM m = 0) ∨ (20000 < m ∧ mcM m = 20000) ∨ (0 ≤ m ∧ m ≤ 20000 ∧ mcM m = m) := by unfold mcM; omega
theorem mcM_bd (m : Int) : 0 ≤ mcM m ∧ mcM m ≤ 20000 := by unfold mcM; omega
def mcX (m : Int) : Int := 1073741824 + m * m * 1073741824 / 500000000
def mcC (m : Int) : Int := mcX m * mcX m / 1073741824 * mcX m / 1073741824
def mcS (m : Int) : Int := mcC m * rt (mcX m * 1073741824) / 1073741824 - 1073741824
def mcA (k : Nat) : Int := mpt k * 1073741824 / 10000
/-- Above Mach 1: between two points. -/
def mcB (m : Int) : Int := mcA ((m - 10000) / 1000).toNat + (mcA (((m - 10000) / 1000).toNat + 1) - mcA ((m - 10000) / 1000).toNat) * ((m - 10000) % 1000) / 1000
def mcT (m : Int) : Int := if m ≤ 10000 then mcS m else if m = 20000 then mcA 10 else mcB m
def mcR (m : Int) : Int := mcT (mcM m)

theorem mcX_bd {m : Int} (h0 : 0 ≤ m) (h1 : m ≤ 10000) : (0 ≤ m * m ∧ m * m ≤ 100000000) ∧ (1073741824 ≤ mcX m ∧ mcX m ≤ 1288490189) := by
  have a := Int.mul_nonneg h0 h0
  have b := Int.mul_le_mul h1 h1 h0 (by omega : (0 : Int) ≤ 10000)
  unfold mcX
  omega
theorem mcC_bd {m : Int} (h0 : 0 ≤ m) (h1 : m ≤ 10000) : (0 ≤ mcX m * mcX m ∧ mcX m * mcX m ≤ 1700000000000000000) ∧ (0 ≤ mcX m * mcX m / 1073741824 * mcX m ∧ mcX m * mcX m / 1073741824 * mcX m ≤ 2000000000000000000) ∧ (0 ≤ mcC m ∧ mcC m ≤ 1900000000) := by
  obtain ⟨-, x0, x1⟩ := mcX_bd h0 h1
  unfold mcC
  generalize mcX m = x at *
  have a := Int.mul_nonneg (show 0 ≤ x by omega) (show 0 ≤ x by omega)
  have b := Int.mul_le_mul x1 x1 (by omega) (by omega : (0 : Int) ≤ 1288490189)
  have c : 0 ≤ x * x / 1073741824 ∧ x * x / 1073741824 ≤ 1546188300 := by omega
  have d := Int.mul_nonneg c.1 (show 0 ≤ x by omega)
  have e := Int.mul_le_mul c.2 x1 (by omega) (by omega : (0 : Int) ≤ 1546188300)
  omega
theorem mcS_bd {m : Int} (h0 : 0 ≤ m) (h1 : m ≤ 10000) : (0 ≤ mcX m * 1073741824 ∧ mcX m * 1073741824 ≤ 1400000000000000000) ∧ (0 ≤ rt (mcX m * 1073741824) ∧ rt (mcX m * 1073741824) ≤ 1300000000) ∧ (0 ≤ mcC m * rt (mcX m * 1073741824) ∧ mcC m * rt (mcX m * 1073741824) ≤ 2470000000000000000) := by
  obtain ⟨-, x0, x1⟩ := mcX_bd h0 h1
  obtain ⟨-, -, c0, c1⟩ := mcC_bd h0 h1
  have r0 := (rt_is (mcX m * 1073741824) (by omega)).1
  have r1 := rt_le (mcX m * 1073741824) 1300000000 (by omega) (by omega) (by omega)
  have p0 := Int.mul_nonneg c0 r0
  have p1 := Int.mul_le_mul c1 r1 r0 (by omega : (0 : Int) ≤ 1900000000)
  omega

set_option maxHeartbeats 4000000 in
theorem msub_any (m : Int) (w : World) (h0 : 0 ≤ m) (h1 : m ≤ 10000) : Calls Tryz.prog 113 #[.int .i64 m] w fun e w' => e = .returned (.int .i64 (mcS m)) ∧ w = w' := by
  have RF := fun u => rof_rt (mcX m * 1073741824) u (by have := (mcS_bd h0 h1).1; omega) (by have := (mcS_bd h0 h1).1; omega)
  rw [if_neg (by have := (mcS_bd h0 h1).1; omega)] at RF
  replace RF := Lib.hid RF
  obtain ⟨a1, a2⟩ := mcX_bd h0 h1
  obtain ⟨b1, b2, b3⟩ := mcC_bd h0 h1
  obtain ⟨d1, d2, d3⟩ := mcS_bd h0 h1
  have HV := Lib.hid (show mcS m = mcC m * rt (mcX m * 1073741824) / 1073741824 - 1073741824 from rfl)
  have HC : mcC m = mcX m * mcX m / 1073741824 * mcX m / 1073741824 := rfl
  have HX : mcX m = 1073741824 + m * m * 1073741824 / 500000000 := rfl
  generalize mcS m = V at *
  generalize mcC m = C at *
  generalize mcX m = X at *
  generalize hR : rt (X * 1073741824) = R at *
  clear hR
  generalize hM : m * m = M at *
  generalize hQ : X * X = Q at *
  generalize hP : Q / 1073741824 * X = P at *
  generalize hD : C * R = D at *
  replace HX := HX.symm
  replace HC := HC.symm
  go_enter Tryz.func113, Tryz.ntmps113
  go_wp2_with fail
  refine (RF.out _).mono ?_
  rintro e w1 ⟨rfl, rfl⟩
  go_wp2
  go_ret
  exact ⟨ret_int (by rw [HV.out]), rfl⟩

set_option maxHeartbeats 4000000 in
theorem rpoints_any (w : World) : Calls Tryz.prog 100 #[] w fun e w' => e = .returned (.slice (some ⟨w.heap.size, 0, none⟩) 11 11) ∧ Below w.heap.size w w' ∧ w.heap.size < w'.heap.size ∧ ∀ u, Below w'.heap.size w' u → ∀ i, i < 11 → u.cell? ⟨w.heap.size, i, none⟩ = some (.int .i64 (mpt i)) := by
  go_enter Tryz.func100, Tryz.ntmps100
  go_wp2
  go_ret
  refine ⟨rfl, (by repeat (first | exact Below.refl _ _ | assumption | apply Below.drew | apply below_drewN | (refine Below.alloc ?_ (by first | exact Nat.le_refl _ | omega | (simp <;> omega)) _) | (refine Below.setCell ?_ (by first | exact Nat.le_refl _ | omega | (simp <;> omega)) _))), by simp, fun u hu i hi => ?_⟩
  rw [bc hu (by simp)]
  rcases i with _ | _ | _ | _ | _ | _ | _ | _ | _ | _ | _ | i
  all_goals first | omega | (go_simp; first | done | rfl | simp [mpt])

theorem mcA_bd (k : Nat) : 0 ≤ mcA k ∧ mcA k ≤ 5000000000 := by have := mpt_bd k; unfold mcA; omega
theorem mcA_step : ∀ k, k < 10 → mcA k ≤ mcA (k + 1) := fun k hk => by
  rcases k with _ | _ | _ | _ | _ | _ | _ | _ | _ | _ | k
  all_goals first | omega | decide

set_option maxRecDepth 100000 in
set_option maxHeartbeats 8000000 in
theorem rratio_any (m : Int) (w : World) : Calls Tryz.prog 73 #[.int .i64 m] w fun e w' => e = .returned (.int .i64 (mcR m)) ∧ Below w.heap.size w w' := by
  have hm := mcM_is m
  have hb := mcM_bd m
  unfold mcR
  generalize mcM m = n at *
  by_cases hs : n ≤ 10000
  · rw [show mcT n = mcS n by unfold mcT; rw [if_pos hs]]
    have RF := fun u => rsqrt_at (mcX n * 1073741824) u (by have := (mcS_bd hb.1 hs).1; omega) (by have := (mcS_bd hb.1 hs).1; omega)
    replace RF := Lib.hid RF
    have h0 := hb.1
    have h1 := hs
    obtain ⟨a1, a2⟩ := mcX_bd h0 h1
    obtain ⟨b1, b2, b3⟩ := mcC_bd h0 h1
    obtain ⟨d1, d2, d3⟩ := mcS_bd h0 h1
    have HV := Lib.hid (show mcS n = mcC n * rt (mcX n * 1073741824) / 1073741824 - 1073741824 from rfl)
    have HC : mcC n = mcX n * mcX n / 1073741824 * mcX n / 1073741824 := rfl
    have HX : mcX n = 1073741824 + n * n * 1073741824 / 500000000 := rfl
    generalize mcS n = V at *
    generalize mcC n = C at *
    generalize mcX n = X at *
    generalize hR : rt (X * 1073741824) = R at *
    clear hR
    generalize hM : n * n = M at *
    generalize hQ : X * X = Q at *
    generalize hP : Q / 1073741824 * X = P at *
    generalize hD : C * R = D at *
    replace HX := HX.symm
    replace HC := HC.symm
    rcases hm with ⟨m1, rfl⟩ | ⟨m1, rfl⟩ | ⟨m1, m2, rfl⟩
    · have HV := Lib.hid HV.out
      go_enter Tryz.func73, Tryz.ntmps73
      go_wp2_with fail
      refine (RF.out _).mono ?_
      rintro e w1 ⟨rfl, rfl⟩
      go_wp2
      go_ret
      exact ⟨ret_int (by rw [HV.out]), (by repeat (first | exact Below.refl _ _ | assumption | apply Below.drew | apply below_drewN | (refine Below.alloc ?_ (by first | exact Nat.le_refl _ | omega | (simp <;> omega)) _) | (refine Below.setCell ?_ (by first | exact Nat.le_refl _ | omega | (simp <;> omega)) _)))⟩
    · omega
    · go_enter Tryz.func73, Tryz.ntmps73
      go_wp2_with fail
      refine (RF.out _).mono ?_
      rintro e w1 ⟨rfl, rfl⟩
      go_wp2
      go_ret
      exact ⟨ret_int (by rw [HV.out]), (by repeat (first | exact Below.refl _ _ | assumption | apply Below.drew | apply below_drewN | (refine Below.alloc ?_ (by first | exact Nat.le_refl _ | omega | (simp <;> omega)) _) | (refine Below.setCell ?_ (by first | exact Nat.le_refl _ | omega | (simp <;> omega)) _)))⟩
  · obtain ⟨K, hK⟩ : ∃ K : Nat, (n - 10000) / 1000 = (K : Int) := ⟨((n - 10000) / 1000).toNat, by omega⟩
    obtain ⟨L, hL⟩ : ∃ L : Int, (n - 10000) % 1000 = L := ⟨_, rfl⟩
    have hLb : 0 ≤ L ∧ L ≤ 999 := by omega
    have hKb : K ≤ 10 := by omega
    have hKi : (K : Int) < 11 := by omega
    have et : ((K : Int) + 1).toNat = K + 1 := by omega
    have pb := mpt_bd K
    have pb1 := mpt_bd (K + 1)
    have ab := mcA_bd K
    have ab1 := mcA_bd (K + 1)
    obtain ⟨p, hp⟩ : ∃ p, mpt K = p := ⟨_, rfl⟩
    obtain ⟨p1, hp1⟩ : ∃ p, mpt (K + 1) = p := ⟨_, rfl⟩
    obtain ⟨A, hA⟩ : ∃ A, mcA K = A := ⟨_, rfl⟩
    obtain ⟨B, hB⟩ : ∃ B, mcA (K + 1) = B := ⟨_, rfl⟩
    have eA : p * 1073741824 / 10000 = A := by rw [← hp, ← hA]; rfl
    have eB : p1 * 1073741824 / 10000 = B := by rw [← hp1, ← hB]; rfl
    rw [hp] at pb
    rw [hp1] at pb1
    rw [hA] at ab
    rw [hB] at ab1
    by_cases hz : L = 0
    · have HV := Lib.hid (show mcT n = A by
        unfold mcT
        rw [if_neg hs]
        by_cases h2 : n = 20000
        · rw [if_pos h2, ← hA, show K = 10 by omega]
        · rw [if_neg h2]
          unfold mcB
          rw [hL, hK, hz, Int.toNat_natCast, hA, Int.mul_zero]
          simp)
      generalize mcT n = V at *
      replace hp := Lib.hid hp
      replace hA := Lib.hid hA
      replace hB := Lib.hid hB
      replace hp1 := Lib.hid hp1
      subst hz
      rcases hm with ⟨m1, rfl⟩ | ⟨m1, rfl⟩ | ⟨m1, m2, rfl⟩
      · omega
      · obtain rfl : K = 10 := by omega
        go_enter Tryz.func73, Tryz.ntmps73
        go_wp2_with fail
        refine (rpoints_any _).mono ?_
        rintro e w1 ⟨rfl, hb1, hlt, hcs⟩
        have c0 := hcs w1 (Below.refl _ _) 10 (by omega)
        rw [hp.out] at c0
        clear hcs
        go_wp2
        go_ret
        exact ⟨ret_int (by have h := HV.out; omega), hb1⟩
      · go_enter Tryz.func73, Tryz.ntmps73
        go_wp2_with fail
        refine (rpoints_any _).mono ?_
        rintro e w1 ⟨rfl, hb1, hlt, hcs⟩
        have c0 := hcs w1 (Below.refl _ _) K (by omega)
        rw [hp.out] at c0
        clear hcs
        go_wp2
        go_ret
        exact ⟨ret_int (by have h := HV.out; omega), hb1⟩
    · have hK9 : K ≤ 9 := by omega
      have hKi1 : (K : Int) + 1 < 11 := by omega
      have hAB : A ≤ B := by rw [← hA, ← hB]; exact mcA_step K (by omega)
      obtain ⟨D, hD⟩ : ∃ D, (B - A) * L = D := ⟨_, rfl⟩
      have hDb : 0 ≤ D ∧ D ≤ 5000000000000 := by
        have a := Int.mul_nonneg (show 0 ≤ B - A by omega) hLb.1
        have b := Int.mul_le_mul (show B - A ≤ 5000000000 by omega) hLb.2 hLb.1 (by omega : (0 : Int) ≤ 5000000000)
        omega
      have HV := Lib.hid (show mcT n = A + D / 1000 by
        unfold mcT
        rw [if_neg hs, if_neg (by omega)]
        unfold mcB
        rw [hL, hK, Int.toNat_natCast, hA, hB, hD])
      generalize mcT n = V at *
      replace hp := Lib.hid hp
      replace hA := Lib.hid hA
      replace hB := Lib.hid hB
      replace hp1 := Lib.hid hp1
      have hz' : (L == 0) = false := by simpa using hz
      rcases hm with ⟨m1, rfl⟩ | ⟨m1, rfl⟩ | ⟨m1, m2, rfl⟩
      · omega
      · omega
      · go_enter Tryz.func73, Tryz.ntmps73
        go_wp2_with fail
        refine (rpoints_any _).mono ?_
        rintro e w1 ⟨rfl, hb1, hlt, hcs⟩
        have c0 := hcs w1 (Below.refl _ _) K (by omega)
        have c1 := hcs w1 (Below.refl _ _) (K + 1) (by omega)
        rw [hp1.out] at c1
        rw [hp.out] at c0
        clear hcs
        go_wp2
        go_ret
        exact ⟨ret_int (by have h := HV.out; omega), hb1⟩
end Go.Proofs.YtecpmffmmiogfaaGreat
