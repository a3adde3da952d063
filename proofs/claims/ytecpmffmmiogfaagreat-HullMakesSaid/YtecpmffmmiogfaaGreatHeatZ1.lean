/- Package heat; the laws HeatCooler and HeatBack, walked. -/
import Derived.Test.YtecpmffmmiogfaaGreatMgWg
import Derived.Test.YtecpmffmmiogfaaGreatReg
namespace Go.Proofs.YtecpmffmmiogfaaGreat
open Go.ChangeShapes Go.WideShapes Go.ChangeAt Go.RowKit
set_option linter.unusedVariables false
set_option linter.unusedSimpArgs false

theorem wq_posH {a b c : Int} (hc : 0 < c) : wq a b c = a * b / c := by
  unfold wq wN mag
  rw [if_neg (by omega), if_neg (by omega)]
theorem flV_pos {a b c : Int} (hc : 0 < c) (h1 : -1099511627775 ≤ a * b / c) (h2 : a * b / c ≤ 1099511627775) : flV a b c = a * b / c := by
  unfold flV flB wIn
  rw [wq_posH hc]
  rw [if_pos]
  simp
  exact ⟨by omega, h1, h2⟩

/-- A temperature that may be. -/
def htT (t : Int) : Int := if t < 1 then 1 else if 1000000 < t then 1000000 else t
def htM (m : Int) : Int := if m < 0 then 0 else if 20000 < m then 20000 else m
def htR (r : Int) : Int := if r < 0 then 0 else if 1000 < r then 1000 else r
/-- How much is heated. -/
def htH (m r : Int) : Int := 500000000000 + htR r * htM m * htM m
def htS (t m r : Int) : Int := htT t * 500000000000 / htH m r
def htU (t m r : Int) : Int := htT t * htH m r / 500000000000
theorem htT_bd (t : Int) : 1 ≤ htT t ∧ htT t ≤ 1000000 := by unfold htT; omega
theorem htM_bd (t : Int) : 0 ≤ htM t ∧ htM t ≤ 20000 := by unfold htM; omega
theorem htR_bd (t : Int) : 0 ≤ htR t ∧ htR t ≤ 1000 := by unfold htR; omega
theorem mul_mono {a b c d : Int} (h1 : 0 ≤ a) (h2 : a ≤ b) (h3 : 0 ≤ c) (h4 : c ≤ d) : a * c ≤ b * d :=
  Int.mul_le_mul h2 h4 h3 (by omega)
theorem htQ_bd (m r : Int) : 0 ≤ htR r * htM m ∧ htR r * htM m ≤ 20000000 ∧ 0 ≤ htR r * htM m * htM m ∧ htR r * htM m * htM m ≤ 400000000000 := by
  have a := htM_bd m
  have b := htR_bd r
  have c := Int.mul_nonneg b.1 a.1
  have d := mul_mono b.1 b.2 a.1 a.2
  have e := Int.mul_nonneg c a.1
  have f := mul_mono c (show htR r * htM m ≤ 20000000 by omega) a.1 a.2
  omega
theorem htH_bd (m r : Int) : 500000000000 ≤ htH m r ∧ htH m r ≤ 900000000000 := by
  have := htQ_bd m r
  unfold htH; omega
theorem htH_mono {m n : Int} (r : Int) (h : m ≤ n) : htH m r ≤ htH n r := by
  have a := htM_bd m
  have b := htR_bd r
  have h1 : htM m ≤ htM n := by unfold htM; omega
  have c := Int.mul_nonneg b.1 a.1
  have d := Int.mul_le_mul_of_nonneg_left h1 b.1
  have e := mul_mono c d a.1 h1
  unfold htH; omega
theorem htH_rest (r : Int) : htH 0 r = 500000000000 := by
  unfold htH
  rw [show htM 0 = 0 by decide]; simp
theorem htH_no (m : Int) : htH m 0 = 500000000000 := by
  unfold htH
  rw [show htR 0 = 0 by decide]; simp
theorem htT_id {t : Int} (h1 : 1 ≤ t) (h2 : t ≤ 1000000) : htT t = t := by unfold htT; omega

theorem htS_bd (t m r : Int) : 0 ≤ htS t m r ∧ htS t m r ≤ htT t := by
  have a := htT_bd t
  have b := htH_bd m r
  unfold htS
  refine ⟨Int.ediv_nonneg (by omega) (by omega), ?_⟩
  apply Int.ediv_le_of_le_mul (by omega)
  exact Int.mul_le_mul_of_nonneg_left b.1 (by omega)
theorem htU_bd (t m r : Int) : htT t ≤ htU t m r ∧ htU t m r ≤ 1800000 := by
  have a := htT_bd t
  have b := htH_bd m r
  unfold htU
  refine ⟨?_, ?_⟩
  · apply Int.le_ediv_of_mul_le (by omega)
    exact Int.mul_le_mul_of_nonneg_left b.1 (by omega)
  · apply Int.ediv_le_of_le_mul (by omega)
    have := mul_mono (show 0 ≤ htT t by omega) a.2 (show 0 ≤ htH m r by omega) b.2
    omega
theorem htS_anti {m n : Int} (t r : Int) (h : m ≤ n) : htS t n r ≤ htS t m r := by
  have a := htT_bd t
  have b := htH_bd m r
  have c := htH_mono r h
  unfold htS
  apply Int.le_ediv_of_mul_le (by omega)
  have d := Int.ediv_mul_le (htT t * 500000000000) (show htH n r ≠ 0 by omega)
  have e : 0 ≤ htT t * 500000000000 / htH n r := Int.ediv_nonneg (by omega) (by omega)
  have f := Int.mul_le_mul_of_nonneg_left c e
  omega
theorem htS_mono {s t : Int} (m r : Int) (h : s ≤ t) : htS s m r ≤ htS t m r := by
  have b := htH_bd m r
  have h1 : htT s ≤ htT t := by unfold htT; omega
  unfold htS
  exact Int.ediv_le_ediv (by omega) (by omega)
theorem ht_back1 {t : Int} (m r : Int) (h1 : 1000 ≤ t) (h2 : t ≤ 500000) : 0 ≤ t - htU (htS t m r) m r ∧ t - htU (htS t m r) m r ≤ 2 := by
  have b := htH_bd m r
  have e := htS_bd t m r
  rw [htT_id (by omega) (by omega)] at e
  have h := htH_bd m r
  have hS : 1 ≤ htS t m r := by
    unfold htS
    rw [htT_id (by omega) (by omega)]
    apply Int.le_ediv_of_mul_le (by omega)
    omega
  have eS : htS t m r = t * 500000000000 / htH m r := by unfold htS; rw [htT_id (by omega) (by omega)]
  have d := Int.mul_ediv_add_emod (t * 500000000000) (htH m r)
  have d1 := Int.emod_nonneg (t * 500000000000) (show htH m r ≠ 0 by omega)
  have d2 := Int.emod_lt_of_pos (t * 500000000000) (show 0 < htH m r by omega)
  rw [← eS] at d
  unfold htU
  rw [htT_id hS (by omega)]
  generalize htS t m r = S at *
  have c1 := Int.mul_ediv_add_emod (S * htH m r) 500000000000
  have c2 := Int.emod_nonneg (S * htH m r) (show (500000000000 : Int) ≠ 0 by omega)
  have c3 := Int.emod_lt_of_pos (S * htH m r) (show (0 : Int) < 500000000000 by omega)
  rw [Int.mul_comm (htH m r) S] at d
  generalize S * htH m r = P at *
  omega
theorem ht_back2 {t : Int} (m r : Int) (h1 : 1000 ≤ t) (h2 : t ≤ 500000) : 0 ≤ t - htS (htU t m r) m r ∧ t - htS (htU t m r) m r ≤ 1 := by
  have b := htH_bd m r
  have eU : htU t m r = t * htH m r / 500000000000 := by unfold htU; rw [htT_id (by omega) (by omega)]
  have hU : htU t m r ≤ 900000 := by
    rw [eU]
    apply Int.ediv_le_of_le_mul (by omega)
    have := mul_mono (show 0 ≤ t by omega) h2 (show 0 ≤ htH m r by omega) b.2
    omega
  have hU1 := (htU_bd t m r).1
  have hT := htT_bd t
  have c1 := Int.mul_ediv_add_emod (t * htH m r) 500000000000
  have c2 := Int.emod_nonneg (t * htH m r) (show (500000000000 : Int) ≠ 0 by omega)
  have c3 := Int.emod_lt_of_pos (t * htH m r) (show (0 : Int) < 500000000000 by omega)
  rw [← eU] at c1
  unfold htS
  rw [htT_id (by omega) (by omega)]
  generalize htU t m r = U at *
  have hP : 0 < htH m r := by omega
  refine ⟨?_, ?_⟩
  · have : U * 500000000000 / htH m r ≤ t := by
      apply Int.ediv_le_of_le_mul hP
      omega
    omega
  · have : t - 1 ≤ U * 500000000000 / htH m r := by
      apply Int.le_ediv_of_mul_le hP
      rw [Int.sub_mul, Int.one_mul]
      omega
    omega

set_option maxHeartbeats 1000000 in
theorem htclip_any (t : Int) (w : World) : Calls Tryz.prog 66 #[.int .i64 t] w fun e w' => e = .returned (.int .i64 (htT t)) ∧ w = w' := by
  go_enter Tryz.func66, Tryz.ntmps66
  go_wp2
  all_goals
    go_ret
    exact ⟨ret_int (by unfold htT; omega), rfl⟩
theorem htM_is (m : Int) : (m < 0 ∧ htM m = 0) ∨ (20000 < m ∧ htM m = 20000) ∨ (0 ≤ m ∧ m ≤ 20000 ∧ htM m = m) := by unfold htM; omega
theorem htR_is (r : Int) : (r < 0 ∧ htR r = 0) ∨ (1000 < r ∧ htR r = 1000) ∨ (0 ≤ r ∧ r ≤ 1000 ∧ htR r = r) := by unfold htR; omega
set_option maxRecDepth 100000 in
set_option maxHeartbeats 4000000 in
theorem hheat_any (m r : Int) (w : World) : Calls Tryz.prog 67 #[.int .i64 m, .int .i64 r] w fun e w' => e = .returned (.int .i64 (htH m r)) ∧ w = w' := by
  have q := htQ_bd m r
  have hm := htM_is m
  have hr := htR_is r
  have HH := Lib.hid (show htH m r = 500000000000 + htR r * htM m * htM m from rfl)
  generalize htH m r = H at *
  generalize htM m = M at *
  generalize htR r = R at *
  have hw1 : IntKind.i64.wrap (R * M) = R * M := IntWalk.i64_in _ ⟨by omega, by omega⟩
  have hw2 : IntKind.i64.wrap (R * M * M) = R * M * M := IntWalk.i64_in _ ⟨by omega, by omega⟩
  have hw3 : IntKind.i64.wrap (500000000000 + R * M * M) = 500000000000 + R * M * M := IntWalk.i64_in _ ⟨by omega, by omega⟩
  clear q
  rcases hm with ⟨m1, rfl⟩ | ⟨m1, rfl⟩ | ⟨m1, m2, rfl⟩ <;> rcases hr with ⟨r1, rfl⟩ | ⟨r1, rfl⟩ | ⟨r1, r2, rfl⟩
  all_goals
    have HH := Lib.hid HH.out
    go_enter Tryz.func67, Tryz.ntmps67
    go_wp2
    all_goals first | (exfalso; omega) | skip
    go_ret
    refine ⟨ret_int ?_, rfl⟩
    rw [HH.out]
    try omega
set_option maxHeartbeats 1000000 in
theorem hstatic_any (t m r : Int) (w : World) : Calls Tryz.prog 40 #[.int .i64 t, .int .i64 m, .int .i64 r] w fun e w' => e = .returned (.int .i64 (htS t m r)) ∧ Below w.heap.size w w' := by
  have a := htT_bd t
  have b := htH_bd m r
  have c := htS_bd t m r
  have FT := fun u => floor_any (htT t) 500000000000 (htH m r) u (by omega) (by omega) (by omega) (by omega) (by omega) (by omega)
  rw [flV_pos (by omega) (by unfold htS at c; omega) (by unfold htS at c; omega)] at FT
  rw [show htT t * 500000000000 / htH m r = htS t m r from rfl] at FT
  replace FT := Lib.hid FT
  generalize htS t m r = S at *
  go_enter Tryz.func40, Tryz.ntmps40
  go_wp2_with (first | (go_at_call 66; refine (htclip_any _ _).mono ?_; rintro e w1 ⟨rfl, rfl⟩) | (go_at_call 67; refine (hheat_any _ _ _).mono ?_; rintro e w1 ⟨rfl, rfl⟩))
  refine (FT.out _).mono ?_
  rintro e w1 ⟨rfl, hb1⟩
  go_wp2
  go_ret
  exact ⟨rfl, hb1⟩
end Go.Proofs.YtecpmffmmiogfaaGreat
