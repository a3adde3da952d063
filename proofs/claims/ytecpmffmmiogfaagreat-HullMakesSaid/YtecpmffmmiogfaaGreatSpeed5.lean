/- Calibrated speeds and impact pressures at the sea's level, and the document's; the laws SpeedCalibrates and SpeedRises, walked. -/
import Derived.Test.YtecpmffmmiogfaaGreatSpeed2
import Derived.Test.YtecpmffmmiogfaaGreatClip09
import Derived.Test.YtecpmffmmiogfaaGreatMach7
import Derived.Test.YtecpmffmmiogfaaGreatMach6
namespace Go.Proofs.YtecpmffmmiogfaaGreat
open Go.ChangeShapes Go.WideShapes Go.ChangeAt Go.RowKit
set_option linter.unusedVariables false
set_option linter.unusedSimpArgs false

theorem c09_spT (t : Int) : c09 t 1 1000000 = spT t := rfl
def spM (m : Int) : Int := c09 m 0 20000
theorem spM_bd (m : Int) : 0 ≤ spM m ∧ spM m ≤ 20000 := c09_bd m 0 20000 (by omega)
theorem spM_is (m : Int) : (m < 0 ∧ spM m = 0) ∨ (20000 < m ∧ spM m = 20000) ∨ (0 ≤ m ∧ m ≤ 20000 ∧ spM m = m) := by unfold spM c09; omega
def spS (t : Int) : Int := rt (4018742 * spT t / 1000)
def spTr (m t : Int) : Int := spM m * spS t / 10000
theorem spS_bd (t : Int) : 0 ≤ spS t ∧ spS t ≤ 63394 := by
  have h := spT_bd t
  unfold spS
  exact ⟨(rt_is _ (by omega)).1, rt_le _ 63394 (by omega) (by omega) (by omega)⟩
theorem spS_mono {s t : Int} (h : s ≤ t) : spS s ≤ spS t := by
  have a := spT_bd s
  have b : spT s ≤ spT t := by unfold spT; omega
  unfold spS
  exact rt_mono _ _ (by omega) (by omega)
theorem spTr_p (m t : Int) : 0 ≤ spM m * spS t ∧ spM m * spS t ≤ 1267880000 := by
  have a := spM_bd m
  have b := spS_bd t
  exact ⟨Int.mul_nonneg a.1 b.1, by have := Int.mul_le_mul a.2 b.2 b.1 (by omega : (0 : Int) ≤ 20000); omega⟩
set_option maxHeartbeats 1000000 in
theorem ssound_any (t : Int) (w : World) : Calls Tryz.prog 68 #[.int .i64 t] w fun e w' => e = .returned (.int .i64 (spS t)) ∧ w = w' := by
  have h := spT_bd t
  have CL := Lib.hid (fun u => sclip_any t u)
  have R := fun u => rof_rt (4018742 * spT t / 1000) u (by omega) (by omega)
  rw [if_neg (by omega)] at R
  rw [show rt (4018742 * spT t / 1000) = spS t from rfl] at R
  replace R := Lib.hid R
  generalize spS t = S at *
  generalize spT t = T at *
  go_enter Tryz.func68, Tryz.ntmps68
  go_wp2_with fail
  refine (CL.out _).mono ?_
  rintro e w1 ⟨rfl, rfl⟩
  go_wp2_with fail
  refine (R.out _).mono ?_
  rintro e w2 ⟨rfl, rfl⟩
  go_wp2
  go_ret
  exact ⟨rfl, rfl⟩
set_option maxHeartbeats 2000000 in
theorem strue_any (m t : Int) (w : World) : Calls Tryz.prog 41 #[.int .i64 m, .int .i64 t] w fun e w' => e = .returned (.int .i64 (spTr m t)) ∧ w = w' := by
  have SO := Lib.hid (fun u => ssound_any t u)
  have p := spTr_p m t
  have hm := spM_is m
  have HV := Lib.hid (show spTr m t = spM m * spS t / 10000 from rfl)
  generalize spTr m t = V at *
  generalize spS t = S at *
  generalize spM m = M at *
  rcases hm with ⟨m1, rfl⟩ | ⟨m1, rfl⟩ | ⟨m1, m2, rfl⟩
  all_goals
    have HV := Lib.hid HV.out
    go_enter Tryz.func41, Tryz.ntmps41
    go_wp2_with fail
    all_goals first | (exfalso; omega) | skip
    refine (SO.out _).mono ?_
    rintro e w1 ⟨rfl, rfl⟩
    go_wp2
    go_ret
    refine ⟨ret_int ?_, rfl⟩
    rw [HV.out]
    try omega

/-- The speed of an impact pressure at the sea's level. -/
def spCa (q : Int) : Int := maV q 6484800 * 34029 / 10000
theorem maV_bd (q p : Int) : 0 ≤ maV q p ∧ maV q p ≤ 20000 := by
  have := mcO_bd (fitV q 1073741824 p)
  unfold maV
  split <;> omega
theorem spCa_mono {a b : Int} (h : a ≤ b) : spCa a ≤ spCa b := by
  have x := maV_bd a 6484800
  have y := maV_bd b 6484800
  have : maV a 6484800 ≤ maV b 6484800 := by
    by_cases h0 : 0 ≤ a
    · exact (maV_more h0 h (show (1 : Int) ≤ 6484800 by omega) (Int.le_refl _)).1
    · have : maV a 6484800 = 0 := by unfold maV maB; rw [decide_eq_true (show a < 0 by omega)]; simp
      omega
  unfold spCa
  omega
def spC2 (c : Int) : Int := if c < 0 then 0 else if 68058 < c then 68058 else c
theorem spC2_bd (c : Int) : 0 ≤ spC2 c ∧ spC2 c ≤ 68058 := by unfold spC2; omega
theorem spC2_is (c : Int) : (c < 0 ∧ spC2 c = 0) ∨ (68058 < c ∧ spC2 c = 68058) ∨ (0 ≤ c ∧ c ≤ 68058 ∧ spC2 c = c) := by unfold spC2; omega
def spP2 (v : Int) (i : Nat) : Bool := decide (v ≤ (i : Int) * 34029 / 10000)
def spK2 (v : Int) : Nat := lpl (spP2 v) 20000
theorem spK2_is (v : Int) : spK2 v ≤ 20000 ∧ (∀ t, t < spK2 v → spP2 v t = false) ∧ ∀ t, spK2 v ≤ t → t < 20000 → spP2 v t = true :=
  by
  have hm : ∀ a b : Nat, a ≤ b → spP2 v a = true → spP2 v b = true := fun a b h hp => by
    unfold spP2 at *
    simp only [decide_eq_true_eq] at *
    omega
  have h : ∀ n : Nat, lpl (spP2 v) n ≤ n ∧ (∀ t, t < lpl (spP2 v) n → spP2 v t = false) ∧ ∀ t, lpl (spP2 v) n ≤ t → t < n → spP2 v t = true := lpl_is (spP2 v) hm
  unfold spK2
  exact h 20000
/-- The impact pressure of a speed at the sea's level. -/
def spIm (c : Int) : Int := fitV 6484800 (mcR (spK2 (spC2 c))) 1073741824
theorem spIm_mono {a b : Int} (h : a ≤ b) : spIm a ≤ spIm b := by
  have hv : spC2 a ≤ spC2 b := by unfold spC2; omega
  obtain ⟨a1, a2, a3⟩ := spK2_is (spC2 a)
  obtain ⟨b1, b2, b3⟩ := spK2_is (spC2 b)
  have hk : spK2 (spC2 a) ≤ spK2 (spC2 b) := by
    by_cases e : spK2 (spC2 a) ≤ spK2 (spC2 b)
    · exact e
    · have x := a2 (spK2 (spC2 b)) (by omega)
      have y := b3 (spK2 (spC2 b)) (Nat.le_refl _) (by omega)
      unfold spP2 at x y
      simp only [decide_eq_true_eq, decide_eq_false_iff_not] at x y
      omega
  have hr := mcR_mono (show ((spK2 (spC2 a) : Nat) : Int) ≤ ((spK2 (spC2 b) : Nat) : Int) by omega)
  unfold spIm
  generalize mcR ((spK2 (spC2 a) : Nat) : Int) = r0 at *
  generalize mcR ((spK2 (spC2 b) : Nat) : Int) = r1 at *
  clear hk a1 a2 a3 b1 b2 b3 hv
  unfold fitV
  rw [wq_ps (by omega), wq_ps (by omega)]
  omega
theorem spTr_mono {m n s t : Int} (h1 : m ≤ n) (h2 : s ≤ t) : spTr m s ≤ spTr n t ∧ 0 ≤ spTr m s := by
  have a := spM_bd m
  have b : spM m ≤ spM n := by unfold spM c09; omega
  have c := spS_mono h2
  have d := spS_bd s
  have e := Int.mul_le_mul b c d.1 (by omega)
  have f := Int.mul_nonneg a.1 d.1
  unfold spTr
  omega

set_option maxHeartbeats 1000000 in
theorem ssea_any (m : Int) (w : World) (h0 : 0 ≤ m) (h1 : m ≤ 20000) : Calls Tryz.prog 48 #[.int .i64 m] w fun e w' => e = .returned (.int .i64 (m * 34029 / 10000)) ∧ w = w' := by
  go_enter Tryz.func48, Tryz.ntmps48
  go_wp2
  go_ret
  exact ⟨rfl, rfl⟩
set_option maxHeartbeats 1000000 in
theorem scal_any (q : Int) (w : World) (g1 : -9223372036854775808 ≤ q) (g2 : q ≤ 9223372036854775807) : Calls Tryz.prog 26 #[.int .i64 q] w fun e w' => e = .returned (.int .i64 (spCa q)) ∧ Below w.heap.size w w' := by
  have AT := Lib.hid (fun u => mat_any q 6484800 u g1 g2 (by omega) (by omega))
  have b := maV_bd q 6484800
  have HV := Lib.hid (show spCa q = maV q 6484800 * 34029 / 10000 from rfl)
  have SE := Lib.hid (fun u => ssea_any (maV q 6484800) u b.1 b.2)
  generalize spCa q = R at *
  generalize maV q 6484800 = V at *
  generalize maB q 6484800 = B at *
  go_enter Tryz.func26, Tryz.ntmps26
  go_wp2_with fail
  refine (AT.out _).mono ?_
  rintro e w1 ⟨rfl, hb1⟩
  go_wp2_with fail
  refine (SE.out _).mono ?_
  rintro e w2 ⟨rfl, rfl⟩
  go_wp2
  go_ret
  exact ⟨ret_int HV.out.symm, hb1⟩
set_option maxHeartbeats 1000000 in
theorem rcal9_any (q : Int) (w : World) (g1 : -9223372036854775808 ≤ q) (g2 : q ≤ 9223372036854775807) : Calls Tryz.prog 11 #[.int .i64 q] w fun e w' => e = .returned (.int .i64 (spCa q)) ∧ Below w.heap.size w w' := by
  have AT := Lib.hid (fun u => rat8_any q 6484800 u g1 g2 (by omega) (by omega))
  have b := maV_bd q 6484800
  have HV := Lib.hid (show spCa q = maV q 6484800 * 34029 / 10000 from rfl)
  have HB := Lib.hid (fun h : maB q 6484800 = false => show maV q 6484800 = 0 by unfold maV; rw [h]; rfl)
  generalize spCa q = R at *
  generalize maV q 6484800 = V at *
  generalize maB q 6484800 = B at *
  cases B
  · have hv := Lib.hid (HB.out rfl)
    go_enter Tryz.func11, Tryz.ntmps11
    go_wp2_with fail
    refine (AT.out _).mono ?_
    rintro e w1 ⟨rfl, hb1⟩
    go_wp2
    go_ret
    exact ⟨ret_int (by rw [HV.out, hv.out]; rfl), hb1⟩
  · go_enter Tryz.func11, Tryz.ntmps11
    go_wp2_with fail
    refine (AT.out _).mono ?_
    rintro e w1 ⟨rfl, hb1⟩
    go_wp2
    go_ret
    exact ⟨ret_int HV.out.symm, hb1⟩

end Go.Proofs.YtecpmffmmiogfaaGreat
