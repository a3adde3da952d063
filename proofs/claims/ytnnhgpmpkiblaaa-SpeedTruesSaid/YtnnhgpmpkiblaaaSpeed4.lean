/- The document's speeds; the laws SpeedTrues and SpeedDensities, walked. -/
import Derived.Test.YtnnhgpmpkiblaaaSpeed2
import Derived.Test.YtnnhgpmpkiblaaaClip09
import Derived.Test.YtnnhgpmpkiblaaaDig8
import Derived.Test.YtnnhgpmpkiblaaaRoot7
namespace Go.Proofs.Ytnnhgpmpkiblaaa
open Go.ChangeShapes Go.WideShapes Go.ChangeAt Go.RowKit
set_option linter.unusedVariables false
set_option linter.unusedSimpArgs false

theorem c09_spT (t : Int) : c09 t 1 1000000 = spT t := rfl
def spM (m : Int) : Int := c09 m 0 20000
theorem spM_bd (m : Int) : 0 ≤ spM m ∧ spM m ≤ 20000 := c09_bd m 0 20000 (by omega)
theorem spM_is (m : Int) : (m < 0 ∧ spM m = 0) ∨ (20000 < m ∧ spM m = 20000) ∨ (0 ≤ m ∧ m ≤ 20000 ∧ spM m = m) := by unfold spM c09; omega
def spS (t : Int) : Int := rt (4018742 * spT t / 1000)
def spTr (m t : Int) : Int := spM m * spS t / 10000
theorem spS_bd (t : Int) : 0 ≤ spS t ∧ spS t ≤ 63394 := by
  have h := spT_bd t
  unfold spS
  exact ⟨(rt_is _ (by omega)).1, rt_le _ 63394 (by omega) (by omega) (by omega)⟩
theorem spS_mono {s t : Int} (h : s ≤ t) : spS s ≤ spS t := by
  have a := spT_bd s
  have b : spT s ≤ spT t := by unfold spT; omega
  unfold spS
  exact rt_mono _ _ (by omega) (by omega)
theorem spTr_p (m t : Int) : 0 ≤ spM m * spS t ∧ spM m * spS t ≤ 1267880000 := by
  have a := spM_bd m
  have b := spS_bd t
  exact ⟨Int.mul_nonneg a.1 b.1, by have := Int.mul_le_mul a.2 b.2 b.1 (by omega : (0 : Int) ≤ 20000); omega⟩
set_option maxHeartbeats 1000000 in
theorem ssound_any (t : Int) (w : World) : Calls Try.prog 35 #[.int .i64 t] w fun e w' => e = .returned (.int .i64 (spS t)) ∧ w = w' := by
  have h := spT_bd t
  have CL := Lib.hid (fun u => sclip_any t u)
  have R := fun u => rof_rt (4018742 * spT t / 1000) u (by omega) (by omega)
  rw [if_neg (by omega)] at R
  rw [show rt (4018742 * spT t / 1000) = spS t from rfl] at R
  replace R := Lib.hid R
  generalize spS t = S at *
  generalize spT t = T at *
  go_enter Try.func35, Try.ntmps35
  go_wp2_with fail
  refine (CL.out _).mono ?_
  rintro e w1 ⟨rfl, rfl⟩
  go_wp2_with fail
  refine (R.out _).mono ?_
  rintro e w2 ⟨rfl, rfl⟩
  go_wp2
  go_ret
  exact ⟨rfl, rfl⟩
set_option maxHeartbeats 1000000 in
theorem rsound_any (t : Int) (w : World) : Calls Try.prog 36 #[.int .i64 t] w fun e w' => e = .returned (.int .i64 (spS t)) ∧ w = w' := by
  have h := spT_bd t
  have CL := fun u => c09_any t 1 1000000 (by omega) u
  rw [c09_spT] at CL
  replace CL := Lib.hid CL
  have R := fun u => rsqrt_any (4018742 * spT t / 1000) u (by omega) (by omega)
  rw [show rt (4018742 * spT t / 1000) = spS t from rfl] at R
  replace R := Lib.hid R
  generalize spS t = S at *
  generalize spT t = T at *
  go_enter Try.func36, Try.ntmps36
  go_wp2_with fail
  refine (CL.out _).mono ?_
  rintro e w1 ⟨rfl, rfl⟩
  go_wp2_with fail
  refine (R.out _).mono ?_
  rintro e w2 ⟨rfl, rfl⟩
  go_wp2
  go_ret
  exact ⟨rfl, rfl⟩
set_option maxHeartbeats 2000000 in
theorem strue_any (m t : Int) (w : World) : Calls Try.prog 37 #[.int .i64 m, .int .i64 t] w fun e w' => e = .returned (.int .i64 (spTr m t)) ∧ w = w' := by
  have SO := Lib.hid (fun u => ssound_any t u)
  have p := spTr_p m t
  have hm := spM_is m
  have HV := Lib.hid (show spTr m t = spM m * spS t / 10000 from rfl)
  generalize spTr m t = V at *
  generalize spS t = S at *
  generalize spM m = M at *
  rcases hm with ⟨m1, rfl⟩ | ⟨m1, rfl⟩ | ⟨m1, m2, rfl⟩
  all_goals
    have HV := Lib.hid HV.out
    go_enter Try.func37, Try.ntmps37
    go_wp2_with fail
    all_goals first | (exfalso; omega) | skip
    refine (SO.out _).mono ?_
    rintro e w1 ⟨rfl, rfl⟩
    go_wp2
    go_ret
    refine ⟨ret_int ?_, rfl⟩
    rw [HV.out]
    try omega
set_option maxHeartbeats 2000000 in
theorem rtrue_any (m t : Int) (w : World) : Calls Try.prog 38 #[.int .i64 m, .int .i64 t] w fun e w' => e = .returned (.int .i64 (spTr m t)) ∧ w = w' := by
  have SO := Lib.hid (fun u => rsound_any t u)
  have p := spTr_p m t
  have HV := Lib.hid (show spTr m t = spM m * spS t / 10000 from rfl)
  have C := fun u => c09_any m 0 20000 (by omega) u
  rw [show c09 m 0 20000 = spM m from rfl] at C
  replace C := Lib.hid C
  generalize spTr m t = V at *
  generalize spS t = S at *
  generalize spM m = M at *
  go_enter Try.func38, Try.ntmps38
  go_wp2_with fail
  refine (C.out _).mono ?_
  rintro e w1 ⟨rfl, rfl⟩
  go_wp2_with fail
  refine (SO.out _).mono ?_
  rintro e w1 ⟨rfl, rfl⟩
  go_wp2
  go_ret
  exact ⟨ret_int HV.out.symm, rfl⟩
set_option maxHeartbeats 2000000 in
theorem law_SpeedTrues (m t : Int) (w : World) : Calls Try.prog 9 #[.int .i64 m, .int .i64 t] w fun e w' => e = .returned (.bool true) ∧ Below w.heap.size w w' := by
  have F1 := Lib.hid (fun u => ssound_any t u)
  have F2 := Lib.hid (fun u => rsound_any t u)
  have F3 := Lib.hid (fun u => strue_any m t u)
  have F4 := Lib.hid (fun u => rtrue_any m t u)
  generalize spTr m t = V at *
  generalize spS t = S at *
  go_enter Try.func9, Try.ntmps9
  go_wp2_with fail
  refine (F1.out _).mono ?_
  rintro e w1 ⟨rfl, rfl⟩
  go_wp2_with fail
  refine (F2.out _).mono ?_
  rintro e w2 ⟨rfl, rfl⟩
  go_wp2_with fail
  refine (F3.out _).mono ?_
  rintro e w3 ⟨rfl, rfl⟩
  go_wp2_with fail
  refine (F4.out _).mono ?_
  rintro e w4 ⟨rfl, rfl⟩
  go_wp2_with fail
  refine (lives09 _).mono ?_
  rintro e w5 ⟨rfl, hb5⟩
  go_wp2
  go_ret
  exact ⟨rfl, hb5⟩
set_option maxHeartbeats 1000000 in
theorem rden_any (p t : Int) (w : World) (h1 : -9223372036854775808 ≤ p) (h2 : p ≤ 9223372036854775807) : Calls Try.prog 41 #[.int .i64 p, .int .i64 t] w fun e w' => e = .returned (.int .i64 (spDen p t)) ∧ Below w.heap.size w w' := by
  have hT := spT_bd t
  by_cases hp : p < 0
  · have e : spDen p t = 0 := by
      unfold spDen
      rw [show spP p = 0 by unfold spP; rw [if_pos hp]]
      simp [spC]
    rw [e]
    go_enter Try.func41, Try.ntmps41
    go_wp2
    go_ret
    exact ⟨rfl, (by repeat (first | exact Below.refl _ _ | assumption | apply Below.drew | apply below_drewN | (refine Below.alloc ?_ (by first | exact Nat.le_refl _ | omega | (simp <;> omega)) _) | (refine Below.setCell ?_ (by first | exact Nat.le_refl _ | omega | (simp <;> omega)) _)))⟩
  · have FT := fun u => rfit_any p 1000000000000 (18371392 * spT t) u (by omega) (by omega) (by omega) (by omega) (by omega) (by omega)
    rw [fitV_pos (by omega)] at FT
    rw [show spC (p * 1000000000000 / (18371392 * spT t)) = spDen p t by unfold spDen; rw [show spP p = p by unfold spP; rw [if_neg hp]]] at FT
    replace FT := Lib.hid FT
    have CL := fun u => c09_any t 1 1000000 (by omega) u
    rw [c09_spT] at CL
    replace CL := Lib.hid CL
    generalize spDen p t = D at *
    generalize spT t = T at *
    go_enter Try.func41, Try.ntmps41
    go_wp2_with fail
    refine (CL.out _).mono ?_
    rintro e w1 ⟨rfl, rfl⟩
    go_wp2_with fail
    refine (FT.out _).mono ?_
    rintro e w1 ⟨rfl, hb1⟩
    go_wp2
    go_ret
    exact ⟨rfl, hb1⟩
set_option maxHeartbeats 1000000 in
theorem rdyn_any (d v : Int) (w : World) (h1 : -9223372036854775808 ≤ d) (h2 : d ≤ 9223372036854775807) : Calls Try.prog 43 #[.int .i64 d, .int .i64 v] w fun e w' => e = .returned (.int .i64 (spDyn d v)) ∧ Below w.heap.size w w' := by
  by_cases hn : d < 0 ∨ v < 0
  · rw [show spDyn d v = 0 by unfold spDyn; rw [if_pos hn]]
    have hc : d < 0 ∨ (0 ≤ d ∧ v < 0) := by omega
    rcases hc with hc | ⟨hc, hc2⟩
    all_goals
      go_enter Try.func43, Try.ntmps43
      go_wp2
      go_ret
      exact ⟨rfl, (by repeat (first | exact Below.refl _ _ | assumption | apply Below.drew | apply below_drewN | (refine Below.alloc ?_ (by first | exact Nat.le_refl _ | omega | (simp <;> omega)) _) | (refine Below.setCell ?_ (by first | exact Nat.le_refl _ | omega | (simp <;> omega)) _)))⟩
  · have eV : c09 v 0 100000 = spV v := by unfold c09 spV; omega
    have hv0 : 0 ≤ spV v ∧ spV v ≤ 100000 := by unfold spV; omega
    have m := Int.mul_le_mul hv0.2 hv0.2 hv0.1 (show (0 : Int) ≤ 100000 by omega)
    have n := Int.mul_nonneg hv0.1 hv0.1
    have e1 : spDyn d v = spC (d * (spV v * spV v) / 312500000) := by unfold spDyn; rw [if_neg hn]
    have FT := fun u => rfit_any d (spV v * spV v) 312500000 u (by omega) (by omega) (by omega) (by omega) (by omega) (by omega)
    rw [fitV_pos (by omega), ← e1] at FT
    replace FT := Lib.hid FT
    have C := fun u => c09_any v 0 100000 (by omega) u
    rw [eV] at C
    replace C := Lib.hid C
    clear e1 eV
    generalize spDyn d v = D at *
    generalize spV v = V at *
    have hw : IntKind.i64.wrap (V * V) = V * V := IntWalk.i64_in _ ⟨by omega, by omega⟩
    clear m n
    have hd : 0 ≤ d := by omega
    have hv : 0 ≤ v := by omega
    clear hn
    go_enter Try.func43, Try.ntmps43
    go_wp2_with fail
    refine (C.out _).mono ?_
    rintro e w1 ⟨rfl, rfl⟩
    go_wp2_with fail
    first | rw [hw] | skip
    refine (FT.out _).mono ?_
    rintro e w1 ⟨rfl, hb1⟩
    go_wp2
    go_ret
    exact ⟨rfl, hb1⟩
set_option maxHeartbeats 1000000 in
theorem law_SpeedDensities (p t v : Int) (w : World) (h1 : -9223372036854775808 ≤ p) (h2 : p ≤ 9223372036854775807) : Calls Try.prog 10 #[.int .i64 p, .int .i64 t, .int .i64 v] w fun e w' => e = .returned (.bool true) ∧ Below w.heap.size w w' := by
  have F1 := Lib.hid (fun u => sden_any p t u h1 h2)
  have F2 := Lib.hid (fun u => rden_any p t u h1 h2)
  have F3 := Lib.hid (fun u => sdyn_any p v u h1 h2)
  have F4 := Lib.hid (fun u => rdyn_any p v u h1 h2)
  generalize spDen p t = S at *
  generalize spDyn p v = U at *
  go_enter Try.func10, Try.ntmps10
  go_wp2_with fail
  refine (F1.out _).mono ?_
  rintro e w1 ⟨rfl, hb1⟩
  go_wp2_with fail
  refine (F2.out _).mono ?_
  rintro e w2 ⟨rfl, hb2⟩
  replace hb2 := hb1.trans (hb2.mono hb1.size)
  clear hb1
  go_wp2_with fail
  refine (F3.out _).mono ?_
  rintro e w3 ⟨rfl, hb3⟩
  replace hb3 := hb2.trans (hb3.mono hb2.size)
  clear hb2
  go_wp2_with fail
  refine (F4.out _).mono ?_
  rintro e w4 ⟨rfl, hb4⟩
  replace hb4 := hb3.trans (hb4.mono hb3.size)
  clear hb3
  go_wp2_with fail
  refine (lives09 _).mono ?_
  rintro e w5 ⟨rfl, hb5⟩
  go_wp2
  go_ret
  exact ⟨rfl, hb4.trans (hb5.mono hb4.size)⟩
end Go.Proofs.Ytnnhgpmpkiblaaa
