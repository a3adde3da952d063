/- Package cal: Error of anything; the laws CalRaws and CalBack, walked. -/
import Derived.Test.YtnnhgpmpkiblaaaCal6
namespace Go.Proofs.Ytnnhgpmpkiblaaa
open Go.ChangeShapes Go.WideShapes Go.ChangeAt Go.RowKit
set_option linter.unusedVariables false
set_option linter.unusedSimpArgs false

def clB (y : Int) : Int := if y < 0 then 0 else if 8388608 < y then 8388608 else y
theorem clB_bd (y : Int) : 0 ≤ clB y ∧ clB y ≤ 8388608 := by unfold clB; omega
theorem clB_is (y : Int) : (y < 0 ∧ clB y = 0) ∨ (8388608 < y ∧ clB y = 8388608) ∨ (0 ≤ y ∧ y ≤ 8388608 ∧ clB y = y) := by unfold clB; omega
def clE (ga dr t y : Int) : Int := clB y * clG ga dr t / 65536 + 1
set_option maxHeartbeats 4000000 in
theorem cerr_any {ga of sl dr : Int} (h : clR ga of sl dr = true) (t y : Int) (w : World) : Calls Try.prog 50 #[.agg #[.int .i64 ga, .int .i64 of, .int .i64 sl, .int .i64 dr], .int .i64 t, .int .i64 y] w fun e w' => e = .returned (.tuple #[.int .i64 (clE ga dr t y), .bool true]) ∧ Below w.heap.size w w' := by
  have RT := fun u => cright_any ga of sl dr u
  rw [h] at RT
  replace RT := Lib.hid RT
  have ok := clR_ok h
  have gb := clP_bd ok t
  have yb := clB_bd y
  have GN := Lib.hid (fun u => cgain_any ok t u)
  have p := prod_bd (a := clB y) (b := clG ga dr t) (A := 8388608) (B := 33554432) (by omega) (by omega) (by omega) (by omega) (by omega)
  obtain ⟨-, -, -, -, g1, g2⟩ := gb
  have F1 := fun u => floor_any (clB y) (clG ga dr t) 65536 u (by omega) (by omega) (by omega) (by omega) (by omega) (by omega)
  rw [flV_pos (by omega) (by omega) (by omega)] at F1
  replace F1 := Lib.hid F1
  have HE := Lib.hid (show clE ga dr t y = clB y * clG ga dr t / 65536 + 1 from rfl)
  have hY := clB_is y
  generalize clE ga dr t y = E at *
  generalize clG ga dr t = G at *
  generalize clB y = Y at *
  generalize Y * G = P at *
  clear h ok
  rcases hY with ⟨y1, rfl⟩ | ⟨y1, rfl⟩ | ⟨y1, y2, rfl⟩
  all_goals
    obtain ⟨V, eV, hb0, hz, hcs⟩ := cal_box w ga of sl dr
    replace hb0 := Lib.hid hb0
    replace hz := Lib.hid hz
    replace hcs := Lib.hid hcs
    replace eV := Lib.hid eV
    go_enter Try.func50, Try.ntmps50
    go_wp2_with fail
    rw [← eV.out]
    obtain ⟨k0, k1, k2, k3⟩ := hcs.out _ (Below.refl _ _)
    go_wp2_with fail
    refine (RT.out _).mono ?_
    rintro e w1 ⟨rfl, hb1⟩
    have hb1 := (Below.refl (w.heap.size + 1) V).trans (hb1.mono (Nat.le_of_eq hz.out.symm))
    obtain ⟨k0, k1, k2, k3⟩ := hcs.out _ hb1
    go_wp2_with fail
    all_goals first | (exfalso; omega) | skip
    refine (GN.out _).mono ?_
    rintro e w2 ⟨rfl, hb2⟩
    have hb2 := hb1.trans (hb2.mono (by have := hb1.size; have := hz.out; omega))
    clear hb1
    go_wp2_with fail
    refine (F1.out _).mono ?_
    rintro e w3 ⟨rfl, hb3⟩
    have hb3 := hb2.trans (hb3.mono (by have := hb2.size; have := hz.out; omega))
    go_wp2
    go_ret2
    exact ⟨by rw [HE.out]; rfl, hb0.out.trans (hb3.mono (by omega))⟩
set_option maxHeartbeats 2000000 in
theorem cerr_no {ga of sl dr : Int} (h : clR ga of sl dr = false) (t y : Int) (w : World) : Calls Try.prog 50 #[.agg #[.int .i64 ga, .int .i64 of, .int .i64 sl, .int .i64 dr], .int .i64 t, .int .i64 y] w fun e w' => e = .returned (.tuple #[.int .i64 0, .bool false]) ∧ Below w.heap.size w w' := by
  have RT := fun u => cright_any ga of sl dr u
  rw [h] at RT
  replace RT := Lib.hid RT
  clear h
  obtain ⟨V, eV, hb0, hz, hcs⟩ := cal_box w ga of sl dr
  replace hb0 := Lib.hid hb0
  replace hz := Lib.hid hz
  replace hcs := Lib.hid hcs
  replace eV := Lib.hid eV
  go_enter Try.func50, Try.ntmps50
  go_wp2_with fail
  rw [← eV.out]
  obtain ⟨k0, k1, k2, k3⟩ := hcs.out _ (Below.refl _ _)
  go_wp2_with fail
  refine (RT.out _).mono ?_
  rintro e w1 ⟨rfl, hb1⟩
  have hb1 := (Below.refl (w.heap.size + 1) V).trans (hb1.mono (Nat.le_of_eq hz.out.symm))
  go_wp2
  go_ret2
  exact ⟨rfl, hb0.out.trans (hb1.mono (by omega))⟩
set_option maxRecDepth 100000 in
set_option maxHeartbeats 2000000 in
theorem rerr14_any {ga of sl dr : Int} (ok : ClOk ga of sl dr) (t y : Int) (w : World) : Calls Try.prog 53 #[.agg #[.int .i64 ga, .int .i64 of, .int .i64 sl, .int .i64 dr], .int .i64 t, .int .i64 y] w fun e w' => e = .returned (.int .i64 (clE ga dr t y)) ∧ Below w.heap.size w w' := by
  have gb := clP_bd ok t
  have yb := clB_bd y
  have GN := Lib.hid (fun u => rgain_any ok t u)
  have p := prod_bd (a := clG ga dr t) (b := clB y) (A := 33554432) (B := 8388608) (by omega) (by omega) (by omega) (by omega) (by omega)
  have CY := fun u => clip09_any y 0 8388608 (by omega) u
  rw [show (if y < 0 then 0 else if 8388608 < y then 8388608 else y : Int) = clB y from rfl] at CY
  replace CY := Lib.hid CY
  have F1 := Lib.hid (fun u => floor01_any (clG ga dr t * clB y) 65536 u (by omega) (by omega) (by omega))
  have HE := Lib.hid (show clE ga dr t y = clG ga dr t * clB y / 65536 + 1 by unfold clE; rw [Int.mul_comm])
  have hw : IntKind.i64.wrap (clG ga dr t * clB y) = clG ga dr t * clB y := IntWalk.i64_in _ ⟨by omega, by omega⟩
  clear gb ok
  generalize clE ga dr t y = E at *
  generalize clG ga dr t = G at *
  generalize clB y = Y at *
  have pb : -4294967296 ≤ G * Y / 65536 ∧ G * Y / 65536 ≤ 4294967296 := by omega
  obtain ⟨V, eV, hb0, hz, hcs⟩ := cal_box w ga of sl dr
  replace hb0 := Lib.hid hb0
  replace hz := Lib.hid hz
  replace hcs := Lib.hid hcs
  replace eV := Lib.hid eV
  go_enter Try.func53, Try.ntmps53
  go_wp2_with fail
  rw [← eV.out]
  obtain ⟨k0, k1, k2, k3⟩ := hcs.out _ (Below.refl _ _)
  go_wp2_with fail
  refine (GN.out _).mono ?_
  rintro e w1 ⟨rfl, hb1⟩
  have hb1 := (Below.refl (w.heap.size + 1) V).trans (hb1.mono (Nat.le_of_eq hz.out.symm))
  go_wp2_with fail
  refine (CY.out _).mono ?_
  rintro e w2 ⟨rfl, rfl⟩
  go_wp2_with fail
  first | rw [hw] | skip
  refine (F1.out _).mono ?_
  rintro e w3 ⟨rfl, rfl⟩
  go_wp2
  go_ret
  exact ⟨ret_int HE.out.symm, hb0.out.trans (hb1.mono (by omega))⟩
set_option maxRecDepth 100000 in
set_option maxHeartbeats 8000000 in
theorem law_CalRaws (ga of sl dr v t : Int) (w : World) : Calls Try.prog 12 #[.agg #[.int .i64 ga, .int .i64 of, .int .i64 sl, .int .i64 dr], .int .i64 v, .int .i64 t] w fun e w' => e = .returned (.bool true) ∧ Below w.heap.size w w' := by
  have RR := fun u => rright14_any ga of sl dr u
  obtain ⟨V, eV, hb0, hz, hcs⟩ := cal_box w ga of sl dr
  replace hb0 := Lib.hid hb0
  replace hz := Lib.hid hz
  replace hcs := Lib.hid hcs
  replace eV := Lib.hid eV
  cases h : clR ga of sl dr
  · rw [h] at RR
    replace RR := Lib.hid RR
    have RA := Lib.hid (fun u => craw_no h v t u)
    have ER := Lib.hid (fun u => cerr_no h t v u)
    clear h
    go_enter Try.func12, Try.ntmps12
    go_wp2_with fail
    rw [← eV.out]
    obtain ⟨k0, k1, k2, k3⟩ := hcs.out _ (Below.refl _ _)
    go_wp2_with fail
    refine (RA.out _).mono ?_
    rintro e w1 ⟨rfl, hb1⟩
    have hb1 := (Below.refl (w.heap.size + 1) V).trans (hb1.mono (Nat.le_of_eq hz.out.symm))
    obtain ⟨k0, k1, k2, k3⟩ := hcs.out _ hb1
    go_wp2_with fail
    refine (ER.out _).mono ?_
    rintro e w2 ⟨rfl, hb2⟩
    have hb2 := hb1.trans (hb2.mono (by have := hb1.size; have := hz.out; omega))
    clear hb1
    obtain ⟨k0, k1, k2, k3⟩ := hcs.out _ hb2
    go_wp2_with fail
    refine (RR.out _).mono ?_
    rintro e w3 ⟨rfl, hb3⟩
    have hb3 := hb2.trans (hb3.mono (by have := hb2.size; have := hz.out; omega))
    clear hb2
    obtain ⟨k0, k1, k2, k3⟩ := hcs.out _ hb3
    go_wp2_with fail
    refine (lives14 _).mono ?_
    rintro e w4 ⟨rfl, hb4⟩
    go_wp2
    go_ret
    exact ⟨rfl, (hb0.out.trans (hb3.mono (by omega))).trans (hb4.mono (by have := hb0.out.size; have := hb3.size; have := hz.out; omega))⟩
  · rw [h] at RR
    replace RR := Lib.hid RR
    have ok := clR_ok h
    have ER := Lib.hid (fun u => cerr_any h t v u)
    have RE := Lib.hid (fun u => rerr14_any ok t v u)
    generalize clE ga dr t v = E at *
    obtain ⟨r, hr, h1, h2⟩ := least_place (rwP ga of sl dr v t) 16777216 (rwP_mono ok v t 16777216)
    have RA := fun u => craw_ok h v t r hr h1 h2 u
    have AM := fun u => rat14_any ok 8388607 t u
    by_cases hc : r = 16777216
    · subst hc
      have hv := h1 16777215 (by omega)
      unfold rwP at hv
      simp only [decide_eq_false_iff_not] at hv
      rw [show -8388608 + ((16777215 : Nat) : Int) = 8388607 by omega] at hv
      rw [if_pos rfl, show (!((16777216 : Nat) == 16777216)) = false by decide] at RA
      replace RA := Lib.hid RA
      generalize clV ga of sl dr 8388607 t = M at *
      replace AM := Lib.hid AM
      have dv : decide (v ≤ M) = false := decide_eq_false (by omega)
      clear h h1 h2 hr ok
      go_enter Try.func12, Try.ntmps12
      go_wp2_with fail
      rw [← eV.out]
      obtain ⟨k0, k1, k2, k3⟩ := hcs.out _ (Below.refl _ _)
      go_wp2_with fail
      refine (RA.out _).mono ?_
      rintro e w1 ⟨rfl, hb1⟩
      have hb1 := (Below.refl (w.heap.size + 1) V).trans (hb1.mono (Nat.le_of_eq hz.out.symm))
      obtain ⟨k0, k1, k2, k3⟩ := hcs.out _ hb1
      go_wp2_with fail
      refine (ER.out _).mono ?_
      rintro e w2 ⟨rfl, hb2⟩
      have hb2 := hb1.trans (hb2.mono (by have := hb1.size; have := hz.out; omega))
      clear hb1
      obtain ⟨k0, k1, k2, k3⟩ := hcs.out _ hb2
      go_wp2_with fail
      refine (RR.out _).mono ?_
      rintro e w3 ⟨rfl, hb3⟩
      have hb3 := hb2.trans (hb3.mono (by have := hb2.size; have := hz.out; omega))
      clear hb2
      obtain ⟨k0, k1, k2, k3⟩ := hcs.out _ hb3
      go_wp2_with fail
      refine (RE.out _).mono ?_
      rintro e w4 ⟨rfl, hb4⟩
      have hb4 := hb3.trans (hb4.mono (by have := hb3.size; have := hz.out; omega))
      clear hb3
      obtain ⟨k0, k1, k2, k3⟩ := hcs.out _ hb4
      go_wp2_with fail
      refine (AM.out _).mono ?_
      rintro e w5 ⟨rfl, hb5⟩
      have hb5 := hb4.trans (hb5.mono (by have := hb4.size; have := hz.out; omega))
      clear hb4
      obtain ⟨k0, k1, k2, k3⟩ := hcs.out _ hb5
      go_wp2_with fail
      refine (lives14 _).mono ?_
      rintro e w6 ⟨rfl, hb6⟩
      go_wp2
      go_ret
      exact ⟨rfl, (hb0.out.trans (hb5.mono (by omega))).trans (hb6.mono (by have := hb0.out.size; have := hb5.size; have := hz.out; omega))⟩
    · have hlt : r < 16777216 := by omega
      have hv := h2 16777215 (by omega) (by omega)
      unfold rwP at hv
      simp only [decide_eq_true_eq] at hv
      rw [show -8388608 + ((16777215 : Nat) : Int) = 8388607 by omega] at hv
      have hx := h2 r (Nat.le_refl _) hlt
      unfold rwP at hx
      simp only [decide_eq_true_eq] at hx
      rw [if_neg hc, show (!(r == 16777216)) = true by simp; omega] at RA
      replace RA := Lib.hid RA
      generalize clV ga of sl dr 8388607 t = M at *
      replace AM := Lib.hid AM
      have dv : decide (v ≤ M) = true := decide_eq_true hv
      have AX := fun u => rat14_any ok (-8388608 + (r : Int)) t u
      generalize hX : clV ga of sl dr (-8388608 + (r : Int)) t = X at *
      clear hX
      replace AX := Lib.hid AX
      have dx : decide (X < v) = false := decide_eq_false (by omega)
      by_cases hr0 : r = 0
      · subst hr0
        clear h h1 h2 hr ok hc hlt hv
        rw [show -8388608 + ((0 : Nat) : Int) = -8388608 by omega] at RA AX
        go_enter Try.func12, Try.ntmps12
        go_wp2_with fail
        rw [← eV.out]
        obtain ⟨k0, k1, k2, k3⟩ := hcs.out _ (Below.refl _ _)
        go_wp2_with fail
        refine (RA.out _).mono ?_
        rintro e w1 ⟨rfl, hb1⟩
        have hb1 := (Below.refl (w.heap.size + 1) V).trans (hb1.mono (Nat.le_of_eq hz.out.symm))
        obtain ⟨k0, k1, k2, k3⟩ := hcs.out _ hb1
        go_wp2_with fail
        refine (ER.out _).mono ?_
        rintro e w2 ⟨rfl, hb2⟩
        have hb2 := hb1.trans (hb2.mono (by have := hb1.size; have := hz.out; omega))
        clear hb1
        obtain ⟨k0, k1, k2, k3⟩ := hcs.out _ hb2
        go_wp2_with fail
        refine (RR.out _).mono ?_
        rintro e w3 ⟨rfl, hb3⟩
        have hb3 := hb2.trans (hb3.mono (by have := hb2.size; have := hz.out; omega))
        clear hb2
        obtain ⟨k0, k1, k2, k3⟩ := hcs.out _ hb3
        go_wp2_with fail
        refine (RE.out _).mono ?_
        rintro e w4 ⟨rfl, hb4⟩
        have hb4 := hb3.trans (hb4.mono (by have := hb3.size; have := hz.out; omega))
        clear hb3
        obtain ⟨k0, k1, k2, k3⟩ := hcs.out _ hb4
        go_wp2_with fail
        refine (AM.out _).mono ?_
        rintro e w5 ⟨rfl, hb5⟩
        have hb5 := hb4.trans (hb5.mono (by have := hb4.size; have := hz.out; omega))
        clear hb4
        obtain ⟨k0, k1, k2, k3⟩ := hcs.out _ hb5
        go_wp2_with fail
        refine (AX.out _).mono ?_
        rintro e w6 ⟨rfl, hb6⟩
        have hb6 := hb5.trans (hb6.mono (by have := hb5.size; have := hz.out; omega))
        clear hb5
        obtain ⟨k0, k1, k2, k3⟩ := hcs.out _ hb6
        go_wp2_with fail
        refine (lives14 _).mono ?_
        rintro e w7 ⟨rfl, hb7⟩
        go_wp2
        go_ret
        exact ⟨rfl, (hb0.out.trans (hb6.mono (by omega))).trans (hb7.mono (by have := hb0.out.size; have := hb6.size; have := hz.out; omega))⟩
      · have hp := h1 (r - 1) (by omega)
        unfold rwP at hp
        simp only [decide_eq_false_iff_not] at hp
        rw [show -8388608 + ((r - 1 : Nat) : Int) = -8388608 + (r : Int) - 1 by omega] at hp
        have AP := fun u => rat14_any ok (-8388608 + (r : Int) - 1) t u
        generalize hY : clV ga of sl dr (-8388608 + (r : Int) - 1) t = Y at *
        clear hY
        replace AP := Lib.hid AP
        have dp : decide (Y < v) = true := decide_eq_true (by omega)
        have hx0 : ((-8388608 + (r : Int)) == -8388608) = false := by simp; omega
        obtain ⟨x, hxe⟩ : ∃ x : Int, x = -8388608 + (r : Int) := ⟨_, rfl⟩
        have x1 : -8388608 < x := by omega
        have x2 : x ≤ 8388607 := by omega
        rw [← hxe] at RA AX AP hx0
        clear h h1 h2 hr ok hc hlt hv hxe hr0
        go_enter Try.func12, Try.ntmps12
        go_wp2_with fail
        rw [← eV.out]
        obtain ⟨k0, k1, k2, k3⟩ := hcs.out _ (Below.refl _ _)
        go_wp2_with fail
        refine (RA.out _).mono ?_
        rintro e w1 ⟨rfl, hb1⟩
        have hb1 := (Below.refl (w.heap.size + 1) V).trans (hb1.mono (Nat.le_of_eq hz.out.symm))
        obtain ⟨k0, k1, k2, k3⟩ := hcs.out _ hb1
        go_wp2_with fail
        refine (ER.out _).mono ?_
        rintro e w2 ⟨rfl, hb2⟩
        have hb2 := hb1.trans (hb2.mono (by have := hb1.size; have := hz.out; omega))
        clear hb1
        obtain ⟨k0, k1, k2, k3⟩ := hcs.out _ hb2
        go_wp2_with fail
        refine (RR.out _).mono ?_
        rintro e w3 ⟨rfl, hb3⟩
        have hb3 := hb2.trans (hb3.mono (by have := hb2.size; have := hz.out; omega))
        clear hb2
        obtain ⟨k0, k1, k2, k3⟩ := hcs.out _ hb3
        go_wp2_with fail
        refine (RE.out _).mono ?_
        rintro e w4 ⟨rfl, hb4⟩
        have hb4 := hb3.trans (hb4.mono (by have := hb3.size; have := hz.out; omega))
        clear hb3
        obtain ⟨k0, k1, k2, k3⟩ := hcs.out _ hb4
        go_wp2_with fail
        refine (AM.out _).mono ?_
        rintro e w5 ⟨rfl, hb5⟩
        have hb5 := hb4.trans (hb5.mono (by have := hb4.size; have := hz.out; omega))
        clear hb4
        obtain ⟨k0, k1, k2, k3⟩ := hcs.out _ hb5
        go_wp2_with fail
        refine (AX.out _).mono ?_
        rintro e w6 ⟨rfl, hb6⟩
        have hb6 := hb5.trans (hb6.mono (by have := hb5.size; have := hz.out; omega))
        clear hb5
        obtain ⟨k0, k1, k2, k3⟩ := hcs.out _ hb6
        go_wp2_with fail
        refine (AP.out _).mono ?_
        rintro e w7 ⟨rfl, hb7⟩
        have hb7 := hb6.trans (hb7.mono (by have := hb6.size; have := hz.out; omega))
        clear hb6
        obtain ⟨k0, k1, k2, k3⟩ := hcs.out _ hb7
        go_wp2_with fail
        refine (lives14 _).mono ?_
        rintro e w8 ⟨rfl, hb8⟩
        go_wp2
        go_ret
        exact ⟨rfl, (hb0.out.trans (hb7.mono (by omega))).trans (hb8.mono (by have := hb0.out.size; have := hb7.size; have := hz.out; omega))⟩

/-- Where a step of the raw value is a step of what is told, Raw is the way back. -/
theorem clV_steps {ga of sl dr : Int} (ok : ClOk ga of sl dr) (t x : Int) (hg : 131072 ≤ ga) (h1 : -8388608 < x) (h2 : x ≤ 8388607) : clV ga of sl dr (x - 1) t < clV ga of sl dr x t := by
  have g : 65536 ≤ clG ga dr t := by
    have hT := clT_bd t
    have p := prod_bd (a := dr) (b := clT t) (A := ga) (B := 128) ok.d1 ok.d2 (by omega) (by omega) (by have := ok.a1; omega)
    unfold clG
    generalize dr * clT t = P at *
    have := ok.a2
    omega
  rw [show clV ga of sl dr x t = of + clG ga dr t * x / 65536 + sl * clT t / 256 by unfold clV clX; rw [if_neg (by omega), if_neg (by omega)], show clV ga of sl dr (x - 1) t = of + clG ga dr t * (x - 1) / 65536 + sl * clT t / 256 by unfold clV clX; rw [if_neg (by omega), if_neg (by omega)]]
  rw [Int.mul_sub, Int.mul_one]
  generalize clG ga dr t * x = P
  omega
set_option maxRecDepth 100000 in
set_option maxHeartbeats 8000000 in
theorem law_CalBack (ga of sl dr x t : Int) (w : World) : Calls Try.prog 13 #[.agg #[.int .i64 ga, .int .i64 of, .int .i64 sl, .int .i64 dr], .int .i64 x, .int .i64 t] w fun e w' => e = .returned (.bool true) ∧ Below w.heap.size w w' := by
  have RT := fun u => cright_any ga of sl dr u
  obtain ⟨V, eV, hb0, hz, hcs⟩ := cal_box w ga of sl dr
  replace hb0 := Lib.hid hb0
  replace hz := Lib.hid hz
  replace hcs := Lib.hid hcs
  replace eV := Lib.hid eV
  cases h : clR ga of sl dr
  · rw [h] at RT
    replace RT := Lib.hid RT
    clear h
    go_enter Try.func13, Try.ntmps13
    go_wp2_with fail
    rw [← eV.out]
    obtain ⟨k0, k1, k2, k3⟩ := hcs.out _ (Below.refl _ _)
    go_wp2_with fail
    refine (RT.out _).mono ?_
    rintro e w1 ⟨rfl, hb1⟩
    have hb1 := (Below.refl (w.heap.size + 1) V).trans (hb1.mono (Nat.le_of_eq hz.out.symm))
    obtain ⟨k0, k1, k2, k3⟩ := hcs.out _ hb1
    go_wp2_with fail
    refine (lives14 _).mono ?_
    rintro e w2 ⟨rfl, hb2⟩
    go_wp2
    go_ret
    exact ⟨rfl, (hb0.out.trans (hb1.mono (by omega))).trans (hb2.mono (by have := hb0.out.size; have := hb1.size; have := hz.out; omega))⟩
  · rw [h] at RT
    replace RT := Lib.hid RT
    have ok := clR_ok h
    by_cases hin : 131072 ≤ ga ∧ -8388608 ≤ x ∧ x ≤ 8388607
    · obtain ⟨a1, a2, a3⟩ := hin
      have AT := fun u => cat_ok h x t u
      obtain ⟨r, hr⟩ : ∃ r : Nat, x = -8388608 + (r : Int) := ⟨(x + 8388608).toNat, by omega⟩
      have hlt : r < 16777216 := by omega
      have h2 : ∀ i, r ≤ i → i < 16777216 → rwP ga of sl dr (clV ga of sl dr x t) t i = true := fun i hi _ => decide_eq_true (clV_rises ok t (by omega))
      have h1 : ∀ i, i < r → rwP ga of sl dr (clV ga of sl dr x t) t i = false := fun i hi => decide_eq_false (by
        have e1 := clV_steps ok t x a1 (by omega) a3
        have e2 := clV_rises ok t (show -8388608 + (i : Int) ≤ x - 1 by omega)
        omega)
      have RA := fun u => craw_ok h (clV ga of sl dr x t) t r (by omega) h1 h2 u
      rw [if_neg (by omega), show (!(r == 16777216)) = true by simp; omega, ← hr] at RA
      replace RA := Lib.hid RA
      replace AT := Lib.hid AT
      clear h1 h2 hr hlt ok h
      generalize clV ga of sl dr x t = R at *
      have d1 : decide (ga < 131072) = false := decide_eq_false (by omega)
      have d2 : decide (x < -8388608) = false := decide_eq_false (by omega)
      have d3 : decide (8388607 < x) = false := decide_eq_false (by omega)
      go_enter Try.func13, Try.ntmps13
      go_wp2_with fail
      rw [← eV.out]
      obtain ⟨k0, k1, k2, k3⟩ := hcs.out _ (Below.refl _ _)
      go_wp2_with fail
      refine (RT.out _).mono ?_
      rintro e w1 ⟨rfl, hb1⟩
      have hb1 := (Below.refl (w.heap.size + 1) V).trans (hb1.mono (Nat.le_of_eq hz.out.symm))
      obtain ⟨k0, k1, k2, k3⟩ := hcs.out _ hb1
      go_wp2_with fail
      refine (AT.out _).mono ?_
      rintro e w2 ⟨rfl, hb2⟩
      have hb2 := hb1.trans (hb2.mono (by have := hb1.size; have := hz.out; omega))
      clear hb1
      obtain ⟨k0, k1, k2, k3⟩ := hcs.out _ hb2
      go_wp2_with fail
      refine (RA.out _).mono ?_
      rintro e w3 ⟨rfl, hb3⟩
      have hb3 := hb2.trans (hb3.mono (by have := hb2.size; have := hz.out; omega))
      clear hb2
      obtain ⟨k0, k1, k2, k3⟩ := hcs.out _ hb3
      go_wp2_with fail
      refine (lives14 _).mono ?_
      rintro e w4 ⟨rfl, hb4⟩
      go_wp2
      go_ret
      exact ⟨rfl, (hb0.out.trans (hb3.mono (by omega))).trans (hb4.mono (by have := hb0.out.size; have := hb3.size; have := hz.out; omega))⟩
    · clear ok h
      have hcs3 : ga < 131072 ∨ (131072 ≤ ga ∧ x < -8388608) ∨ (131072 ≤ ga ∧ -8388608 ≤ x ∧ 8388607 < x) := by omega
      clear hin
      rcases hcs3 with a1 | ⟨a1, a2⟩ | ⟨a1, a2, a3⟩
      all_goals
        go_enter Try.func13, Try.ntmps13
        go_wp2_with fail
        rw [← eV.out]
        obtain ⟨k0, k1, k2, k3⟩ := hcs.out _ (Below.refl _ _)
        go_wp2_with fail
        refine (RT.out _).mono ?_
        rintro e w1 ⟨rfl, hb1⟩
        have hb1 := (Below.refl (w.heap.size + 1) V).trans (hb1.mono (Nat.le_of_eq hz.out.symm))
        obtain ⟨k0, k1, k2, k3⟩ := hcs.out _ hb1
        go_wp2_with fail
        refine (lives14 _).mono ?_
        rintro e w2 ⟨rfl, hb2⟩
        go_wp2
        go_ret
        exact ⟨rfl, (hb0.out.trans (hb1.mono (by omega))).trans (hb2.mono (by have := hb0.out.size; have := hb1.size; have := hz.out; omega))⟩
end Go.Proofs.Ytnnhgpmpkiblaaa
