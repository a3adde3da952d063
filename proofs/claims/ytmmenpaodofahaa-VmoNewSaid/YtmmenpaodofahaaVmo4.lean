/- How great a book is; the laws VmoLimits, VmoNew, walked. -/
import Derived.Test.YtmmenpaodofahaaVmo3
import Derived.Deep.Cut
namespace Go.Proofs.Ytmmenpaodofahaa
open Go.ChangeShapes Go.WideShapes Go.ChangeAt Go.RowKit
set_option linter.unusedVariables false
set_option linter.unusedSimpArgs false
theorem vgr_box (w : World) (a1 a2 a3 a4 : Option Addr) (e1 e2 e3 e4 : Nat) (X Y Z T : List Int) (ma mg tk : Int) : ∃ V, V = (w.alloc (.cells #[.slice a1 X.length e1, .slice a2 Y.length e2, .slice a3 Z.length e3, .slice a4 T.length e4, .int .i64 ma, .int .i64 mg, .int .i64 tk] 87)) ∧ Below w.heap.size w V ∧ V.heap.size = w.heap.size + 1 ∧ ∀ u, Below (w.heap.size + 1) V u → u.cell? ⟨w.heap.size, 0, none⟩ = some (.slice a1 X.length e1) ∧ u.cell? ⟨w.heap.size, 1, none⟩ = some (.slice a2 Y.length e2) ∧ u.cell? ⟨w.heap.size, 2, none⟩ = some (.slice a3 Z.length e3) ∧ u.cell? ⟨w.heap.size, 3, none⟩ = some (.slice a4 T.length e4) ∧ u.cell? ⟨w.heap.size, 4, none⟩ = some (.int .i64 ma) ∧ u.cell? ⟨w.heap.size, 5, none⟩ = some (.int .i64 mg) ∧ u.cell? ⟨w.heap.size, 6, none⟩ = some (.int .i64 tk) :=
  ⟨_, rfl, (by repeat (first | exact Below.refl _ _ | assumption | apply Below.drew | apply below_drewN | (refine Below.alloc ?_ (by first | exact Nat.le_refl _ | omega | (simp <;> omega)) _) | (refine Below.setCell ?_ (by first | exact Nat.le_refl _ | omega | (simp <;> omega)) _))), by simp, fun u hu => ⟨(bc hu (by omega)).trans (by go_simp), (bc hu (by omega)).trans (by go_simp), (bc hu (by omega)).trans (by go_simp), (bc hu (by omega)).trans (by go_simp), (bc hu (by omega)).trans (by go_simp), (bc hu (by omega)).trans (by go_simp), (bc hu (by omega)).trans (by go_simp)⟩⟩

def vgB (X Y Z T : List Int) : Bool := decide (300 < X.length) || (decide (300 < Y.length) || (decide (300 < Z.length) || decide (300 < T.length)))
theorem vgB_no {X Y Z T : List Int} (h : vgB X Y Z T = false) : X.length ≤ 300 ∧ Y.length ≤ 300 ∧ Z.length ≤ 300 ∧ T.length ≤ 300 := by
  unfold vgB at h
  simp at h
  omega
set_option maxRecDepth 100000 in
set_option maxHeartbeats 8000000 in
theorem vgreat (a1 a2 a3 a4 : Option Addr) (e1 e2 e3 e4 : Nat) (X Y Z T : List Int) (ma mg tk : Int) (w : World) : Calls Try.prog 53 #[.agg #[.slice a1 X.length e1, .slice a2 Y.length e2, .slice a3 Z.length e3, .slice a4 T.length e4, .int .i64 ma, .int .i64 mg, .int .i64 tk]] w fun e w' => e = .returned (.bool (vgB X Y Z T)) ∧ Below w.heap.size w w' := by
  have dX : decide ((300 : Int) < (X.length : Int)) = decide (300 < X.length) := by simp; omega
  have dY : decide ((300 : Int) < (Y.length : Int)) = decide (300 < Y.length) := by simp; omega
  have dZ : decide ((300 : Int) < (Z.length : Int)) = decide (300 < Z.length) := by simp; omega
  have dT : decide ((300 : Int) < (T.length : Int)) = decide (300 < T.length) := by simp; omega
  unfold vgB
  obtain ⟨V, eV, hb0, hz, hcs⟩ := vgr_box w a1 a2 a3 a4 e1 e2 e3 e4 X Y Z T ma mg tk
  replace hb0 := Lib.hid hb0
  replace hz := Lib.hid hz
  replace hcs := Lib.hid hcs
  replace eV := Lib.hid eV
  generalize decide (300 < X.length) = qX at *
  generalize decide (300 < Y.length) = qY at *
  generalize decide (300 < Z.length) = qZ at *
  generalize decide (300 < T.length) = qT at *
  cases qX
  case true =>
    go_enter Try.func53, Try.ntmps53
    go_wp2_with fail
    rw [← eV.out]
    obtain ⟨k0, k1, k2, k3, k4, k5, k6⟩ := hcs.out _ (Below.refl _ _)
    go_wp2
    go_ret
    exact ⟨by first | rfl | (simp [dX, dY, dZ, dT]; done), hb0.out⟩
  case false =>
    cases qY
    case true =>
      go_enter Try.func53, Try.ntmps53
      go_wp2_with fail
      rw [← eV.out]
      obtain ⟨k0, k1, k2, k3, k4, k5, k6⟩ := hcs.out _ (Below.refl _ _)
      go_wp2
      go_ret
      exact ⟨by first | rfl | (simp [dX, dY, dZ, dT]; done), hb0.out⟩
    case false =>
      cases qZ
      case true =>
        go_enter Try.func53, Try.ntmps53
        go_wp2_with fail
        rw [← eV.out]
        obtain ⟨k0, k1, k2, k3, k4, k5, k6⟩ := hcs.out _ (Below.refl _ _)
        go_wp2
        go_ret
        exact ⟨by first | rfl | (simp [dX, dY, dZ, dT]; done), hb0.out⟩
      case false =>
        cases qT
        all_goals
          go_enter Try.func53, Try.ntmps53
          go_wp2_with fail
          rw [← eV.out]
          obtain ⟨k0, k1, k2, k3, k4, k5, k6⟩ := hcs.out _ (Below.refl _ _)
          go_wp2
          go_ret
          exact ⟨by first | rfl | (simp [dX, dY, dZ, dT]; done), hb0.out⟩
theorem vli_box (w : World) (a1 a2 a3 a4 : Option Addr) (e1 e2 e3 e4 : Nat) (X Y Z T : List Int) (ma mg tk : Int) (x0 p x2 : Int) : ∃ V, V = ((w.alloc (.cells #[.slice a1 X.length e1, .slice a2 Y.length e2, .slice a3 Z.length e3, .slice a4 T.length e4, .int .i64 ma, .int .i64 mg, .int .i64 tk] 87)).alloc (.cells #[.int .i64 x0, .int .i64 p, .int .i64 x2] 44)) ∧ Below w.heap.size w V ∧ V.heap.size = w.heap.size + 2 ∧ ∀ u, Below (w.heap.size + 2) V u → u.cell? ⟨w.heap.size, 0, none⟩ = some (.slice a1 X.length e1) ∧ u.cell? ⟨w.heap.size, 1, none⟩ = some (.slice a2 Y.length e2) ∧ u.cell? ⟨w.heap.size, 2, none⟩ = some (.slice a3 Z.length e3) ∧ u.cell? ⟨w.heap.size, 3, none⟩ = some (.slice a4 T.length e4) ∧ u.cell? ⟨w.heap.size, 4, none⟩ = some (.int .i64 ma) ∧ u.cell? ⟨w.heap.size, 5, none⟩ = some (.int .i64 mg) ∧ u.cell? ⟨w.heap.size, 6, none⟩ = some (.int .i64 tk) ∧ u.cell? ⟨w.heap.size + 1, 0, none⟩ = some (.int .i64 x0) ∧ u.cell? ⟨w.heap.size + 1, 1, none⟩ = some (.int .i64 p) ∧ u.cell? ⟨w.heap.size + 1, 2, none⟩ = some (.int .i64 x2) :=
  ⟨_, rfl, (by repeat (first | exact Below.refl _ _ | assumption | apply Below.drew | apply below_drewN | (refine Below.alloc ?_ (by first | exact Nat.le_refl _ | omega | (simp <;> omega)) _) | (refine Below.setCell ?_ (by first | exact Nat.le_refl _ | omega | (simp <;> omega)) _))), by simp, fun u hu => ⟨(bc hu (by omega)).trans (by go_simp), (bc hu (by omega)).trans (by go_simp), (bc hu (by omega)).trans (by go_simp), (bc hu (by omega)).trans (by go_simp), (bc hu (by omega)).trans (by go_simp), (bc hu (by omega)).trans (by go_simp), (bc hu (by omega)).trans (by go_simp), (bc hu (by omega)).trans (by go_simp), (bc hu (by omega)).trans (by go_simp), (bc hu (by omega)).trans (by go_simp)⟩⟩
theorem spa_box (w : World) (L M : Int) : ∃ V, V = (w.alloc (.cells #[.int .i64 L, .int .i64 M] 93)) ∧ Below w.heap.size w V ∧ V.heap.size = w.heap.size + 1 ∧ ∀ u, Below (w.heap.size + 1) V u → u.cell? ⟨w.heap.size, 0, none⟩ = some (.int .i64 L) ∧ u.cell? ⟨w.heap.size, 1, none⟩ = some (.int .i64 M) :=
  ⟨_, rfl, (by repeat (first | exact Below.refl _ _ | assumption | apply Below.drew | apply below_drewN | (refine Below.alloc ?_ (by first | exact Nat.le_refl _ | omega | (simp <;> omega)) _) | (refine Below.setCell ?_ (by first | exact Nat.le_refl _ | omega | (simp <;> omega)) _))), by simp, fun u hu => ⟨(bc hu (by omega)).trans (by go_simp), (bc hu (by omega)).trans (by go_simp)⟩⟩
set_option maxRecDepth 100000 in
set_option maxHeartbeats 8000000 in
theorem law_VmoLimits (a1 a2 a3 a4 : Option Addr) (e1 e2 e3 e4 : Nat) (X Y Z T : List Int) (ma mg tk : Int) (x0 p x2 : Int) (w : World) (hr1 : RowIs .i64 w a1 X) (hr2 : RowIs .i64 w a2 Y) (hr3 : RowIs .i64 w a3 Z) (hr4 : RowIs .i64 w a4 T) (hp1 : -9223372036854775808 ≤ p) (hp2 : p ≤ 9223372036854775807) :
    Calls Try.prog 13 #[.agg #[.slice a1 X.length e1, .slice a2 Y.length e2, .slice a3 Z.length e3, .slice a4 T.length e4, .int .i64 ma, .int .i64 mg, .int .i64 tk], .agg #[.int .i64 x0, .int .i64 p, .int .i64 x2]] w fun e w' => e = .returned (.bool true) ∧ Below w.heap.size w w' := by
  have LV := Lib.hid (fun u => lives43 u)
  have GR := fun u => vgreat a1 a2 a3 a4 e1 e2 e3 e4 X Y Z T ma mg tk u
  obtain ⟨V, eV, hb0, hz, hcs⟩ := vli_box w a1 a2 a3 a4 e1 e2 e3 e4 X Y Z T ma mg tk x0 p x2
  have W := fun u (h : Below (w.heap.size + 2) V u) => show Below w.heap.size w u from hb0.trans (h.mono (by omega))
  cases hgr : vgB X Y Z T
  case true =>
    rw [hgr] at GR
    replace GR := Lib.hid GR
    clear hgr hr1 hr2 hr3 hr4 W hp1 hp2
    replace hb0 := Lib.hid hb0
    replace hz := Lib.hid hz
    replace hcs := Lib.hid hcs
    replace eV := Lib.hid eV
    go_enter Try.func13, Try.ntmps13
    go_wp2_with fail
    rw [← eV.out]
    obtain ⟨k0, k1, k2, k3, k4, k5, k6, k7, k8, k9⟩ := hcs.out _ (Below.refl _ _)
    go_wp2_with fail
    refine (GR.out _).mono ?_
    rintro e w1 ⟨rfl, hb1⟩
    have hb1 := (Below.refl (w.heap.size + 2) V).trans (hb1.mono (Nat.le_of_eq hz.out.symm))
    obtain ⟨k0, k1, k2, k3, k4, k5, k6, k7, k8, k9⟩ := hcs.out _ hb1
    go_wp2_with fail
    refine (LV.out _).mono ?_
    rintro e w2 ⟨rfl, hb2⟩
    have hb2 := hb1.trans (hb2.mono (by have := hb1.size; have := hz.out; omega))
    clear hb1
    go_wp2
    go_ret
    exact ⟨rfl, hb0.out.trans (hb2.mono (by omega))⟩
  rw [hgr] at GR
  replace GR := Lib.hid GR
  obtain ⟨hl1, hl2, hl3, hl4⟩ := vgB_no hgr
  clear hgr
  have RR := fun u (h : Below (w.heap.size + 2) V u) => rright43 a1 a2 a3 a4 e1 e2 e3 e4 X Y Z T ma mg tk u (hr1.below (W u h)) (hr2.below (W u h)) (hr3.below (W u h)) (hr4.below (W u h)) hl1 hl2 hl3 hl4
  have LI := fun u (h : Below (w.heap.size + 2) V u) => vlimits a1 a2 a3 a4 e1 e2 e3 e4 X Y Z T ma mg tk x0 p x2 u (hr1.below (W u h)) (hr2.below (W u h)) (hr3.below (W u h)) (hr4.below (W u h)) hl1 hl2 hl3 hl4 hp1 hp2
  have BD := fun u (h : Below (w.heap.size + 2) V u) => vband a1 a2 a3 a4 e1 e2 e3 e4 X Y Z T ma mg tk x0 p x2 u (hr1.below (W u h)) (hr2.below (W u h)) (hr3.below (W u h)) (hr4.below (W u h)) hl1 hl2 hl3 hl4 hp1 hp2
  have VR := fun u (h : Below (w.heap.size + 2) V u) => vright a1 a2 a3 a4 e1 e2 e3 e4 X Y Z T ma mg tk u (hr1.below (W u h)) (hr2.below (W u h)) (hr3.below (W u h)) (hr4.below (W u h)) hl1 hl2 hl3 hl4
  have RL := fun hw => Lib.hid (fun u (h : Below (w.heap.size + 2) V u) => rlimits43 a1 a2 a3 a4 e1 e2 e3 e4 X Y Z T ma mg tk x0 p x2 u (hr1.below (W u h)) (hr2.below (W u h)) (hr3.below (W u h)) (hr4.below (W u h)) hl1 hl2 hl3 hl4 hp1 hp2 hw)
  generalize vlL Z T x2 = L at *
  generalize vlM X Y ma x0 p = M at *
  unfold bnB at BD
  cases hw : voB X Y Z T ma mg tk
  case false =>
    rw [hw] at RR LI BD VR
    simp only [Bool.false_and, Bool.false_eq_true, if_false] at LI BD
    replace RR := Lib.hid RR
    replace LI := Lib.hid LI
    replace BD := Lib.hid BD
    replace VR := Lib.hid VR
    clear hw RL hr1 hr2 hr3 hr4 hl1 hl2 hl3 hl4 W hp1 hp2
    replace hb0 := Lib.hid hb0
    replace hz := Lib.hid hz
    replace hcs := Lib.hid hcs
    replace eV := Lib.hid eV
    go_enter Try.func13, Try.ntmps13
    go_wp2_with fail
    rw [← eV.out]
    obtain ⟨k0, k1, k2, k3, k4, k5, k6, k7, k8, k9⟩ := hcs.out _ (Below.refl _ _)
    go_wp2_with fail
    refine (GR.out _).mono ?_
    rintro e w1 ⟨rfl, hb1⟩
    have hb1 := (Below.refl (w.heap.size + 2) V).trans (hb1.mono (Nat.le_of_eq hz.out.symm))
    obtain ⟨k0, k1, k2, k3, k4, k5, k6, k7, k8, k9⟩ := hcs.out _ hb1
    go_wp2_with fail
    refine (RR.out _ hb1).mono ?_
    rintro e w2 ⟨rfl, hb2⟩
    have hb2 := hb1.trans (hb2.mono (by have := hb1.size; have := hz.out; omega))
    clear hb1
    obtain ⟨k0, k1, k2, k3, k4, k5, k6, k7, k8, k9⟩ := hcs.out _ hb2
    go_wp2_with fail
    refine (LI.out _ hb2).mono ?_
    rintro e w3 ⟨rfl, hb3⟩
    have hb3 := hb2.trans (hb3.mono (by have := hb2.size; have := hz.out; omega))
    clear hb2
    obtain ⟨k0, k1, k2, k3, k4, k5, k6, k7, k8, k9⟩ := hcs.out _ hb3
    go_wp2_with fail
    refine (BD.out _ hb3).mono ?_
    rintro e w4 ⟨rfl, hb4⟩
    have hb4 := hb3.trans (hb4.mono (by have := hb3.size; have := hz.out; omega))
    clear hb3
    obtain ⟨k0, k1, k2, k3, k4, k5, k6, k7, k8, k9⟩ := hcs.out _ hb4
    go_upto_region 6 with (fail)
    obtain ⟨V1, eV1, hm5, hz1, hcs1⟩ := spa_box w4 0 0
    have hb5 := hb4.trans (hm5.mono (by have := hb4.size; have := hz.out; omega))
    replace eV1 := Lib.hid eV1
    rw [← eV1.out]
    obtain ⟨k0, k1, k2, k3, k4, k5, k6, k7, k8, k9⟩ := hcs.out _ hb5
    obtain ⟨j0, j1⟩ := hcs1 _ (Below.refl _ _)
    clear hb4
    have hmv := Lib.hid hm5
    replace hm5 := Below.refl (w4.heap.size + 1) V1
    have hs3 := Lib.hid (show w.heap.size + 2 ≤ w4.heap.size + 1 ∧ V1.heap.size = w4.heap.size + 1 from ⟨by have := hb5.size; have := hz.out; omega, hz1⟩)
    clear hz1
    replace hcs1 := Lib.hid hcs1
    go_wp2_with fail
    refine (VR.out _ (hb5)).mono ?_
    rintro e w6 ⟨rfl, hb6⟩
    have hm6 := hm5.trans (hb6.mono (by have := hm5.size; have := hs3.out.2; omega))
    have hb6 := hb5.trans (hb6.mono (by have := hb5.size; have := hz.out; omega))
    clear hb5 hm5
    obtain ⟨k0, k1, k2, k3, k4, k5, k6, k7, k8, k9⟩ := hcs.out _ hb6
    obtain ⟨j0, j1⟩ := hcs1.out _ hm6
    go_wp2_with fail
    refine (LV.out _).mono ?_
    rintro e w20 ⟨rfl, hb20⟩
    have hb20 := hb6.trans (hb20.mono (by have := hb6.size; have := hz.out; omega))
    go_wp2
    go_ret
    exact ⟨by first | rfl | simp, hb0.out.trans (hb20.mono (by omega))⟩
  case true =>
    replace RL := RL hw
    rw [hw] at RR LI BD VR
    simp only [Bool.true_and, if_true] at LI BD
    replace RR := Lib.hid RR
    replace LI := Lib.hid LI
    replace VR := Lib.hid VR
    clear hw hr1 hr2 hr3 hr4 hl1 hl2 hl3 hl4 W hp1 hp2
    rcases (show L ≤ M ∨ M < L by omega) with hc | hc
    · rw [decide_eq_true hc] at BD
      simp only [if_true] at BD
      replace BD := Lib.hid BD
      replace hb0 := Lib.hid hb0
      replace hz := Lib.hid hz
      replace hcs := Lib.hid hcs
      replace eV := Lib.hid eV
      go_enter Try.func13, Try.ntmps13
      go_wp2_with fail
      rw [← eV.out]
      obtain ⟨k0, k1, k2, k3, k4, k5, k6, k7, k8, k9⟩ := hcs.out _ (Below.refl _ _)
      go_wp2_with fail
      refine (GR.out _).mono ?_
      rintro e w1 ⟨rfl, hb1⟩
      have hb1 := (Below.refl (w.heap.size + 2) V).trans (hb1.mono (Nat.le_of_eq hz.out.symm))
      obtain ⟨k0, k1, k2, k3, k4, k5, k6, k7, k8, k9⟩ := hcs.out _ hb1
      go_wp2_with fail
      refine (RR.out _ hb1).mono ?_
      rintro e w2 ⟨rfl, hb2⟩
      have hb2 := hb1.trans (hb2.mono (by have := hb1.size; have := hz.out; omega))
      clear hb1
      obtain ⟨k0, k1, k2, k3, k4, k5, k6, k7, k8, k9⟩ := hcs.out _ hb2
      go_wp2_with fail
      refine (LI.out _ hb2).mono ?_
      rintro e w3 ⟨rfl, hb3⟩
      have hb3 := hb2.trans (hb3.mono (by have := hb2.size; have := hz.out; omega))
      clear hb2
      obtain ⟨k0, k1, k2, k3, k4, k5, k6, k7, k8, k9⟩ := hcs.out _ hb3
      go_wp2_with fail
      refine (BD.out _ hb3).mono ?_
      rintro e w4 ⟨rfl, hb4⟩
      have hb4 := hb3.trans (hb4.mono (by have := hb3.size; have := hz.out; omega))
      clear hb3
      obtain ⟨k0, k1, k2, k3, k4, k5, k6, k7, k8, k9⟩ := hcs.out _ hb4
      go_upto_region 6 with (fail)
      obtain ⟨V1, eV1, hm5, hz1, hcs1⟩ := spa_box w4 L M
      have hb5 := hb4.trans (hm5.mono (by have := hb4.size; have := hz.out; omega))
      replace eV1 := Lib.hid eV1
      rw [← eV1.out]
      obtain ⟨k0, k1, k2, k3, k4, k5, k6, k7, k8, k9⟩ := hcs.out _ hb5
      obtain ⟨j0, j1⟩ := hcs1 _ (Below.refl _ _)
      clear hb4
      have hmv := Lib.hid hm5
      replace hm5 := Below.refl (w4.heap.size + 1) V1
      have hs3 := Lib.hid (show w.heap.size + 2 ≤ w4.heap.size + 1 ∧ V1.heap.size = w4.heap.size + 1 from ⟨by have := hb5.size; have := hz.out; omega, hz1⟩)
      clear hz1
      replace hcs1 := Lib.hid hcs1
      go_wp2_with fail
      refine (VR.out _ (hb5)).mono ?_
      rintro e w6 ⟨rfl, hb6⟩
      have hm6 := hm5.trans (hb6.mono (by have := hm5.size; have := hs3.out.2; omega))
      have hb6 := hb5.trans (hb6.mono (by have := hb5.size; have := hz.out; omega))
      clear hb5 hm5
      obtain ⟨k0, k1, k2, k3, k4, k5, k6, k7, k8, k9⟩ := hcs.out _ hb6
      obtain ⟨j0, j1⟩ := hcs1.out _ hm6
      go_wp2_with fail
      refine (RL.out _ (hb6)).mono ?_
      rintro e w7 ⟨rfl, hb7⟩
      have hm7 := hm6.trans (hb7.mono (by have := hm6.size; have := hs3.out.2; omega))
      have hb7 := hb6.trans (hb7.mono (by have := hb6.size; have := hz.out; omega))
      clear hb6 hm6
      obtain ⟨k0, k1, k2, k3, k4, k5, k6, k7, k8, k9⟩ := hcs.out _ hb7
      obtain ⟨j0, j1⟩ := hcs1.out _ hm7
      go_wp2_with fail
      refine (LV.out _).mono ?_
      rintro e w20 ⟨rfl, hb20⟩
      have hb20 := hb7.trans (hb20.mono (by have := hb7.size; have := hz.out; omega))
      go_wp2
      go_ret
      exact ⟨by first | rfl | simp, hb0.out.trans (hb20.mono (by omega))⟩
    · rw [decide_eq_false (show ¬ L ≤ M by omega)] at BD
      simp only [Bool.false_eq_true, if_false] at BD
      replace BD := Lib.hid BD
      replace hb0 := Lib.hid hb0
      replace hz := Lib.hid hz
      replace hcs := Lib.hid hcs
      replace eV := Lib.hid eV
      go_enter Try.func13, Try.ntmps13
      go_wp2_with fail
      rw [← eV.out]
      obtain ⟨k0, k1, k2, k3, k4, k5, k6, k7, k8, k9⟩ := hcs.out _ (Below.refl _ _)
      go_wp2_with fail
      refine (GR.out _).mono ?_
      rintro e w1 ⟨rfl, hb1⟩
      have hb1 := (Below.refl (w.heap.size + 2) V).trans (hb1.mono (Nat.le_of_eq hz.out.symm))
      obtain ⟨k0, k1, k2, k3, k4, k5, k6, k7, k8, k9⟩ := hcs.out _ hb1
      go_wp2_with fail
      refine (RR.out _ hb1).mono ?_
      rintro e w2 ⟨rfl, hb2⟩
      have hb2 := hb1.trans (hb2.mono (by have := hb1.size; have := hz.out; omega))
      clear hb1
      obtain ⟨k0, k1, k2, k3, k4, k5, k6, k7, k8, k9⟩ := hcs.out _ hb2
      go_wp2_with fail
      refine (LI.out _ hb2).mono ?_
      rintro e w3 ⟨rfl, hb3⟩
      have hb3 := hb2.trans (hb3.mono (by have := hb2.size; have := hz.out; omega))
      clear hb2
      obtain ⟨k0, k1, k2, k3, k4, k5, k6, k7, k8, k9⟩ := hcs.out _ hb3
      go_wp2_with fail
      refine (BD.out _ hb3).mono ?_
      rintro e w4 ⟨rfl, hb4⟩
      have hb4 := hb3.trans (hb4.mono (by have := hb3.size; have := hz.out; omega))
      clear hb3
      obtain ⟨k0, k1, k2, k3, k4, k5, k6, k7, k8, k9⟩ := hcs.out _ hb4
      go_upto_region 6 with (fail)
      obtain ⟨V1, eV1, hm5, hz1, hcs1⟩ := spa_box w4 0 0
      have hb5 := hb4.trans (hm5.mono (by have := hb4.size; have := hz.out; omega))
      replace eV1 := Lib.hid eV1
      rw [← eV1.out]
      obtain ⟨k0, k1, k2, k3, k4, k5, k6, k7, k8, k9⟩ := hcs.out _ hb5
      obtain ⟨j0, j1⟩ := hcs1 _ (Below.refl _ _)
      clear hb4
      have hmv := Lib.hid hm5
      replace hm5 := Below.refl (w4.heap.size + 1) V1
      have hs3 := Lib.hid (show w.heap.size + 2 ≤ w4.heap.size + 1 ∧ V1.heap.size = w4.heap.size + 1 from ⟨by have := hb5.size; have := hz.out; omega, hz1⟩)
      clear hz1
      replace hcs1 := Lib.hid hcs1
      go_wp2_with fail
      refine (VR.out _ (hb5)).mono ?_
      rintro e w6 ⟨rfl, hb6⟩
      have hm6 := hm5.trans (hb6.mono (by have := hm5.size; have := hs3.out.2; omega))
      have hb6 := hb5.trans (hb6.mono (by have := hb5.size; have := hz.out; omega))
      clear hb5 hm5
      obtain ⟨k0, k1, k2, k3, k4, k5, k6, k7, k8, k9⟩ := hcs.out _ hb6
      obtain ⟨j0, j1⟩ := hcs1.out _ hm6
      go_wp2_with fail
      refine (RL.out _ (hb6)).mono ?_
      rintro e w7 ⟨rfl, hb7⟩
      have hm7 := hm6.trans (hb7.mono (by have := hm6.size; have := hs3.out.2; omega))
      have hb7 := hb6.trans (hb7.mono (by have := hb6.size; have := hz.out; omega))
      clear hb6 hm6
      obtain ⟨k0, k1, k2, k3, k4, k5, k6, k7, k8, k9⟩ := hcs.out _ hb7
      obtain ⟨j0, j1⟩ := hcs1.out _ hm7
      go_wp2_with fail
      refine (LV.out _).mono ?_
      rintro e w20 ⟨rfl, hb20⟩
      have hb20 := hb7.trans (hb20.mono (by have := hb7.size; have := hz.out; omega))
      go_wp2
      go_ret
      exact ⟨by first | rfl | simp, hb0.out.trans (hb20.mono (by omega))⟩
theorem vne_box (w : World) (a1 a2 a3 a4 : Option Addr) (e1 e2 e3 e4 : Nat) (X Y Z T : List Int) (ma mg tk : Int) (x0 x1 x2 x3 : Int) : ∃ V, V = ((w.alloc (.cells #[.slice a1 X.length e1, .slice a2 Y.length e2, .slice a3 Z.length e3, .slice a4 T.length e4, .int .i64 ma, .int .i64 mg, .int .i64 tk] 87)).alloc (.cells #[.int .i64 x0, .int .i64 x1, .int .i64 x2, .int .i64 x3] 56)) ∧ Below w.heap.size w V ∧ V.heap.size = w.heap.size + 2 ∧ ∀ u, Below (w.heap.size + 2) V u → u.cell? ⟨w.heap.size, 0, none⟩ = some (.slice a1 X.length e1) ∧ u.cell? ⟨w.heap.size, 1, none⟩ = some (.slice a2 Y.length e2) ∧ u.cell? ⟨w.heap.size, 2, none⟩ = some (.slice a3 Z.length e3) ∧ u.cell? ⟨w.heap.size, 3, none⟩ = some (.slice a4 T.length e4) ∧ u.cell? ⟨w.heap.size, 4, none⟩ = some (.int .i64 ma) ∧ u.cell? ⟨w.heap.size, 5, none⟩ = some (.int .i64 mg) ∧ u.cell? ⟨w.heap.size, 6, none⟩ = some (.int .i64 tk) ∧ u.cell? ⟨w.heap.size + 1, 0, none⟩ = some (.int .i64 x0) ∧ u.cell? ⟨w.heap.size + 1, 1, none⟩ = some (.int .i64 x1) ∧ u.cell? ⟨w.heap.size + 1, 2, none⟩ = some (.int .i64 x2) ∧ u.cell? ⟨w.heap.size + 1, 3, none⟩ = some (.int .i64 x3) :=
  ⟨_, rfl, (by repeat (first | exact Below.refl _ _ | assumption | apply Below.drew | apply below_drewN | (refine Below.alloc ?_ (by first | exact Nat.le_refl _ | omega | (simp <;> omega)) _) | (refine Below.setCell ?_ (by first | exact Nat.le_refl _ | omega | (simp <;> omega)) _))), by simp, fun u hu => ⟨(bc hu (by omega)).trans (by go_simp), (bc hu (by omega)).trans (by go_simp), (bc hu (by omega)).trans (by go_simp), (bc hu (by omega)).trans (by go_simp), (bc hu (by omega)).trans (by go_simp), (bc hu (by omega)).trans (by go_simp), (bc hu (by omega)).trans (by go_simp), (bc hu (by omega)).trans (by go_simp), (bc hu (by omega)).trans (by go_simp), (bc hu (by omega)).trans (by go_simp), (bc hu (by omega)).trans (by go_simp)⟩⟩
set_option maxRecDepth 100000 in
set_option maxHeartbeats 8000000 in
theorem law_VmoNew (a1 a2 a3 a4 : Option Addr) (e1 e2 e3 e4 : Nat) (X Y Z T : List Int) (ma mg tk : Int) (x0 x1 x2 x3 : Int) (w : World) (hr1 : RowIs .i64 w a1 X) (hr2 : RowIs .i64 w a2 Y) (hr3 : RowIs .i64 w a3 Z) (hr4 : RowIs .i64 w a4 T) :
    Calls Try.prog 14 #[.agg #[.slice a1 X.length e1, .slice a2 Y.length e2, .slice a3 Z.length e3, .slice a4 T.length e4, .int .i64 ma, .int .i64 mg, .int .i64 tk], .agg #[.int .i64 x0, .int .i64 x1, .int .i64 x2, .int .i64 x3]] w fun e w' => e = .returned (.bool true) ∧ Below w.heap.size w w' := by
  have LV := Lib.hid (fun u => lives43 u)
  have GR := fun u => vgreat a1 a2 a3 a4 e1 e2 e3 e4 X Y Z T ma mg tk u
  obtain ⟨V, eV, hb0, hz, hcs⟩ := vne_box w a1 a2 a3 a4 e1 e2 e3 e4 X Y Z T ma mg tk x0 x1 x2 x3
  have W := fun u (h : Below (w.heap.size + 2) V u) => show Below w.heap.size w u from hb0.trans (h.mono (by omega))
  cases hgr : vgB X Y Z T
  case true =>
    rw [hgr] at GR
    replace GR := Lib.hid GR
    clear hgr hr1 hr2 hr3 hr4 W
    replace hb0 := Lib.hid hb0
    replace hz := Lib.hid hz
    replace hcs := Lib.hid hcs
    replace eV := Lib.hid eV
    go_enter Try.func14, Try.ntmps14
    go_wp2_with fail
    rw [← eV.out]
    obtain ⟨k0, k1, k2, k3, k4, k5, k6, k7, k8, k9, k10⟩ := hcs.out _ (Below.refl _ _)
    go_wp2_with fail
    refine (GR.out _).mono ?_
    rintro e w1 ⟨rfl, hb1⟩
    have hb1 := (Below.refl (w.heap.size + 2) V).trans (hb1.mono (Nat.le_of_eq hz.out.symm))
    obtain ⟨k0, k1, k2, k3, k4, k5, k6, k7, k8, k9, k10⟩ := hcs.out _ hb1
    go_wp2_with fail
    refine (LV.out _).mono ?_
    rintro e w2 ⟨rfl, hb2⟩
    have hb2 := hb1.trans (hb2.mono (by have := hb1.size; have := hz.out; omega))
    clear hb1
    go_wp2
    go_ret
    exact ⟨rfl, hb0.out.trans (hb2.mono (by omega))⟩
  rw [hgr] at GR
  replace GR := Lib.hid GR
  obtain ⟨hl1, hl2, hl3, hl4⟩ := vgB_no hgr
  clear hgr
  have RR := fun u (h : Below (w.heap.size + 2) V u) => rright43 a1 a2 a3 a4 e1 e2 e3 e4 X Y Z T ma mg tk u (hr1.below (W u h)) (hr2.below (W u h)) (hr3.below (W u h)) (hr4.below (W u h)) hl1 hl2 hl3 hl4
  have CN := Lib.hid (fun u => vclear_nil u)
  have SN := Lib.hid (fun u => vstep_nil x0 x1 x2 x3 u)
  have MN := Lib.hid (fun u => vmarks_nil u)
  have MK := Lib.hid (fun b g1 c1 g2 c2 g3 c3 g4 c4 u h => vmarks_any b g1 c1 g2 c2 g3 c3 g4 c4 X Y Z T ma mg tk 0 false 0 false false u h)
  cases hw : voB X Y Z T ma mg tk
  case false =>
    rw [hw] at RR
    have NW := Lib.hid (fun u (h : Below (w.heap.size + 2) V u) => vnew_no a1 a2 a3 a4 e1 e2 e3 e4 X Y Z T ma mg tk u (hr1.below (W u h)) (hr2.below (W u h)) (hr3.below (W u h)) (hr4.below (W u h)) hl1 hl2 hl3 hl4 hw)
    replace RR := Lib.hid RR
    clear hw hr1 hr2 hr3 hr4 hl1 hl2 hl3 hl4 W MK
    replace hb0 := Lib.hid hb0
    replace hz := Lib.hid hz
    replace hcs := Lib.hid hcs
    replace eV := Lib.hid eV
    go_enter Try.func14, Try.ntmps14
    go_wp2_with fail
    rw [← eV.out]
    obtain ⟨k0, k1, k2, k3, k4, k5, k6, k7, k8, k9, k10⟩ := hcs.out _ (Below.refl _ _)
    go_wp2_with fail
    refine (GR.out _).mono ?_
    rintro e w1 ⟨rfl, hb1⟩
    have hb1 := (Below.refl (w.heap.size + 2) V).trans (hb1.mono (Nat.le_of_eq hz.out.symm))
    obtain ⟨k0, k1, k2, k3, k4, k5, k6, k7, k8, k9, k10⟩ := hcs.out _ hb1
    go_wp2_with fail
    refine (NW.out _ hb1).mono ?_
    rintro e w2 ⟨rfl, hb2⟩
    have hb2 := hb1.trans (hb2.mono (by have := hb1.size; have := hz.out; omega))
    clear hb1
    obtain ⟨k0, k1, k2, k3, k4, k5, k6, k7, k8, k9, k10⟩ := hcs.out _ hb2
    go_wp2_with fail
    refine (CN.out _).mono ?_
    rintro e w3 ⟨rfl, rfl⟩
    go_wp2_with fail
    refine (SN.out _).mono ?_
    rintro e w3 ⟨rfl, rfl⟩
    go_wp2_with fail
    refine (MN.out _).mono ?_
    rintro e w3 ⟨rfl, rfl⟩
    go_wp2_with fail
    refine (RR.out _ hb2).mono ?_
    rintro e w6 ⟨rfl, hb6⟩
    have hb6 := hb2.trans (hb6.mono (by have := hb2.size; have := hz.out; omega))
    clear hb2
    obtain ⟨k0, k1, k2, k3, k4, k5, k6, k7, k8, k9, k10⟩ := hcs.out _ hb6
    go_wp2_with fail
    refine (LV.out _).mono ?_
    rintro e w7 ⟨rfl, hb7⟩
    have hb7 := hb6.trans (hb7.mono (by have := hb6.size; have := hz.out; omega))
    clear hb6
    go_wp2
    go_ret
    exact ⟨rfl, hb0.out.trans (hb7.mono (by omega))⟩
  case true =>
    rw [hw] at RR
    have NW := Lib.hid (fun u (h : Below (w.heap.size + 2) V u) => vnew_ok a1 a2 a3 a4 e1 e2 e3 e4 X Y Z T ma mg tk u (hr1.below (W u h)) (hr2.below (W u h)) (hr3.below (W u h)) (hr4.below (W u h)) hl1 hl2 hl3 hl4 hw)
    replace RR := Lib.hid RR
    clear hw hr1 hr2 hr3 hr4 hl1 hl2 hl3 hl4 W
    replace hb0 := Lib.hid hb0
    replace hz := Lib.hid hz
    replace hcs := Lib.hid hcs
    replace eV := Lib.hid eV
    go_enter Try.func14, Try.ntmps14
    go_wp2_with fail
    rw [← eV.out]
    obtain ⟨k0, k1, k2, k3, k4, k5, k6, k7, k8, k9, k10⟩ := hcs.out _ (Below.refl _ _)
    go_wp2_with fail
    refine (GR.out _).mono ?_
    rintro e w1 ⟨rfl, hb1⟩
    have hb1 := (Below.refl (w.heap.size + 2) V).trans (hb1.mono (Nat.le_of_eq hz.out.symm))
    obtain ⟨k0, k1, k2, k3, k4, k5, k6, k7, k8, k9, k10⟩ := hcs.out _ hb1
    go_wp2_with fail
    refine (NW.out _ hb1).mono ?_
    rintro e w2 ⟨b, g1, c1, g2, c2, g3, c3, g4, c4, rfl, hM, -, hb2⟩
    have hb2 := hb1.trans (hb2.mono (by have := hb1.size; have := hz.out; omega))
    replace hM := Lib.hid hM
    clear hb1
    obtain ⟨k0, k1, k2, k3, k4, k5, k6, k7, k8, k9, k10⟩ := hcs.out _ hb2
    go_wp2_with fail
    refine (CN.out _).mono ?_
    rintro e w3 ⟨rfl, rfl⟩
    go_wp2_with fail
    refine (SN.out _).mono ?_
    rintro e w3 ⟨rfl, rfl⟩
    go_wp2_with fail
    refine (MN.out _).mono ?_
    rintro e w3 ⟨rfl, rfl⟩
    go_wp2_with fail
    refine (RR.out _ hb2).mono ?_
    rintro e w6 ⟨rfl, hb6⟩
    replace hM := Lib.hid (hM.out.bel hb6)
    have hb6 := hb2.trans (hb6.mono (by have := hb2.size; have := hz.out; omega))
    clear hb2
    obtain ⟨k0, k1, k2, k3, k4, k5, k6, k7, k8, k9, k10⟩ := hcs.out _ hb6
    go_wp2_with fail
    refine (MK.out _ _ _ _ _ _ _ _ _ _ hM.out).mono ?_
    rintro e w7 ⟨rfl, rfl⟩
    go_wp2_with fail
    refine (LV.out _).mono ?_
    rintro e w8 ⟨rfl, hb8⟩
    have hb8 := hb6.trans (hb8.mono (by have := hb6.size; have := hz.out; omega))
    clear hb6
    go_wp2
    go_ret
    exact ⟨rfl, hb0.out.trans (hb8.mono (by omega))⟩
end Go.Proofs.Ytmmenpaodofahaa
