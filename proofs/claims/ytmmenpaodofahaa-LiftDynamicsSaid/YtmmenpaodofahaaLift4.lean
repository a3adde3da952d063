/- The law LiftDynamics, walked. -/
import Derived.Test.YtmmenpaodofahaaLift3
import Derived.Deep.Cut
namespace Go.Proofs.Ytmmenpaodofahaa
open Go.ChangeShapes Go.WideShapes Go.ChangeAt Go.RowKit
set_option linter.unusedVariables false
set_option linter.unusedSimpArgs false
theorem lda_box (w : World) (ax ay : Option Addr) (cx cy : Nat) (X Y : List Int) (a l : Int) (x0 x1 x2 : Int) : ∃ V, V = ((w.alloc (.cells #[.slice ax X.length cx, .slice ay Y.length cy, .int .i64 a, .int .i64 l] 43)).alloc (.cells #[.int .i64 x0, .int .i64 x1, .int .i64 x2] 44)) ∧ Below w.heap.size w V ∧ V.heap.size = w.heap.size + 2 ∧ ∀ u, Below (w.heap.size + 2) V u → u.cell? ⟨w.heap.size, 0, none⟩ = some (.slice ax X.length cx) ∧ u.cell? ⟨w.heap.size, 1, none⟩ = some (.slice ay Y.length cy) ∧ u.cell? ⟨w.heap.size, 2, none⟩ = some (.int .i64 a) ∧ u.cell? ⟨w.heap.size, 3, none⟩ = some (.int .i64 l) ∧ u.cell? ⟨w.heap.size + 1, 0, none⟩ = some (.int .i64 x0) ∧ u.cell? ⟨w.heap.size + 1, 1, none⟩ = some (.int .i64 x1) ∧ u.cell? ⟨w.heap.size + 1, 2, none⟩ = some (.int .i64 x2) :=
  ⟨_, rfl, (by repeat (first | exact Below.refl _ _ | assumption | apply Below.drew | apply below_drewN | (refine Below.alloc ?_ (by first | exact Nat.le_refl _ | omega | (simp <;> omega)) _) | (refine Below.setCell ?_ (by first | exact Nat.le_refl _ | omega | (simp <;> omega)) _))), by simp, fun u hu => ⟨(bc hu (by omega)).trans (by go_simp), (bc hu (by omega)).trans (by go_simp), (bc hu (by omega)).trans (by go_simp), (bc hu (by omega)).trans (by go_simp), (bc hu (by omega)).trans (by go_simp), (bc hu (by omega)).trans (by go_simp), (bc hu (by omega)).trans (by go_simp)⟩⟩
set_option maxRecDepth 100000 in
set_option maxHeartbeats 8000000 in
theorem law_LiftDynamics (ax ay : Option Addr) (cx cy : Nat) (X Y : List Int) (a l : Int) (x0 x1 x2 : Int) (w : World) (hx : RowIs .i64 w ax X) (hy : RowIs .i64 w ay Y) :
    Calls Try.prog 7 #[.agg #[.slice ax X.length cx, .slice ay Y.length cy, .int .i64 a, .int .i64 l], .agg #[.int .i64 x0, .int .i64 x1, .int .i64 x2]] w fun e w' => e = .returned (.bool true) ∧ Below w.heap.size w w' := by
  have LV := Lib.hid (fun u => lives18 u)
  have GR := fun u => lgreat_any ax ay cx cy X Y u
  obtain ⟨V, eV, hb0, hz, hcs⟩ := lda_box w ax ay cx cy X Y a l x0 x1 x2
  have W := fun u (h : Below (w.heap.size + 2) V u) => show Below w.heap.size w u from hb0.trans (h.mono (by omega))
  cases hgr : (decide (300 < X.length) || decide (300 < Y.length))
  case true =>
    rw [hgr] at GR
    replace GR := Lib.hid GR
    clear hgr hx hy
    replace hb0 := Lib.hid hb0
    replace hz := Lib.hid hz
    replace hcs := Lib.hid hcs
    replace eV := Lib.hid eV
    go_enter Try.func7, Try.ntmps7
    go_wp2_with fail
    rw [← eV.out]
    obtain ⟨k0, k1, k2, k3, k4, k5, k6⟩ := hcs.out _ (Below.refl _ _)
    go_wp2_with fail
    refine (GR.out _).mono ?_
    rintro e w1 ⟨rfl, hb1⟩
    have hb1 := (Below.refl (w.heap.size + 2) V).trans (hb1.mono (Nat.le_of_eq hz.out.symm))
    obtain ⟨k0, k1, k2, k3, k4, k5, k6⟩ := hcs.out _ hb1
    go_wp2_with fail
    refine (LV.out _).mono ?_
    rintro e w2 ⟨rfl, hb2⟩
    have hb2 := hb1.trans (hb2.mono (by have := hb1.size; have := hz.out; omega))
    clear hb1
    go_wp2
    go_ret
    exact ⟨rfl, hb0.out.trans (hb2.mono (by omega))⟩
  rw [hgr] at GR
  replace GR := Lib.hid GR
  have hX : X.length ≤ 300 := by simp at hgr; omega
  have hY : Y.length ≤ 300 := by simp at hgr; omega
  clear hgr
  have RR := fun u (h : Below (w.heap.size + 2) V u) => rright18 ax ay cx cy X Y a l u (hx.below (W u h)) (hy.below (W u h)) hX hY
  have CF := fun u (h : Below (w.heap.size + 2) V u) => lcoef2 ax ay cx cy X Y a l x0 u (hx.below (W u h)) (hy.below (W u h)) hX hY
  have DY := Lib.hid (fun u (h : Below (w.heap.size + 2) V u) => ldynamic2 ax ay cx cy X Y a l x0 x1 x2 u (hx.below (W u h)) (hy.below (W u h)) hX hY)
  have RD := Lib.hid (fun u (h : Below (w.heap.size + 2) V u) => rdynamic18 ax ay cx cy X Y a l x0 x1 x2 u (hx.below (W u h)) (hy.below (W u h)) hX hY)
  have LR := fun u (h : Below (w.heap.size + 2) V u) => lright2 ax ay cx cy X Y a l u (hx.below (W u h)) (hy.below (W u h)) hX hY
  generalize lQ X Y a l x0 x1 x2 = Q at *
  generalize lE X Y a l x0 x1 x2 = E at *
  have d1 : (Q != Q) = false := by simp
  have d2 : (E != E) = false := by simp
  cases hw : wgB X Y a l
  case false =>
    rw [hw] at RR CF LR
    simp only [Bool.false_eq_true, if_false, if_true] at CF
    replace RR := Lib.hid RR
    replace CF := Lib.hid CF
    replace LR := Lib.hid LR
    clear hw hx hy hX hY W
    replace hb0 := Lib.hid hb0
    replace hz := Lib.hid hz
    replace hcs := Lib.hid hcs
    replace eV := Lib.hid eV
    go_enter Try.func7, Try.ntmps7
    go_wp2_with fail
    rw [← eV.out]
    obtain ⟨k0, k1, k2, k3, k4, k5, k6⟩ := hcs.out _ (Below.refl _ _)
    go_wp2_with fail
    refine (GR.out _).mono ?_
    rintro e w1 ⟨rfl, hb1⟩
    have hb1 := (Below.refl (w.heap.size + 2) V).trans (hb1.mono (Nat.le_of_eq hz.out.symm))
    obtain ⟨k0, k1, k2, k3, k4, k5, k6⟩ := hcs.out _ hb1
    go_wp2_with fail
    refine (RR.out _ hb1).mono ?_
    rintro e w2 ⟨rfl, hb2⟩
    have hb2 := hb1.trans (hb2.mono (by have := hb1.size; have := hz.out; omega))
    clear hb1
    obtain ⟨k0, k1, k2, k3, k4, k5, k6⟩ := hcs.out _ hb2
    go_wp2_with fail
    refine (CF.out _ hb2).mono ?_
    rintro e w3 ⟨rfl, hb3⟩
    have hb3 := hb2.trans (hb3.mono (by have := hb2.size; have := hz.out; omega))
    clear hb2
    obtain ⟨k0, k1, k2, k3, k4, k5, k6⟩ := hcs.out _ hb3
    go_wp2_with fail
    refine (DY.out _ hb3).mono ?_
    rintro e w4 ⟨rfl, hb4⟩
    have hb4 := hb3.trans (hb4.mono (by have := hb3.size; have := hz.out; omega))
    clear hb3
    obtain ⟨k0, k1, k2, k3, k4, k5, k6⟩ := hcs.out _ hb4
    go_wp2_with fail
    refine (RD.out _ hb4).mono ?_
    rintro e w5 ⟨rfl, hb5⟩
    have hb5 := hb4.trans (hb5.mono (by have := hb4.size; have := hz.out; omega))
    clear hb4
    obtain ⟨k0, k1, k2, k3, k4, k5, k6⟩ := hcs.out _ hb5
    go_wp2_with fail
    refine (LR.out _ hb5).mono ?_
    rintro e w6 ⟨rfl, hb6⟩
    have hb6 := hb5.trans (hb6.mono (by have := hb5.size; have := hz.out; omega))
    clear hb5
    obtain ⟨k0, k1, k2, k3, k4, k5, k6⟩ := hcs.out _ hb6
    go_wp2_with fail
    refine (LV.out _).mono ?_
    rintro e w8 ⟨rfl, hb8⟩
    have hb8 := hb6.trans (hb8.mono (by have := hb6.size; have := hz.out; omega))
    clear hb6
    go_wp2
    go_ret
    exact ⟨rfl, hb0.out.trans (hb8.mono (by omega))⟩
  case true =>
    rw [hw] at RR CF LR
    simp only [Bool.false_eq_true, if_false, if_true] at CF
    obtain ⟨wg, -, -⟩ := wgB_at hw
    have RA := Lib.hid (fun u (h : Below (w.heap.size + 2) V u) => rat5f ax ay cx cy X Y x0 u (hx.below (W u h)) (hy.below (W u h)) wg)
    generalize crF X Y x0 = v at *
    have d3 : (v == v) = true := by simp
    clear wg
    replace RR := Lib.hid RR
    replace CF := Lib.hid CF
    replace LR := Lib.hid LR
    clear hw hx hy hX hY W
    replace hb0 := Lib.hid hb0
    replace hz := Lib.hid hz
    replace hcs := Lib.hid hcs
    replace eV := Lib.hid eV
    go_enter Try.func7, Try.ntmps7
    go_wp2_with fail
    rw [← eV.out]
    obtain ⟨k0, k1, k2, k3, k4, k5, k6⟩ := hcs.out _ (Below.refl _ _)
    go_wp2_with fail
    refine (GR.out _).mono ?_
    rintro e w1 ⟨rfl, hb1⟩
    have hb1 := (Below.refl (w.heap.size + 2) V).trans (hb1.mono (Nat.le_of_eq hz.out.symm))
    obtain ⟨k0, k1, k2, k3, k4, k5, k6⟩ := hcs.out _ hb1
    go_wp2_with fail
    refine (RR.out _ hb1).mono ?_
    rintro e w2 ⟨rfl, hb2⟩
    have hb2 := hb1.trans (hb2.mono (by have := hb1.size; have := hz.out; omega))
    clear hb1
    obtain ⟨k0, k1, k2, k3, k4, k5, k6⟩ := hcs.out _ hb2
    go_wp2_with fail
    refine (CF.out _ hb2).mono ?_
    rintro e w3 ⟨rfl, hb3⟩
    have hb3 := hb2.trans (hb3.mono (by have := hb2.size; have := hz.out; omega))
    clear hb2
    obtain ⟨k0, k1, k2, k3, k4, k5, k6⟩ := hcs.out _ hb3
    go_wp2_with fail
    refine (DY.out _ hb3).mono ?_
    rintro e w4 ⟨rfl, hb4⟩
    have hb4 := hb3.trans (hb4.mono (by have := hb3.size; have := hz.out; omega))
    clear hb3
    obtain ⟨k0, k1, k2, k3, k4, k5, k6⟩ := hcs.out _ hb4
    go_wp2_with fail
    refine (RD.out _ hb4).mono ?_
    rintro e w5 ⟨rfl, hb5⟩
    have hb5 := hb4.trans (hb5.mono (by have := hb4.size; have := hz.out; omega))
    clear hb4
    obtain ⟨k0, k1, k2, k3, k4, k5, k6⟩ := hcs.out _ hb5
    go_wp2_with fail
    refine (LR.out _ hb5).mono ?_
    rintro e w6 ⟨rfl, hb6⟩
    have hb6 := hb5.trans (hb6.mono (by have := hb5.size; have := hz.out; omega))
    clear hb5
    obtain ⟨k0, k1, k2, k3, k4, k5, k6⟩ := hcs.out _ hb6
    go_wp2_with fail
    refine (RA.out _ hb6).mono ?_
    rintro e w7 ⟨rfl, hb7⟩
    have hb7 := hb6.trans (hb7.mono (by have := hb6.size; have := hz.out; omega))
    clear hb6
    obtain ⟨k0, k1, k2, k3, k4, k5, k6⟩ := hcs.out _ hb7
    go_wp2_with fail
    refine (LV.out _).mono ?_
    rintro e w8 ⟨rfl, hb8⟩
    have hb8 := hb7.trans (hb8.mono (by have := hb7.size; have := hz.out; omega))
    clear hb7
    go_wp2
    go_ret
    exact ⟨rfl, hb0.out.trans (hb8.mono (by omega))⟩
end Go.Proofs.Ytmmenpaodofahaa
