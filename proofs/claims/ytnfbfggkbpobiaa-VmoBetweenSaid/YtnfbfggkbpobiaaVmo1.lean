/- Package vmo: which books may be, their limits, their band; the document's; walked. -/
import Derived.Test.YtnfbfggkbpobiaaCurveF
import Derived.Test.YtnfbfggkbpobiaaCurve8a
import Derived.Test.YtnfbfggkbpobiaaCalib
import Derived.Test.YtnfbfggkbpobiaaClip09
import Derived.Deep.Cut
namespace Go.Proofs.Ytnfbfggkbpobiaa
open Go.ChangeShapes Go.WideShapes Go.ChangeAt Go.RowKit
set_option linter.unusedVariables false
set_option linter.unusedSimpArgs false

def rnB (n a b : Int) : Bool := decide (a ≤ n) && decide (n ≤ b)
theorem rnB_at {n a b : Int} (h : rnB n a b = true) : a ≤ n ∧ n ≤ b := by unfold rnB at h; simpa using h
theorem rnB_no {n a b : Int} (h : rnB n a b = false) : n < a ∨ (a ≤ n ∧ b < n) := by
  unfold rnB at h
  simp at h
  by_cases e : a ≤ n
  · exact .inr ⟨e, h e⟩
  · exact .inl (by omega)
def voB (X Y Z T : List Int) (ma mg tk : Int) : Bool := rgtB X Y && (rgtB Z T && (rnB ma 1 20000 && (rnB mg 0 10000 && rnB tk 1 1000)))
theorem voB_at {X Y Z T : List Int} {ma mg tk : Int} (h : voB X Y Z T ma mg tk = true) : rgtB X Y = true ∧ rgtB Z T = true ∧ (1 ≤ ma ∧ ma ≤ 20000) ∧ (0 ≤ mg ∧ mg ≤ 10000) ∧ 1 ≤ tk ∧ tk ≤ 1000 := by
  unfold voB at h
  simp only [Bool.and_eq_true] at h
  exact ⟨h.1, h.2.1, rnB_at h.2.2.1, rnB_at h.2.2.2.1, rnB_at h.2.2.2.2⟩
theorem fit_bd (a b c : Int) : -1099511627775 ≤ fitV a b c ∧ fitV a b c ≤ 1099511627775 := by unfold fitV; omega
/-- The speed at the greatest Mach number. -/
def vmC (ma p : Int) : Int := spCa (fitV p (mcR ma) 1073741824)
noncomputable def vlL (Z T : List Int) (wt : Int) : Int := crF Z T wt
noncomputable def vlM (X Y : List Int) (ma h p : Int) : Int := min (crF X Y h) (vmC ma p)
theorem vmC_bd (ma p : Int) : 0 ≤ vmC ma p ∧ vmC ma p ≤ 1000000 := by
  have := maV_bd (fitV p (mcR ma) 1073741824) 6484800
  unfold vmC spCa
  omega
theorem vl_bd {X Y Z T : List Int} (h1 : rgtB X Y = true) (h2 : rgtB Z T = true) (ma h p wt : Int) : (-549755813887 ≤ vlL Z T wt ∧ vlL Z T wt ≤ 549755813887) ∧ -549755813887 ≤ vlM X Y ma h p ∧ vlM X Y ma h p ≤ 549755813887 := by
  have a := crF_bd h2 wt
  have b := crF_bd h1 h
  have c := vmC_bd ma p
  unfold vlL vlM
  omega
theorem bok_box (w : World) (a1 a2 a3 a4 : Option Addr) (e1 e2 e3 e4 : Nat) (X Y Z T : List Int) (ma mg tk : Int) : ∃ V, V = (w.alloc (.cells #[.slice a1 X.length e1, .slice a2 Y.length e2, .slice a3 Z.length e3, .slice a4 T.length e4, .int .i64 ma, .int .i64 mg, .int .i64 tk] 82)) ∧ Below w.heap.size w V ∧ V.heap.size = w.heap.size + 1 ∧ ∀ u, Below (w.heap.size + 1) V u → u.cell? ⟨w.heap.size, 0, none⟩ = some (.slice a1 X.length e1) ∧ u.cell? ⟨w.heap.size, 1, none⟩ = some (.slice a2 Y.length e2) ∧ u.cell? ⟨w.heap.size, 2, none⟩ = some (.slice a3 Z.length e3) ∧ u.cell? ⟨w.heap.size, 3, none⟩ = some (.slice a4 T.length e4) ∧ u.cell? ⟨w.heap.size, 4, none⟩ = some (.int .i64 ma) ∧ u.cell? ⟨w.heap.size, 5, none⟩ = some (.int .i64 mg) ∧ u.cell? ⟨w.heap.size, 6, none⟩ = some (.int .i64 tk) :=
  ⟨_, rfl, (by repeat (first | exact Below.refl _ _ | assumption | apply Below.drew | apply below_drewN | (refine Below.alloc ?_ (by first | exact Nat.le_refl _ | omega | (simp <;> omega)) _) | (refine Below.setCell ?_ (by first | exact Nat.le_refl _ | omega | (simp <;> omega)) _))), by simp, fun u hu => ⟨(bc hu (by omega)).trans (by go_simp), (bc hu (by omega)).trans (by go_simp), (bc hu (by omega)).trans (by go_simp), (bc hu (by omega)).trans (by go_simp), (bc hu (by omega)).trans (by go_simp), (bc hu (by omega)).trans (by go_simp), (bc hu (by omega)).trans (by go_simp)⟩⟩
theorem bkr_box (w : World) (a1 a2 a3 a4 : Option Addr) (e1 e2 e3 e4 : Nat) (X Y Z T : List Int) (ma mg tk : Int) : ∃ V, V = (w.alloc (.cells #[.slice a1 X.length e1, .slice a2 Y.length e2, .slice a3 Z.length e3, .slice a4 T.length e4, .int .i64 ma, .int .i64 mg, .int .i64 tk] 88)) ∧ Below w.heap.size w V ∧ V.heap.size = w.heap.size + 1 ∧ ∀ u, Below (w.heap.size + 1) V u → u.cell? ⟨w.heap.size, 0, none⟩ = some (.slice a1 X.length e1) ∧ u.cell? ⟨w.heap.size, 1, none⟩ = some (.slice a2 Y.length e2) ∧ u.cell? ⟨w.heap.size, 2, none⟩ = some (.slice a3 Z.length e3) ∧ u.cell? ⟨w.heap.size, 3, none⟩ = some (.slice a4 T.length e4) ∧ u.cell? ⟨w.heap.size, 4, none⟩ = some (.int .i64 ma) ∧ u.cell? ⟨w.heap.size, 5, none⟩ = some (.int .i64 mg) ∧ u.cell? ⟨w.heap.size, 6, none⟩ = some (.int .i64 tk) :=
  ⟨_, rfl, (by repeat (first | exact Below.refl _ _ | assumption | apply Below.drew | apply below_drewN | (refine Below.alloc ?_ (by first | exact Nat.le_refl _ | omega | (simp <;> omega)) _) | (refine Below.setCell ?_ (by first | exact Nat.le_refl _ | omega | (simp <;> omega)) _))), by simp, fun u hu => ⟨(bc hu (by omega)).trans (by go_simp), (bc hu (by omega)).trans (by go_simp), (bc hu (by omega)).trans (by go_simp), (bc hu (by omega)).trans (by go_simp), (bc hu (by omega)).trans (by go_simp), (bc hu (by omega)).trans (by go_simp), (bc hu (by omega)).trans (by go_simp)⟩⟩
set_option maxRecDepth 100000 in
set_option maxHeartbeats 8000000 in
theorem vright (a1 a2 a3 a4 : Option Addr) (e1 e2 e3 e4 : Nat) (X Y Z T : List Int) (ma mg tk : Int) (w : World) (hr1 : RowIs .i64 w a1 X) (hr2 : RowIs .i64 w a2 Y) (hr3 : RowIs .i64 w a3 Z) (hr4 : RowIs .i64 w a4 T) (hl1 : X.length ≤ 300) (hl2 : Y.length ≤ 300) (hl3 : Z.length ≤ 300) (hl4 : T.length ≤ 300) :
    Calls Try.prog 77 #[.agg #[.slice a1 X.length e1, .slice a2 Y.length e2, .slice a3 Z.length e3, .slice a4 T.length e4, .int .i64 ma, .int .i64 mg, .int .i64 tk]] w fun e w' => e = .returned (.bool (voB X Y Z T ma mg tk)) ∧ Below w.heap.size w w' := by
  obtain ⟨V, eV, hb0, hz, hcs⟩ := bok_box w a1 a2 a3 a4 e1 e2 e3 e4 X Y Z T ma mg tk
  have R1 := fun u (h : Below (w.heap.size + 1) V u) => cright_any a1 a2 e1 e2 X Y u (hr1.below (hb0.trans (h.mono (by omega)))) (hr2.below (hb0.trans (h.mono (by omega)))) hl1 hl2
  have R2 := fun u (h : Below (w.heap.size + 1) V u) => cright_any a3 a4 e3 e4 Z T u (hr3.below (hb0.trans (h.mono (by omega)))) (hr4.below (hb0.trans (h.mono (by omega)))) hl3 hl4
  unfold voB
  clear hr1 hr2 hr3 hr4 hl1 hl2 hl3 hl4
  generalize rgtB X Y = r at *
  generalize rgtB Z T = q at *
  replace R1 := Lib.hid R1
  replace R2 := Lib.hid R2
  replace hb0 := Lib.hid hb0
  replace hz := Lib.hid hz
  replace hcs := Lib.hid hcs
  replace eV := Lib.hid eV
  cases r
  · rw [Bool.false_and]
    go_enter Try.func77, Try.ntmps77
    go_wp2_with fail
    rw [← eV.out]
    obtain ⟨k0, k1, k2, k3, k4, k5, k6⟩ := hcs.out _ (Below.refl _ _)
    go_wp2_with fail
    refine (R1.out _ (Below.refl _ _)).mono ?_
    rintro e w1 ⟨rfl, hb1⟩
    have hb1 := (Below.refl (w.heap.size + 1) V).trans (hb1.mono (Nat.le_of_eq hz.out.symm))
    obtain ⟨k0, k1, k2, k3, k4, k5, k6⟩ := hcs.out _ hb1
    go_wp2
    go_ret
    exact ⟨ret_bool (by first | rfl | (simp; omega)), hb0.out.trans (hb1.mono (by omega))⟩
  · rw [Bool.true_and]
    cases q
    · rw [Bool.false_and]
      go_enter Try.func77, Try.ntmps77
      go_wp2_with fail
      rw [← eV.out]
      obtain ⟨k0, k1, k2, k3, k4, k5, k6⟩ := hcs.out _ (Below.refl _ _)
      go_wp2_with fail
      refine (R1.out _ (Below.refl _ _)).mono ?_
      rintro e w1 ⟨rfl, hb1⟩
      have hb1 := (Below.refl (w.heap.size + 1) V).trans (hb1.mono (Nat.le_of_eq hz.out.symm))
      obtain ⟨k0, k1, k2, k3, k4, k5, k6⟩ := hcs.out _ hb1
      go_wp2_with fail
      refine (R2.out _ hb1).mono ?_
      rintro e w2 ⟨rfl, hb2⟩
      have hb2 := hb1.trans (hb2.mono (by have := hb1.size; have := hz.out; omega))
      clear hb1
      obtain ⟨k0, k1, k2, k3, k4, k5, k6⟩ := hcs.out _ hb2
      go_wp2
      go_ret
      exact ⟨ret_bool (by first | rfl | (simp; omega)), hb0.out.trans (hb2.mono (by omega))⟩
    · rw [Bool.true_and]
      cases h0 : rnB ma 1 20000
      · rw [Bool.false_and]
        rcases rnB_no h0 with g | ⟨g, g'⟩
        all_goals
          clear h0
          go_enter Try.func77, Try.ntmps77
          go_wp2_with fail
          rw [← eV.out]
          obtain ⟨k0, k1, k2, k3, k4, k5, k6⟩ := hcs.out _ (Below.refl _ _)
          go_wp2_with fail
          refine (R1.out _ (Below.refl _ _)).mono ?_
          rintro e w1 ⟨rfl, hb1⟩
          have hb1 := (Below.refl (w.heap.size + 1) V).trans (hb1.mono (Nat.le_of_eq hz.out.symm))
          obtain ⟨k0, k1, k2, k3, k4, k5, k6⟩ := hcs.out _ hb1
          go_wp2_with fail
          refine (R2.out _ hb1).mono ?_
          rintro e w2 ⟨rfl, hb2⟩
          have hb2 := hb1.trans (hb2.mono (by have := hb1.size; have := hz.out; omega))
          clear hb1
          obtain ⟨k0, k1, k2, k3, k4, k5, k6⟩ := hcs.out _ hb2
          go_wp2
          go_ret
          exact ⟨ret_bool (by first | rfl | (simp; omega)), hb0.out.trans (hb2.mono (by omega))⟩
      · rw [Bool.true_and]
        obtain ⟨i0, j0⟩ := rnB_at h0
        clear h0
        cases h1 : rnB mg 0 10000
        · rw [Bool.false_and]
          rcases rnB_no h1 with g | ⟨g, g'⟩
          all_goals
            clear h1
            go_enter Try.func77, Try.ntmps77
            go_wp2_with fail
            rw [← eV.out]
            obtain ⟨k0, k1, k2, k3, k4, k5, k6⟩ := hcs.out _ (Below.refl _ _)
            go_wp2_with fail
            refine (R1.out _ (Below.refl _ _)).mono ?_
            rintro e w1 ⟨rfl, hb1⟩
            have hb1 := (Below.refl (w.heap.size + 1) V).trans (hb1.mono (Nat.le_of_eq hz.out.symm))
            obtain ⟨k0, k1, k2, k3, k4, k5, k6⟩ := hcs.out _ hb1
            go_wp2_with fail
            refine (R2.out _ hb1).mono ?_
            rintro e w2 ⟨rfl, hb2⟩
            have hb2 := hb1.trans (hb2.mono (by have := hb1.size; have := hz.out; omega))
            clear hb1
            obtain ⟨k0, k1, k2, k3, k4, k5, k6⟩ := hcs.out _ hb2
            go_wp2
            go_ret
            exact ⟨ret_bool (by first | rfl | (simp; omega)), hb0.out.trans (hb2.mono (by omega))⟩
        · rw [Bool.true_and]
          obtain ⟨i1, j1⟩ := rnB_at h1
          clear h1
          cases h2 : rnB tk 1 1000
          · rcases rnB_no h2 with g | ⟨g, g'⟩
            all_goals
              clear h2
              go_enter Try.func77, Try.ntmps77
              go_wp2_with fail
              rw [← eV.out]
              obtain ⟨k0, k1, k2, k3, k4, k5, k6⟩ := hcs.out _ (Below.refl _ _)
              go_wp2_with fail
              refine (R1.out _ (Below.refl _ _)).mono ?_
              rintro e w1 ⟨rfl, hb1⟩
              have hb1 := (Below.refl (w.heap.size + 1) V).trans (hb1.mono (Nat.le_of_eq hz.out.symm))
              obtain ⟨k0, k1, k2, k3, k4, k5, k6⟩ := hcs.out _ hb1
              go_wp2_with fail
              refine (R2.out _ hb1).mono ?_
              rintro e w2 ⟨rfl, hb2⟩
              have hb2 := hb1.trans (hb2.mono (by have := hb1.size; have := hz.out; omega))
              clear hb1
              obtain ⟨k0, k1, k2, k3, k4, k5, k6⟩ := hcs.out _ hb2
              go_wp2
              go_ret
              exact ⟨ret_bool (by first | rfl | (simp; omega)), hb0.out.trans (hb2.mono (by omega))⟩
          · obtain ⟨i2, j2⟩ := rnB_at h2
            clear h2
            go_enter Try.func77, Try.ntmps77
            go_wp2_with fail
            rw [← eV.out]
            obtain ⟨k0, k1, k2, k3, k4, k5, k6⟩ := hcs.out _ (Below.refl _ _)
            go_wp2_with fail
            refine (R1.out _ (Below.refl _ _)).mono ?_
            rintro e w1 ⟨rfl, hb1⟩
            have hb1 := (Below.refl (w.heap.size + 1) V).trans (hb1.mono (Nat.le_of_eq hz.out.symm))
            obtain ⟨k0, k1, k2, k3, k4, k5, k6⟩ := hcs.out _ hb1
            go_wp2_with fail
            refine (R2.out _ hb1).mono ?_
            rintro e w2 ⟨rfl, hb2⟩
            have hb2 := hb1.trans (hb2.mono (by have := hb1.size; have := hz.out; omega))
            clear hb1
            obtain ⟨k0, k1, k2, k3, k4, k5, k6⟩ := hcs.out _ hb2
            go_wp2
            go_ret
            exact ⟨ret_bool (by first | rfl | (simp; omega)), hb0.out.trans (hb2.mono (by omega))⟩
set_option maxRecDepth 100000 in
set_option maxHeartbeats 8000000 in
theorem vlimits (a1 a2 a3 a4 : Option Addr) (e1 e2 e3 e4 : Nat) (X Y Z T : List Int) (ma mg tk : Int) (h p wt : Int) (w : World) (hr1 : RowIs .i64 w a1 X) (hr2 : RowIs .i64 w a2 Y) (hr3 : RowIs .i64 w a3 Z) (hr4 : RowIs .i64 w a4 T) (hl1 : X.length ≤ 300) (hl2 : Y.length ≤ 300) (hl3 : Z.length ≤ 300) (hl4 : T.length ≤ 300) (hp1 : -9223372036854775808 ≤ p) (hp2 : p ≤ 9223372036854775807) :
    Calls Try.prog 53 #[.agg #[.slice a1 X.length e1, .slice a2 Y.length e2, .slice a3 Z.length e3, .slice a4 T.length e4, .int .i64 ma, .int .i64 mg, .int .i64 tk], .int .i64 h, .int .i64 p, .int .i64 wt] w fun e w' => e = .returned (.tuple #[.int .i64 (if voB X Y Z T ma mg tk then vlL Z T wt else 0), .int .i64 (if voB X Y Z T ma mg tk then vlM X Y ma h p else 0), .bool (voB X Y Z T ma mg tk)]) ∧ Below w.heap.size w w' := by
  obtain ⟨hh, ehh⟩ : ∃ x, x = h := ⟨_, rfl⟩
  rw [← ehh]
  clear ehh h
  obtain ⟨V, eV, hb0, hz, hcs⟩ := bok_box w a1 a2 a3 a4 e1 e2 e3 e4 X Y Z T ma mg tk
  have RT := fun u (h : Below (w.heap.size + 1) V u) => vright a1 a2 a3 a4 e1 e2 e3 e4 X Y Z T ma mg tk u (hr1.below (hb0.trans (h.mono (by omega)))) (hr2.below (hb0.trans (h.mono (by omega)))) (hr3.below (hb0.trans (h.mono (by omega)))) (hr4.below (hb0.trans (h.mono (by omega)))) hl1 hl2 hl3 hl4
  cases hw : voB X Y Z T ma mg tk
  · rw [hw] at RT
    simp only [Bool.false_eq_true, if_false]
    replace RT := Lib.hid RT
    clear hr1 hr2 hr3 hr4 hl1 hl2 hl3 hl4 hw
    replace hb0 := Lib.hid hb0
    replace hz := Lib.hid hz
    replace hcs := Lib.hid hcs
    replace eV := Lib.hid eV
    go_enter Try.func53, Try.ntmps53
    go_wp2_with fail
    rw [← eV.out]
    obtain ⟨k0, k1, k2, k3, k4, k5, k6⟩ := hcs.out _ (Below.refl _ _)
    go_wp2_with fail
    refine (RT.out _ (Below.refl _ _)).mono ?_
    rintro e w1 ⟨rfl, hb1⟩
    have hb1 := (Below.refl (w.heap.size + 1) V).trans (hb1.mono (Nat.le_of_eq hz.out.symm))
    obtain ⟨k0, k1, k2, k3, k4, k5, k6⟩ := hcs.out _ hb1
    go_wp2
    go_ret3
    exact ⟨rfl, hb0.out.trans (hb1.mono (by omega))⟩
  · rw [hw] at RT
    simp only [if_true]
    obtain ⟨g1, g2, ⟨m1, m2⟩, -, -⟩ := voB_at hw
    have T1 := fun u (h : Below (w.heap.size + 1) V u) => cat5f a1 a2 e1 e2 X Y hh u (hr1.below (hb0.trans (h.mono (by omega)))) (hr2.below (hb0.trans (h.mono (by omega)))) hl1 hl2
    have T2 := fun u (h : Below (w.heap.size + 1) V u) => cat5f a3 a4 e3 e4 Z T wt u (hr3.below (hb0.trans (h.mono (by omega)))) (hr4.below (hb0.trans (h.mono (by omega)))) hl3 hl4
    rw [g1] at T1
    rw [g2] at T2
    simp only [if_true] at T1 T2
    have MI := Lib.hid (fun u => mimp_any ma p u hp1 hp2)
    have fb := fit_bd p (mcR ma) 1073741824
    have SC := Lib.hid (fun u => scal_any (fitV p (mcR ma) 1073741824) u (by omega) (by omega))
    unfold vlL vlM vmC
    generalize spCa (fitV p (mcR ma) 1073741824) = C at *
    generalize fitV p (mcR ma) 1073741824 = F at *
    generalize crF X Y hh = c at *
    generalize crF Z T wt = d at *
    replace RT := Lib.hid RT
    replace T1 := Lib.hid T1
    replace T2 := Lib.hid T2
    clear hr1 hr2 hr3 hr4 hl1 hl2 hl3 hl4 hw g1 g2 m1 m2 fb
    replace hb0 := Lib.hid hb0
    replace hz := Lib.hid hz
    replace hcs := Lib.hid hcs
    replace eV := Lib.hid eV
    go_enter Try.func53, Try.ntmps53
    go_wp2_with fail
    rw [← eV.out]
    obtain ⟨k0, k1, k2, k3, k4, k5, k6⟩ := hcs.out _ (Below.refl _ _)
    go_wp2_with fail
    refine (RT.out _ (Below.refl _ _)).mono ?_
    rintro e w1 ⟨rfl, hb1⟩
    have hb1 := (Below.refl (w.heap.size + 1) V).trans (hb1.mono (Nat.le_of_eq hz.out.symm))
    obtain ⟨k0, k1, k2, k3, k4, k5, k6⟩ := hcs.out _ hb1
    go_wp2_with fail
    refine (T2.out _ hb1).mono ?_
    rintro e w2 ⟨rfl, hb2⟩
    have hb2 := hb1.trans (hb2.mono (by have := hb1.size; have := hz.out; omega))
    clear hb1
    obtain ⟨k0, k1, k2, k3, k4, k5, k6⟩ := hcs.out _ hb2
    go_wp2_with fail
    refine (T1.out _ hb2).mono ?_
    rintro e w3 ⟨rfl, hb3⟩
    have hb3 := hb2.trans (hb3.mono (by have := hb2.size; have := hz.out; omega))
    clear hb2
    obtain ⟨k0, k1, k2, k3, k4, k5, k6⟩ := hcs.out _ hb3
    go_wp2_with fail
    refine (MI.out _).mono ?_
    rintro e w4 ⟨rfl, hb4⟩
    have hb4 := hb3.trans (hb4.mono (by have := hb3.size; have := hz.out; omega))
    clear hb3
    obtain ⟨k0, k1, k2, k3, k4, k5, k6⟩ := hcs.out _ hb4
    go_wp2_with fail
    refine (SC.out _).mono ?_
    rintro e w5 ⟨rfl, hb5⟩
    have hb5 := hb4.trans (hb5.mono (by have := hb4.size; have := hz.out; omega))
    clear hb4
    go_wp2
    go_ret3
    exact ⟨rfl, hb0.out.trans (hb5.mono (by omega))⟩
set_option maxRecDepth 100000 in
set_option maxHeartbeats 8000000 in
theorem rlimits43 (a1 a2 a3 a4 : Option Addr) (e1 e2 e3 e4 : Nat) (X Y Z T : List Int) (ma mg tk : Int) (h p wt : Int) (w : World) (hr1 : RowIs .i64 w a1 X) (hr2 : RowIs .i64 w a2 Y) (hr3 : RowIs .i64 w a3 Z) (hr4 : RowIs .i64 w a4 T) (hl1 : X.length ≤ 300) (hl2 : Y.length ≤ 300) (hl3 : Z.length ≤ 300) (hl4 : T.length ≤ 300) (hp1 : -9223372036854775808 ≤ p) (hp2 : p ≤ 9223372036854775807) (hw : voB X Y Z T ma mg tk = true) :
    Calls Try.prog 82 #[.agg #[.slice a1 X.length e1, .slice a2 Y.length e2, .slice a3 Z.length e3, .slice a4 T.length e4, .int .i64 ma, .int .i64 mg, .int .i64 tk], .int .i64 h, .int .i64 p, .int .i64 wt] w fun e w' => e = .returned (.tuple #[.int .i64 (vlL Z T wt), .int .i64 (vlM X Y ma h p)]) ∧ Below w.heap.size w w' := by
  obtain ⟨hh, ehh⟩ : ∃ x, x = h := ⟨_, rfl⟩
  rw [← ehh]
  clear ehh h
  obtain ⟨V, eV, hb0, hz, hcs⟩ := bkr_box w a1 a2 a3 a4 e1 e2 e3 e4 X Y Z T ma mg tk
  obtain ⟨g1, g2, ⟨m1, m2⟩, -, -⟩ := voB_at hw
  have T1 := Lib.hid (fun u (h : Below (w.heap.size + 1) V u) => rat5f a1 a2 e1 e2 X Y hh u (hr1.below (hb0.trans (h.mono (by omega)))) (hr2.below (hb0.trans (h.mono (by omega)))) g1)
  have T2 := Lib.hid (fun u (h : Below (w.heap.size + 1) V u) => rat5f a3 a4 e3 e4 Z T wt u (hr3.below (hb0.trans (h.mono (by omega)))) (hr4.below (hb0.trans (h.mono (by omega)))) g2)
  have MI := Lib.hid (fun u => rimp8_any ma p u hp1 hp2)
  have fb := fit_bd p (mcR ma) 1073741824
  have SC := Lib.hid (fun u => rcal9_any (fitV p (mcR ma) 1073741824) u (by omega) (by omega))
  unfold vlL vlM vmC
  generalize spCa (fitV p (mcR ma) 1073741824) = C at *
  generalize fitV p (mcR ma) 1073741824 = F at *
  generalize crF X Y hh = c at *
  generalize crF Z T wt = d at *
  clear hr1 hr2 hr3 hr4 hl1 hl2 hl3 hl4 hw g1 g2 m1 m2 fb
  rcases (show C < c ∨ c ≤ C by omega) with hc | hc
  · rw [show min c C = C by omega]
    replace hb0 := Lib.hid hb0
    replace hz := Lib.hid hz
    replace hcs := Lib.hid hcs
    replace eV := Lib.hid eV
    go_enter Try.func82, Try.ntmps82
    go_wp2_with fail
    rw [← eV.out]
    obtain ⟨k0, k1, k2, k3, k4, k5, k6⟩ := hcs.out _ (Below.refl _ _)
    go_wp2_with fail
    refine (T1.out _ (Below.refl _ _)).mono ?_
    rintro e w1 ⟨rfl, hb1⟩
    have hb1 := (Below.refl (w.heap.size + 1) V).trans (hb1.mono (Nat.le_of_eq hz.out.symm))
    obtain ⟨k0, k1, k2, k3, k4, k5, k6⟩ := hcs.out _ hb1
    go_wp2_with fail
    refine (MI.out _).mono ?_
    rintro e w2 ⟨rfl, hb2⟩
    have hb2 := hb1.trans (hb2.mono (by have := hb1.size; have := hz.out; omega))
    clear hb1
    obtain ⟨k0, k1, k2, k3, k4, k5, k6⟩ := hcs.out _ hb2
    go_wp2_with fail
    refine (SC.out _).mono ?_
    rintro e w3 ⟨rfl, hb3⟩
    have hb3 := hb2.trans (hb3.mono (by have := hb2.size; have := hz.out; omega))
    clear hb2
    obtain ⟨k0, k1, k2, k3, k4, k5, k6⟩ := hcs.out _ hb3
    go_wp2_with fail
    refine (T2.out _ hb3).mono ?_
    rintro e w4 ⟨rfl, hb4⟩
    have hb4 := hb3.trans (hb4.mono (by have := hb3.size; have := hz.out; omega))
    clear hb3
    obtain ⟨k0, k1, k2, k3, k4, k5, k6⟩ := hcs.out _ hb4
    go_wp2
    go_ret2
    exact ⟨rfl, hb0.out.trans (hb4.mono (by omega))⟩
  · rw [show min c C = c by omega]
    replace hb0 := Lib.hid hb0
    replace hz := Lib.hid hz
    replace hcs := Lib.hid hcs
    replace eV := Lib.hid eV
    go_enter Try.func82, Try.ntmps82
    go_wp2_with fail
    rw [← eV.out]
    obtain ⟨k0, k1, k2, k3, k4, k5, k6⟩ := hcs.out _ (Below.refl _ _)
    go_wp2_with fail
    refine (T1.out _ (Below.refl _ _)).mono ?_
    rintro e w1 ⟨rfl, hb1⟩
    have hb1 := (Below.refl (w.heap.size + 1) V).trans (hb1.mono (Nat.le_of_eq hz.out.symm))
    obtain ⟨k0, k1, k2, k3, k4, k5, k6⟩ := hcs.out _ hb1
    go_wp2_with fail
    refine (MI.out _).mono ?_
    rintro e w2 ⟨rfl, hb2⟩
    have hb2 := hb1.trans (hb2.mono (by have := hb1.size; have := hz.out; omega))
    clear hb1
    obtain ⟨k0, k1, k2, k3, k4, k5, k6⟩ := hcs.out _ hb2
    go_wp2_with fail
    refine (SC.out _).mono ?_
    rintro e w3 ⟨rfl, hb3⟩
    have hb3 := hb2.trans (hb3.mono (by have := hb2.size; have := hz.out; omega))
    clear hb2
    obtain ⟨k0, k1, k2, k3, k4, k5, k6⟩ := hcs.out _ hb3
    go_wp2_with fail
    refine (T2.out _ hb3).mono ?_
    rintro e w4 ⟨rfl, hb4⟩
    have hb4 := hb3.trans (hb4.mono (by have := hb3.size; have := hz.out; omega))
    clear hb3
    obtain ⟨k0, k1, k2, k3, k4, k5, k6⟩ := hcs.out _ hb4
    go_wp2
    go_ret2
    exact ⟨rfl, hb0.out.trans (hb4.mono (by omega))⟩
end Go.Proofs.Ytnfbfggkbpobiaa
