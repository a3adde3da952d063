/- A point at an angle and a length; the angle of a point; walked. -/
import Derived.Test.YtiibgblpbjdpaaaTurn6
import Derived.Deep.Cut
namespace Go.Proofs.Ytiibgblpbjdpaaa
open Go.ChangeShapes Go.WideShapes Go.ChangeAt Go.RowKit
set_option linter.unusedVariables false
set_option linter.unusedSimpArgs false
set_option maxRecDepth 100000 in
set_option maxHeartbeats 8000000 in
theorem tpoint (b a : Nat) (n : Int) (X : List Value) (w : World) (h : TurR b X w) (ha : a < 65536) : Calls Try.prog 20 #[.pointer (some ⟨b, 0, none⟩), .int .u16 (a : Int), .int .i64 n] w fun e w' => e = .returned (.tuple #[.int .i64 (trV (atP a).1 (clp n) 1073741824), .int .i64 (trV (atP a).2 (clp n) 1073741824)]) ∧ TurO b 1 0 tG X w' ∧ Beside b w w' := by
  have AT := Lib.hid (tat b a X w h ha)
  have CL := Lib.hid (fun u => clip_any n u)
  have bd := (atP_le a).one
  have bc := clp_bd n
  have T1 := Lib.hid (fun u => trunc_any (atP a).1 (clp n) 1073741824 u (by omega) (by omega) (by omega) (by omega) (by omega) (by omega))
  have T2 := Lib.hid (fun u => trunc_any (atP a).2 (clp n) 1073741824 u (by omega) (by omega) (by omega) (by omega) (by omega) (by omega))
  generalize trV (atP a).1 (clp n) 1073741824 = R1 at *
  generalize trV (atP a).2 (clp n) 1073741824 = R2 at *
  generalize trB (atP a).1 (clp n) 1073741824 = B1 at *
  generalize trB (atP a).2 (clp n) 1073741824 = B2 at *
  generalize (atP a).1 = x at *
  generalize (atP a).2 = y at *
  generalize clp n = c at *
  clear bd bc h
  go_enter Try.func20, Try.ntmps20
  go_wp2_with fail
  refine AT.out.mono ?_
  rintro e w1 ⟨rfl, h1, bs1⟩
  replace h1 := Lib.hid h1
  replace bs1 := Lib.hid bs1
  go_wp2_with fail
  refine (CL.out _).mono ?_
  rintro e w2 ⟨rfl, rfl⟩
  go_wp2_with fail
  refine (T1.out _).mono ?_
  rintro e w3 ⟨rfl, hb3⟩
  replace h1 := Lib.hid (h1.out.bel hb3)
  replace bs1 := Lib.hid (bs1.out.trans (.of_below hb3))
  clear hb3
  go_wp2_with fail
  refine (T2.out _).mono ?_
  rintro e w4 ⟨rfl, hb4⟩
  replace h1 := Lib.hid (h1.out.bel hb4)
  replace bs1 := Lib.hid (bs1.out.trans (.of_below hb4))
  clear hb4
  go_wp2
  go_ret2
  exact ⟨rfl, h1.out, bs1.out⟩
set_option maxRecDepth 100000 in
set_option maxHeartbeats 8000000 in
theorem tang_nil (x y : Int) (w : World) : Calls Try.prog 16 #[.pointer none, .int .i64 x, .int .i64 y] w fun e w' => e = .returned (.int .u16 0) ∧ Below w.heap.size w w' := by
  have CL := Lib.hid (fun n u => tclip_any n u)
  go_enter Try.func16, Try.ntmps16
  go_wp2_with fail
  refine (CL.out _ _).mono ?_
  rintro e w1 ⟨rfl, rfl⟩
  go_wp2_with fail
  refine (CL.out _ _).mono ?_
  rintro e w2 ⟨rfl, rfl⟩
  go_wp2
  go_ret
  exact ⟨rfl, (by repeat (first | exact Below.refl _ _ | assumption | apply Below.drew | apply below_drewN | (refine Below.alloc ?_ (by first | exact Nat.le_refl _ | omega | (simp <;> omega)) _) | (refine Below.setCell ?_ (by first | exact Nat.le_refl _ | omega | (simp <;> omega)) _)))⟩
set_option maxRecDepth 100000 in
set_option maxHeartbeats 8000000 in
theorem tang_zero (b : Nat) (x y : Int) (X : List Value) (w : World) (h : TurR b X w) (hx : tcl x = 0) (hy : tcl y = 0) : Calls Try.prog 16 #[.pointer (some ⟨b, 0, none⟩), .int .i64 x, .int .i64 y] w fun e w' => e = .returned (.int .u16 0) ∧ Below w.heap.size w w' := by
  have CX := Lib.hid (fun u => tclip_any x u)
  have CY := Lib.hid (fun u => tclip_any y u)
  rw [hx] at CX
  rw [hy] at CY
  go_enter Try.func16, Try.ntmps16
  go_wp2_with fail
  refine (CX.out _).mono ?_
  rintro e w1 ⟨rfl, rfl⟩
  go_wp2_with fail
  refine (CY.out _).mono ?_
  rintro e w2 ⟨rfl, rfl⟩
  go_wp2
  go_ret
  exact ⟨rfl, (by repeat (first | exact Below.refl _ _ | assumption | apply Below.drew | apply below_drewN | (refine Below.alloc ?_ (by first | exact Nat.le_refl _ | omega | (simp <;> omega)) _) | (refine Below.setCell ?_ (by first | exact Nat.le_refl _ | omega | (simp <;> omega)) _)))⟩
set_option maxRecDepth 100000 in
set_option maxHeartbeats 8000000 in
theorem tang00 (b : Nat) (x y : Int) (X : List Value) (w : World) (h : TurR b X w) (hnz : ¬ (tcl x = 0 ∧ tcl y = 0)) (hy : ¬ tcl y < 0) (hx : ¬ tcl x < 0) : Calls Try.prog 16 #[.pointer (some ⟨b, 0, none⟩), .int .i64 x, .int .i64 y] w fun e w' => e = .returned (.int .u16 (anV x y : Int)) ∧ TurO b 1 0 tG X w' ∧ Beside b w w' := by
  have CX := Lib.hid (fun u => tclip_any x u)
  have CY := Lib.hid (fun u => tclip_any y u)
  have bx := tcl_bd x
  have by1 := tcl_bd y
  have PR := Lib.hid (fun (u : World) (k : Below w.heap.size w u) => tprep b X u (h.bel k))
  have hlt := h.lt
  have eV0 : anV x y = anC (tcl x, tcl y) := by unfold anV; exact if_neg hnz
  generalize tcl x = x0 at *
  generalize tcl y = y0 at *
  have e1 : anS (x0, y0) = ((x0, y0), 0) := by unfold anS; exact if_neg hy
  have e2 : anC (x0, y0) = anF 14 (x0, y0) 0 := by
    unfold anC anQ
    rw [e1, if_neg (by show ¬ x0 < 0; omega)]
  rw [eV0, e2]
  clear eV0 e1 e2
  obtain ⟨R, hR⟩ : ∃ R, anF 14 (x0, y0) 0 = R := ⟨_, rfl⟩
  have eR := Lib.hid hR
  replace hR := Lib.hid hR
  rw [eR.out]
  have nA := Lib.hid (show Nm x0 y0 2305843009213693952 from by
    have a1 : x0 * x0 ≤ 1152921504606846976 := by have := tsq_le (a := x0) (b := if 0 ≤ x0 then 1073741824 else -1073741824) ⟨fun q => by split at q <;> split <;> omega, fun q => by split at q <;> split <;> omega⟩; split at this <;> omega
    have a2 : y0 * y0 ≤ 1152921504606846976 := by have := tsq_le (a := y0) (b := if 0 ≤ y0 then 1073741824 else -1073741824) ⟨fun q => by split at q <;> split <;> omega, fun q => by split at q <;> split <;> omega⟩; split at this <;> omega
    unfold Nm
    try simp only [Int.neg_mul_neg]
    omega)
  have dx : decide (x0 < 0) = false := by simp; omega
  have dy : decide (y0 < 0) = false := by simp; omega
  have gx : ¬ x0 < 0 := by omega
  have NZ : (x0 == 0 && y0 == 0) = false := by simp; omega
  have NZ2 : (x0 == 0) = true → (y0 == 0) = false := by simp; omega
  clear bx by1 h
  go_enter Try.func16, Try.ntmps16
  go_wp2_with fail
  refine (CX.out _).mono ?_
  rintro e w1 ⟨rfl, rfl⟩
  go_wp2_with fail
  refine (CY.out _).mono ?_
  rintro e w2 ⟨rfl, rfl⟩
  go_upto_region 2 with (fail)
  obtain ⟨V, eV, hbV, zV, pV⟩ : ∃ V, V = w.alloc (.cells #[.int .i64 x0, .int .i64 y0] 88) ∧ Below w.heap.size w V ∧ V.heap.size = w.heap.size + 1 ∧ Held w.heap.size [.int .i64 x0, .int .i64 y0] V := ⟨_, rfl, (by repeat (first | exact Below.refl _ _ | assumption | apply Below.drew | apply below_drewN | (refine Below.alloc ?_ (by first | exact Nat.le_refl _ | omega | (simp <;> omega)) _) | (refine Below.setCell ?_ (by first | exact Nat.le_refl _ | omega | (simp <;> omega)) _))), by simp, Held.new w [.int .i64 x0, .int .i64 y0] _⟩
  rw [← eV]
  obtain ⟨k0, k2⟩ := pV.one 0 rfl
  obtain ⟨k1, k3⟩ := pV.one 1 rfl
  replace pV := Lib.hid pV
  replace hbV := Lib.hid hbV
  replace zV := Lib.hid zV
  clear eV
  go_wp2_with fail
  all_goals (first | (rename x0 = 0 => q1; rename ¬ y0 = 0 => q2; clear q1 q2) | (rename x0 = 0 => q1; clear q1) | (rename ¬ x0 = 0 => q1; clear q1) | skip)
  all_goals
    refine (PR.out _ hbV.out).mono ?_
    rintro e w1 ⟨rfl, h1, bs1⟩
    have HV : AtW b w.heap.size x0 y0 X w w1 := ⟨h1, pV.out.beside bs1 (by omega), (Beside.of_below hbV.out).trans bs1, by omega, Nat.le_refl _⟩
    clear h1 bs1 pV hbV zV k0 k1 k2 k3 PR
    clear V
    generalize w.heap.size = q at *
    obtain ⟨k0, k1, k2, k3⟩ := HV.c
    replace HV := Lib.hid HV
    go_upto_region 9 with (fail)
    have HV := HV.out
    replace HV := Lib.hid HV
    go_upto_region 12 with (fail)
    clear k0 k1 k2 k3
    clear NZ NZ2 gx dx dy CX CY hnz hy hx
    go_wp2_with fail
    go_loopw [8, 9] (fun an i v => ∃ (k : Nat) (x y : Int) (A : Nat), k ≤ 14 ∧ i = .int .i64 ((k : Int) - 1) ∧ an = .int .u16 (A : Int) ∧ A + 2 ^ k ≤ 65536 ∧ Hid (anF k (x, y) A = R) ∧ Hid (Nm x y 2305843009213693952) ∧ Hid (AtW b q x y X w v)) (fun _ i _ => (intOf i + 1).toNat)
    case atStart => exact ⟨14, _, _, 0, by omega, rfl, rfl, by decide, hR, nA, HV⟩
    case round =>
      clear HV hR nA
      obtain ⟨k, x, y, A, hk, rfl, rfl, hA, hR, nA, HV⟩ := hrel
      generalize wr = v0 at *
      cases k with
      | zero =>
        have hR2 : A = R := hR.out
        have eX := Lib.hid (eR.out.trans hR2.symm)
        clear hR
        go_wp2
        go_ret
        exact ⟨by rw [← hR2]; rfl, HV.out.t, HV.out.bs⟩
      | succ j =>
        rw [show ((j + 1 : Nat) : Int) - 1 = (j : Int) by omega]
        have hj : j < 14 := by omega
        have BAj := Lib.hid (fun u (m : AtW b q x y X w u) => tback b j x y X u m.t hj nA.out)
        have nf := Lib.hid (b_le hj nA.out)
        have bb := nf.out.bd
        have hp : (2 : Int) ^ j ≤ 8192 ∧ 1 ≤ (2 : Int) ^ j := by
          have := Nat.pow_le_pow_right (n := 2) (by decide) (show j ≤ 13 by omega)
          have := Nat.two_pow_pos j
          rw [show ((2 : Int) ^ j) = ((2 ^ j : Nat) : Int) by simp]
          generalize 2 ^ j = P at *
          omega
        have i0 : 0 ≤ (j : Int) := by omega
        have i1 : ¬ (j : Int) < 0 := by omega
        have i7 : IntKind.i64.wrap ((j : Int) - 1) = (j : Int) - 1 := by rw [IntKind.wrap_i64]; omega
        have hm : min j 16 = j := by omega
        obtain ⟨P, hP⟩ : ∃ P : Nat, P = 2 ^ j := ⟨_, rfl⟩
        have hP2 : (2 : Int) ^ j = (P : Int) := by rw [hP]; simp
        rw [hP2] at hp
        rw [Nat.pow_succ, ← hP] at hA
        have e3 : IntKind.u16.wrap ((2 : Int) ^ j) = (P : Int) := by rw [hP2, IntKind.wrap_u16]; omega
        have e4 : IntKind.u16.wrap ((A : Int) + (P : Int)) = (A : Int) + (P : Int) := by rw [IntKind.wrap_u16]; omega
        have hR2 : (if 0 ≤ bY j x y then anF j (bX j x y, bY j x y) (A + 2 ^ j) else anF j (x, y) A) = R := hR.out
        rw [← hP] at hR2
        clear hR
        generalize bX j x y = x2 at *
        generalize bY j x y = y2 at *
        replace hP := Lib.hid hP
        replace hP2 := Lib.hid hP2
        obtain ⟨k0, k1, k2, k3⟩ := HV.out.c
        go_wp2_with fail
        refine (BAj.out _ HV.out).mono ?_
        rintro e w2 ⟨rfl, hb2⟩
        replace HV := HV.out.bel hb2
        obtain ⟨k0, k1, k2, k3⟩ := HV.c
        clear hb2
        obtain ⟨V3, eV3, hb3, p3⟩ : ∃ V3, V3 = w2.alloc (.cells #[.int .i64 x2, .int .i64 y2] 88) ∧ Below w2.heap.size w2 V3 ∧ Held w2.heap.size [.int .i64 x2, .int .i64 y2] V3 := ⟨_, rfl, (by repeat (first | exact Below.refl _ _ | assumption | apply Below.drew | apply below_drewN | (refine Below.alloc ?_ (by first | exact Nat.le_refl _ | omega | (simp <;> omega)) _) | (refine Below.setCell ?_ (by first | exact Nat.le_refl _ | omega | (simp <;> omega)) _))), Held.new w2 [.int .i64 x2, .int .i64 y2] _⟩
        replace HV := HV.bel hb3
        go_upto_region 16 with (fail)
        rw [← eV3]
        clear eV3 hb3 k0 k1 k2 k3
        obtain ⟨k0, k1, k2, k3⟩ := HV.c
        obtain ⟨c0, _⟩ := p3.one 0 rfl
        obtain ⟨c1, _⟩ := p3.one 1 rfl
        clear p3
        generalize w2.heap.size = q3 at *
        clear w2
        by_cases hb : 0 ≤ y2
        · rw [if_pos hb] at hR2
          replace hR2 := Lib.hid hR2
          have HV := Lib.hid (HV.set x2 y2)
          clear bb
          go_wp2
          go_roundw
          case rel => exact ⟨j, x2, y2, A + P, by omega, rfl, by simp, by have := hP.out; omega, hR2, nf, HV⟩
          case measure => simp [intOf] <;> omega
        · rw [if_neg hb] at hR2
          replace hR2 := Lib.hid hR2
          have HV := Lib.hid HV
          have hb2 : y2 < 0 := by omega
          clear bb
          go_wp2
          go_roundw
          case rel => exact ⟨j, x, y, A, by omega, rfl, rfl, by have := hP.out; omega, hR2, nA, HV⟩
          case measure => simp [intOf] <;> omega
set_option maxRecDepth 100000 in
set_option maxHeartbeats 8000000 in
theorem tang01 (b : Nat) (x y : Int) (X : List Value) (w : World) (h : TurR b X w) (hnz : ¬ (tcl x = 0 ∧ tcl y = 0)) (hy : ¬ tcl y < 0) (hx : tcl x < 0) : Calls Try.prog 16 #[.pointer (some ⟨b, 0, none⟩), .int .i64 x, .int .i64 y] w fun e w' => e = .returned (.int .u16 (anV x y : Int)) ∧ TurO b 1 0 tG X w' ∧ Beside b w w' := by
  have CX := Lib.hid (fun u => tclip_any x u)
  have CY := Lib.hid (fun u => tclip_any y u)
  have bx := tcl_bd x
  have by1 := tcl_bd y
  have PR := Lib.hid (fun (u : World) (k : Below w.heap.size w u) => tprep b X u (h.bel k))
  have hlt := h.lt
  have eV0 : anV x y = anC (tcl x, tcl y) := by unfold anV; exact if_neg hnz
  generalize tcl x = x0 at *
  generalize tcl y = y0 at *
  have e1 : anS (x0, y0) = ((x0, y0), 0) := by unfold anS; exact if_neg hy
  have e2 : anC (x0, y0) = anF 14 (y0, (-x0)) 16384 := by
    unfold anC anQ
    rw [e1, if_pos (by show x0 < 0; omega)]
  rw [eV0, e2]
  clear eV0 e1 e2
  obtain ⟨R, hR⟩ : ∃ R, anF 14 (y0, (-x0)) 16384 = R := ⟨_, rfl⟩
  have eR := Lib.hid hR
  replace hR := Lib.hid hR
  rw [eR.out]
  have nA := Lib.hid (show Nm y0 (-x0) 2305843009213693952 from by
    have a1 : x0 * x0 ≤ 1152921504606846976 := by have := tsq_le (a := x0) (b := if 0 ≤ x0 then 1073741824 else -1073741824) ⟨fun q => by split at q <;> split <;> omega, fun q => by split at q <;> split <;> omega⟩; split at this <;> omega
    have a2 : y0 * y0 ≤ 1152921504606846976 := by have := tsq_le (a := y0) (b := if 0 ≤ y0 then 1073741824 else -1073741824) ⟨fun q => by split at q <;> split <;> omega, fun q => by split at q <;> split <;> omega⟩; split at this <;> omega
    unfold Nm
    try simp only [Int.neg_mul_neg]
    omega)
  obtain ⟨z, ez⟩ : ∃ z, z = -x0 := ⟨_, rfl⟩
  rw [← ez] at hR nA
  have wz : IntKind.i64.wrap (-x0) = z := by rw [ez, IntKind.wrap_i64]; omega
  have dx : decide (x0 < 0) = true := by simp; omega
  have dy : decide (y0 < 0) = false := by simp; omega
  have gx : x0 < 0 := by omega
  have NZ : (x0 == 0 && y0 == 0) = false := by simp; omega
  have NZ2 : (x0 == 0) = true → (y0 == 0) = false := by simp; omega
  clear bx by1 h
  replace ez := Lib.hid ez
  go_enter Try.func16, Try.ntmps16
  go_wp2_with fail
  refine (CX.out _).mono ?_
  rintro e w1 ⟨rfl, rfl⟩
  go_wp2_with fail
  refine (CY.out _).mono ?_
  rintro e w2 ⟨rfl, rfl⟩
  go_upto_region 2 with (fail)
  obtain ⟨V, eV, hbV, zV, pV⟩ : ∃ V, V = w.alloc (.cells #[.int .i64 x0, .int .i64 y0] 88) ∧ Below w.heap.size w V ∧ V.heap.size = w.heap.size + 1 ∧ Held w.heap.size [.int .i64 x0, .int .i64 y0] V := ⟨_, rfl, (by repeat (first | exact Below.refl _ _ | assumption | apply Below.drew | apply below_drewN | (refine Below.alloc ?_ (by first | exact Nat.le_refl _ | omega | (simp <;> omega)) _) | (refine Below.setCell ?_ (by first | exact Nat.le_refl _ | omega | (simp <;> omega)) _))), by simp, Held.new w [.int .i64 x0, .int .i64 y0] _⟩
  rw [← eV]
  obtain ⟨k0, k2⟩ := pV.one 0 rfl
  obtain ⟨k1, k3⟩ := pV.one 1 rfl
  replace pV := Lib.hid pV
  replace hbV := Lib.hid hbV
  replace zV := Lib.hid zV
  clear eV
  go_wp2_with fail
  refine (PR.out _ hbV.out).mono ?_
  rintro e w1 ⟨rfl, h1, bs1⟩
  have HV : AtW b w.heap.size x0 y0 X w w1 := ⟨h1, pV.out.beside bs1 (by omega), (Beside.of_below hbV.out).trans bs1, by omega, Nat.le_refl _⟩
  clear h1 bs1 pV hbV zV k0 k1 k2 k3 PR
  clear V
  generalize w.heap.size = q at *
  obtain ⟨k0, k1, k2, k3⟩ := HV.c
  replace HV := Lib.hid HV
  go_upto_region 9 with (fail)
  have HV := HV.out
  replace HV := Lib.hid (HV.set y0 z)
  go_upto_region 12 with (fail)
  generalize (w1.setCell ⟨q, 0, none⟩ (.int .i64 y0)).setCell ⟨q, 1, none⟩ (.int .i64 z) = V2 at *
  clear k0 k1 k2 k3
  clear NZ NZ2 gx dx dy CX CY hnz hy hx wz
  go_wp2_with fail
  go_loopw [8, 9] (fun an i v => ∃ (k : Nat) (x y : Int) (A : Nat), k ≤ 14 ∧ i = .int .i64 ((k : Int) - 1) ∧ an = .int .u16 (A : Int) ∧ A + 2 ^ k ≤ 65536 ∧ Hid (anF k (x, y) A = R) ∧ Hid (Nm x y 2305843009213693952) ∧ Hid (AtW b q x y X w v)) (fun _ i _ => (intOf i + 1).toNat)
  case atStart => exact ⟨14, _, _, 16384, by omega, rfl, rfl, by decide, hR, nA, HV⟩
  case round =>
    clear HV hR nA
    obtain ⟨k, x, y, A, hk, rfl, rfl, hA, hR, nA, HV⟩ := hrel
    generalize wr = v0 at *
    cases k with
    | zero =>
      have hR2 : A = R := hR.out
      have eX := Lib.hid (eR.out.trans hR2.symm)
      clear hR
      go_wp2
      go_ret
      exact ⟨by rw [← hR2]; rfl, HV.out.t, HV.out.bs⟩
    | succ j =>
      rw [show ((j + 1 : Nat) : Int) - 1 = (j : Int) by omega]
      have hj : j < 14 := by omega
      have BAj := Lib.hid (fun u (m : AtW b q x y X w u) => tback b j x y X u m.t hj nA.out)
      have nf := Lib.hid (b_le hj nA.out)
      have bb := nf.out.bd
      have hp : (2 : Int) ^ j ≤ 8192 ∧ 1 ≤ (2 : Int) ^ j := by
        have := Nat.pow_le_pow_right (n := 2) (by decide) (show j ≤ 13 by omega)
        have := Nat.two_pow_pos j
        rw [show ((2 : Int) ^ j) = ((2 ^ j : Nat) : Int) by simp]
        generalize 2 ^ j = P at *
        omega
      have i0 : 0 ≤ (j : Int) := by omega
      have i1 : ¬ (j : Int) < 0 := by omega
      have i7 : IntKind.i64.wrap ((j : Int) - 1) = (j : Int) - 1 := by rw [IntKind.wrap_i64]; omega
      have hm : min j 16 = j := by omega
      obtain ⟨P, hP⟩ : ∃ P : Nat, P = 2 ^ j := ⟨_, rfl⟩
      have hP2 : (2 : Int) ^ j = (P : Int) := by rw [hP]; simp
      rw [hP2] at hp
      rw [Nat.pow_succ, ← hP] at hA
      have e3 : IntKind.u16.wrap ((2 : Int) ^ j) = (P : Int) := by rw [hP2, IntKind.wrap_u16]; omega
      have e4 : IntKind.u16.wrap ((A : Int) + (P : Int)) = (A : Int) + (P : Int) := by rw [IntKind.wrap_u16]; omega
      have hR2 : (if 0 ≤ bY j x y then anF j (bX j x y, bY j x y) (A + 2 ^ j) else anF j (x, y) A) = R := hR.out
      rw [← hP] at hR2
      clear hR
      generalize bX j x y = x2 at *
      generalize bY j x y = y2 at *
      replace hP := Lib.hid hP
      replace hP2 := Lib.hid hP2
      obtain ⟨k0, k1, k2, k3⟩ := HV.out.c
      go_wp2_with fail
      refine (BAj.out _ HV.out).mono ?_
      rintro e w2 ⟨rfl, hb2⟩
      replace HV := HV.out.bel hb2
      obtain ⟨k0, k1, k2, k3⟩ := HV.c
      clear hb2
      obtain ⟨V3, eV3, hb3, p3⟩ : ∃ V3, V3 = w2.alloc (.cells #[.int .i64 x2, .int .i64 y2] 88) ∧ Below w2.heap.size w2 V3 ∧ Held w2.heap.size [.int .i64 x2, .int .i64 y2] V3 := ⟨_, rfl, (by repeat (first | exact Below.refl _ _ | assumption | apply Below.drew | apply below_drewN | (refine Below.alloc ?_ (by first | exact Nat.le_refl _ | omega | (simp <;> omega)) _) | (refine Below.setCell ?_ (by first | exact Nat.le_refl _ | omega | (simp <;> omega)) _))), Held.new w2 [.int .i64 x2, .int .i64 y2] _⟩
      replace HV := HV.bel hb3
      go_upto_region 16 with (fail)
      rw [← eV3]
      clear eV3 hb3 k0 k1 k2 k3
      obtain ⟨k0, k1, k2, k3⟩ := HV.c
      obtain ⟨c0, _⟩ := p3.one 0 rfl
      obtain ⟨c1, _⟩ := p3.one 1 rfl
      clear p3
      generalize w2.heap.size = q3 at *
      clear w2
      by_cases hb : 0 ≤ y2
      · rw [if_pos hb] at hR2
        replace hR2 := Lib.hid hR2
        have HV := Lib.hid (HV.set x2 y2)
        clear bb
        go_wp2
        go_roundw
        case rel => exact ⟨j, x2, y2, A + P, by omega, rfl, by simp, by have := hP.out; omega, hR2, nf, HV⟩
        case measure => simp [intOf] <;> omega
      · rw [if_neg hb] at hR2
        replace hR2 := Lib.hid hR2
        have HV := Lib.hid HV
        have hb2 : y2 < 0 := by omega
        clear bb
        go_wp2
        go_roundw
        case rel => exact ⟨j, x, y, A, by omega, rfl, rfl, by have := hP.out; omega, hR2, nA, HV⟩
        case measure => simp [intOf] <;> omega
set_option maxRecDepth 100000 in
set_option maxHeartbeats 8000000 in
theorem tang10 (b : Nat) (x y : Int) (X : List Value) (w : World) (h : TurR b X w) (hnz : ¬ (tcl x = 0 ∧ tcl y = 0)) (hy : tcl y < 0) (hx : ¬ -(tcl x) < 0) : Calls Try.prog 16 #[.pointer (some ⟨b, 0, none⟩), .int .i64 x, .int .i64 y] w fun e w' => e = .returned (.int .u16 (anV x y : Int)) ∧ TurO b 1 0 tG X w' ∧ Beside b w w' := by
  have CX := Lib.hid (fun u => tclip_any x u)
  have CY := Lib.hid (fun u => tclip_any y u)
  have bx := tcl_bd x
  have by1 := tcl_bd y
  have PR := Lib.hid (fun (u : World) (k : Below w.heap.size w u) => tprep b X u (h.bel k))
  have hlt := h.lt
  have eV0 : anV x y = anC (tcl x, tcl y) := by unfold anV; exact if_neg hnz
  generalize tcl x = x0 at *
  generalize tcl y = y0 at *
  have e1 : anS (x0, y0) = (((-x0), (-y0)), 32768) := by unfold anS; exact if_pos hy
  have e2 : anC (x0, y0) = anF 14 ((-x0), (-y0)) 32768 := by
    unfold anC anQ
    rw [e1, if_neg (by show ¬ (-x0) < 0; omega)]
  rw [eV0, e2]
  clear eV0 e1 e2
  obtain ⟨R, hR⟩ : ∃ R, anF 14 ((-x0), (-y0)) 32768 = R := ⟨_, rfl⟩
  have eR := Lib.hid hR
  replace hR := Lib.hid hR
  rw [eR.out]
  have nA := Lib.hid (show Nm (-x0) (-y0) 2305843009213693952 from by
    have a1 : x0 * x0 ≤ 1152921504606846976 := by have := tsq_le (a := x0) (b := if 0 ≤ x0 then 1073741824 else -1073741824) ⟨fun q => by split at q <;> split <;> omega, fun q => by split at q <;> split <;> omega⟩; split at this <;> omega
    have a2 : y0 * y0 ≤ 1152921504606846976 := by have := tsq_le (a := y0) (b := if 0 ≤ y0 then 1073741824 else -1073741824) ⟨fun q => by split at q <;> split <;> omega, fun q => by split at q <;> split <;> omega⟩; split at this <;> omega
    unfold Nm
    try simp only [Int.neg_mul_neg]
    omega)
  obtain ⟨x1, ex1⟩ : ∃ x1, x1 = -x0 := ⟨_, rfl⟩
  obtain ⟨y1, ey1⟩ : ∃ y1, y1 = -y0 := ⟨_, rfl⟩
  rw [← ex1, ← ey1] at hR nA
  have wx : IntKind.i64.wrap (-x0) = x1 := by rw [ex1, IntKind.wrap_i64]; omega
  have wy : IntKind.i64.wrap (-y0) = y1 := by rw [ey1, IntKind.wrap_i64]; omega
  have dx : decide (x1 < 0) = false := by simp; omega
  have dy : decide (y0 < 0) = true := by simp; omega
  have gx : ¬ x1 < 0 := by omega
  have NZ : (x0 == 0 && y0 == 0) = false := by simp; omega
  have NZ2 : (x0 == 0) = true → (y0 == 0) = false := by simp; omega
  clear bx by1 h
  replace ex1 := Lib.hid ex1
  replace ey1 := Lib.hid ey1
  go_enter Try.func16, Try.ntmps16
  go_wp2_with fail
  refine (CX.out _).mono ?_
  rintro e w1 ⟨rfl, rfl⟩
  go_wp2_with fail
  refine (CY.out _).mono ?_
  rintro e w2 ⟨rfl, rfl⟩
  go_upto_region 2 with (fail)
  obtain ⟨V, eV, hbV, zV, pV⟩ : ∃ V, V = w.alloc (.cells #[.int .i64 x0, .int .i64 y0] 88) ∧ Below w.heap.size w V ∧ V.heap.size = w.heap.size + 1 ∧ Held w.heap.size [.int .i64 x0, .int .i64 y0] V := ⟨_, rfl, (by repeat (first | exact Below.refl _ _ | assumption | apply Below.drew | apply below_drewN | (refine Below.alloc ?_ (by first | exact Nat.le_refl _ | omega | (simp <;> omega)) _) | (refine Below.setCell ?_ (by first | exact Nat.le_refl _ | omega | (simp <;> omega)) _))), by simp, Held.new w [.int .i64 x0, .int .i64 y0] _⟩
  rw [← eV]
  obtain ⟨k0, k2⟩ := pV.one 0 rfl
  obtain ⟨k1, k3⟩ := pV.one 1 rfl
  replace pV := Lib.hid pV
  replace hbV := Lib.hid hbV
  replace zV := Lib.hid zV
  clear eV
  go_wp2_with fail
  all_goals (first | (rename x0 = 0 => q1; rename ¬ y0 = 0 => q2; clear q1 q2) | (rename x0 = 0 => q1; clear q1) | (rename ¬ x0 = 0 => q1; clear q1) | skip)
  all_goals
    refine (PR.out _ hbV.out).mono ?_
    rintro e w1 ⟨rfl, h1, bs1⟩
    have HV : AtW b w.heap.size x0 y0 X w w1 := ⟨h1, pV.out.beside bs1 (by omega), (Beside.of_below hbV.out).trans bs1, by omega, Nat.le_refl _⟩
    clear h1 bs1 pV hbV zV k0 k1 k2 k3 PR
    clear V
    generalize w.heap.size = q at *
    obtain ⟨k0, k1, k2, k3⟩ := HV.c
    replace HV := Lib.hid (HV.set x1 y1)
    go_upto_region 9 with (fail)
    generalize (w1.setCell ⟨q, 0, none⟩ (.int .i64 x1)).setCell ⟨q, 1, none⟩ (.int .i64 y1) = V1 at *
    clear k0 k1 k2 k3
    have HV := HV.out
    obtain ⟨k0, k1, k2, k3⟩ := HV.c
    replace HV := Lib.hid HV
    go_upto_region 12 with (fail)
    clear k0 k1 k2 k3
    clear NZ NZ2 gx dx dy CX CY hnz hy hx wx wy
    go_wp2_with fail
    go_loopw [8, 9] (fun an i v => ∃ (k : Nat) (x y : Int) (A : Nat), k ≤ 14 ∧ i = .int .i64 ((k : Int) - 1) ∧ an = .int .u16 (A : Int) ∧ A + 2 ^ k ≤ 65536 ∧ Hid (anF k (x, y) A = R) ∧ Hid (Nm x y 2305843009213693952) ∧ Hid (AtW b q x y X w v)) (fun _ i _ => (intOf i + 1).toNat)
    case atStart => exact ⟨14, _, _, 32768, by omega, rfl, rfl, by decide, hR, nA, HV⟩
    case round =>
      clear HV hR nA
      obtain ⟨k, x, y, A, hk, rfl, rfl, hA, hR, nA, HV⟩ := hrel
      generalize wr = v0 at *
      cases k with
      | zero =>
        have hR2 : A = R := hR.out
        have eX := Lib.hid (eR.out.trans hR2.symm)
        clear hR
        go_wp2
        go_ret
        exact ⟨by rw [← hR2]; rfl, HV.out.t, HV.out.bs⟩
      | succ j =>
        rw [show ((j + 1 : Nat) : Int) - 1 = (j : Int) by omega]
        have hj : j < 14 := by omega
        have BAj := Lib.hid (fun u (m : AtW b q x y X w u) => tback b j x y X u m.t hj nA.out)
        have nf := Lib.hid (b_le hj nA.out)
        have bb := nf.out.bd
        have hp : (2 : Int) ^ j ≤ 8192 ∧ 1 ≤ (2 : Int) ^ j := by
          have := Nat.pow_le_pow_right (n := 2) (by decide) (show j ≤ 13 by omega)
          have := Nat.two_pow_pos j
          rw [show ((2 : Int) ^ j) = ((2 ^ j : Nat) : Int) by simp]
          generalize 2 ^ j = P at *
          omega
        have i0 : 0 ≤ (j : Int) := by omega
        have i1 : ¬ (j : Int) < 0 := by omega
        have i7 : IntKind.i64.wrap ((j : Int) - 1) = (j : Int) - 1 := by rw [IntKind.wrap_i64]; omega
        have hm : min j 16 = j := by omega
        obtain ⟨P, hP⟩ : ∃ P : Nat, P = 2 ^ j := ⟨_, rfl⟩
        have hP2 : (2 : Int) ^ j = (P : Int) := by rw [hP]; simp
        rw [hP2] at hp
        rw [Nat.pow_succ, ← hP] at hA
        have e3 : IntKind.u16.wrap ((2 : Int) ^ j) = (P : Int) := by rw [hP2, IntKind.wrap_u16]; omega
        have e4 : IntKind.u16.wrap ((A : Int) + (P : Int)) = (A : Int) + (P : Int) := by rw [IntKind.wrap_u16]; omega
        have hR2 : (if 0 ≤ bY j x y then anF j (bX j x y, bY j x y) (A + 2 ^ j) else anF j (x, y) A) = R := hR.out
        rw [← hP] at hR2
        clear hR
        generalize bX j x y = x2 at *
        generalize bY j x y = y2 at *
        replace hP := Lib.hid hP
        replace hP2 := Lib.hid hP2
        obtain ⟨k0, k1, k2, k3⟩ := HV.out.c
        go_wp2_with fail
        refine (BAj.out _ HV.out).mono ?_
        rintro e w2 ⟨rfl, hb2⟩
        replace HV := HV.out.bel hb2
        obtain ⟨k0, k1, k2, k3⟩ := HV.c
        clear hb2
        obtain ⟨V3, eV3, hb3, p3⟩ : ∃ V3, V3 = w2.alloc (.cells #[.int .i64 x2, .int .i64 y2] 88) ∧ Below w2.heap.size w2 V3 ∧ Held w2.heap.size [.int .i64 x2, .int .i64 y2] V3 := ⟨_, rfl, (by repeat (first | exact Below.refl _ _ | assumption | apply Below.drew | apply below_drewN | (refine Below.alloc ?_ (by first | exact Nat.le_refl _ | omega | (simp <;> omega)) _) | (refine Below.setCell ?_ (by first | exact Nat.le_refl _ | omega | (simp <;> omega)) _))), Held.new w2 [.int .i64 x2, .int .i64 y2] _⟩
        replace HV := HV.bel hb3
        go_upto_region 16 with (fail)
        rw [← eV3]
        clear eV3 hb3 k0 k1 k2 k3
        obtain ⟨k0, k1, k2, k3⟩ := HV.c
        obtain ⟨c0, _⟩ := p3.one 0 rfl
        obtain ⟨c1, _⟩ := p3.one 1 rfl
        clear p3
        generalize w2.heap.size = q3 at *
        clear w2
        by_cases hb : 0 ≤ y2
        · rw [if_pos hb] at hR2
          replace hR2 := Lib.hid hR2
          have HV := Lib.hid (HV.set x2 y2)
          clear bb
          go_wp2
          go_roundw
          case rel => exact ⟨j, x2, y2, A + P, by omega, rfl, by simp, by have := hP.out; omega, hR2, nf, HV⟩
          case measure => simp [intOf] <;> omega
        · rw [if_neg hb] at hR2
          replace hR2 := Lib.hid hR2
          have HV := Lib.hid HV
          have hb2 : y2 < 0 := by omega
          clear bb
          go_wp2
          go_roundw
          case rel => exact ⟨j, x, y, A, by omega, rfl, rfl, by have := hP.out; omega, hR2, nA, HV⟩
          case measure => simp [intOf] <;> omega
set_option maxRecDepth 100000 in
set_option maxHeartbeats 8000000 in
theorem tang11 (b : Nat) (x y : Int) (X : List Value) (w : World) (h : TurR b X w) (hnz : ¬ (tcl x = 0 ∧ tcl y = 0)) (hy : tcl y < 0) (hx : -(tcl x) < 0) : Calls Try.prog 16 #[.pointer (some ⟨b, 0, none⟩), .int .i64 x, .int .i64 y] w fun e w' => e = .returned (.int .u16 (anV x y : Int)) ∧ TurO b 1 0 tG X w' ∧ Beside b w w' := by
  have CX := Lib.hid (fun u => tclip_any x u)
  have CY := Lib.hid (fun u => tclip_any y u)
  have bx := tcl_bd x
  have by1 := tcl_bd y
  have PR := Lib.hid (fun (u : World) (k : Below w.heap.size w u) => tprep b X u (h.bel k))
  have hlt := h.lt
  have eV0 : anV x y = anC (tcl x, tcl y) := by unfold anV; exact if_neg hnz
  generalize tcl x = x0 at *
  generalize tcl y = y0 at *
  have e1 : anS (x0, y0) = (((-x0), (-y0)), 32768) := by unfold anS; exact if_pos hy
  have e2 : anC (x0, y0) = anF 14 ((-y0), (-(-x0))) 49152 := by
    unfold anC anQ
    rw [e1, if_pos (by show (-x0) < 0; omega)]
  rw [eV0, e2]
  clear eV0 e1 e2
  obtain ⟨R, hR⟩ : ∃ R, anF 14 ((-y0), (-(-x0))) 49152 = R := ⟨_, rfl⟩
  have eR := Lib.hid hR
  replace hR := Lib.hid hR
  rw [eR.out]
  have nA := Lib.hid (show Nm (-y0) (-(-x0)) 2305843009213693952 from by
    have a1 : x0 * x0 ≤ 1152921504606846976 := by have := tsq_le (a := x0) (b := if 0 ≤ x0 then 1073741824 else -1073741824) ⟨fun q => by split at q <;> split <;> omega, fun q => by split at q <;> split <;> omega⟩; split at this <;> omega
    have a2 : y0 * y0 ≤ 1152921504606846976 := by have := tsq_le (a := y0) (b := if 0 ≤ y0 then 1073741824 else -1073741824) ⟨fun q => by split at q <;> split <;> omega, fun q => by split at q <;> split <;> omega⟩; split at this <;> omega
    unfold Nm
    try simp only [Int.neg_mul_neg]
    omega)
  obtain ⟨x1, ex1⟩ : ∃ x1, x1 = -x0 := ⟨_, rfl⟩
  obtain ⟨y1, ey1⟩ : ∃ y1, y1 = -y0 := ⟨_, rfl⟩
  rw [← ex1, ← ey1] at hR nA
  have wx : IntKind.i64.wrap (-x0) = x1 := by rw [ex1, IntKind.wrap_i64]; omega
  have wy : IntKind.i64.wrap (-y0) = y1 := by rw [ey1, IntKind.wrap_i64]; omega
  obtain ⟨z, ez⟩ : ∃ z, z = -x1 := ⟨_, rfl⟩
  rw [← ez] at hR nA
  have wz : IntKind.i64.wrap (-x1) = z := by rw [ez, IntKind.wrap_i64]; omega
  have dx : decide (x1 < 0) = true := by simp; omega
  have dy : decide (y0 < 0) = true := by simp; omega
  have gx : x1 < 0 := by omega
  have NZ : (x0 == 0 && y0 == 0) = false := by simp; omega
  have NZ2 : (x0 == 0) = true → (y0 == 0) = false := by simp; omega
  clear bx by1 h
  replace ex1 := Lib.hid ex1
  replace ey1 := Lib.hid ey1
  replace ez := Lib.hid ez
  go_enter Try.func16, Try.ntmps16
  go_wp2_with fail
  refine (CX.out _).mono ?_
  rintro e w1 ⟨rfl, rfl⟩
  go_wp2_with fail
  refine (CY.out _).mono ?_
  rintro e w2 ⟨rfl, rfl⟩
  go_upto_region 2 with (fail)
  obtain ⟨V, eV, hbV, zV, pV⟩ : ∃ V, V = w.alloc (.cells #[.int .i64 x0, .int .i64 y0] 88) ∧ Below w.heap.size w V ∧ V.heap.size = w.heap.size + 1 ∧ Held w.heap.size [.int .i64 x0, .int .i64 y0] V := ⟨_, rfl, (by repeat (first | exact Below.refl _ _ | assumption | apply Below.drew | apply below_drewN | (refine Below.alloc ?_ (by first | exact Nat.le_refl _ | omega | (simp <;> omega)) _) | (refine Below.setCell ?_ (by first | exact Nat.le_refl _ | omega | (simp <;> omega)) _))), by simp, Held.new w [.int .i64 x0, .int .i64 y0] _⟩
  rw [← eV]
  obtain ⟨k0, k2⟩ := pV.one 0 rfl
  obtain ⟨k1, k3⟩ := pV.one 1 rfl
  replace pV := Lib.hid pV
  replace hbV := Lib.hid hbV
  replace zV := Lib.hid zV
  clear eV
  go_wp2_with fail
  refine (PR.out _ hbV.out).mono ?_
  rintro e w1 ⟨rfl, h1, bs1⟩
  have HV : AtW b w.heap.size x0 y0 X w w1 := ⟨h1, pV.out.beside bs1 (by omega), (Beside.of_below hbV.out).trans bs1, by omega, Nat.le_refl _⟩
  clear h1 bs1 pV hbV zV k0 k1 k2 k3 PR
  clear V
  generalize w.heap.size = q at *
  obtain ⟨k0, k1, k2, k3⟩ := HV.c
  replace HV := Lib.hid (HV.set x1 y1)
  go_upto_region 9 with (fail)
  generalize (w1.setCell ⟨q, 0, none⟩ (.int .i64 x1)).setCell ⟨q, 1, none⟩ (.int .i64 y1) = V1 at *
  clear k0 k1 k2 k3
  have HV := HV.out
  obtain ⟨k0, k1, k2, k3⟩ := HV.c
  replace HV := Lib.hid (HV.set y1 z)
  go_upto_region 12 with (fail)
  generalize (V1.setCell ⟨q, 0, none⟩ (.int .i64 y1)).setCell ⟨q, 1, none⟩ (.int .i64 z) = V2 at *
  clear k0 k1 k2 k3
  clear NZ NZ2 gx dx dy CX CY hnz hy hx wx wy wz
  go_wp2_with fail
  go_loopw [8, 9] (fun an i v => ∃ (k : Nat) (x y : Int) (A : Nat), k ≤ 14 ∧ i = .int .i64 ((k : Int) - 1) ∧ an = .int .u16 (A : Int) ∧ A + 2 ^ k ≤ 65536 ∧ Hid (anF k (x, y) A = R) ∧ Hid (Nm x y 2305843009213693952) ∧ Hid (AtW b q x y X w v)) (fun _ i _ => (intOf i + 1).toNat)
  case atStart => exact ⟨14, _, _, 49152, by omega, rfl, rfl, by decide, hR, nA, HV⟩
  case round =>
    clear HV hR nA
    obtain ⟨k, x, y, A, hk, rfl, rfl, hA, hR, nA, HV⟩ := hrel
    generalize wr = v0 at *
    cases k with
    | zero =>
      have hR2 : A = R := hR.out
      have eX := Lib.hid (eR.out.trans hR2.symm)
      clear hR
      go_wp2
      go_ret
      exact ⟨by rw [← hR2]; rfl, HV.out.t, HV.out.bs⟩
    | succ j =>
      rw [show ((j + 1 : Nat) : Int) - 1 = (j : Int) by omega]
      have hj : j < 14 := by omega
      have BAj := Lib.hid (fun u (m : AtW b q x y X w u) => tback b j x y X u m.t hj nA.out)
      have nf := Lib.hid (b_le hj nA.out)
      have bb := nf.out.bd
      have hp : (2 : Int) ^ j ≤ 8192 ∧ 1 ≤ (2 : Int) ^ j := by
        have := Nat.pow_le_pow_right (n := 2) (by decide) (show j ≤ 13 by omega)
        have := Nat.two_pow_pos j
        rw [show ((2 : Int) ^ j) = ((2 ^ j : Nat) : Int) by simp]
        generalize 2 ^ j = P at *
        omega
      have i0 : 0 ≤ (j : Int) := by omega
      have i1 : ¬ (j : Int) < 0 := by omega
      have i7 : IntKind.i64.wrap ((j : Int) - 1) = (j : Int) - 1 := by rw [IntKind.wrap_i64]; omega
      have hm : min j 16 = j := by omega
      obtain ⟨P, hP⟩ : ∃ P : Nat, P = 2 ^ j := ⟨_, rfl⟩
      have hP2 : (2 : Int) ^ j = (P : Int) := by rw [hP]; simp
      rw [hP2] at hp
      rw [Nat.pow_succ, ← hP] at hA
      have e3 : IntKind.u16.wrap ((2 : Int) ^ j) = (P : Int) := by rw [hP2, IntKind.wrap_u16]; omega
      have e4 : IntKind.u16.wrap ((A : Int) + (P : Int)) = (A : Int) + (P : Int) := by rw [IntKind.wrap_u16]; omega
      have hR2 : (if 0 ≤ bY j x y then anF j (bX j x y, bY j x y) (A + 2 ^ j) else anF j (x, y) A) = R := hR.out
      rw [← hP] at hR2
      clear hR
      generalize bX j x y = x2 at *
      generalize bY j x y = y2 at *
      replace hP := Lib.hid hP
      replace hP2 := Lib.hid hP2
      obtain ⟨k0, k1, k2, k3⟩ := HV.out.c
      go_wp2_with fail
      refine (BAj.out _ HV.out).mono ?_
      rintro e w2 ⟨rfl, hb2⟩
      replace HV := HV.out.bel hb2
      obtain ⟨k0, k1, k2, k3⟩ := HV.c
      clear hb2
      obtain ⟨V3, eV3, hb3, p3⟩ : ∃ V3, V3 = w2.alloc (.cells #[.int .i64 x2, .int .i64 y2] 88) ∧ Below w2.heap.size w2 V3 ∧ Held w2.heap.size [.int .i64 x2, .int .i64 y2] V3 := ⟨_, rfl, (by repeat (first | exact Below.refl _ _ | assumption | apply Below.drew | apply below_drewN | (refine Below.alloc ?_ (by first | exact Nat.le_refl _ | omega | (simp <;> omega)) _) | (refine Below.setCell ?_ (by first | exact Nat.le_refl _ | omega | (simp <;> omega)) _))), Held.new w2 [.int .i64 x2, .int .i64 y2] _⟩
      replace HV := HV.bel hb3
      go_upto_region 16 with (fail)
      rw [← eV3]
      clear eV3 hb3 k0 k1 k2 k3
      obtain ⟨k0, k1, k2, k3⟩ := HV.c
      obtain ⟨c0, _⟩ := p3.one 0 rfl
      obtain ⟨c1, _⟩ := p3.one 1 rfl
      clear p3
      generalize w2.heap.size = q3 at *
      clear w2
      by_cases hb : 0 ≤ y2
      · rw [if_pos hb] at hR2
        replace hR2 := Lib.hid hR2
        have HV := Lib.hid (HV.set x2 y2)
        clear bb
        go_wp2
        go_roundw
        case rel => exact ⟨j, x2, y2, A + P, by omega, rfl, by simp, by have := hP.out; omega, hR2, nf, HV⟩
        case measure => simp [intOf] <;> omega
      · rw [if_neg hb] at hR2
        replace hR2 := Lib.hid hR2
        have HV := Lib.hid HV
        have hb2 : y2 < 0 := by omega
        clear bb
        go_wp2
        go_roundw
        case rel => exact ⟨j, x, y, A, by omega, rfl, rfl, by have := hP.out; omega, hR2, nA, HV⟩
        case measure => simp [intOf] <;> omega
theorem tang (b : Nat) (x y : Int) (X : List Value) (w : World) (h : TurR b X w) : Calls Try.prog 16 #[.pointer (some ⟨b, 0, none⟩), .int .i64 x, .int .i64 y] w fun e w' => e = .returned (.int .u16 (anV x y : Int)) ∧ (TurR b X w') ∧ Beside b w w' := by
  by_cases hz : tcl x = 0 ∧ tcl y = 0
  · refine (tang_zero b x y X w h hz.1 hz.2).mono ?_
    rintro e w' ⟨rfl, hb⟩
    exact ⟨by rw [show anV x y = 0 by unfold anV; exact if_pos hz]; rfl, h.bel hb, .of_below hb⟩
  · have g : ∀ {e : Ending} {w' : World}, (e = .returned (.int .u16 (anV x y : Int)) ∧ TurO b 1 0 tG X w' ∧ Beside b w w') → (e = .returned (.int .u16 (anV x y : Int)) ∧ (TurR b X w') ∧ Beside b w w') := fun h => ⟨h.1, .inr h.2.1, h.2.2⟩
    by_cases hy : tcl y < 0
    · by_cases hx : -(tcl x) < 0
      · exact (tang11 b x y X w h hz hy hx).mono fun _ _ h => g h
      · exact (tang10 b x y X w h hz hy hx).mono fun _ _ h => g h
    · by_cases hx : tcl x < 0
      · exact (tang01 b x y X w h hz hy hx).mono fun _ _ h => g h
      · exact (tang00 b x y X w h hz hy hx).mono fun _ _ h => g h
end Go.Proofs.Ytiibgblpbjdpaaa
