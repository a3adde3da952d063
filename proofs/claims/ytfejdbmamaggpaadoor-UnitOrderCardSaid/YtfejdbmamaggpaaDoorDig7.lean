/- The document's quotient, digit by digit: Floor, Near, Trunc and Fit; walked. -/
import Derived.Test.YtfejdbmamaggpaaDoorDig6
namespace Go.Proofs.YtfejdbmamaggpaaDoor
open Go.ChangeShapes Go.WideShapes Go.ChangeAt Go.RowKit
set_option linter.unusedVariables false
set_option linter.unusedSimpArgs false

theorem rcmp_zero (A : Int) (w : World) (hA0 : 0 ≤ A) (hA1 : A < pw 12) :
    Calls Tryd.prog 117 #[rwv A, .agg #[.int .u64 0, .int .u64 0, .int .u64 0, .int .u64 0, .int .u64 0, .int .u64 0, .int .u64 0, .int .u64 0, .int .u64 0, .int .u64 0, .int .u64 0, .int .u64 0]] w fun e w' => e = .returned (.int .i64 (rcmp A 0)) ∧ Below w.heap.size w w' := by
  have h := rcmp_any A 0 w hA0 hA1 (by omega) (by rw [pw_12]; decide)
  simpa only [rwv, rwc, dg_zero] using h
theorem mag_bd' (n : Int) (h1 : -9223372036854775808 ≤ n) (h2 : n ≤ 9223372036854775807) : 0 ≤ mag n ∧ mag n ≤ 9223372036854775808 := by unfold mag; omega

set_option maxRecDepth 100000 in
set_option maxHeartbeats 8000000 in
theorem rquo_1 (a b c how hv z : Int) (x : Bool) (w : World) (ha1 : -9223372036854775808 ≤ a) (ha2 : a ≤ 9223372036854775807) (hb1 : -9223372036854775808 ≤ b) (hb2 : b ≤ 9223372036854775807) (hc1 : -9223372036854775808 ≤ c) (hc2 : c ≤ 9223372036854775807) (hc : ¬ c = 0)
    (hx : xr a b c = x) (hh : rcmp (2 * (mag a * mag b % mag c)) (mag c) = hv) (hz : rcmp (mag a * mag b % mag c) 0 = z) (hcase : how = 0 ∨ (how = -1 ∧ x = false) ∨ (how = 1 ∧ hv = 0 ∧ x = true) ∨ (how = 1 ∧ hv = -1)) :
    Calls Tryd.prog 69 #[.int .i64 a, .int .i64 b, .int .i64 c, .int .i64 how] w fun e w' => e = .returned (.tuple #[.int .i64 (nbV (mag a * mag b / mag c) x), .bool (nbB (mag a * mag b / mag c))]) ∧ Below w.heap.size w w' := by
  have ma := mag_bd' a ha1 ha2
  have mb := mag_bd' b hb1 hb2
  have mc := mag_bd' c hc1 hc2
  have mc0 : 0 < mag c := by unfold mag; omega
  have p12 : 340282366920938463463374607431768211456 < pw 12 := by rw [pw_12]; decide
  have p4 : 9223372036854775808 < pw 4 := by rw [pw_4]; decide
  have hP0 : 0 ≤ mag a * mag b := Int.mul_nonneg ma.1 mb.1
  have hP1 : mag a * mag b ≤ 85070591730234615865843651857942052864 := by have := Int.mul_le_mul ma.2 mb.2 mb.1 (by omega : (0 : Int) ≤ 9223372036854775808); omega
  have OA := Lib.hid (fun u => rof_any a u ha1 ha2)
  have OB := Lib.hid (fun u => rof_any b u hb1 hb2)
  have OC := Lib.hid (fun u => rof_any c u hc1 hc2)
  have TM := Lib.hid (fun u => rtimes_any (mag a) (mag b) u ma.1 (by omega) mb.1 (by omega))
  have DV := Lib.hid (fun u => rdiv_any (mag a * mag b) (mag c) u hP0 hP1 mc0 mc.2)
  have NG := fun u => rneg_any a b c u
  rw [hx] at NG
  replace NG := Lib.hid NG
  have q0 : 0 ≤ mag a * mag b / mag c := Int.ediv_nonneg hP0 (by omega)
  have q1 : mag a * mag b / mag c ≤ mag a * mag b := Int.ediv_le_self _ hP0
  have r0 := Int.emod_nonneg (mag a * mag b) (show mag c ≠ 0 by omega)
  have r1 := Int.emod_lt_of_pos (mag a * mag b) mc0
  have TW := Lib.hid (fun u => rtwice_any (mag a * mag b % mag c) u r0 (by omega))
  have CM := fun u => rcmp_any (2 * (mag a * mag b % mag c)) (mag c) u (by omega) (by omega) (by omega) (by omega)
  rw [hh] at CM
  replace CM := Lib.hid CM
  have CZ := fun u => rcmp_zero (mag a * mag b % mag c) u r0 (by omega)
  rw [hz] at CZ
  replace CZ := Lib.hid CZ
  have MR := Lib.hid (fun u => rmore_any (mag a * mag b / mag c) u q0 (by omega))
  have NM := Lib.hid (fun u => rnum_any (mag a * mag b / mag c) x u (by omega) (by omega))
  clear hx hh hz ha1 ha2 hb1 hb2 hc1 hc2 p12 p4 hP0 hP1 q0 q1 r0 r1 ma mb mc mc0
  generalize mag a * mag b / mag c = q at *
  generalize mag a * mag b % mag c = r at *
  generalize mag a * mag b = P at *
  generalize mag a = A at *
  generalize mag b = B at *
  generalize mag c = D at *
  have hc' : (c == 0) = false := by simp [hc]
  replace hc := Lib.hid hc
  rcases hcase with rfl | ⟨rfl, rfl⟩ | ⟨rfl, rfl, rfl⟩ | ⟨rfl, rfl⟩
  all_goals
    go_enter Tryd.func69, Tryd.ntmps69
    go_wp2_with fail
    refine (OA.out _).mono ?_
    rintro e w1 ⟨rfl, hb1⟩
    have hb := hb1
    clear hb1
    go_wp2_with fail
    refine (OB.out _).mono ?_
    rintro e w2 ⟨rfl, hb2⟩
    replace hb := hb.trans (hb2.mono hb.size)
    clear hb2
    go_wp2_with fail
    refine (TM.out _).mono ?_
    rintro e w3 ⟨rfl, hb3⟩
    replace hb := hb.trans (hb3.mono hb.size)
    clear hb3
    go_wp2_with fail
    refine (OC.out _).mono ?_
    rintro e w4 ⟨rfl, hb4⟩
    replace hb := hb.trans (hb4.mono hb.size)
    clear hb4
    go_wp2_with fail
    refine (DV.out _).mono ?_
    rintro e w5 ⟨rfl, hb5⟩
    replace hb := hb.trans (hb5.mono hb.size)
    clear hb5
    have hsz := Lib.hid hb.size
    go_upto_region 4 with (fail)
    change Code.wp _ _ _ _ ((w5.alloc (.cells (rwc (dg q)) 160)).alloc (.cells (rwc (dg r)) 160))
    have hQ := (Rw.new w5 (dg q) 160).alloc (.cells (rwc (dg r)) 160)
    have hR := Rw.new' (w := w5.alloc (.cells (rwc (dg q)) 160)) (b := w5.heap.size + 1) (dg r) 160 (by simp)
    replace hb := (hb.alloc hsz.out (.cells (rwc (dg q)) 160)).alloc (by simp; have := hsz.out; omega) (.cells (rwc (dg r)) 160)
    generalize (w5.alloc (.cells (rwc (dg q)) 160)).alloc (.cells (rwc (dg r)) 160) = v1 at *
    generalize w5.heap.size = s at *
    go_wp2_with fail
    refine (NG.out _).mono ?_
    rintro e w6 ⟨rfl, rfl⟩
    obtain ⟨c0, c1, c2, c3, c4, c5, c6, c7, c8, c9, c10, c11⟩ := hR.all
    go_wp2_with fail
    refine (TW.out _).mono ?_
    rintro e w7 ⟨rfl, hb7⟩
    replace hQ := hQ.bel hb7
    replace hR := hR.bel hb7
    replace hb := hb.trans (hb7.mono hb.size)
    clear hb7 c0 c1 c2 c3 c4 c5 c6 c7 c8 c9 c10 c11
    go_wp2_with fail
    refine (OC.out _).mono ?_
    rintro e w8 ⟨rfl, hb8⟩
    replace hQ := hQ.bel hb8
    replace hR := hR.bel hb8
    replace hb := hb.trans (hb8.mono hb.size)
    clear hb8
    go_wp2_with fail
    refine (CM.out _).mono ?_
    rintro e w9 ⟨rfl, hb9⟩
    replace hQ := hQ.bel hb9
    replace hR := hR.bel hb9
    replace hb := hb.trans (hb9.mono hb.size)
    clear hb9
    have hQa := hQ.alloc (.cells (rwc fun _ => 0) 160)
    have hRa := hR.alloc (.cells (rwc fun _ => 0) 160)
    have hba := hb.alloc hb.size (.cells (rwc fun _ => 0) 160)
    have hN := Rw.new w9 (fun _ => 0) 160
    clear hQ hR hb
    obtain ⟨c0, c1, c2, c3, c4, c5, c6, c7, c8, c9, c10, c11⟩ := hQa.all
    go_wp2_with fail
    refine (NM.out _).mono ?_
    rintro e wd ⟨rfl, hb9⟩
    go_wp2
    go_ret2
    exact ⟨rfl, hba.trans (hb9.mono hba.size)⟩
set_option maxRecDepth 100000 in
set_option maxHeartbeats 8000000 in
theorem rquo_2 (a b c how hv z : Int) (x : Bool) (w : World) (ha1 : -9223372036854775808 ≤ a) (ha2 : a ≤ 9223372036854775807) (hb1 : -9223372036854775808 ≤ b) (hb2 : b ≤ 9223372036854775807) (hc1 : -9223372036854775808 ≤ c) (hc2 : c ≤ 9223372036854775807) (hc : ¬ c = 0)
    (hx : xr a b c = x) (hh : rcmp (2 * (mag a * mag b % mag c)) (mag c) = hv) (hz : rcmp (mag a * mag b % mag c) 0 = z) (hcase : (how = 1 ∧ hv = 1) ∨ (how = 1 ∧ hv = 0 ∧ x = false)) :
    Calls Tryd.prog 69 #[.int .i64 a, .int .i64 b, .int .i64 c, .int .i64 how] w fun e w' => e = .returned (.tuple #[.int .i64 (nbV (mag a * mag b / mag c + 1) x), .bool (nbB (mag a * mag b / mag c + 1))]) ∧ Below w.heap.size w w' := by
  have ma := mag_bd' a ha1 ha2
  have mb := mag_bd' b hb1 hb2
  have mc := mag_bd' c hc1 hc2
  have mc0 : 0 < mag c := by unfold mag; omega
  have p12 : 340282366920938463463374607431768211456 < pw 12 := by rw [pw_12]; decide
  have p4 : 9223372036854775808 < pw 4 := by rw [pw_4]; decide
  have hP0 : 0 ≤ mag a * mag b := Int.mul_nonneg ma.1 mb.1
  have hP1 : mag a * mag b ≤ 85070591730234615865843651857942052864 := by have := Int.mul_le_mul ma.2 mb.2 mb.1 (by omega : (0 : Int) ≤ 9223372036854775808); omega
  have OA := Lib.hid (fun u => rof_any a u ha1 ha2)
  have OB := Lib.hid (fun u => rof_any b u hb1 hb2)
  have OC := Lib.hid (fun u => rof_any c u hc1 hc2)
  have TM := Lib.hid (fun u => rtimes_any (mag a) (mag b) u ma.1 (by omega) mb.1 (by omega))
  have DV := Lib.hid (fun u => rdiv_any (mag a * mag b) (mag c) u hP0 hP1 mc0 mc.2)
  have NG := fun u => rneg_any a b c u
  rw [hx] at NG
  replace NG := Lib.hid NG
  have q0 : 0 ≤ mag a * mag b / mag c := Int.ediv_nonneg hP0 (by omega)
  have q1 : mag a * mag b / mag c ≤ mag a * mag b := Int.ediv_le_self _ hP0
  have r0 := Int.emod_nonneg (mag a * mag b) (show mag c ≠ 0 by omega)
  have r1 := Int.emod_lt_of_pos (mag a * mag b) mc0
  have TW := Lib.hid (fun u => rtwice_any (mag a * mag b % mag c) u r0 (by omega))
  have CM := fun u => rcmp_any (2 * (mag a * mag b % mag c)) (mag c) u (by omega) (by omega) (by omega) (by omega)
  rw [hh] at CM
  replace CM := Lib.hid CM
  have CZ := fun u => rcmp_zero (mag a * mag b % mag c) u r0 (by omega)
  rw [hz] at CZ
  replace CZ := Lib.hid CZ
  have MR := Lib.hid (fun u => rmore_any (mag a * mag b / mag c) u q0 (by omega))
  have NM := Lib.hid (fun u => rnum_any (mag a * mag b / mag c + 1) x u (by omega) (by omega))
  clear hx hh hz ha1 ha2 hb1 hb2 hc1 hc2 p12 p4 hP0 hP1 q0 q1 r0 r1 ma mb mc mc0
  generalize mag a * mag b / mag c = q at *
  generalize mag a * mag b % mag c = r at *
  generalize mag a * mag b = P at *
  generalize mag a = A at *
  generalize mag b = B at *
  generalize mag c = D at *
  have hc' : (c == 0) = false := by simp [hc]
  replace hc := Lib.hid hc
  rcases hcase with ⟨rfl, rfl⟩ | ⟨rfl, rfl, rfl⟩
  all_goals
    go_enter Tryd.func69, Tryd.ntmps69
    go_wp2_with fail
    refine (OA.out _).mono ?_
    rintro e w1 ⟨rfl, hb1⟩
    have hb := hb1
    clear hb1
    go_wp2_with fail
    refine (OB.out _).mono ?_
    rintro e w2 ⟨rfl, hb2⟩
    replace hb := hb.trans (hb2.mono hb.size)
    clear hb2
    go_wp2_with fail
    refine (TM.out _).mono ?_
    rintro e w3 ⟨rfl, hb3⟩
    replace hb := hb.trans (hb3.mono hb.size)
    clear hb3
    go_wp2_with fail
    refine (OC.out _).mono ?_
    rintro e w4 ⟨rfl, hb4⟩
    replace hb := hb.trans (hb4.mono hb.size)
    clear hb4
    go_wp2_with fail
    refine (DV.out _).mono ?_
    rintro e w5 ⟨rfl, hb5⟩
    replace hb := hb.trans (hb5.mono hb.size)
    clear hb5
    have hsz := Lib.hid hb.size
    go_upto_region 4 with (fail)
    change Code.wp _ _ _ _ ((w5.alloc (.cells (rwc (dg q)) 160)).alloc (.cells (rwc (dg r)) 160))
    have hQ := (Rw.new w5 (dg q) 160).alloc (.cells (rwc (dg r)) 160)
    have hR := Rw.new' (w := w5.alloc (.cells (rwc (dg q)) 160)) (b := w5.heap.size + 1) (dg r) 160 (by simp)
    replace hb := (hb.alloc hsz.out (.cells (rwc (dg q)) 160)).alloc (by simp; have := hsz.out; omega) (.cells (rwc (dg r)) 160)
    generalize (w5.alloc (.cells (rwc (dg q)) 160)).alloc (.cells (rwc (dg r)) 160) = v1 at *
    generalize w5.heap.size = s at *
    go_wp2_with fail
    refine (NG.out _).mono ?_
    rintro e w6 ⟨rfl, rfl⟩
    obtain ⟨c0, c1, c2, c3, c4, c5, c6, c7, c8, c9, c10, c11⟩ := hR.all
    go_wp2_with fail
    refine (TW.out _).mono ?_
    rintro e w7 ⟨rfl, hb7⟩
    replace hQ := hQ.bel hb7
    replace hR := hR.bel hb7
    replace hb := hb.trans (hb7.mono hb.size)
    clear hb7 c0 c1 c2 c3 c4 c5 c6 c7 c8 c9 c10 c11
    go_wp2_with fail
    refine (OC.out _).mono ?_
    rintro e w8 ⟨rfl, hb8⟩
    replace hQ := hQ.bel hb8
    replace hR := hR.bel hb8
    replace hb := hb.trans (hb8.mono hb.size)
    clear hb8
    go_wp2_with fail
    refine (CM.out _).mono ?_
    rintro e w9 ⟨rfl, hb9⟩
    replace hQ := hQ.bel hb9
    replace hR := hR.bel hb9
    replace hb := hb.trans (hb9.mono hb.size)
    clear hb9
    have hQa := hQ.alloc (.cells (rwc fun _ => 0) 160)
    have hRa := hR.alloc (.cells (rwc fun _ => 0) 160)
    have hba := hb.alloc hb.size (.cells (rwc fun _ => 0) 160)
    have hN := Rw.new w9 (fun _ => 0) 160
    clear hQ hR hb
    obtain ⟨c0, c1, c2, c3, c4, c5, c6, c7, c8, c9, c10, c11⟩ := hQa.all
    go_wp2_with fail
    refine (MR.out _).mono ?_
    rintro e wb ⟨rfl, hb9⟩
    replace hQa := hQa.bel hb9
    replace hba := hba.trans (hb9.mono hba.size)
    clear hb9 c0 c1 c2 c3 c4 c5 c6 c7 c8 c9 c10 c11
    obtain ⟨c0, c1, c2, c3, c4, c5, c6, c7, c8, c9, c10, c11⟩ := hQa.all
    obtain ⟨y0, y1, y2, y3, y4, y5, y6, y7, y8, y9, y10, y11⟩ := hQa.allf
    go_upto_region 11 with (fail)
    change Code.wp _ _ _ _ (rput s (dg (q + 1)) wb)
    replace hQa := hQa.put (dg (q + 1))
    replace hba := rput_below hba hsz.out (dg (q + 1))
    clear c0 c1 c2 c3 c4 c5 c6 c7 c8 c9 c10 c11 y0 y1 y2 y3 y4 y5 y6 y7 y8 y9 y10 y11
    generalize rput s (dg (q + 1)) wb = wc at *
    obtain ⟨c0, c1, c2, c3, c4, c5, c6, c7, c8, c9, c10, c11⟩ := hQa.all
    go_wp2_with fail
    refine (NM.out _).mono ?_
    rintro e wd ⟨rfl, hb9⟩
    go_wp2
    go_ret2
    exact ⟨rfl, hba.trans (hb9.mono hba.size)⟩
set_option maxRecDepth 100000 in
set_option maxHeartbeats 8000000 in
theorem rquo_3 (a b c how hv z : Int) (x : Bool) (w : World) (ha1 : -9223372036854775808 ≤ a) (ha2 : a ≤ 9223372036854775807) (hb1 : -9223372036854775808 ≤ b) (hb2 : b ≤ 9223372036854775807) (hc1 : -9223372036854775808 ≤ c) (hc2 : c ≤ 9223372036854775807) (hc : ¬ c = 0)
    (hx : xr a b c = x) (hh : rcmp (2 * (mag a * mag b % mag c)) (mag c) = hv) (hz : rcmp (mag a * mag b % mag c) 0 = z) (hcase : how = -1 ∧ x = true ∧ z = 0) :
    Calls Tryd.prog 69 #[.int .i64 a, .int .i64 b, .int .i64 c, .int .i64 how] w fun e w' => e = .returned (.tuple #[.int .i64 (nbV (mag a * mag b / mag c) x), .bool (nbB (mag a * mag b / mag c))]) ∧ Below w.heap.size w w' := by
  have ma := mag_bd' a ha1 ha2
  have mb := mag_bd' b hb1 hb2
  have mc := mag_bd' c hc1 hc2
  have mc0 : 0 < mag c := by unfold mag; omega
  have p12 : 340282366920938463463374607431768211456 < pw 12 := by rw [pw_12]; decide
  have p4 : 9223372036854775808 < pw 4 := by rw [pw_4]; decide
  have hP0 : 0 ≤ mag a * mag b := Int.mul_nonneg ma.1 mb.1
  have hP1 : mag a * mag b ≤ 85070591730234615865843651857942052864 := by have := Int.mul_le_mul ma.2 mb.2 mb.1 (by omega : (0 : Int) ≤ 9223372036854775808); omega
  have OA := Lib.hid (fun u => rof_any a u ha1 ha2)
  have OB := Lib.hid (fun u => rof_any b u hb1 hb2)
  have OC := Lib.hid (fun u => rof_any c u hc1 hc2)
  have TM := Lib.hid (fun u => rtimes_any (mag a) (mag b) u ma.1 (by omega) mb.1 (by omega))
  have DV := Lib.hid (fun u => rdiv_any (mag a * mag b) (mag c) u hP0 hP1 mc0 mc.2)
  have NG := fun u => rneg_any a b c u
  rw [hx] at NG
  replace NG := Lib.hid NG
  have q0 : 0 ≤ mag a * mag b / mag c := Int.ediv_nonneg hP0 (by omega)
  have q1 : mag a * mag b / mag c ≤ mag a * mag b := Int.ediv_le_self _ hP0
  have r0 := Int.emod_nonneg (mag a * mag b) (show mag c ≠ 0 by omega)
  have r1 := Int.emod_lt_of_pos (mag a * mag b) mc0
  have TW := Lib.hid (fun u => rtwice_any (mag a * mag b % mag c) u r0 (by omega))
  have CM := fun u => rcmp_any (2 * (mag a * mag b % mag c)) (mag c) u (by omega) (by omega) (by omega) (by omega)
  rw [hh] at CM
  replace CM := Lib.hid CM
  have CZ := fun u => rcmp_zero (mag a * mag b % mag c) u r0 (by omega)
  rw [hz] at CZ
  replace CZ := Lib.hid CZ
  have MR := Lib.hid (fun u => rmore_any (mag a * mag b / mag c) u q0 (by omega))
  have NM := Lib.hid (fun u => rnum_any (mag a * mag b / mag c) x u (by omega) (by omega))
  clear hx hh hz ha1 ha2 hb1 hb2 hc1 hc2 p12 p4 hP0 hP1 q0 q1 r0 r1 ma mb mc mc0
  generalize mag a * mag b / mag c = q at *
  generalize mag a * mag b % mag c = r at *
  generalize mag a * mag b = P at *
  generalize mag a = A at *
  generalize mag b = B at *
  generalize mag c = D at *
  have hc' : (c == 0) = false := by simp [hc]
  replace hc := Lib.hid hc
  rcases hcase with ⟨rfl, rfl, rfl⟩
  all_goals
    go_enter Tryd.func69, Tryd.ntmps69
    go_wp2_with fail
    refine (OA.out _).mono ?_
    rintro e w1 ⟨rfl, hb1⟩
    have hb := hb1
    clear hb1
    go_wp2_with fail
    refine (OB.out _).mono ?_
    rintro e w2 ⟨rfl, hb2⟩
    replace hb := hb.trans (hb2.mono hb.size)
    clear hb2
    go_wp2_with fail
    refine (TM.out _).mono ?_
    rintro e w3 ⟨rfl, hb3⟩
    replace hb := hb.trans (hb3.mono hb.size)
    clear hb3
    go_wp2_with fail
    refine (OC.out _).mono ?_
    rintro e w4 ⟨rfl, hb4⟩
    replace hb := hb.trans (hb4.mono hb.size)
    clear hb4
    go_wp2_with fail
    refine (DV.out _).mono ?_
    rintro e w5 ⟨rfl, hb5⟩
    replace hb := hb.trans (hb5.mono hb.size)
    clear hb5
    have hsz := Lib.hid hb.size
    go_upto_region 4 with (fail)
    change Code.wp _ _ _ _ ((w5.alloc (.cells (rwc (dg q)) 160)).alloc (.cells (rwc (dg r)) 160))
    have hQ := (Rw.new w5 (dg q) 160).alloc (.cells (rwc (dg r)) 160)
    have hR := Rw.new' (w := w5.alloc (.cells (rwc (dg q)) 160)) (b := w5.heap.size + 1) (dg r) 160 (by simp)
    replace hb := (hb.alloc hsz.out (.cells (rwc (dg q)) 160)).alloc (by simp; have := hsz.out; omega) (.cells (rwc (dg r)) 160)
    generalize (w5.alloc (.cells (rwc (dg q)) 160)).alloc (.cells (rwc (dg r)) 160) = v1 at *
    generalize w5.heap.size = s at *
    go_wp2_with fail
    refine (NG.out _).mono ?_
    rintro e w6 ⟨rfl, rfl⟩
    obtain ⟨c0, c1, c2, c3, c4, c5, c6, c7, c8, c9, c10, c11⟩ := hR.all
    go_wp2_with fail
    refine (TW.out _).mono ?_
    rintro e w7 ⟨rfl, hb7⟩
    replace hQ := hQ.bel hb7
    replace hR := hR.bel hb7
    replace hb := hb.trans (hb7.mono hb.size)
    clear hb7 c0 c1 c2 c3 c4 c5 c6 c7 c8 c9 c10 c11
    go_wp2_with fail
    refine (OC.out _).mono ?_
    rintro e w8 ⟨rfl, hb8⟩
    replace hQ := hQ.bel hb8
    replace hR := hR.bel hb8
    replace hb := hb.trans (hb8.mono hb.size)
    clear hb8
    go_wp2_with fail
    refine (CM.out _).mono ?_
    rintro e w9 ⟨rfl, hb9⟩
    replace hQ := hQ.bel hb9
    replace hR := hR.bel hb9
    replace hb := hb.trans (hb9.mono hb.size)
    clear hb9
    have hQa := hQ.alloc (.cells (rwc fun _ => 0) 160)
    have hRa := hR.alloc (.cells (rwc fun _ => 0) 160)
    have hba := hb.alloc hb.size (.cells (rwc fun _ => 0) 160)
    have hN := Rw.new w9 (fun _ => 0) 160
    clear hQ hR hb
    obtain ⟨c0, c1, c2, c3, c4, c5, c6, c7, c8, c9, c10, c11⟩ := hRa.all
    obtain ⟨d0, d1, d2, d3, d4, d5, d6, d7, d8, d9, d10, d11⟩ := hN.all
    go_wp2_with fail
    refine (CZ.out _).mono ?_
    rintro e wa ⟨rfl, hb9⟩
    replace hQa := hQa.bel hb9
    replace hba := hba.trans (hb9.mono hba.size)
    clear hb9 hN hRa c0 c1 c2 c3 c4 c5 c6 c7 c8 c9 c10 c11 d0 d1 d2 d3 d4 d5 d6 d7 d8 d9 d10 d11
    obtain ⟨c0, c1, c2, c3, c4, c5, c6, c7, c8, c9, c10, c11⟩ := hQa.all
    go_wp2_with fail
    refine (NM.out _).mono ?_
    rintro e wd ⟨rfl, hb9⟩
    go_wp2
    go_ret2
    exact ⟨rfl, hba.trans (hb9.mono hba.size)⟩
set_option maxRecDepth 100000 in
set_option maxHeartbeats 8000000 in
theorem rquo_4 (a b c how hv z : Int) (x : Bool) (w : World) (ha1 : -9223372036854775808 ≤ a) (ha2 : a ≤ 9223372036854775807) (hb1 : -9223372036854775808 ≤ b) (hb2 : b ≤ 9223372036854775807) (hc1 : -9223372036854775808 ≤ c) (hc2 : c ≤ 9223372036854775807) (hc : ¬ c = 0)
    (hx : xr a b c = x) (hh : rcmp (2 * (mag a * mag b % mag c)) (mag c) = hv) (hz : rcmp (mag a * mag b % mag c) 0 = z) (hcase : how = -1 ∧ x = true ∧ z = 1) :
    Calls Tryd.prog 69 #[.int .i64 a, .int .i64 b, .int .i64 c, .int .i64 how] w fun e w' => e = .returned (.tuple #[.int .i64 (nbV (mag a * mag b / mag c + 1) x), .bool (nbB (mag a * mag b / mag c + 1))]) ∧ Below w.heap.size w w' := by
  have ma := mag_bd' a ha1 ha2
  have mb := mag_bd' b hb1 hb2
  have mc := mag_bd' c hc1 hc2
  have mc0 : 0 < mag c := by unfold mag; omega
  have p12 : 340282366920938463463374607431768211456 < pw 12 := by rw [pw_12]; decide
  have p4 : 9223372036854775808 < pw 4 := by rw [pw_4]; decide
  have hP0 : 0 ≤ mag a * mag b := Int.mul_nonneg ma.1 mb.1
  have hP1 : mag a * mag b ≤ 85070591730234615865843651857942052864 := by have := Int.mul_le_mul ma.2 mb.2 mb.1 (by omega : (0 : Int) ≤ 9223372036854775808); omega
  have OA := Lib.hid (fun u => rof_any a u ha1 ha2)
  have OB := Lib.hid (fun u => rof_any b u hb1 hb2)
  have OC := Lib.hid (fun u => rof_any c u hc1 hc2)
  have TM := Lib.hid (fun u => rtimes_any (mag a) (mag b) u ma.1 (by omega) mb.1 (by omega))
  have DV := Lib.hid (fun u => rdiv_any (mag a * mag b) (mag c) u hP0 hP1 mc0 mc.2)
  have NG := fun u => rneg_any a b c u
  rw [hx] at NG
  replace NG := Lib.hid NG
  have q0 : 0 ≤ mag a * mag b / mag c := Int.ediv_nonneg hP0 (by omega)
  have q1 : mag a * mag b / mag c ≤ mag a * mag b := Int.ediv_le_self _ hP0
  have r0 := Int.emod_nonneg (mag a * mag b) (show mag c ≠ 0 by omega)
  have r1 := Int.emod_lt_of_pos (mag a * mag b) mc0
  have TW := Lib.hid (fun u => rtwice_any (mag a * mag b % mag c) u r0 (by omega))
  have CM := fun u => rcmp_any (2 * (mag a * mag b % mag c)) (mag c) u (by omega) (by omega) (by omega) (by omega)
  rw [hh] at CM
  replace CM := Lib.hid CM
  have CZ := fun u => rcmp_zero (mag a * mag b % mag c) u r0 (by omega)
  rw [hz] at CZ
  replace CZ := Lib.hid CZ
  have MR := Lib.hid (fun u => rmore_any (mag a * mag b / mag c) u q0 (by omega))
  have NM := Lib.hid (fun u => rnum_any (mag a * mag b / mag c + 1) x u (by omega) (by omega))
  clear hx hh hz ha1 ha2 hb1 hb2 hc1 hc2 p12 p4 hP0 hP1 q0 q1 r0 r1 ma mb mc mc0
  generalize mag a * mag b / mag c = q at *
  generalize mag a * mag b % mag c = r at *
  generalize mag a * mag b = P at *
  generalize mag a = A at *
  generalize mag b = B at *
  generalize mag c = D at *
  have hc' : (c == 0) = false := by simp [hc]
  replace hc := Lib.hid hc
  rcases hcase with ⟨rfl, rfl, rfl⟩
  all_goals
    go_enter Tryd.func69, Tryd.ntmps69
    go_wp2_with fail
    refine (OA.out _).mono ?_
    rintro e w1 ⟨rfl, hb1⟩
    have hb := hb1
    clear hb1
    go_wp2_with fail
    refine (OB.out _).mono ?_
    rintro e w2 ⟨rfl, hb2⟩
    replace hb := hb.trans (hb2.mono hb.size)
    clear hb2
    go_wp2_with fail
    refine (TM.out _).mono ?_
    rintro e w3 ⟨rfl, hb3⟩
    replace hb := hb.trans (hb3.mono hb.size)
    clear hb3
    go_wp2_with fail
    refine (OC.out _).mono ?_
    rintro e w4 ⟨rfl, hb4⟩
    replace hb := hb.trans (hb4.mono hb.size)
    clear hb4
    go_wp2_with fail
    refine (DV.out _).mono ?_
    rintro e w5 ⟨rfl, hb5⟩
    replace hb := hb.trans (hb5.mono hb.size)
    clear hb5
    have hsz := Lib.hid hb.size
    go_upto_region 4 with (fail)
    change Code.wp _ _ _ _ ((w5.alloc (.cells (rwc (dg q)) 160)).alloc (.cells (rwc (dg r)) 160))
    have hQ := (Rw.new w5 (dg q) 160).alloc (.cells (rwc (dg r)) 160)
    have hR := Rw.new' (w := w5.alloc (.cells (rwc (dg q)) 160)) (b := w5.heap.size + 1) (dg r) 160 (by simp)
    replace hb := (hb.alloc hsz.out (.cells (rwc (dg q)) 160)).alloc (by simp; have := hsz.out; omega) (.cells (rwc (dg r)) 160)
    generalize (w5.alloc (.cells (rwc (dg q)) 160)).alloc (.cells (rwc (dg r)) 160) = v1 at *
    generalize w5.heap.size = s at *
    go_wp2_with fail
    refine (NG.out _).mono ?_
    rintro e w6 ⟨rfl, rfl⟩
    obtain ⟨c0, c1, c2, c3, c4, c5, c6, c7, c8, c9, c10, c11⟩ := hR.all
    go_wp2_with fail
    refine (TW.out _).mono ?_
    rintro e w7 ⟨rfl, hb7⟩
    replace hQ := hQ.bel hb7
    replace hR := hR.bel hb7
    replace hb := hb.trans (hb7.mono hb.size)
    clear hb7 c0 c1 c2 c3 c4 c5 c6 c7 c8 c9 c10 c11
    go_wp2_with fail
    refine (OC.out _).mono ?_
    rintro e w8 ⟨rfl, hb8⟩
    replace hQ := hQ.bel hb8
    replace hR := hR.bel hb8
    replace hb := hb.trans (hb8.mono hb.size)
    clear hb8
    go_wp2_with fail
    refine (CM.out _).mono ?_
    rintro e w9 ⟨rfl, hb9⟩
    replace hQ := hQ.bel hb9
    replace hR := hR.bel hb9
    replace hb := hb.trans (hb9.mono hb.size)
    clear hb9
    have hQa := hQ.alloc (.cells (rwc fun _ => 0) 160)
    have hRa := hR.alloc (.cells (rwc fun _ => 0) 160)
    have hba := hb.alloc hb.size (.cells (rwc fun _ => 0) 160)
    have hN := Rw.new w9 (fun _ => 0) 160
    clear hQ hR hb
    obtain ⟨c0, c1, c2, c3, c4, c5, c6, c7, c8, c9, c10, c11⟩ := hRa.all
    obtain ⟨d0, d1, d2, d3, d4, d5, d6, d7, d8, d9, d10, d11⟩ := hN.all
    go_wp2_with fail
    refine (CZ.out _).mono ?_
    rintro e wa ⟨rfl, hb9⟩
    replace hQa := hQa.bel hb9
    replace hba := hba.trans (hb9.mono hba.size)
    clear hb9 hN hRa c0 c1 c2 c3 c4 c5 c6 c7 c8 c9 c10 c11 d0 d1 d2 d3 d4 d5 d6 d7 d8 d9 d10 d11
    obtain ⟨c0, c1, c2, c3, c4, c5, c6, c7, c8, c9, c10, c11⟩ := hQa.all
    go_wp2_with fail
    refine (MR.out _).mono ?_
    rintro e wb ⟨rfl, hb9⟩
    replace hQa := hQa.bel hb9
    replace hba := hba.trans (hb9.mono hba.size)
    clear hb9 c0 c1 c2 c3 c4 c5 c6 c7 c8 c9 c10 c11
    obtain ⟨c0, c1, c2, c3, c4, c5, c6, c7, c8, c9, c10, c11⟩ := hQa.all
    obtain ⟨y0, y1, y2, y3, y4, y5, y6, y7, y8, y9, y10, y11⟩ := hQa.allf
    go_upto_region 11 with (fail)
    change Code.wp _ _ _ _ (rput s (dg (q + 1)) wb)
    replace hQa := hQa.put (dg (q + 1))
    replace hba := rput_below hba hsz.out (dg (q + 1))
    clear c0 c1 c2 c3 c4 c5 c6 c7 c8 c9 c10 c11 y0 y1 y2 y3 y4 y5 y6 y7 y8 y9 y10 y11
    generalize rput s (dg (q + 1)) wb = wc at *
    obtain ⟨c0, c1, c2, c3, c4, c5, c6, c7, c8, c9, c10, c11⟩ := hQa.all
    go_wp2_with fail
    refine (NM.out _).mono ?_
    rintro e wd ⟨rfl, hb9⟩
    go_wp2
    go_ret2
    exact ⟨rfl, hba.trans (hb9.mono hba.size)⟩

end Go.Proofs.YtfejdbmamaggpaaDoor
