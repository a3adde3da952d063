/- The law MaintBack; walked. -/
import Derived.Test.YtfejdbmamaggpaaDoorMaint13
namespace Go.Proofs.YtfejdbmamaggpaaDoor
open Go.ChangeShapes Go.WideShapes Go.ChangeAt Go.RowKit
set_option linter.unusedVariables false
set_option linter.unusedSimpArgs false
def evB (x0 x1 x2 y0 y1 y2 : Int) : Bool := x0 == y0 && (x1 == y1 && x2 == y2)
theorem evB_iff (x0 x1 x2 y0 y1 y2 : Int) : evB x0 x1 x2 y0 y1 y2 = true ↔ x0 = y0 ∧ x1 = y1 ∧ x2 = y2 := by unfold evB; simp
theorem ev_und : Tryd.prog.underlying 54 = some (.struct (Tryd.prog.fieldsOf 54)) := by kernel_rfl
theorem ev_held : Tryd.prog.stoodInHeld 54 = false := by kernel_rfl
theorem eqE (x0 x1 x2 y0 y1 y2 : Int) (w : World) : (Op.equalIn 10000 54 (.agg #[.int .i64 x0, .int .i64 x1, .int .i64 x2]) (.agg #[.int .i64 y0, .int .i64 y1, .int .i64 y2])).run Tryd.prog w = .ok (evB x0 x1 x2 y0 y1 y2) w := by
  rw [show (10000 : Nat) = 9999 + 1 from rfl, run_equalIn_struct w 9999 _ _ _ ev_und ev_held]
  have e := Tryd.underlying54
  simp [Op.eqFields, Program.fieldsOf, go_sem, e, Tryd.underlying3]
  unfold evB
  by_cases h0 : x0 = y0 <;> by_cases h1 : x1 = y1 <;> by_cases h2 : x2 = y2 <;> simp [h0, h1, h2]
theorem ln_eq {a0 a1 a2 b0 b1 b2 : Int} (h : rpB a0 a1 a2 = true) (h' : rpB b0 b1 b2 = true) : ((lnT a0 a1 a2).toList == (lnT b0 b1 b2).toList) = evB a0 a1 a2 b0 b1 b2 := by
  rw [Bool.eq_iff_iff, evB_iff]
  constructor
  · intro e
    have e1 : lnT a0 a1 a2 = lnT b0 b1 b2 := (sqB_iff _ _).1 e
    unfold lnT at e1
    rw [if_pos h, if_pos h'] at e1
    exact lnS_inj h h' e1
  · rintro ⟨rfl, rfl, rfl⟩
    simp
set_option maxRecDepth 100000 in
set_option maxHeartbeats 16000000 in
theorem law_MaintBack (a0 a1 a2 b0 b1 b2 : Int) (s : ByteArray) (w : World) (hE : EvM w) (hsz : s.size ≤ maxLen) : Calls Tryd.prog 12 #[.agg #[.int .i64 a0, .int .i64 a1, .int .i64 a2], .agg #[.int .i64 b0, .int .i64 b1, .int .i64 b2], .string s] w fun e w' => e = .returned (.bool true) ∧ Below w.heap.size w w' := by
  obtain ⟨V, eV, hbV, hA⟩ := ev3_box w a0 a1 a2
  obtain ⟨V2, eV2, hbV2, hB⟩ := ev3_box V b0 b1 b2
  have hA2 := hA.bel hbV2
  have HW := Lib.hid (fun x (k : Below V2.heap.size V2 x) => ((hbV.trans (hbV2.mono hbV.size)).trans (k.mono (Nat.le_trans hbV.size hbV2.size)) : Below w.heap.size w x))
  have HE := Lib.hid (fun x (k : Below V2.heap.size V2 x) => hE.bel (HW.out x k))
  obtain ⟨B, eB⟩ : ∃ B, w.heap.size = B := ⟨_, rfl⟩
  have eB2 : V.heap.size = B + 1 := by rw [eV, ← eB]; simp
  rw [eB] at hA2 hA
  rw [eB2] at hB
  have HA := Lib.hid (fun x (k : Below V2.heap.size V2 x) => (show x.cell? ⟨B, 0, none⟩ = some (.int .i64 a0) ∧ x.cell? ⟨B, 1, none⟩ = some (.int .i64 a1) ∧ x.cell? ⟨B, 2, none⟩ = some (.int .i64 a2) from ⟨((hA2.bel k).one 0 rfl).1, ((hA2.bel k).one 1 rfl).1, ((hA2.bel k).one 2 rfl).1⟩))
  have HB := Lib.hid (fun x (k : Below V2.heap.size V2 x) => (show x.cell? ⟨B + 1, 0, none⟩ = some (.int .i64 b0) ∧ x.cell? ⟨B + 1, 1, none⟩ = some (.int .i64 b1) ∧ x.cell? ⟨B + 1, 2, none⟩ = some (.int .i64 b2) from ⟨((hB.bel k).one 0 rfl).1, ((hB.bel k).one 1 rfl).1, ((hB.bel k).one 2 rfl).1⟩))
  have LV := Lib.hid (fun u => lives49 u)
  have hs' : (s.size : Int) ≤ 9223372036854775807 := by unfold maxLen at hsz; omega
  obtain ⟨a0', a1', a2'⟩ := HA.out V2 (Below.refl _ _)
  obtain ⟨b0', b1', b2'⟩ := HB.out V2 (Below.refl _ _)
  replace eV := Lib.hid eV
  replace eV2 := Lib.hid eV2
  clear hbV hbV2 hA hB hA2 hsz
  by_cases q1 : 300 < s.size
  · have y1 : decide ((300 : Int) < (s.size : Int)) = true := decide_eq_true (by omega)
    clear HA HB
    go_enter Tryd.func12, Tryd.ntmps12
    go_upto_region 1 with (fail)
    try rw [eB]
    rw [← eV.out]
    try rw [eB2]
    rw [← eV2.out]
    go_wp2_with fail
    refine (LV.out _).mono ?_
    rintro r u9 ⟨rfl, hb9⟩
    have hb8 := Lib.hid (HW.out u9 hb9)
    clear hb9
    go_wp2
    go_ret
    exact ⟨rfl, hb8.out⟩
  have y1 : decide ((300 : Int) < (s.size : Int)) = false := decide_eq_false (by omega)
  have PA := Lib.hid (fun z x (hz : z.size ≤ 300) (k : Below V2.heap.size V2 x) => mpars z hz x (HE.out x k))
  have LQ := Lib.hid (fun t c d x (k : Below V2.heap.size V2 x) => mlinE t c d x (HE.out x k).1)
  have PS := Lib.hid (fun x (k : Below V2.heap.size V2 x) => PA.out s x (by omega) k)
  have PL := Lib.hid (fun x (k : Below V2.heap.size V2 x) => PA.out (lnT a0 a1 a2) x (by have := lnT_len a0 a1 a2; omega) k)
  have LA := fun x (k : Below V2.heap.size V2 x) => LQ.out a0 a1 a2 x k
  have LB := fun x (k : Below V2.heap.size V2 x) => LQ.out b0 b1 b2 x k
  have hs3 : (s.size : Int) ≤ 300 := by omega
  clear PA q1 HE hE
  cases hA : rpB a0 a1 a2 with
  | false =>
    rw [hA] at LA
    generalize lnT a0 a1 a2 = X at *
    generalize lnT b0 b1 b2 = Y at *
    generalize rpB b0 b1 b2 = bb at *
    replace LA := Lib.hid LA
    replace LB := Lib.hid LB
    clear hA PL
    go_enter Tryd.func12, Tryd.ntmps12
    go_upto_region 1 with (fail)
    try rw [eB]
    rw [← eV.out]
    try rw [eB2]
    rw [← eV2.out]
    go_upto_region 3 with (fail)
    go_wp2_with fail
    refine (LA.out V2 (Below.refl _ _)).mono ?_
    rintro e u1 ⟨rfl, hb⟩
    have k1 := Lib.hid (show Below V2.heap.size V2 u1 from hb)
    clear hb a0' b0'
    obtain ⟨a0', a1', a2'⟩ := HA.out u1 k1.out
    obtain ⟨b0', b1', b2'⟩ := HB.out u1 k1.out
    go_wp2_with fail
    refine (LB.out u1 k1.out).mono ?_
    rintro e u2 ⟨rfl, hb⟩
    have k2 := Lib.hid (show Below V2.heap.size V2 u2 from k1.out.trans (hb.mono k1.out.size))
    clear hb a0' b0' a1' b1' a2' b2'
    go_wp2_with fail
    refine (PS.out u2 k2.out).mono ?_
    rintro e u5 ⟨t, c, d, ok, rfl, hps, hb⟩
    have k5 := Lib.hid (show Below V2.heap.size V2 u5 from k2.out.trans (hb.mono k2.out.size))
    clear hb
    obtain ⟨V6, eV6, hb6, hH6⟩ := ev3_box u5 t c d
    have k6 := Lib.hid (show Below V2.heap.size V2 V6 from k5.out.trans (hb6.mono k5.out.size))
    obtain ⟨Bt, eBt⟩ : ∃ B, u5.heap.size = B := ⟨_, rfl⟩
    rw [eBt] at hH6
    obtain ⟨y0, f0⟩ := hH6.one 0 rfl
    obtain ⟨y1, f1⟩ := hH6.one 1 rfl
    obtain ⟨y2, f2⟩ := hH6.one 2 rfl
    replace eV6 := Lib.hid eV6
    clear hb6
    go_upto_region 10 with (fail)
    try rw [eBt]
    try rw [← eV6.out]
    cases ok with
    | false =>
      obtain ⟨⟨rfl, rfl, rfl⟩, -⟩ := hps.2 rfl
      have TZ := fun u => eqE 0 0 0 0 0 0 u
      rw [show evB 0 0 0 0 0 0 = true by decide] at TZ
      clear hps
      go_wp2_with fail
      refine (LV.out V6).mono ?_
      rintro e u7 ⟨rfl, hb⟩
      have k7 := Lib.hid (show Below V2.heap.size V2 u7 from k6.out.trans (hb.mono k6.out.size))
      clear hb
      go_wp2
      go_ret
      exact ⟨rfl, HW.out u7 k7.out⟩
    | true =>
      obtain ⟨p1, p2⟩ := hps.1 rfl
      have e0 : lnT t c d = s := by unfold lnT; rw [if_pos p1]; exact p2
      have LT := Lib.hid (LQ.out t c d V6 k6.out)
      rw [e0, p1] at LT
      clear hps p1 p2 e0
      go_wp2_with fail
      refine LT.out.mono ?_
      rintro e u7 ⟨rfl, hb⟩
      have k7 := Lib.hid (show Below V2.heap.size V2 u7 from k6.out.trans (hb.mono k6.out.size))
      clear hb LT
      go_wp2_with fail
      refine (LV.out u7).mono ?_
      rintro e u8 ⟨rfl, hb⟩
      have k8 := Lib.hid (show Below V2.heap.size V2 u8 from k7.out.trans (hb.mono k7.out.size))
      clear hb
      go_wp2
      go_ret
      exact ⟨rfl, HW.out u8 k8.out⟩
  | true =>
    have TLD := Lib.hid (fun t c d ok (h : PsR (lnT a0 a1 a2) t c d ok) => PsR.told hA (by rw [show lnS a0 a1 a2 = lnT a0 a1 a2 from (if_pos hA).symm]; exact h))
    have TQ := fun u => eqE a0 a1 a2 a0 a1 a2 u
    rw [show evB a0 a1 a2 a0 a1 a2 = true from (evB_iff _ _ _ _ _ _).2 ⟨rfl, rfl, rfl⟩] at TQ
    cases hB : rpB b0 b1 b2 with
    | false =>
      rw [hA] at LA
      rw [hB] at LB
      generalize lnT a0 a1 a2 = X at *
      generalize lnT b0 b1 b2 = Y at *
      replace LA := Lib.hid LA
      replace LB := Lib.hid LB
      clear hA hB
      go_enter Tryd.func12, Tryd.ntmps12
      go_upto_region 1 with (fail)
      try rw [eB]
      rw [← eV.out]
      try rw [eB2]
      rw [← eV2.out]
      go_upto_region 3 with (fail)
      go_wp2_with fail
      refine (LA.out V2 (Below.refl _ _)).mono ?_
      rintro e u1 ⟨rfl, hb⟩
      have k1 := Lib.hid (show Below V2.heap.size V2 u1 from hb)
      clear hb a0' b0'
      obtain ⟨a0', a1', a2'⟩ := HA.out u1 k1.out
      obtain ⟨b0', b1', b2'⟩ := HB.out u1 k1.out
      go_wp2_with fail
      refine (LB.out u1 k1.out).mono ?_
      rintro e u2 ⟨rfl, hb⟩
      have k2 := Lib.hid (show Below V2.heap.size V2 u2 from k1.out.trans (hb.mono k1.out.size))
      clear hb a0' b0' a1' b1' a2' b2'
      obtain ⟨a0', a1', a2'⟩ := HA.out u2 k2.out
      obtain ⟨b0', b1', b2'⟩ := HB.out u2 k2.out
      go_wp2_with fail
      refine (PL.out u2 k2.out).mono ?_
      rintro e u3 ⟨t, c, d, ok, rfl, hps, hb⟩
      obtain ⟨rfl, rfl, rfl, rfl⟩ := TLD.out _ _ _ _ hps
      have k3 := Lib.hid (show Below V2.heap.size V2 u3 from k2.out.trans (hb.mono k2.out.size))
      clear hb a0' b0' a1' b1' a2' b2' hps
      obtain ⟨V4, eV4, hb4, hH4⟩ := ev3_box u3 t c d
      have k4 := Lib.hid (show Below V2.heap.size V2 V4 from k3.out.trans (hb4.mono k3.out.size))
      obtain ⟨Bx, eBx⟩ : ∃ B, u3.heap.size = B := ⟨_, rfl⟩
      rw [eBx] at hH4
      obtain ⟨y0, f0⟩ := hH4.one 0 rfl
      obtain ⟨y1, f1⟩ := hH4.one 1 rfl
      obtain ⟨y2, f2⟩ := hH4.one 2 rfl
      replace eV4 := Lib.hid eV4
      obtain ⟨a0', a1', a2'⟩ := HA.out V4 k4.out
      obtain ⟨b0', b1', b2'⟩ := HB.out V4 k4.out
      clear hb4
      go_upto_region 7 with (fail)
      try rw [eBx]
      try rw [← eV4.out]
      go_upto_region 9 with (fail)
      clear a0' b0' a1' b1' a2' b2' y0 y1 y2 f0 f1 f2 hH4
      go_wp2_with fail
      refine (PS.out V4 k4.out).mono ?_
      rintro e u5 ⟨t, c, d, ok, rfl, hps, hb⟩
      have k5 := Lib.hid (show Below V2.heap.size V2 u5 from k4.out.trans (hb.mono k4.out.size))
      clear hb
      obtain ⟨V6, eV6, hb6, hH6⟩ := ev3_box u5 t c d
      have k6 := Lib.hid (show Below V2.heap.size V2 V6 from k5.out.trans (hb6.mono k5.out.size))
      obtain ⟨Bt, eBt⟩ : ∃ B, u5.heap.size = B := ⟨_, rfl⟩
      rw [eBt] at hH6
      obtain ⟨y0, f0⟩ := hH6.one 0 rfl
      obtain ⟨y1, f1⟩ := hH6.one 1 rfl
      obtain ⟨y2, f2⟩ := hH6.one 2 rfl
      replace eV6 := Lib.hid eV6
      clear hb6
      go_upto_region 10 with (fail)
      try rw [eBt]
      try rw [← eV6.out]
      cases ok with
      | false =>
        obtain ⟨⟨rfl, rfl, rfl⟩, -⟩ := hps.2 rfl
        have TZ := fun u => eqE 0 0 0 0 0 0 u
        rw [show evB 0 0 0 0 0 0 = true by decide] at TZ
        clear hps
        go_wp2_with fail
        refine (LV.out V6).mono ?_
        rintro e u7 ⟨rfl, hb⟩
        have k7 := Lib.hid (show Below V2.heap.size V2 u7 from k6.out.trans (hb.mono k6.out.size))
        clear hb
        go_wp2
        go_ret
        exact ⟨rfl, HW.out u7 k7.out⟩
      | true =>
        obtain ⟨p1, p2⟩ := hps.1 rfl
        have e0 : lnT t c d = s := by unfold lnT; rw [if_pos p1]; exact p2
        have LT := Lib.hid (LQ.out t c d V6 k6.out)
        rw [e0, p1] at LT
        clear hps p1 p2 e0
        go_wp2_with fail
        refine LT.out.mono ?_
        rintro e u7 ⟨rfl, hb⟩
        have k7 := Lib.hid (show Below V2.heap.size V2 u7 from k6.out.trans (hb.mono k6.out.size))
        clear hb LT
        go_wp2_with fail
        refine (LV.out u7).mono ?_
        rintro e u8 ⟨rfl, hb⟩
        have k8 := Lib.hid (show Below V2.heap.size V2 u8 from k7.out.trans (hb.mono k7.out.size))
        clear hb
        go_wp2
        go_ret
        exact ⟨rfl, HW.out u8 k8.out⟩
    | true =>
      have TR := fun u => eqE a0 a1 a2 b0 b1 b2 u
      have ST := ln_eq hA hB
      rw [hA] at LA
      rw [hB] at LB
      generalize evB a0 a1 a2 b0 b1 b2 = eb at *
      generalize lnT a0 a1 a2 = X at *
      generalize lnT b0 b1 b2 = Y at *
      replace LA := Lib.hid LA
      replace LB := Lib.hid LB
      clear hA hB
      go_enter Tryd.func12, Tryd.ntmps12
      go_upto_region 1 with (fail)
      try rw [eB]
      rw [← eV.out]
      try rw [eB2]
      rw [← eV2.out]
      go_upto_region 3 with (fail)
      go_wp2_with fail
      refine (LA.out V2 (Below.refl _ _)).mono ?_
      rintro e u1 ⟨rfl, hb⟩
      have k1 := Lib.hid (show Below V2.heap.size V2 u1 from hb)
      clear hb a0' b0'
      obtain ⟨a0', a1', a2'⟩ := HA.out u1 k1.out
      obtain ⟨b0', b1', b2'⟩ := HB.out u1 k1.out
      go_wp2_with fail
      refine (LB.out u1 k1.out).mono ?_
      rintro e u2 ⟨rfl, hb⟩
      have k2 := Lib.hid (show Below V2.heap.size V2 u2 from k1.out.trans (hb.mono k1.out.size))
      clear hb a0' b0' a1' b1' a2' b2'
      obtain ⟨a0', a1', a2'⟩ := HA.out u2 k2.out
      obtain ⟨b0', b1', b2'⟩ := HB.out u2 k2.out
      go_wp2_with fail
      refine (PL.out u2 k2.out).mono ?_
      rintro e u3 ⟨t, c, d, ok, rfl, hps, hb⟩
      obtain ⟨rfl, rfl, rfl, rfl⟩ := TLD.out _ _ _ _ hps
      have k3 := Lib.hid (show Below V2.heap.size V2 u3 from k2.out.trans (hb.mono k2.out.size))
      clear hb a0' b0' a1' b1' a2' b2' hps
      obtain ⟨V4, eV4, hb4, hH4⟩ := ev3_box u3 t c d
      have k4 := Lib.hid (show Below V2.heap.size V2 V4 from k3.out.trans (hb4.mono k3.out.size))
      obtain ⟨Bx, eBx⟩ : ∃ B, u3.heap.size = B := ⟨_, rfl⟩
      rw [eBx] at hH4
      obtain ⟨y0, f0⟩ := hH4.one 0 rfl
      obtain ⟨y1, f1⟩ := hH4.one 1 rfl
      obtain ⟨y2, f2⟩ := hH4.one 2 rfl
      replace eV4 := Lib.hid eV4
      obtain ⟨a0', a1', a2'⟩ := HA.out V4 k4.out
      obtain ⟨b0', b1', b2'⟩ := HB.out V4 k4.out
      clear hb4
      go_upto_region 7 with (fail)
      try rw [eBx]
      try rw [← eV4.out]
      go_upto_region 9 with (fail)
      clear a0' b0' a1' b1' a2' b2' y0 y1 y2 f0 f1 f2 hH4
      go_wp2_with fail
      refine (PS.out V4 k4.out).mono ?_
      rintro e u5 ⟨t, c, d, ok, rfl, hps, hb⟩
      have k5 := Lib.hid (show Below V2.heap.size V2 u5 from k4.out.trans (hb.mono k4.out.size))
      clear hb
      obtain ⟨V6, eV6, hb6, hH6⟩ := ev3_box u5 t c d
      have k6 := Lib.hid (show Below V2.heap.size V2 V6 from k5.out.trans (hb6.mono k5.out.size))
      obtain ⟨Bt, eBt⟩ : ∃ B, u5.heap.size = B := ⟨_, rfl⟩
      rw [eBt] at hH6
      obtain ⟨y0, f0⟩ := hH6.one 0 rfl
      obtain ⟨y1, f1⟩ := hH6.one 1 rfl
      obtain ⟨y2, f2⟩ := hH6.one 2 rfl
      replace eV6 := Lib.hid eV6
      clear hb6
      go_upto_region 10 with (fail)
      try rw [eBt]
      try rw [← eV6.out]
      cases ok with
      | false =>
        obtain ⟨⟨rfl, rfl, rfl⟩, -⟩ := hps.2 rfl
        have TZ := fun u => eqE 0 0 0 0 0 0 u
        rw [show evB 0 0 0 0 0 0 = true by decide] at TZ
        clear hps
        go_wp2_with fail
        refine (LV.out V6).mono ?_
        rintro e u7 ⟨rfl, hb⟩
        have k7 := Lib.hid (show Below V2.heap.size V2 u7 from k6.out.trans (hb.mono k6.out.size))
        clear hb
        go_wp2
        go_ret
        exact ⟨rfl, HW.out u7 k7.out⟩
      | true =>
        obtain ⟨p1, p2⟩ := hps.1 rfl
        have e0 : lnT t c d = s := by unfold lnT; rw [if_pos p1]; exact p2
        have LT := Lib.hid (LQ.out t c d V6 k6.out)
        rw [e0, p1] at LT
        clear hps p1 p2 e0
        go_wp2_with fail
        refine LT.out.mono ?_
        rintro e u7 ⟨rfl, hb⟩
        have k7 := Lib.hid (show Below V2.heap.size V2 u7 from k6.out.trans (hb.mono k6.out.size))
        clear hb LT
        go_wp2_with fail
        refine (LV.out u7).mono ?_
        rintro e u8 ⟨rfl, hb⟩
        have k8 := Lib.hid (show Below V2.heap.size V2 u8 from k7.out.trans (hb.mono k7.out.size))
        clear hb
        go_wp2
        go_ret
        exact ⟨rfl, HW.out u8 k8.out⟩
end Go.Proofs.YtfejdbmamaggpaaDoor
