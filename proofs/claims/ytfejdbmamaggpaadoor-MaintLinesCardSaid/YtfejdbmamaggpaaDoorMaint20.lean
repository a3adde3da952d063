/- The law MaintLines; walked. -/
import Derived.Test.YtfejdbmamaggpaaDoorMaint14
import Derived.Test.YtfejdbmamaggpaaDoorMaint19
namespace Go.Proofs.YtfejdbmamaggpaaDoor
open Go.ChangeShapes Go.WideShapes Go.ChangeAt Go.RowKit
set_option linter.unusedVariables false
set_option linter.unusedSimpArgs false
set_option maxRecDepth 100000 in
set_option maxHeartbeats 16000000 in
theorem law_MaintLines (a0 a1 a2 : Int) (s : ByteArray) (w : World) (hE : EvM w) (hsz : s.size ≤ maxLen) : Calls Tryd.prog 8 #[.agg #[.int .i64 a0, .int .i64 a1, .int .i64 a2], .string s] w fun e w' => e = .returned (.bool true) ∧ Below w.heap.size w w' := by
  obtain ⟨V, eV, hbV, hA⟩ := ev3_box w a0 a1 a2
  have HW := Lib.hid (fun x (k : Below V.heap.size V x) => (hbV.trans (k.mono hbV.size) : Below w.heap.size w x))
  have HE := Lib.hid (fun x (k : Below V.heap.size V x) => hE.bel (HW.out x k))
  obtain ⟨B, eB⟩ : ∃ B, w.heap.size = B := ⟨_, rfl⟩
  rw [eB] at hA
  have HA := Lib.hid (fun x (k : Below V.heap.size V x) => (show x.cell? ⟨B, 0, none⟩ = some (.int .i64 a0) ∧ x.cell? ⟨B, 1, none⟩ = some (.int .i64 a1) ∧ x.cell? ⟨B, 2, none⟩ = some (.int .i64 a2) from ⟨((hA.bel k).one 0 rfl).1, ((hA.bel k).one 1 rfl).1, ((hA.bel k).one 2 rfl).1⟩))
  have LV := Lib.hid (fun u => lives49 u)
  have hs' : (s.size : Int) ≤ 9223372036854775807 := by unfold maxLen at hsz; omega
  obtain ⟨a0', a1', a2'⟩ := HA.out V (Below.refl _ _)
  replace eV := Lib.hid eV
  clear hbV hA hsz
  by_cases q1 : 300 < s.size
  · have y1 : decide ((300 : Int) < (s.size : Int)) = true := decide_eq_true (by omega)
    clear HA
    go_enter Tryd.func8, Tryd.ntmps8
    go_upto_region 1 with (fail)
    try rw [eB]
    rw [← eV.out]
    go_wp2_with fail
    refine (LV.out _).mono ?_
    rintro r u9 ⟨rfl, hb9⟩
    have hb8 := Lib.hid (HW.out u9 hb9)
    clear hb9
    go_wp2
    go_ret
    exact ⟨rfl, hb8.out⟩
  have y1 : decide ((300 : Int) < (s.size : Int)) = false := decide_eq_false (by omega)
  have PS := Lib.hid (fun x (k : Below V.heap.size V x) => mpars s (by omega) x (HE.out x k))
  have PR := Lib.hid (fun x => rpars s (by omega) x)
  have LA := Lib.hid (fun x (k : Below V.heap.size V x) => mlinE a0 a1 a2 x (HE.out x k).1)
  have LB := Lib.hid (fun x => rlinE a0 a1 a2 x)
  have NA := Lib.hid (fun x => mnameX a1 x)
  have NB := Lib.hid (fun x => rnameX a1 x)
  have hs3 : (s.size : Int) ≤ 300 := by omega
  clear q1 HE hE
  generalize lnT a0 a1 a2 = X at *
  generalize rpB a0 a1 a2 = bX at *
  generalize nmT a1 = Y at *
  generalize nmB a1 = bY at *
  go_enter Tryd.func8, Tryd.ntmps8
  go_upto_region 1 with (fail)
  try rw [eB]
  rw [← eV.out]
  go_upto_region 3 with (fail)
  go_wp2_with fail
  refine (LA.out V (Below.refl _ _)).mono ?_
  rintro e u1 ⟨rfl, hb⟩
  have k1 := Lib.hid (show Below V.heap.size V u1 from hb)
  clear hb a0' a1' a2' LA
  obtain ⟨a0', a1', a2'⟩ := HA.out u1 k1.out
  go_wp2_with fail
  refine (LB.out u1).mono ?_
  rintro e u2 ⟨rfl, hb⟩
  have k2 := Lib.hid (show Below V.heap.size V u2 from k1.out.trans (hb.mono k1.out.size))
  clear hb a0' a1' a2' LB
  obtain ⟨a0', a1', a2'⟩ := HA.out u2 k2.out
  go_wp2_with fail
  refine (NA.out u2).mono ?_
  rintro e u3 ⟨rfl, hb⟩
  have k3 := Lib.hid (show Below V.heap.size V u3 from k2.out.trans (hb.mono k2.out.size))
  clear hb a0' a1' a2' NA
  obtain ⟨a0', a1', a2'⟩ := HA.out u3 k3.out
  go_wp2_with fail
  refine (NB.out u3).mono ?_
  rintro e u4 ⟨rfl, hb⟩
  have k4 := Lib.hid (show Below V.heap.size V u4 from k3.out.trans (hb.mono k3.out.size))
  clear hb a0' a1' a2' NB HA
  go_wp2_with fail
  refine (PS.out u4 k4.out).mono ?_
  rintro e u5 ⟨t, c, d, ok, rfl, hp1, hb⟩
  have k5 := Lib.hid (show Below V.heap.size V u5 from k4.out.trans (hb.mono k4.out.size))
  clear hb PS
  obtain ⟨V6, eV6, hb6, hH6⟩ := ev3_box u5 t c d
  have k6 := Lib.hid (show Below V.heap.size V V6 from k5.out.trans (hb6.mono k5.out.size))
  obtain ⟨Bt, eBt⟩ : ∃ B, u5.heap.size = B := ⟨_, rfl⟩
  rw [eBt] at hH6
  replace eV6 := Lib.hid eV6
  replace hH6 := Lib.hid hH6
  clear hb6
  go_upto_region 8 with (fail)
  try rw [eBt]
  try rw [← eV6.out]
  go_wp2_with fail
  refine (PR.out V6).mono ?_
  rintro e u7 ⟨t', c', d', ok', rfl, hp2, hb⟩
  obtain ⟨rfl, rfl, rfl, rfl⟩ := hp1.uniq hp2
  have k7 := Lib.hid (show Below V.heap.size V u7 from k6.out.trans (hb.mono k6.out.size))
  have hH7 := Lib.hid (hH6.out.bel hb)
  clear hb PR hp1 hp2 hH6
  obtain ⟨V8, eV8, hb8, hH8⟩ := ev3_box u7 t c d
  have k8 := Lib.hid (show Below V.heap.size V V8 from k7.out.trans (hb8.mono k7.out.size))
  have hG8 := hH7.out.bel hb8
  obtain ⟨Bu, eBu⟩ : ∃ B, u7.heap.size = B := ⟨_, rfl⟩
  rw [eBu] at hH8
  replace eV8 := Lib.hid eV8
  obtain ⟨y0, f0⟩ := hH8.one 0 rfl
  obtain ⟨y1', f1⟩ := hH8.one 1 rfl
  obtain ⟨y2, f2⟩ := hH8.one 2 rfl
  obtain ⟨z0, g0⟩ := hG8.one 0 rfl
  obtain ⟨z1, g1⟩ := hG8.one 1 rfl
  obtain ⟨z2, g2⟩ := hG8.one 2 rfl
  clear hb8 hH7 hH8 hG8
  go_upto_region 9 with (fail)
  try rw [eBu]
  try rw [← eV8.out]
  have TQ := fun u => eqE t c d t c d u
  rw [show evB t c d t c d = true from (evB_iff _ _ _ _ _ _).2 ⟨rfl, rfl, rfl⟩] at TQ
  go_wp2_with fail
  refine (LV.out _).mono ?_
  rintro e u9 ⟨rfl, hb⟩
  have k9 := Lib.hid (show Below V.heap.size V u9 from k8.out.trans (hb.mono k8.out.size))
  clear hb
  go_wp2
  go_ret
  exact ⟨rfl, HW.out u9 k9.out⟩
end Go.Proofs.YtfejdbmamaggpaaDoor
