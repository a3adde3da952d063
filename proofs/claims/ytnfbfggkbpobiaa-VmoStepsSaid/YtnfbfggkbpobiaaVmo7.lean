/- The law VmoSteps, walked. -/
import Derived.Test.YtnfbfggkbpobiaaVmo6
import Derived.Deep.Cut
namespace Go.Proofs.Ytnfbfggkbpobiaa
open Go.ChangeShapes Go.WideShapes Go.ChangeAt Go.RowKit
set_option linter.unusedVariables false
set_option linter.unusedSimpArgs false
theorem quad_at {w : World} {t : Option Addr} {rows : List (List Value)} (h : Tab [some .i64, some .i64, some .i64, some .i64] w t rows) {i : Nat} (hi : i < rows.length) :
    ∃ b off a c d e, t = some ⟨b, off, none⟩ ∧ b < w.heap.size ∧ (-9223372036854775808 ≤ d ∧ d ≤ 9223372036854775807) ∧ ∀ v, Below w.heap.size w v → v.cell? ⟨b, off + i * 4, none⟩ = some (.int .i64 a) ∧ v.cell? ⟨b, off + i * 4 + 1, none⟩ = some (.int .i64 c) ∧ v.cell? ⟨b, off + i * 4 + 2, none⟩ = some (.int .i64 d) ∧ v.cell? ⟨b, off + i * 4 + 3, none⟩ = some (.int .i64 e) := by
  obtain ⟨tb, off, r, rfl, htb, hr, hfl, hcell⟩ := h.at hi
  obtain ⟨x0, _, rfl, w0, hfl⟩ := hfl
  obtain ⟨x1, _, rfl, w1, hfl⟩ := hfl
  obtain ⟨x2, _, rfl, w2, hfl⟩ := hfl
  obtain ⟨x3, _, rfl, w3, hfl⟩ := hfl
  have hfl : _ = _ := hfl
  subst hfl
  exact ⟨tb, off, x0, x1, x2, x3, rfl, htb, i64_bd w2, fun v hv => ⟨(bc hv htb).trans (hcell 0 _ rfl), (bc hv htb).trans (hcell 1 _ rfl), (bc hv htb).trans (hcell 2 _ rfl), (bc hv htb).trans (hcell 3 _ rfl)⟩⟩
theorem vst_box (w : World) (a1 a2 a3 a4 : Option Addr) (e1 e2 e3 e4 : Nat) (X Y Z T : List Int) (ma mg tk : Int) : ∃ V, V = (w.alloc (.cells #[.slice a1 X.length e1, .slice a2 Y.length e2, .slice a3 Z.length e3, .slice a4 T.length e4, .int .i64 ma, .int .i64 mg, .int .i64 tk] 82)) ∧ Below w.heap.size w V ∧ V.heap.size = w.heap.size + 1 ∧ ∀ u, Below (w.heap.size + 1) V u → u.cell? ⟨w.heap.size, 0, none⟩ = some (.slice a1 X.length e1) ∧ u.cell? ⟨w.heap.size, 1, none⟩ = some (.slice a2 Y.length e2) ∧ u.cell? ⟨w.heap.size, 2, none⟩ = some (.slice a3 Z.length e3) ∧ u.cell? ⟨w.heap.size, 3, none⟩ = some (.slice a4 T.length e4) ∧ u.cell? ⟨w.heap.size, 4, none⟩ = some (.int .i64 ma) ∧ u.cell? ⟨w.heap.size, 5, none⟩ = some (.int .i64 mg) ∧ u.cell? ⟨w.heap.size, 6, none⟩ = some (.int .i64 tk) :=
  ⟨_, rfl, (by repeat (first | exact Below.refl _ _ | assumption | apply Below.drew | apply below_drewN | (refine Below.alloc ?_ (by first | exact Nat.le_refl _ | omega | (simp <;> omega)) _) | (refine Below.setCell ?_ (by first | exact Nat.le_refl _ | omega | (simp <;> omega)) _))), by simp, fun u hu => ⟨(bc hu (by omega)).trans (by go_simp), (bc hu (by omega)).trans (by go_simp), (bc hu (by omega)).trans (by go_simp), (bc hu (by omega)).trans (by go_simp), (bc hu (by omega)).trans (by go_simp), (bc hu (by omega)).trans (by go_simp), (bc hu (by omega)).trans (by go_simp)⟩⟩
theorem Wrn.off5 {b g1 c1 g2 c2 g3 c3 g4 c4 k : Nat} {X Y Z T : List Int} {ma mg tk r1 : Int} {o1 : Bool} {r2 : Int} {o2 cr : Bool} {w w' : World} (h : Wrn b g1 c1 g2 c2 g3 c3 g4 c4 X Y Z T ma mg tk r1 o1 r2 o2 cr w) (j : Beside k w w') (h0 : b ≠ k) (h1 : g1 ≠ k) (h2 : g2 ≠ k) (h3 : g3 ≠ k) (h4 : g4 ≠ k) : Wrn b g1 c1 g2 c2 g3 c3 g4 c4 X Y Z T ma mg tk r1 o1 r2 o2 cr w' :=
  ⟨h.m.beside j h0, h.x1.beside2 j h1, h.x2.beside2 j h2, h.x3.beside2 j h3, h.x4.beside2 j h4, h.n1, h.n2, h.n3, h.n4⟩
set_option maxRecDepth 100000 in
set_option maxHeartbeats 8000000 in
theorem vclear_any (b g1 c1 g2 c2 g3 c3 g4 c4 : Nat) (X Y Z T : List Int) (ma mg tk r1 : Int) (o1 : Bool) (r2 : Int) (o2 cr : Bool) (w : World) (h : Wrn b g1 c1 g2 c2 g3 c3 g4 c4 X Y Z T ma mg tk r1 o1 r2 o2 cr w) : Calls Try.prog 52 #[.pointer (some ⟨b, 0, none⟩)] w fun e w' => e = .returned (.tuple #[]) ∧ Wrn b g1 c1 g2 c2 g3 c3 g4 c4 X Y Z T ma mg tk 0 false 0 false false w' ∧ Beside b w w' := by
  have hm := h.m
  obtain ⟨z0, q0⟩ := hm.one 0 rfl
  obtain ⟨z1, q1⟩ := hm.one 1 rfl
  obtain ⟨z2, q2⟩ := hm.one 2 rfl
  obtain ⟨z3, q3⟩ := hm.one 3 rfl
  obtain ⟨z4, q4⟩ := hm.one 4 rfl
  obtain ⟨z5, q5⟩ := hm.one 5 rfl
  obtain ⟨z6, q6⟩ := hm.one 6 rfl
  obtain ⟨z7, q7⟩ := hm.one 7 rfl
  obtain ⟨z8, q8⟩ := hm.one 8 rfl
  obtain ⟨z9, q9⟩ := hm.one 9 rfl
  obtain ⟨z10, q10⟩ := hm.one 10 rfl
  obtain ⟨z11, q11⟩ := hm.one 11 rfl
  go_enter Try.func52, Try.ntmps52
  go_wp2
  go_end0
  have fin := ((((((HB.start hm).set 7 (.int .i64 0) (by simp [woC])).set 8 (.bool false) (by simp [woC])).set 9 (.int .i64 0) (by simp [woC])).set 10 (.bool false) (by simp [woC])).set 11 (.bool false) (by simp [woC])).fin rfl rfl rfl rfl
  exact ⟨rfl, h.beside (s1 := 0) (q1 := false) (s2 := 0) (q2 := false) (q3 := false) fin.2 fin.1, fin.2⟩
set_option maxRecDepth 100000 in
set_option maxHeartbeats 8000000 in
theorem law_VmoSteps (a1 a2 a3 a4 : Option Addr) (e1 e2 e3 e4 : Nat) (X Y Z T : List Int) (ma mg tk : Int) (t : Option Addr) (cap : Nat) (rows : List (List Value)) (w : World) (hr1 : RowIs .i64 w a1 X) (hr2 : RowIs .i64 w a2 Y) (hr3 : RowIs .i64 w a3 Z) (hr4 : RowIs .i64 w a4 T) (ht : Tab [some .i64, some .i64, some .i64, some .i64] w t rows) (hl : rows.length ≤ maxLen) :
    Calls Try.prog 13 #[.agg #[.slice a1 X.length e1, .slice a2 Y.length e2, .slice a3 Z.length e3, .slice a4 T.length e4, .int .i64 ma, .int .i64 mg, .int .i64 tk], .slice t rows.length cap] w fun e w' => e = .returned (.bool true) ∧ Below w.heap.size w w' := by
  unfold maxLen at hl
  have LV := Lib.hid (fun u => lives43 u)
  have GR := fun u => vgreat a1 a2 a3 a4 e1 e2 e3 e4 X Y Z T ma mg tk u
  obtain ⟨V, eV, hb0, hz, hcs⟩ := vst_box w a1 a2 a3 a4 e1 e2 e3 e4 X Y Z T ma mg tk
  have W := fun u (h : Below (w.heap.size + 1) V u) => show Below w.heap.size w u from hb0.trans (h.mono (by omega))
  cases hgr : vgB X Y Z T
  case true =>
    rw [hgr] at GR
    replace GR := Lib.hid GR
    clear hgr hr1 hr2 hr3 hr4 W ht hl
    replace hb0 := Lib.hid hb0
    replace hz := Lib.hid hz
    replace hcs := Lib.hid hcs
    replace eV := Lib.hid eV
    go_enter Try.func13, Try.ntmps13
    go_wp2_with fail
    rw [← eV.out]
    obtain ⟨k0, k1, k2, k3, k4, k5, k6⟩ := hcs.out _ (Below.refl _ _)
    go_wp2_with fail
    refine (GR.out _).mono ?_
    rintro e w1 ⟨rfl, hb1⟩
    have hb1 := (Below.refl (w.heap.size + 1) V).trans (hb1.mono (Nat.le_of_eq hz.out.symm))
    obtain ⟨k0, k1, k2, k3, k4, k5, k6⟩ := hcs.out _ hb1
    go_wp2_with fail
    refine (LV.out _).mono ?_
    rintro e w2 ⟨rfl, hb2⟩
    have hb2 := hb1.trans (hb2.mono (by have := hb1.size; have := hz.out; omega))
    clear hb1
    go_wp2
    go_ret
    exact ⟨rfl, hb0.out.trans (hb2.mono (by omega))⟩
  rw [hgr] at GR
  replace GR := Lib.hid GR
  obtain ⟨hl1, hl2, hl3, hl4⟩ := vgB_no hgr
  clear hgr
  by_cases hL : 100 < rows.length
  · have dl : (100 : Int) < (rows.length : Int) := by omega
    clear hr1 hr2 hr3 hr4 ht hl W hL hl1 hl2 hl3 hl4
    replace hb0 := Lib.hid hb0
    replace hz := Lib.hid hz
    replace hcs := Lib.hid hcs
    replace eV := Lib.hid eV
    go_enter Try.func13, Try.ntmps13
    go_wp2_with fail
    rw [← eV.out]
    obtain ⟨k0, k1, k2, k3, k4, k5, k6⟩ := hcs.out _ (Below.refl _ _)
    go_wp2_with fail
    refine (GR.out _).mono ?_
    rintro e w1 ⟨rfl, hb1⟩
    have hb1 := (Below.refl (w.heap.size + 1) V).trans (hb1.mono (Nat.le_of_eq hz.out.symm))
    obtain ⟨k0, k1, k2, k3, k4, k5, k6⟩ := hcs.out _ hb1
    go_wp2_with fail
    refine (LV.out _).mono ?_
    rintro e w2 ⟨rfl, hb2⟩
    have hb2 := hb1.trans (hb2.mono (by have := hb1.size; have := hz.out; omega))
    clear hb1
    go_wp2
    go_ret
    exact ⟨rfl, hb0.out.trans (hb2.mono (by omega))⟩
  have dl : (rows.length : Int) ≤ 100 := by omega
  cases hw : voB X Y Z T ma mg tk
  case false =>
    have NW := Lib.hid (fun u (h : Below (w.heap.size + 1) V u) => vnew_no a1 a2 a3 a4 e1 e2 e3 e4 X Y Z T ma mg tk u (hr1.below (W u h)) (hr2.below (W u h)) (hr3.below (W u h)) (hr4.below (W u h)) hl1 hl2 hl3 hl4 hw)
    clear hw hr1 hr2 hr3 hr4 hl1 hl2 hl3 hl4 W ht hl hL
    replace hb0 := Lib.hid hb0
    replace hz := Lib.hid hz
    replace hcs := Lib.hid hcs
    replace eV := Lib.hid eV
    go_enter Try.func13, Try.ntmps13
    go_wp2_with fail
    rw [← eV.out]
    obtain ⟨k0, k1, k2, k3, k4, k5, k6⟩ := hcs.out _ (Below.refl _ _)
    go_wp2_with fail
    refine (GR.out _).mono ?_
    rintro e w1 ⟨rfl, hb1⟩
    have hb1 := (Below.refl (w.heap.size + 1) V).trans (hb1.mono (Nat.le_of_eq hz.out.symm))
    obtain ⟨k0, k1, k2, k3, k4, k5, k6⟩ := hcs.out _ hb1
    go_wp2_with fail
    refine (NW.out _ hb1).mono ?_
    rintro e w2 ⟨rfl, hb2⟩
    have hb2 := hb1.trans (hb2.mono (by have := hb1.size; have := hz.out; omega))
    clear hb1
    obtain ⟨k0, k1, k2, k3, k4, k5, k6⟩ := hcs.out _ hb2
    go_wp2_with fail
    refine (LV.out _).mono ?_
    rintro e w4 ⟨rfl, hb4⟩
    have hb4 := hb2.trans (hb4.mono (by have := hb2.size; have := hz.out; omega))
    clear hb2
    go_wp2
    go_ret
    exact ⟨rfl, hb0.out.trans (hb4.mono (by omega))⟩
  case true =>
  have NW := Lib.hid (fun u (h : Below (w.heap.size + 1) V u) => vnew_ok a1 a2 a3 a4 e1 e2 e3 e4 X Y Z T ma mg tk u (hr1.below (W u h)) (hr2.below (W u h)) (hr3.below (W u h)) (hr4.below (W u h)) hl1 hl2 hl3 hl4 hw)
  obtain ⟨g1', g2', -, ⟨mg1, mg2⟩, tk1, tk2⟩ := voB_at hw
  have ST := Lib.hid (fun b g1 c1 g2 c2 g3 c3 g4 c4 r1 o1 r2 o2 cr cas hh p wt u h hp1 hp2 a1 a2 a3 a4 => vstep_any b g1 c1 g2 c2 g3 c3 g4 c4 X Y Z T ma mg tk r1 o1 r2 o2 cr cas hh p wt u h hl1 hl2 hl3 hl4 hp1 hp2 hw a1 a2 a3 a4)
  have LI0 := fun hh p wt u (hb : Below w.heap.size w u) hp1 hp2 => vlimits a1 a2 a3 a4 e1 e2 e3 e4 X Y Z T ma mg tk hh p wt u (hr1.below hb) (hr2.below hb) (hr3.below hb) (hr4.below hb) hl1 hl2 hl3 hl4 hp1 hp2
  rw [hw] at LI0
  simp only [if_true] at LI0
  replace LI0 := Lib.hid LI0
  have VB := Lib.hid (fun hh p wt => vl_bd g1' g2' ma hh p wt)
  have HT := Lib.hid (fun u (hb : Below w.heap.size w u) i (hi : i < rows.length) => quad_at (ht.below hb) hi)
  have RS := Lib.hid (fun k F S O Un cas hh p wt u h (hb : Below w.heap.size w u) hp1 hp2 F1 F2 S1 S2 => rwstep43 k a1 a2 a3 a4 e1 e2 e3 e4 X Y Z T ma mg tk F S O Un cas hh p wt u h (hr1.below hb) (hr2.below hb) (hr3.below hb) (hr4.below hb) hl1 hl2 hl3 hl4 hp1 hp2 hw F1 F2 S1 S2)
  have CA := Lib.hid (fun b g1 c1 g2 c2 g3 c3 g4 c4 r1 o1 r2 o2 cr u h => vclear_any b g1 c1 g2 c2 g3 c3 g4 c4 X Y Z T ma mg tk r1 o1 r2 o2 cr u h)
  have MK := Lib.hid (fun b g1 c1 g2 c2 g3 c3 g4 c4 r1 o1 r2 o2 cr u h => vmarks_any b g1 c1 g2 c2 g3 c3 g4 c4 X Y Z T ma mg tk r1 o1 r2 o2 cr u h)
  have SZ := Lib.hid (fun (u : World) g1 g2 g3 g4 (h1 : RowIs .i64 u (some ⟨g1, 0, none⟩) X) (h2 : RowIs .i64 u (some ⟨g2, 0, none⟩) Y) (h3 : RowIs .i64 u (some ⟨g3, 0, none⟩) Z) (h4 : RowIs .i64 u (some ⟨g4, 0, none⟩) T) => show g1 < u.heap.size ∧ g2 < u.heap.size ∧ g3 < u.heap.size ∧ g4 < u.heap.size from by
    obtain ⟨i1, i2, i3, _⟩ := rgtB_at g1'
    obtain ⟨i4, i5, i6, _⟩ := rgtB_at g2'
    obtain ⟨_, _, ea, l1, -⟩ := h1.at (show 0 < X.length by omega)
    obtain ⟨_, _, eb, l2, -⟩ := h2.at (show 0 < Y.length by omega)
    obtain ⟨_, _, ec, l3, -⟩ := h3.at (show 0 < Z.length by omega)
    obtain ⟨_, _, ed, l4, -⟩ := h4.at (show 0 < T.length by omega)
    injection ea with ea
    injection eb with eb
    injection ec with ec
    injection ed with ed
    injection ea with ea _
    injection eb with eb _
    injection ec with ec _
    injection ed with ed _
    omega)
  have WL := Lib.hid (fun (u : World) b g1 c1 g2 c2 g3 c3 g4 c4 (h : Wrn b g1 c1 g2 c2 g3 c3 g4 c4 X Y Z T ma mg tk 0 false 0 false false u) => h.m.lt)
  replace W := Lib.hid W
  clear hw hr1 hr2 hr3 hr4 hl1 hl2 hl3 hl4 ht hl hL g1' g2'
  replace hb0 := Lib.hid hb0
  replace hz := Lib.hid hz
  replace hcs := Lib.hid hcs
  replace eV := Lib.hid eV
  go_enter Try.func13, Try.ntmps13
  go_wp2_with fail
  rw [← eV.out]
  obtain ⟨k0, k1, k2, k3, k4, k5, k6⟩ := hcs.out _ (Below.refl _ _)
  go_wp2_with fail
  refine (GR.out _).mono ?_
  rintro e w1 ⟨rfl, hb1⟩
  have hb1 := (Below.refl (w.heap.size + 1) V).trans (hb1.mono (Nat.le_of_eq hz.out.symm))
  obtain ⟨k0, k1, k2, k3, k4, k5, k6⟩ := hcs.out _ hb1
  go_wp2_with fail
  refine (NW.out _ hb1).mono ?_
  rintro e w2 ⟨b, g1, c1, g2, c2, g3, c3, g4, c4, rfl, hM, hbb, hb2⟩
  have hb2 := hb1.trans (hb2.mono (by have := hb1.size; have := hz.out; omega))
  obtain ⟨k0, k1, k2, k3, k4, k5, k6⟩ := hcs.out _ hb2
  have hbw := Lib.hid (W.out _ hb2)
  have lb := hM.m.lt
  obtain ⟨y1, y2, y3, y4⟩ := SZ.out _ _ _ _ _ hM.x1 hM.x2 hM.x3 hM.x4
  have hbf : w.heap.size ≤ b := by have := hb1.size; have := hz.out; omega
  replace hM := Lib.hid hM
  obtain ⟨k, ek⟩ : ∃ k, k = w2.heap.size := ⟨_, rfl⟩
  have nb : b ≠ k := by omega
  have ng1 : g1 ≠ k := by omega
  have ng2 : g2 ≠ k := by omega
  have ng3 : g3 ≠ k := by omega
  have ng4 : g4 ≠ k := by omega
  clear y1 y2 y3 y4
  have hkw : w.heap.size ≤ k := by rw [ek]; exact hbw.out.size
  clear hb1 lb hbb
  go_upto_region 7 with (fail)
  have hk0 := Held.new w2 [.slice a1 X.length e1, .slice a2 Y.length e2, .slice a3 Z.length e3, .slice a4 T.length e4, .int .i64 ma, .int .i64 mg, .int .i64 tk, .int .i64 0, .int .i64 0, .bool false, .bool false] 90
  obtain ⟨V2, eV2⟩ : ∃ V2, V2 = w2.alloc (.cells #[.slice a1 X.length e1, .slice a2 Y.length e2, .slice a3 Z.length e3, .slice a4 T.length e4, .int .i64 ma, .int .i64 mg, .int .i64 tk, .int .i64 0, .int .i64 0, .bool false, .bool false] 90) := ⟨_, rfl⟩
  have hM2 := Lib.hid (hM.out.bel ((Below.refl w2.heap.size w2).alloc (Nat.le_refl _) (.cells #[.slice a1 X.length e1, .slice a2 Y.length e2, .slice a3 Z.length e3, .slice a4 T.length e4, .int .i64 ma, .int .i64 mg, .int .i64 tk, .int .i64 0, .int .i64 0, .bool false, .bool false] 90)))
  have hbv := Lib.hid (hbw.out.alloc hbw.out.size (.cells #[.slice a1 X.length e1, .slice a2 Y.length e2, .slice a3 Z.length e3, .slice a4 T.length e4, .int .i64 ma, .int .i64 mg, .int .i64 tk, .int .i64 0, .int .i64 0, .bool false, .bool false] 90))
  replace hk0 : Held k [.slice a1 X.length e1, .slice a2 Y.length e2, .slice a3 Z.length e3, .slice a4 T.length e4, .int .i64 ma, .int .i64 mg, .int .i64 tk, .int .i64 0, .int .i64 0, .bool false, .bool false] V2 := by rw [eV2, ek]; exact hk0
  rw [← eV2] at hM2 hbv
  rw [← eV2, ← ek]
  clear hM hbw k0 k1 k2 k3 k4 k5 k6 hb2
  replace eV2 := Lib.hid eV2
  replace ek := Lib.hid ek
  replace hk0 := Lib.hid hk0
  go_wp2
  go_loopw [8] (fun i v => ∃ (j : Nat) (F S r1 : Int) (o1 : Bool) (r2 : Int) (o2 cr : Bool), j ≤ rows.length ∧ i = .int .i64 (j : Int) ∧ Hid (0 ≤ F ∧ F ≤ j ∧ r1 = min F tk) ∧ Hid (0 ≤ S ∧ S ≤ j ∧ r2 = min S tk) ∧ Hid (Wrn b g1 c1 g2 c2 g3 c3 g4 c4 X Y Z T ma mg tk r1 o1 r2 o2 cr v) ∧ Hid (Held k [.slice a1 X.length e1, .slice a2 Y.length e2, .slice a3 Z.length e3, .slice a4 T.length e4, .int .i64 ma, .int .i64 mg, .int .i64 tk, .int .i64 F, .int .i64 S, .bool o1, .bool o2] v) ∧ Hid (Below w.heap.size w v)) (fun i _ => rows.length - (intOf i).toNat)
  case atStart => exact ⟨0, 0, 0, 0, false, 0, false, false, by omega, rfl, Lib.hid (by omega), Lib.hid (by omega), hM2, hk0, hbv⟩
  case round =>
    clear hM2 hk0 hbv
    obtain ⟨j, F, S, r1, o1, r2, o2, cr, hj, rfl, hF, hS, hM, hk, hb⟩ := hrel
    by_cases hlt : j < rows.length
    · obtain ⟨tb, off, x, hh, p, wt, rfl, htb, ⟨p1, p2⟩, hc⟩ := HT.out _ hb.out j hlt
      obtain ⟨t0, t1, t2, t3⟩ := hc _ (Below.refl _ _)
      have hlt1 : (j : Int) < (rows.length : Int) := by omega
      clear hc
      go_upto_region 11 with (fail)
      have hr0 := Held.new wr [.int .i64 x, .int .i64 hh, .int .i64 p, .int .i64 wt] 91
      obtain ⟨V3, eV3, hbr, hr⟩ : ∃ V3, V3 = wr.alloc (.cells #[.int .i64 x, .int .i64 hh, .int .i64 p, .int .i64 wt] 91) ∧ Below wr.heap.size wr V3 ∧ Held wr.heap.size [.int .i64 x, .int .i64 hh, .int .i64 p, .int .i64 wt] V3 := ⟨_, rfl, (Below.refl _ _).alloc (Nat.le_refl _) _, hr0⟩
      rw [← eV3]
      replace eV3 := Lib.hid eV3
      have ef : wr.heap.size ≠ b := by have := hM.out.m.lt; omega
      have ekk : wr.heap.size ≠ k := by have := hk.out.lt; omega
      have hM3 := Lib.hid (hM.out.bel hbr)
      have hk3 := Lib.hid (hk.out.bel hbr)
      have hb3 := Lib.hid (hb.out.trans (hbr.mono hb.out.size))
      generalize wr.heap.size = rb at *
      obtain ⟨z0, q0⟩ := hr.one 0 rfl
      obtain ⟨z1, q1⟩ := hr.one 1 rfl
      obtain ⟨z2, q2⟩ := hr.one 2 rfl
      obtain ⟨z3, q3⟩ := hr.one 3 rfl
      clear q0 q1 q2 q3
      clear hbr hr0 t0 t1 t2 t3 hM hk hb
      replace hr := Lib.hid hr
      obtain ⟨F1, F2, F3⟩ := hF.out
      obtain ⟨S1, S2, S3⟩ := hS.out
      have S9 := fun u h => ST.out b g1 c1 g2 c2 g3 c3 g4 c4 r1 o1 r2 o2 cr x hh p wt u h p1 p2 (by omega) (by omega) (by omega) (by omega)
      have R9 := fun u h hb => RS.out k F S o1 o2 x hh p wt u h hb p1 p2 F1 (by omega) S1 (by omega)
      have D1 := dO_is (M := vlM X Y ma hh p) (v := clp x) (mg := mg) (tk := tk) (F := F) (r1 := r1) (o1 := o1) F3 F1 tk1 mg1
      have D2 := dU_is (L := vlL Z T wt) (v := clp x) (mg := mg) (tk := tk) (S := S) (r2 := r2) (o2 := o2) S3 S1 tk1 mg1
      rw [D1.1, D2.1] at R9
      generalize dF (vlM X Y ma hh p) (clp x) F = F' at *
      generalize dS (vlL Z T wt) (clp x) S = S' at *
      generalize nR1 (vlM X Y ma hh p) (clp x) tk r1 = r1' at *
      generalize nO1 (vlM X Y ma hh p) (clp x) mg tk r1 o1 = o1' at *
      generalize nR2 (vlL Z T wt) (clp x) tk r2 = r2' at *
      generalize nO2 (vlL Z T wt) (clp x) mg tk r2 o2 = o2' at *
      generalize decide (vlM X Y ma hh p < vlL Z T wt) = cr' at *
      have HF := Lib.hid (show 0 ≤ F' ∧ F' ≤ ((j + 1 : Nat) : Int) ∧ r1' = min F' tk from ⟨D1.2.2.1, by have := D1.2.2.2; omega, D1.2.1⟩)
      have HS := Lib.hid (show 0 ≤ S' ∧ S' ≤ ((j + 1 : Nat) : Int) ∧ r2' = min S' tk from ⟨D2.2.2.1, by have := D2.2.2.2; omega, D2.2.1⟩)
      have M9 := Lib.hid (fun u h => MK.out b g1 c1 g2 c2 g3 c3 g4 c4 r1' o1' r2' o2' cr' u h)
      generalize mkV o1' o2' cr' = n at *
      have d1 : (n != n) = false := by simp
      replace S9 := Lib.hid S9
      replace R9 := Lib.hid R9
      clear D1 D2 F1 F2 F3 S1 S2 S3 hF hS
      go_wp2_with fail
      refine (S9.out _ hM3.out).mono ?_
      rintro e w4 ⟨rfl, hM4, o4⟩
      have hr4 := hr.out.beside o4 ef
      have hk4 := Lib.hid (hk3.out.beside o4 (Ne.symm nb))
      have hb4 := Lib.hid (hb3.out.trans (o4.below hbf hb3.out.size))
      replace hM4 := Lib.hid hM4
      clear o4 hM3 hk3 hb3 z0 z1 z2 z3 hr
      obtain ⟨z0, q0⟩ := hr4.one 0 rfl
      obtain ⟨z1, q1⟩ := hr4.one 1 rfl
      obtain ⟨z2, q2⟩ := hr4.one 2 rfl
      obtain ⟨z3, q3⟩ := hr4.one 3 rfl
      clear q0 q1 q2 q3 hr4
      go_wp2_with fail
      refine (R9.out _ hk4.out hb4.out).mono ?_
      rintro e w5 ⟨rfl, hk5, o5⟩
      have hM5 := Lib.hid (hM4.out.off5 o5 nb ng1 ng2 ng3 ng4)
      have hb5 := Lib.hid (hb4.out.trans (o5.below hkw hb4.out.size))
      replace hk5 := Lib.hid hk5
      clear o5 hM4 hk4 hb4 z0 z1 z2 z3
      go_wp2_with fail
      refine (M9.out _ hM5.out).mono ?_
      rintro e w6 ⟨rfl, rfl⟩
      go_wp2
      go_roundw
      case rel => exact ⟨j + 1, F', S', r1', o1', r2', o2', cr', by omega, by go_num, HF, HS, hM5, hk5, hb5⟩
      case measure => simp [intOf]; omega
    · have hge : (rows.length : Int) ≤ (j : Int) := by omega
      go_wp2_with fail
      refine (CA.out _ _ _ _ _ _ _ _ _ _ _ _ _ _ _ hM.out).mono ?_
      rintro e w4 ⟨rfl, hM4, o4⟩
      have hb4 := hb.out.trans (o4.below hbf hb.out.size)
      replace hM4 := Lib.hid hM4
      clear o4 hb hk hM
      have M0 := fun u h => MK.out b g1 c1 g2 c2 g3 c3 g4 c4 0 false 0 false false u h
      rw [show mkV false false false = 0 by decide] at M0
      replace M0 := Lib.hid M0
      go_wp2_with fail
      refine (M0.out _ hM4.out).mono ?_
      rintro e w5 ⟨rfl, rfl⟩
      go_wp2_with fail
      refine (LV.out _).mono ?_
      rintro e w6 ⟨rfl, hb6⟩
      have hb6 := hb4.trans (hb6.mono hb4.size)
      go_wp2
      go_ret
      exact ⟨rfl, hb6⟩
end Go.Proofs.Ytnfbfggkbpobiaa
