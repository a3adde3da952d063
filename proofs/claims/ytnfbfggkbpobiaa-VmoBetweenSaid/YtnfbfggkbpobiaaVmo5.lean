/- The law VmoBetween, walked. -/
import Derived.Test.YtnfbfggkbpobiaaVmo4
import Derived.Deep.Cut
namespace Go.Proofs.Ytnfbfggkbpobiaa
open Go.ChangeShapes Go.WideShapes Go.ChangeAt Go.RowKit
set_option linter.unusedVariables false
set_option linter.unusedSimpArgs false
theorem vbt_box (w : World) (a1 a2 a3 a4 : Option Addr) (e1 e2 e3 e4 : Nat) (X Y Z T : List Int) (ma mg tk : Int) : ∃ V, V = (w.alloc (.cells #[.slice a1 X.length e1, .slice a2 Y.length e2, .slice a3 Z.length e3, .slice a4 T.length e4, .int .i64 ma, .int .i64 mg, .int .i64 tk] 82)) ∧ Below w.heap.size w V ∧ V.heap.size = w.heap.size + 1 ∧ ∀ u, Below (w.heap.size + 1) V u → u.cell? ⟨w.heap.size, 0, none⟩ = some (.slice a1 X.length e1) ∧ u.cell? ⟨w.heap.size, 1, none⟩ = some (.slice a2 Y.length e2) ∧ u.cell? ⟨w.heap.size, 2, none⟩ = some (.slice a3 Z.length e3) ∧ u.cell? ⟨w.heap.size, 3, none⟩ = some (.slice a4 T.length e4) ∧ u.cell? ⟨w.heap.size, 4, none⟩ = some (.int .i64 ma) ∧ u.cell? ⟨w.heap.size, 5, none⟩ = some (.int .i64 mg) ∧ u.cell? ⟨w.heap.size, 6, none⟩ = some (.int .i64 tk) :=
  ⟨_, rfl, (by repeat (first | exact Below.refl _ _ | assumption | apply Below.drew | apply below_drewN | (refine Below.alloc ?_ (by first | exact Nat.le_refl _ | omega | (simp <;> omega)) _) | (refine Below.setCell ?_ (by first | exact Nat.le_refl _ | omega | (simp <;> omega)) _))), by simp, fun u hu => ⟨(bc hu (by omega)).trans (by go_simp), (bc hu (by omega)).trans (by go_simp), (bc hu (by omega)).trans (by go_simp), (bc hu (by omega)).trans (by go_simp), (bc hu (by omega)).trans (by go_simp), (bc hu (by omega)).trans (by go_simp), (bc hu (by omega)).trans (by go_simp)⟩⟩

theorem quad_at {w : World} {t : Option Addr} {rows : List (List Value)} (h : Tab [some .i64, some .i64, some .i64, some .i64] w t rows) {i : Nat} (hi : i < rows.length) :
    ∃ b off a c d e, t = some ⟨b, off, none⟩ ∧ b < w.heap.size ∧ (-9223372036854775808 ≤ d ∧ d ≤ 9223372036854775807) ∧ ∀ v, Below w.heap.size w v → v.cell? ⟨b, off + i * 4, none⟩ = some (.int .i64 a) ∧ v.cell? ⟨b, off + i * 4 + 1, none⟩ = some (.int .i64 c) ∧ v.cell? ⟨b, off + i * 4 + 2, none⟩ = some (.int .i64 d) ∧ v.cell? ⟨b, off + i * 4 + 3, none⟩ = some (.int .i64 e) := by
  obtain ⟨tb, off, r, rfl, htb, hr, hfl, hcell⟩ := h.at hi
  obtain ⟨x0, _, rfl, w0, hfl⟩ := hfl
  obtain ⟨x1, _, rfl, w1, hfl⟩ := hfl
  obtain ⟨x2, _, rfl, w2, hfl⟩ := hfl
  obtain ⟨x3, _, rfl, w3, hfl⟩ := hfl
  have hfl : _ = _ := hfl
  subst hfl
  exact ⟨tb, off, x0, x1, x2, x3, rfl, htb, i64_bd w2, fun v hv => ⟨(bc hv htb).trans (hcell 0 _ rfl), (bc hv htb).trans (hcell 1 _ rfl), (bc hv htb).trans (hcell 2 _ rfl), (bc hv htb).trans (hcell 3 _ rfl)⟩⟩
theorem ov_facts {M v mg tk F r1 : Int} {o1 : Bool} (h : r1 = min F tk) (hF : 0 ≤ F) (ht : 1 ≤ tk) (hm : 0 ≤ mg) :
    (v ≤ M → nR1 M v tk r1 = 0 ∧ (nO1 M v mg tk r1 o1 = true → o1 = true ∧ M - mg < v)) ∧ (M < v → nR1 M v tk r1 = min (F + 1) tk ∧ (tk ≤ F + 1 → nO1 M v mg tk r1 o1 = true) ∧ (F + 1 < tk → nO1 M v mg tk r1 o1 = o1)) := by
  unfold nR1 nO1 wrO wrR
  refine ⟨fun a => ?_, fun a => ?_⟩
  · rw [decide_eq_false (show ¬ M < v by omega)]
    simp only [Bool.false_eq_true, if_false]
    rw [show ((0 : Int) == tk) = false by simp; omega, Bool.false_or]
    refine ⟨by first | rfl | trivial, fun b => ?_⟩
    simp at b
    exact ⟨b.1, b.2⟩
  · rw [decide_eq_true a, decide_eq_false (show ¬ v ≤ M - mg by omega)]
    simp only [if_true]
    refine ⟨by omega, fun b => ?_, fun b => ?_⟩
    · rw [show (min (r1 + 1) tk == tk) = true by simp; omega, Bool.true_or]
    · rw [show (min (r1 + 1) tk == tk) = false by simp; omega, Bool.false_or]; simp
theorem un_facts {L v mg tk S r2 : Int} {o2 : Bool} (h : r2 = min S tk) (hS : 0 ≤ S) (ht : 1 ≤ tk) (hm : 0 ≤ mg) :
    (L ≤ v → nR2 L v tk r2 = 0 ∧ (nO2 L v mg tk r2 o2 = true → o2 = true ∧ v < L + mg)) ∧ (v < L → nR2 L v tk r2 = min (S + 1) tk ∧ (tk ≤ S + 1 → nO2 L v mg tk r2 o2 = true) ∧ (S + 1 < tk → nO2 L v mg tk r2 o2 = o2)) := by
  unfold nR2 nO2 wrO wrR
  refine ⟨fun a => ?_, fun a => ?_⟩
  · rw [decide_eq_false (show ¬ v < L by omega)]
    simp only [Bool.false_eq_true, if_false]
    rw [show ((0 : Int) == tk) = false by simp; omega, Bool.false_or]
    refine ⟨by first | rfl | trivial, fun b => ?_⟩
    simp at b
    exact ⟨b.1, b.2⟩
  · rw [decide_eq_true a, decide_eq_false (show ¬ L + mg ≤ v by omega)]
    simp only [if_true]
    refine ⟨by omega, fun b => ?_, fun b => ?_⟩
    · rw [show (min (r2 + 1) tk == tk) = true by simp; omega, Bool.true_or]
    · rw [show (min (r2 + 1) tk == tk) = false by simp; omega, Bool.false_or]; simp
set_option maxRecDepth 100000 in
set_option maxHeartbeats 8000000 in
theorem law_VmoBetween (a1 a2 a3 a4 : Option Addr) (e1 e2 e3 e4 : Nat) (X Y Z T : List Int) (ma mg tk : Int) (t : Option Addr) (cap : Nat) (rows : List (List Value)) (w : World) (hr1 : RowIs .i64 w a1 X) (hr2 : RowIs .i64 w a2 Y) (hr3 : RowIs .i64 w a3 Z) (hr4 : RowIs .i64 w a4 T) (ht : Tab [some .i64, some .i64, some .i64, some .i64] w t rows) (hl : rows.length ≤ maxLen) :
    Calls Try.prog 14 #[.agg #[.slice a1 X.length e1, .slice a2 Y.length e2, .slice a3 Z.length e3, .slice a4 T.length e4, .int .i64 ma, .int .i64 mg, .int .i64 tk], .slice t rows.length cap] w fun e w' => e = .returned (.bool true) ∧ Below w.heap.size w w' := by
  unfold maxLen at hl
  have LV := Lib.hid (fun u => lives43 u)
  have GR := fun u => vgreat a1 a2 a3 a4 e1 e2 e3 e4 X Y Z T ma mg tk u
  obtain ⟨V, eV, hb0, hz, hcs⟩ := vbt_box w a1 a2 a3 a4 e1 e2 e3 e4 X Y Z T ma mg tk
  have W := fun u (h : Below (w.heap.size + 1) V u) => show Below w.heap.size w u from hb0.trans (h.mono (by omega))
  cases hgr : vgB X Y Z T
  case true =>
    rw [hgr] at GR
    replace GR := Lib.hid GR
    clear hgr hr1 hr2 hr3 hr4 W ht hl
    replace hb0 := Lib.hid hb0
    replace hz := Lib.hid hz
    replace hcs := Lib.hid hcs
    replace eV := Lib.hid eV
    go_enter Try.func14, Try.ntmps14
    go_wp2_with fail
    rw [← eV.out]
    obtain ⟨k0, k1, k2, k3, k4, k5, k6⟩ := hcs.out _ (Below.refl _ _)
    go_wp2_with fail
    refine (GR.out _).mono ?_
    rintro e w1 ⟨rfl, hb1⟩
    have hb1 := (Below.refl (w.heap.size + 1) V).trans (hb1.mono (Nat.le_of_eq hz.out.symm))
    obtain ⟨k0, k1, k2, k3, k4, k5, k6⟩ := hcs.out _ hb1
    go_wp2_with fail
    refine (LV.out _).mono ?_
    rintro e w2 ⟨rfl, hb2⟩
    have hb2 := hb1.trans (hb2.mono (by have := hb1.size; have := hz.out; omega))
    clear hb1
    go_wp2
    go_ret
    exact ⟨rfl, hb0.out.trans (hb2.mono (by omega))⟩
  rw [hgr] at GR
  replace GR := Lib.hid GR
  obtain ⟨hl1, hl2, hl3, hl4⟩ := vgB_no hgr
  clear hgr
  by_cases hL : 100 < rows.length
  · have dl : (100 : Int) < (rows.length : Int) := by omega
    clear hr1 hr2 hr3 hr4 ht hl W hL hl1 hl2 hl3 hl4
    replace hb0 := Lib.hid hb0
    replace hz := Lib.hid hz
    replace hcs := Lib.hid hcs
    replace eV := Lib.hid eV
    go_enter Try.func14, Try.ntmps14
    go_wp2_with fail
    rw [← eV.out]
    obtain ⟨k0, k1, k2, k3, k4, k5, k6⟩ := hcs.out _ (Below.refl _ _)
    go_wp2_with fail
    refine (GR.out _).mono ?_
    rintro e w1 ⟨rfl, hb1⟩
    have hb1 := (Below.refl (w.heap.size + 1) V).trans (hb1.mono (Nat.le_of_eq hz.out.symm))
    obtain ⟨k0, k1, k2, k3, k4, k5, k6⟩ := hcs.out _ hb1
    go_wp2_with fail
    refine (LV.out _).mono ?_
    rintro e w2 ⟨rfl, hb2⟩
    have hb2 := hb1.trans (hb2.mono (by have := hb1.size; have := hz.out; omega))
    clear hb1
    go_wp2
    go_ret
    exact ⟨rfl, hb0.out.trans (hb2.mono (by omega))⟩
  have dl : (rows.length : Int) ≤ 100 := by omega
  cases hw : voB X Y Z T ma mg tk
  case false =>
    have NW := Lib.hid (fun u (h : Below (w.heap.size + 1) V u) => vnew_no a1 a2 a3 a4 e1 e2 e3 e4 X Y Z T ma mg tk u (hr1.below (W u h)) (hr2.below (W u h)) (hr3.below (W u h)) (hr4.below (W u h)) hl1 hl2 hl3 hl4 hw)
    clear hw hr1 hr2 hr3 hr4 hl1 hl2 hl3 hl4 W ht hl hL
    replace hb0 := Lib.hid hb0
    replace hz := Lib.hid hz
    replace hcs := Lib.hid hcs
    replace eV := Lib.hid eV
    go_enter Try.func14, Try.ntmps14
    go_wp2_with fail
    rw [← eV.out]
    obtain ⟨k0, k1, k2, k3, k4, k5, k6⟩ := hcs.out _ (Below.refl _ _)
    go_wp2_with fail
    refine (GR.out _).mono ?_
    rintro e w1 ⟨rfl, hb1⟩
    have hb1 := (Below.refl (w.heap.size + 1) V).trans (hb1.mono (Nat.le_of_eq hz.out.symm))
    obtain ⟨k0, k1, k2, k3, k4, k5, k6⟩ := hcs.out _ hb1
    go_wp2_with fail
    refine (NW.out _ hb1).mono ?_
    rintro e w2 ⟨rfl, hb2⟩
    have hb2 := hb1.trans (hb2.mono (by have := hb1.size; have := hz.out; omega))
    clear hb1
    obtain ⟨k0, k1, k2, k3, k4, k5, k6⟩ := hcs.out _ hb2
    go_wp2_with fail
    refine (LV.out _).mono ?_
    rintro e w4 ⟨rfl, hb4⟩
    have hb4 := hb2.trans (hb4.mono (by have := hb2.size; have := hz.out; omega))
    clear hb2
    go_wp2
    go_ret
    exact ⟨rfl, hb0.out.trans (hb4.mono (by omega))⟩
  case true =>
  have NW := Lib.hid (fun u (h : Below (w.heap.size + 1) V u) => vnew_ok a1 a2 a3 a4 e1 e2 e3 e4 X Y Z T ma mg tk u (hr1.below (W u h)) (hr2.below (W u h)) (hr3.below (W u h)) (hr4.below (W u h)) hl1 hl2 hl3 hl4 hw)
  obtain ⟨g1', g2', -, ⟨mg1, mg2⟩, tk1, tk2⟩ := voB_at hw
  have ST := Lib.hid (fun b g1 c1 g2 c2 g3 c3 g4 c4 r1 o1 r2 o2 cr cas hh p wt u h hp1 hp2 a1 a2 a3 a4 => vstep_any b g1 c1 g2 c2 g3 c3 g4 c4 X Y Z T ma mg tk r1 o1 r2 o2 cr cas hh p wt u h hl1 hl2 hl3 hl4 hp1 hp2 hw a1 a2 a3 a4)
  have LI0 := fun hh p wt u (hb : Below w.heap.size w u) hp1 hp2 => vlimits a1 a2 a3 a4 e1 e2 e3 e4 X Y Z T ma mg tk hh p wt u (hr1.below hb) (hr2.below hb) (hr3.below hb) (hr4.below hb) hl1 hl2 hl3 hl4 hp1 hp2
  rw [hw] at LI0
  simp only [if_true] at LI0
  replace LI0 := Lib.hid LI0
  have VB := Lib.hid (fun hh p wt => vl_bd g1' g2' ma hh p wt)
  have HT := Lib.hid (fun u (hb : Below w.heap.size w u) i (hi : i < rows.length) => quad_at (ht.below hb) hi)
  replace W := Lib.hid W
  clear hw hr1 hr2 hr3 hr4 hl1 hl2 hl3 hl4 ht hl hL g1' g2'
  replace hb0 := Lib.hid hb0
  replace hz := Lib.hid hz
  replace hcs := Lib.hid hcs
  replace eV := Lib.hid eV
  go_enter Try.func14, Try.ntmps14
  go_wp2_with fail
  rw [← eV.out]
  obtain ⟨k0, k1, k2, k3, k4, k5, k6⟩ := hcs.out _ (Below.refl _ _)
  go_wp2_with fail
  refine (GR.out _).mono ?_
  rintro e w1 ⟨rfl, hb1⟩
  have hb1 := (Below.refl (w.heap.size + 1) V).trans (hb1.mono (Nat.le_of_eq hz.out.symm))
  obtain ⟨k0, k1, k2, k3, k4, k5, k6⟩ := hcs.out _ hb1
  go_wp2_with fail
  refine (NW.out _ hb1).mono ?_
  rintro e w2 ⟨b, g1, c1, g2, c2, g3, c3, g4, c4, rfl, hM, hbb, hb2⟩
  have hb2 := hb1.trans (hb2.mono (by have := hb1.size; have := hz.out; omega))
  obtain ⟨k0, k1, k2, k3, k4, k5, k6⟩ := hcs.out _ hb2
  have hbf : w.heap.size + 1 ≤ b := by have := hb1.size; have := hz.out; omega
  replace hM := Lib.hid hM
  clear hb1 hbb
  replace hb2 := Lib.hid hb2
  go_wp2
  go_loopw [7, 8, 9, 10, 11] (fun fa sl ov un i v => ∃ (j : Nat) (F S : Int) (O Un : Bool) (r1 : Int) (o1 : Bool) (r2 : Int) (o2 cr : Bool), j ≤ rows.length ∧ fa = .int .i64 F ∧ sl = .int .i64 S ∧ ov = .bool O ∧ un = .bool Un ∧ i = .int .i64 (j : Int) ∧ Hid (0 ≤ F ∧ F ≤ j ∧ r1 = min F tk) ∧ Hid (0 ≤ S ∧ S ≤ j ∧ r2 = min S tk) ∧ Hid (o1 = true → O = true) ∧ Hid (o2 = true → Un = true) ∧ Hid (Wrn b g1 c1 g2 c2 g3 c3 g4 c4 X Y Z T ma mg tk r1 o1 r2 o2 cr v) ∧ Hid (Below (w.heap.size + 1) V v)) (fun fa sl ov un i _ => rows.length - (intOf i).toNat)
  case atStart => exact ⟨0, 0, 0, false, false, 0, false, 0, false, false, by omega, rfl, rfl, rfl, rfl, rfl, Lib.hid (by omega), Lib.hid (by omega), Lib.hid (fun h => by cases h), Lib.hid (fun h => by cases h), hM, hb2⟩
  case round =>
    clear hM hb2 k0 k1 k2 k3 k4 k5 k6
    obtain ⟨j, F, S, O, Un, r1, o1, r2, o2, cr, hj, rfl, rfl, rfl, rfl, rfl, hF, hS, hO, hU, hM, hb⟩ := hrel
    by_cases hlt : j < rows.length
    · obtain ⟨tb, off, v, hh, p, wt, rfl, htb, ⟨p1, p2⟩, hc⟩ := HT.out _ (W.out _ hb.out) j hlt
      obtain ⟨t0, t1, t2, t3⟩ := hc _ (Below.refl _ _)
      have hlt1 : (j : Int) < (rows.length : Int) := by omega
      clear hc
      go_upto_region 12 with (fail)
      have hr0 := Held.new wr [.int .i64 v, .int .i64 hh, .int .i64 p, .int .i64 wt] 91
      obtain ⟨V3, eV3, hbr, hr⟩ : ∃ V3, V3 = wr.alloc (.cells #[.int .i64 v, .int .i64 hh, .int .i64 p, .int .i64 wt] 91) ∧ Below wr.heap.size wr V3 ∧ Held wr.heap.size [.int .i64 v, .int .i64 hh, .int .i64 p, .int .i64 wt] V3 := ⟨_, rfl, (Below.refl _ _).alloc (Nat.le_refl _) _, hr0⟩
      rw [← eV3]
      replace eV3 := Lib.hid eV3
      have ef : wr.heap.size ≠ b := by have := hM.out.m.lt; omega
      have hM3 := Lib.hid (hM.out.bel hbr)
      have hb3 := hb.out.trans (hbr.mono (by have := hb.out.size; have := hz.out; omega))
      obtain ⟨k0, k1, k2, k3, k4, k5, k6⟩ := hcs.out _ hb3
      generalize wr.heap.size = rb at *
      obtain ⟨z0, q0⟩ := hr.one 0 rfl
      obtain ⟨z1, q1⟩ := hr.one 1 rfl
      obtain ⟨z2, q2⟩ := hr.one 2 rfl
      obtain ⟨z3, q3⟩ := hr.one 3 rfl
      clear q0 q1 q2 q3
      clear hbr hr0 t0 t1 t2 t3 hM hb
      replace hr := Lib.hid hr
      rcases (show v < -1000000000 ∨ (-1000000000 ≤ v ∧ 1000000000 < v) ∨ (-1000000000 ≤ v ∧ v ≤ 1000000000) by omega) with h | ⟨h, h'⟩ | ⟨v1, v2⟩
      · go_wp2_with fail
        refine (LV.out _).mono ?_
        rintro e w6 ⟨rfl, hb6⟩
        have hb6 := (W.out _ hb3).trans (hb6.mono (W.out _ hb3).size)
        go_wp2
        go_ret
        exact ⟨rfl, hb6⟩
      · go_wp2_with fail
        refine (LV.out _).mono ?_
        rintro e w6 ⟨rfl, hb6⟩
        have hb6 := (W.out _ hb3).trans (hb6.mono (W.out _ hb3).size)
        go_wp2
        go_ret
        exact ⟨rfl, hb6⟩
      · have LI := LI0.out hh p wt V3 (W.out _ hb3) p1 p2
        have vb := VB.out hh p wt
        have S0 := fun u h a1 a2 a3 a4 => ST.out b g1 c1 g2 c2 g3 c3 g4 c4 r1 o1 r2 o2 cr v hh p wt u h p1 p2 a1 a2 a3 a4
        rw [show clp v = v by unfold clp; omega] at S0
        generalize vlL Z T wt = L at *
        generalize vlM X Y ma hh p = M at *
        obtain ⟨⟨L1, L2⟩, M1, M2⟩ := vb
        obtain ⟨F1, F2, F3⟩ := hF.out
        obtain ⟨S1, S2, S3⟩ := hS.out
        have S9 := fun u h => S0 u h (by omega) (by omega) (by omega) (by omega)
        have OV := ov_facts (M := M) (v := v) (mg := mg) (tk := tk) (F := F) (r1 := r1) (o1 := o1) F3 F1 tk1 mg1
        have UN := un_facts (L := L) (v := v) (mg := mg) (tk := tk) (S := S) (r2 := r2) (o2 := o2) S3 S1 tk1 mg1
        generalize nR1 M v tk r1 = r1' at *
        generalize nO1 M v mg tk r1 o1 = o1' at *
        generalize nR2 L v tk r2 = r2' at *
        generalize nO2 L v mg tk r2 o2 = o2' at *
        generalize decide (M < L) = cr' at *
        have hw1 : IntKind.i64.wrap (M - mg) = M - mg := IntWalk.i64_in _ ⟨by omega, by omega⟩
        have hw2 : IntKind.i64.wrap (L + mg) = L + mg := IntWalk.i64_in _ ⟨by omega, by omega⟩
        have hw3 : IntKind.i64.wrap (F + 1) = F + 1 := IntWalk.i64_in _ ⟨by omega, by omega⟩
        have hw4 : IntKind.i64.wrap (S + 1) = S + 1 := IntWalk.i64_in _ ⟨by omega, by omega⟩
        replace LI := Lib.hid LI
        replace S9 := Lib.hid S9
        replace OV := Lib.hid OV
        replace UN := Lib.hid UN
        have HF := Lib.hid (show 0 ≤ F + 1 ∧ F + 1 ≤ ((j + 1 : Nat) : Int) from by omega)
        have HS := Lib.hid (show 0 ≤ S + 1 ∧ S + 1 ≤ ((j + 1 : Nat) : Int) from by omega)
        clear S0 L1 L2 M1 M2 F1 F2 F3 S1 S2 S3 hF hS
        go_wp2_with fail
        refine LI.out.mono ?_
        rintro e w4 ⟨rfl, hb4⟩
        replace hM3 := Lib.hid (hM3.out.bel hb4)
        have hr4 := hr.out.bel hb4
        replace hb4 := hb3.trans (hb4.mono (by have := hb3.size; have := hz.out; omega))
        clear hb3 hr z0 z1 z2 z3 LI
        obtain ⟨k0, k1, k2, k3, k4, k5, k6⟩ := hcs.out _ hb4
        obtain ⟨z0, q0⟩ := hr4.one 0 rfl
        obtain ⟨z1, q1⟩ := hr4.one 1 rfl
        obtain ⟨z2, q2⟩ := hr4.one 2 rfl
        obtain ⟨z3, q3⟩ := hr4.one 3 rfl
        clear q0 q1 q2 q3
        go_wp2_with fail
        refine (S9.out _ hM3.out).mono ?_
        rintro e w7 ⟨rfl, hM7, o7⟩
        have hb7 := hb4.trans (o7.below hbf (by have := hb4.size; have := hz.out; omega))
        replace hM7 := Lib.hid hM7
        clear o7 hM3 hb4 z0 z1 z2 z3 hr4 S9
        obtain ⟨k0, k1, k2, k3, k4, k5, k6⟩ := hcs.out _ hb7
        replace hb7 := Lib.hid hb7
        have NN := Lib.hid (fun o1 o2 => show (mkV o1 o2 cr').tmod 2 = (if o1 then 1 else 0) ∧ ((mkV o1 o2 cr').tdiv 2).tmod 2 = (if o2 then 1 else 0) ∧ (mkV o1 o2 cr').tmod 4 = (if o1 then 1 else 0) + (if o2 then 2 else 0) ∧ 0 ≤ (mkV o1 o2 cr').tdiv 2 ∧ (mkV o1 o2 cr').tdiv 2 ≤ 7 from by cases o1 <;> cases o2 <;> cases cr' <;> decide)
        go_upto_region 19 with (fail)
        rcases (show v ≤ M ∨ M < v by omega) with hc | hc
        · obtain ⟨f1, f2⟩ := OV.out.1 hc
          have F9 := Lib.hid (show (0 : Int) ≤ 0 ∧ (0 : Int) ≤ ((j + 1 : Nat) : Int) ∧ r1' = min 0 tk from by omega)
          clear f1 OV
          have ta : (0 : Int) < tk := by omega
          rcases (show L ≤ v ∨ v < L by omega) with hd | hd
          · as_aux_lemma =>
              obtain ⟨u1, u2⟩ := UN.out.1 hd
              have S9 := Lib.hid (show (0 : Int) ≤ 0 ∧ (0 : Int) ≤ ((j + 1 : Nat) : Int) ∧ r2' = min 0 tk from by omega)
              clear u1 UN HF HS
              have tb' : (0 : Int) < tk := by omega
              have n4 : v ≤ M - mg → L + mg ≤ v → (mkV o1' o2' cr').tmod 4 = 0 := fun x y => by
                have z1 : o1' = false := by
                  cases h : o1'
                  · rfl
                  · have := (f2 h).2; omega
                have z2 : o2' = false := by
                  cases h : o2'
                  · rfl
                  · have := (u2 h).2; omega
                rw [(NN.out o1' o2').2.2.1, z1, z2]; rfl
              cases O
              · have zz : o1' = false := by
                  cases h : o1'
                  · rfl
                  · have := hO.out (f2 h).1; cases this
                have n2 : (mkV o1' o2' cr').tmod 2 = 0 := by rw [(NN.out o1' o2').1, zz]; rfl
                have O9 := Lib.hid (show o1' = true → false = true from fun h => by rw [zz] at h; exact h)
                clear zz
                cases Un
                · have zz : o2' = false := by
                    cases h : o2'
                    · rfl
                    · have := hU.out (u2 h).1; cases this
                  have nq : ((mkV o1' o2' cr').tdiv 2).tmod 2 = 0 := by rw [(NN.out o1' o2').2.1, zz]; rfl
                  have U9 := Lib.hid (show o2' = true → false = true from fun h => by rw [zz] at h; exact h)
                  clear zz
                  have nw : IntKind.i64.wrap ((mkV o1' o2' cr').tdiv 2) = (mkV o1' o2' cr').tdiv 2 := IntWalk.i64_in _ ⟨by have := (NN.out o1' o2').2.2.2; omega, by have := (NN.out o1' o2').2.2.2; omega⟩
                  generalize mkV o1' o2' cr' = n at *
                  clear NN f2 u2
                  rcases (show M - mg < v ∨ (v ≤ M - mg ∧ v < L + mg) ∨ (v ≤ M - mg ∧ L + mg ≤ v) by omega) with hx | ⟨hx, hy⟩ | ⟨hx, hy⟩
                  · clear n4
                    go_wp2
                    go_roundw
                    case rel => exact ⟨j + 1, 0, 0, false, false, r1', o1', r2', o2', cr', by omega, rfl, rfl, rfl, rfl, by go_num, F9, S9, O9, U9, hM7, hb7⟩
                    case measure => simp [intOf]; omega
                  · clear n4
                    go_wp2
                    go_roundw
                    case rel => exact ⟨j + 1, 0, 0, false, false, r1', o1', r2', o2', cr', by omega, rfl, rfl, rfl, rfl, by go_num, F9, S9, O9, U9, hM7, hb7⟩
                    case measure => simp [intOf]; omega
                  · replace n4 := n4 hx hy
                    go_wp2
                    go_roundw
                    case rel => exact ⟨j + 1, 0, 0, false, false, r1', o1', r2', o2', cr', by omega, rfl, rfl, rfl, rfl, by go_num, F9, S9, O9, U9, hM7, hb7⟩
                    case measure => simp [intOf]; omega
                · have U9 := Lib.hid (show o2' = true → true = true from fun _ => rfl)
                  have nw : IntKind.i64.wrap ((mkV o1' o2' cr').tdiv 2) = (mkV o1' o2' cr').tdiv 2 := IntWalk.i64_in _ ⟨by have := (NN.out o1' o2').2.2.2; omega, by have := (NN.out o1' o2').2.2.2; omega⟩
                  generalize mkV o1' o2' cr' = n at *
                  clear NN f2 u2
                  rcases (show M - mg < v ∨ (v ≤ M - mg ∧ v < L + mg) ∨ (v ≤ M - mg ∧ L + mg ≤ v) by omega) with hx | ⟨hx, hy⟩ | ⟨hx, hy⟩
                  · clear n4
                    go_wp2
                    go_roundw
                    case rel => exact ⟨j + 1, 0, 0, false, true, r1', o1', r2', o2', cr', by omega, rfl, rfl, rfl, rfl, by go_num, F9, S9, O9, U9, hM7, hb7⟩
                    case measure => simp [intOf]; omega
                  · clear n4
                    go_wp2
                    go_roundw
                    case rel => exact ⟨j + 1, 0, 0, false, true, r1', o1', r2', o2', cr', by omega, rfl, rfl, rfl, rfl, by go_num, F9, S9, O9, U9, hM7, hb7⟩
                    case measure => simp [intOf]; omega
                  · replace n4 := n4 hx hy
                    go_wp2
                    go_roundw
                    case rel => exact ⟨j + 1, 0, 0, false, true, r1', o1', r2', o2', cr', by omega, rfl, rfl, rfl, rfl, by go_num, F9, S9, O9, U9, hM7, hb7⟩
                    case measure => simp [intOf]; omega
              · have O9 := Lib.hid (show o1' = true → true = true from fun _ => rfl)
                cases Un
                · have zz : o2' = false := by
                    cases h : o2'
                    · rfl
                    · have := hU.out (u2 h).1; cases this
                  have nq : ((mkV o1' o2' cr').tdiv 2).tmod 2 = 0 := by rw [(NN.out o1' o2').2.1, zz]; rfl
                  have U9 := Lib.hid (show o2' = true → false = true from fun h => by rw [zz] at h; exact h)
                  clear zz
                  have nw : IntKind.i64.wrap ((mkV o1' o2' cr').tdiv 2) = (mkV o1' o2' cr').tdiv 2 := IntWalk.i64_in _ ⟨by have := (NN.out o1' o2').2.2.2; omega, by have := (NN.out o1' o2').2.2.2; omega⟩
                  generalize mkV o1' o2' cr' = n at *
                  clear NN f2 u2
                  rcases (show M - mg < v ∨ (v ≤ M - mg ∧ v < L + mg) ∨ (v ≤ M - mg ∧ L + mg ≤ v) by omega) with hx | ⟨hx, hy⟩ | ⟨hx, hy⟩
                  · clear n4
                    go_wp2
                    go_roundw
                    case rel => exact ⟨j + 1, 0, 0, true, false, r1', o1', r2', o2', cr', by omega, rfl, rfl, rfl, rfl, by go_num, F9, S9, O9, U9, hM7, hb7⟩
                    case measure => simp [intOf]; omega
                  · clear n4
                    go_wp2
                    go_roundw
                    case rel => exact ⟨j + 1, 0, 0, true, false, r1', o1', r2', o2', cr', by omega, rfl, rfl, rfl, rfl, by go_num, F9, S9, O9, U9, hM7, hb7⟩
                    case measure => simp [intOf]; omega
                  · replace n4 := n4 hx hy
                    go_wp2
                    go_roundw
                    case rel => exact ⟨j + 1, 0, 0, true, false, r1', o1', r2', o2', cr', by omega, rfl, rfl, rfl, rfl, by go_num, F9, S9, O9, U9, hM7, hb7⟩
                    case measure => simp [intOf]; omega
                · have U9 := Lib.hid (show o2' = true → true = true from fun _ => rfl)
                  have nw : IntKind.i64.wrap ((mkV o1' o2' cr').tdiv 2) = (mkV o1' o2' cr').tdiv 2 := IntWalk.i64_in _ ⟨by have := (NN.out o1' o2').2.2.2; omega, by have := (NN.out o1' o2').2.2.2; omega⟩
                  generalize mkV o1' o2' cr' = n at *
                  clear NN f2 u2
                  rcases (show M - mg < v ∨ (v ≤ M - mg ∧ v < L + mg) ∨ (v ≤ M - mg ∧ L + mg ≤ v) by omega) with hx | ⟨hx, hy⟩ | ⟨hx, hy⟩
                  · clear n4
                    go_wp2
                    go_roundw
                    case rel => exact ⟨j + 1, 0, 0, true, true, r1', o1', r2', o2', cr', by omega, rfl, rfl, rfl, rfl, by go_num, F9, S9, O9, U9, hM7, hb7⟩
                    case measure => simp [intOf]; omega
                  · clear n4
                    go_wp2
                    go_roundw
                    case rel => exact ⟨j + 1, 0, 0, true, true, r1', o1', r2', o2', cr', by omega, rfl, rfl, rfl, rfl, by go_num, F9, S9, O9, U9, hM7, hb7⟩
                    case measure => simp [intOf]; omega
                  · replace n4 := n4 hx hy
                    go_wp2
                    go_roundw
                    case rel => exact ⟨j + 1, 0, 0, true, true, r1', o1', r2', o2', cr', by omega, rfl, rfl, rfl, rfl, by go_num, F9, S9, O9, U9, hM7, hb7⟩
                    case measure => simp [intOf]; omega
          · as_aux_lemma =>
              obtain ⟨u1, u2, u3⟩ := UN.out.2 hd
              have S9 := Lib.hid (show 0 ≤ S + 1 ∧ S + 1 ≤ ((j + 1 : Nat) : Int) ∧ r2' = min (S + 1) tk from ⟨HS.out.1, HS.out.2, u1⟩)
              clear u1 UN HF HS
              have g8 : v < L + mg := by omega
              cases O
              · have zz : o1' = false := by
                  cases h : o1'
                  · rfl
                  · have := hO.out (f2 h).1; cases this
                have n2 : (mkV o1' o2' cr').tmod 2 = 0 := by rw [(NN.out o1' o2').1, zz]; rfl
                have O9 := Lib.hid (show o1' = true → false = true from fun h => by rw [zz] at h; exact h)
                clear zz
                rcases (show tk ≤ S + 1 ∨ S + 1 < tk by omega) with heu | heu
                · have zz := u2 heu
                  have nq : ((mkV o1' o2' cr').tdiv 2).tmod 2 = 1 := by rw [(NN.out o1' o2').2.1, zz]; rfl
                  clear zz
                  have U9 := Lib.hid (show o2' = true → true = true from fun _ => rfl)
                  cases Un
                  all_goals
                    have nw : IntKind.i64.wrap ((mkV o1' o2' cr').tdiv 2) = (mkV o1' o2' cr').tdiv 2 := IntWalk.i64_in _ ⟨by have := (NN.out o1' o2').2.2.2; omega, by have := (NN.out o1' o2').2.2.2; omega⟩
                    generalize mkV o1' o2' cr' = n at *
                    clear NN f2 u2 u3
                    rcases (show M - mg < v ∨ v ≤ M - mg by omega) with hx | hx
                    all_goals
                      go_wp2
                      go_roundw
                      case rel => exact ⟨j + 1, 0, S + 1, false, true, r1', o1', r2', o2', cr', by omega, rfl, rfl, rfl, rfl, by go_num, F9, S9, O9, U9, hM7, hb7⟩
                      case measure => simp [intOf]; omega
                · have e9 := u3 heu
                  cases Un
                  · have zz : o2' = false := by
                      cases h : o2'
                      · rfl
                      · have := hU.out (e9 ▸ h); cases this
                    have nq : ((mkV o1' o2' cr').tdiv 2).tmod 2 = 0 := by rw [(NN.out o1' o2').2.1, zz]; rfl
                    have U9 := Lib.hid (show o2' = true → false = true from fun h => by rw [zz] at h; exact h)
                    clear zz
                    clear e9
                    have nw : IntKind.i64.wrap ((mkV o1' o2' cr').tdiv 2) = (mkV o1' o2' cr').tdiv 2 := IntWalk.i64_in _ ⟨by have := (NN.out o1' o2').2.2.2; omega, by have := (NN.out o1' o2').2.2.2; omega⟩
                    generalize mkV o1' o2' cr' = n at *
                    clear NN f2 u2 u3
                    rcases (show M - mg < v ∨ v ≤ M - mg by omega) with hx | hx
                    all_goals
                      go_wp2
                      go_roundw
                      case rel => exact ⟨j + 1, 0, S + 1, false, false, r1', o1', r2', o2', cr', by omega, rfl, rfl, rfl, rfl, by go_num, F9, S9, O9, U9, hM7, hb7⟩
                      case measure => simp [intOf]; omega
                  · clear e9
                    have U9 := Lib.hid (show o2' = true → true = true from fun _ => rfl)
                    have nw : IntKind.i64.wrap ((mkV o1' o2' cr').tdiv 2) = (mkV o1' o2' cr').tdiv 2 := IntWalk.i64_in _ ⟨by have := (NN.out o1' o2').2.2.2; omega, by have := (NN.out o1' o2').2.2.2; omega⟩
                    generalize mkV o1' o2' cr' = n at *
                    clear NN f2 u2 u3
                    rcases (show M - mg < v ∨ v ≤ M - mg by omega) with hx | hx
                    all_goals
                      go_wp2
                      go_roundw
                      case rel => exact ⟨j + 1, 0, S + 1, false, true, r1', o1', r2', o2', cr', by omega, rfl, rfl, rfl, rfl, by go_num, F9, S9, O9, U9, hM7, hb7⟩
                      case measure => simp [intOf]; omega
              · have O9 := Lib.hid (show o1' = true → true = true from fun _ => rfl)
                rcases (show tk ≤ S + 1 ∨ S + 1 < tk by omega) with heu | heu
                · have zz := u2 heu
                  have nq : ((mkV o1' o2' cr').tdiv 2).tmod 2 = 1 := by rw [(NN.out o1' o2').2.1, zz]; rfl
                  clear zz
                  have U9 := Lib.hid (show o2' = true → true = true from fun _ => rfl)
                  cases Un
                  all_goals
                    have nw : IntKind.i64.wrap ((mkV o1' o2' cr').tdiv 2) = (mkV o1' o2' cr').tdiv 2 := IntWalk.i64_in _ ⟨by have := (NN.out o1' o2').2.2.2; omega, by have := (NN.out o1' o2').2.2.2; omega⟩
                    generalize mkV o1' o2' cr' = n at *
                    clear NN f2 u2 u3
                    rcases (show M - mg < v ∨ v ≤ M - mg by omega) with hx | hx
                    all_goals
                      go_wp2
                      go_roundw
                      case rel => exact ⟨j + 1, 0, S + 1, true, true, r1', o1', r2', o2', cr', by omega, rfl, rfl, rfl, rfl, by go_num, F9, S9, O9, U9, hM7, hb7⟩
                      case measure => simp [intOf]; omega
                · have e9 := u3 heu
                  cases Un
                  · have zz : o2' = false := by
                      cases h : o2'
                      · rfl
                      · have := hU.out (e9 ▸ h); cases this
                    have nq : ((mkV o1' o2' cr').tdiv 2).tmod 2 = 0 := by rw [(NN.out o1' o2').2.1, zz]; rfl
                    have U9 := Lib.hid (show o2' = true → false = true from fun h => by rw [zz] at h; exact h)
                    clear zz
                    clear e9
                    have nw : IntKind.i64.wrap ((mkV o1' o2' cr').tdiv 2) = (mkV o1' o2' cr').tdiv 2 := IntWalk.i64_in _ ⟨by have := (NN.out o1' o2').2.2.2; omega, by have := (NN.out o1' o2').2.2.2; omega⟩
                    generalize mkV o1' o2' cr' = n at *
                    clear NN f2 u2 u3
                    rcases (show M - mg < v ∨ v ≤ M - mg by omega) with hx | hx
                    all_goals
                      go_wp2
                      go_roundw
                      case rel => exact ⟨j + 1, 0, S + 1, true, false, r1', o1', r2', o2', cr', by omega, rfl, rfl, rfl, rfl, by go_num, F9, S9, O9, U9, hM7, hb7⟩
                      case measure => simp [intOf]; omega
                  · clear e9
                    have U9 := Lib.hid (show o2' = true → true = true from fun _ => rfl)
                    have nw : IntKind.i64.wrap ((mkV o1' o2' cr').tdiv 2) = (mkV o1' o2' cr').tdiv 2 := IntWalk.i64_in _ ⟨by have := (NN.out o1' o2').2.2.2; omega, by have := (NN.out o1' o2').2.2.2; omega⟩
                    generalize mkV o1' o2' cr' = n at *
                    clear NN f2 u2 u3
                    rcases (show M - mg < v ∨ v ≤ M - mg by omega) with hx | hx
                    all_goals
                      go_wp2
                      go_roundw
                      case rel => exact ⟨j + 1, 0, S + 1, true, true, r1', o1', r2', o2', cr', by omega, rfl, rfl, rfl, rfl, by go_num, F9, S9, O9, U9, hM7, hb7⟩
                      case measure => simp [intOf]; omega
        · obtain ⟨f1, f2, f3⟩ := OV.out.2 hc
          have F9 := Lib.hid (show 0 ≤ F + 1 ∧ F + 1 ≤ ((j + 1 : Nat) : Int) ∧ r1' = min (F + 1) tk from ⟨HF.out.1, HF.out.2, f1⟩)
          clear f1 OV
          have g9 : M - mg < v := by omega
          rcases (show L ≤ v ∨ v < L by omega) with hd | hd
          · as_aux_lemma =>
              obtain ⟨u1, u2⟩ := UN.out.1 hd
              have S9 := Lib.hid (show (0 : Int) ≤ 0 ∧ (0 : Int) ≤ ((j + 1 : Nat) : Int) ∧ r2' = min 0 tk from by omega)
              clear u1 UN HF HS
              have tb' : (0 : Int) < tk := by omega
              rcases (show tk ≤ F + 1 ∨ F + 1 < tk by omega) with heo | heo
              · have zz := f2 heo
                have n2 : (mkV o1' o2' cr').tmod 2 = 1 := by rw [(NN.out o1' o2').1, zz]; rfl
                clear zz
                have O9 := Lib.hid (show o1' = true → true = true from fun _ => rfl)
                cases O
                all_goals
                  cases Un
                  · have zz : o2' = false := by
                      cases h : o2'
                      · rfl
                      · have := hU.out (u2 h).1; cases this
                    have nq : ((mkV o1' o2' cr').tdiv 2).tmod 2 = 0 := by rw [(NN.out o1' o2').2.1, zz]; rfl
                    have U9 := Lib.hid (show o2' = true → false = true from fun h => by rw [zz] at h; exact h)
                    clear zz
                    have nw : IntKind.i64.wrap ((mkV o1' o2' cr').tdiv 2) = (mkV o1' o2' cr').tdiv 2 := IntWalk.i64_in _ ⟨by have := (NN.out o1' o2').2.2.2; omega, by have := (NN.out o1' o2').2.2.2; omega⟩
                    generalize mkV o1' o2' cr' = n at *
                    clear NN f2 f3 u2
                    go_wp2
                    go_roundw
                    case rel => exact ⟨j + 1, F + 1, 0, true, false, r1', o1', r2', o2', cr', by omega, rfl, rfl, rfl, rfl, by go_num, F9, S9, O9, U9, hM7, hb7⟩
                    case measure => simp [intOf]; omega
                  · have U9 := Lib.hid (show o2' = true → true = true from fun _ => rfl)
                    have nw : IntKind.i64.wrap ((mkV o1' o2' cr').tdiv 2) = (mkV o1' o2' cr').tdiv 2 := IntWalk.i64_in _ ⟨by have := (NN.out o1' o2').2.2.2; omega, by have := (NN.out o1' o2').2.2.2; omega⟩
                    generalize mkV o1' o2' cr' = n at *
                    clear NN f2 f3 u2
                    go_wp2
                    go_roundw
                    case rel => exact ⟨j + 1, F + 1, 0, true, true, r1', o1', r2', o2', cr', by omega, rfl, rfl, rfl, rfl, by go_num, F9, S9, O9, U9, hM7, hb7⟩
                    case measure => simp [intOf]; omega
              · have e9 := f3 heo
                cases O
                · have zz : o1' = false := by
                    cases h : o1'
                    · rfl
                    · have := hO.out (e9 ▸ h); cases this
                  have n2 : (mkV o1' o2' cr').tmod 2 = 0 := by rw [(NN.out o1' o2').1, zz]; rfl
                  have O9 := Lib.hid (show o1' = true → false = true from fun h => by rw [zz] at h; exact h)
                  clear zz
                  clear e9
                  cases Un
                  · have zz : o2' = false := by
                      cases h : o2'
                      · rfl
                      · have := hU.out (u2 h).1; cases this
                    have nq : ((mkV o1' o2' cr').tdiv 2).tmod 2 = 0 := by rw [(NN.out o1' o2').2.1, zz]; rfl
                    have U9 := Lib.hid (show o2' = true → false = true from fun h => by rw [zz] at h; exact h)
                    clear zz
                    have nw : IntKind.i64.wrap ((mkV o1' o2' cr').tdiv 2) = (mkV o1' o2' cr').tdiv 2 := IntWalk.i64_in _ ⟨by have := (NN.out o1' o2').2.2.2; omega, by have := (NN.out o1' o2').2.2.2; omega⟩
                    generalize mkV o1' o2' cr' = n at *
                    clear NN f2 f3 u2
                    go_wp2
                    go_roundw
                    case rel => exact ⟨j + 1, F + 1, 0, false, false, r1', o1', r2', o2', cr', by omega, rfl, rfl, rfl, rfl, by go_num, F9, S9, O9, U9, hM7, hb7⟩
                    case measure => simp [intOf]; omega
                  · have U9 := Lib.hid (show o2' = true → true = true from fun _ => rfl)
                    have nw : IntKind.i64.wrap ((mkV o1' o2' cr').tdiv 2) = (mkV o1' o2' cr').tdiv 2 := IntWalk.i64_in _ ⟨by have := (NN.out o1' o2').2.2.2; omega, by have := (NN.out o1' o2').2.2.2; omega⟩
                    generalize mkV o1' o2' cr' = n at *
                    clear NN f2 f3 u2
                    go_wp2
                    go_roundw
                    case rel => exact ⟨j + 1, F + 1, 0, false, true, r1', o1', r2', o2', cr', by omega, rfl, rfl, rfl, rfl, by go_num, F9, S9, O9, U9, hM7, hb7⟩
                    case measure => simp [intOf]; omega
                · clear e9
                  have O9 := Lib.hid (show o1' = true → true = true from fun _ => rfl)
                  cases Un
                  · have zz : o2' = false := by
                      cases h : o2'
                      · rfl
                      · have := hU.out (u2 h).1; cases this
                    have nq : ((mkV o1' o2' cr').tdiv 2).tmod 2 = 0 := by rw [(NN.out o1' o2').2.1, zz]; rfl
                    have U9 := Lib.hid (show o2' = true → false = true from fun h => by rw [zz] at h; exact h)
                    clear zz
                    have nw : IntKind.i64.wrap ((mkV o1' o2' cr').tdiv 2) = (mkV o1' o2' cr').tdiv 2 := IntWalk.i64_in _ ⟨by have := (NN.out o1' o2').2.2.2; omega, by have := (NN.out o1' o2').2.2.2; omega⟩
                    generalize mkV o1' o2' cr' = n at *
                    clear NN f2 f3 u2
                    go_wp2
                    go_roundw
                    case rel => exact ⟨j + 1, F + 1, 0, true, false, r1', o1', r2', o2', cr', by omega, rfl, rfl, rfl, rfl, by go_num, F9, S9, O9, U9, hM7, hb7⟩
                    case measure => simp [intOf]; omega
                  · have U9 := Lib.hid (show o2' = true → true = true from fun _ => rfl)
                    have nw : IntKind.i64.wrap ((mkV o1' o2' cr').tdiv 2) = (mkV o1' o2' cr').tdiv 2 := IntWalk.i64_in _ ⟨by have := (NN.out o1' o2').2.2.2; omega, by have := (NN.out o1' o2').2.2.2; omega⟩
                    generalize mkV o1' o2' cr' = n at *
                    clear NN f2 f3 u2
                    go_wp2
                    go_roundw
                    case rel => exact ⟨j + 1, F + 1, 0, true, true, r1', o1', r2', o2', cr', by omega, rfl, rfl, rfl, rfl, by go_num, F9, S9, O9, U9, hM7, hb7⟩
                    case measure => simp [intOf]; omega
          · as_aux_lemma =>
              obtain ⟨u1, u2, u3⟩ := UN.out.2 hd
              have S9 := Lib.hid (show 0 ≤ S + 1 ∧ S + 1 ≤ ((j + 1 : Nat) : Int) ∧ r2' = min (S + 1) tk from ⟨HS.out.1, HS.out.2, u1⟩)
              clear u1 UN HF HS
              have g8 : v < L + mg := by omega
              rcases (show tk ≤ F + 1 ∨ F + 1 < tk by omega) with heo | heo
              · have zz := f2 heo
                have n2 : (mkV o1' o2' cr').tmod 2 = 1 := by rw [(NN.out o1' o2').1, zz]; rfl
                clear zz
                have O9 := Lib.hid (show o1' = true → true = true from fun _ => rfl)
                cases O
                all_goals
                  rcases (show tk ≤ S + 1 ∨ S + 1 < tk by omega) with heu | heu
                  · have zz := u2 heu
                    have nq : ((mkV o1' o2' cr').tdiv 2).tmod 2 = 1 := by rw [(NN.out o1' o2').2.1, zz]; rfl
                    clear zz
                    have U9 := Lib.hid (show o2' = true → true = true from fun _ => rfl)
                    cases Un
                    all_goals
                      have nw : IntKind.i64.wrap ((mkV o1' o2' cr').tdiv 2) = (mkV o1' o2' cr').tdiv 2 := IntWalk.i64_in _ ⟨by have := (NN.out o1' o2').2.2.2; omega, by have := (NN.out o1' o2').2.2.2; omega⟩
                      generalize mkV o1' o2' cr' = n at *
                      clear NN f2 f3 u2 u3
                      go_wp2
                      go_roundw
                      case rel => exact ⟨j + 1, F + 1, S + 1, true, true, r1', o1', r2', o2', cr', by omega, rfl, rfl, rfl, rfl, by go_num, F9, S9, O9, U9, hM7, hb7⟩
                      case measure => simp [intOf]; omega
                  · have e9 := u3 heu
                    cases Un
                    · have zz : o2' = false := by
                        cases h : o2'
                        · rfl
                        · have := hU.out (e9 ▸ h); cases this
                      have nq : ((mkV o1' o2' cr').tdiv 2).tmod 2 = 0 := by rw [(NN.out o1' o2').2.1, zz]; rfl
                      have U9 := Lib.hid (show o2' = true → false = true from fun h => by rw [zz] at h; exact h)
                      clear zz
                      clear e9
                      have nw : IntKind.i64.wrap ((mkV o1' o2' cr').tdiv 2) = (mkV o1' o2' cr').tdiv 2 := IntWalk.i64_in _ ⟨by have := (NN.out o1' o2').2.2.2; omega, by have := (NN.out o1' o2').2.2.2; omega⟩
                      generalize mkV o1' o2' cr' = n at *
                      clear NN f2 f3 u2 u3
                      go_wp2
                      go_roundw
                      case rel => exact ⟨j + 1, F + 1, S + 1, true, false, r1', o1', r2', o2', cr', by omega, rfl, rfl, rfl, rfl, by go_num, F9, S9, O9, U9, hM7, hb7⟩
                      case measure => simp [intOf]; omega
                    · clear e9
                      have U9 := Lib.hid (show o2' = true → true = true from fun _ => rfl)
                      have nw : IntKind.i64.wrap ((mkV o1' o2' cr').tdiv 2) = (mkV o1' o2' cr').tdiv 2 := IntWalk.i64_in _ ⟨by have := (NN.out o1' o2').2.2.2; omega, by have := (NN.out o1' o2').2.2.2; omega⟩
                      generalize mkV o1' o2' cr' = n at *
                      clear NN f2 f3 u2 u3
                      go_wp2
                      go_roundw
                      case rel => exact ⟨j + 1, F + 1, S + 1, true, true, r1', o1', r2', o2', cr', by omega, rfl, rfl, rfl, rfl, by go_num, F9, S9, O9, U9, hM7, hb7⟩
                      case measure => simp [intOf]; omega
              · have e9 := f3 heo
                cases O
                · have zz : o1' = false := by
                    cases h : o1'
                    · rfl
                    · have := hO.out (e9 ▸ h); cases this
                  have n2 : (mkV o1' o2' cr').tmod 2 = 0 := by rw [(NN.out o1' o2').1, zz]; rfl
                  have O9 := Lib.hid (show o1' = true → false = true from fun h => by rw [zz] at h; exact h)
                  clear zz
                  clear e9
                  rcases (show tk ≤ S + 1 ∨ S + 1 < tk by omega) with heu | heu
                  · have zz := u2 heu
                    have nq : ((mkV o1' o2' cr').tdiv 2).tmod 2 = 1 := by rw [(NN.out o1' o2').2.1, zz]; rfl
                    clear zz
                    have U9 := Lib.hid (show o2' = true → true = true from fun _ => rfl)
                    cases Un
                    all_goals
                      have nw : IntKind.i64.wrap ((mkV o1' o2' cr').tdiv 2) = (mkV o1' o2' cr').tdiv 2 := IntWalk.i64_in _ ⟨by have := (NN.out o1' o2').2.2.2; omega, by have := (NN.out o1' o2').2.2.2; omega⟩
                      generalize mkV o1' o2' cr' = n at *
                      clear NN f2 f3 u2 u3
                      go_wp2
                      go_roundw
                      case rel => exact ⟨j + 1, F + 1, S + 1, false, true, r1', o1', r2', o2', cr', by omega, rfl, rfl, rfl, rfl, by go_num, F9, S9, O9, U9, hM7, hb7⟩
                      case measure => simp [intOf]; omega
                  · have e9 := u3 heu
                    cases Un
                    · have zz : o2' = false := by
                        cases h : o2'
                        · rfl
                        · have := hU.out (e9 ▸ h); cases this
                      have nq : ((mkV o1' o2' cr').tdiv 2).tmod 2 = 0 := by rw [(NN.out o1' o2').2.1, zz]; rfl
                      have U9 := Lib.hid (show o2' = true → false = true from fun h => by rw [zz] at h; exact h)
                      clear zz
                      clear e9
                      have nw : IntKind.i64.wrap ((mkV o1' o2' cr').tdiv 2) = (mkV o1' o2' cr').tdiv 2 := IntWalk.i64_in _ ⟨by have := (NN.out o1' o2').2.2.2; omega, by have := (NN.out o1' o2').2.2.2; omega⟩
                      generalize mkV o1' o2' cr' = n at *
                      clear NN f2 f3 u2 u3
                      go_wp2
                      go_roundw
                      case rel => exact ⟨j + 1, F + 1, S + 1, false, false, r1', o1', r2', o2', cr', by omega, rfl, rfl, rfl, rfl, by go_num, F9, S9, O9, U9, hM7, hb7⟩
                      case measure => simp [intOf]; omega
                    · clear e9
                      have U9 := Lib.hid (show o2' = true → true = true from fun _ => rfl)
                      have nw : IntKind.i64.wrap ((mkV o1' o2' cr').tdiv 2) = (mkV o1' o2' cr').tdiv 2 := IntWalk.i64_in _ ⟨by have := (NN.out o1' o2').2.2.2; omega, by have := (NN.out o1' o2').2.2.2; omega⟩
                      generalize mkV o1' o2' cr' = n at *
                      clear NN f2 f3 u2 u3
                      go_wp2
                      go_roundw
                      case rel => exact ⟨j + 1, F + 1, S + 1, false, true, r1', o1', r2', o2', cr', by omega, rfl, rfl, rfl, rfl, by go_num, F9, S9, O9, U9, hM7, hb7⟩
                      case measure => simp [intOf]; omega
                · clear e9
                  have O9 := Lib.hid (show o1' = true → true = true from fun _ => rfl)
                  rcases (show tk ≤ S + 1 ∨ S + 1 < tk by omega) with heu | heu
                  · have zz := u2 heu
                    have nq : ((mkV o1' o2' cr').tdiv 2).tmod 2 = 1 := by rw [(NN.out o1' o2').2.1, zz]; rfl
                    clear zz
                    have U9 := Lib.hid (show o2' = true → true = true from fun _ => rfl)
                    cases Un
                    all_goals
                      have nw : IntKind.i64.wrap ((mkV o1' o2' cr').tdiv 2) = (mkV o1' o2' cr').tdiv 2 := IntWalk.i64_in _ ⟨by have := (NN.out o1' o2').2.2.2; omega, by have := (NN.out o1' o2').2.2.2; omega⟩
                      generalize mkV o1' o2' cr' = n at *
                      clear NN f2 f3 u2 u3
                      go_wp2
                      go_roundw
                      case rel => exact ⟨j + 1, F + 1, S + 1, true, true, r1', o1', r2', o2', cr', by omega, rfl, rfl, rfl, rfl, by go_num, F9, S9, O9, U9, hM7, hb7⟩
                      case measure => simp [intOf]; omega
                  · have e9 := u3 heu
                    cases Un
                    · have zz : o2' = false := by
                        cases h : o2'
                        · rfl
                        · have := hU.out (e9 ▸ h); cases this
                      have nq : ((mkV o1' o2' cr').tdiv 2).tmod 2 = 0 := by rw [(NN.out o1' o2').2.1, zz]; rfl
                      have U9 := Lib.hid (show o2' = true → false = true from fun h => by rw [zz] at h; exact h)
                      clear zz
                      clear e9
                      have nw : IntKind.i64.wrap ((mkV o1' o2' cr').tdiv 2) = (mkV o1' o2' cr').tdiv 2 := IntWalk.i64_in _ ⟨by have := (NN.out o1' o2').2.2.2; omega, by have := (NN.out o1' o2').2.2.2; omega⟩
                      generalize mkV o1' o2' cr' = n at *
                      clear NN f2 f3 u2 u3
                      go_wp2
                      go_roundw
                      case rel => exact ⟨j + 1, F + 1, S + 1, true, false, r1', o1', r2', o2', cr', by omega, rfl, rfl, rfl, rfl, by go_num, F9, S9, O9, U9, hM7, hb7⟩
                      case measure => simp [intOf]; omega
                    · clear e9
                      have U9 := Lib.hid (show o2' = true → true = true from fun _ => rfl)
                      have nw : IntKind.i64.wrap ((mkV o1' o2' cr').tdiv 2) = (mkV o1' o2' cr').tdiv 2 := IntWalk.i64_in _ ⟨by have := (NN.out o1' o2').2.2.2; omega, by have := (NN.out o1' o2').2.2.2; omega⟩
                      generalize mkV o1' o2' cr' = n at *
                      clear NN f2 f3 u2 u3
                      go_wp2
                      go_roundw
                      case rel => exact ⟨j + 1, F + 1, S + 1, true, true, r1', o1', r2', o2', cr', by omega, rfl, rfl, rfl, rfl, by go_num, F9, S9, O9, U9, hM7, hb7⟩
                      case measure => simp [intOf]; omega
    · have hge : (rows.length : Int) ≤ (j : Int) := by omega
      go_wp2_with fail
      refine (LV.out _).mono ?_
      rintro e w6 ⟨rfl, hb6⟩
      have hb6 := (W.out _ hb.out).trans (hb6.mono (W.out _ hb.out).size)
      go_wp2
      go_ret
      exact ⟨rfl, hb6⟩
end Go.Proofs.Ytnfbfggkbpobiaa
