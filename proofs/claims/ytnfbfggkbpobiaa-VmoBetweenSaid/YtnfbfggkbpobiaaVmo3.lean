/- Package vmo: the warner's step; the chapter's example; walked. -/
import Derived.Test.YtnfbfggkbpobiaaVmo2
namespace Go.Proofs.Ytnfbfggkbpobiaa
open Go.ChangeShapes Go.WideShapes Go.ChangeAt Go.RowKit
set_option linter.unusedVariables false
set_option linter.unusedSimpArgs false

def wrR (by_ : Bool) (r tk : Int) : Int := if by_ then min (r + 1) tk else 0
def wrO (by_ cl : Bool) (r tk : Int) (o : Bool) : Bool := (wrR by_ r tk == tk) || (o && !cl)
theorem wrR_bd {by_ : Bool} {r tk : Int} (h0 : 0 ≤ r) (h1 : r ≤ tk) (h2 : 1 ≤ tk) : 0 ≤ wrR by_ r tk ∧ wrR by_ r tk ≤ tk := by
  unfold wrR
  cases by_
  · simp; omega
  · simp only [if_true]; omega
def mkV (o1 o2 cr : Bool) : Int := (if o1 then 1 else 0) + (if o2 then 2 else 0) + (if cr then 4 else 0)
set_option maxRecDepth 100000 in
set_option maxHeartbeats 8000000 in
theorem wstep7 (p0 p1 p2 p3 p4 p5 p6 p9 p10 p11 : Value) (b : Nat) (r tk : Int) (o by_ cl : Bool) (w : World) (h : Held b [p0, p1, p2, p3, p4, p5, p6, .int .i64 r, .bool o, p9, p10, p11] w) (h0 : 0 ≤ r) (h1 : r ≤ tk) (h2 : 1 ≤ tk) (h3 : tk ≤ 1000) :
    Calls Try.prog 80 #[.pointer (some ⟨b, 7, none⟩), .bool by_, .bool cl, .int .i64 tk] w fun e w' => e = .returned (.tuple #[]) ∧ Held b [p0, p1, p2, p3, p4, p5, p6, .int .i64 (wrR by_ r tk), .bool (wrO by_ cl r tk o), p9, p10, p11] w' ∧ Beside b w w' := by
  have hw : IntKind.i64.wrap (r + 1) = r + 1 := IntWalk.i64_in _ ⟨by omega, by omega⟩
  obtain ⟨c0, f0⟩ := h.one 0 rfl
  obtain ⟨c1, f1⟩ := h.one 1 rfl
  obtain ⟨c2, f2⟩ := h.one 2 rfl
  obtain ⟨c3, f3⟩ := h.one 3 rfl
  obtain ⟨c4, f4⟩ := h.one 4 rfl
  obtain ⟨c5, f5⟩ := h.one 5 rfl
  obtain ⟨c6, f6⟩ := h.one 6 rfl
  obtain ⟨c7, f7⟩ := h.one 7 rfl
  obtain ⟨c8, f8⟩ := h.one 8 rfl
  obtain ⟨c9, f9⟩ := h.one 9 rfl
  obtain ⟨c10, f10⟩ := h.one 10 rfl
  obtain ⟨c11, f11⟩ := h.one 11 rfl
  cases by_
  · rw [show wrR false r tk = 0 from rfl, show wrO false cl r tk o = (o && !cl) by unfold wrO; rw [show wrR false r tk = 0 from rfl, show ((0 : Int) == tk) = false by simp; omega, Bool.false_or]]
    have d1 : ((0 : Int) == tk) = false := by simp; omega
    cases o
    · go_enter Try.func80, Try.ntmps80
      go_wp2
      go_end0
      exact ⟨rfl, (((HB.start h).set 7 (.int .i64 0) (by simp)).set 8 (.bool false) (by simp)).fin rfl rfl rfl rfl⟩
    · go_enter Try.func80, Try.ntmps80
      go_wp2
      go_end0
      exact ⟨rfl, (((HB.start h).set 7 (.int .i64 0) (by simp)).set 8 (.bool (!cl)) (by simp)).fin rfl rfl rfl rfl⟩
  · rw [show wrR true r tk = min (r + 1) tk from rfl]
    cases hd : (min (r + 1) tk == tk)
    · rw [show wrO true cl r tk o = (o && !cl) by unfold wrO; rw [show wrR true r tk = min (r + 1) tk from rfl, hd, Bool.false_or]]
      cases o
      · go_enter Try.func80, Try.ntmps80
        go_wp2
        go_end0
        exact ⟨rfl, (((HB.start h).set 7 (.int .i64 (min (r + 1) tk)) (by simp)).set 8 (.bool false) (by simp)).fin rfl rfl rfl rfl⟩
      · go_enter Try.func80, Try.ntmps80
        go_wp2
        go_end0
        exact ⟨rfl, (((HB.start h).set 7 (.int .i64 (min (r + 1) tk)) (by simp)).set 8 (.bool (!cl)) (by simp)).fin rfl rfl rfl rfl⟩
    · rw [show wrO true cl r tk o = true by unfold wrO; rw [show wrR true r tk = min (r + 1) tk from rfl, hd, Bool.true_or]]
      go_enter Try.func80, Try.ntmps80
      go_wp2
      go_end0
      exact ⟨rfl, (((HB.start h).set 7 (.int .i64 (min (r + 1) tk)) (by simp)).set 8 (.bool true) (by simp)).fin rfl rfl rfl rfl⟩
set_option maxRecDepth 100000 in
set_option maxHeartbeats 8000000 in
theorem wstep9 (p0 p1 p2 p3 p4 p5 p6 p7 p8 p11 : Value) (b : Nat) (r tk : Int) (o by_ cl : Bool) (w : World) (h : Held b [p0, p1, p2, p3, p4, p5, p6, p7, p8, .int .i64 r, .bool o, p11] w) (h0 : 0 ≤ r) (h1 : r ≤ tk) (h2 : 1 ≤ tk) (h3 : tk ≤ 1000) :
    Calls Try.prog 80 #[.pointer (some ⟨b, 9, none⟩), .bool by_, .bool cl, .int .i64 tk] w fun e w' => e = .returned (.tuple #[]) ∧ Held b [p0, p1, p2, p3, p4, p5, p6, p7, p8, .int .i64 (wrR by_ r tk), .bool (wrO by_ cl r tk o), p11] w' ∧ Beside b w w' := by
  have hw : IntKind.i64.wrap (r + 1) = r + 1 := IntWalk.i64_in _ ⟨by omega, by omega⟩
  obtain ⟨c0, f0⟩ := h.one 0 rfl
  obtain ⟨c1, f1⟩ := h.one 1 rfl
  obtain ⟨c2, f2⟩ := h.one 2 rfl
  obtain ⟨c3, f3⟩ := h.one 3 rfl
  obtain ⟨c4, f4⟩ := h.one 4 rfl
  obtain ⟨c5, f5⟩ := h.one 5 rfl
  obtain ⟨c6, f6⟩ := h.one 6 rfl
  obtain ⟨c7, f7⟩ := h.one 7 rfl
  obtain ⟨c8, f8⟩ := h.one 8 rfl
  obtain ⟨c9, f9⟩ := h.one 9 rfl
  obtain ⟨c10, f10⟩ := h.one 10 rfl
  obtain ⟨c11, f11⟩ := h.one 11 rfl
  cases by_
  · rw [show wrR false r tk = 0 from rfl, show wrO false cl r tk o = (o && !cl) by unfold wrO; rw [show wrR false r tk = 0 from rfl, show ((0 : Int) == tk) = false by simp; omega, Bool.false_or]]
    have d1 : ((0 : Int) == tk) = false := by simp; omega
    cases o
    · go_enter Try.func80, Try.ntmps80
      go_wp2
      go_end0
      exact ⟨rfl, (((HB.start h).set 9 (.int .i64 0) (by simp)).set 10 (.bool false) (by simp)).fin rfl rfl rfl rfl⟩
    · go_enter Try.func80, Try.ntmps80
      go_wp2
      go_end0
      exact ⟨rfl, (((HB.start h).set 9 (.int .i64 0) (by simp)).set 10 (.bool (!cl)) (by simp)).fin rfl rfl rfl rfl⟩
  · rw [show wrR true r tk = min (r + 1) tk from rfl]
    cases hd : (min (r + 1) tk == tk)
    · rw [show wrO true cl r tk o = (o && !cl) by unfold wrO; rw [show wrR true r tk = min (r + 1) tk from rfl, hd, Bool.false_or]]
      cases o
      · go_enter Try.func80, Try.ntmps80
        go_wp2
        go_end0
        exact ⟨rfl, (((HB.start h).set 9 (.int .i64 (min (r + 1) tk)) (by simp)).set 10 (.bool false) (by simp)).fin rfl rfl rfl rfl⟩
      · go_enter Try.func80, Try.ntmps80
        go_wp2
        go_end0
        exact ⟨rfl, (((HB.start h).set 9 (.int .i64 (min (r + 1) tk)) (by simp)).set 10 (.bool (!cl)) (by simp)).fin rfl rfl rfl rfl⟩
    · rw [show wrO true cl r tk o = true by unfold wrO; rw [show wrR true r tk = min (r + 1) tk from rfl, hd, Bool.true_or]]
      go_enter Try.func80, Try.ntmps80
      go_wp2
      go_end0
      exact ⟨rfl, (((HB.start h).set 9 (.int .i64 (min (r + 1) tk)) (by simp)).set 10 (.bool true) (by simp)).fin rfl rfl rfl rfl⟩
theorem vmarks_nil (w : World) : Calls Try.prog 51 #[.pointer none] w fun e w' => e = .returned (.int .i64 0) ∧ w = w' := by
  go_enter Try.func51, Try.ntmps51
  go_wp2
  go_ret
  exact ⟨rfl, rfl⟩
theorem vclear_nil (w : World) : Calls Try.prog 52 #[.pointer none] w fun e w' => e = .returned (.tuple #[]) ∧ w = w' := by
  go_enter Try.func52, Try.ntmps52
  go_wp2
  go_end0
  exact ⟨rfl, rfl⟩
theorem vstep_nil (x0 x1 x2 x3 : Int) (w : World) : Calls Try.prog 49 #[.pointer none, .int .i64 x0, .int .i64 x1, .int .i64 x2, .int .i64 x3] w fun e w' => e = .returned (.int .i64 0) ∧ w = w' := by
  go_enter Try.func49, Try.ntmps49
  go_wp2
  go_ret
  exact ⟨rfl, rfl⟩
set_option maxRecDepth 100000 in
set_option maxHeartbeats 8000000 in
theorem vmarks_any (b g1 c1 g2 c2 g3 c3 g4 c4 : Nat) (X Y Z T : List Int) (ma mg tk r1 : Int) (o1 : Bool) (r2 : Int) (o2 cr : Bool) (w : World) (h : Wrn b g1 c1 g2 c2 g3 c3 g4 c4 X Y Z T ma mg tk r1 o1 r2 o2 cr w) : Calls Try.prog 51 #[.pointer (some ⟨b, 0, none⟩)] w fun e w' => e = .returned (.int .i64 (mkV o1 o2 cr)) ∧ w = w' := by
  have hm := h.m
  obtain ⟨c0, f0⟩ := hm.one 0 rfl
  obtain ⟨c1, f1⟩ := hm.one 1 rfl
  obtain ⟨c2, f2⟩ := hm.one 2 rfl
  obtain ⟨c3, f3⟩ := hm.one 3 rfl
  obtain ⟨c4, f4⟩ := hm.one 4 rfl
  obtain ⟨c5, f5⟩ := hm.one 5 rfl
  obtain ⟨c6, f6⟩ := hm.one 6 rfl
  obtain ⟨c7, f7⟩ := hm.one 7 rfl
  obtain ⟨c8, f8⟩ := hm.one 8 rfl
  obtain ⟨c9, f9⟩ := hm.one 9 rfl
  obtain ⟨c10, f10⟩ := hm.one 10 rfl
  obtain ⟨c11, f11⟩ := hm.one 11 rfl
  clear hm h
  cases o1 <;> cases o2 <;> cases cr
  all_goals
    go_enter Try.func51, Try.ntmps51
    go_wp2
    go_ret
    exact ⟨by first | rfl | exact ret_int (by decide), rfl⟩

def nR1 (M v tk r : Int) : Int := wrR (decide (M < v)) r tk
def nO1 (M v mg tk r : Int) (o : Bool) : Bool := wrO (decide (M < v)) (decide (v ≤ M - mg)) r tk o
def nR2 (L v tk r : Int) : Int := wrR (decide (v < L)) r tk
def nO2 (L v mg tk r : Int) (o : Bool) : Bool := wrO (decide (v < L)) (decide (L + mg ≤ v)) r tk o
set_option maxRecDepth 100000 in
set_option maxHeartbeats 8000000 in
theorem vstep_any (b g1 c1 g2 c2 g3 c3 g4 c4 : Nat) (X Y Z T : List Int) (ma mg tk r1 : Int) (o1 : Bool) (r2 : Int) (o2 cr : Bool) (cas hh p wt : Int) (w : World) (h : Wrn b g1 c1 g2 c2 g3 c3 g4 c4 X Y Z T ma mg tk r1 o1 r2 o2 cr w) (hl1 : X.length ≤ 300) (hl2 : Y.length ≤ 300) (hl3 : Z.length ≤ 300) (hl4 : T.length ≤ 300) (hp1 : -9223372036854775808 ≤ p) (hp2 : p ≤ 9223372036854775807) (hw : voB X Y Z T ma mg tk = true) (a1 : 0 ≤ r1) (a2 : r1 ≤ tk) (a3 : 0 ≤ r2) (a4 : r2 ≤ tk) :
    Calls Try.prog 49 #[.pointer (some ⟨b, 0, none⟩), .int .i64 cas, .int .i64 hh, .int .i64 p, .int .i64 wt] w fun e w' => e = .returned (.int .i64 (mkV (nO1 (vlM X Y ma hh p) (clp cas) mg tk r1 o1) (nO2 (vlL Z T wt) (clp cas) mg tk r2 o2) (decide ((vlM X Y ma hh p) < (vlL Z T wt))))) ∧ Wrn b g1 c1 g2 c2 g3 c3 g4 c4 X Y Z T ma mg tk (nR1 (vlM X Y ma hh p) (clp cas) tk r1) (nO1 (vlM X Y ma hh p) (clp cas) mg tk r1 o1) (nR2 (vlL Z T wt) (clp cas) tk r2) (nO2 (vlL Z T wt) (clp cas) mg tk r2 o2) (decide ((vlM X Y ma hh p) < (vlL Z T wt))) w' ∧ Beside b w w' := by
  obtain ⟨i1, i2, -, ⟨g1', g2'⟩, t1, t2⟩ := voB_at hw
  obtain ⟨⟨L1, L2⟩, M1, M2⟩ := vl_bd i1 i2 ma hh p wt
  have LI := vlimits (some ⟨g1, 0, none⟩) (some ⟨g2, 0, none⟩) (some ⟨g3, 0, none⟩) (some ⟨g4, 0, none⟩) c1 c2 c3 c4 X Y Z T ma mg tk hh p wt w h.x1 h.x2 h.x3 h.x4 hl1 hl2 hl3 hl4 hp1 hp2
  rw [hw] at LI
  simp only [if_true] at LI
  replace LI := Lib.hid LI
  have vb := clp_bd cas
  have CL := Lib.hid (fun u => clip_any cas u)
  generalize clp cas = v at *
  generalize beyB cas = bb at *
  generalize vlL Z T wt = L at *
  generalize vlM X Y ma hh p = M at *
  have hw1 : IntKind.i64.wrap (M - mg) = M - mg := IntWalk.i64_in _ ⟨by omega, by omega⟩
  have hw2 : IntKind.i64.wrap (L + mg) = L + mg := IntWalk.i64_in _ ⟨by omega, by omega⟩
  unfold nR1 nO1 nR2 nO2
  have W7 := Lib.hid (fun x y u hu => wstep7 (.slice (some ⟨g1, 0, none⟩) X.length c1) (.slice (some ⟨g2, 0, none⟩) Y.length c2) (.slice (some ⟨g3, 0, none⟩) Z.length c3) (.slice (some ⟨g4, 0, none⟩) T.length c4) (.int .i64 ma) (.int .i64 mg) (.int .i64 tk) (.int .i64 r2) (.bool o2) (.bool cr) b r1 tk o1 x y u hu a1 a2 t1 t2)
  have W9 := Lib.hid (fun s q x y u hu => wstep9 (.slice (some ⟨g1, 0, none⟩) X.length c1) (.slice (some ⟨g2, 0, none⟩) Y.length c2) (.slice (some ⟨g3, 0, none⟩) Z.length c3) (.slice (some ⟨g4, 0, none⟩) T.length c4) (.int .i64 ma) (.int .i64 mg) (.int .i64 tk) (.int .i64 s) (.bool q) (.bool cr) b r2 tk o2 x y u hu a3 a4 t1 t2)
  have MK := Lib.hid (fun s1 q1 s2 q2 q3 u hu => vmarks_any b g1 c1 g2 c2 g3 c3 g4 c4 X Y Z T ma mg tk s1 q1 s2 q2 q3 u hu)
  have hm := h.m
  obtain ⟨z0, ff0⟩ := hm.one 0 rfl
  obtain ⟨z1, ff1⟩ := hm.one 1 rfl
  obtain ⟨z2, ff2⟩ := hm.one 2 rfl
  obtain ⟨z3, ff3⟩ := hm.one 3 rfl
  obtain ⟨z4, ff4⟩ := hm.one 4 rfl
  obtain ⟨z5, ff5⟩ := hm.one 5 rfl
  obtain ⟨z6, ff6⟩ := hm.one 6 rfl
  have HW := Lib.hid h
  clear hm h hl1 hl2 hl3 hl4 hp1 hp2 hw i1 i2 g1' g2' t1 t2 L1 L2 M1 M2 vb a1 a2 a3 a4
  obtain ⟨x1, e1⟩ : ∃ x, decide (M < v) = x := ⟨_, rfl⟩
  obtain ⟨x2, e2⟩ : ∃ x, decide (v ≤ M - mg) = x := ⟨_, rfl⟩
  obtain ⟨x3, e3⟩ : ∃ x, decide (v < L) = x := ⟨_, rfl⟩
  obtain ⟨x4, e4⟩ : ∃ x, decide (L + mg ≤ v) = x := ⟨_, rfl⟩
  obtain ⟨x5, e5⟩ : ∃ x, decide (M < L) = x := ⟨_, rfl⟩
  rw [e1, e2, e3, e4, e5]
  have d1 := e1
  have d2 := e2
  have d3 := e3
  have d4 := e4
  generalize hR1 : wrR x1 r1 tk = s1
  generalize hO1 : wrO x1 x2 r1 tk o1 = q1
  generalize hR2 : wrR x3 r2 tk = s2
  generalize hO2 : wrO x3 x4 r2 tk o2 = q2
  have W7' := W7.out x1 x2
  rw [hR1, hO1] at W7'
  have W9' := W9.out s1 q1 x3 x4
  rw [hR2, hO2] at W9'
  replace W7' := Lib.hid W7'
  replace W9' := Lib.hid W9'
  clear W7 W9 hR1 hO1 hR2 hO2
  go_enter Try.func49, Try.ntmps49
  go_wp2_with fail
  refine (CL.out _).mono ?_
  rintro e w1 ⟨rfl, rfl⟩
  go_wp2_with fail
  refine LI.out.mono ?_
  rintro e w2 ⟨rfl, hb2⟩
  have H2 := Lib.hid (HW.out.bel hb2)
  have B2 := Lib.hid (Beside.of_below (b := b) hb2)
  clear hb2 z0 z1 z2 z3 z4 z5 z6 ff0 ff1 ff2 ff3 ff4 ff5 ff6
  have hm2 := H2.out.m
  obtain ⟨z0, ff0⟩ := hm2.one 0 rfl
  obtain ⟨z1, ff1⟩ := hm2.one 1 rfl
  obtain ⟨z2, ff2⟩ := hm2.one 2 rfl
  obtain ⟨z3, ff3⟩ := hm2.one 3 rfl
  obtain ⟨z4, ff4⟩ := hm2.one 4 rfl
  obtain ⟨z5, ff5⟩ := hm2.one 5 rfl
  obtain ⟨z6, ff6⟩ := hm2.one 6 rfl
  clear hm2
  go_upto_region 6 with (fail)
  refine region_moves (fun u => u.cell? ⟨b, 5, none⟩ = some (.int .i64 mg) ∧ u.cell? ⟨b, 6, none⟩ = some (.int .i64 tk)) [] [(.free, 0), (.free, 1), (.free, 2), (.free, 3), (.free, 4), (.free, 5), (.free, 6), (.free, 7), (.free, 8), (.free, 9), (.free, 10), (.free, 11), (.take, 12), (.free, 13), (.free, 14), (.free, 15), (.free, 16), (.free, 17), (.free, 18), (.take, 19), (.step, 20)] _ (by kernel_rfl) (by kernel_rfl) (by kernel_rfl) (by kernel_rfl) (by decide) rfl (fun _ _ _ _ _ h => h) ?_
  simp only [List.filterMap_cons, List.filterMap_nil, List.getElem?_toArray, List.getElem?_cons_zero, List.getElem?_cons_succ, Option.map_some]
  iterate 12
    first
      | (refine mv_free ?_ (Or.inl ⟨by rfl, ?_⟩) (⟨z5, z6⟩) ?_
         rotate_left 1
         · intro u
           go_simp
           try simp only [d1]
           try simp only [d2]
           try simp only [d3]
           try simp only [d4]
           try with_reducible rfl
         simp only [Act.put, List.setIfInBounds_toArray, List.set_cons_zero, List.set_cons_succ])
      | (refine mv_free _ (Or.inr ⟨by rfl, rfl⟩) (⟨z5, z6⟩) ?_
         simp only [Act.put, List.setIfInBounds_toArray, List.set_cons_zero, List.set_cons_succ])
  iterate 1
    first
      | (refine mv_take ?_ (Or.inl ⟨by rfl, ?_⟩) (⟨z5, z6⟩) ?_
         rotate_left 1
         · intro u hu
           (try dsimp only at hu)
           go_simp
           try with_reducible rfl
         simp only [Act.put, List.setIfInBounds_toArray, List.set_cons_zero, List.set_cons_succ])
      | (refine mv_take _ (Or.inr ⟨by rfl, rfl⟩) (⟨z5, z6⟩) ?_
         simp only [Act.put, List.setIfInBounds_toArray, List.set_cons_zero, List.set_cons_succ])
  iterate 6
    first
      | (refine mv_free ?_ (Or.inl ⟨by rfl, ?_⟩) (⟨z5, z6⟩) ?_
         rotate_left 1
         · intro u
           go_simp
           try simp only [d1]
           try simp only [d2]
           try simp only [d3]
           try simp only [d4]
           try with_reducible rfl
         simp only [Act.put, List.setIfInBounds_toArray, List.set_cons_zero, List.set_cons_succ])
      | (refine mv_free _ (Or.inr ⟨by rfl, rfl⟩) (⟨z5, z6⟩) ?_
         simp only [Act.put, List.setIfInBounds_toArray, List.set_cons_zero, List.set_cons_succ])
  iterate 1
    first
      | (refine mv_take ?_ (Or.inl ⟨by rfl, ?_⟩) (⟨z5, z6⟩) ?_
         rotate_left 1
         · intro u hu
           (try dsimp only at hu)
           go_simp
           try with_reducible rfl
         simp only [Act.put, List.setIfInBounds_toArray, List.set_cons_zero, List.set_cons_succ])
      | (refine mv_take _ (Or.inr ⟨by rfl, rfl⟩) (⟨z5, z6⟩) ?_
         simp only [Act.put, List.setIfInBounds_toArray, List.set_cons_zero, List.set_cons_succ])
  refine mv_step (fun K hK => ?_)
  go_simp
  refine (W7'.out _ (Held.drew H2.out.m)).mono ?_
  rintro e w3 ⟨rfl, hm3, o3⟩
  have o3' : Beside b w2 w3 := ⟨o3.os, o3.tape, o3.output, o3.size, o3.block⟩
  have H3 := Lib.hid (H2.out.beside (s1 := s1) (q1 := q1) (s2 := r2) (q2 := o2) (q3 := cr) o3' hm3)
  have B3 := Lib.hid (B2.out.trans o3')
  clear o3 o3' hm3 z0 z1 z2 z3 z4 z5 z6 ff0 ff1 ff2 ff3 ff4 ff5 ff6 H2 B2
  have hm3 := H3.out.m
  obtain ⟨z0, ff0⟩ := hm3.one 0 rfl
  obtain ⟨z1, ff1⟩ := hm3.one 1 rfl
  obtain ⟨z2, ff2⟩ := hm3.one 2 rfl
  obtain ⟨z3, ff3⟩ := hm3.one 3 rfl
  obtain ⟨z4, ff4⟩ := hm3.one 4 rfl
  obtain ⟨z5, ff5⟩ := hm3.one 5 rfl
  obtain ⟨z6, ff6⟩ := hm3.one 6 rfl
  clear hm3
  go_wp2_with fail
  refine hK.out _ _ _ (fun u hu => hu) (⟨z5, z6⟩) ?_
  clear hK K
  refine mv_done ?_
  go_upto_region 7 with (fail)
  refine region_moves (fun u => u.cell? ⟨b, 5, none⟩ = some (.int .i64 mg) ∧ u.cell? ⟨b, 6, none⟩ = some (.int .i64 tk)) [] [(.free, 0), (.free, 1), (.free, 2), (.free, 3), (.free, 4), (.free, 5), (.free, 6), (.free, 7), (.free, 8), (.free, 9), (.free, 10), (.free, 11), (.take, 12), (.free, 13), (.free, 14), (.free, 15), (.free, 16), (.free, 17), (.free, 18), (.take, 19), (.step, 20)] _ (by kernel_rfl) (by kernel_rfl) (by kernel_rfl) (by kernel_rfl) (by decide) rfl (fun _ _ _ _ _ h => h) ?_
  simp only [List.filterMap_cons, List.filterMap_nil, List.getElem?_toArray, List.getElem?_cons_zero, List.getElem?_cons_succ, Option.map_some]
  iterate 12
    first
      | (refine mv_free ?_ (Or.inl ⟨by rfl, ?_⟩) (⟨z5, z6⟩) ?_
         rotate_left 1
         · intro u
           go_simp
           try simp only [d1]
           try simp only [d2]
           try simp only [d3]
           try simp only [d4]
           try with_reducible rfl
         simp only [Act.put, List.setIfInBounds_toArray, List.set_cons_zero, List.set_cons_succ])
      | (refine mv_free _ (Or.inr ⟨by rfl, rfl⟩) (⟨z5, z6⟩) ?_
         simp only [Act.put, List.setIfInBounds_toArray, List.set_cons_zero, List.set_cons_succ])
  iterate 1
    first
      | (refine mv_take ?_ (Or.inl ⟨by rfl, ?_⟩) (⟨z5, z6⟩) ?_
         rotate_left 1
         · intro u hu
           (try dsimp only at hu)
           go_simp
           try with_reducible rfl
         simp only [Act.put, List.setIfInBounds_toArray, List.set_cons_zero, List.set_cons_succ])
      | (refine mv_take _ (Or.inr ⟨by rfl, rfl⟩) (⟨z5, z6⟩) ?_
         simp only [Act.put, List.setIfInBounds_toArray, List.set_cons_zero, List.set_cons_succ])
  iterate 6
    first
      | (refine mv_free ?_ (Or.inl ⟨by rfl, ?_⟩) (⟨z5, z6⟩) ?_
         rotate_left 1
         · intro u
           go_simp
           try simp only [d1]
           try simp only [d2]
           try simp only [d3]
           try simp only [d4]
           try with_reducible rfl
         simp only [Act.put, List.setIfInBounds_toArray, List.set_cons_zero, List.set_cons_succ])
      | (refine mv_free _ (Or.inr ⟨by rfl, rfl⟩) (⟨z5, z6⟩) ?_
         simp only [Act.put, List.setIfInBounds_toArray, List.set_cons_zero, List.set_cons_succ])
  iterate 1
    first
      | (refine mv_take ?_ (Or.inl ⟨by rfl, ?_⟩) (⟨z5, z6⟩) ?_
         rotate_left 1
         · intro u hu
           (try dsimp only at hu)
           go_simp
           try with_reducible rfl
         simp only [Act.put, List.setIfInBounds_toArray, List.set_cons_zero, List.set_cons_succ])
      | (refine mv_take _ (Or.inr ⟨by rfl, rfl⟩) (⟨z5, z6⟩) ?_
         simp only [Act.put, List.setIfInBounds_toArray, List.set_cons_zero, List.set_cons_succ])
  refine mv_step (fun K hK => ?_)
  go_simp
  refine (W9'.out _ (Held.drew H3.out.m)).mono ?_
  rintro e w4 ⟨rfl, hm4, o4⟩
  have o4' : Beside b w3 w4 := ⟨o4.os, o4.tape, o4.output, o4.size, o4.block⟩
  have H4 := Lib.hid (H3.out.beside (s1 := s1) (q1 := q1) (s2 := s2) (q2 := q2) (q3 := cr) o4' hm4)
  have B4 := Lib.hid (B3.out.trans o4')
  clear o4 o4' hm4 z0 z1 z2 z3 z4 z5 z6 ff0 ff1 ff2 ff3 ff4 ff5 ff6 H3 B3
  have hm4 := H4.out.m
  obtain ⟨z0, ff0⟩ := hm4.one 0 rfl
  obtain ⟨z1, ff1⟩ := hm4.one 1 rfl
  obtain ⟨z2, ff2⟩ := hm4.one 2 rfl
  obtain ⟨z3, ff3⟩ := hm4.one 3 rfl
  obtain ⟨z4, ff4⟩ := hm4.one 4 rfl
  obtain ⟨z5, ff5⟩ := hm4.one 5 rfl
  obtain ⟨z6, ff6⟩ := hm4.one 6 rfl
  obtain ⟨z7, ff7⟩ := hm4.one 7 rfl
  obtain ⟨z8, ff8⟩ := hm4.one 8 rfl
  obtain ⟨z9, ff9⟩ := hm4.one 9 rfl
  obtain ⟨z10, ff10⟩ := hm4.one 10 rfl
  obtain ⟨z11, ff11⟩ := hm4.one 11 rfl
  go_wp2_with fail
  refine hK.out _ _ _ (fun u hu => hu) (⟨z5, z6⟩) ?_
  clear hK K
  refine mv_done ?_
  have k5 := Beside.setCell (p := ⟨b, 11, none⟩) (Beside.of_below (Below.refl w4.heap.size w4)) (.bool x5)
  have H5 := Lib.hid (H4.out.beside (s1 := s1) (q1 := q1) (s2 := s2) (q2 := q2) (q3 := x5) k5 (hm4.set 11 (.bool x5) (by simp [woC])))
  have B5 := Lib.hid (B4.out.trans k5)
  clear hm4 k5
  go_wp2_with fail
  refine (MK.out s1 q1 s2 q2 x5 _ (by first | exact H5.out | exact H5.out.bel ((Below.refl _ _).drew))).mono ?_
  rintro e w6 ⟨rfl, rfl⟩
  go_wp2
  go_ret
  exact ⟨rfl, H5.out, B5.out⟩
theorem k43 : CrK [0, 1] 0 1 := ⟨by decide, fun t ht => by obtain rfl : t = 0 := by omega
                                                           decide, fun t a b => by
  have b' : t < 2 := b
  obtain rfl : t = 1 := by omega
  decide⟩
theorem one43 : vlL [0, 1] [0, 0] 0 = 0 ∧ 0 ≤ vlM [0, 1] [10000, 10000] 9000 0 6484800 ∧ vlM [0, 1] [10000, 10000] 9000 0 6484800 ≤ 10000 := by
  have c := vmC_bd 9000 6484800
  have e1 : crF [0, 1] [0, 0] 0 = 0 := by rw [crF_at (by decide +kernel) k43]; decide +kernel
  have e2 : crF [0, 1] [10000, 10000] 0 = 10000 := by rw [crF_at (by decide +kernel) k43]; decide +kernel
  unfold vlL vlM
  rw [e1, e2]
  omega
set_option maxRecDepth 100000 in
set_option maxHeartbeats 8000000 in
theorem lives43 (w : World) : Calls Try.prog 47 #[] w fun e w' => e = .returned (.bool true) ∧ Below w.heap.size w w' := by
  have NW := Lib.hid (fun a c d f u h1 h2 h3 h4 => vnew_ok a c d f 2 2 2 2 [0, 1] [10000, 10000] [0, 1] [0, 0] 9000 0 1 u h1 h2 h3 h4 (by decide) (by decide) (by decide) (by decide) (by decide +kernel))
  have ST := fun b g1 c1 g2 c2 g3 c3 g4 c4 u h => vstep_any b g1 c1 g2 c2 g3 c3 g4 c4 [0, 1] [10000, 10000] [0, 1] [0, 0] 9000 0 1 0 false 0 false false 10001 0 6484800 0 u h (by decide) (by decide) (by decide) (by decide) (by decide) (by decide) (by decide +kernel) (by decide) (by decide) (by decide) (by decide)
  obtain ⟨e1, m1, m2⟩ := one43
  rw [e1, show clp 10001 = 10001 by decide] at ST
  generalize vlM [0, 1] [10000, 10000] 9000 0 6484800 = M at *
  rw [show nO1 M 10001 0 1 0 false = true by unfold nO1 wrO wrR; rw [decide_eq_true (show M < 10001 by omega)]; simp, show nO2 0 10001 0 1 0 false = false by decide, show decide (M < 0) = false by simp; omega, show mkV true false false = 1 by decide] at ST
  replace ST := Lib.hid ST
  clear e1 m1 m2
  go_enter Try.func47, Try.ntmps47
  go_wp2_with fail
  refine (NW.out _ _ _ _ _ (row2_at (by simp; try omega) (by go_simp) (by go_simp)) (row2_at (by simp; try omega) (by go_simp) (by go_simp)) (row2_at (by simp; try omega) (by go_simp) (by go_simp)) (row2_at (by simp; try omega) (by go_simp) (by go_simp))).mono ?_
  rintro e w1 ⟨b, g1, c1, g2, c2, g3, c3, g4, c4, rfl, hM, hb, hb1⟩
  have hb1' := Lib.hid (show Below w.heap.size w w1 from (Below.trans (by repeat (first | exact Below.refl _ _ | assumption | apply Below.drew | apply below_drewN | (refine Below.alloc ?_ (by first | exact Nat.le_refl _ | omega | (simp <;> omega)) _) | (refine Below.setCell ?_ (by first | exact Nat.le_refl _ | omega | (simp <;> omega)) _))) (hb1.mono (by simp; try omega))))
  replace hb := Lib.hid (show w.heap.size ≤ b from by simp at hb; omega)
  replace hM := Lib.hid hM
  clear hb1
  go_wp2_with fail
  refine (ST.out _ _ _ _ _ _ _ _ _ _ hM.out).mono ?_
  rintro e w2 ⟨rfl, -, hb2⟩
  have hb4 := Lib.hid (hb1'.out.trans (hb2.below hb.out hb1'.out.size))
  clear hb2
  go_wp2
  go_ret
  exact ⟨rfl, hb4.out⟩
end Go.Proofs.Ytnfbfggkbpobiaa
