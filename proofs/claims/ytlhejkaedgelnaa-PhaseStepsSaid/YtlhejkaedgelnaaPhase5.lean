/- The document's follower's step; walked. -/
import Derived.Test.YtlhejkaedgelnaaPhase4
namespace Go.Proofs.Ytlhejkaedgelnaa
open Go.ChangeShapes Go.WideShapes Go.ChangeAt Go.RowKit
set_option linter.unusedVariables false
set_option linter.unusedSimpArgs false
theorem Only.drewN {b : Nat} {a w : World} (h : Only b a w) (n : Nat) : Only b a (w.drewN n) := ⟨h.os, h.tape, h.output, h.size, h.block⟩
set_option maxRecDepth 100000 in
set_option maxHeartbeats 8000000 in
theorem rpstep (b : Nat) {pt m : Int} {S : PhS} {N : Int} (c h r : Int) (w : World) (k : Held b (phW pt S N) w) (ok : PhOk pt m S) (hm : m ≤ 1000000) (hr : S.a ≠ S.p → N = S.n) (hN0 : 0 ≤ N) (hN1 : N ≤ m) : Calls Try.prog 58 #[.pointer (some ⟨b, 0, none⟩), .int .i64 c, .int .i64 h, .int .i64 r] w fun e w' => e = .returned (.int .i64 (phStep pt S c h r).p) ∧ Held b (phW pt (phStep pt S c h r) (phRz pt S N (phA S.p c h r))) w' ∧ Only b w w' := by
  have hA := phA_bd ok.p0 ok.p5 c h r
  have AK := fun u => rasked S.p c h r u
  show Calls _ _ _ _ fun e w' => e = .returned (.int .i64 (phP pt S (phA S.p c h r))) ∧ Held b (phW pt (phZ pt S (phA S.p c h r) h) (phRz pt S N (phA S.p c h r))) w' ∧ Only b w w'
  generalize phA S.p c h r = kA at *
  obtain ⟨j, rfl⟩ : ∃ j : Nat, kA = (j : Int) := ⟨kA.toNat, by omega⟩
  have hz := fun hk => phR_n (S := S) (N := N) (k := (j : Int)) hr hk
  have rb := phRn_bd (S := S) (N := N) (k := (j : Int)) hN0 hN1
  have l0 := ok.l0
  have l1 := ok.l1
  have p0 := ok.p0
  have p5 := ok.p5
  have t0 := ok.t0
  have t1 := ok.t1
  clear ok hr
  obtain ⟨p, a, n, T, hv, hk, lg⟩ := S
  try dsimp only at *
  obtain ⟨i, rfl⟩ : ∃ i : Nat, p = (i : Int) := ⟨p.toNat, by omega⟩
  have hi5 : i ≤ 5 := by omega
  have hj5 : j ≤ 5 := by omega
  have AKK := Lib.hid AK
  have hzz := Lib.hid hz
  clear AK hz
  have R0 : (if (j : Int) = a then N else 0) + 1 = phRn ⟨i, a, n, T, hv, hk, lg⟩ N j := rfl
  -- up to the test
  have PS := fun u => rsoon (i : Int) (j : Int) u
  rcases (show (j : Int) = a ∨ (j : Int) ≠ a by omega) with ha | ha
  · rw [if_pos ha] at R0
    have x1 : ((j : Int) != a) = false := by simp [ha]
    generalize hRN : phRn ⟨(i : Int), a, n, T, hv, hk, lg⟩ N (j : Int) = RN at *
    have ew : IntKind.i64.wrap (N + 1) = RN := by rw [R0]; exact IntWalk.i64_in _ ⟨by omega, by omega⟩
    have hb2 := (((HB.start k).set 2 (.int .i64 (j : Int)) (by simp [phW])).set 3 (.int .i64 RN) (by simp [phW])).is (show _ = phW pt ⟨(i : Int), (j : Int), n, T, hv, hk, lg⟩ RN from rfl)
    have ho : Only b w ((w.setCell ⟨b, 2, none⟩ (.int .i64 (j : Int))).setCell ⟨b, 3, none⟩ (.int .i64 RN)) := (((Only.refl b w).setCell (p := ⟨b, 2, none⟩) (.int .i64 (j : Int))).setCell (p := ⟨b, 3, none⟩) (.int .i64 RN))
    obtain ⟨c0, f0⟩ := k.one 0 rfl
    obtain ⟨c1, f1⟩ := k.one 1 rfl
    obtain ⟨c2, f2⟩ := k.one 2 rfl
    obtain ⟨c3, f3⟩ := k.one 3 rfl
    obtain ⟨c4, f4⟩ := k.one 4 rfl
    obtain ⟨c5, f5⟩ := k.one 5 rfl
    obtain ⟨c6, f6⟩ := k.one 6 rfl
    obtain ⟨c7, f7⟩ := k.one 7 rfl
    obtain ⟨c8, f8⟩ := k.one 8 rfl
    obtain ⟨c9, f9⟩ := k.one 9 rfl
    obtain ⟨c10, f10⟩ := k.one 10 rfl
    obtain ⟨c11, f11⟩ := k.one 11 rfl
    obtain ⟨c12, f12⟩ := k.one 12 rfl
    have kq := Lib.hid k
    replace R0 := Lib.hid R0
    replace ha := Lib.hid ha
    replace hRN := Lib.hid hRN
    clear k
    go_enter Try.func58, Try.ntmps58
    go_wp2_with fail
    refine (AKK.out _).mono ?_
    rintro e w1 ⟨rfl, rfl⟩
    go_upto_region 6 with (fail)
    generalize eW : ((w.setCell ⟨b, 2, none⟩ (.int .i64 (j : Int))).setCell ⟨b, 3, none⟩ (.int .i64 RN)) = W at *
    clear eW kq c0 f0 c1 f1 c2 f2 c3 f3 c4 f4 c5 f5 c6 f6 c7 f7 c8 f8 c9 f9 c10 f10 c11 f11 c12 f12
    have K1 := Lib.hid hb2.held
    have O1 := Lib.hid ho
    clear hb2 ho ew
    have q1 := K1.out.c 1 _ rfl
    have q3 := K1.out.c 3 _ rfl
    have q0 := K1.out.c 0 _ rfl
    try dsimp only at q1 q3 q0
    rcases (show (j : Int) = i ∨ ((j : Int) ≠ i ∧ phQ i j = true) ∨ ((j : Int) ≠ i ∧ phQ i j = false ∧ pt ≤ RN) ∨ ((j : Int) ≠ i ∧ phQ i j = false ∧ RN < pt) by cases phQ (i : Int) (j : Int) <;> simp <;> omega) with g | ⟨g, g2⟩ | ⟨g, g2, g3⟩ | ⟨g, g2, g3⟩
    · have hG := Lib.hid (show phG pt ⟨(i : Int), a, n, T, hv, hk, lg⟩ (j : Int) = false by simp [phG, g])
      have y0 : ((j : Int) != i) = false := by simp [g]
      replace PS := Lib.hid PS
      replace g := Lib.hid g
      go_quiet (fail)
      go_upto_region 11 with (fail)
      obtain ⟨ww, eww⟩ : ∃ ww, ww = W.drewN nq := ⟨_, rfl⟩
      have kk := K1.out.as (w' := ww) (by rw [eww]; rfl)
      have OO := Lib.hid (show Only b w ww by rw [eww]; exact O1.out.drewN nq)
      rw [← eww]
      replace eww := Lib.hid eww
      clear K1 O1 q0 q1 q3
      have q1 := kk.c 1 _ rfl
      obtain ⟨qc, qf⟩ := phW_at kk hi5
      try dsimp only at qc q1
      have e5 : (i : Int) < 6 := by omega
      have ew : IntKind.i64.wrap (T i + 1) = T i + 1 := IntWalk.i64_in _ ⟨by have := t0 i; omega, by have := t1 i; omega⟩
      have KK := Lib.hid kk
      clear kk
      go_wp2_with fail
      refine region_moves (fun u => u.cell? ⟨b, 1, none⟩ = some (.int .i64 (i : Int)) ∧ u.cell? ⟨b, 5 + i, none⟩ = some (.int .i64 (T i))) [(13, [(12, 13), (9, 13), (0, 13), (1, 13), (2, 13), (3, 13), (4, 13), (5, 13), (6, 13), (7, 13), (8, 13), (11, 12), (10, 11)])] [(.free, 0), (.free, 1), (.free, 2), (.free, 3), (.take, 4), (.free, 5), (.free, 6), (.free, 7), (.take, 8), (.free, 9), (.free, 10), (.free, 11), (.free, 12), (.late, 13)] _ (by kernel_rfl) (by kernel_rfl) (by kernel_rfl) (by kernel_rfl) (by decide) rfl (fun _ _ _ _ _ h => h) ?_
      simp only [List.filterMap_cons, List.filterMap_nil, List.getElem?_toArray, List.getElem?_cons_zero, List.getElem?_cons_succ, Option.map_some]
      iterate 4
        first
          | (refine mv_free ?_ (Or.inl ⟨by rfl, ?_⟩) (⟨q1, qc⟩) ?_
             rotate_left 1
             · intro u
               go_simp
               try with_reducible rfl
             simp only [Act.put, List.setIfInBounds_toArray, List.set_cons_zero, List.set_cons_succ])
          | (refine mv_free _ (Or.inr ⟨by rfl, rfl⟩) (⟨q1, qc⟩) ?_
             simp only [Act.put, List.setIfInBounds_toArray, List.set_cons_zero, List.set_cons_succ])
      iterate 1
        first
          | (refine mv_take ?_ (Or.inl ⟨by rfl, ?_⟩) (⟨q1, qc⟩) ?_
             rotate_left 1
             · intro u hu
               (try dsimp only at hu)
               go_simp
               try with_reducible rfl
             simp only [Act.put, List.setIfInBounds_toArray, List.set_cons_zero, List.set_cons_succ])
          | (refine mv_take _ (Or.inr ⟨by rfl, rfl⟩) (⟨q1, qc⟩) ?_
             simp only [Act.put, List.setIfInBounds_toArray, List.set_cons_zero, List.set_cons_succ])
      iterate 3
        first
          | (refine mv_free ?_ (Or.inl ⟨by rfl, ?_⟩) (⟨q1, qc⟩) ?_
             rotate_left 1
             · intro u
               go_simp
               try with_reducible rfl
             simp only [Act.put, List.setIfInBounds_toArray, List.set_cons_zero, List.set_cons_succ])
          | (refine mv_free _ (Or.inr ⟨by rfl, rfl⟩) (⟨q1, qc⟩) ?_
             simp only [Act.put, List.setIfInBounds_toArray, List.set_cons_zero, List.set_cons_succ])
      iterate 1
        first
          | (refine mv_take ?_ (Or.inl ⟨by rfl, ?_⟩) (⟨q1, qc⟩) ?_
             rotate_left 1
             · intro u hu
               (try dsimp only at hu)
               go_simp
               try with_reducible rfl
             simp only [Act.put, List.setIfInBounds_toArray, List.set_cons_zero, List.set_cons_succ])
          | (refine mv_take _ (Or.inr ⟨by rfl, rfl⟩) (⟨q1, qc⟩) ?_
             simp only [Act.put, List.setIfInBounds_toArray, List.set_cons_zero, List.set_cons_succ])
      iterate 4
        first
          | (refine mv_free ?_ (Or.inl ⟨by rfl, ?_⟩) (⟨q1, qc⟩) ?_
             rotate_left 1
             · intro u
               go_simp
               try with_reducible rfl
             simp only [Act.put, List.setIfInBounds_toArray, List.set_cons_zero, List.set_cons_succ])
          | (refine mv_free _ (Or.inr ⟨by rfl, rfl⟩) (⟨q1, qc⟩) ?_
             simp only [Act.put, List.setIfInBounds_toArray, List.set_cons_zero, List.set_cons_succ])
      refine mv_late (fun K hK => ?_)
      go_simp
      refine hK.out (fun _ => True) _ _ ?_
      clear hK K
      refine mv_done ?_
      obtain ⟨w5, ew5⟩ : ∃ w5, w5 = (ww.setCell ⟨b, 5 + i, none⟩ (.int .i64 (T i + 1))).drew := ⟨_, rfl⟩
      obtain ⟨k2, -⟩ := (((HB.start KK.out).set (5 + i) (.int .i64 (T i + 1)) (by simp [phW]; omega)).is (phW_up pt ⟨(i : Int), (j : Int), n, T, hv, hk, lg⟩ RN hi5 (T i + 1))).fin (v' := w5) (by rw [ew5]; rfl) (by rw [ew5]; rfl) (by rw [ew5]; rfl) (by rw [ew5]; rfl)
      have O5 := Lib.hid (show Only b w w5 by rw [ew5]; exact (OO.out.setCell (p := ⟨b, 5 + i, none⟩) _).drew)
      rw [← ew5]
      replace ew5 := Lib.hid ew5
      clear q1 qc qf KK ew OO
      have K5 := Lib.hid k2
      obtain ⟨c0, f0⟩ := k2.one 0 rfl
      obtain ⟨c1, f1⟩ := k2.one 1 rfl
      obtain ⟨c2, f2⟩ := k2.one 2 rfl
      obtain ⟨c3, f3⟩ := k2.one 3 rfl
      obtain ⟨c4, f4⟩ := k2.one 4 rfl
      obtain ⟨c5, f5⟩ := k2.one 5 rfl
      obtain ⟨c6, f6⟩ := k2.one 6 rfl
      obtain ⟨c7, f7⟩ := k2.one 7 rfl
      obtain ⟨c8, f8⟩ := k2.one 8 rfl
      obtain ⟨c9, f9⟩ := k2.one 9 rfl
      obtain ⟨c10, f10⟩ := k2.one 10 rfl
      obtain ⟨c11, f11⟩ := k2.one 11 rfl
      obtain ⟨c12, f12⟩ := k2.one 12 rfl
      clear k2
      rcases (show (i : Int) = 0 ∨ ((i : Int) ≠ 0) by omega) with z | z
      · have z1 : ((i : Int) != 0) = false := by simp [z]
        have hz0 := Lib.hid z
        clear z
        go_wp2
        go_ret
        have eZ := phZ_is (pt := pt) (S := ⟨(i : Int), a, n, T, hv, hk, lg⟩) (k := (j : Int)) (h := h) (q := i) (n2 := (phN ⟨(i : Int), a, n, T, hv, hk, lg⟩ (j : Int))) (lg2 := lg) (hv2 := hv) (hk2 := hk) (by simp [phP, hG.out]) (by simp [hG.out]) (by rw [if_pos hz0.out]) (by simp [hz0.out]) (by simp [hG.out])
        have eP : phP pt ⟨(i : Int), a, n, T, hv, hk, lg⟩ (j : Int) = (i : Int) := by simp [phP, hG.out]
        have eR : phRz pt ⟨(i : Int), a, n, T, hv, hk, lg⟩ N (j : Int) = RN := by unfold phRz; rw [hG.out]; exact hRN.out
        refine ⟨(show Ending.returned (.int .i64 (i : Int)) = .returned (.int .i64 (phP pt ⟨(i : Int), a, n, T, hv, hk, lg⟩ (j : Int))) from by rw [eP]), ?_, O5.out⟩
        rw [eZ, eR]
        exact K5.out
      · have z1 : ((i : Int) != 0) = true := bne_iff_ne.2 z
        have hz0 := Lib.hid z
        clear z
        rcases (show hk = false ∨ (hk = true ∧ hv < h) ∨ (hk = true ∧ h ≤ hv) by cases hk <;> simp <;> omega) with e1 | ⟨e1, e2⟩ | ⟨e1, e2⟩
        · subst e1
          obtain ⟨w8, ew8⟩ : ∃ w8, w8 = (w5.setCell ⟨b, 12, none⟩ (.bool true)).setCell ⟨b, 11, none⟩ (.int .i64 h) := ⟨_, rfl⟩
          obtain ⟨k8, -⟩ := ((((HB.start K5.out).set 12 (.bool true) (by simp [phW])).set 11 (.int .i64 h) (by simp [phW])).is (show _ = phW pt ⟨(i : Int), (j : Int), n, upd T i (T i + 1), h, true, lg⟩ RN from rfl)).fin (v' := w8) (by rw [ew8]) (by rw [ew8]) (by rw [ew8]) (by rw [ew8])
          have O8 := Lib.hid (show Only b w w8 by rw [ew8]; exact (O5.out.setCell (p := ⟨b, 12, none⟩) _).setCell (p := ⟨b, 11, none⟩) _)
          replace ew8 := Lib.hid ew8
          have K8 := Lib.hid k8
          have r8 := k8.c 1 _ rfl
          try dsimp only at r8
          clear k8
          go_upto_region 15 with (fail)
          rw [← ew8.out]
          go_wp2
          go_ret
          have eZ := phZ_is (pt := pt) (S := ⟨(i : Int), a, n, T, hv, false, lg⟩) (k := (j : Int)) (h := h) (q := i) (n2 := (phN ⟨(i : Int), a, n, T, hv, false, lg⟩ (j : Int))) (lg2 := lg) (hv2 := h) (hk2 := true) (by simp [phP, hG.out]) (by simp [hG.out]) (by rw [if_neg hz0.out]; simp) (by have z := hz0.out; simp; try omega) (by simp [hG.out])
          have eP : phP pt ⟨(i : Int), a, n, T, hv, false, lg⟩ (j : Int) = (i : Int) := by simp [phP, hG.out]
          have eR : phRz pt ⟨(i : Int), a, n, T, hv, false, lg⟩ N (j : Int) = RN := by unfold phRz; rw [hG.out]; exact hRN.out
          refine ⟨(show Ending.returned (.int .i64 (i : Int)) = .returned (.int .i64 (phP pt ⟨(i : Int), a, n, T, hv, false, lg⟩ (j : Int))) from by rw [eP]), ?_, O8.out⟩
          rw [eZ, eR]
          exact K8.out
        · subst e1
          obtain ⟨w8, ew8⟩ : ∃ w8, w8 = (w5.setCell ⟨b, 12, none⟩ (.bool true)).setCell ⟨b, 11, none⟩ (.int .i64 h) := ⟨_, rfl⟩
          obtain ⟨k8, -⟩ := ((((HB.start K5.out).set 12 (.bool true) (by simp [phW])).set 11 (.int .i64 h) (by simp [phW])).is (show _ = phW pt ⟨(i : Int), (j : Int), n, upd T i (T i + 1), h, true, lg⟩ RN from rfl)).fin (v' := w8) (by rw [ew8]) (by rw [ew8]) (by rw [ew8]) (by rw [ew8])
          have O8 := Lib.hid (show Only b w w8 by rw [ew8]; exact (O5.out.setCell (p := ⟨b, 12, none⟩) _).setCell (p := ⟨b, 11, none⟩) _)
          replace ew8 := Lib.hid ew8
          have K8 := Lib.hid k8
          have r8 := k8.c 1 _ rfl
          try dsimp only at r8
          clear k8
          go_upto_region 15 with (fail)
          rw [← ew8.out]
          go_wp2
          go_ret
          have eZ := phZ_is (pt := pt) (S := ⟨(i : Int), a, n, T, hv, true, lg⟩) (k := (j : Int)) (h := h) (q := i) (n2 := (phN ⟨(i : Int), a, n, T, hv, true, lg⟩ (j : Int))) (lg2 := lg) (hv2 := h) (hk2 := true) (by simp [phP, hG.out]) (by simp [hG.out]) (by rw [if_neg hz0.out, if_neg (fun q => by have := q.2; dsimp only at this; omega)]) (by have z := hz0.out; simp; try omega) (by simp [hG.out])
          have eP : phP pt ⟨(i : Int), a, n, T, hv, true, lg⟩ (j : Int) = (i : Int) := by simp [phP, hG.out]
          have eR : phRz pt ⟨(i : Int), a, n, T, hv, true, lg⟩ N (j : Int) = RN := by unfold phRz; rw [hG.out]; exact hRN.out
          refine ⟨(show Ending.returned (.int .i64 (i : Int)) = .returned (.int .i64 (phP pt ⟨(i : Int), a, n, T, hv, true, lg⟩ (j : Int))) from by rw [eP]), ?_, O8.out⟩
          rw [eZ, eR]
          exact K8.out
        · subst e1
          go_wp2
          go_ret
          have eZ := phZ_is (pt := pt) (S := ⟨(i : Int), a, n, T, hv, true, lg⟩) (k := (j : Int)) (h := h) (q := i) (n2 := (phN ⟨(i : Int), a, n, T, hv, true, lg⟩ (j : Int))) (lg2 := lg) (hv2 := hv) (hk2 := true) (by simp [phP, hG.out]) (by simp [hG.out]) (by rw [if_neg hz0.out, if_pos ⟨rfl, e2⟩]) (by simp) (by simp [hG.out])
          have eP : phP pt ⟨(i : Int), a, n, T, hv, true, lg⟩ (j : Int) = (i : Int) := by simp [phP, hG.out]
          have eR : phRz pt ⟨(i : Int), a, n, T, hv, true, lg⟩ N (j : Int) = RN := by unfold phRz; rw [hG.out]; exact hRN.out
          refine ⟨(show Ending.returned (.int .i64 (i : Int)) = .returned (.int .i64 (phP pt ⟨(i : Int), a, n, T, hv, true, lg⟩ (j : Int))) from by rw [eP]), ?_, O5.out⟩
          rw [eZ, eR]
          exact K5.out
    · have hG := Lib.hid (show phG pt ⟨(i : Int), a, n, T, hv, hk, lg⟩ (j : Int) = true by
        have e := hzz.out g
        simp only [phG, ← e]
        exact decide_eq_true ⟨g, .inl g2⟩)
      have y0 : ((j : Int) != i) = true := bne_iff_ne.2 g
      rw [g2] at PS
      replace PS := Lib.hid PS
      replace g := Lib.hid g
      replace g2 := Lib.hid g2
      go_quiet ((go_at_call 48; (with_reducible exact quiet_as _ rfl (PS.out _))))
      rcases (show (i : Int) = 5 ∧ (j : Int) = 0 ∨ (i : Int) = 5 ∧ (j : Int) ≠ 0 ∨ (i : Int) ≠ 5 by omega) with ⟨y1, y2⟩ | ⟨y1, y2⟩ | y1
      · have x5 : ((i : Int) == 5) = true := by simp [y1]
        have x2 : ((j : Int) == 0) = true := by simp [y2]
        have ewl : IntKind.i64.wrap (lg + 1) = lg + 1 := IntWalk.i64_in _ ⟨by omega, by omega⟩
        replace y1 := Lib.hid y1
        replace y2 := Lib.hid y2
        have kW := K1.out
        obtain ⟨c0, f0⟩ := kW.one 0 rfl
        obtain ⟨c1, f1⟩ := kW.one 1 rfl
        obtain ⟨c2, f2⟩ := kW.one 2 rfl
        obtain ⟨c3, f3⟩ := kW.one 3 rfl
        obtain ⟨c4, f4⟩ := kW.one 4 rfl
        obtain ⟨c5, f5⟩ := kW.one 5 rfl
        obtain ⟨c6, f6⟩ := kW.one 6 rfl
        obtain ⟨c7, f7⟩ := kW.one 7 rfl
        obtain ⟨c8, f8⟩ := kW.one 8 rfl
        obtain ⟨c9, f9⟩ := kW.one 9 rfl
        obtain ⟨c10, f10⟩ := kW.one 10 rfl
        obtain ⟨c11, f11⟩ := kW.one 11 rfl
        obtain ⟨c12, f12⟩ := kW.one 12 rfl
        clear kW q0 q1 q3
        go_upto_region 11 with (fail)
        obtain ⟨ww, eww⟩ : ∃ ww, ww = ((((W.drewN nq).setCell ⟨b, 4, none⟩ (.int .i64 (lg + 1))).setCell ⟨b, 1, none⟩ (.int .i64 (j : Int))).setCell ⟨b, 3, none⟩ (.int .i64 0)) := ⟨_, rfl⟩
        obtain ⟨kk, -⟩ := (((((HB.start (K1.out.drewN nq)).set 4 (.int .i64 (lg + 1)) (by simp [phW])).set 1 (.int .i64 (j : Int)) (by simp [phW])).set 3 (.int .i64 0) (by simp [phW])).is (show _ = phW pt ⟨(j : Int), (j : Int), n, T, hv, hk, (lg + 1)⟩ 0 from rfl)).fin (v' := ww) (by rw [eww]) (by rw [eww]) (by rw [eww]) (by rw [eww])
        have OO := Lib.hid (show Only b w ww by rw [eww]; exact ((((O1.out.drewN nq).setCell (p := ⟨b, 4, none⟩) _).setCell (p := ⟨b, 1, none⟩) _).setCell (p := ⟨b, 3, none⟩) _))
        rw [← eww]
        replace eww := Lib.hid eww
        clear K1 O1 c0 f0 c1 f1 c2 f2 c3 f3 c4 f4 c5 f5 c6 f6 c7 f7 c8 f8 c9 f9 c10 f10 c11 f11 c12 f12
        have q1 := kk.c 1 _ rfl
        obtain ⟨qc, qf⟩ := phW_at kk hj5
        try dsimp only at qc q1
        have e5 : (j : Int) < 6 := by omega
        have ew : IntKind.i64.wrap (T j + 1) = T j + 1 := IntWalk.i64_in _ ⟨by have := t0 j; omega, by have := t1 j; omega⟩
        have KK := Lib.hid kk
        clear kk
        go_wp2_with fail
        refine region_moves (fun u => u.cell? ⟨b, 1, none⟩ = some (.int .i64 (j : Int)) ∧ u.cell? ⟨b, 5 + j, none⟩ = some (.int .i64 (T j))) [(13, [(12, 13), (9, 13), (0, 13), (1, 13), (2, 13), (3, 13), (4, 13), (5, 13), (6, 13), (7, 13), (8, 13), (11, 12), (10, 11)])] [(.free, 0), (.free, 1), (.free, 2), (.free, 3), (.take, 4), (.free, 5), (.free, 6), (.free, 7), (.take, 8), (.free, 9), (.free, 10), (.free, 11), (.free, 12), (.late, 13)] _ (by kernel_rfl) (by kernel_rfl) (by kernel_rfl) (by kernel_rfl) (by decide) rfl (fun _ _ _ _ _ h => h) ?_
        simp only [List.filterMap_cons, List.filterMap_nil, List.getElem?_toArray, List.getElem?_cons_zero, List.getElem?_cons_succ, Option.map_some]
        iterate 4
          first
            | (refine mv_free ?_ (Or.inl ⟨by rfl, ?_⟩) (⟨q1, qc⟩) ?_
               rotate_left 1
               · intro u
                 go_simp
                 try with_reducible rfl
               simp only [Act.put, List.setIfInBounds_toArray, List.set_cons_zero, List.set_cons_succ])
            | (refine mv_free _ (Or.inr ⟨by rfl, rfl⟩) (⟨q1, qc⟩) ?_
               simp only [Act.put, List.setIfInBounds_toArray, List.set_cons_zero, List.set_cons_succ])
        iterate 1
          first
            | (refine mv_take ?_ (Or.inl ⟨by rfl, ?_⟩) (⟨q1, qc⟩) ?_
               rotate_left 1
               · intro u hu
                 (try dsimp only at hu)
                 go_simp
                 try with_reducible rfl
               simp only [Act.put, List.setIfInBounds_toArray, List.set_cons_zero, List.set_cons_succ])
            | (refine mv_take _ (Or.inr ⟨by rfl, rfl⟩) (⟨q1, qc⟩) ?_
               simp only [Act.put, List.setIfInBounds_toArray, List.set_cons_zero, List.set_cons_succ])
        iterate 3
          first
            | (refine mv_free ?_ (Or.inl ⟨by rfl, ?_⟩) (⟨q1, qc⟩) ?_
               rotate_left 1
               · intro u
                 go_simp
                 try with_reducible rfl
               simp only [Act.put, List.setIfInBounds_toArray, List.set_cons_zero, List.set_cons_succ])
            | (refine mv_free _ (Or.inr ⟨by rfl, rfl⟩) (⟨q1, qc⟩) ?_
               simp only [Act.put, List.setIfInBounds_toArray, List.set_cons_zero, List.set_cons_succ])
        iterate 1
          first
            | (refine mv_take ?_ (Or.inl ⟨by rfl, ?_⟩) (⟨q1, qc⟩) ?_
               rotate_left 1
               · intro u hu
                 (try dsimp only at hu)
                 go_simp
                 try with_reducible rfl
               simp only [Act.put, List.setIfInBounds_toArray, List.set_cons_zero, List.set_cons_succ])
            | (refine mv_take _ (Or.inr ⟨by rfl, rfl⟩) (⟨q1, qc⟩) ?_
               simp only [Act.put, List.setIfInBounds_toArray, List.set_cons_zero, List.set_cons_succ])
        iterate 4
          first
            | (refine mv_free ?_ (Or.inl ⟨by rfl, ?_⟩) (⟨q1, qc⟩) ?_
               rotate_left 1
               · intro u
                 go_simp
                 try with_reducible rfl
               simp only [Act.put, List.setIfInBounds_toArray, List.set_cons_zero, List.set_cons_succ])
            | (refine mv_free _ (Or.inr ⟨by rfl, rfl⟩) (⟨q1, qc⟩) ?_
               simp only [Act.put, List.setIfInBounds_toArray, List.set_cons_zero, List.set_cons_succ])
        refine mv_late (fun K hK => ?_)
        go_simp
        refine hK.out (fun _ => True) _ _ ?_
        clear hK K
        refine mv_done ?_
        obtain ⟨w5, ew5⟩ : ∃ w5, w5 = (ww.setCell ⟨b, 5 + j, none⟩ (.int .i64 (T j + 1))).drew := ⟨_, rfl⟩
        obtain ⟨k2, -⟩ := (((HB.start KK.out).set (5 + j) (.int .i64 (T j + 1)) (by simp [phW]; omega)).is (phW_up pt ⟨(j : Int), (j : Int), n, T, hv, hk, (lg + 1)⟩ 0 hj5 (T j + 1))).fin (v' := w5) (by rw [ew5]; rfl) (by rw [ew5]; rfl) (by rw [ew5]; rfl) (by rw [ew5]; rfl)
        have O5 := Lib.hid (show Only b w w5 by rw [ew5]; exact (OO.out.setCell (p := ⟨b, 5 + j, none⟩) _).drew)
        rw [← ew5]
        replace ew5 := Lib.hid ew5
        clear q1 qc qf KK ew OO
        have K5 := Lib.hid k2
        obtain ⟨c0, f0⟩ := k2.one 0 rfl
        obtain ⟨c1, f1⟩ := k2.one 1 rfl
        obtain ⟨c2, f2⟩ := k2.one 2 rfl
        obtain ⟨c3, f3⟩ := k2.one 3 rfl
        obtain ⟨c4, f4⟩ := k2.one 4 rfl
        obtain ⟨c5, f5⟩ := k2.one 5 rfl
        obtain ⟨c6, f6⟩ := k2.one 6 rfl
        obtain ⟨c7, f7⟩ := k2.one 7 rfl
        obtain ⟨c8, f8⟩ := k2.one 8 rfl
        obtain ⟨c9, f9⟩ := k2.one 9 rfl
        obtain ⟨c10, f10⟩ := k2.one 10 rfl
        obtain ⟨c11, f11⟩ := k2.one 11 rfl
        obtain ⟨c12, f12⟩ := k2.one 12 rfl
        clear k2
        rcases (show (j : Int) = 0 ∨ ((j : Int) ≠ 0) by omega) with z | z
        · have z1 : ((j : Int) != 0) = false := by simp [z]
          have hz0 := Lib.hid z
          clear z
          go_wp2
          go_ret
          have eZ := phZ_is (pt := pt) (S := ⟨(i : Int), a, n, T, hv, hk, lg⟩) (k := (j : Int)) (h := h) (q := j) (n2 := 0) (lg2 := (lg + 1)) (hv2 := hv) (hk2 := hk) (by simp [phP, hG.out]) (by simp [hG.out]) (by rw [if_pos hz0.out]) (by simp [hz0.out]) (by rw [if_pos ⟨hG.out, y1.out, y2.out⟩])
          have eP : phP pt ⟨(i : Int), a, n, T, hv, hk, lg⟩ (j : Int) = (j : Int) := by simp [phP, hG.out]
          have eR : phRz pt ⟨(i : Int), a, n, T, hv, hk, lg⟩ N (j : Int) = 0 := by simp [phRz, hG.out]
          refine ⟨(show Ending.returned (.int .i64 (j : Int)) = .returned (.int .i64 (phP pt ⟨(i : Int), a, n, T, hv, hk, lg⟩ (j : Int))) from by rw [eP]), ?_, O5.out⟩
          rw [eZ, eR]
          exact K5.out
        · exact absurd y2.out z
      · have x5 : ((i : Int) == 5) = true := by simp [y1]
        have x2 : ((j : Int) == 0) = false := beq_eq_false_iff_ne.2 y2
        replace y1 := Lib.hid y1
        replace y2 := Lib.hid y2
        have kW := K1.out
        obtain ⟨c0, f0⟩ := kW.one 0 rfl
        obtain ⟨c1, f1⟩ := kW.one 1 rfl
        obtain ⟨c2, f2⟩ := kW.one 2 rfl
        obtain ⟨c3, f3⟩ := kW.one 3 rfl
        obtain ⟨c4, f4⟩ := kW.one 4 rfl
        obtain ⟨c5, f5⟩ := kW.one 5 rfl
        obtain ⟨c6, f6⟩ := kW.one 6 rfl
        obtain ⟨c7, f7⟩ := kW.one 7 rfl
        obtain ⟨c8, f8⟩ := kW.one 8 rfl
        obtain ⟨c9, f9⟩ := kW.one 9 rfl
        obtain ⟨c10, f10⟩ := kW.one 10 rfl
        obtain ⟨c11, f11⟩ := kW.one 11 rfl
        obtain ⟨c12, f12⟩ := kW.one 12 rfl
        clear kW q0 q1 q3
        go_upto_region 11 with (fail)
        obtain ⟨ww, eww⟩ : ∃ ww, ww = (((W.drewN nq).setCell ⟨b, 1, none⟩ (.int .i64 (j : Int))).setCell ⟨b, 3, none⟩ (.int .i64 0)) := ⟨_, rfl⟩
        obtain ⟨kk, -⟩ := ((((HB.start (K1.out.drewN nq)).set 1 (.int .i64 (j : Int)) (by simp [phW])).set 3 (.int .i64 0) (by simp [phW])).is (show _ = phW pt ⟨(j : Int), (j : Int), n, T, hv, hk, lg⟩ 0 from rfl)).fin (v' := ww) (by rw [eww]) (by rw [eww]) (by rw [eww]) (by rw [eww])
        have OO := Lib.hid (show Only b w ww by rw [eww]; exact (((O1.out.drewN nq).setCell (p := ⟨b, 1, none⟩) _).setCell (p := ⟨b, 3, none⟩) _))
        rw [← eww]
        replace eww := Lib.hid eww
        clear K1 O1 c0 f0 c1 f1 c2 f2 c3 f3 c4 f4 c5 f5 c6 f6 c7 f7 c8 f8 c9 f9 c10 f10 c11 f11 c12 f12
        have q1 := kk.c 1 _ rfl
        obtain ⟨qc, qf⟩ := phW_at kk hj5
        try dsimp only at qc q1
        have e5 : (j : Int) < 6 := by omega
        have ew : IntKind.i64.wrap (T j + 1) = T j + 1 := IntWalk.i64_in _ ⟨by have := t0 j; omega, by have := t1 j; omega⟩
        have KK := Lib.hid kk
        clear kk
        go_wp2_with fail
        refine region_moves (fun u => u.cell? ⟨b, 1, none⟩ = some (.int .i64 (j : Int)) ∧ u.cell? ⟨b, 5 + j, none⟩ = some (.int .i64 (T j))) [(13, [(12, 13), (9, 13), (0, 13), (1, 13), (2, 13), (3, 13), (4, 13), (5, 13), (6, 13), (7, 13), (8, 13), (11, 12), (10, 11)])] [(.free, 0), (.free, 1), (.free, 2), (.free, 3), (.take, 4), (.free, 5), (.free, 6), (.free, 7), (.take, 8), (.free, 9), (.free, 10), (.free, 11), (.free, 12), (.late, 13)] _ (by kernel_rfl) (by kernel_rfl) (by kernel_rfl) (by kernel_rfl) (by decide) rfl (fun _ _ _ _ _ h => h) ?_
        simp only [List.filterMap_cons, List.filterMap_nil, List.getElem?_toArray, List.getElem?_cons_zero, List.getElem?_cons_succ, Option.map_some]
        iterate 4
          first
            | (refine mv_free ?_ (Or.inl ⟨by rfl, ?_⟩) (⟨q1, qc⟩) ?_
               rotate_left 1
               · intro u
                 go_simp
                 try with_reducible rfl
               simp only [Act.put, List.setIfInBounds_toArray, List.set_cons_zero, List.set_cons_succ])
            | (refine mv_free _ (Or.inr ⟨by rfl, rfl⟩) (⟨q1, qc⟩) ?_
               simp only [Act.put, List.setIfInBounds_toArray, List.set_cons_zero, List.set_cons_succ])
        iterate 1
          first
            | (refine mv_take ?_ (Or.inl ⟨by rfl, ?_⟩) (⟨q1, qc⟩) ?_
               rotate_left 1
               · intro u hu
                 (try dsimp only at hu)
                 go_simp
                 try with_reducible rfl
               simp only [Act.put, List.setIfInBounds_toArray, List.set_cons_zero, List.set_cons_succ])
            | (refine mv_take _ (Or.inr ⟨by rfl, rfl⟩) (⟨q1, qc⟩) ?_
               simp only [Act.put, List.setIfInBounds_toArray, List.set_cons_zero, List.set_cons_succ])
        iterate 3
          first
            | (refine mv_free ?_ (Or.inl ⟨by rfl, ?_⟩) (⟨q1, qc⟩) ?_
               rotate_left 1
               · intro u
                 go_simp
                 try with_reducible rfl
               simp only [Act.put, List.setIfInBounds_toArray, List.set_cons_zero, List.set_cons_succ])
            | (refine mv_free _ (Or.inr ⟨by rfl, rfl⟩) (⟨q1, qc⟩) ?_
               simp only [Act.put, List.setIfInBounds_toArray, List.set_cons_zero, List.set_cons_succ])
        iterate 1
          first
            | (refine mv_take ?_ (Or.inl ⟨by rfl, ?_⟩) (⟨q1, qc⟩) ?_
               rotate_left 1
               · intro u hu
                 (try dsimp only at hu)
                 go_simp
                 try with_reducible rfl
               simp only [Act.put, List.setIfInBounds_toArray, List.set_cons_zero, List.set_cons_succ])
            | (refine mv_take _ (Or.inr ⟨by rfl, rfl⟩) (⟨q1, qc⟩) ?_
               simp only [Act.put, List.setIfInBounds_toArray, List.set_cons_zero, List.set_cons_succ])
        iterate 4
          first
            | (refine mv_free ?_ (Or.inl ⟨by rfl, ?_⟩) (⟨q1, qc⟩) ?_
               rotate_left 1
               · intro u
                 go_simp
                 try with_reducible rfl
               simp only [Act.put, List.setIfInBounds_toArray, List.set_cons_zero, List.set_cons_succ])
            | (refine mv_free _ (Or.inr ⟨by rfl, rfl⟩) (⟨q1, qc⟩) ?_
               simp only [Act.put, List.setIfInBounds_toArray, List.set_cons_zero, List.set_cons_succ])
        refine mv_late (fun K hK => ?_)
        go_simp
        refine hK.out (fun _ => True) _ _ ?_
        clear hK K
        refine mv_done ?_
        obtain ⟨w5, ew5⟩ : ∃ w5, w5 = (ww.setCell ⟨b, 5 + j, none⟩ (.int .i64 (T j + 1))).drew := ⟨_, rfl⟩
        obtain ⟨k2, -⟩ := (((HB.start KK.out).set (5 + j) (.int .i64 (T j + 1)) (by simp [phW]; omega)).is (phW_up pt ⟨(j : Int), (j : Int), n, T, hv, hk, lg⟩ 0 hj5 (T j + 1))).fin (v' := w5) (by rw [ew5]; rfl) (by rw [ew5]; rfl) (by rw [ew5]; rfl) (by rw [ew5]; rfl)
        have O5 := Lib.hid (show Only b w w5 by rw [ew5]; exact (OO.out.setCell (p := ⟨b, 5 + j, none⟩) _).drew)
        rw [← ew5]
        replace ew5 := Lib.hid ew5
        clear q1 qc qf KK ew OO
        have K5 := Lib.hid k2
        obtain ⟨c0, f0⟩ := k2.one 0 rfl
        obtain ⟨c1, f1⟩ := k2.one 1 rfl
        obtain ⟨c2, f2⟩ := k2.one 2 rfl
        obtain ⟨c3, f3⟩ := k2.one 3 rfl
        obtain ⟨c4, f4⟩ := k2.one 4 rfl
        obtain ⟨c5, f5⟩ := k2.one 5 rfl
        obtain ⟨c6, f6⟩ := k2.one 6 rfl
        obtain ⟨c7, f7⟩ := k2.one 7 rfl
        obtain ⟨c8, f8⟩ := k2.one 8 rfl
        obtain ⟨c9, f9⟩ := k2.one 9 rfl
        obtain ⟨c10, f10⟩ := k2.one 10 rfl
        obtain ⟨c11, f11⟩ := k2.one 11 rfl
        obtain ⟨c12, f12⟩ := k2.one 12 rfl
        clear k2
        rcases (show (j : Int) = 0 ∨ ((j : Int) ≠ 0) by omega) with z | z
        · have z1 : ((j : Int) != 0) = false := by simp [z]
          have hz0 := Lib.hid z
          clear z
          go_wp2
          go_ret
          have eZ := phZ_is (pt := pt) (S := ⟨(i : Int), a, n, T, hv, hk, lg⟩) (k := (j : Int)) (h := h) (q := j) (n2 := 0) (lg2 := lg) (hv2 := hv) (hk2 := hk) (by simp [phP, hG.out]) (by simp [hG.out]) (by rw [if_pos hz0.out]) (by simp [hz0.out]) (by rw [if_neg (fun q => y2.out q.2.2)])
          have eP : phP pt ⟨(i : Int), a, n, T, hv, hk, lg⟩ (j : Int) = (j : Int) := by simp [phP, hG.out]
          have eR : phRz pt ⟨(i : Int), a, n, T, hv, hk, lg⟩ N (j : Int) = 0 := by simp [phRz, hG.out]
          refine ⟨(show Ending.returned (.int .i64 (j : Int)) = .returned (.int .i64 (phP pt ⟨(i : Int), a, n, T, hv, hk, lg⟩ (j : Int))) from by rw [eP]), ?_, O5.out⟩
          rw [eZ, eR]
          exact K5.out
        · have z1 : ((j : Int) != 0) = true := bne_iff_ne.2 z
          have hz0 := Lib.hid z
          clear z
          rcases (show hk = false ∨ (hk = true ∧ hv < h) ∨ (hk = true ∧ h ≤ hv) by cases hk <;> simp <;> omega) with e1 | ⟨e1, e2⟩ | ⟨e1, e2⟩
          · subst e1
            obtain ⟨w8, ew8⟩ : ∃ w8, w8 = (w5.setCell ⟨b, 12, none⟩ (.bool true)).setCell ⟨b, 11, none⟩ (.int .i64 h) := ⟨_, rfl⟩
            obtain ⟨k8, -⟩ := ((((HB.start K5.out).set 12 (.bool true) (by simp [phW])).set 11 (.int .i64 h) (by simp [phW])).is (show _ = phW pt ⟨(j : Int), (j : Int), n, upd T j (T j + 1), h, true, lg⟩ 0 from rfl)).fin (v' := w8) (by rw [ew8]) (by rw [ew8]) (by rw [ew8]) (by rw [ew8])
            have O8 := Lib.hid (show Only b w w8 by rw [ew8]; exact (O5.out.setCell (p := ⟨b, 12, none⟩) _).setCell (p := ⟨b, 11, none⟩) _)
            replace ew8 := Lib.hid ew8
            have K8 := Lib.hid k8
            have r8 := k8.c 1 _ rfl
            try dsimp only at r8
            clear k8
            go_upto_region 15 with (fail)
            rw [← ew8.out]
            go_wp2
            go_ret
            have eZ := phZ_is (pt := pt) (S := ⟨(i : Int), a, n, T, hv, false, lg⟩) (k := (j : Int)) (h := h) (q := j) (n2 := 0) (lg2 := lg) (hv2 := h) (hk2 := true) (by simp [phP, hG.out]) (by simp [hG.out]) (by rw [if_neg hz0.out]; simp) (by have z := hz0.out; simp; try omega) (by rw [if_neg (fun q => y2.out q.2.2)])
            have eP : phP pt ⟨(i : Int), a, n, T, hv, false, lg⟩ (j : Int) = (j : Int) := by simp [phP, hG.out]
            have eR : phRz pt ⟨(i : Int), a, n, T, hv, false, lg⟩ N (j : Int) = 0 := by simp [phRz, hG.out]
            refine ⟨(show Ending.returned (.int .i64 (j : Int)) = .returned (.int .i64 (phP pt ⟨(i : Int), a, n, T, hv, false, lg⟩ (j : Int))) from by rw [eP]), ?_, O8.out⟩
            rw [eZ, eR]
            exact K8.out
          · subst e1
            obtain ⟨w8, ew8⟩ : ∃ w8, w8 = (w5.setCell ⟨b, 12, none⟩ (.bool true)).setCell ⟨b, 11, none⟩ (.int .i64 h) := ⟨_, rfl⟩
            obtain ⟨k8, -⟩ := ((((HB.start K5.out).set 12 (.bool true) (by simp [phW])).set 11 (.int .i64 h) (by simp [phW])).is (show _ = phW pt ⟨(j : Int), (j : Int), n, upd T j (T j + 1), h, true, lg⟩ 0 from rfl)).fin (v' := w8) (by rw [ew8]) (by rw [ew8]) (by rw [ew8]) (by rw [ew8])
            have O8 := Lib.hid (show Only b w w8 by rw [ew8]; exact (O5.out.setCell (p := ⟨b, 12, none⟩) _).setCell (p := ⟨b, 11, none⟩) _)
            replace ew8 := Lib.hid ew8
            have K8 := Lib.hid k8
            have r8 := k8.c 1 _ rfl
            try dsimp only at r8
            clear k8
            go_upto_region 15 with (fail)
            rw [← ew8.out]
            go_wp2
            go_ret
            have eZ := phZ_is (pt := pt) (S := ⟨(i : Int), a, n, T, hv, true, lg⟩) (k := (j : Int)) (h := h) (q := j) (n2 := 0) (lg2 := lg) (hv2 := h) (hk2 := true) (by simp [phP, hG.out]) (by simp [hG.out]) (by rw [if_neg hz0.out, if_neg (fun q => by have := q.2; dsimp only at this; omega)]) (by have z := hz0.out; simp; try omega) (by rw [if_neg (fun q => y2.out q.2.2)])
            have eP : phP pt ⟨(i : Int), a, n, T, hv, true, lg⟩ (j : Int) = (j : Int) := by simp [phP, hG.out]
            have eR : phRz pt ⟨(i : Int), a, n, T, hv, true, lg⟩ N (j : Int) = 0 := by simp [phRz, hG.out]
            refine ⟨(show Ending.returned (.int .i64 (j : Int)) = .returned (.int .i64 (phP pt ⟨(i : Int), a, n, T, hv, true, lg⟩ (j : Int))) from by rw [eP]), ?_, O8.out⟩
            rw [eZ, eR]
            exact K8.out
          · subst e1
            go_wp2
            go_ret
            have eZ := phZ_is (pt := pt) (S := ⟨(i : Int), a, n, T, hv, true, lg⟩) (k := (j : Int)) (h := h) (q := j) (n2 := 0) (lg2 := lg) (hv2 := hv) (hk2 := true) (by simp [phP, hG.out]) (by simp [hG.out]) (by rw [if_neg hz0.out, if_pos ⟨rfl, e2⟩]) (by simp) (by rw [if_neg (fun q => y2.out q.2.2)])
            have eP : phP pt ⟨(i : Int), a, n, T, hv, true, lg⟩ (j : Int) = (j : Int) := by simp [phP, hG.out]
            have eR : phRz pt ⟨(i : Int), a, n, T, hv, true, lg⟩ N (j : Int) = 0 := by simp [phRz, hG.out]
            refine ⟨(show Ending.returned (.int .i64 (j : Int)) = .returned (.int .i64 (phP pt ⟨(i : Int), a, n, T, hv, true, lg⟩ (j : Int))) from by rw [eP]), ?_, O5.out⟩
            rw [eZ, eR]
            exact K5.out
      · have x5 : ((i : Int) == 5) = false := beq_eq_false_iff_ne.2 y1
        replace y1 := Lib.hid y1
        have kW := K1.out
        obtain ⟨c0, f0⟩ := kW.one 0 rfl
        obtain ⟨c1, f1⟩ := kW.one 1 rfl
        obtain ⟨c2, f2⟩ := kW.one 2 rfl
        obtain ⟨c3, f3⟩ := kW.one 3 rfl
        obtain ⟨c4, f4⟩ := kW.one 4 rfl
        obtain ⟨c5, f5⟩ := kW.one 5 rfl
        obtain ⟨c6, f6⟩ := kW.one 6 rfl
        obtain ⟨c7, f7⟩ := kW.one 7 rfl
        obtain ⟨c8, f8⟩ := kW.one 8 rfl
        obtain ⟨c9, f9⟩ := kW.one 9 rfl
        obtain ⟨c10, f10⟩ := kW.one 10 rfl
        obtain ⟨c11, f11⟩ := kW.one 11 rfl
        obtain ⟨c12, f12⟩ := kW.one 12 rfl
        clear kW q0 q1 q3
        go_upto_region 11 with (fail)
        obtain ⟨ww, eww⟩ : ∃ ww, ww = (((W.drewN nq).setCell ⟨b, 1, none⟩ (.int .i64 (j : Int))).setCell ⟨b, 3, none⟩ (.int .i64 0)) := ⟨_, rfl⟩
        obtain ⟨kk, -⟩ := ((((HB.start (K1.out.drewN nq)).set 1 (.int .i64 (j : Int)) (by simp [phW])).set 3 (.int .i64 0) (by simp [phW])).is (show _ = phW pt ⟨(j : Int), (j : Int), n, T, hv, hk, lg⟩ 0 from rfl)).fin (v' := ww) (by rw [eww]) (by rw [eww]) (by rw [eww]) (by rw [eww])
        have OO := Lib.hid (show Only b w ww by rw [eww]; exact (((O1.out.drewN nq).setCell (p := ⟨b, 1, none⟩) _).setCell (p := ⟨b, 3, none⟩) _))
        rw [← eww]
        replace eww := Lib.hid eww
        clear K1 O1 c0 f0 c1 f1 c2 f2 c3 f3 c4 f4 c5 f5 c6 f6 c7 f7 c8 f8 c9 f9 c10 f10 c11 f11 c12 f12
        have q1 := kk.c 1 _ rfl
        obtain ⟨qc, qf⟩ := phW_at kk hj5
        try dsimp only at qc q1
        have e5 : (j : Int) < 6 := by omega
        have ew : IntKind.i64.wrap (T j + 1) = T j + 1 := IntWalk.i64_in _ ⟨by have := t0 j; omega, by have := t1 j; omega⟩
        have KK := Lib.hid kk
        clear kk
        go_wp2_with fail
        refine region_moves (fun u => u.cell? ⟨b, 1, none⟩ = some (.int .i64 (j : Int)) ∧ u.cell? ⟨b, 5 + j, none⟩ = some (.int .i64 (T j))) [(13, [(12, 13), (9, 13), (0, 13), (1, 13), (2, 13), (3, 13), (4, 13), (5, 13), (6, 13), (7, 13), (8, 13), (11, 12), (10, 11)])] [(.free, 0), (.free, 1), (.free, 2), (.free, 3), (.take, 4), (.free, 5), (.free, 6), (.free, 7), (.take, 8), (.free, 9), (.free, 10), (.free, 11), (.free, 12), (.late, 13)] _ (by kernel_rfl) (by kernel_rfl) (by kernel_rfl) (by kernel_rfl) (by decide) rfl (fun _ _ _ _ _ h => h) ?_
        simp only [List.filterMap_cons, List.filterMap_nil, List.getElem?_toArray, List.getElem?_cons_zero, List.getElem?_cons_succ, Option.map_some]
        iterate 4
          first
            | (refine mv_free ?_ (Or.inl ⟨by rfl, ?_⟩) (⟨q1, qc⟩) ?_
               rotate_left 1
               · intro u
                 go_simp
                 try with_reducible rfl
               simp only [Act.put, List.setIfInBounds_toArray, List.set_cons_zero, List.set_cons_succ])
            | (refine mv_free _ (Or.inr ⟨by rfl, rfl⟩) (⟨q1, qc⟩) ?_
               simp only [Act.put, List.setIfInBounds_toArray, List.set_cons_zero, List.set_cons_succ])
        iterate 1
          first
            | (refine mv_take ?_ (Or.inl ⟨by rfl, ?_⟩) (⟨q1, qc⟩) ?_
               rotate_left 1
               · intro u hu
                 (try dsimp only at hu)
                 go_simp
                 try with_reducible rfl
               simp only [Act.put, List.setIfInBounds_toArray, List.set_cons_zero, List.set_cons_succ])
            | (refine mv_take _ (Or.inr ⟨by rfl, rfl⟩) (⟨q1, qc⟩) ?_
               simp only [Act.put, List.setIfInBounds_toArray, List.set_cons_zero, List.set_cons_succ])
        iterate 3
          first
            | (refine mv_free ?_ (Or.inl ⟨by rfl, ?_⟩) (⟨q1, qc⟩) ?_
               rotate_left 1
               · intro u
                 go_simp
                 try with_reducible rfl
               simp only [Act.put, List.setIfInBounds_toArray, List.set_cons_zero, List.set_cons_succ])
            | (refine mv_free _ (Or.inr ⟨by rfl, rfl⟩) (⟨q1, qc⟩) ?_
               simp only [Act.put, List.setIfInBounds_toArray, List.set_cons_zero, List.set_cons_succ])
        iterate 1
          first
            | (refine mv_take ?_ (Or.inl ⟨by rfl, ?_⟩) (⟨q1, qc⟩) ?_
               rotate_left 1
               · intro u hu
                 (try dsimp only at hu)
                 go_simp
                 try with_reducible rfl
               simp only [Act.put, List.setIfInBounds_toArray, List.set_cons_zero, List.set_cons_succ])
            | (refine mv_take _ (Or.inr ⟨by rfl, rfl⟩) (⟨q1, qc⟩) ?_
               simp only [Act.put, List.setIfInBounds_toArray, List.set_cons_zero, List.set_cons_succ])
        iterate 4
          first
            | (refine mv_free ?_ (Or.inl ⟨by rfl, ?_⟩) (⟨q1, qc⟩) ?_
               rotate_left 1
               · intro u
                 go_simp
                 try with_reducible rfl
               simp only [Act.put, List.setIfInBounds_toArray, List.set_cons_zero, List.set_cons_succ])
            | (refine mv_free _ (Or.inr ⟨by rfl, rfl⟩) (⟨q1, qc⟩) ?_
               simp only [Act.put, List.setIfInBounds_toArray, List.set_cons_zero, List.set_cons_succ])
        refine mv_late (fun K hK => ?_)
        go_simp
        refine hK.out (fun _ => True) _ _ ?_
        clear hK K
        refine mv_done ?_
        obtain ⟨w5, ew5⟩ : ∃ w5, w5 = (ww.setCell ⟨b, 5 + j, none⟩ (.int .i64 (T j + 1))).drew := ⟨_, rfl⟩
        obtain ⟨k2, -⟩ := (((HB.start KK.out).set (5 + j) (.int .i64 (T j + 1)) (by simp [phW]; omega)).is (phW_up pt ⟨(j : Int), (j : Int), n, T, hv, hk, lg⟩ 0 hj5 (T j + 1))).fin (v' := w5) (by rw [ew5]; rfl) (by rw [ew5]; rfl) (by rw [ew5]; rfl) (by rw [ew5]; rfl)
        have O5 := Lib.hid (show Only b w w5 by rw [ew5]; exact (OO.out.setCell (p := ⟨b, 5 + j, none⟩) _).drew)
        rw [← ew5]
        replace ew5 := Lib.hid ew5
        clear q1 qc qf KK ew OO
        have K5 := Lib.hid k2
        obtain ⟨c0, f0⟩ := k2.one 0 rfl
        obtain ⟨c1, f1⟩ := k2.one 1 rfl
        obtain ⟨c2, f2⟩ := k2.one 2 rfl
        obtain ⟨c3, f3⟩ := k2.one 3 rfl
        obtain ⟨c4, f4⟩ := k2.one 4 rfl
        obtain ⟨c5, f5⟩ := k2.one 5 rfl
        obtain ⟨c6, f6⟩ := k2.one 6 rfl
        obtain ⟨c7, f7⟩ := k2.one 7 rfl
        obtain ⟨c8, f8⟩ := k2.one 8 rfl
        obtain ⟨c9, f9⟩ := k2.one 9 rfl
        obtain ⟨c10, f10⟩ := k2.one 10 rfl
        obtain ⟨c11, f11⟩ := k2.one 11 rfl
        obtain ⟨c12, f12⟩ := k2.one 12 rfl
        clear k2
        rcases (show (j : Int) = 0 ∨ ((j : Int) ≠ 0) by omega) with z | z
        · have z1 : ((j : Int) != 0) = false := by simp [z]
          have hz0 := Lib.hid z
          clear z
          go_wp2
          go_ret
          have eZ := phZ_is (pt := pt) (S := ⟨(i : Int), a, n, T, hv, hk, lg⟩) (k := (j : Int)) (h := h) (q := j) (n2 := 0) (lg2 := lg) (hv2 := hv) (hk2 := hk) (by simp [phP, hG.out]) (by simp [hG.out]) (by rw [if_pos hz0.out]) (by simp [hz0.out]) (by rw [if_neg (fun q => y1.out q.2.1)])
          have eP : phP pt ⟨(i : Int), a, n, T, hv, hk, lg⟩ (j : Int) = (j : Int) := by simp [phP, hG.out]
          have eR : phRz pt ⟨(i : Int), a, n, T, hv, hk, lg⟩ N (j : Int) = 0 := by simp [phRz, hG.out]
          refine ⟨(show Ending.returned (.int .i64 (j : Int)) = .returned (.int .i64 (phP pt ⟨(i : Int), a, n, T, hv, hk, lg⟩ (j : Int))) from by rw [eP]), ?_, O5.out⟩
          rw [eZ, eR]
          exact K5.out
        · have z1 : ((j : Int) != 0) = true := bne_iff_ne.2 z
          have hz0 := Lib.hid z
          clear z
          rcases (show hk = false ∨ (hk = true ∧ hv < h) ∨ (hk = true ∧ h ≤ hv) by cases hk <;> simp <;> omega) with e1 | ⟨e1, e2⟩ | ⟨e1, e2⟩
          · subst e1
            obtain ⟨w8, ew8⟩ : ∃ w8, w8 = (w5.setCell ⟨b, 12, none⟩ (.bool true)).setCell ⟨b, 11, none⟩ (.int .i64 h) := ⟨_, rfl⟩
            obtain ⟨k8, -⟩ := ((((HB.start K5.out).set 12 (.bool true) (by simp [phW])).set 11 (.int .i64 h) (by simp [phW])).is (show _ = phW pt ⟨(j : Int), (j : Int), n, upd T j (T j + 1), h, true, lg⟩ 0 from rfl)).fin (v' := w8) (by rw [ew8]) (by rw [ew8]) (by rw [ew8]) (by rw [ew8])
            have O8 := Lib.hid (show Only b w w8 by rw [ew8]; exact (O5.out.setCell (p := ⟨b, 12, none⟩) _).setCell (p := ⟨b, 11, none⟩) _)
            replace ew8 := Lib.hid ew8
            have K8 := Lib.hid k8
            have r8 := k8.c 1 _ rfl
            try dsimp only at r8
            clear k8
            go_upto_region 15 with (fail)
            rw [← ew8.out]
            go_wp2
            go_ret
            have eZ := phZ_is (pt := pt) (S := ⟨(i : Int), a, n, T, hv, false, lg⟩) (k := (j : Int)) (h := h) (q := j) (n2 := 0) (lg2 := lg) (hv2 := h) (hk2 := true) (by simp [phP, hG.out]) (by simp [hG.out]) (by rw [if_neg hz0.out]; simp) (by have z := hz0.out; simp; try omega) (by rw [if_neg (fun q => y1.out q.2.1)])
            have eP : phP pt ⟨(i : Int), a, n, T, hv, false, lg⟩ (j : Int) = (j : Int) := by simp [phP, hG.out]
            have eR : phRz pt ⟨(i : Int), a, n, T, hv, false, lg⟩ N (j : Int) = 0 := by simp [phRz, hG.out]
            refine ⟨(show Ending.returned (.int .i64 (j : Int)) = .returned (.int .i64 (phP pt ⟨(i : Int), a, n, T, hv, false, lg⟩ (j : Int))) from by rw [eP]), ?_, O8.out⟩
            rw [eZ, eR]
            exact K8.out
          · subst e1
            obtain ⟨w8, ew8⟩ : ∃ w8, w8 = (w5.setCell ⟨b, 12, none⟩ (.bool true)).setCell ⟨b, 11, none⟩ (.int .i64 h) := ⟨_, rfl⟩
            obtain ⟨k8, -⟩ := ((((HB.start K5.out).set 12 (.bool true) (by simp [phW])).set 11 (.int .i64 h) (by simp [phW])).is (show _ = phW pt ⟨(j : Int), (j : Int), n, upd T j (T j + 1), h, true, lg⟩ 0 from rfl)).fin (v' := w8) (by rw [ew8]) (by rw [ew8]) (by rw [ew8]) (by rw [ew8])
            have O8 := Lib.hid (show Only b w w8 by rw [ew8]; exact (O5.out.setCell (p := ⟨b, 12, none⟩) _).setCell (p := ⟨b, 11, none⟩) _)
            replace ew8 := Lib.hid ew8
            have K8 := Lib.hid k8
            have r8 := k8.c 1 _ rfl
            try dsimp only at r8
            clear k8
            go_upto_region 15 with (fail)
            rw [← ew8.out]
            go_wp2
            go_ret
            have eZ := phZ_is (pt := pt) (S := ⟨(i : Int), a, n, T, hv, true, lg⟩) (k := (j : Int)) (h := h) (q := j) (n2 := 0) (lg2 := lg) (hv2 := h) (hk2 := true) (by simp [phP, hG.out]) (by simp [hG.out]) (by rw [if_neg hz0.out, if_neg (fun q => by have := q.2; dsimp only at this; omega)]) (by have z := hz0.out; simp; try omega) (by rw [if_neg (fun q => y1.out q.2.1)])
            have eP : phP pt ⟨(i : Int), a, n, T, hv, true, lg⟩ (j : Int) = (j : Int) := by simp [phP, hG.out]
            have eR : phRz pt ⟨(i : Int), a, n, T, hv, true, lg⟩ N (j : Int) = 0 := by simp [phRz, hG.out]
            refine ⟨(show Ending.returned (.int .i64 (j : Int)) = .returned (.int .i64 (phP pt ⟨(i : Int), a, n, T, hv, true, lg⟩ (j : Int))) from by rw [eP]), ?_, O8.out⟩
            rw [eZ, eR]
            exact K8.out
          · subst e1
            go_wp2
            go_ret
            have eZ := phZ_is (pt := pt) (S := ⟨(i : Int), a, n, T, hv, true, lg⟩) (k := (j : Int)) (h := h) (q := j) (n2 := 0) (lg2 := lg) (hv2 := hv) (hk2 := true) (by simp [phP, hG.out]) (by simp [hG.out]) (by rw [if_neg hz0.out, if_pos ⟨rfl, e2⟩]) (by simp) (by rw [if_neg (fun q => y1.out q.2.1)])
            have eP : phP pt ⟨(i : Int), a, n, T, hv, true, lg⟩ (j : Int) = (j : Int) := by simp [phP, hG.out]
            have eR : phRz pt ⟨(i : Int), a, n, T, hv, true, lg⟩ N (j : Int) = 0 := by simp [phRz, hG.out]
            refine ⟨(show Ending.returned (.int .i64 (j : Int)) = .returned (.int .i64 (phP pt ⟨(i : Int), a, n, T, hv, true, lg⟩ (j : Int))) from by rw [eP]), ?_, O5.out⟩
            rw [eZ, eR]
            exact K5.out
    · have hG := Lib.hid (show phG pt ⟨(i : Int), a, n, T, hv, hk, lg⟩ (j : Int) = true by
        have e := hzz.out g
        simp only [phG, ← e]
        exact decide_eq_true ⟨g, .inr g3⟩)
      have y0 : ((j : Int) != i) = true := bne_iff_ne.2 g
      rw [g2] at PS
      have y3 : decide (pt ≤ RN) = true := decide_eq_true g3
      replace PS := Lib.hid PS
      replace g := Lib.hid g
      replace g2 := Lib.hid g2
      go_quiet ((go_at_call 48; (with_reducible exact quiet_as _ rfl (PS.out _))))
      rcases (show (i : Int) = 5 ∧ (j : Int) = 0 ∨ (i : Int) = 5 ∧ (j : Int) ≠ 0 ∨ (i : Int) ≠ 5 by omega) with ⟨y1, y2⟩ | ⟨y1, y2⟩ | y1
      · have x5 : ((i : Int) == 5) = true := by simp [y1]
        have x2 : ((j : Int) == 0) = true := by simp [y2]
        have ewl : IntKind.i64.wrap (lg + 1) = lg + 1 := IntWalk.i64_in _ ⟨by omega, by omega⟩
        replace y1 := Lib.hid y1
        replace y2 := Lib.hid y2
        have kW := K1.out
        obtain ⟨c0, f0⟩ := kW.one 0 rfl
        obtain ⟨c1, f1⟩ := kW.one 1 rfl
        obtain ⟨c2, f2⟩ := kW.one 2 rfl
        obtain ⟨c3, f3⟩ := kW.one 3 rfl
        obtain ⟨c4, f4⟩ := kW.one 4 rfl
        obtain ⟨c5, f5⟩ := kW.one 5 rfl
        obtain ⟨c6, f6⟩ := kW.one 6 rfl
        obtain ⟨c7, f7⟩ := kW.one 7 rfl
        obtain ⟨c8, f8⟩ := kW.one 8 rfl
        obtain ⟨c9, f9⟩ := kW.one 9 rfl
        obtain ⟨c10, f10⟩ := kW.one 10 rfl
        obtain ⟨c11, f11⟩ := kW.one 11 rfl
        obtain ⟨c12, f12⟩ := kW.one 12 rfl
        clear kW q0 q1 q3
        go_upto_region 11 with (fail)
        obtain ⟨ww, eww⟩ : ∃ ww, ww = ((((W.drewN nq).setCell ⟨b, 4, none⟩ (.int .i64 (lg + 1))).setCell ⟨b, 1, none⟩ (.int .i64 (j : Int))).setCell ⟨b, 3, none⟩ (.int .i64 0)) := ⟨_, rfl⟩
        obtain ⟨kk, -⟩ := (((((HB.start (K1.out.drewN nq)).set 4 (.int .i64 (lg + 1)) (by simp [phW])).set 1 (.int .i64 (j : Int)) (by simp [phW])).set 3 (.int .i64 0) (by simp [phW])).is (show _ = phW pt ⟨(j : Int), (j : Int), n, T, hv, hk, (lg + 1)⟩ 0 from rfl)).fin (v' := ww) (by rw [eww]) (by rw [eww]) (by rw [eww]) (by rw [eww])
        have OO := Lib.hid (show Only b w ww by rw [eww]; exact ((((O1.out.drewN nq).setCell (p := ⟨b, 4, none⟩) _).setCell (p := ⟨b, 1, none⟩) _).setCell (p := ⟨b, 3, none⟩) _))
        rw [← eww]
        replace eww := Lib.hid eww
        clear K1 O1 c0 f0 c1 f1 c2 f2 c3 f3 c4 f4 c5 f5 c6 f6 c7 f7 c8 f8 c9 f9 c10 f10 c11 f11 c12 f12
        have q1 := kk.c 1 _ rfl
        obtain ⟨qc, qf⟩ := phW_at kk hj5
        try dsimp only at qc q1
        have e5 : (j : Int) < 6 := by omega
        have ew : IntKind.i64.wrap (T j + 1) = T j + 1 := IntWalk.i64_in _ ⟨by have := t0 j; omega, by have := t1 j; omega⟩
        have KK := Lib.hid kk
        clear kk
        go_wp2_with fail
        refine region_moves (fun u => u.cell? ⟨b, 1, none⟩ = some (.int .i64 (j : Int)) ∧ u.cell? ⟨b, 5 + j, none⟩ = some (.int .i64 (T j))) [(13, [(12, 13), (9, 13), (0, 13), (1, 13), (2, 13), (3, 13), (4, 13), (5, 13), (6, 13), (7, 13), (8, 13), (11, 12), (10, 11)])] [(.free, 0), (.free, 1), (.free, 2), (.free, 3), (.take, 4), (.free, 5), (.free, 6), (.free, 7), (.take, 8), (.free, 9), (.free, 10), (.free, 11), (.free, 12), (.late, 13)] _ (by kernel_rfl) (by kernel_rfl) (by kernel_rfl) (by kernel_rfl) (by decide) rfl (fun _ _ _ _ _ h => h) ?_
        simp only [List.filterMap_cons, List.filterMap_nil, List.getElem?_toArray, List.getElem?_cons_zero, List.getElem?_cons_succ, Option.map_some]
        iterate 4
          first
            | (refine mv_free ?_ (Or.inl ⟨by rfl, ?_⟩) (⟨q1, qc⟩) ?_
               rotate_left 1
               · intro u
                 go_simp
                 try with_reducible rfl
               simp only [Act.put, List.setIfInBounds_toArray, List.set_cons_zero, List.set_cons_succ])
            | (refine mv_free _ (Or.inr ⟨by rfl, rfl⟩) (⟨q1, qc⟩) ?_
               simp only [Act.put, List.setIfInBounds_toArray, List.set_cons_zero, List.set_cons_succ])
        iterate 1
          first
            | (refine mv_take ?_ (Or.inl ⟨by rfl, ?_⟩) (⟨q1, qc⟩) ?_
               rotate_left 1
               · intro u hu
                 (try dsimp only at hu)
                 go_simp
                 try with_reducible rfl
               simp only [Act.put, List.setIfInBounds_toArray, List.set_cons_zero, List.set_cons_succ])
            | (refine mv_take _ (Or.inr ⟨by rfl, rfl⟩) (⟨q1, qc⟩) ?_
               simp only [Act.put, List.setIfInBounds_toArray, List.set_cons_zero, List.set_cons_succ])
        iterate 3
          first
            | (refine mv_free ?_ (Or.inl ⟨by rfl, ?_⟩) (⟨q1, qc⟩) ?_
               rotate_left 1
               · intro u
                 go_simp
                 try with_reducible rfl
               simp only [Act.put, List.setIfInBounds_toArray, List.set_cons_zero, List.set_cons_succ])
            | (refine mv_free _ (Or.inr ⟨by rfl, rfl⟩) (⟨q1, qc⟩) ?_
               simp only [Act.put, List.setIfInBounds_toArray, List.set_cons_zero, List.set_cons_succ])
        iterate 1
          first
            | (refine mv_take ?_ (Or.inl ⟨by rfl, ?_⟩) (⟨q1, qc⟩) ?_
               rotate_left 1
               · intro u hu
                 (try dsimp only at hu)
                 go_simp
                 try with_reducible rfl
               simp only [Act.put, List.setIfInBounds_toArray, List.set_cons_zero, List.set_cons_succ])
            | (refine mv_take _ (Or.inr ⟨by rfl, rfl⟩) (⟨q1, qc⟩) ?_
               simp only [Act.put, List.setIfInBounds_toArray, List.set_cons_zero, List.set_cons_succ])
        iterate 4
          first
            | (refine mv_free ?_ (Or.inl ⟨by rfl, ?_⟩) (⟨q1, qc⟩) ?_
               rotate_left 1
               · intro u
                 go_simp
                 try with_reducible rfl
               simp only [Act.put, List.setIfInBounds_toArray, List.set_cons_zero, List.set_cons_succ])
            | (refine mv_free _ (Or.inr ⟨by rfl, rfl⟩) (⟨q1, qc⟩) ?_
               simp only [Act.put, List.setIfInBounds_toArray, List.set_cons_zero, List.set_cons_succ])
        refine mv_late (fun K hK => ?_)
        go_simp
        refine hK.out (fun _ => True) _ _ ?_
        clear hK K
        refine mv_done ?_
        obtain ⟨w5, ew5⟩ : ∃ w5, w5 = (ww.setCell ⟨b, 5 + j, none⟩ (.int .i64 (T j + 1))).drew := ⟨_, rfl⟩
        obtain ⟨k2, -⟩ := (((HB.start KK.out).set (5 + j) (.int .i64 (T j + 1)) (by simp [phW]; omega)).is (phW_up pt ⟨(j : Int), (j : Int), n, T, hv, hk, (lg + 1)⟩ 0 hj5 (T j + 1))).fin (v' := w5) (by rw [ew5]; rfl) (by rw [ew5]; rfl) (by rw [ew5]; rfl) (by rw [ew5]; rfl)
        have O5 := Lib.hid (show Only b w w5 by rw [ew5]; exact (OO.out.setCell (p := ⟨b, 5 + j, none⟩) _).drew)
        rw [← ew5]
        replace ew5 := Lib.hid ew5
        clear q1 qc qf KK ew OO
        have K5 := Lib.hid k2
        obtain ⟨c0, f0⟩ := k2.one 0 rfl
        obtain ⟨c1, f1⟩ := k2.one 1 rfl
        obtain ⟨c2, f2⟩ := k2.one 2 rfl
        obtain ⟨c3, f3⟩ := k2.one 3 rfl
        obtain ⟨c4, f4⟩ := k2.one 4 rfl
        obtain ⟨c5, f5⟩ := k2.one 5 rfl
        obtain ⟨c6, f6⟩ := k2.one 6 rfl
        obtain ⟨c7, f7⟩ := k2.one 7 rfl
        obtain ⟨c8, f8⟩ := k2.one 8 rfl
        obtain ⟨c9, f9⟩ := k2.one 9 rfl
        obtain ⟨c10, f10⟩ := k2.one 10 rfl
        obtain ⟨c11, f11⟩ := k2.one 11 rfl
        obtain ⟨c12, f12⟩ := k2.one 12 rfl
        clear k2
        rcases (show (j : Int) = 0 ∨ ((j : Int) ≠ 0) by omega) with z | z
        · have z1 : ((j : Int) != 0) = false := by simp [z]
          have hz0 := Lib.hid z
          clear z
          go_wp2
          go_ret
          have eZ := phZ_is (pt := pt) (S := ⟨(i : Int), a, n, T, hv, hk, lg⟩) (k := (j : Int)) (h := h) (q := j) (n2 := 0) (lg2 := (lg + 1)) (hv2 := hv) (hk2 := hk) (by simp [phP, hG.out]) (by simp [hG.out]) (by rw [if_pos hz0.out]) (by simp [hz0.out]) (by rw [if_pos ⟨hG.out, y1.out, y2.out⟩])
          have eP : phP pt ⟨(i : Int), a, n, T, hv, hk, lg⟩ (j : Int) = (j : Int) := by simp [phP, hG.out]
          have eR : phRz pt ⟨(i : Int), a, n, T, hv, hk, lg⟩ N (j : Int) = 0 := by simp [phRz, hG.out]
          refine ⟨(show Ending.returned (.int .i64 (j : Int)) = .returned (.int .i64 (phP pt ⟨(i : Int), a, n, T, hv, hk, lg⟩ (j : Int))) from by rw [eP]), ?_, O5.out⟩
          rw [eZ, eR]
          exact K5.out
        · exact absurd y2.out z
      · have x5 : ((i : Int) == 5) = true := by simp [y1]
        have x2 : ((j : Int) == 0) = false := beq_eq_false_iff_ne.2 y2
        replace y1 := Lib.hid y1
        replace y2 := Lib.hid y2
        have kW := K1.out
        obtain ⟨c0, f0⟩ := kW.one 0 rfl
        obtain ⟨c1, f1⟩ := kW.one 1 rfl
        obtain ⟨c2, f2⟩ := kW.one 2 rfl
        obtain ⟨c3, f3⟩ := kW.one 3 rfl
        obtain ⟨c4, f4⟩ := kW.one 4 rfl
        obtain ⟨c5, f5⟩ := kW.one 5 rfl
        obtain ⟨c6, f6⟩ := kW.one 6 rfl
        obtain ⟨c7, f7⟩ := kW.one 7 rfl
        obtain ⟨c8, f8⟩ := kW.one 8 rfl
        obtain ⟨c9, f9⟩ := kW.one 9 rfl
        obtain ⟨c10, f10⟩ := kW.one 10 rfl
        obtain ⟨c11, f11⟩ := kW.one 11 rfl
        obtain ⟨c12, f12⟩ := kW.one 12 rfl
        clear kW q0 q1 q3
        go_upto_region 11 with (fail)
        obtain ⟨ww, eww⟩ : ∃ ww, ww = (((W.drewN nq).setCell ⟨b, 1, none⟩ (.int .i64 (j : Int))).setCell ⟨b, 3, none⟩ (.int .i64 0)) := ⟨_, rfl⟩
        obtain ⟨kk, -⟩ := ((((HB.start (K1.out.drewN nq)).set 1 (.int .i64 (j : Int)) (by simp [phW])).set 3 (.int .i64 0) (by simp [phW])).is (show _ = phW pt ⟨(j : Int), (j : Int), n, T, hv, hk, lg⟩ 0 from rfl)).fin (v' := ww) (by rw [eww]) (by rw [eww]) (by rw [eww]) (by rw [eww])
        have OO := Lib.hid (show Only b w ww by rw [eww]; exact (((O1.out.drewN nq).setCell (p := ⟨b, 1, none⟩) _).setCell (p := ⟨b, 3, none⟩) _))
        rw [← eww]
        replace eww := Lib.hid eww
        clear K1 O1 c0 f0 c1 f1 c2 f2 c3 f3 c4 f4 c5 f5 c6 f6 c7 f7 c8 f8 c9 f9 c10 f10 c11 f11 c12 f12
        have q1 := kk.c 1 _ rfl
        obtain ⟨qc, qf⟩ := phW_at kk hj5
        try dsimp only at qc q1
        have e5 : (j : Int) < 6 := by omega
        have ew : IntKind.i64.wrap (T j + 1) = T j + 1 := IntWalk.i64_in _ ⟨by have := t0 j; omega, by have := t1 j; omega⟩
        have KK := Lib.hid kk
        clear kk
        go_wp2_with fail
        refine region_moves (fun u => u.cell? ⟨b, 1, none⟩ = some (.int .i64 (j : Int)) ∧ u.cell? ⟨b, 5 + j, none⟩ = some (.int .i64 (T j))) [(13, [(12, 13), (9, 13), (0, 13), (1, 13), (2, 13), (3, 13), (4, 13), (5, 13), (6, 13), (7, 13), (8, 13), (11, 12), (10, 11)])] [(.free, 0), (.free, 1), (.free, 2), (.free, 3), (.take, 4), (.free, 5), (.free, 6), (.free, 7), (.take, 8), (.free, 9), (.free, 10), (.free, 11), (.free, 12), (.late, 13)] _ (by kernel_rfl) (by kernel_rfl) (by kernel_rfl) (by kernel_rfl) (by decide) rfl (fun _ _ _ _ _ h => h) ?_
        simp only [List.filterMap_cons, List.filterMap_nil, List.getElem?_toArray, List.getElem?_cons_zero, List.getElem?_cons_succ, Option.map_some]
        iterate 4
          first
            | (refine mv_free ?_ (Or.inl ⟨by rfl, ?_⟩) (⟨q1, qc⟩) ?_
               rotate_left 1
               · intro u
                 go_simp
                 try with_reducible rfl
               simp only [Act.put, List.setIfInBounds_toArray, List.set_cons_zero, List.set_cons_succ])
            | (refine mv_free _ (Or.inr ⟨by rfl, rfl⟩) (⟨q1, qc⟩) ?_
               simp only [Act.put, List.setIfInBounds_toArray, List.set_cons_zero, List.set_cons_succ])
        iterate 1
          first
            | (refine mv_take ?_ (Or.inl ⟨by rfl, ?_⟩) (⟨q1, qc⟩) ?_
               rotate_left 1
               · intro u hu
                 (try dsimp only at hu)
                 go_simp
                 try with_reducible rfl
               simp only [Act.put, List.setIfInBounds_toArray, List.set_cons_zero, List.set_cons_succ])
            | (refine mv_take _ (Or.inr ⟨by rfl, rfl⟩) (⟨q1, qc⟩) ?_
               simp only [Act.put, List.setIfInBounds_toArray, List.set_cons_zero, List.set_cons_succ])
        iterate 3
          first
            | (refine mv_free ?_ (Or.inl ⟨by rfl, ?_⟩) (⟨q1, qc⟩) ?_
               rotate_left 1
               · intro u
                 go_simp
                 try with_reducible rfl
               simp only [Act.put, List.setIfInBounds_toArray, List.set_cons_zero, List.set_cons_succ])
            | (refine mv_free _ (Or.inr ⟨by rfl, rfl⟩) (⟨q1, qc⟩) ?_
               simp only [Act.put, List.setIfInBounds_toArray, List.set_cons_zero, List.set_cons_succ])
        iterate 1
          first
            | (refine mv_take ?_ (Or.inl ⟨by rfl, ?_⟩) (⟨q1, qc⟩) ?_
               rotate_left 1
               · intro u hu
                 (try dsimp only at hu)
                 go_simp
                 try with_reducible rfl
               simp only [Act.put, List.setIfInBounds_toArray, List.set_cons_zero, List.set_cons_succ])
            | (refine mv_take _ (Or.inr ⟨by rfl, rfl⟩) (⟨q1, qc⟩) ?_
               simp only [Act.put, List.setIfInBounds_toArray, List.set_cons_zero, List.set_cons_succ])
        iterate 4
          first
            | (refine mv_free ?_ (Or.inl ⟨by rfl, ?_⟩) (⟨q1, qc⟩) ?_
               rotate_left 1
               · intro u
                 go_simp
                 try with_reducible rfl
               simp only [Act.put, List.setIfInBounds_toArray, List.set_cons_zero, List.set_cons_succ])
            | (refine mv_free _ (Or.inr ⟨by rfl, rfl⟩) (⟨q1, qc⟩) ?_
               simp only [Act.put, List.setIfInBounds_toArray, List.set_cons_zero, List.set_cons_succ])
        refine mv_late (fun K hK => ?_)
        go_simp
        refine hK.out (fun _ => True) _ _ ?_
        clear hK K
        refine mv_done ?_
        obtain ⟨w5, ew5⟩ : ∃ w5, w5 = (ww.setCell ⟨b, 5 + j, none⟩ (.int .i64 (T j + 1))).drew := ⟨_, rfl⟩
        obtain ⟨k2, -⟩ := (((HB.start KK.out).set (5 + j) (.int .i64 (T j + 1)) (by simp [phW]; omega)).is (phW_up pt ⟨(j : Int), (j : Int), n, T, hv, hk, lg⟩ 0 hj5 (T j + 1))).fin (v' := w5) (by rw [ew5]; rfl) (by rw [ew5]; rfl) (by rw [ew5]; rfl) (by rw [ew5]; rfl)
        have O5 := Lib.hid (show Only b w w5 by rw [ew5]; exact (OO.out.setCell (p := ⟨b, 5 + j, none⟩) _).drew)
        rw [← ew5]
        replace ew5 := Lib.hid ew5
        clear q1 qc qf KK ew OO
        have K5 := Lib.hid k2
        obtain ⟨c0, f0⟩ := k2.one 0 rfl
        obtain ⟨c1, f1⟩ := k2.one 1 rfl
        obtain ⟨c2, f2⟩ := k2.one 2 rfl
        obtain ⟨c3, f3⟩ := k2.one 3 rfl
        obtain ⟨c4, f4⟩ := k2.one 4 rfl
        obtain ⟨c5, f5⟩ := k2.one 5 rfl
        obtain ⟨c6, f6⟩ := k2.one 6 rfl
        obtain ⟨c7, f7⟩ := k2.one 7 rfl
        obtain ⟨c8, f8⟩ := k2.one 8 rfl
        obtain ⟨c9, f9⟩ := k2.one 9 rfl
        obtain ⟨c10, f10⟩ := k2.one 10 rfl
        obtain ⟨c11, f11⟩ := k2.one 11 rfl
        obtain ⟨c12, f12⟩ := k2.one 12 rfl
        clear k2
        rcases (show (j : Int) = 0 ∨ ((j : Int) ≠ 0) by omega) with z | z
        · have z1 : ((j : Int) != 0) = false := by simp [z]
          have hz0 := Lib.hid z
          clear z
          go_wp2
          go_ret
          have eZ := phZ_is (pt := pt) (S := ⟨(i : Int), a, n, T, hv, hk, lg⟩) (k := (j : Int)) (h := h) (q := j) (n2 := 0) (lg2 := lg) (hv2 := hv) (hk2 := hk) (by simp [phP, hG.out]) (by simp [hG.out]) (by rw [if_pos hz0.out]) (by simp [hz0.out]) (by rw [if_neg (fun q => y2.out q.2.2)])
          have eP : phP pt ⟨(i : Int), a, n, T, hv, hk, lg⟩ (j : Int) = (j : Int) := by simp [phP, hG.out]
          have eR : phRz pt ⟨(i : Int), a, n, T, hv, hk, lg⟩ N (j : Int) = 0 := by simp [phRz, hG.out]
          refine ⟨(show Ending.returned (.int .i64 (j : Int)) = .returned (.int .i64 (phP pt ⟨(i : Int), a, n, T, hv, hk, lg⟩ (j : Int))) from by rw [eP]), ?_, O5.out⟩
          rw [eZ, eR]
          exact K5.out
        · have z1 : ((j : Int) != 0) = true := bne_iff_ne.2 z
          have hz0 := Lib.hid z
          clear z
          rcases (show hk = false ∨ (hk = true ∧ hv < h) ∨ (hk = true ∧ h ≤ hv) by cases hk <;> simp <;> omega) with e1 | ⟨e1, e2⟩ | ⟨e1, e2⟩
          · subst e1
            obtain ⟨w8, ew8⟩ : ∃ w8, w8 = (w5.setCell ⟨b, 12, none⟩ (.bool true)).setCell ⟨b, 11, none⟩ (.int .i64 h) := ⟨_, rfl⟩
            obtain ⟨k8, -⟩ := ((((HB.start K5.out).set 12 (.bool true) (by simp [phW])).set 11 (.int .i64 h) (by simp [phW])).is (show _ = phW pt ⟨(j : Int), (j : Int), n, upd T j (T j + 1), h, true, lg⟩ 0 from rfl)).fin (v' := w8) (by rw [ew8]) (by rw [ew8]) (by rw [ew8]) (by rw [ew8])
            have O8 := Lib.hid (show Only b w w8 by rw [ew8]; exact (O5.out.setCell (p := ⟨b, 12, none⟩) _).setCell (p := ⟨b, 11, none⟩) _)
            replace ew8 := Lib.hid ew8
            have K8 := Lib.hid k8
            have r8 := k8.c 1 _ rfl
            try dsimp only at r8
            clear k8
            go_upto_region 15 with (fail)
            rw [← ew8.out]
            go_wp2
            go_ret
            have eZ := phZ_is (pt := pt) (S := ⟨(i : Int), a, n, T, hv, false, lg⟩) (k := (j : Int)) (h := h) (q := j) (n2 := 0) (lg2 := lg) (hv2 := h) (hk2 := true) (by simp [phP, hG.out]) (by simp [hG.out]) (by rw [if_neg hz0.out]; simp) (by have z := hz0.out; simp; try omega) (by rw [if_neg (fun q => y2.out q.2.2)])
            have eP : phP pt ⟨(i : Int), a, n, T, hv, false, lg⟩ (j : Int) = (j : Int) := by simp [phP, hG.out]
            have eR : phRz pt ⟨(i : Int), a, n, T, hv, false, lg⟩ N (j : Int) = 0 := by simp [phRz, hG.out]
            refine ⟨(show Ending.returned (.int .i64 (j : Int)) = .returned (.int .i64 (phP pt ⟨(i : Int), a, n, T, hv, false, lg⟩ (j : Int))) from by rw [eP]), ?_, O8.out⟩
            rw [eZ, eR]
            exact K8.out
          · subst e1
            obtain ⟨w8, ew8⟩ : ∃ w8, w8 = (w5.setCell ⟨b, 12, none⟩ (.bool true)).setCell ⟨b, 11, none⟩ (.int .i64 h) := ⟨_, rfl⟩
            obtain ⟨k8, -⟩ := ((((HB.start K5.out).set 12 (.bool true) (by simp [phW])).set 11 (.int .i64 h) (by simp [phW])).is (show _ = phW pt ⟨(j : Int), (j : Int), n, upd T j (T j + 1), h, true, lg⟩ 0 from rfl)).fin (v' := w8) (by rw [ew8]) (by rw [ew8]) (by rw [ew8]) (by rw [ew8])
            have O8 := Lib.hid (show Only b w w8 by rw [ew8]; exact (O5.out.setCell (p := ⟨b, 12, none⟩) _).setCell (p := ⟨b, 11, none⟩) _)
            replace ew8 := Lib.hid ew8
            have K8 := Lib.hid k8
            have r8 := k8.c 1 _ rfl
            try dsimp only at r8
            clear k8
            go_upto_region 15 with (fail)
            rw [← ew8.out]
            go_wp2
            go_ret
            have eZ := phZ_is (pt := pt) (S := ⟨(i : Int), a, n, T, hv, true, lg⟩) (k := (j : Int)) (h := h) (q := j) (n2 := 0) (lg2 := lg) (hv2 := h) (hk2 := true) (by simp [phP, hG.out]) (by simp [hG.out]) (by rw [if_neg hz0.out, if_neg (fun q => by have := q.2; dsimp only at this; omega)]) (by have z := hz0.out; simp; try omega) (by rw [if_neg (fun q => y2.out q.2.2)])
            have eP : phP pt ⟨(i : Int), a, n, T, hv, true, lg⟩ (j : Int) = (j : Int) := by simp [phP, hG.out]
            have eR : phRz pt ⟨(i : Int), a, n, T, hv, true, lg⟩ N (j : Int) = 0 := by simp [phRz, hG.out]
            refine ⟨(show Ending.returned (.int .i64 (j : Int)) = .returned (.int .i64 (phP pt ⟨(i : Int), a, n, T, hv, true, lg⟩ (j : Int))) from by rw [eP]), ?_, O8.out⟩
            rw [eZ, eR]
            exact K8.out
          · subst e1
            go_wp2
            go_ret
            have eZ := phZ_is (pt := pt) (S := ⟨(i : Int), a, n, T, hv, true, lg⟩) (k := (j : Int)) (h := h) (q := j) (n2 := 0) (lg2 := lg) (hv2 := hv) (hk2 := true) (by simp [phP, hG.out]) (by simp [hG.out]) (by rw [if_neg hz0.out, if_pos ⟨rfl, e2⟩]) (by simp) (by rw [if_neg (fun q => y2.out q.2.2)])
            have eP : phP pt ⟨(i : Int), a, n, T, hv, true, lg⟩ (j : Int) = (j : Int) := by simp [phP, hG.out]
            have eR : phRz pt ⟨(i : Int), a, n, T, hv, true, lg⟩ N (j : Int) = 0 := by simp [phRz, hG.out]
            refine ⟨(show Ending.returned (.int .i64 (j : Int)) = .returned (.int .i64 (phP pt ⟨(i : Int), a, n, T, hv, true, lg⟩ (j : Int))) from by rw [eP]), ?_, O5.out⟩
            rw [eZ, eR]
            exact K5.out
      · have x5 : ((i : Int) == 5) = false := beq_eq_false_iff_ne.2 y1
        replace y1 := Lib.hid y1
        have kW := K1.out
        obtain ⟨c0, f0⟩ := kW.one 0 rfl
        obtain ⟨c1, f1⟩ := kW.one 1 rfl
        obtain ⟨c2, f2⟩ := kW.one 2 rfl
        obtain ⟨c3, f3⟩ := kW.one 3 rfl
        obtain ⟨c4, f4⟩ := kW.one 4 rfl
        obtain ⟨c5, f5⟩ := kW.one 5 rfl
        obtain ⟨c6, f6⟩ := kW.one 6 rfl
        obtain ⟨c7, f7⟩ := kW.one 7 rfl
        obtain ⟨c8, f8⟩ := kW.one 8 rfl
        obtain ⟨c9, f9⟩ := kW.one 9 rfl
        obtain ⟨c10, f10⟩ := kW.one 10 rfl
        obtain ⟨c11, f11⟩ := kW.one 11 rfl
        obtain ⟨c12, f12⟩ := kW.one 12 rfl
        clear kW q0 q1 q3
        go_upto_region 11 with (fail)
        obtain ⟨ww, eww⟩ : ∃ ww, ww = (((W.drewN nq).setCell ⟨b, 1, none⟩ (.int .i64 (j : Int))).setCell ⟨b, 3, none⟩ (.int .i64 0)) := ⟨_, rfl⟩
        obtain ⟨kk, -⟩ := ((((HB.start (K1.out.drewN nq)).set 1 (.int .i64 (j : Int)) (by simp [phW])).set 3 (.int .i64 0) (by simp [phW])).is (show _ = phW pt ⟨(j : Int), (j : Int), n, T, hv, hk, lg⟩ 0 from rfl)).fin (v' := ww) (by rw [eww]) (by rw [eww]) (by rw [eww]) (by rw [eww])
        have OO := Lib.hid (show Only b w ww by rw [eww]; exact (((O1.out.drewN nq).setCell (p := ⟨b, 1, none⟩) _).setCell (p := ⟨b, 3, none⟩) _))
        rw [← eww]
        replace eww := Lib.hid eww
        clear K1 O1 c0 f0 c1 f1 c2 f2 c3 f3 c4 f4 c5 f5 c6 f6 c7 f7 c8 f8 c9 f9 c10 f10 c11 f11 c12 f12
        have q1 := kk.c 1 _ rfl
        obtain ⟨qc, qf⟩ := phW_at kk hj5
        try dsimp only at qc q1
        have e5 : (j : Int) < 6 := by omega
        have ew : IntKind.i64.wrap (T j + 1) = T j + 1 := IntWalk.i64_in _ ⟨by have := t0 j; omega, by have := t1 j; omega⟩
        have KK := Lib.hid kk
        clear kk
        go_wp2_with fail
        refine region_moves (fun u => u.cell? ⟨b, 1, none⟩ = some (.int .i64 (j : Int)) ∧ u.cell? ⟨b, 5 + j, none⟩ = some (.int .i64 (T j))) [(13, [(12, 13), (9, 13), (0, 13), (1, 13), (2, 13), (3, 13), (4, 13), (5, 13), (6, 13), (7, 13), (8, 13), (11, 12), (10, 11)])] [(.free, 0), (.free, 1), (.free, 2), (.free, 3), (.take, 4), (.free, 5), (.free, 6), (.free, 7), (.take, 8), (.free, 9), (.free, 10), (.free, 11), (.free, 12), (.late, 13)] _ (by kernel_rfl) (by kernel_rfl) (by kernel_rfl) (by kernel_rfl) (by decide) rfl (fun _ _ _ _ _ h => h) ?_
        simp only [List.filterMap_cons, List.filterMap_nil, List.getElem?_toArray, List.getElem?_cons_zero, List.getElem?_cons_succ, Option.map_some]
        iterate 4
          first
            | (refine mv_free ?_ (Or.inl ⟨by rfl, ?_⟩) (⟨q1, qc⟩) ?_
               rotate_left 1
               · intro u
                 go_simp
                 try with_reducible rfl
               simp only [Act.put, List.setIfInBounds_toArray, List.set_cons_zero, List.set_cons_succ])
            | (refine mv_free _ (Or.inr ⟨by rfl, rfl⟩) (⟨q1, qc⟩) ?_
               simp only [Act.put, List.setIfInBounds_toArray, List.set_cons_zero, List.set_cons_succ])
        iterate 1
          first
            | (refine mv_take ?_ (Or.inl ⟨by rfl, ?_⟩) (⟨q1, qc⟩) ?_
               rotate_left 1
               · intro u hu
                 (try dsimp only at hu)
                 go_simp
                 try with_reducible rfl
               simp only [Act.put, List.setIfInBounds_toArray, List.set_cons_zero, List.set_cons_succ])
            | (refine mv_take _ (Or.inr ⟨by rfl, rfl⟩) (⟨q1, qc⟩) ?_
               simp only [Act.put, List.setIfInBounds_toArray, List.set_cons_zero, List.set_cons_succ])
        iterate 3
          first
            | (refine mv_free ?_ (Or.inl ⟨by rfl, ?_⟩) (⟨q1, qc⟩) ?_
               rotate_left 1
               · intro u
                 go_simp
                 try with_reducible rfl
               simp only [Act.put, List.setIfInBounds_toArray, List.set_cons_zero, List.set_cons_succ])
            | (refine mv_free _ (Or.inr ⟨by rfl, rfl⟩) (⟨q1, qc⟩) ?_
               simp only [Act.put, List.setIfInBounds_toArray, List.set_cons_zero, List.set_cons_succ])
        iterate 1
          first
            | (refine mv_take ?_ (Or.inl ⟨by rfl, ?_⟩) (⟨q1, qc⟩) ?_
               rotate_left 1
               · intro u hu
                 (try dsimp only at hu)
                 go_simp
                 try with_reducible rfl
               simp only [Act.put, List.setIfInBounds_toArray, List.set_cons_zero, List.set_cons_succ])
            | (refine mv_take _ (Or.inr ⟨by rfl, rfl⟩) (⟨q1, qc⟩) ?_
               simp only [Act.put, List.setIfInBounds_toArray, List.set_cons_zero, List.set_cons_succ])
        iterate 4
          first
            | (refine mv_free ?_ (Or.inl ⟨by rfl, ?_⟩) (⟨q1, qc⟩) ?_
               rotate_left 1
               · intro u
                 go_simp
                 try with_reducible rfl
               simp only [Act.put, List.setIfInBounds_toArray, List.set_cons_zero, List.set_cons_succ])
            | (refine mv_free _ (Or.inr ⟨by rfl, rfl⟩) (⟨q1, qc⟩) ?_
               simp only [Act.put, List.setIfInBounds_toArray, List.set_cons_zero, List.set_cons_succ])
        refine mv_late (fun K hK => ?_)
        go_simp
        refine hK.out (fun _ => True) _ _ ?_
        clear hK K
        refine mv_done ?_
        obtain ⟨w5, ew5⟩ : ∃ w5, w5 = (ww.setCell ⟨b, 5 + j, none⟩ (.int .i64 (T j + 1))).drew := ⟨_, rfl⟩
        obtain ⟨k2, -⟩ := (((HB.start KK.out).set (5 + j) (.int .i64 (T j + 1)) (by simp [phW]; omega)).is (phW_up pt ⟨(j : Int), (j : Int), n, T, hv, hk, lg⟩ 0 hj5 (T j + 1))).fin (v' := w5) (by rw [ew5]; rfl) (by rw [ew5]; rfl) (by rw [ew5]; rfl) (by rw [ew5]; rfl)
        have O5 := Lib.hid (show Only b w w5 by rw [ew5]; exact (OO.out.setCell (p := ⟨b, 5 + j, none⟩) _).drew)
        rw [← ew5]
        replace ew5 := Lib.hid ew5
        clear q1 qc qf KK ew OO
        have K5 := Lib.hid k2
        obtain ⟨c0, f0⟩ := k2.one 0 rfl
        obtain ⟨c1, f1⟩ := k2.one 1 rfl
        obtain ⟨c2, f2⟩ := k2.one 2 rfl
        obtain ⟨c3, f3⟩ := k2.one 3 rfl
        obtain ⟨c4, f4⟩ := k2.one 4 rfl
        obtain ⟨c5, f5⟩ := k2.one 5 rfl
        obtain ⟨c6, f6⟩ := k2.one 6 rfl
        obtain ⟨c7, f7⟩ := k2.one 7 rfl
        obtain ⟨c8, f8⟩ := k2.one 8 rfl
        obtain ⟨c9, f9⟩ := k2.one 9 rfl
        obtain ⟨c10, f10⟩ := k2.one 10 rfl
        obtain ⟨c11, f11⟩ := k2.one 11 rfl
        obtain ⟨c12, f12⟩ := k2.one 12 rfl
        clear k2
        rcases (show (j : Int) = 0 ∨ ((j : Int) ≠ 0) by omega) with z | z
        · have z1 : ((j : Int) != 0) = false := by simp [z]
          have hz0 := Lib.hid z
          clear z
          go_wp2
          go_ret
          have eZ := phZ_is (pt := pt) (S := ⟨(i : Int), a, n, T, hv, hk, lg⟩) (k := (j : Int)) (h := h) (q := j) (n2 := 0) (lg2 := lg) (hv2 := hv) (hk2 := hk) (by simp [phP, hG.out]) (by simp [hG.out]) (by rw [if_pos hz0.out]) (by simp [hz0.out]) (by rw [if_neg (fun q => y1.out q.2.1)])
          have eP : phP pt ⟨(i : Int), a, n, T, hv, hk, lg⟩ (j : Int) = (j : Int) := by simp [phP, hG.out]
          have eR : phRz pt ⟨(i : Int), a, n, T, hv, hk, lg⟩ N (j : Int) = 0 := by simp [phRz, hG.out]
          refine ⟨(show Ending.returned (.int .i64 (j : Int)) = .returned (.int .i64 (phP pt ⟨(i : Int), a, n, T, hv, hk, lg⟩ (j : Int))) from by rw [eP]), ?_, O5.out⟩
          rw [eZ, eR]
          exact K5.out
        · have z1 : ((j : Int) != 0) = true := bne_iff_ne.2 z
          have hz0 := Lib.hid z
          clear z
          rcases (show hk = false ∨ (hk = true ∧ hv < h) ∨ (hk = true ∧ h ≤ hv) by cases hk <;> simp <;> omega) with e1 | ⟨e1, e2⟩ | ⟨e1, e2⟩
          · subst e1
            obtain ⟨w8, ew8⟩ : ∃ w8, w8 = (w5.setCell ⟨b, 12, none⟩ (.bool true)).setCell ⟨b, 11, none⟩ (.int .i64 h) := ⟨_, rfl⟩
            obtain ⟨k8, -⟩ := ((((HB.start K5.out).set 12 (.bool true) (by simp [phW])).set 11 (.int .i64 h) (by simp [phW])).is (show _ = phW pt ⟨(j : Int), (j : Int), n, upd T j (T j + 1), h, true, lg⟩ 0 from rfl)).fin (v' := w8) (by rw [ew8]) (by rw [ew8]) (by rw [ew8]) (by rw [ew8])
            have O8 := Lib.hid (show Only b w w8 by rw [ew8]; exact (O5.out.setCell (p := ⟨b, 12, none⟩) _).setCell (p := ⟨b, 11, none⟩) _)
            replace ew8 := Lib.hid ew8
            have K8 := Lib.hid k8
            have r8 := k8.c 1 _ rfl
            try dsimp only at r8
            clear k8
            go_upto_region 15 with (fail)
            rw [← ew8.out]
            go_wp2
            go_ret
            have eZ := phZ_is (pt := pt) (S := ⟨(i : Int), a, n, T, hv, false, lg⟩) (k := (j : Int)) (h := h) (q := j) (n2 := 0) (lg2 := lg) (hv2 := h) (hk2 := true) (by simp [phP, hG.out]) (by simp [hG.out]) (by rw [if_neg hz0.out]; simp) (by have z := hz0.out; simp; try omega) (by rw [if_neg (fun q => y1.out q.2.1)])
            have eP : phP pt ⟨(i : Int), a, n, T, hv, false, lg⟩ (j : Int) = (j : Int) := by simp [phP, hG.out]
            have eR : phRz pt ⟨(i : Int), a, n, T, hv, false, lg⟩ N (j : Int) = 0 := by simp [phRz, hG.out]
            refine ⟨(show Ending.returned (.int .i64 (j : Int)) = .returned (.int .i64 (phP pt ⟨(i : Int), a, n, T, hv, false, lg⟩ (j : Int))) from by rw [eP]), ?_, O8.out⟩
            rw [eZ, eR]
            exact K8.out
          · subst e1
            obtain ⟨w8, ew8⟩ : ∃ w8, w8 = (w5.setCell ⟨b, 12, none⟩ (.bool true)).setCell ⟨b, 11, none⟩ (.int .i64 h) := ⟨_, rfl⟩
            obtain ⟨k8, -⟩ := ((((HB.start K5.out).set 12 (.bool true) (by simp [phW])).set 11 (.int .i64 h) (by simp [phW])).is (show _ = phW pt ⟨(j : Int), (j : Int), n, upd T j (T j + 1), h, true, lg⟩ 0 from rfl)).fin (v' := w8) (by rw [ew8]) (by rw [ew8]) (by rw [ew8]) (by rw [ew8])
            have O8 := Lib.hid (show Only b w w8 by rw [ew8]; exact (O5.out.setCell (p := ⟨b, 12, none⟩) _).setCell (p := ⟨b, 11, none⟩) _)
            replace ew8 := Lib.hid ew8
            have K8 := Lib.hid k8
            have r8 := k8.c 1 _ rfl
            try dsimp only at r8
            clear k8
            go_upto_region 15 with (fail)
            rw [← ew8.out]
            go_wp2
            go_ret
            have eZ := phZ_is (pt := pt) (S := ⟨(i : Int), a, n, T, hv, true, lg⟩) (k := (j : Int)) (h := h) (q := j) (n2 := 0) (lg2 := lg) (hv2 := h) (hk2 := true) (by simp [phP, hG.out]) (by simp [hG.out]) (by rw [if_neg hz0.out, if_neg (fun q => by have := q.2; dsimp only at this; omega)]) (by have z := hz0.out; simp; try omega) (by rw [if_neg (fun q => y1.out q.2.1)])
            have eP : phP pt ⟨(i : Int), a, n, T, hv, true, lg⟩ (j : Int) = (j : Int) := by simp [phP, hG.out]
            have eR : phRz pt ⟨(i : Int), a, n, T, hv, true, lg⟩ N (j : Int) = 0 := by simp [phRz, hG.out]
            refine ⟨(show Ending.returned (.int .i64 (j : Int)) = .returned (.int .i64 (phP pt ⟨(i : Int), a, n, T, hv, true, lg⟩ (j : Int))) from by rw [eP]), ?_, O8.out⟩
            rw [eZ, eR]
            exact K8.out
          · subst e1
            go_wp2
            go_ret
            have eZ := phZ_is (pt := pt) (S := ⟨(i : Int), a, n, T, hv, true, lg⟩) (k := (j : Int)) (h := h) (q := j) (n2 := 0) (lg2 := lg) (hv2 := hv) (hk2 := true) (by simp [phP, hG.out]) (by simp [hG.out]) (by rw [if_neg hz0.out, if_pos ⟨rfl, e2⟩]) (by simp) (by rw [if_neg (fun q => y1.out q.2.1)])
            have eP : phP pt ⟨(i : Int), a, n, T, hv, true, lg⟩ (j : Int) = (j : Int) := by simp [phP, hG.out]
            have eR : phRz pt ⟨(i : Int), a, n, T, hv, true, lg⟩ N (j : Int) = 0 := by simp [phRz, hG.out]
            refine ⟨(show Ending.returned (.int .i64 (j : Int)) = .returned (.int .i64 (phP pt ⟨(i : Int), a, n, T, hv, true, lg⟩ (j : Int))) from by rw [eP]), ?_, O5.out⟩
            rw [eZ, eR]
            exact K5.out
    · have hG := Lib.hid (show phG pt ⟨(i : Int), a, n, T, hv, hk, lg⟩ (j : Int) = false by
        have e := hzz.out g
        simp only [phG, ← e]
        exact decide_eq_false (fun q => by rcases q.2 with q | q; (rw [g2] at q; cases q); omega))
      have y0 : ((j : Int) != i) = true := bne_iff_ne.2 g
      rw [g2] at PS
      have y3 : decide (pt ≤ RN) = false := decide_eq_false (by omega)
      replace PS := Lib.hid PS
      replace g := Lib.hid g
      replace g2 := Lib.hid g2
      go_quiet ((go_at_call 48; (with_reducible exact quiet_as _ rfl (PS.out _))))
      go_upto_region 11 with (fail)
      obtain ⟨ww, eww⟩ : ∃ ww, ww = W.drewN nq := ⟨_, rfl⟩
      have kk := K1.out.as (w' := ww) (by rw [eww]; rfl)
      have OO := Lib.hid (show Only b w ww by rw [eww]; exact O1.out.drewN nq)
      rw [← eww]
      replace eww := Lib.hid eww
      clear K1 O1 q0 q1 q3
      have q1 := kk.c 1 _ rfl
      obtain ⟨qc, qf⟩ := phW_at kk hi5
      try dsimp only at qc q1
      have e5 : (i : Int) < 6 := by omega
      have ew : IntKind.i64.wrap (T i + 1) = T i + 1 := IntWalk.i64_in _ ⟨by have := t0 i; omega, by have := t1 i; omega⟩
      have KK := Lib.hid kk
      clear kk
      go_wp2_with fail
      refine region_moves (fun u => u.cell? ⟨b, 1, none⟩ = some (.int .i64 (i : Int)) ∧ u.cell? ⟨b, 5 + i, none⟩ = some (.int .i64 (T i))) [(13, [(12, 13), (9, 13), (0, 13), (1, 13), (2, 13), (3, 13), (4, 13), (5, 13), (6, 13), (7, 13), (8, 13), (11, 12), (10, 11)])] [(.free, 0), (.free, 1), (.free, 2), (.free, 3), (.take, 4), (.free, 5), (.free, 6), (.free, 7), (.take, 8), (.free, 9), (.free, 10), (.free, 11), (.free, 12), (.late, 13)] _ (by kernel_rfl) (by kernel_rfl) (by kernel_rfl) (by kernel_rfl) (by decide) rfl (fun _ _ _ _ _ h => h) ?_
      simp only [List.filterMap_cons, List.filterMap_nil, List.getElem?_toArray, List.getElem?_cons_zero, List.getElem?_cons_succ, Option.map_some]
      iterate 4
        first
          | (refine mv_free ?_ (Or.inl ⟨by rfl, ?_⟩) (⟨q1, qc⟩) ?_
             rotate_left 1
             · intro u
               go_simp
               try with_reducible rfl
             simp only [Act.put, List.setIfInBounds_toArray, List.set_cons_zero, List.set_cons_succ])
          | (refine mv_free _ (Or.inr ⟨by rfl, rfl⟩) (⟨q1, qc⟩) ?_
             simp only [Act.put, List.setIfInBounds_toArray, List.set_cons_zero, List.set_cons_succ])
      iterate 1
        first
          | (refine mv_take ?_ (Or.inl ⟨by rfl, ?_⟩) (⟨q1, qc⟩) ?_
             rotate_left 1
             · intro u hu
               (try dsimp only at hu)
               go_simp
               try with_reducible rfl
             simp only [Act.put, List.setIfInBounds_toArray, List.set_cons_zero, List.set_cons_succ])
          | (refine mv_take _ (Or.inr ⟨by rfl, rfl⟩) (⟨q1, qc⟩) ?_
             simp only [Act.put, List.setIfInBounds_toArray, List.set_cons_zero, List.set_cons_succ])
      iterate 3
        first
          | (refine mv_free ?_ (Or.inl ⟨by rfl, ?_⟩) (⟨q1, qc⟩) ?_
             rotate_left 1
             · intro u
               go_simp
               try with_reducible rfl
             simp only [Act.put, List.setIfInBounds_toArray, List.set_cons_zero, List.set_cons_succ])
          | (refine mv_free _ (Or.inr ⟨by rfl, rfl⟩) (⟨q1, qc⟩) ?_
             simp only [Act.put, List.setIfInBounds_toArray, List.set_cons_zero, List.set_cons_succ])
      iterate 1
        first
          | (refine mv_take ?_ (Or.inl ⟨by rfl, ?_⟩) (⟨q1, qc⟩) ?_
             rotate_left 1
             · intro u hu
               (try dsimp only at hu)
               go_simp
               try with_reducible rfl
             simp only [Act.put, List.setIfInBounds_toArray, List.set_cons_zero, List.set_cons_succ])
          | (refine mv_take _ (Or.inr ⟨by rfl, rfl⟩) (⟨q1, qc⟩) ?_
             simp only [Act.put, List.setIfInBounds_toArray, List.set_cons_zero, List.set_cons_succ])
      iterate 4
        first
          | (refine mv_free ?_ (Or.inl ⟨by rfl, ?_⟩) (⟨q1, qc⟩) ?_
             rotate_left 1
             · intro u
               go_simp
               try with_reducible rfl
             simp only [Act.put, List.setIfInBounds_toArray, List.set_cons_zero, List.set_cons_succ])
          | (refine mv_free _ (Or.inr ⟨by rfl, rfl⟩) (⟨q1, qc⟩) ?_
             simp only [Act.put, List.setIfInBounds_toArray, List.set_cons_zero, List.set_cons_succ])
      refine mv_late (fun K hK => ?_)
      go_simp
      refine hK.out (fun _ => True) _ _ ?_
      clear hK K
      refine mv_done ?_
      obtain ⟨w5, ew5⟩ : ∃ w5, w5 = (ww.setCell ⟨b, 5 + i, none⟩ (.int .i64 (T i + 1))).drew := ⟨_, rfl⟩
      obtain ⟨k2, -⟩ := (((HB.start KK.out).set (5 + i) (.int .i64 (T i + 1)) (by simp [phW]; omega)).is (phW_up pt ⟨(i : Int), (j : Int), n, T, hv, hk, lg⟩ RN hi5 (T i + 1))).fin (v' := w5) (by rw [ew5]; rfl) (by rw [ew5]; rfl) (by rw [ew5]; rfl) (by rw [ew5]; rfl)
      have O5 := Lib.hid (show Only b w w5 by rw [ew5]; exact (OO.out.setCell (p := ⟨b, 5 + i, none⟩) _).drew)
      rw [← ew5]
      replace ew5 := Lib.hid ew5
      clear q1 qc qf KK ew OO
      have K5 := Lib.hid k2
      obtain ⟨c0, f0⟩ := k2.one 0 rfl
      obtain ⟨c1, f1⟩ := k2.one 1 rfl
      obtain ⟨c2, f2⟩ := k2.one 2 rfl
      obtain ⟨c3, f3⟩ := k2.one 3 rfl
      obtain ⟨c4, f4⟩ := k2.one 4 rfl
      obtain ⟨c5, f5⟩ := k2.one 5 rfl
      obtain ⟨c6, f6⟩ := k2.one 6 rfl
      obtain ⟨c7, f7⟩ := k2.one 7 rfl
      obtain ⟨c8, f8⟩ := k2.one 8 rfl
      obtain ⟨c9, f9⟩ := k2.one 9 rfl
      obtain ⟨c10, f10⟩ := k2.one 10 rfl
      obtain ⟨c11, f11⟩ := k2.one 11 rfl
      obtain ⟨c12, f12⟩ := k2.one 12 rfl
      clear k2
      rcases (show (i : Int) = 0 ∨ ((i : Int) ≠ 0) by omega) with z | z
      · have z1 : ((i : Int) != 0) = false := by simp [z]
        have hz0 := Lib.hid z
        clear z
        go_wp2
        go_ret
        have eZ := phZ_is (pt := pt) (S := ⟨(i : Int), a, n, T, hv, hk, lg⟩) (k := (j : Int)) (h := h) (q := i) (n2 := (phN ⟨(i : Int), a, n, T, hv, hk, lg⟩ (j : Int))) (lg2 := lg) (hv2 := hv) (hk2 := hk) (by simp [phP, hG.out]) (by simp [hG.out]) (by rw [if_pos hz0.out]) (by simp [hz0.out]) (by simp [hG.out])
        have eP : phP pt ⟨(i : Int), a, n, T, hv, hk, lg⟩ (j : Int) = (i : Int) := by simp [phP, hG.out]
        have eR : phRz pt ⟨(i : Int), a, n, T, hv, hk, lg⟩ N (j : Int) = RN := by unfold phRz; rw [hG.out]; exact hRN.out
        refine ⟨(show Ending.returned (.int .i64 (i : Int)) = .returned (.int .i64 (phP pt ⟨(i : Int), a, n, T, hv, hk, lg⟩ (j : Int))) from by rw [eP]), ?_, O5.out⟩
        rw [eZ, eR]
        exact K5.out
      · have z1 : ((i : Int) != 0) = true := bne_iff_ne.2 z
        have hz0 := Lib.hid z
        clear z
        rcases (show hk = false ∨ (hk = true ∧ hv < h) ∨ (hk = true ∧ h ≤ hv) by cases hk <;> simp <;> omega) with e1 | ⟨e1, e2⟩ | ⟨e1, e2⟩
        · subst e1
          obtain ⟨w8, ew8⟩ : ∃ w8, w8 = (w5.setCell ⟨b, 12, none⟩ (.bool true)).setCell ⟨b, 11, none⟩ (.int .i64 h) := ⟨_, rfl⟩
          obtain ⟨k8, -⟩ := ((((HB.start K5.out).set 12 (.bool true) (by simp [phW])).set 11 (.int .i64 h) (by simp [phW])).is (show _ = phW pt ⟨(i : Int), (j : Int), n, upd T i (T i + 1), h, true, lg⟩ RN from rfl)).fin (v' := w8) (by rw [ew8]) (by rw [ew8]) (by rw [ew8]) (by rw [ew8])
          have O8 := Lib.hid (show Only b w w8 by rw [ew8]; exact (O5.out.setCell (p := ⟨b, 12, none⟩) _).setCell (p := ⟨b, 11, none⟩) _)
          replace ew8 := Lib.hid ew8
          have K8 := Lib.hid k8
          have r8 := k8.c 1 _ rfl
          try dsimp only at r8
          clear k8
          go_upto_region 15 with (fail)
          rw [← ew8.out]
          go_wp2
          go_ret
          have eZ := phZ_is (pt := pt) (S := ⟨(i : Int), a, n, T, hv, false, lg⟩) (k := (j : Int)) (h := h) (q := i) (n2 := (phN ⟨(i : Int), a, n, T, hv, false, lg⟩ (j : Int))) (lg2 := lg) (hv2 := h) (hk2 := true) (by simp [phP, hG.out]) (by simp [hG.out]) (by rw [if_neg hz0.out]; simp) (by have z := hz0.out; simp; try omega) (by simp [hG.out])
          have eP : phP pt ⟨(i : Int), a, n, T, hv, false, lg⟩ (j : Int) = (i : Int) := by simp [phP, hG.out]
          have eR : phRz pt ⟨(i : Int), a, n, T, hv, false, lg⟩ N (j : Int) = RN := by unfold phRz; rw [hG.out]; exact hRN.out
          refine ⟨(show Ending.returned (.int .i64 (i : Int)) = .returned (.int .i64 (phP pt ⟨(i : Int), a, n, T, hv, false, lg⟩ (j : Int))) from by rw [eP]), ?_, O8.out⟩
          rw [eZ, eR]
          exact K8.out
        · subst e1
          obtain ⟨w8, ew8⟩ : ∃ w8, w8 = (w5.setCell ⟨b, 12, none⟩ (.bool true)).setCell ⟨b, 11, none⟩ (.int .i64 h) := ⟨_, rfl⟩
          obtain ⟨k8, -⟩ := ((((HB.start K5.out).set 12 (.bool true) (by simp [phW])).set 11 (.int .i64 h) (by simp [phW])).is (show _ = phW pt ⟨(i : Int), (j : Int), n, upd T i (T i + 1), h, true, lg⟩ RN from rfl)).fin (v' := w8) (by rw [ew8]) (by rw [ew8]) (by rw [ew8]) (by rw [ew8])
          have O8 := Lib.hid (show Only b w w8 by rw [ew8]; exact (O5.out.setCell (p := ⟨b, 12, none⟩) _).setCell (p := ⟨b, 11, none⟩) _)
          replace ew8 := Lib.hid ew8
          have K8 := Lib.hid k8
          have r8 := k8.c 1 _ rfl
          try dsimp only at r8
          clear k8
          go_upto_region 15 with (fail)
          rw [← ew8.out]
          go_wp2
          go_ret
          have eZ := phZ_is (pt := pt) (S := ⟨(i : Int), a, n, T, hv, true, lg⟩) (k := (j : Int)) (h := h) (q := i) (n2 := (phN ⟨(i : Int), a, n, T, hv, true, lg⟩ (j : Int))) (lg2 := lg) (hv2 := h) (hk2 := true) (by simp [phP, hG.out]) (by simp [hG.out]) (by rw [if_neg hz0.out, if_neg (fun q => by have := q.2; dsimp only at this; omega)]) (by have z := hz0.out; simp; try omega) (by simp [hG.out])
          have eP : phP pt ⟨(i : Int), a, n, T, hv, true, lg⟩ (j : Int) = (i : Int) := by simp [phP, hG.out]
          have eR : phRz pt ⟨(i : Int), a, n, T, hv, true, lg⟩ N (j : Int) = RN := by unfold phRz; rw [hG.out]; exact hRN.out
          refine ⟨(show Ending.returned (.int .i64 (i : Int)) = .returned (.int .i64 (phP pt ⟨(i : Int), a, n, T, hv, true, lg⟩ (j : Int))) from by rw [eP]), ?_, O8.out⟩
          rw [eZ, eR]
          exact K8.out
        · subst e1
          go_wp2
          go_ret
          have eZ := phZ_is (pt := pt) (S := ⟨(i : Int), a, n, T, hv, true, lg⟩) (k := (j : Int)) (h := h) (q := i) (n2 := (phN ⟨(i : Int), a, n, T, hv, true, lg⟩ (j : Int))) (lg2 := lg) (hv2 := hv) (hk2 := true) (by simp [phP, hG.out]) (by simp [hG.out]) (by rw [if_neg hz0.out, if_pos ⟨rfl, e2⟩]) (by simp) (by simp [hG.out])
          have eP : phP pt ⟨(i : Int), a, n, T, hv, true, lg⟩ (j : Int) = (i : Int) := by simp [phP, hG.out]
          have eR : phRz pt ⟨(i : Int), a, n, T, hv, true, lg⟩ N (j : Int) = RN := by unfold phRz; rw [hG.out]; exact hRN.out
          refine ⟨(show Ending.returned (.int .i64 (i : Int)) = .returned (.int .i64 (phP pt ⟨(i : Int), a, n, T, hv, true, lg⟩ (j : Int))) from by rw [eP]), ?_, O5.out⟩
          rw [eZ, eR]
          exact K5.out
  · rw [if_neg ha] at R0
    have x1 : ((j : Int) != a) = true := bne_iff_ne.2 ha
    generalize hRN : phRn ⟨(i : Int), a, n, T, hv, hk, lg⟩ N (j : Int) = RN at *
    obtain rfl : RN = 1 := by omega
    have ew := True.intro
    have hb2 := ((((HB.start k).set 3 (.int .i64 0) (by simp [phW])).set 2 (.int .i64 (j : Int)) (by simp [phW])).set 3 (.int .i64 1) (by simp [phW])).is (show _ = phW pt ⟨(i : Int), (j : Int), n, T, hv, hk, lg⟩ 1 from rfl)
    have ho : Only b w (((w.setCell ⟨b, 3, none⟩ (.int .i64 0)).setCell ⟨b, 2, none⟩ (.int .i64 (j : Int))).setCell ⟨b, 3, none⟩ (.int .i64 1)) := ((((Only.refl b w).setCell (p := ⟨b, 3, none⟩) (.int .i64 0)).setCell (p := ⟨b, 2, none⟩) (.int .i64 (j : Int))).setCell (p := ⟨b, 3, none⟩) (.int .i64 1))
    obtain ⟨c0, f0⟩ := k.one 0 rfl
    obtain ⟨c1, f1⟩ := k.one 1 rfl
    obtain ⟨c2, f2⟩ := k.one 2 rfl
    obtain ⟨c3, f3⟩ := k.one 3 rfl
    obtain ⟨c4, f4⟩ := k.one 4 rfl
    obtain ⟨c5, f5⟩ := k.one 5 rfl
    obtain ⟨c6, f6⟩ := k.one 6 rfl
    obtain ⟨c7, f7⟩ := k.one 7 rfl
    obtain ⟨c8, f8⟩ := k.one 8 rfl
    obtain ⟨c9, f9⟩ := k.one 9 rfl
    obtain ⟨c10, f10⟩ := k.one 10 rfl
    obtain ⟨c11, f11⟩ := k.one 11 rfl
    obtain ⟨c12, f12⟩ := k.one 12 rfl
    have kq := Lib.hid k
    replace R0 := Lib.hid R0
    replace ha := Lib.hid ha
    replace hRN := Lib.hid hRN
    clear k
    go_enter Try.func58, Try.ntmps58
    go_wp2_with fail
    refine (AKK.out _).mono ?_
    rintro e w1 ⟨rfl, rfl⟩
    go_upto_region 6 with (fail)
    generalize eW : (((w.setCell ⟨b, 3, none⟩ (.int .i64 0)).setCell ⟨b, 2, none⟩ (.int .i64 (j : Int))).setCell ⟨b, 3, none⟩ (.int .i64 1)) = W at *
    clear eW kq c0 f0 c1 f1 c2 f2 c3 f3 c4 f4 c5 f5 c6 f6 c7 f7 c8 f8 c9 f9 c10 f10 c11 f11 c12 f12
    have K1 := Lib.hid hb2.held
    have O1 := Lib.hid ho
    clear hb2 ho ew
    have q1 := K1.out.c 1 _ rfl
    have q3 := K1.out.c 3 _ rfl
    have q0 := K1.out.c 0 _ rfl
    try dsimp only at q1 q3 q0
    rcases (show (j : Int) = i ∨ ((j : Int) ≠ i ∧ phQ i j = true) ∨ ((j : Int) ≠ i ∧ phQ i j = false ∧ pt ≤ 1) ∨ ((j : Int) ≠ i ∧ phQ i j = false ∧ 1 < pt) by cases phQ (i : Int) (j : Int) <;> simp <;> omega) with g | ⟨g, g2⟩ | ⟨g, g2, g3⟩ | ⟨g, g2, g3⟩
    · have hG := Lib.hid (show phG pt ⟨(i : Int), a, n, T, hv, hk, lg⟩ (j : Int) = false by simp [phG, g])
      have y0 : ((j : Int) != i) = false := by simp [g]
      replace PS := Lib.hid PS
      replace g := Lib.hid g
      go_quiet (fail)
      go_upto_region 11 with (fail)
      obtain ⟨ww, eww⟩ : ∃ ww, ww = W.drewN nq := ⟨_, rfl⟩
      have kk := K1.out.as (w' := ww) (by rw [eww]; rfl)
      have OO := Lib.hid (show Only b w ww by rw [eww]; exact O1.out.drewN nq)
      rw [← eww]
      replace eww := Lib.hid eww
      clear K1 O1 q0 q1 q3
      have q1 := kk.c 1 _ rfl
      obtain ⟨qc, qf⟩ := phW_at kk hi5
      try dsimp only at qc q1
      have e5 : (i : Int) < 6 := by omega
      have ew : IntKind.i64.wrap (T i + 1) = T i + 1 := IntWalk.i64_in _ ⟨by have := t0 i; omega, by have := t1 i; omega⟩
      have KK := Lib.hid kk
      clear kk
      go_wp2_with fail
      refine region_moves (fun u => u.cell? ⟨b, 1, none⟩ = some (.int .i64 (i : Int)) ∧ u.cell? ⟨b, 5 + i, none⟩ = some (.int .i64 (T i))) [(13, [(12, 13), (9, 13), (0, 13), (1, 13), (2, 13), (3, 13), (4, 13), (5, 13), (6, 13), (7, 13), (8, 13), (11, 12), (10, 11)])] [(.free, 0), (.free, 1), (.free, 2), (.free, 3), (.take, 4), (.free, 5), (.free, 6), (.free, 7), (.take, 8), (.free, 9), (.free, 10), (.free, 11), (.free, 12), (.late, 13)] _ (by kernel_rfl) (by kernel_rfl) (by kernel_rfl) (by kernel_rfl) (by decide) rfl (fun _ _ _ _ _ h => h) ?_
      simp only [List.filterMap_cons, List.filterMap_nil, List.getElem?_toArray, List.getElem?_cons_zero, List.getElem?_cons_succ, Option.map_some]
      iterate 4
        first
          | (refine mv_free ?_ (Or.inl ⟨by rfl, ?_⟩) (⟨q1, qc⟩) ?_
             rotate_left 1
             · intro u
               go_simp
               try with_reducible rfl
             simp only [Act.put, List.setIfInBounds_toArray, List.set_cons_zero, List.set_cons_succ])
          | (refine mv_free _ (Or.inr ⟨by rfl, rfl⟩) (⟨q1, qc⟩) ?_
             simp only [Act.put, List.setIfInBounds_toArray, List.set_cons_zero, List.set_cons_succ])
      iterate 1
        first
          | (refine mv_take ?_ (Or.inl ⟨by rfl, ?_⟩) (⟨q1, qc⟩) ?_
             rotate_left 1
             · intro u hu
               (try dsimp only at hu)
               go_simp
               try with_reducible rfl
             simp only [Act.put, List.setIfInBounds_toArray, List.set_cons_zero, List.set_cons_succ])
          | (refine mv_take _ (Or.inr ⟨by rfl, rfl⟩) (⟨q1, qc⟩) ?_
             simp only [Act.put, List.setIfInBounds_toArray, List.set_cons_zero, List.set_cons_succ])
      iterate 3
        first
          | (refine mv_free ?_ (Or.inl ⟨by rfl, ?_⟩) (⟨q1, qc⟩) ?_
             rotate_left 1
             · intro u
               go_simp
               try with_reducible rfl
             simp only [Act.put, List.setIfInBounds_toArray, List.set_cons_zero, List.set_cons_succ])
          | (refine mv_free _ (Or.inr ⟨by rfl, rfl⟩) (⟨q1, qc⟩) ?_
             simp only [Act.put, List.setIfInBounds_toArray, List.set_cons_zero, List.set_cons_succ])
      iterate 1
        first
          | (refine mv_take ?_ (Or.inl ⟨by rfl, ?_⟩) (⟨q1, qc⟩) ?_
             rotate_left 1
             · intro u hu
               (try dsimp only at hu)
               go_simp
               try with_reducible rfl
             simp only [Act.put, List.setIfInBounds_toArray, List.set_cons_zero, List.set_cons_succ])
          | (refine mv_take _ (Or.inr ⟨by rfl, rfl⟩) (⟨q1, qc⟩) ?_
             simp only [Act.put, List.setIfInBounds_toArray, List.set_cons_zero, List.set_cons_succ])
      iterate 4
        first
          | (refine mv_free ?_ (Or.inl ⟨by rfl, ?_⟩) (⟨q1, qc⟩) ?_
             rotate_left 1
             · intro u
               go_simp
               try with_reducible rfl
             simp only [Act.put, List.setIfInBounds_toArray, List.set_cons_zero, List.set_cons_succ])
          | (refine mv_free _ (Or.inr ⟨by rfl, rfl⟩) (⟨q1, qc⟩) ?_
             simp only [Act.put, List.setIfInBounds_toArray, List.set_cons_zero, List.set_cons_succ])
      refine mv_late (fun K hK => ?_)
      go_simp
      refine hK.out (fun _ => True) _ _ ?_
      clear hK K
      refine mv_done ?_
      obtain ⟨w5, ew5⟩ : ∃ w5, w5 = (ww.setCell ⟨b, 5 + i, none⟩ (.int .i64 (T i + 1))).drew := ⟨_, rfl⟩
      obtain ⟨k2, -⟩ := (((HB.start KK.out).set (5 + i) (.int .i64 (T i + 1)) (by simp [phW]; omega)).is (phW_up pt ⟨(i : Int), (j : Int), n, T, hv, hk, lg⟩ 1 hi5 (T i + 1))).fin (v' := w5) (by rw [ew5]; rfl) (by rw [ew5]; rfl) (by rw [ew5]; rfl) (by rw [ew5]; rfl)
      have O5 := Lib.hid (show Only b w w5 by rw [ew5]; exact (OO.out.setCell (p := ⟨b, 5 + i, none⟩) _).drew)
      rw [← ew5]
      replace ew5 := Lib.hid ew5
      clear q1 qc qf KK ew OO
      have K5 := Lib.hid k2
      obtain ⟨c0, f0⟩ := k2.one 0 rfl
      obtain ⟨c1, f1⟩ := k2.one 1 rfl
      obtain ⟨c2, f2⟩ := k2.one 2 rfl
      obtain ⟨c3, f3⟩ := k2.one 3 rfl
      obtain ⟨c4, f4⟩ := k2.one 4 rfl
      obtain ⟨c5, f5⟩ := k2.one 5 rfl
      obtain ⟨c6, f6⟩ := k2.one 6 rfl
      obtain ⟨c7, f7⟩ := k2.one 7 rfl
      obtain ⟨c8, f8⟩ := k2.one 8 rfl
      obtain ⟨c9, f9⟩ := k2.one 9 rfl
      obtain ⟨c10, f10⟩ := k2.one 10 rfl
      obtain ⟨c11, f11⟩ := k2.one 11 rfl
      obtain ⟨c12, f12⟩ := k2.one 12 rfl
      clear k2
      rcases (show (i : Int) = 0 ∨ ((i : Int) ≠ 0) by omega) with z | z
      · have z1 : ((i : Int) != 0) = false := by simp [z]
        have hz0 := Lib.hid z
        clear z
        go_wp2
        go_ret
        have eZ := phZ_is (pt := pt) (S := ⟨(i : Int), a, n, T, hv, hk, lg⟩) (k := (j : Int)) (h := h) (q := i) (n2 := (phN ⟨(i : Int), a, n, T, hv, hk, lg⟩ (j : Int))) (lg2 := lg) (hv2 := hv) (hk2 := hk) (by simp [phP, hG.out]) (by simp [hG.out]) (by rw [if_pos hz0.out]) (by simp [hz0.out]) (by simp [hG.out])
        have eP : phP pt ⟨(i : Int), a, n, T, hv, hk, lg⟩ (j : Int) = (i : Int) := by simp [phP, hG.out]
        have eR : phRz pt ⟨(i : Int), a, n, T, hv, hk, lg⟩ N (j : Int) = 1 := by unfold phRz; rw [hG.out]; exact hRN.out
        refine ⟨(show Ending.returned (.int .i64 (i : Int)) = .returned (.int .i64 (phP pt ⟨(i : Int), a, n, T, hv, hk, lg⟩ (j : Int))) from by rw [eP]), ?_, O5.out⟩
        rw [eZ, eR]
        exact K5.out
      · have z1 : ((i : Int) != 0) = true := bne_iff_ne.2 z
        have hz0 := Lib.hid z
        clear z
        rcases (show hk = false ∨ (hk = true ∧ hv < h) ∨ (hk = true ∧ h ≤ hv) by cases hk <;> simp <;> omega) with e1 | ⟨e1, e2⟩ | ⟨e1, e2⟩
        · subst e1
          obtain ⟨w8, ew8⟩ : ∃ w8, w8 = (w5.setCell ⟨b, 12, none⟩ (.bool true)).setCell ⟨b, 11, none⟩ (.int .i64 h) := ⟨_, rfl⟩
          obtain ⟨k8, -⟩ := ((((HB.start K5.out).set 12 (.bool true) (by simp [phW])).set 11 (.int .i64 h) (by simp [phW])).is (show _ = phW pt ⟨(i : Int), (j : Int), n, upd T i (T i + 1), h, true, lg⟩ 1 from rfl)).fin (v' := w8) (by rw [ew8]) (by rw [ew8]) (by rw [ew8]) (by rw [ew8])
          have O8 := Lib.hid (show Only b w w8 by rw [ew8]; exact (O5.out.setCell (p := ⟨b, 12, none⟩) _).setCell (p := ⟨b, 11, none⟩) _)
          replace ew8 := Lib.hid ew8
          have K8 := Lib.hid k8
          have r8 := k8.c 1 _ rfl
          try dsimp only at r8
          clear k8
          go_upto_region 15 with (fail)
          rw [← ew8.out]
          go_wp2
          go_ret
          have eZ := phZ_is (pt := pt) (S := ⟨(i : Int), a, n, T, hv, false, lg⟩) (k := (j : Int)) (h := h) (q := i) (n2 := (phN ⟨(i : Int), a, n, T, hv, false, lg⟩ (j : Int))) (lg2 := lg) (hv2 := h) (hk2 := true) (by simp [phP, hG.out]) (by simp [hG.out]) (by rw [if_neg hz0.out]; simp) (by have z := hz0.out; simp; try omega) (by simp [hG.out])
          have eP : phP pt ⟨(i : Int), a, n, T, hv, false, lg⟩ (j : Int) = (i : Int) := by simp [phP, hG.out]
          have eR : phRz pt ⟨(i : Int), a, n, T, hv, false, lg⟩ N (j : Int) = 1 := by unfold phRz; rw [hG.out]; exact hRN.out
          refine ⟨(show Ending.returned (.int .i64 (i : Int)) = .returned (.int .i64 (phP pt ⟨(i : Int), a, n, T, hv, false, lg⟩ (j : Int))) from by rw [eP]), ?_, O8.out⟩
          rw [eZ, eR]
          exact K8.out
        · subst e1
          obtain ⟨w8, ew8⟩ : ∃ w8, w8 = (w5.setCell ⟨b, 12, none⟩ (.bool true)).setCell ⟨b, 11, none⟩ (.int .i64 h) := ⟨_, rfl⟩
          obtain ⟨k8, -⟩ := ((((HB.start K5.out).set 12 (.bool true) (by simp [phW])).set 11 (.int .i64 h) (by simp [phW])).is (show _ = phW pt ⟨(i : Int), (j : Int), n, upd T i (T i + 1), h, true, lg⟩ 1 from rfl)).fin (v' := w8) (by rw [ew8]) (by rw [ew8]) (by rw [ew8]) (by rw [ew8])
          have O8 := Lib.hid (show Only b w w8 by rw [ew8]; exact (O5.out.setCell (p := ⟨b, 12, none⟩) _).setCell (p := ⟨b, 11, none⟩) _)
          replace ew8 := Lib.hid ew8
          have K8 := Lib.hid k8
          have r8 := k8.c 1 _ rfl
          try dsimp only at r8
          clear k8
          go_upto_region 15 with (fail)
          rw [← ew8.out]
          go_wp2
          go_ret
          have eZ := phZ_is (pt := pt) (S := ⟨(i : Int), a, n, T, hv, true, lg⟩) (k := (j : Int)) (h := h) (q := i) (n2 := (phN ⟨(i : Int), a, n, T, hv, true, lg⟩ (j : Int))) (lg2 := lg) (hv2 := h) (hk2 := true) (by simp [phP, hG.out]) (by simp [hG.out]) (by rw [if_neg hz0.out, if_neg (fun q => by have := q.2; dsimp only at this; omega)]) (by have z := hz0.out; simp; try omega) (by simp [hG.out])
          have eP : phP pt ⟨(i : Int), a, n, T, hv, true, lg⟩ (j : Int) = (i : Int) := by simp [phP, hG.out]
          have eR : phRz pt ⟨(i : Int), a, n, T, hv, true, lg⟩ N (j : Int) = 1 := by unfold phRz; rw [hG.out]; exact hRN.out
          refine ⟨(show Ending.returned (.int .i64 (i : Int)) = .returned (.int .i64 (phP pt ⟨(i : Int), a, n, T, hv, true, lg⟩ (j : Int))) from by rw [eP]), ?_, O8.out⟩
          rw [eZ, eR]
          exact K8.out
        · subst e1
          go_wp2
          go_ret
          have eZ := phZ_is (pt := pt) (S := ⟨(i : Int), a, n, T, hv, true, lg⟩) (k := (j : Int)) (h := h) (q := i) (n2 := (phN ⟨(i : Int), a, n, T, hv, true, lg⟩ (j : Int))) (lg2 := lg) (hv2 := hv) (hk2 := true) (by simp [phP, hG.out]) (by simp [hG.out]) (by rw [if_neg hz0.out, if_pos ⟨rfl, e2⟩]) (by simp) (by simp [hG.out])
          have eP : phP pt ⟨(i : Int), a, n, T, hv, true, lg⟩ (j : Int) = (i : Int) := by simp [phP, hG.out]
          have eR : phRz pt ⟨(i : Int), a, n, T, hv, true, lg⟩ N (j : Int) = 1 := by unfold phRz; rw [hG.out]; exact hRN.out
          refine ⟨(show Ending.returned (.int .i64 (i : Int)) = .returned (.int .i64 (phP pt ⟨(i : Int), a, n, T, hv, true, lg⟩ (j : Int))) from by rw [eP]), ?_, O5.out⟩
          rw [eZ, eR]
          exact K5.out
    · have hG := Lib.hid (show phG pt ⟨(i : Int), a, n, T, hv, hk, lg⟩ (j : Int) = true by
        have e := hzz.out g
        simp only [phG, ← e]
        exact decide_eq_true ⟨g, .inl g2⟩)
      have y0 : ((j : Int) != i) = true := bne_iff_ne.2 g
      rw [g2] at PS
      replace PS := Lib.hid PS
      replace g := Lib.hid g
      replace g2 := Lib.hid g2
      go_quiet ((go_at_call 48; (with_reducible exact quiet_as _ rfl (PS.out _))))
      rcases (show (i : Int) = 5 ∧ (j : Int) = 0 ∨ (i : Int) = 5 ∧ (j : Int) ≠ 0 ∨ (i : Int) ≠ 5 by omega) with ⟨y1, y2⟩ | ⟨y1, y2⟩ | y1
      · have x5 : ((i : Int) == 5) = true := by simp [y1]
        have x2 : ((j : Int) == 0) = true := by simp [y2]
        have ewl : IntKind.i64.wrap (lg + 1) = lg + 1 := IntWalk.i64_in _ ⟨by omega, by omega⟩
        replace y1 := Lib.hid y1
        replace y2 := Lib.hid y2
        have kW := K1.out
        obtain ⟨c0, f0⟩ := kW.one 0 rfl
        obtain ⟨c1, f1⟩ := kW.one 1 rfl
        obtain ⟨c2, f2⟩ := kW.one 2 rfl
        obtain ⟨c3, f3⟩ := kW.one 3 rfl
        obtain ⟨c4, f4⟩ := kW.one 4 rfl
        obtain ⟨c5, f5⟩ := kW.one 5 rfl
        obtain ⟨c6, f6⟩ := kW.one 6 rfl
        obtain ⟨c7, f7⟩ := kW.one 7 rfl
        obtain ⟨c8, f8⟩ := kW.one 8 rfl
        obtain ⟨c9, f9⟩ := kW.one 9 rfl
        obtain ⟨c10, f10⟩ := kW.one 10 rfl
        obtain ⟨c11, f11⟩ := kW.one 11 rfl
        obtain ⟨c12, f12⟩ := kW.one 12 rfl
        clear kW q0 q1 q3
        go_upto_region 11 with (fail)
        obtain ⟨ww, eww⟩ : ∃ ww, ww = ((((W.drewN nq).setCell ⟨b, 4, none⟩ (.int .i64 (lg + 1))).setCell ⟨b, 1, none⟩ (.int .i64 (j : Int))).setCell ⟨b, 3, none⟩ (.int .i64 0)) := ⟨_, rfl⟩
        obtain ⟨kk, -⟩ := (((((HB.start (K1.out.drewN nq)).set 4 (.int .i64 (lg + 1)) (by simp [phW])).set 1 (.int .i64 (j : Int)) (by simp [phW])).set 3 (.int .i64 0) (by simp [phW])).is (show _ = phW pt ⟨(j : Int), (j : Int), n, T, hv, hk, (lg + 1)⟩ 0 from rfl)).fin (v' := ww) (by rw [eww]) (by rw [eww]) (by rw [eww]) (by rw [eww])
        have OO := Lib.hid (show Only b w ww by rw [eww]; exact ((((O1.out.drewN nq).setCell (p := ⟨b, 4, none⟩) _).setCell (p := ⟨b, 1, none⟩) _).setCell (p := ⟨b, 3, none⟩) _))
        rw [← eww]
        replace eww := Lib.hid eww
        clear K1 O1 c0 f0 c1 f1 c2 f2 c3 f3 c4 f4 c5 f5 c6 f6 c7 f7 c8 f8 c9 f9 c10 f10 c11 f11 c12 f12
        have q1 := kk.c 1 _ rfl
        obtain ⟨qc, qf⟩ := phW_at kk hj5
        try dsimp only at qc q1
        have e5 : (j : Int) < 6 := by omega
        have ew : IntKind.i64.wrap (T j + 1) = T j + 1 := IntWalk.i64_in _ ⟨by have := t0 j; omega, by have := t1 j; omega⟩
        have KK := Lib.hid kk
        clear kk
        go_wp2_with fail
        refine region_moves (fun u => u.cell? ⟨b, 1, none⟩ = some (.int .i64 (j : Int)) ∧ u.cell? ⟨b, 5 + j, none⟩ = some (.int .i64 (T j))) [(13, [(12, 13), (9, 13), (0, 13), (1, 13), (2, 13), (3, 13), (4, 13), (5, 13), (6, 13), (7, 13), (8, 13), (11, 12), (10, 11)])] [(.free, 0), (.free, 1), (.free, 2), (.free, 3), (.take, 4), (.free, 5), (.free, 6), (.free, 7), (.take, 8), (.free, 9), (.free, 10), (.free, 11), (.free, 12), (.late, 13)] _ (by kernel_rfl) (by kernel_rfl) (by kernel_rfl) (by kernel_rfl) (by decide) rfl (fun _ _ _ _ _ h => h) ?_
        simp only [List.filterMap_cons, List.filterMap_nil, List.getElem?_toArray, List.getElem?_cons_zero, List.getElem?_cons_succ, Option.map_some]
        iterate 4
          first
            | (refine mv_free ?_ (Or.inl ⟨by rfl, ?_⟩) (⟨q1, qc⟩) ?_
               rotate_left 1
               · intro u
                 go_simp
                 try with_reducible rfl
               simp only [Act.put, List.setIfInBounds_toArray, List.set_cons_zero, List.set_cons_succ])
            | (refine mv_free _ (Or.inr ⟨by rfl, rfl⟩) (⟨q1, qc⟩) ?_
               simp only [Act.put, List.setIfInBounds_toArray, List.set_cons_zero, List.set_cons_succ])
        iterate 1
          first
            | (refine mv_take ?_ (Or.inl ⟨by rfl, ?_⟩) (⟨q1, qc⟩) ?_
               rotate_left 1
               · intro u hu
                 (try dsimp only at hu)
                 go_simp
                 try with_reducible rfl
               simp only [Act.put, List.setIfInBounds_toArray, List.set_cons_zero, List.set_cons_succ])
            | (refine mv_take _ (Or.inr ⟨by rfl, rfl⟩) (⟨q1, qc⟩) ?_
               simp only [Act.put, List.setIfInBounds_toArray, List.set_cons_zero, List.set_cons_succ])
        iterate 3
          first
            | (refine mv_free ?_ (Or.inl ⟨by rfl, ?_⟩) (⟨q1, qc⟩) ?_
               rotate_left 1
               · intro u
                 go_simp
                 try with_reducible rfl
               simp only [Act.put, List.setIfInBounds_toArray, List.set_cons_zero, List.set_cons_succ])
            | (refine mv_free _ (Or.inr ⟨by rfl, rfl⟩) (⟨q1, qc⟩) ?_
               simp only [Act.put, List.setIfInBounds_toArray, List.set_cons_zero, List.set_cons_succ])
        iterate 1
          first
            | (refine mv_take ?_ (Or.inl ⟨by rfl, ?_⟩) (⟨q1, qc⟩) ?_
               rotate_left 1
               · intro u hu
                 (try dsimp only at hu)
                 go_simp
                 try with_reducible rfl
               simp only [Act.put, List.setIfInBounds_toArray, List.set_cons_zero, List.set_cons_succ])
            | (refine mv_take _ (Or.inr ⟨by rfl, rfl⟩) (⟨q1, qc⟩) ?_
               simp only [Act.put, List.setIfInBounds_toArray, List.set_cons_zero, List.set_cons_succ])
        iterate 4
          first
            | (refine mv_free ?_ (Or.inl ⟨by rfl, ?_⟩) (⟨q1, qc⟩) ?_
               rotate_left 1
               · intro u
                 go_simp
                 try with_reducible rfl
               simp only [Act.put, List.setIfInBounds_toArray, List.set_cons_zero, List.set_cons_succ])
            | (refine mv_free _ (Or.inr ⟨by rfl, rfl⟩) (⟨q1, qc⟩) ?_
               simp only [Act.put, List.setIfInBounds_toArray, List.set_cons_zero, List.set_cons_succ])
        refine mv_late (fun K hK => ?_)
        go_simp
        refine hK.out (fun _ => True) _ _ ?_
        clear hK K
        refine mv_done ?_
        obtain ⟨w5, ew5⟩ : ∃ w5, w5 = (ww.setCell ⟨b, 5 + j, none⟩ (.int .i64 (T j + 1))).drew := ⟨_, rfl⟩
        obtain ⟨k2, -⟩ := (((HB.start KK.out).set (5 + j) (.int .i64 (T j + 1)) (by simp [phW]; omega)).is (phW_up pt ⟨(j : Int), (j : Int), n, T, hv, hk, (lg + 1)⟩ 0 hj5 (T j + 1))).fin (v' := w5) (by rw [ew5]; rfl) (by rw [ew5]; rfl) (by rw [ew5]; rfl) (by rw [ew5]; rfl)
        have O5 := Lib.hid (show Only b w w5 by rw [ew5]; exact (OO.out.setCell (p := ⟨b, 5 + j, none⟩) _).drew)
        rw [← ew5]
        replace ew5 := Lib.hid ew5
        clear q1 qc qf KK ew OO
        have K5 := Lib.hid k2
        obtain ⟨c0, f0⟩ := k2.one 0 rfl
        obtain ⟨c1, f1⟩ := k2.one 1 rfl
        obtain ⟨c2, f2⟩ := k2.one 2 rfl
        obtain ⟨c3, f3⟩ := k2.one 3 rfl
        obtain ⟨c4, f4⟩ := k2.one 4 rfl
        obtain ⟨c5, f5⟩ := k2.one 5 rfl
        obtain ⟨c6, f6⟩ := k2.one 6 rfl
        obtain ⟨c7, f7⟩ := k2.one 7 rfl
        obtain ⟨c8, f8⟩ := k2.one 8 rfl
        obtain ⟨c9, f9⟩ := k2.one 9 rfl
        obtain ⟨c10, f10⟩ := k2.one 10 rfl
        obtain ⟨c11, f11⟩ := k2.one 11 rfl
        obtain ⟨c12, f12⟩ := k2.one 12 rfl
        clear k2
        rcases (show (j : Int) = 0 ∨ ((j : Int) ≠ 0) by omega) with z | z
        · have z1 : ((j : Int) != 0) = false := by simp [z]
          have hz0 := Lib.hid z
          clear z
          go_wp2
          go_ret
          have eZ := phZ_is (pt := pt) (S := ⟨(i : Int), a, n, T, hv, hk, lg⟩) (k := (j : Int)) (h := h) (q := j) (n2 := 0) (lg2 := (lg + 1)) (hv2 := hv) (hk2 := hk) (by simp [phP, hG.out]) (by simp [hG.out]) (by rw [if_pos hz0.out]) (by simp [hz0.out]) (by rw [if_pos ⟨hG.out, y1.out, y2.out⟩])
          have eP : phP pt ⟨(i : Int), a, n, T, hv, hk, lg⟩ (j : Int) = (j : Int) := by simp [phP, hG.out]
          have eR : phRz pt ⟨(i : Int), a, n, T, hv, hk, lg⟩ N (j : Int) = 0 := by simp [phRz, hG.out]
          refine ⟨(show Ending.returned (.int .i64 (j : Int)) = .returned (.int .i64 (phP pt ⟨(i : Int), a, n, T, hv, hk, lg⟩ (j : Int))) from by rw [eP]), ?_, O5.out⟩
          rw [eZ, eR]
          exact K5.out
        · exact absurd y2.out z
      · have x5 : ((i : Int) == 5) = true := by simp [y1]
        have x2 : ((j : Int) == 0) = false := beq_eq_false_iff_ne.2 y2
        replace y1 := Lib.hid y1
        replace y2 := Lib.hid y2
        have kW := K1.out
        obtain ⟨c0, f0⟩ := kW.one 0 rfl
        obtain ⟨c1, f1⟩ := kW.one 1 rfl
        obtain ⟨c2, f2⟩ := kW.one 2 rfl
        obtain ⟨c3, f3⟩ := kW.one 3 rfl
        obtain ⟨c4, f4⟩ := kW.one 4 rfl
        obtain ⟨c5, f5⟩ := kW.one 5 rfl
        obtain ⟨c6, f6⟩ := kW.one 6 rfl
        obtain ⟨c7, f7⟩ := kW.one 7 rfl
        obtain ⟨c8, f8⟩ := kW.one 8 rfl
        obtain ⟨c9, f9⟩ := kW.one 9 rfl
        obtain ⟨c10, f10⟩ := kW.one 10 rfl
        obtain ⟨c11, f11⟩ := kW.one 11 rfl
        obtain ⟨c12, f12⟩ := kW.one 12 rfl
        clear kW q0 q1 q3
        go_upto_region 11 with (fail)
        obtain ⟨ww, eww⟩ : ∃ ww, ww = (((W.drewN nq).setCell ⟨b, 1, none⟩ (.int .i64 (j : Int))).setCell ⟨b, 3, none⟩ (.int .i64 0)) := ⟨_, rfl⟩
        obtain ⟨kk, -⟩ := ((((HB.start (K1.out.drewN nq)).set 1 (.int .i64 (j : Int)) (by simp [phW])).set 3 (.int .i64 0) (by simp [phW])).is (show _ = phW pt ⟨(j : Int), (j : Int), n, T, hv, hk, lg⟩ 0 from rfl)).fin (v' := ww) (by rw [eww]) (by rw [eww]) (by rw [eww]) (by rw [eww])
        have OO := Lib.hid (show Only b w ww by rw [eww]; exact (((O1.out.drewN nq).setCell (p := ⟨b, 1, none⟩) _).setCell (p := ⟨b, 3, none⟩) _))
        rw [← eww]
        replace eww := Lib.hid eww
        clear K1 O1 c0 f0 c1 f1 c2 f2 c3 f3 c4 f4 c5 f5 c6 f6 c7 f7 c8 f8 c9 f9 c10 f10 c11 f11 c12 f12
        have q1 := kk.c 1 _ rfl
        obtain ⟨qc, qf⟩ := phW_at kk hj5
        try dsimp only at qc q1
        have e5 : (j : Int) < 6 := by omega
        have ew : IntKind.i64.wrap (T j + 1) = T j + 1 := IntWalk.i64_in _ ⟨by have := t0 j; omega, by have := t1 j; omega⟩
        have KK := Lib.hid kk
        clear kk
        go_wp2_with fail
        refine region_moves (fun u => u.cell? ⟨b, 1, none⟩ = some (.int .i64 (j : Int)) ∧ u.cell? ⟨b, 5 + j, none⟩ = some (.int .i64 (T j))) [(13, [(12, 13), (9, 13), (0, 13), (1, 13), (2, 13), (3, 13), (4, 13), (5, 13), (6, 13), (7, 13), (8, 13), (11, 12), (10, 11)])] [(.free, 0), (.free, 1), (.free, 2), (.free, 3), (.take, 4), (.free, 5), (.free, 6), (.free, 7), (.take, 8), (.free, 9), (.free, 10), (.free, 11), (.free, 12), (.late, 13)] _ (by kernel_rfl) (by kernel_rfl) (by kernel_rfl) (by kernel_rfl) (by decide) rfl (fun _ _ _ _ _ h => h) ?_
        simp only [List.filterMap_cons, List.filterMap_nil, List.getElem?_toArray, List.getElem?_cons_zero, List.getElem?_cons_succ, Option.map_some]
        iterate 4
          first
            | (refine mv_free ?_ (Or.inl ⟨by rfl, ?_⟩) (⟨q1, qc⟩) ?_
               rotate_left 1
               · intro u
                 go_simp
                 try with_reducible rfl
               simp only [Act.put, List.setIfInBounds_toArray, List.set_cons_zero, List.set_cons_succ])
            | (refine mv_free _ (Or.inr ⟨by rfl, rfl⟩) (⟨q1, qc⟩) ?_
               simp only [Act.put, List.setIfInBounds_toArray, List.set_cons_zero, List.set_cons_succ])
        iterate 1
          first
            | (refine mv_take ?_ (Or.inl ⟨by rfl, ?_⟩) (⟨q1, qc⟩) ?_
               rotate_left 1
               · intro u hu
                 (try dsimp only at hu)
                 go_simp
                 try with_reducible rfl
               simp only [Act.put, List.setIfInBounds_toArray, List.set_cons_zero, List.set_cons_succ])
            | (refine mv_take _ (Or.inr ⟨by rfl, rfl⟩) (⟨q1, qc⟩) ?_
               simp only [Act.put, List.setIfInBounds_toArray, List.set_cons_zero, List.set_cons_succ])
        iterate 3
          first
            | (refine mv_free ?_ (Or.inl ⟨by rfl, ?_⟩) (⟨q1, qc⟩) ?_
               rotate_left 1
               · intro u
                 go_simp
                 try with_reducible rfl
               simp only [Act.put, List.setIfInBounds_toArray, List.set_cons_zero, List.set_cons_succ])
            | (refine mv_free _ (Or.inr ⟨by rfl, rfl⟩) (⟨q1, qc⟩) ?_
               simp only [Act.put, List.setIfInBounds_toArray, List.set_cons_zero, List.set_cons_succ])
        iterate 1
          first
            | (refine mv_take ?_ (Or.inl ⟨by rfl, ?_⟩) (⟨q1, qc⟩) ?_
               rotate_left 1
               · intro u hu
                 (try dsimp only at hu)
                 go_simp
                 try with_reducible rfl
               simp only [Act.put, List.setIfInBounds_toArray, List.set_cons_zero, List.set_cons_succ])
            | (refine mv_take _ (Or.inr ⟨by rfl, rfl⟩) (⟨q1, qc⟩) ?_
               simp only [Act.put, List.setIfInBounds_toArray, List.set_cons_zero, List.set_cons_succ])
        iterate 4
          first
            | (refine mv_free ?_ (Or.inl ⟨by rfl, ?_⟩) (⟨q1, qc⟩) ?_
               rotate_left 1
               · intro u
                 go_simp
                 try with_reducible rfl
               simp only [Act.put, List.setIfInBounds_toArray, List.set_cons_zero, List.set_cons_succ])
            | (refine mv_free _ (Or.inr ⟨by rfl, rfl⟩) (⟨q1, qc⟩) ?_
               simp only [Act.put, List.setIfInBounds_toArray, List.set_cons_zero, List.set_cons_succ])
        refine mv_late (fun K hK => ?_)
        go_simp
        refine hK.out (fun _ => True) _ _ ?_
        clear hK K
        refine mv_done ?_
        obtain ⟨w5, ew5⟩ : ∃ w5, w5 = (ww.setCell ⟨b, 5 + j, none⟩ (.int .i64 (T j + 1))).drew := ⟨_, rfl⟩
        obtain ⟨k2, -⟩ := (((HB.start KK.out).set (5 + j) (.int .i64 (T j + 1)) (by simp [phW]; omega)).is (phW_up pt ⟨(j : Int), (j : Int), n, T, hv, hk, lg⟩ 0 hj5 (T j + 1))).fin (v' := w5) (by rw [ew5]; rfl) (by rw [ew5]; rfl) (by rw [ew5]; rfl) (by rw [ew5]; rfl)
        have O5 := Lib.hid (show Only b w w5 by rw [ew5]; exact (OO.out.setCell (p := ⟨b, 5 + j, none⟩) _).drew)
        rw [← ew5]
        replace ew5 := Lib.hid ew5
        clear q1 qc qf KK ew OO
        have K5 := Lib.hid k2
        obtain ⟨c0, f0⟩ := k2.one 0 rfl
        obtain ⟨c1, f1⟩ := k2.one 1 rfl
        obtain ⟨c2, f2⟩ := k2.one 2 rfl
        obtain ⟨c3, f3⟩ := k2.one 3 rfl
        obtain ⟨c4, f4⟩ := k2.one 4 rfl
        obtain ⟨c5, f5⟩ := k2.one 5 rfl
        obtain ⟨c6, f6⟩ := k2.one 6 rfl
        obtain ⟨c7, f7⟩ := k2.one 7 rfl
        obtain ⟨c8, f8⟩ := k2.one 8 rfl
        obtain ⟨c9, f9⟩ := k2.one 9 rfl
        obtain ⟨c10, f10⟩ := k2.one 10 rfl
        obtain ⟨c11, f11⟩ := k2.one 11 rfl
        obtain ⟨c12, f12⟩ := k2.one 12 rfl
        clear k2
        rcases (show (j : Int) = 0 ∨ ((j : Int) ≠ 0) by omega) with z | z
        · have z1 : ((j : Int) != 0) = false := by simp [z]
          have hz0 := Lib.hid z
          clear z
          go_wp2
          go_ret
          have eZ := phZ_is (pt := pt) (S := ⟨(i : Int), a, n, T, hv, hk, lg⟩) (k := (j : Int)) (h := h) (q := j) (n2 := 0) (lg2 := lg) (hv2 := hv) (hk2 := hk) (by simp [phP, hG.out]) (by simp [hG.out]) (by rw [if_pos hz0.out]) (by simp [hz0.out]) (by rw [if_neg (fun q => y2.out q.2.2)])
          have eP : phP pt ⟨(i : Int), a, n, T, hv, hk, lg⟩ (j : Int) = (j : Int) := by simp [phP, hG.out]
          have eR : phRz pt ⟨(i : Int), a, n, T, hv, hk, lg⟩ N (j : Int) = 0 := by simp [phRz, hG.out]
          refine ⟨(show Ending.returned (.int .i64 (j : Int)) = .returned (.int .i64 (phP pt ⟨(i : Int), a, n, T, hv, hk, lg⟩ (j : Int))) from by rw [eP]), ?_, O5.out⟩
          rw [eZ, eR]
          exact K5.out
        · have z1 : ((j : Int) != 0) = true := bne_iff_ne.2 z
          have hz0 := Lib.hid z
          clear z
          rcases (show hk = false ∨ (hk = true ∧ hv < h) ∨ (hk = true ∧ h ≤ hv) by cases hk <;> simp <;> omega) with e1 | ⟨e1, e2⟩ | ⟨e1, e2⟩
          · subst e1
            obtain ⟨w8, ew8⟩ : ∃ w8, w8 = (w5.setCell ⟨b, 12, none⟩ (.bool true)).setCell ⟨b, 11, none⟩ (.int .i64 h) := ⟨_, rfl⟩
            obtain ⟨k8, -⟩ := ((((HB.start K5.out).set 12 (.bool true) (by simp [phW])).set 11 (.int .i64 h) (by simp [phW])).is (show _ = phW pt ⟨(j : Int), (j : Int), n, upd T j (T j + 1), h, true, lg⟩ 0 from rfl)).fin (v' := w8) (by rw [ew8]) (by rw [ew8]) (by rw [ew8]) (by rw [ew8])
            have O8 := Lib.hid (show Only b w w8 by rw [ew8]; exact (O5.out.setCell (p := ⟨b, 12, none⟩) _).setCell (p := ⟨b, 11, none⟩) _)
            replace ew8 := Lib.hid ew8
            have K8 := Lib.hid k8
            have r8 := k8.c 1 _ rfl
            try dsimp only at r8
            clear k8
            go_upto_region 15 with (fail)
            rw [← ew8.out]
            go_wp2
            go_ret
            have eZ := phZ_is (pt := pt) (S := ⟨(i : Int), a, n, T, hv, false, lg⟩) (k := (j : Int)) (h := h) (q := j) (n2 := 0) (lg2 := lg) (hv2 := h) (hk2 := true) (by simp [phP, hG.out]) (by simp [hG.out]) (by rw [if_neg hz0.out]; simp) (by have z := hz0.out; simp; try omega) (by rw [if_neg (fun q => y2.out q.2.2)])
            have eP : phP pt ⟨(i : Int), a, n, T, hv, false, lg⟩ (j : Int) = (j : Int) := by simp [phP, hG.out]
            have eR : phRz pt ⟨(i : Int), a, n, T, hv, false, lg⟩ N (j : Int) = 0 := by simp [phRz, hG.out]
            refine ⟨(show Ending.returned (.int .i64 (j : Int)) = .returned (.int .i64 (phP pt ⟨(i : Int), a, n, T, hv, false, lg⟩ (j : Int))) from by rw [eP]), ?_, O8.out⟩
            rw [eZ, eR]
            exact K8.out
          · subst e1
            obtain ⟨w8, ew8⟩ : ∃ w8, w8 = (w5.setCell ⟨b, 12, none⟩ (.bool true)).setCell ⟨b, 11, none⟩ (.int .i64 h) := ⟨_, rfl⟩
            obtain ⟨k8, -⟩ := ((((HB.start K5.out).set 12 (.bool true) (by simp [phW])).set 11 (.int .i64 h) (by simp [phW])).is (show _ = phW pt ⟨(j : Int), (j : Int), n, upd T j (T j + 1), h, true, lg⟩ 0 from rfl)).fin (v' := w8) (by rw [ew8]) (by rw [ew8]) (by rw [ew8]) (by rw [ew8])
            have O8 := Lib.hid (show Only b w w8 by rw [ew8]; exact (O5.out.setCell (p := ⟨b, 12, none⟩) _).setCell (p := ⟨b, 11, none⟩) _)
            replace ew8 := Lib.hid ew8
            have K8 := Lib.hid k8
            have r8 := k8.c 1 _ rfl
            try dsimp only at r8
            clear k8
            go_upto_region 15 with (fail)
            rw [← ew8.out]
            go_wp2
            go_ret
            have eZ := phZ_is (pt := pt) (S := ⟨(i : Int), a, n, T, hv, true, lg⟩) (k := (j : Int)) (h := h) (q := j) (n2 := 0) (lg2 := lg) (hv2 := h) (hk2 := true) (by simp [phP, hG.out]) (by simp [hG.out]) (by rw [if_neg hz0.out, if_neg (fun q => by have := q.2; dsimp only at this; omega)]) (by have z := hz0.out; simp; try omega) (by rw [if_neg (fun q => y2.out q.2.2)])
            have eP : phP pt ⟨(i : Int), a, n, T, hv, true, lg⟩ (j : Int) = (j : Int) := by simp [phP, hG.out]
            have eR : phRz pt ⟨(i : Int), a, n, T, hv, true, lg⟩ N (j : Int) = 0 := by simp [phRz, hG.out]
            refine ⟨(show Ending.returned (.int .i64 (j : Int)) = .returned (.int .i64 (phP pt ⟨(i : Int), a, n, T, hv, true, lg⟩ (j : Int))) from by rw [eP]), ?_, O8.out⟩
            rw [eZ, eR]
            exact K8.out
          · subst e1
            go_wp2
            go_ret
            have eZ := phZ_is (pt := pt) (S := ⟨(i : Int), a, n, T, hv, true, lg⟩) (k := (j : Int)) (h := h) (q := j) (n2 := 0) (lg2 := lg) (hv2 := hv) (hk2 := true) (by simp [phP, hG.out]) (by simp [hG.out]) (by rw [if_neg hz0.out, if_pos ⟨rfl, e2⟩]) (by simp) (by rw [if_neg (fun q => y2.out q.2.2)])
            have eP : phP pt ⟨(i : Int), a, n, T, hv, true, lg⟩ (j : Int) = (j : Int) := by simp [phP, hG.out]
            have eR : phRz pt ⟨(i : Int), a, n, T, hv, true, lg⟩ N (j : Int) = 0 := by simp [phRz, hG.out]
            refine ⟨(show Ending.returned (.int .i64 (j : Int)) = .returned (.int .i64 (phP pt ⟨(i : Int), a, n, T, hv, true, lg⟩ (j : Int))) from by rw [eP]), ?_, O5.out⟩
            rw [eZ, eR]
            exact K5.out
      · have x5 : ((i : Int) == 5) = false := beq_eq_false_iff_ne.2 y1
        replace y1 := Lib.hid y1
        have kW := K1.out
        obtain ⟨c0, f0⟩ := kW.one 0 rfl
        obtain ⟨c1, f1⟩ := kW.one 1 rfl
        obtain ⟨c2, f2⟩ := kW.one 2 rfl
        obtain ⟨c3, f3⟩ := kW.one 3 rfl
        obtain ⟨c4, f4⟩ := kW.one 4 rfl
        obtain ⟨c5, f5⟩ := kW.one 5 rfl
        obtain ⟨c6, f6⟩ := kW.one 6 rfl
        obtain ⟨c7, f7⟩ := kW.one 7 rfl
        obtain ⟨c8, f8⟩ := kW.one 8 rfl
        obtain ⟨c9, f9⟩ := kW.one 9 rfl
        obtain ⟨c10, f10⟩ := kW.one 10 rfl
        obtain ⟨c11, f11⟩ := kW.one 11 rfl
        obtain ⟨c12, f12⟩ := kW.one 12 rfl
        clear kW q0 q1 q3
        go_upto_region 11 with (fail)
        obtain ⟨ww, eww⟩ : ∃ ww, ww = (((W.drewN nq).setCell ⟨b, 1, none⟩ (.int .i64 (j : Int))).setCell ⟨b, 3, none⟩ (.int .i64 0)) := ⟨_, rfl⟩
        obtain ⟨kk, -⟩ := ((((HB.start (K1.out.drewN nq)).set 1 (.int .i64 (j : Int)) (by simp [phW])).set 3 (.int .i64 0) (by simp [phW])).is (show _ = phW pt ⟨(j : Int), (j : Int), n, T, hv, hk, lg⟩ 0 from rfl)).fin (v' := ww) (by rw [eww]) (by rw [eww]) (by rw [eww]) (by rw [eww])
        have OO := Lib.hid (show Only b w ww by rw [eww]; exact (((O1.out.drewN nq).setCell (p := ⟨b, 1, none⟩) _).setCell (p := ⟨b, 3, none⟩) _))
        rw [← eww]
        replace eww := Lib.hid eww
        clear K1 O1 c0 f0 c1 f1 c2 f2 c3 f3 c4 f4 c5 f5 c6 f6 c7 f7 c8 f8 c9 f9 c10 f10 c11 f11 c12 f12
        have q1 := kk.c 1 _ rfl
        obtain ⟨qc, qf⟩ := phW_at kk hj5
        try dsimp only at qc q1
        have e5 : (j : Int) < 6 := by omega
        have ew : IntKind.i64.wrap (T j + 1) = T j + 1 := IntWalk.i64_in _ ⟨by have := t0 j; omega, by have := t1 j; omega⟩
        have KK := Lib.hid kk
        clear kk
        go_wp2_with fail
        refine region_moves (fun u => u.cell? ⟨b, 1, none⟩ = some (.int .i64 (j : Int)) ∧ u.cell? ⟨b, 5 + j, none⟩ = some (.int .i64 (T j))) [(13, [(12, 13), (9, 13), (0, 13), (1, 13), (2, 13), (3, 13), (4, 13), (5, 13), (6, 13), (7, 13), (8, 13), (11, 12), (10, 11)])] [(.free, 0), (.free, 1), (.free, 2), (.free, 3), (.take, 4), (.free, 5), (.free, 6), (.free, 7), (.take, 8), (.free, 9), (.free, 10), (.free, 11), (.free, 12), (.late, 13)] _ (by kernel_rfl) (by kernel_rfl) (by kernel_rfl) (by kernel_rfl) (by decide) rfl (fun _ _ _ _ _ h => h) ?_
        simp only [List.filterMap_cons, List.filterMap_nil, List.getElem?_toArray, List.getElem?_cons_zero, List.getElem?_cons_succ, Option.map_some]
        iterate 4
          first
            | (refine mv_free ?_ (Or.inl ⟨by rfl, ?_⟩) (⟨q1, qc⟩) ?_
               rotate_left 1
               · intro u
                 go_simp
                 try with_reducible rfl
               simp only [Act.put, List.setIfInBounds_toArray, List.set_cons_zero, List.set_cons_succ])
            | (refine mv_free _ (Or.inr ⟨by rfl, rfl⟩) (⟨q1, qc⟩) ?_
               simp only [Act.put, List.setIfInBounds_toArray, List.set_cons_zero, List.set_cons_succ])
        iterate 1
          first
            | (refine mv_take ?_ (Or.inl ⟨by rfl, ?_⟩) (⟨q1, qc⟩) ?_
               rotate_left 1
               · intro u hu
                 (try dsimp only at hu)
                 go_simp
                 try with_reducible rfl
               simp only [Act.put, List.setIfInBounds_toArray, List.set_cons_zero, List.set_cons_succ])
            | (refine mv_take _ (Or.inr ⟨by rfl, rfl⟩) (⟨q1, qc⟩) ?_
               simp only [Act.put, List.setIfInBounds_toArray, List.set_cons_zero, List.set_cons_succ])
        iterate 3
          first
            | (refine mv_free ?_ (Or.inl ⟨by rfl, ?_⟩) (⟨q1, qc⟩) ?_
               rotate_left 1
               · intro u
                 go_simp
                 try with_reducible rfl
               simp only [Act.put, List.setIfInBounds_toArray, List.set_cons_zero, List.set_cons_succ])
            | (refine mv_free _ (Or.inr ⟨by rfl, rfl⟩) (⟨q1, qc⟩) ?_
               simp only [Act.put, List.setIfInBounds_toArray, List.set_cons_zero, List.set_cons_succ])
        iterate 1
          first
            | (refine mv_take ?_ (Or.inl ⟨by rfl, ?_⟩) (⟨q1, qc⟩) ?_
               rotate_left 1
               · intro u hu
                 (try dsimp only at hu)
                 go_simp
                 try with_reducible rfl
               simp only [Act.put, List.setIfInBounds_toArray, List.set_cons_zero, List.set_cons_succ])
            | (refine mv_take _ (Or.inr ⟨by rfl, rfl⟩) (⟨q1, qc⟩) ?_
               simp only [Act.put, List.setIfInBounds_toArray, List.set_cons_zero, List.set_cons_succ])
        iterate 4
          first
            | (refine mv_free ?_ (Or.inl ⟨by rfl, ?_⟩) (⟨q1, qc⟩) ?_
               rotate_left 1
               · intro u
                 go_simp
                 try with_reducible rfl
               simp only [Act.put, List.setIfInBounds_toArray, List.set_cons_zero, List.set_cons_succ])
            | (refine mv_free _ (Or.inr ⟨by rfl, rfl⟩) (⟨q1, qc⟩) ?_
               simp only [Act.put, List.setIfInBounds_toArray, List.set_cons_zero, List.set_cons_succ])
        refine mv_late (fun K hK => ?_)
        go_simp
        refine hK.out (fun _ => True) _ _ ?_
        clear hK K
        refine mv_done ?_
        obtain ⟨w5, ew5⟩ : ∃ w5, w5 = (ww.setCell ⟨b, 5 + j, none⟩ (.int .i64 (T j + 1))).drew := ⟨_, rfl⟩
        obtain ⟨k2, -⟩ := (((HB.start KK.out).set (5 + j) (.int .i64 (T j + 1)) (by simp [phW]; omega)).is (phW_up pt ⟨(j : Int), (j : Int), n, T, hv, hk, lg⟩ 0 hj5 (T j + 1))).fin (v' := w5) (by rw [ew5]; rfl) (by rw [ew5]; rfl) (by rw [ew5]; rfl) (by rw [ew5]; rfl)
        have O5 := Lib.hid (show Only b w w5 by rw [ew5]; exact (OO.out.setCell (p := ⟨b, 5 + j, none⟩) _).drew)
        rw [← ew5]
        replace ew5 := Lib.hid ew5
        clear q1 qc qf KK ew OO
        have K5 := Lib.hid k2
        obtain ⟨c0, f0⟩ := k2.one 0 rfl
        obtain ⟨c1, f1⟩ := k2.one 1 rfl
        obtain ⟨c2, f2⟩ := k2.one 2 rfl
        obtain ⟨c3, f3⟩ := k2.one 3 rfl
        obtain ⟨c4, f4⟩ := k2.one 4 rfl
        obtain ⟨c5, f5⟩ := k2.one 5 rfl
        obtain ⟨c6, f6⟩ := k2.one 6 rfl
        obtain ⟨c7, f7⟩ := k2.one 7 rfl
        obtain ⟨c8, f8⟩ := k2.one 8 rfl
        obtain ⟨c9, f9⟩ := k2.one 9 rfl
        obtain ⟨c10, f10⟩ := k2.one 10 rfl
        obtain ⟨c11, f11⟩ := k2.one 11 rfl
        obtain ⟨c12, f12⟩ := k2.one 12 rfl
        clear k2
        rcases (show (j : Int) = 0 ∨ ((j : Int) ≠ 0) by omega) with z | z
        · have z1 : ((j : Int) != 0) = false := by simp [z]
          have hz0 := Lib.hid z
          clear z
          go_wp2
          go_ret
          have eZ := phZ_is (pt := pt) (S := ⟨(i : Int), a, n, T, hv, hk, lg⟩) (k := (j : Int)) (h := h) (q := j) (n2 := 0) (lg2 := lg) (hv2 := hv) (hk2 := hk) (by simp [phP, hG.out]) (by simp [hG.out]) (by rw [if_pos hz0.out]) (by simp [hz0.out]) (by rw [if_neg (fun q => y1.out q.2.1)])
          have eP : phP pt ⟨(i : Int), a, n, T, hv, hk, lg⟩ (j : Int) = (j : Int) := by simp [phP, hG.out]
          have eR : phRz pt ⟨(i : Int), a, n, T, hv, hk, lg⟩ N (j : Int) = 0 := by simp [phRz, hG.out]
          refine ⟨(show Ending.returned (.int .i64 (j : Int)) = .returned (.int .i64 (phP pt ⟨(i : Int), a, n, T, hv, hk, lg⟩ (j : Int))) from by rw [eP]), ?_, O5.out⟩
          rw [eZ, eR]
          exact K5.out
        · have z1 : ((j : Int) != 0) = true := bne_iff_ne.2 z
          have hz0 := Lib.hid z
          clear z
          rcases (show hk = false ∨ (hk = true ∧ hv < h) ∨ (hk = true ∧ h ≤ hv) by cases hk <;> simp <;> omega) with e1 | ⟨e1, e2⟩ | ⟨e1, e2⟩
          · subst e1
            obtain ⟨w8, ew8⟩ : ∃ w8, w8 = (w5.setCell ⟨b, 12, none⟩ (.bool true)).setCell ⟨b, 11, none⟩ (.int .i64 h) := ⟨_, rfl⟩
            obtain ⟨k8, -⟩ := ((((HB.start K5.out).set 12 (.bool true) (by simp [phW])).set 11 (.int .i64 h) (by simp [phW])).is (show _ = phW pt ⟨(j : Int), (j : Int), n, upd T j (T j + 1), h, true, lg⟩ 0 from rfl)).fin (v' := w8) (by rw [ew8]) (by rw [ew8]) (by rw [ew8]) (by rw [ew8])
            have O8 := Lib.hid (show Only b w w8 by rw [ew8]; exact (O5.out.setCell (p := ⟨b, 12, none⟩) _).setCell (p := ⟨b, 11, none⟩) _)
            replace ew8 := Lib.hid ew8
            have K8 := Lib.hid k8
            have r8 := k8.c 1 _ rfl
            try dsimp only at r8
            clear k8
            go_upto_region 15 with (fail)
            rw [← ew8.out]
            go_wp2
            go_ret
            have eZ := phZ_is (pt := pt) (S := ⟨(i : Int), a, n, T, hv, false, lg⟩) (k := (j : Int)) (h := h) (q := j) (n2 := 0) (lg2 := lg) (hv2 := h) (hk2 := true) (by simp [phP, hG.out]) (by simp [hG.out]) (by rw [if_neg hz0.out]; simp) (by have z := hz0.out; simp; try omega) (by rw [if_neg (fun q => y1.out q.2.1)])
            have eP : phP pt ⟨(i : Int), a, n, T, hv, false, lg⟩ (j : Int) = (j : Int) := by simp [phP, hG.out]
            have eR : phRz pt ⟨(i : Int), a, n, T, hv, false, lg⟩ N (j : Int) = 0 := by simp [phRz, hG.out]
            refine ⟨(show Ending.returned (.int .i64 (j : Int)) = .returned (.int .i64 (phP pt ⟨(i : Int), a, n, T, hv, false, lg⟩ (j : Int))) from by rw [eP]), ?_, O8.out⟩
            rw [eZ, eR]
            exact K8.out
          · subst e1
            obtain ⟨w8, ew8⟩ : ∃ w8, w8 = (w5.setCell ⟨b, 12, none⟩ (.bool true)).setCell ⟨b, 11, none⟩ (.int .i64 h) := ⟨_, rfl⟩
            obtain ⟨k8, -⟩ := ((((HB.start K5.out).set 12 (.bool true) (by simp [phW])).set 11 (.int .i64 h) (by simp [phW])).is (show _ = phW pt ⟨(j : Int), (j : Int), n, upd T j (T j + 1), h, true, lg⟩ 0 from rfl)).fin (v' := w8) (by rw [ew8]) (by rw [ew8]) (by rw [ew8]) (by rw [ew8])
            have O8 := Lib.hid (show Only b w w8 by rw [ew8]; exact (O5.out.setCell (p := ⟨b, 12, none⟩) _).setCell (p := ⟨b, 11, none⟩) _)
            replace ew8 := Lib.hid ew8
            have K8 := Lib.hid k8
            have r8 := k8.c 1 _ rfl
            try dsimp only at r8
            clear k8
            go_upto_region 15 with (fail)
            rw [← ew8.out]
            go_wp2
            go_ret
            have eZ := phZ_is (pt := pt) (S := ⟨(i : Int), a, n, T, hv, true, lg⟩) (k := (j : Int)) (h := h) (q := j) (n2 := 0) (lg2 := lg) (hv2 := h) (hk2 := true) (by simp [phP, hG.out]) (by simp [hG.out]) (by rw [if_neg hz0.out, if_neg (fun q => by have := q.2; dsimp only at this; omega)]) (by have z := hz0.out; simp; try omega) (by rw [if_neg (fun q => y1.out q.2.1)])
            have eP : phP pt ⟨(i : Int), a, n, T, hv, true, lg⟩ (j : Int) = (j : Int) := by simp [phP, hG.out]
            have eR : phRz pt ⟨(i : Int), a, n, T, hv, true, lg⟩ N (j : Int) = 0 := by simp [phRz, hG.out]
            refine ⟨(show Ending.returned (.int .i64 (j : Int)) = .returned (.int .i64 (phP pt ⟨(i : Int), a, n, T, hv, true, lg⟩ (j : Int))) from by rw [eP]), ?_, O8.out⟩
            rw [eZ, eR]
            exact K8.out
          · subst e1
            go_wp2
            go_ret
            have eZ := phZ_is (pt := pt) (S := ⟨(i : Int), a, n, T, hv, true, lg⟩) (k := (j : Int)) (h := h) (q := j) (n2 := 0) (lg2 := lg) (hv2 := hv) (hk2 := true) (by simp [phP, hG.out]) (by simp [hG.out]) (by rw [if_neg hz0.out, if_pos ⟨rfl, e2⟩]) (by simp) (by rw [if_neg (fun q => y1.out q.2.1)])
            have eP : phP pt ⟨(i : Int), a, n, T, hv, true, lg⟩ (j : Int) = (j : Int) := by simp [phP, hG.out]
            have eR : phRz pt ⟨(i : Int), a, n, T, hv, true, lg⟩ N (j : Int) = 0 := by simp [phRz, hG.out]
            refine ⟨(show Ending.returned (.int .i64 (j : Int)) = .returned (.int .i64 (phP pt ⟨(i : Int), a, n, T, hv, true, lg⟩ (j : Int))) from by rw [eP]), ?_, O5.out⟩
            rw [eZ, eR]
            exact K5.out
    · have hG := Lib.hid (show phG pt ⟨(i : Int), a, n, T, hv, hk, lg⟩ (j : Int) = true by
        have e := hzz.out g
        simp only [phG, ← e]
        exact decide_eq_true ⟨g, .inr g3⟩)
      have y0 : ((j : Int) != i) = true := bne_iff_ne.2 g
      rw [g2] at PS
      have y3 : decide (pt ≤ 1) = true := decide_eq_true g3
      replace PS := Lib.hid PS
      replace g := Lib.hid g
      replace g2 := Lib.hid g2
      go_quiet ((go_at_call 48; (with_reducible exact quiet_as _ rfl (PS.out _))))
      rcases (show (i : Int) = 5 ∧ (j : Int) = 0 ∨ (i : Int) = 5 ∧ (j : Int) ≠ 0 ∨ (i : Int) ≠ 5 by omega) with ⟨y1, y2⟩ | ⟨y1, y2⟩ | y1
      · have x5 : ((i : Int) == 5) = true := by simp [y1]
        have x2 : ((j : Int) == 0) = true := by simp [y2]
        have ewl : IntKind.i64.wrap (lg + 1) = lg + 1 := IntWalk.i64_in _ ⟨by omega, by omega⟩
        replace y1 := Lib.hid y1
        replace y2 := Lib.hid y2
        have kW := K1.out
        obtain ⟨c0, f0⟩ := kW.one 0 rfl
        obtain ⟨c1, f1⟩ := kW.one 1 rfl
        obtain ⟨c2, f2⟩ := kW.one 2 rfl
        obtain ⟨c3, f3⟩ := kW.one 3 rfl
        obtain ⟨c4, f4⟩ := kW.one 4 rfl
        obtain ⟨c5, f5⟩ := kW.one 5 rfl
        obtain ⟨c6, f6⟩ := kW.one 6 rfl
        obtain ⟨c7, f7⟩ := kW.one 7 rfl
        obtain ⟨c8, f8⟩ := kW.one 8 rfl
        obtain ⟨c9, f9⟩ := kW.one 9 rfl
        obtain ⟨c10, f10⟩ := kW.one 10 rfl
        obtain ⟨c11, f11⟩ := kW.one 11 rfl
        obtain ⟨c12, f12⟩ := kW.one 12 rfl
        clear kW q0 q1 q3
        go_upto_region 11 with (fail)
        obtain ⟨ww, eww⟩ : ∃ ww, ww = ((((W.drewN nq).setCell ⟨b, 4, none⟩ (.int .i64 (lg + 1))).setCell ⟨b, 1, none⟩ (.int .i64 (j : Int))).setCell ⟨b, 3, none⟩ (.int .i64 0)) := ⟨_, rfl⟩
        obtain ⟨kk, -⟩ := (((((HB.start (K1.out.drewN nq)).set 4 (.int .i64 (lg + 1)) (by simp [phW])).set 1 (.int .i64 (j : Int)) (by simp [phW])).set 3 (.int .i64 0) (by simp [phW])).is (show _ = phW pt ⟨(j : Int), (j : Int), n, T, hv, hk, (lg + 1)⟩ 0 from rfl)).fin (v' := ww) (by rw [eww]) (by rw [eww]) (by rw [eww]) (by rw [eww])
        have OO := Lib.hid (show Only b w ww by rw [eww]; exact ((((O1.out.drewN nq).setCell (p := ⟨b, 4, none⟩) _).setCell (p := ⟨b, 1, none⟩) _).setCell (p := ⟨b, 3, none⟩) _))
        rw [← eww]
        replace eww := Lib.hid eww
        clear K1 O1 c0 f0 c1 f1 c2 f2 c3 f3 c4 f4 c5 f5 c6 f6 c7 f7 c8 f8 c9 f9 c10 f10 c11 f11 c12 f12
        have q1 := kk.c 1 _ rfl
        obtain ⟨qc, qf⟩ := phW_at kk hj5
        try dsimp only at qc q1
        have e5 : (j : Int) < 6 := by omega
        have ew : IntKind.i64.wrap (T j + 1) = T j + 1 := IntWalk.i64_in _ ⟨by have := t0 j; omega, by have := t1 j; omega⟩
        have KK := Lib.hid kk
        clear kk
        go_wp2_with fail
        refine region_moves (fun u => u.cell? ⟨b, 1, none⟩ = some (.int .i64 (j : Int)) ∧ u.cell? ⟨b, 5 + j, none⟩ = some (.int .i64 (T j))) [(13, [(12, 13), (9, 13), (0, 13), (1, 13), (2, 13), (3, 13), (4, 13), (5, 13), (6, 13), (7, 13), (8, 13), (11, 12), (10, 11)])] [(.free, 0), (.free, 1), (.free, 2), (.free, 3), (.take, 4), (.free, 5), (.free, 6), (.free, 7), (.take, 8), (.free, 9), (.free, 10), (.free, 11), (.free, 12), (.late, 13)] _ (by kernel_rfl) (by kernel_rfl) (by kernel_rfl) (by kernel_rfl) (by decide) rfl (fun _ _ _ _ _ h => h) ?_
        simp only [List.filterMap_cons, List.filterMap_nil, List.getElem?_toArray, List.getElem?_cons_zero, List.getElem?_cons_succ, Option.map_some]
        iterate 4
          first
            | (refine mv_free ?_ (Or.inl ⟨by rfl, ?_⟩) (⟨q1, qc⟩) ?_
               rotate_left 1
               · intro u
                 go_simp
                 try with_reducible rfl
               simp only [Act.put, List.setIfInBounds_toArray, List.set_cons_zero, List.set_cons_succ])
            | (refine mv_free _ (Or.inr ⟨by rfl, rfl⟩) (⟨q1, qc⟩) ?_
               simp only [Act.put, List.setIfInBounds_toArray, List.set_cons_zero, List.set_cons_succ])
        iterate 1
          first
            | (refine mv_take ?_ (Or.inl ⟨by rfl, ?_⟩) (⟨q1, qc⟩) ?_
               rotate_left 1
               · intro u hu
                 (try dsimp only at hu)
                 go_simp
                 try with_reducible rfl
               simp only [Act.put, List.setIfInBounds_toArray, List.set_cons_zero, List.set_cons_succ])
            | (refine mv_take _ (Or.inr ⟨by rfl, rfl⟩) (⟨q1, qc⟩) ?_
               simp only [Act.put, List.setIfInBounds_toArray, List.set_cons_zero, List.set_cons_succ])
        iterate 3
          first
            | (refine mv_free ?_ (Or.inl ⟨by rfl, ?_⟩) (⟨q1, qc⟩) ?_
               rotate_left 1
               · intro u
                 go_simp
                 try with_reducible rfl
               simp only [Act.put, List.setIfInBounds_toArray, List.set_cons_zero, List.set_cons_succ])
            | (refine mv_free _ (Or.inr ⟨by rfl, rfl⟩) (⟨q1, qc⟩) ?_
               simp only [Act.put, List.setIfInBounds_toArray, List.set_cons_zero, List.set_cons_succ])
        iterate 1
          first
            | (refine mv_take ?_ (Or.inl ⟨by rfl, ?_⟩) (⟨q1, qc⟩) ?_
               rotate_left 1
               · intro u hu
                 (try dsimp only at hu)
                 go_simp
                 try with_reducible rfl
               simp only [Act.put, List.setIfInBounds_toArray, List.set_cons_zero, List.set_cons_succ])
            | (refine mv_take _ (Or.inr ⟨by rfl, rfl⟩) (⟨q1, qc⟩) ?_
               simp only [Act.put, List.setIfInBounds_toArray, List.set_cons_zero, List.set_cons_succ])
        iterate 4
          first
            | (refine mv_free ?_ (Or.inl ⟨by rfl, ?_⟩) (⟨q1, qc⟩) ?_
               rotate_left 1
               · intro u
                 go_simp
                 try with_reducible rfl
               simp only [Act.put, List.setIfInBounds_toArray, List.set_cons_zero, List.set_cons_succ])
            | (refine mv_free _ (Or.inr ⟨by rfl, rfl⟩) (⟨q1, qc⟩) ?_
               simp only [Act.put, List.setIfInBounds_toArray, List.set_cons_zero, List.set_cons_succ])
        refine mv_late (fun K hK => ?_)
        go_simp
        refine hK.out (fun _ => True) _ _ ?_
        clear hK K
        refine mv_done ?_
        obtain ⟨w5, ew5⟩ : ∃ w5, w5 = (ww.setCell ⟨b, 5 + j, none⟩ (.int .i64 (T j + 1))).drew := ⟨_, rfl⟩
        obtain ⟨k2, -⟩ := (((HB.start KK.out).set (5 + j) (.int .i64 (T j + 1)) (by simp [phW]; omega)).is (phW_up pt ⟨(j : Int), (j : Int), n, T, hv, hk, (lg + 1)⟩ 0 hj5 (T j + 1))).fin (v' := w5) (by rw [ew5]; rfl) (by rw [ew5]; rfl) (by rw [ew5]; rfl) (by rw [ew5]; rfl)
        have O5 := Lib.hid (show Only b w w5 by rw [ew5]; exact (OO.out.setCell (p := ⟨b, 5 + j, none⟩) _).drew)
        rw [← ew5]
        replace ew5 := Lib.hid ew5
        clear q1 qc qf KK ew OO
        have K5 := Lib.hid k2
        obtain ⟨c0, f0⟩ := k2.one 0 rfl
        obtain ⟨c1, f1⟩ := k2.one 1 rfl
        obtain ⟨c2, f2⟩ := k2.one 2 rfl
        obtain ⟨c3, f3⟩ := k2.one 3 rfl
        obtain ⟨c4, f4⟩ := k2.one 4 rfl
        obtain ⟨c5, f5⟩ := k2.one 5 rfl
        obtain ⟨c6, f6⟩ := k2.one 6 rfl
        obtain ⟨c7, f7⟩ := k2.one 7 rfl
        obtain ⟨c8, f8⟩ := k2.one 8 rfl
        obtain ⟨c9, f9⟩ := k2.one 9 rfl
        obtain ⟨c10, f10⟩ := k2.one 10 rfl
        obtain ⟨c11, f11⟩ := k2.one 11 rfl
        obtain ⟨c12, f12⟩ := k2.one 12 rfl
        clear k2
        rcases (show (j : Int) = 0 ∨ ((j : Int) ≠ 0) by omega) with z | z
        · have z1 : ((j : Int) != 0) = false := by simp [z]
          have hz0 := Lib.hid z
          clear z
          go_wp2
          go_ret
          have eZ := phZ_is (pt := pt) (S := ⟨(i : Int), a, n, T, hv, hk, lg⟩) (k := (j : Int)) (h := h) (q := j) (n2 := 0) (lg2 := (lg + 1)) (hv2 := hv) (hk2 := hk) (by simp [phP, hG.out]) (by simp [hG.out]) (by rw [if_pos hz0.out]) (by simp [hz0.out]) (by rw [if_pos ⟨hG.out, y1.out, y2.out⟩])
          have eP : phP pt ⟨(i : Int), a, n, T, hv, hk, lg⟩ (j : Int) = (j : Int) := by simp [phP, hG.out]
          have eR : phRz pt ⟨(i : Int), a, n, T, hv, hk, lg⟩ N (j : Int) = 0 := by simp [phRz, hG.out]
          refine ⟨(show Ending.returned (.int .i64 (j : Int)) = .returned (.int .i64 (phP pt ⟨(i : Int), a, n, T, hv, hk, lg⟩ (j : Int))) from by rw [eP]), ?_, O5.out⟩
          rw [eZ, eR]
          exact K5.out
        · exact absurd y2.out z
      · have x5 : ((i : Int) == 5) = true := by simp [y1]
        have x2 : ((j : Int) == 0) = false := beq_eq_false_iff_ne.2 y2
        replace y1 := Lib.hid y1
        replace y2 := Lib.hid y2
        have kW := K1.out
        obtain ⟨c0, f0⟩ := kW.one 0 rfl
        obtain ⟨c1, f1⟩ := kW.one 1 rfl
        obtain ⟨c2, f2⟩ := kW.one 2 rfl
        obtain ⟨c3, f3⟩ := kW.one 3 rfl
        obtain ⟨c4, f4⟩ := kW.one 4 rfl
        obtain ⟨c5, f5⟩ := kW.one 5 rfl
        obtain ⟨c6, f6⟩ := kW.one 6 rfl
        obtain ⟨c7, f7⟩ := kW.one 7 rfl
        obtain ⟨c8, f8⟩ := kW.one 8 rfl
        obtain ⟨c9, f9⟩ := kW.one 9 rfl
        obtain ⟨c10, f10⟩ := kW.one 10 rfl
        obtain ⟨c11, f11⟩ := kW.one 11 rfl
        obtain ⟨c12, f12⟩ := kW.one 12 rfl
        clear kW q0 q1 q3
        go_upto_region 11 with (fail)
        obtain ⟨ww, eww⟩ : ∃ ww, ww = (((W.drewN nq).setCell ⟨b, 1, none⟩ (.int .i64 (j : Int))).setCell ⟨b, 3, none⟩ (.int .i64 0)) := ⟨_, rfl⟩
        obtain ⟨kk, -⟩ := ((((HB.start (K1.out.drewN nq)).set 1 (.int .i64 (j : Int)) (by simp [phW])).set 3 (.int .i64 0) (by simp [phW])).is (show _ = phW pt ⟨(j : Int), (j : Int), n, T, hv, hk, lg⟩ 0 from rfl)).fin (v' := ww) (by rw [eww]) (by rw [eww]) (by rw [eww]) (by rw [eww])
        have OO := Lib.hid (show Only b w ww by rw [eww]; exact (((O1.out.drewN nq).setCell (p := ⟨b, 1, none⟩) _).setCell (p := ⟨b, 3, none⟩) _))
        rw [← eww]
        replace eww := Lib.hid eww
        clear K1 O1 c0 f0 c1 f1 c2 f2 c3 f3 c4 f4 c5 f5 c6 f6 c7 f7 c8 f8 c9 f9 c10 f10 c11 f11 c12 f12
        have q1 := kk.c 1 _ rfl
        obtain ⟨qc, qf⟩ := phW_at kk hj5
        try dsimp only at qc q1
        have e5 : (j : Int) < 6 := by omega
        have ew : IntKind.i64.wrap (T j + 1) = T j + 1 := IntWalk.i64_in _ ⟨by have := t0 j; omega, by have := t1 j; omega⟩
        have KK := Lib.hid kk
        clear kk
        go_wp2_with fail
        refine region_moves (fun u => u.cell? ⟨b, 1, none⟩ = some (.int .i64 (j : Int)) ∧ u.cell? ⟨b, 5 + j, none⟩ = some (.int .i64 (T j))) [(13, [(12, 13), (9, 13), (0, 13), (1, 13), (2, 13), (3, 13), (4, 13), (5, 13), (6, 13), (7, 13), (8, 13), (11, 12), (10, 11)])] [(.free, 0), (.free, 1), (.free, 2), (.free, 3), (.take, 4), (.free, 5), (.free, 6), (.free, 7), (.take, 8), (.free, 9), (.free, 10), (.free, 11), (.free, 12), (.late, 13)] _ (by kernel_rfl) (by kernel_rfl) (by kernel_rfl) (by kernel_rfl) (by decide) rfl (fun _ _ _ _ _ h => h) ?_
        simp only [List.filterMap_cons, List.filterMap_nil, List.getElem?_toArray, List.getElem?_cons_zero, List.getElem?_cons_succ, Option.map_some]
        iterate 4
          first
            | (refine mv_free ?_ (Or.inl ⟨by rfl, ?_⟩) (⟨q1, qc⟩) ?_
               rotate_left 1
               · intro u
                 go_simp
                 try with_reducible rfl
               simp only [Act.put, List.setIfInBounds_toArray, List.set_cons_zero, List.set_cons_succ])
            | (refine mv_free _ (Or.inr ⟨by rfl, rfl⟩) (⟨q1, qc⟩) ?_
               simp only [Act.put, List.setIfInBounds_toArray, List.set_cons_zero, List.set_cons_succ])
        iterate 1
          first
            | (refine mv_take ?_ (Or.inl ⟨by rfl, ?_⟩) (⟨q1, qc⟩) ?_
               rotate_left 1
               · intro u hu
                 (try dsimp only at hu)
                 go_simp
                 try with_reducible rfl
               simp only [Act.put, List.setIfInBounds_toArray, List.set_cons_zero, List.set_cons_succ])
            | (refine mv_take _ (Or.inr ⟨by rfl, rfl⟩) (⟨q1, qc⟩) ?_
               simp only [Act.put, List.setIfInBounds_toArray, List.set_cons_zero, List.set_cons_succ])
        iterate 3
          first
            | (refine mv_free ?_ (Or.inl ⟨by rfl, ?_⟩) (⟨q1, qc⟩) ?_
               rotate_left 1
               · intro u
                 go_simp
                 try with_reducible rfl
               simp only [Act.put, List.setIfInBounds_toArray, List.set_cons_zero, List.set_cons_succ])
            | (refine mv_free _ (Or.inr ⟨by rfl, rfl⟩) (⟨q1, qc⟩) ?_
               simp only [Act.put, List.setIfInBounds_toArray, List.set_cons_zero, List.set_cons_succ])
        iterate 1
          first
            | (refine mv_take ?_ (Or.inl ⟨by rfl, ?_⟩) (⟨q1, qc⟩) ?_
               rotate_left 1
               · intro u hu
                 (try dsimp only at hu)
                 go_simp
                 try with_reducible rfl
               simp only [Act.put, List.setIfInBounds_toArray, List.set_cons_zero, List.set_cons_succ])
            | (refine mv_take _ (Or.inr ⟨by rfl, rfl⟩) (⟨q1, qc⟩) ?_
               simp only [Act.put, List.setIfInBounds_toArray, List.set_cons_zero, List.set_cons_succ])
        iterate 4
          first
            | (refine mv_free ?_ (Or.inl ⟨by rfl, ?_⟩) (⟨q1, qc⟩) ?_
               rotate_left 1
               · intro u
                 go_simp
                 try with_reducible rfl
               simp only [Act.put, List.setIfInBounds_toArray, List.set_cons_zero, List.set_cons_succ])
            | (refine mv_free _ (Or.inr ⟨by rfl, rfl⟩) (⟨q1, qc⟩) ?_
               simp only [Act.put, List.setIfInBounds_toArray, List.set_cons_zero, List.set_cons_succ])
        refine mv_late (fun K hK => ?_)
        go_simp
        refine hK.out (fun _ => True) _ _ ?_
        clear hK K
        refine mv_done ?_
        obtain ⟨w5, ew5⟩ : ∃ w5, w5 = (ww.setCell ⟨b, 5 + j, none⟩ (.int .i64 (T j + 1))).drew := ⟨_, rfl⟩
        obtain ⟨k2, -⟩ := (((HB.start KK.out).set (5 + j) (.int .i64 (T j + 1)) (by simp [phW]; omega)).is (phW_up pt ⟨(j : Int), (j : Int), n, T, hv, hk, lg⟩ 0 hj5 (T j + 1))).fin (v' := w5) (by rw [ew5]; rfl) (by rw [ew5]; rfl) (by rw [ew5]; rfl) (by rw [ew5]; rfl)
        have O5 := Lib.hid (show Only b w w5 by rw [ew5]; exact (OO.out.setCell (p := ⟨b, 5 + j, none⟩) _).drew)
        rw [← ew5]
        replace ew5 := Lib.hid ew5
        clear q1 qc qf KK ew OO
        have K5 := Lib.hid k2
        obtain ⟨c0, f0⟩ := k2.one 0 rfl
        obtain ⟨c1, f1⟩ := k2.one 1 rfl
        obtain ⟨c2, f2⟩ := k2.one 2 rfl
        obtain ⟨c3, f3⟩ := k2.one 3 rfl
        obtain ⟨c4, f4⟩ := k2.one 4 rfl
        obtain ⟨c5, f5⟩ := k2.one 5 rfl
        obtain ⟨c6, f6⟩ := k2.one 6 rfl
        obtain ⟨c7, f7⟩ := k2.one 7 rfl
        obtain ⟨c8, f8⟩ := k2.one 8 rfl
        obtain ⟨c9, f9⟩ := k2.one 9 rfl
        obtain ⟨c10, f10⟩ := k2.one 10 rfl
        obtain ⟨c11, f11⟩ := k2.one 11 rfl
        obtain ⟨c12, f12⟩ := k2.one 12 rfl
        clear k2
        rcases (show (j : Int) = 0 ∨ ((j : Int) ≠ 0) by omega) with z | z
        · have z1 : ((j : Int) != 0) = false := by simp [z]
          have hz0 := Lib.hid z
          clear z
          go_wp2
          go_ret
          have eZ := phZ_is (pt := pt) (S := ⟨(i : Int), a, n, T, hv, hk, lg⟩) (k := (j : Int)) (h := h) (q := j) (n2 := 0) (lg2 := lg) (hv2 := hv) (hk2 := hk) (by simp [phP, hG.out]) (by simp [hG.out]) (by rw [if_pos hz0.out]) (by simp [hz0.out]) (by rw [if_neg (fun q => y2.out q.2.2)])
          have eP : phP pt ⟨(i : Int), a, n, T, hv, hk, lg⟩ (j : Int) = (j : Int) := by simp [phP, hG.out]
          have eR : phRz pt ⟨(i : Int), a, n, T, hv, hk, lg⟩ N (j : Int) = 0 := by simp [phRz, hG.out]
          refine ⟨(show Ending.returned (.int .i64 (j : Int)) = .returned (.int .i64 (phP pt ⟨(i : Int), a, n, T, hv, hk, lg⟩ (j : Int))) from by rw [eP]), ?_, O5.out⟩
          rw [eZ, eR]
          exact K5.out
        · have z1 : ((j : Int) != 0) = true := bne_iff_ne.2 z
          have hz0 := Lib.hid z
          clear z
          rcases (show hk = false ∨ (hk = true ∧ hv < h) ∨ (hk = true ∧ h ≤ hv) by cases hk <;> simp <;> omega) with e1 | ⟨e1, e2⟩ | ⟨e1, e2⟩
          · subst e1
            obtain ⟨w8, ew8⟩ : ∃ w8, w8 = (w5.setCell ⟨b, 12, none⟩ (.bool true)).setCell ⟨b, 11, none⟩ (.int .i64 h) := ⟨_, rfl⟩
            obtain ⟨k8, -⟩ := ((((HB.start K5.out).set 12 (.bool true) (by simp [phW])).set 11 (.int .i64 h) (by simp [phW])).is (show _ = phW pt ⟨(j : Int), (j : Int), n, upd T j (T j + 1), h, true, lg⟩ 0 from rfl)).fin (v' := w8) (by rw [ew8]) (by rw [ew8]) (by rw [ew8]) (by rw [ew8])
            have O8 := Lib.hid (show Only b w w8 by rw [ew8]; exact (O5.out.setCell (p := ⟨b, 12, none⟩) _).setCell (p := ⟨b, 11, none⟩) _)
            replace ew8 := Lib.hid ew8
            have K8 := Lib.hid k8
            have r8 := k8.c 1 _ rfl
            try dsimp only at r8
            clear k8
            go_upto_region 15 with (fail)
            rw [← ew8.out]
            go_wp2
            go_ret
            have eZ := phZ_is (pt := pt) (S := ⟨(i : Int), a, n, T, hv, false, lg⟩) (k := (j : Int)) (h := h) (q := j) (n2 := 0) (lg2 := lg) (hv2 := h) (hk2 := true) (by simp [phP, hG.out]) (by simp [hG.out]) (by rw [if_neg hz0.out]; simp) (by have z := hz0.out; simp; try omega) (by rw [if_neg (fun q => y2.out q.2.2)])
            have eP : phP pt ⟨(i : Int), a, n, T, hv, false, lg⟩ (j : Int) = (j : Int) := by simp [phP, hG.out]
            have eR : phRz pt ⟨(i : Int), a, n, T, hv, false, lg⟩ N (j : Int) = 0 := by simp [phRz, hG.out]
            refine ⟨(show Ending.returned (.int .i64 (j : Int)) = .returned (.int .i64 (phP pt ⟨(i : Int), a, n, T, hv, false, lg⟩ (j : Int))) from by rw [eP]), ?_, O8.out⟩
            rw [eZ, eR]
            exact K8.out
          · subst e1
            obtain ⟨w8, ew8⟩ : ∃ w8, w8 = (w5.setCell ⟨b, 12, none⟩ (.bool true)).setCell ⟨b, 11, none⟩ (.int .i64 h) := ⟨_, rfl⟩
            obtain ⟨k8, -⟩ := ((((HB.start K5.out).set 12 (.bool true) (by simp [phW])).set 11 (.int .i64 h) (by simp [phW])).is (show _ = phW pt ⟨(j : Int), (j : Int), n, upd T j (T j + 1), h, true, lg⟩ 0 from rfl)).fin (v' := w8) (by rw [ew8]) (by rw [ew8]) (by rw [ew8]) (by rw [ew8])
            have O8 := Lib.hid (show Only b w w8 by rw [ew8]; exact (O5.out.setCell (p := ⟨b, 12, none⟩) _).setCell (p := ⟨b, 11, none⟩) _)
            replace ew8 := Lib.hid ew8
            have K8 := Lib.hid k8
            have r8 := k8.c 1 _ rfl
            try dsimp only at r8
            clear k8
            go_upto_region 15 with (fail)
            rw [← ew8.out]
            go_wp2
            go_ret
            have eZ := phZ_is (pt := pt) (S := ⟨(i : Int), a, n, T, hv, true, lg⟩) (k := (j : Int)) (h := h) (q := j) (n2 := 0) (lg2 := lg) (hv2 := h) (hk2 := true) (by simp [phP, hG.out]) (by simp [hG.out]) (by rw [if_neg hz0.out, if_neg (fun q => by have := q.2; dsimp only at this; omega)]) (by have z := hz0.out; simp; try omega) (by rw [if_neg (fun q => y2.out q.2.2)])
            have eP : phP pt ⟨(i : Int), a, n, T, hv, true, lg⟩ (j : Int) = (j : Int) := by simp [phP, hG.out]
            have eR : phRz pt ⟨(i : Int), a, n, T, hv, true, lg⟩ N (j : Int) = 0 := by simp [phRz, hG.out]
            refine ⟨(show Ending.returned (.int .i64 (j : Int)) = .returned (.int .i64 (phP pt ⟨(i : Int), a, n, T, hv, true, lg⟩ (j : Int))) from by rw [eP]), ?_, O8.out⟩
            rw [eZ, eR]
            exact K8.out
          · subst e1
            go_wp2
            go_ret
            have eZ := phZ_is (pt := pt) (S := ⟨(i : Int), a, n, T, hv, true, lg⟩) (k := (j : Int)) (h := h) (q := j) (n2 := 0) (lg2 := lg) (hv2 := hv) (hk2 := true) (by simp [phP, hG.out]) (by simp [hG.out]) (by rw [if_neg hz0.out, if_pos ⟨rfl, e2⟩]) (by simp) (by rw [if_neg (fun q => y2.out q.2.2)])
            have eP : phP pt ⟨(i : Int), a, n, T, hv, true, lg⟩ (j : Int) = (j : Int) := by simp [phP, hG.out]
            have eR : phRz pt ⟨(i : Int), a, n, T, hv, true, lg⟩ N (j : Int) = 0 := by simp [phRz, hG.out]
            refine ⟨(show Ending.returned (.int .i64 (j : Int)) = .returned (.int .i64 (phP pt ⟨(i : Int), a, n, T, hv, true, lg⟩ (j : Int))) from by rw [eP]), ?_, O5.out⟩
            rw [eZ, eR]
            exact K5.out
      · have x5 : ((i : Int) == 5) = false := beq_eq_false_iff_ne.2 y1
        replace y1 := Lib.hid y1
        have kW := K1.out
        obtain ⟨c0, f0⟩ := kW.one 0 rfl
        obtain ⟨c1, f1⟩ := kW.one 1 rfl
        obtain ⟨c2, f2⟩ := kW.one 2 rfl
        obtain ⟨c3, f3⟩ := kW.one 3 rfl
        obtain ⟨c4, f4⟩ := kW.one 4 rfl
        obtain ⟨c5, f5⟩ := kW.one 5 rfl
        obtain ⟨c6, f6⟩ := kW.one 6 rfl
        obtain ⟨c7, f7⟩ := kW.one 7 rfl
        obtain ⟨c8, f8⟩ := kW.one 8 rfl
        obtain ⟨c9, f9⟩ := kW.one 9 rfl
        obtain ⟨c10, f10⟩ := kW.one 10 rfl
        obtain ⟨c11, f11⟩ := kW.one 11 rfl
        obtain ⟨c12, f12⟩ := kW.one 12 rfl
        clear kW q0 q1 q3
        go_upto_region 11 with (fail)
        obtain ⟨ww, eww⟩ : ∃ ww, ww = (((W.drewN nq).setCell ⟨b, 1, none⟩ (.int .i64 (j : Int))).setCell ⟨b, 3, none⟩ (.int .i64 0)) := ⟨_, rfl⟩
        obtain ⟨kk, -⟩ := ((((HB.start (K1.out.drewN nq)).set 1 (.int .i64 (j : Int)) (by simp [phW])).set 3 (.int .i64 0) (by simp [phW])).is (show _ = phW pt ⟨(j : Int), (j : Int), n, T, hv, hk, lg⟩ 0 from rfl)).fin (v' := ww) (by rw [eww]) (by rw [eww]) (by rw [eww]) (by rw [eww])
        have OO := Lib.hid (show Only b w ww by rw [eww]; exact (((O1.out.drewN nq).setCell (p := ⟨b, 1, none⟩) _).setCell (p := ⟨b, 3, none⟩) _))
        rw [← eww]
        replace eww := Lib.hid eww
        clear K1 O1 c0 f0 c1 f1 c2 f2 c3 f3 c4 f4 c5 f5 c6 f6 c7 f7 c8 f8 c9 f9 c10 f10 c11 f11 c12 f12
        have q1 := kk.c 1 _ rfl
        obtain ⟨qc, qf⟩ := phW_at kk hj5
        try dsimp only at qc q1
        have e5 : (j : Int) < 6 := by omega
        have ew : IntKind.i64.wrap (T j + 1) = T j + 1 := IntWalk.i64_in _ ⟨by have := t0 j; omega, by have := t1 j; omega⟩
        have KK := Lib.hid kk
        clear kk
        go_wp2_with fail
        refine region_moves (fun u => u.cell? ⟨b, 1, none⟩ = some (.int .i64 (j : Int)) ∧ u.cell? ⟨b, 5 + j, none⟩ = some (.int .i64 (T j))) [(13, [(12, 13), (9, 13), (0, 13), (1, 13), (2, 13), (3, 13), (4, 13), (5, 13), (6, 13), (7, 13), (8, 13), (11, 12), (10, 11)])] [(.free, 0), (.free, 1), (.free, 2), (.free, 3), (.take, 4), (.free, 5), (.free, 6), (.free, 7), (.take, 8), (.free, 9), (.free, 10), (.free, 11), (.free, 12), (.late, 13)] _ (by kernel_rfl) (by kernel_rfl) (by kernel_rfl) (by kernel_rfl) (by decide) rfl (fun _ _ _ _ _ h => h) ?_
        simp only [List.filterMap_cons, List.filterMap_nil, List.getElem?_toArray, List.getElem?_cons_zero, List.getElem?_cons_succ, Option.map_some]
        iterate 4
          first
            | (refine mv_free ?_ (Or.inl ⟨by rfl, ?_⟩) (⟨q1, qc⟩) ?_
               rotate_left 1
               · intro u
                 go_simp
                 try with_reducible rfl
               simp only [Act.put, List.setIfInBounds_toArray, List.set_cons_zero, List.set_cons_succ])
            | (refine mv_free _ (Or.inr ⟨by rfl, rfl⟩) (⟨q1, qc⟩) ?_
               simp only [Act.put, List.setIfInBounds_toArray, List.set_cons_zero, List.set_cons_succ])
        iterate 1
          first
            | (refine mv_take ?_ (Or.inl ⟨by rfl, ?_⟩) (⟨q1, qc⟩) ?_
               rotate_left 1
               · intro u hu
                 (try dsimp only at hu)
                 go_simp
                 try with_reducible rfl
               simp only [Act.put, List.setIfInBounds_toArray, List.set_cons_zero, List.set_cons_succ])
            | (refine mv_take _ (Or.inr ⟨by rfl, rfl⟩) (⟨q1, qc⟩) ?_
               simp only [Act.put, List.setIfInBounds_toArray, List.set_cons_zero, List.set_cons_succ])
        iterate 3
          first
            | (refine mv_free ?_ (Or.inl ⟨by rfl, ?_⟩) (⟨q1, qc⟩) ?_
               rotate_left 1
               · intro u
                 go_simp
                 try with_reducible rfl
               simp only [Act.put, List.setIfInBounds_toArray, List.set_cons_zero, List.set_cons_succ])
            | (refine mv_free _ (Or.inr ⟨by rfl, rfl⟩) (⟨q1, qc⟩) ?_
               simp only [Act.put, List.setIfInBounds_toArray, List.set_cons_zero, List.set_cons_succ])
        iterate 1
          first
            | (refine mv_take ?_ (Or.inl ⟨by rfl, ?_⟩) (⟨q1, qc⟩) ?_
               rotate_left 1
               · intro u hu
                 (try dsimp only at hu)
                 go_simp
                 try with_reducible rfl
               simp only [Act.put, List.setIfInBounds_toArray, List.set_cons_zero, List.set_cons_succ])
            | (refine mv_take _ (Or.inr ⟨by rfl, rfl⟩) (⟨q1, qc⟩) ?_
               simp only [Act.put, List.setIfInBounds_toArray, List.set_cons_zero, List.set_cons_succ])
        iterate 4
          first
            | (refine mv_free ?_ (Or.inl ⟨by rfl, ?_⟩) (⟨q1, qc⟩) ?_
               rotate_left 1
               · intro u
                 go_simp
                 try with_reducible rfl
               simp only [Act.put, List.setIfInBounds_toArray, List.set_cons_zero, List.set_cons_succ])
            | (refine mv_free _ (Or.inr ⟨by rfl, rfl⟩) (⟨q1, qc⟩) ?_
               simp only [Act.put, List.setIfInBounds_toArray, List.set_cons_zero, List.set_cons_succ])
        refine mv_late (fun K hK => ?_)
        go_simp
        refine hK.out (fun _ => True) _ _ ?_
        clear hK K
        refine mv_done ?_
        obtain ⟨w5, ew5⟩ : ∃ w5, w5 = (ww.setCell ⟨b, 5 + j, none⟩ (.int .i64 (T j + 1))).drew := ⟨_, rfl⟩
        obtain ⟨k2, -⟩ := (((HB.start KK.out).set (5 + j) (.int .i64 (T j + 1)) (by simp [phW]; omega)).is (phW_up pt ⟨(j : Int), (j : Int), n, T, hv, hk, lg⟩ 0 hj5 (T j + 1))).fin (v' := w5) (by rw [ew5]; rfl) (by rw [ew5]; rfl) (by rw [ew5]; rfl) (by rw [ew5]; rfl)
        have O5 := Lib.hid (show Only b w w5 by rw [ew5]; exact (OO.out.setCell (p := ⟨b, 5 + j, none⟩) _).drew)
        rw [← ew5]
        replace ew5 := Lib.hid ew5
        clear q1 qc qf KK ew OO
        have K5 := Lib.hid k2
        obtain ⟨c0, f0⟩ := k2.one 0 rfl
        obtain ⟨c1, f1⟩ := k2.one 1 rfl
        obtain ⟨c2, f2⟩ := k2.one 2 rfl
        obtain ⟨c3, f3⟩ := k2.one 3 rfl
        obtain ⟨c4, f4⟩ := k2.one 4 rfl
        obtain ⟨c5, f5⟩ := k2.one 5 rfl
        obtain ⟨c6, f6⟩ := k2.one 6 rfl
        obtain ⟨c7, f7⟩ := k2.one 7 rfl
        obtain ⟨c8, f8⟩ := k2.one 8 rfl
        obtain ⟨c9, f9⟩ := k2.one 9 rfl
        obtain ⟨c10, f10⟩ := k2.one 10 rfl
        obtain ⟨c11, f11⟩ := k2.one 11 rfl
        obtain ⟨c12, f12⟩ := k2.one 12 rfl
        clear k2
        rcases (show (j : Int) = 0 ∨ ((j : Int) ≠ 0) by omega) with z | z
        · have z1 : ((j : Int) != 0) = false := by simp [z]
          have hz0 := Lib.hid z
          clear z
          go_wp2
          go_ret
          have eZ := phZ_is (pt := pt) (S := ⟨(i : Int), a, n, T, hv, hk, lg⟩) (k := (j : Int)) (h := h) (q := j) (n2 := 0) (lg2 := lg) (hv2 := hv) (hk2 := hk) (by simp [phP, hG.out]) (by simp [hG.out]) (by rw [if_pos hz0.out]) (by simp [hz0.out]) (by rw [if_neg (fun q => y1.out q.2.1)])
          have eP : phP pt ⟨(i : Int), a, n, T, hv, hk, lg⟩ (j : Int) = (j : Int) := by simp [phP, hG.out]
          have eR : phRz pt ⟨(i : Int), a, n, T, hv, hk, lg⟩ N (j : Int) = 0 := by simp [phRz, hG.out]
          refine ⟨(show Ending.returned (.int .i64 (j : Int)) = .returned (.int .i64 (phP pt ⟨(i : Int), a, n, T, hv, hk, lg⟩ (j : Int))) from by rw [eP]), ?_, O5.out⟩
          rw [eZ, eR]
          exact K5.out
        · have z1 : ((j : Int) != 0) = true := bne_iff_ne.2 z
          have hz0 := Lib.hid z
          clear z
          rcases (show hk = false ∨ (hk = true ∧ hv < h) ∨ (hk = true ∧ h ≤ hv) by cases hk <;> simp <;> omega) with e1 | ⟨e1, e2⟩ | ⟨e1, e2⟩
          · subst e1
            obtain ⟨w8, ew8⟩ : ∃ w8, w8 = (w5.setCell ⟨b, 12, none⟩ (.bool true)).setCell ⟨b, 11, none⟩ (.int .i64 h) := ⟨_, rfl⟩
            obtain ⟨k8, -⟩ := ((((HB.start K5.out).set 12 (.bool true) (by simp [phW])).set 11 (.int .i64 h) (by simp [phW])).is (show _ = phW pt ⟨(j : Int), (j : Int), n, upd T j (T j + 1), h, true, lg⟩ 0 from rfl)).fin (v' := w8) (by rw [ew8]) (by rw [ew8]) (by rw [ew8]) (by rw [ew8])
            have O8 := Lib.hid (show Only b w w8 by rw [ew8]; exact (O5.out.setCell (p := ⟨b, 12, none⟩) _).setCell (p := ⟨b, 11, none⟩) _)
            replace ew8 := Lib.hid ew8
            have K8 := Lib.hid k8
            have r8 := k8.c 1 _ rfl
            try dsimp only at r8
            clear k8
            go_upto_region 15 with (fail)
            rw [← ew8.out]
            go_wp2
            go_ret
            have eZ := phZ_is (pt := pt) (S := ⟨(i : Int), a, n, T, hv, false, lg⟩) (k := (j : Int)) (h := h) (q := j) (n2 := 0) (lg2 := lg) (hv2 := h) (hk2 := true) (by simp [phP, hG.out]) (by simp [hG.out]) (by rw [if_neg hz0.out]; simp) (by have z := hz0.out; simp; try omega) (by rw [if_neg (fun q => y1.out q.2.1)])
            have eP : phP pt ⟨(i : Int), a, n, T, hv, false, lg⟩ (j : Int) = (j : Int) := by simp [phP, hG.out]
            have eR : phRz pt ⟨(i : Int), a, n, T, hv, false, lg⟩ N (j : Int) = 0 := by simp [phRz, hG.out]
            refine ⟨(show Ending.returned (.int .i64 (j : Int)) = .returned (.int .i64 (phP pt ⟨(i : Int), a, n, T, hv, false, lg⟩ (j : Int))) from by rw [eP]), ?_, O8.out⟩
            rw [eZ, eR]
            exact K8.out
          · subst e1
            obtain ⟨w8, ew8⟩ : ∃ w8, w8 = (w5.setCell ⟨b, 12, none⟩ (.bool true)).setCell ⟨b, 11, none⟩ (.int .i64 h) := ⟨_, rfl⟩
            obtain ⟨k8, -⟩ := ((((HB.start K5.out).set 12 (.bool true) (by simp [phW])).set 11 (.int .i64 h) (by simp [phW])).is (show _ = phW pt ⟨(j : Int), (j : Int), n, upd T j (T j + 1), h, true, lg⟩ 0 from rfl)).fin (v' := w8) (by rw [ew8]) (by rw [ew8]) (by rw [ew8]) (by rw [ew8])
            have O8 := Lib.hid (show Only b w w8 by rw [ew8]; exact (O5.out.setCell (p := ⟨b, 12, none⟩) _).setCell (p := ⟨b, 11, none⟩) _)
            replace ew8 := Lib.hid ew8
            have K8 := Lib.hid k8
            have r8 := k8.c 1 _ rfl
            try dsimp only at r8
            clear k8
            go_upto_region 15 with (fail)
            rw [← ew8.out]
            go_wp2
            go_ret
            have eZ := phZ_is (pt := pt) (S := ⟨(i : Int), a, n, T, hv, true, lg⟩) (k := (j : Int)) (h := h) (q := j) (n2 := 0) (lg2 := lg) (hv2 := h) (hk2 := true) (by simp [phP, hG.out]) (by simp [hG.out]) (by rw [if_neg hz0.out, if_neg (fun q => by have := q.2; dsimp only at this; omega)]) (by have z := hz0.out; simp; try omega) (by rw [if_neg (fun q => y1.out q.2.1)])
            have eP : phP pt ⟨(i : Int), a, n, T, hv, true, lg⟩ (j : Int) = (j : Int) := by simp [phP, hG.out]
            have eR : phRz pt ⟨(i : Int), a, n, T, hv, true, lg⟩ N (j : Int) = 0 := by simp [phRz, hG.out]
            refine ⟨(show Ending.returned (.int .i64 (j : Int)) = .returned (.int .i64 (phP pt ⟨(i : Int), a, n, T, hv, true, lg⟩ (j : Int))) from by rw [eP]), ?_, O8.out⟩
            rw [eZ, eR]
            exact K8.out
          · subst e1
            go_wp2
            go_ret
            have eZ := phZ_is (pt := pt) (S := ⟨(i : Int), a, n, T, hv, true, lg⟩) (k := (j : Int)) (h := h) (q := j) (n2 := 0) (lg2 := lg) (hv2 := hv) (hk2 := true) (by simp [phP, hG.out]) (by simp [hG.out]) (by rw [if_neg hz0.out, if_pos ⟨rfl, e2⟩]) (by simp) (by rw [if_neg (fun q => y1.out q.2.1)])
            have eP : phP pt ⟨(i : Int), a, n, T, hv, true, lg⟩ (j : Int) = (j : Int) := by simp [phP, hG.out]
            have eR : phRz pt ⟨(i : Int), a, n, T, hv, true, lg⟩ N (j : Int) = 0 := by simp [phRz, hG.out]
            refine ⟨(show Ending.returned (.int .i64 (j : Int)) = .returned (.int .i64 (phP pt ⟨(i : Int), a, n, T, hv, true, lg⟩ (j : Int))) from by rw [eP]), ?_, O5.out⟩
            rw [eZ, eR]
            exact K5.out
    · have hG := Lib.hid (show phG pt ⟨(i : Int), a, n, T, hv, hk, lg⟩ (j : Int) = false by
        have e := hzz.out g
        simp only [phG, ← e]
        exact decide_eq_false (fun q => by rcases q.2 with q | q; (rw [g2] at q; cases q); omega))
      have y0 : ((j : Int) != i) = true := bne_iff_ne.2 g
      rw [g2] at PS
      have y3 : decide (pt ≤ 1) = false := decide_eq_false (by omega)
      replace PS := Lib.hid PS
      replace g := Lib.hid g
      replace g2 := Lib.hid g2
      go_quiet ((go_at_call 48; (with_reducible exact quiet_as _ rfl (PS.out _))))
      go_upto_region 11 with (fail)
      obtain ⟨ww, eww⟩ : ∃ ww, ww = W.drewN nq := ⟨_, rfl⟩
      have kk := K1.out.as (w' := ww) (by rw [eww]; rfl)
      have OO := Lib.hid (show Only b w ww by rw [eww]; exact O1.out.drewN nq)
      rw [← eww]
      replace eww := Lib.hid eww
      clear K1 O1 q0 q1 q3
      have q1 := kk.c 1 _ rfl
      obtain ⟨qc, qf⟩ := phW_at kk hi5
      try dsimp only at qc q1
      have e5 : (i : Int) < 6 := by omega
      have ew : IntKind.i64.wrap (T i + 1) = T i + 1 := IntWalk.i64_in _ ⟨by have := t0 i; omega, by have := t1 i; omega⟩
      have KK := Lib.hid kk
      clear kk
      go_wp2_with fail
      refine region_moves (fun u => u.cell? ⟨b, 1, none⟩ = some (.int .i64 (i : Int)) ∧ u.cell? ⟨b, 5 + i, none⟩ = some (.int .i64 (T i))) [(13, [(12, 13), (9, 13), (0, 13), (1, 13), (2, 13), (3, 13), (4, 13), (5, 13), (6, 13), (7, 13), (8, 13), (11, 12), (10, 11)])] [(.free, 0), (.free, 1), (.free, 2), (.free, 3), (.take, 4), (.free, 5), (.free, 6), (.free, 7), (.take, 8), (.free, 9), (.free, 10), (.free, 11), (.free, 12), (.late, 13)] _ (by kernel_rfl) (by kernel_rfl) (by kernel_rfl) (by kernel_rfl) (by decide) rfl (fun _ _ _ _ _ h => h) ?_
      simp only [List.filterMap_cons, List.filterMap_nil, List.getElem?_toArray, List.getElem?_cons_zero, List.getElem?_cons_succ, Option.map_some]
      iterate 4
        first
          | (refine mv_free ?_ (Or.inl ⟨by rfl, ?_⟩) (⟨q1, qc⟩) ?_
             rotate_left 1
             · intro u
               go_simp
               try with_reducible rfl
             simp only [Act.put, List.setIfInBounds_toArray, List.set_cons_zero, List.set_cons_succ])
          | (refine mv_free _ (Or.inr ⟨by rfl, rfl⟩) (⟨q1, qc⟩) ?_
             simp only [Act.put, List.setIfInBounds_toArray, List.set_cons_zero, List.set_cons_succ])
      iterate 1
        first
          | (refine mv_take ?_ (Or.inl ⟨by rfl, ?_⟩) (⟨q1, qc⟩) ?_
             rotate_left 1
             · intro u hu
               (try dsimp only at hu)
               go_simp
               try with_reducible rfl
             simp only [Act.put, List.setIfInBounds_toArray, List.set_cons_zero, List.set_cons_succ])
          | (refine mv_take _ (Or.inr ⟨by rfl, rfl⟩) (⟨q1, qc⟩) ?_
             simp only [Act.put, List.setIfInBounds_toArray, List.set_cons_zero, List.set_cons_succ])
      iterate 3
        first
          | (refine mv_free ?_ (Or.inl ⟨by rfl, ?_⟩) (⟨q1, qc⟩) ?_
             rotate_left 1
             · intro u
               go_simp
               try with_reducible rfl
             simp only [Act.put, List.setIfInBounds_toArray, List.set_cons_zero, List.set_cons_succ])
          | (refine mv_free _ (Or.inr ⟨by rfl, rfl⟩) (⟨q1, qc⟩) ?_
             simp only [Act.put, List.setIfInBounds_toArray, List.set_cons_zero, List.set_cons_succ])
      iterate 1
        first
          | (refine mv_take ?_ (Or.inl ⟨by rfl, ?_⟩) (⟨q1, qc⟩) ?_
             rotate_left 1
             · intro u hu
               (try dsimp only at hu)
               go_simp
               try with_reducible rfl
             simp only [Act.put, List.setIfInBounds_toArray, List.set_cons_zero, List.set_cons_succ])
          | (refine mv_take _ (Or.inr ⟨by rfl, rfl⟩) (⟨q1, qc⟩) ?_
             simp only [Act.put, List.setIfInBounds_toArray, List.set_cons_zero, List.set_cons_succ])
      iterate 4
        first
          | (refine mv_free ?_ (Or.inl ⟨by rfl, ?_⟩) (⟨q1, qc⟩) ?_
             rotate_left 1
             · intro u
               go_simp
               try with_reducible rfl
             simp only [Act.put, List.setIfInBounds_toArray, List.set_cons_zero, List.set_cons_succ])
          | (refine mv_free _ (Or.inr ⟨by rfl, rfl⟩) (⟨q1, qc⟩) ?_
             simp only [Act.put, List.setIfInBounds_toArray, List.set_cons_zero, List.set_cons_succ])
      refine mv_late (fun K hK => ?_)
      go_simp
      refine hK.out (fun _ => True) _ _ ?_
      clear hK K
      refine mv_done ?_
      obtain ⟨w5, ew5⟩ : ∃ w5, w5 = (ww.setCell ⟨b, 5 + i, none⟩ (.int .i64 (T i + 1))).drew := ⟨_, rfl⟩
      obtain ⟨k2, -⟩ := (((HB.start KK.out).set (5 + i) (.int .i64 (T i + 1)) (by simp [phW]; omega)).is (phW_up pt ⟨(i : Int), (j : Int), n, T, hv, hk, lg⟩ 1 hi5 (T i + 1))).fin (v' := w5) (by rw [ew5]; rfl) (by rw [ew5]; rfl) (by rw [ew5]; rfl) (by rw [ew5]; rfl)
      have O5 := Lib.hid (show Only b w w5 by rw [ew5]; exact (OO.out.setCell (p := ⟨b, 5 + i, none⟩) _).drew)
      rw [← ew5]
      replace ew5 := Lib.hid ew5
      clear q1 qc qf KK ew OO
      have K5 := Lib.hid k2
      obtain ⟨c0, f0⟩ := k2.one 0 rfl
      obtain ⟨c1, f1⟩ := k2.one 1 rfl
      obtain ⟨c2, f2⟩ := k2.one 2 rfl
      obtain ⟨c3, f3⟩ := k2.one 3 rfl
      obtain ⟨c4, f4⟩ := k2.one 4 rfl
      obtain ⟨c5, f5⟩ := k2.one 5 rfl
      obtain ⟨c6, f6⟩ := k2.one 6 rfl
      obtain ⟨c7, f7⟩ := k2.one 7 rfl
      obtain ⟨c8, f8⟩ := k2.one 8 rfl
      obtain ⟨c9, f9⟩ := k2.one 9 rfl
      obtain ⟨c10, f10⟩ := k2.one 10 rfl
      obtain ⟨c11, f11⟩ := k2.one 11 rfl
      obtain ⟨c12, f12⟩ := k2.one 12 rfl
      clear k2
      rcases (show (i : Int) = 0 ∨ ((i : Int) ≠ 0) by omega) with z | z
      · have z1 : ((i : Int) != 0) = false := by simp [z]
        have hz0 := Lib.hid z
        clear z
        go_wp2
        go_ret
        have eZ := phZ_is (pt := pt) (S := ⟨(i : Int), a, n, T, hv, hk, lg⟩) (k := (j : Int)) (h := h) (q := i) (n2 := (phN ⟨(i : Int), a, n, T, hv, hk, lg⟩ (j : Int))) (lg2 := lg) (hv2 := hv) (hk2 := hk) (by simp [phP, hG.out]) (by simp [hG.out]) (by rw [if_pos hz0.out]) (by simp [hz0.out]) (by simp [hG.out])
        have eP : phP pt ⟨(i : Int), a, n, T, hv, hk, lg⟩ (j : Int) = (i : Int) := by simp [phP, hG.out]
        have eR : phRz pt ⟨(i : Int), a, n, T, hv, hk, lg⟩ N (j : Int) = 1 := by unfold phRz; rw [hG.out]; exact hRN.out
        refine ⟨(show Ending.returned (.int .i64 (i : Int)) = .returned (.int .i64 (phP pt ⟨(i : Int), a, n, T, hv, hk, lg⟩ (j : Int))) from by rw [eP]), ?_, O5.out⟩
        rw [eZ, eR]
        exact K5.out
      · have z1 : ((i : Int) != 0) = true := bne_iff_ne.2 z
        have hz0 := Lib.hid z
        clear z
        rcases (show hk = false ∨ (hk = true ∧ hv < h) ∨ (hk = true ∧ h ≤ hv) by cases hk <;> simp <;> omega) with e1 | ⟨e1, e2⟩ | ⟨e1, e2⟩
        · subst e1
          obtain ⟨w8, ew8⟩ : ∃ w8, w8 = (w5.setCell ⟨b, 12, none⟩ (.bool true)).setCell ⟨b, 11, none⟩ (.int .i64 h) := ⟨_, rfl⟩
          obtain ⟨k8, -⟩ := ((((HB.start K5.out).set 12 (.bool true) (by simp [phW])).set 11 (.int .i64 h) (by simp [phW])).is (show _ = phW pt ⟨(i : Int), (j : Int), n, upd T i (T i + 1), h, true, lg⟩ 1 from rfl)).fin (v' := w8) (by rw [ew8]) (by rw [ew8]) (by rw [ew8]) (by rw [ew8])
          have O8 := Lib.hid (show Only b w w8 by rw [ew8]; exact (O5.out.setCell (p := ⟨b, 12, none⟩) _).setCell (p := ⟨b, 11, none⟩) _)
          replace ew8 := Lib.hid ew8
          have K8 := Lib.hid k8
          have r8 := k8.c 1 _ rfl
          try dsimp only at r8
          clear k8
          go_upto_region 15 with (fail)
          rw [← ew8.out]
          go_wp2
          go_ret
          have eZ := phZ_is (pt := pt) (S := ⟨(i : Int), a, n, T, hv, false, lg⟩) (k := (j : Int)) (h := h) (q := i) (n2 := (phN ⟨(i : Int), a, n, T, hv, false, lg⟩ (j : Int))) (lg2 := lg) (hv2 := h) (hk2 := true) (by simp [phP, hG.out]) (by simp [hG.out]) (by rw [if_neg hz0.out]; simp) (by have z := hz0.out; simp; try omega) (by simp [hG.out])
          have eP : phP pt ⟨(i : Int), a, n, T, hv, false, lg⟩ (j : Int) = (i : Int) := by simp [phP, hG.out]
          have eR : phRz pt ⟨(i : Int), a, n, T, hv, false, lg⟩ N (j : Int) = 1 := by unfold phRz; rw [hG.out]; exact hRN.out
          refine ⟨(show Ending.returned (.int .i64 (i : Int)) = .returned (.int .i64 (phP pt ⟨(i : Int), a, n, T, hv, false, lg⟩ (j : Int))) from by rw [eP]), ?_, O8.out⟩
          rw [eZ, eR]
          exact K8.out
        · subst e1
          obtain ⟨w8, ew8⟩ : ∃ w8, w8 = (w5.setCell ⟨b, 12, none⟩ (.bool true)).setCell ⟨b, 11, none⟩ (.int .i64 h) := ⟨_, rfl⟩
          obtain ⟨k8, -⟩ := ((((HB.start K5.out).set 12 (.bool true) (by simp [phW])).set 11 (.int .i64 h) (by simp [phW])).is (show _ = phW pt ⟨(i : Int), (j : Int), n, upd T i (T i + 1), h, true, lg⟩ 1 from rfl)).fin (v' := w8) (by rw [ew8]) (by rw [ew8]) (by rw [ew8]) (by rw [ew8])
          have O8 := Lib.hid (show Only b w w8 by rw [ew8]; exact (O5.out.setCell (p := ⟨b, 12, none⟩) _).setCell (p := ⟨b, 11, none⟩) _)
          replace ew8 := Lib.hid ew8
          have K8 := Lib.hid k8
          have r8 := k8.c 1 _ rfl
          try dsimp only at r8
          clear k8
          go_upto_region 15 with (fail)
          rw [← ew8.out]
          go_wp2
          go_ret
          have eZ := phZ_is (pt := pt) (S := ⟨(i : Int), a, n, T, hv, true, lg⟩) (k := (j : Int)) (h := h) (q := i) (n2 := (phN ⟨(i : Int), a, n, T, hv, true, lg⟩ (j : Int))) (lg2 := lg) (hv2 := h) (hk2 := true) (by simp [phP, hG.out]) (by simp [hG.out]) (by rw [if_neg hz0.out, if_neg (fun q => by have := q.2; dsimp only at this; omega)]) (by have z := hz0.out; simp; try omega) (by simp [hG.out])
          have eP : phP pt ⟨(i : Int), a, n, T, hv, true, lg⟩ (j : Int) = (i : Int) := by simp [phP, hG.out]
          have eR : phRz pt ⟨(i : Int), a, n, T, hv, true, lg⟩ N (j : Int) = 1 := by unfold phRz; rw [hG.out]; exact hRN.out
          refine ⟨(show Ending.returned (.int .i64 (i : Int)) = .returned (.int .i64 (phP pt ⟨(i : Int), a, n, T, hv, true, lg⟩ (j : Int))) from by rw [eP]), ?_, O8.out⟩
          rw [eZ, eR]
          exact K8.out
        · subst e1
          go_wp2
          go_ret
          have eZ := phZ_is (pt := pt) (S := ⟨(i : Int), a, n, T, hv, true, lg⟩) (k := (j : Int)) (h := h) (q := i) (n2 := (phN ⟨(i : Int), a, n, T, hv, true, lg⟩ (j : Int))) (lg2 := lg) (hv2 := hv) (hk2 := true) (by simp [phP, hG.out]) (by simp [hG.out]) (by rw [if_neg hz0.out, if_pos ⟨rfl, e2⟩]) (by simp) (by simp [hG.out])
          have eP : phP pt ⟨(i : Int), a, n, T, hv, true, lg⟩ (j : Int) = (i : Int) := by simp [phP, hG.out]
          have eR : phRz pt ⟨(i : Int), a, n, T, hv, true, lg⟩ N (j : Int) = 1 := by unfold phRz; rw [hG.out]; exact hRN.out
          refine ⟨(show Ending.returned (.int .i64 (i : Int)) = .returned (.int .i64 (phP pt ⟨(i : Int), a, n, T, hv, true, lg⟩ (j : Int))) from by rw [eP]), ?_, O5.out⟩
          rw [eZ, eR]
          exact K5.out
end Go.Proofs.Ytlhejkaedgelnaa
