/- The law UnitOrder; walked. -/
import Derived.Test.YtfejdbmamaggpaaDoorUnit9
import Derived.Deep.CutRange
namespace Go.Proofs.YtfejdbmamaggpaaDoor
open Go.ChangeShapes Go.WideShapes Go.ChangeAt Go.RowKit
set_option linter.unusedVariables false
set_option linter.unusedSimpArgs false
theorem rk_of {n u : Int} (h : ptB n u = true) : rkV u = uKd u := by
  unfold ptB at h
  rw [Bool.and_eq_true] at h
  obtain ⟨k, rfl, hk⟩ := unB_k h.1
  rw [rkV_is hk]
  exact (if_pos h.1).symm
set_option maxRecDepth 100000 in
set_option maxHeartbeats 16000000 in
theorem law_UnitOrder (n u m v x : Int) (w : World) (ht : Pw10 w) : Calls Tryd.prog 7 #[.agg #[.int .i64 n, .int .i64 u], .agg #[.int .i64 m, .int .i64 v], .int .i64 x] w fun e w' => e = .returned (.bool true) ∧ Below w.heap.size w w' := by
  have LV := Lib.hid (fun y (k : Below w.heap.size w y) => lives37 y (ht.bel k))
  obtain ⟨V, eV, hbV, HC⟩ := cp_box w n u m v
  have HW := Lib.hid (fun y (k : Below V.heap.size V y) => (hbV.trans (k.mono hbV.size) : Below w.heap.size w y))
  obtain ⟨B, eB⟩ : ∃ B, w.heap.size = B := ⟨_, rfl⟩
  rw [eB] at HC hbV
  replace HC := Lib.hid HC
  replace eV := Lib.hid eV
  have P1 := fun y => rparts n u y
  have P2 := fun y => rparts m v y
  have CM := fun y => ucompare n u m v y
  have K1 := Lib.hid (fun y => rkind u y)
  have K2 := Lib.hid (fun y => rkind v y)
  have T1 := fun y => uto n u x y
  have T2 := fun y => uto m u x y
  have RK1 := Lib.hid (fun (h : ptB n u = true) => rk_of h)
  have RK2 := Lib.hid (fun (h : ptB m v = true) => rk_of h)
  have hB := Lib.hid (show cuB n u m v = (ptB n u && ptB m v && (uKd u == uKd v)) from rfl)
  have hV := Lib.hid (show cuV n u m v = if cuB n u m v = true then ccV (ptV n u) (ptV m v) else 0 from rfl)
  have MO1 := Lib.hid (fun (h1 : toB n u x = true) (h2 : toB m u x = true) => to_mono (n := n) (m := m) h1 h2)
  have MO2 := Lib.hid (fun (h1 : toB n u x = true) (h2 : toB m u x = true) => to_mono (n := m) (m := n) h2 h1)
  have EQQ := Lib.hid (fun (h : n = m) => show toV n u x = toV m u x by rw [h])
  obtain ⟨b1, e1⟩ : ∃ z, ptB n u = z := ⟨_, rfl⟩
  obtain ⟨b2, e2⟩ : ∃ z, ptB m v = z := ⟨_, rfl⟩
  obtain ⟨x1, e3⟩ : ∃ z, ptV n u = z := ⟨_, rfl⟩
  obtain ⟨x2, e4⟩ : ∃ z, ptV m v = z := ⟨_, rfl⟩
  obtain ⟨y1, e5⟩ : ∃ z, uKd u = z := ⟨_, rfl⟩
  obtain ⟨y2, e6⟩ : ∃ z, uKd v = z := ⟨_, rfl⟩
  obtain ⟨R, eR⟩ : ∃ R, cuV n u m v = R := ⟨_, rfl⟩
  obtain ⟨RB, eRB⟩ : ∃ R, cuB n u m v = R := ⟨_, rfl⟩
  unfold toQ at T1 T2
  obtain ⟨tb1, e7⟩ : ∃ z, toB n u x = z := ⟨_, rfl⟩
  obtain ⟨tb2, e8⟩ : ∃ z, toB m u x = z := ⟨_, rfl⟩
  obtain ⟨tv1, e9⟩ : ∃ z, toV n u x = z := ⟨_, rfl⟩
  obtain ⟨tv2, e10⟩ : ∃ z, toV m u x = z := ⟨_, rfl⟩
  rw [eRB, e1, e2, e5, e6] at hB
  rw [eRB, eR, e3, e4] at hV
  rw [eR, eRB] at CM
  rw [e1, e3] at P1
  rw [e2, e4] at P2
  rw [e1, e5] at RK1
  rw [e2, e6] at RK2
  rw [e7, e9] at T1
  rw [e8, e10] at T2
  rw [e7, e8, e9, e10] at MO1 MO2
  rw [e9, e10] at EQQ
  clear e1 e2 e3 e4 e5 e6 e7 e8 e9 e10 eR eRB hbV ht
  replace P1 := Lib.hid P1
  replace P2 := Lib.hid P2
  replace CM := Lib.hid CM
  replace T1 := Lib.hid T1
  replace T2 := Lib.hid T2
  have h0 := Lib.hid (Below.refl V.heap.size V)
  obtain ⟨c0, c1, c2, c3⟩ := HC.out V h0.out
  go_enter Tryd.func7, Tryd.ntmps7
  go_upto_region 1 with (fail)
  try rw [eB]
  rw [← eV.out]
  go_wp2_with fail
  refine (CM.out V).mono ?_
  rintro e u1 ⟨rfl, hb⟩
  have k1 := Lib.hid (show Below V.heap.size V u1 from hb)
  clear hb c0 c1 c2 c3
  obtain ⟨c0, c1, c2, c3⟩ := HC.out u1 k1.out
  go_wp2_with fail
  refine (P1.out u1).mono ?_
  rintro e u2 ⟨rfl, hb⟩
  have k2 := Lib.hid (show Below V.heap.size V u2 from k1.out.trans (hb.mono k1.out.size))
  clear hb c0 c1 c2 c3
  obtain ⟨c0, c1, c2, c3⟩ := HC.out u2 k2.out
  go_wp2_with fail
  refine (P2.out u2).mono ?_
  rintro e u3 ⟨rfl, hb⟩
  have k3 := Lib.hid (show Below V.heap.size V u3 from k2.out.trans (hb.mono k2.out.size))
  clear hb c0 c1 c2 c3 k1 k2 CM P1 P2
  obtain ⟨c0, c1, c2, c3⟩ := HC.out u3 k3.out
  go_upto_region 5 with (fail)
  go_cut [14] from 15 (fun s y => s = .bool RB ∧ Hid (Below V.heap.size V y))
  case first =>
    clear T1 T2 MO1 MO2 EQQ LV
    have kd := Lib.hid (show Below V.heap.size V u3.drew from k3.out.drew)
    cases b1
    · obtain rfl : RB = false := by rw [hB.out]; rfl
      refine region_moves (fun y => y.cell? ⟨B, 1, none⟩ = some (.int .i64 u) ∧ y.cell? ⟨B + 1, 1, none⟩ = some (.int .i64 v)) [] [(.free, 0), (.free, 1), (.free, 2), (.free, 3), (.free, 4), (.free, 5), (.take, 6), (.free, 8), (.take, 9), (.step, 7), (.step, 10), (.free, 11), (.free, 12), (.free, 13)] _ (by kernel_rfl) (by kernel_rfl) (by kernel_rfl) (by kernel_rfl) (by decide) rfl (fun _ _ _ _ _ h => h) ?_
      simp only [List.filterMap_cons, List.filterMap_nil, List.getElem?_toArray, List.getElem?_cons_zero, List.getElem?_cons_succ, Option.map_some]
      iterate 6
        first
          | (refine mv_free ?_ (Or.inl ⟨by rfl, ?_⟩) (⟨c1, c3⟩) ?_
             rotate_left 1
             · intro u
               go_simp
               try simp only [d1]
               try simp only [d2]
               try simp only [d3]
               try simp only [d1]
               try simp only [d2]
               try simp only [d3]
               try with_reducible rfl
             simp only [Act.put, List.setIfInBounds_toArray, List.set_cons_zero, List.set_cons_succ])
          | (refine mv_free _ (Or.inr ⟨by rfl, rfl⟩) (⟨c1, c3⟩) ?_
             simp only [Act.put, List.setIfInBounds_toArray, List.set_cons_zero, List.set_cons_succ])
      iterate 1
        first
          | (refine mv_take ?_ (Or.inl ⟨by rfl, ?_⟩) (⟨c1, c3⟩) ?_
             rotate_left 1
             · intro u hu
               (try dsimp only at hu)
               go_simp
               try with_reducible rfl
             simp only [Act.put, List.setIfInBounds_toArray, List.set_cons_zero, List.set_cons_succ])
          | (refine mv_take _ (Or.inr ⟨by rfl, rfl⟩) (⟨c1, c3⟩) ?_
             simp only [Act.put, List.setIfInBounds_toArray, List.set_cons_zero, List.set_cons_succ])
      iterate 1
        first
          | (refine mv_free ?_ (Or.inl ⟨by rfl, ?_⟩) (⟨c1, c3⟩) ?_
             rotate_left 1
             · intro u
               go_simp
               try simp only [d1]
               try simp only [d2]
               try simp only [d3]
               try simp only [d1]
               try simp only [d2]
               try simp only [d3]
               try with_reducible rfl
             simp only [Act.put, List.setIfInBounds_toArray, List.set_cons_zero, List.set_cons_succ])
          | (refine mv_free _ (Or.inr ⟨by rfl, rfl⟩) (⟨c1, c3⟩) ?_
             simp only [Act.put, List.setIfInBounds_toArray, List.set_cons_zero, List.set_cons_succ])
      iterate 1
        first
          | (refine mv_take ?_ (Or.inl ⟨by rfl, ?_⟩) (⟨c1, c3⟩) ?_
             rotate_left 1
             · intro u hu
               (try dsimp only at hu)
               go_simp
               try with_reducible rfl
             simp only [Act.put, List.setIfInBounds_toArray, List.set_cons_zero, List.set_cons_succ])
          | (refine mv_take _ (Or.inr ⟨by rfl, rfl⟩) (⟨c1, c3⟩) ?_
             simp only [Act.put, List.setIfInBounds_toArray, List.set_cons_zero, List.set_cons_succ])
      refine mv_step (fun K hK => ?_)
      go_simp
      refine hK.out _ _ _ (fun y hy => hy) (⟨c1, c3⟩) ?_
      clear hK K
      refine mv_step (fun K hK => ?_)
      go_simp
      refine hK.out _ _ _ (fun y hy => hy) (⟨c1, c3⟩) ?_
      clear hK K
      iterate 3
        first
          | (refine mv_free ?_ (Or.inl ⟨by rfl, ?_⟩) (⟨c1, c3⟩) ?_
             rotate_left 1
             · intro u
               go_simp
               try simp only [d1]
               try simp only [d2]
               try simp only [d3]
               try simp only [d1]
               try simp only [d2]
               try simp only [d3]
               try with_reducible rfl
             simp only [Act.put, List.setIfInBounds_toArray, List.set_cons_zero, List.set_cons_succ])
          | (refine mv_free _ (Or.inr ⟨by rfl, rfl⟩) (⟨c1, c3⟩) ?_
             simp only [Act.put, List.setIfInBounds_toArray, List.set_cons_zero, List.set_cons_succ])
      refine mv_done ?_
      go_wp2_with fail
      go_meet
      case rel => exact ⟨rfl, kd⟩
    · cases b2
      · obtain rfl : RB = false := by rw [hB.out]; rfl
        refine region_moves (fun y => y.cell? ⟨B, 1, none⟩ = some (.int .i64 u) ∧ y.cell? ⟨B + 1, 1, none⟩ = some (.int .i64 v)) [] [(.free, 0), (.free, 1), (.free, 2), (.free, 3), (.free, 4), (.free, 5), (.take, 6), (.free, 8), (.take, 9), (.step, 7), (.step, 10), (.free, 11), (.free, 12), (.free, 13)] _ (by kernel_rfl) (by kernel_rfl) (by kernel_rfl) (by kernel_rfl) (by decide) rfl (fun _ _ _ _ _ h => h) ?_
        simp only [List.filterMap_cons, List.filterMap_nil, List.getElem?_toArray, List.getElem?_cons_zero, List.getElem?_cons_succ, Option.map_some]
        iterate 6
          first
            | (refine mv_free ?_ (Or.inl ⟨by rfl, ?_⟩) (⟨c1, c3⟩) ?_
               rotate_left 1
               · intro u
                 go_simp
                 try simp only [d1]
                 try simp only [d2]
                 try simp only [d3]
                 try simp only [d1]
                 try simp only [d2]
                 try simp only [d3]
                 try with_reducible rfl
               simp only [Act.put, List.setIfInBounds_toArray, List.set_cons_zero, List.set_cons_succ])
            | (refine mv_free _ (Or.inr ⟨by rfl, rfl⟩) (⟨c1, c3⟩) ?_
               simp only [Act.put, List.setIfInBounds_toArray, List.set_cons_zero, List.set_cons_succ])
        iterate 1
          first
            | (refine mv_take ?_ (Or.inl ⟨by rfl, ?_⟩) (⟨c1, c3⟩) ?_
               rotate_left 1
               · intro u hu
                 (try dsimp only at hu)
                 go_simp
                 try with_reducible rfl
               simp only [Act.put, List.setIfInBounds_toArray, List.set_cons_zero, List.set_cons_succ])
            | (refine mv_take _ (Or.inr ⟨by rfl, rfl⟩) (⟨c1, c3⟩) ?_
               simp only [Act.put, List.setIfInBounds_toArray, List.set_cons_zero, List.set_cons_succ])
        iterate 1
          first
            | (refine mv_free ?_ (Or.inl ⟨by rfl, ?_⟩) (⟨c1, c3⟩) ?_
               rotate_left 1
               · intro u
                 go_simp
                 try simp only [d1]
                 try simp only [d2]
                 try simp only [d3]
                 try simp only [d1]
                 try simp only [d2]
                 try simp only [d3]
                 try with_reducible rfl
               simp only [Act.put, List.setIfInBounds_toArray, List.set_cons_zero, List.set_cons_succ])
            | (refine mv_free _ (Or.inr ⟨by rfl, rfl⟩) (⟨c1, c3⟩) ?_
               simp only [Act.put, List.setIfInBounds_toArray, List.set_cons_zero, List.set_cons_succ])
        iterate 1
          first
            | (refine mv_take ?_ (Or.inl ⟨by rfl, ?_⟩) (⟨c1, c3⟩) ?_
               rotate_left 1
               · intro u hu
                 (try dsimp only at hu)
                 go_simp
                 try with_reducible rfl
               simp only [Act.put, List.setIfInBounds_toArray, List.set_cons_zero, List.set_cons_succ])
            | (refine mv_take _ (Or.inr ⟨by rfl, rfl⟩) (⟨c1, c3⟩) ?_
               simp only [Act.put, List.setIfInBounds_toArray, List.set_cons_zero, List.set_cons_succ])
        refine mv_step (fun K hK => ?_)
        go_simp
        refine hK.out _ _ _ (fun y hy => hy) (⟨c1, c3⟩) ?_
        clear hK K
        refine mv_step (fun K hK => ?_)
        go_simp
        refine hK.out _ _ _ (fun y hy => hy) (⟨c1, c3⟩) ?_
        clear hK K
        iterate 3
          first
            | (refine mv_free ?_ (Or.inl ⟨by rfl, ?_⟩) (⟨c1, c3⟩) ?_
               rotate_left 1
               · intro u
                 go_simp
                 try simp only [d1]
                 try simp only [d2]
                 try simp only [d3]
                 try simp only [d1]
                 try simp only [d2]
                 try simp only [d3]
                 try with_reducible rfl
               simp only [Act.put, List.setIfInBounds_toArray, List.set_cons_zero, List.set_cons_succ])
            | (refine mv_free _ (Or.inr ⟨by rfl, rfl⟩) (⟨c1, c3⟩) ?_
               simp only [Act.put, List.setIfInBounds_toArray, List.set_cons_zero, List.set_cons_succ])
        refine mv_done ?_
        go_wp2_with fail
        go_meet
        case rel => exact ⟨rfl, kd⟩
      · have hRB : RB = (y1 == y2) := by rw [hB.out]; simp
        subst hRB
        replace K1 := K1.out
        replace K2 := K2.out
        rw [RK1.out rfl] at K1
        rw [RK2.out rfl] at K2
        replace K1 := Lib.hid K1
        replace K2 := Lib.hid K2
        refine region_moves (fun y => y.cell? ⟨B, 1, none⟩ = some (.int .i64 u) ∧ y.cell? ⟨B + 1, 1, none⟩ = some (.int .i64 v)) [] [(.free, 0), (.free, 1), (.free, 2), (.free, 3), (.free, 4), (.free, 5), (.take, 6), (.free, 8), (.take, 9), (.step, 7), (.step, 10), (.free, 11), (.free, 12), (.free, 13)] _ (by kernel_rfl) (by kernel_rfl) (by kernel_rfl) (by kernel_rfl) (by decide) rfl (fun _ _ _ _ _ h => h) ?_
        simp only [List.filterMap_cons, List.filterMap_nil, List.getElem?_toArray, List.getElem?_cons_zero, List.getElem?_cons_succ, Option.map_some]
        iterate 6
          first
            | (refine mv_free ?_ (Or.inl ⟨by rfl, ?_⟩) (⟨c1, c3⟩) ?_
               rotate_left 1
               · intro u
                 go_simp
                 try simp only [d1]
                 try simp only [d2]
                 try simp only [d3]
                 try simp only [d1]
                 try simp only [d2]
                 try simp only [d3]
                 try with_reducible rfl
               simp only [Act.put, List.setIfInBounds_toArray, List.set_cons_zero, List.set_cons_succ])
            | (refine mv_free _ (Or.inr ⟨by rfl, rfl⟩) (⟨c1, c3⟩) ?_
               simp only [Act.put, List.setIfInBounds_toArray, List.set_cons_zero, List.set_cons_succ])
        iterate 1
          first
            | (refine mv_take ?_ (Or.inl ⟨by rfl, ?_⟩) (⟨c1, c3⟩) ?_
               rotate_left 1
               · intro u hu
                 (try dsimp only at hu)
                 go_simp
                 try with_reducible rfl
               simp only [Act.put, List.setIfInBounds_toArray, List.set_cons_zero, List.set_cons_succ])
            | (refine mv_take _ (Or.inr ⟨by rfl, rfl⟩) (⟨c1, c3⟩) ?_
               simp only [Act.put, List.setIfInBounds_toArray, List.set_cons_zero, List.set_cons_succ])
        iterate 1
          first
            | (refine mv_free ?_ (Or.inl ⟨by rfl, ?_⟩) (⟨c1, c3⟩) ?_
               rotate_left 1
               · intro u
                 go_simp
                 try simp only [d1]
                 try simp only [d2]
                 try simp only [d3]
                 try simp only [d1]
                 try simp only [d2]
                 try simp only [d3]
                 try with_reducible rfl
               simp only [Act.put, List.setIfInBounds_toArray, List.set_cons_zero, List.set_cons_succ])
            | (refine mv_free _ (Or.inr ⟨by rfl, rfl⟩) (⟨c1, c3⟩) ?_
               simp only [Act.put, List.setIfInBounds_toArray, List.set_cons_zero, List.set_cons_succ])
        iterate 1
          first
            | (refine mv_take ?_ (Or.inl ⟨by rfl, ?_⟩) (⟨c1, c3⟩) ?_
               rotate_left 1
               · intro u hu
                 (try dsimp only at hu)
                 go_simp
                 try with_reducible rfl
               simp only [Act.put, List.setIfInBounds_toArray, List.set_cons_zero, List.set_cons_succ])
            | (refine mv_take _ (Or.inr ⟨by rfl, rfl⟩) (⟨c1, c3⟩) ?_
               simp only [Act.put, List.setIfInBounds_toArray, List.set_cons_zero, List.set_cons_succ])
        refine mv_step (fun K hK => ?_)
        go_simp
        refine (K1.out _).mono ?_
        rintro e u4 ⟨rfl, rfl⟩
        go_wp2_with fail
        refine hK.out _ _ _ (fun y hy => hy) (⟨c1, c3⟩) ?_
        clear hK K
        refine mv_step (fun K hK => ?_)
        go_simp
        refine (K2.out _).mono ?_
        rintro e u4 ⟨rfl, rfl⟩
        go_wp2_with fail
        refine hK.out _ _ _ (fun y hy => hy) (⟨c1, c3⟩) ?_
        clear hK K
        iterate 3
          first
            | (refine mv_free ?_ (Or.inl ⟨by rfl, ?_⟩) (⟨c1, c3⟩) ?_
               rotate_left 1
               · intro u
                 go_simp
                 try simp only [d1]
                 try simp only [d2]
                 try simp only [d3]
                 try simp only [d1]
                 try simp only [d2]
                 try simp only [d3]
                 try with_reducible rfl
               simp only [Act.put, List.setIfInBounds_toArray, List.set_cons_zero, List.set_cons_succ])
            | (refine mv_free _ (Or.inr ⟨by rfl, rfl⟩) (⟨c1, c3⟩) ?_
               simp only [Act.put, List.setIfInBounds_toArray, List.set_cons_zero, List.set_cons_succ])
        refine mv_done ?_
        go_wp2_with fail
        go_meet
        case rel => exact ⟨rfl, kd⟩
  case rest =>
    obtain ⟨rfl, kc⟩ := hcut
    clear k3 c0 c1 c2 c3 K1 K2 RK1 RK2 hB
    obtain ⟨c0, c1, c2, c3⟩ := HC.out wc kc.out
    cases RB
    · obtain rfl : R = 0 := by rw [hV.out]; rfl
      cases tb1
      · replace T1 := T1.out
        simp only [Bool.false_eq_true, if_false] at T1
        replace T1 := Lib.hid T1
        cases tb2
        · replace T2 := T2.out
          simp only [Bool.false_eq_true, if_false] at T2
          replace T2 := Lib.hid T2
          go_wp2_with fail
          refine (T1.out wc).mono ?_
          rintro e u4 ⟨rfl, hb⟩
          have k4 := Lib.hid (show Below V.heap.size V u4 from kc.out.trans (hb.mono kc.out.size))
          clear hb c0 c1 c2 c3
          obtain ⟨X, eX, hbX, HX⟩ := qt_box u4 (0) (0)
          have kX := Lib.hid (show Below V.heap.size V X from k4.out.trans (hbX.mono k4.out.size))
          obtain ⟨C, eC⟩ : ∃ C, u4.heap.size = C := ⟨_, rfl⟩
          rw [eC] at HX
          replace HX := Lib.hid HX
          clear hbX
          replace eX := Lib.hid eX
          obtain ⟨c0, c1, c2, c3⟩ := HC.out X kX.out
          go_upto_region 13 with (fail)
          try rw [eC]
          rw [← eX.out]
          go_wp2_with fail
          refine (T2.out X).mono ?_
          rintro e u5 ⟨rfl, hb⟩
          have kX5 := Lib.hid (show Below X.heap.size X u5 from hb)
          have k5 := Lib.hid (show Below V.heap.size V u5 from kX.out.trans (hb.mono kX.out.size))
          clear hb c0 c1 c2 c3
          obtain ⟨Y, eY, hbY, HY⟩ := qt_box u5 (0) (0)
          have kY := Lib.hid (show Below V.heap.size V Y from k5.out.trans (hbY.mono k5.out.size))
          have kXY := Lib.hid (show Below X.heap.size X Y from kX5.out.trans (hbY.mono kX5.out.size))
          obtain ⟨D, eD⟩ : ∃ D, u5.heap.size = D := ⟨_, rfl⟩
          rw [eD] at HY
          replace eY := Lib.hid eY
          obtain ⟨c0, c1, c2, c3⟩ := HC.out Y kY.out
          obtain ⟨z0, z1⟩ := HX.out Y kXY.out
          obtain ⟨o0, o1⟩ := HY Y (Below.refl _ _)
          clear hbY HY
          go_upto_region 14 with (fail)
          try rw [eD]
          rw [← eY.out]
          go_wp2_with fail
          refine (LV.out _ (HW.out _ kY.out)).mono ?_
          rintro e u9 ⟨rfl, hb⟩
          have kL := Lib.hid (show Below w.heap.size w u9 from HW.out u9 (kY.out.trans (hb.mono kY.out.size)))
          clear hb
          go_wp2
          go_ret
          exact ⟨rfl, kL.out⟩
        · replace T2 := T2.out
          simp only [if_true] at T2
          replace T2 := Lib.hid T2
          go_wp2_with fail
          refine (T1.out wc).mono ?_
          rintro e u4 ⟨rfl, hb⟩
          have k4 := Lib.hid (show Below V.heap.size V u4 from kc.out.trans (hb.mono kc.out.size))
          clear hb c0 c1 c2 c3
          obtain ⟨X, eX, hbX, HX⟩ := qt_box u4 (0) (0)
          have kX := Lib.hid (show Below V.heap.size V X from k4.out.trans (hbX.mono k4.out.size))
          obtain ⟨C, eC⟩ : ∃ C, u4.heap.size = C := ⟨_, rfl⟩
          rw [eC] at HX
          replace HX := Lib.hid HX
          clear hbX
          replace eX := Lib.hid eX
          obtain ⟨c0, c1, c2, c3⟩ := HC.out X kX.out
          go_upto_region 13 with (fail)
          try rw [eC]
          rw [← eX.out]
          go_wp2_with fail
          refine (T2.out X).mono ?_
          rintro e u5 ⟨rfl, hb⟩
          have kX5 := Lib.hid (show Below X.heap.size X u5 from hb)
          have k5 := Lib.hid (show Below V.heap.size V u5 from kX.out.trans (hb.mono kX.out.size))
          clear hb c0 c1 c2 c3
          obtain ⟨Y, eY, hbY, HY⟩ := qt_box u5 (tv2) (x)
          have kY := Lib.hid (show Below V.heap.size V Y from k5.out.trans (hbY.mono k5.out.size))
          have kXY := Lib.hid (show Below X.heap.size X Y from kX5.out.trans (hbY.mono kX5.out.size))
          obtain ⟨D, eD⟩ : ∃ D, u5.heap.size = D := ⟨_, rfl⟩
          rw [eD] at HY
          replace eY := Lib.hid eY
          obtain ⟨c0, c1, c2, c3⟩ := HC.out Y kY.out
          obtain ⟨z0, z1⟩ := HX.out Y kXY.out
          obtain ⟨o0, o1⟩ := HY Y (Below.refl _ _)
          clear hbY HY
          go_upto_region 14 with (fail)
          try rw [eD]
          rw [← eY.out]
          go_wp2_with fail
          refine (LV.out _ (HW.out _ kY.out)).mono ?_
          rintro e u9 ⟨rfl, hb⟩
          have kL := Lib.hid (show Below w.heap.size w u9 from HW.out u9 (kY.out.trans (hb.mono kY.out.size)))
          clear hb
          go_wp2
          go_ret
          exact ⟨rfl, kL.out⟩
      · replace T1 := T1.out
        simp only [if_true] at T1
        replace T1 := Lib.hid T1
        cases tb2
        · replace T2 := T2.out
          simp only [Bool.false_eq_true, if_false] at T2
          replace T2 := Lib.hid T2
          go_wp2_with fail
          refine (T1.out wc).mono ?_
          rintro e u4 ⟨rfl, hb⟩
          have k4 := Lib.hid (show Below V.heap.size V u4 from kc.out.trans (hb.mono kc.out.size))
          clear hb c0 c1 c2 c3
          obtain ⟨X, eX, hbX, HX⟩ := qt_box u4 (tv1) (x)
          have kX := Lib.hid (show Below V.heap.size V X from k4.out.trans (hbX.mono k4.out.size))
          obtain ⟨C, eC⟩ : ∃ C, u4.heap.size = C := ⟨_, rfl⟩
          rw [eC] at HX
          replace HX := Lib.hid HX
          clear hbX
          replace eX := Lib.hid eX
          obtain ⟨c0, c1, c2, c3⟩ := HC.out X kX.out
          go_upto_region 13 with (fail)
          try rw [eC]
          rw [← eX.out]
          go_wp2_with fail
          refine (T2.out X).mono ?_
          rintro e u5 ⟨rfl, hb⟩
          have kX5 := Lib.hid (show Below X.heap.size X u5 from hb)
          have k5 := Lib.hid (show Below V.heap.size V u5 from kX.out.trans (hb.mono kX.out.size))
          clear hb c0 c1 c2 c3
          obtain ⟨Y, eY, hbY, HY⟩ := qt_box u5 (0) (0)
          have kY := Lib.hid (show Below V.heap.size V Y from k5.out.trans (hbY.mono k5.out.size))
          have kXY := Lib.hid (show Below X.heap.size X Y from kX5.out.trans (hbY.mono kX5.out.size))
          obtain ⟨D, eD⟩ : ∃ D, u5.heap.size = D := ⟨_, rfl⟩
          rw [eD] at HY
          replace eY := Lib.hid eY
          obtain ⟨c0, c1, c2, c3⟩ := HC.out Y kY.out
          obtain ⟨z0, z1⟩ := HX.out Y kXY.out
          obtain ⟨o0, o1⟩ := HY Y (Below.refl _ _)
          clear hbY HY
          go_upto_region 14 with (fail)
          try rw [eD]
          rw [← eY.out]
          go_wp2_with fail
          refine (LV.out _ (HW.out _ kY.out)).mono ?_
          rintro e u9 ⟨rfl, hb⟩
          have kL := Lib.hid (show Below w.heap.size w u9 from HW.out u9 (kY.out.trans (hb.mono kY.out.size)))
          clear hb
          go_wp2
          go_ret
          exact ⟨rfl, kL.out⟩
        · replace T2 := T2.out
          simp only [if_true] at T2
          replace T2 := Lib.hid T2
          rcases Int.lt_trichotomy n m with z | z | z
          · have a1 : decide (m < n) = false := decide_eq_false (by omega)
            have a2 : decide (n < m) = true := decide_eq_true z
            have a3 : decide (tv1 ≤ tv2) = true := decide_eq_true (MO1.out rfl rfl (by omega))
            go_wp2_with fail
            refine (T1.out wc).mono ?_
            rintro e u4 ⟨rfl, hb⟩
            have k4 := Lib.hid (show Below V.heap.size V u4 from kc.out.trans (hb.mono kc.out.size))
            clear hb c0 c1 c2 c3
            obtain ⟨X, eX, hbX, HX⟩ := qt_box u4 (tv1) (x)
            have kX := Lib.hid (show Below V.heap.size V X from k4.out.trans (hbX.mono k4.out.size))
            obtain ⟨C, eC⟩ : ∃ C, u4.heap.size = C := ⟨_, rfl⟩
            rw [eC] at HX
            replace HX := Lib.hid HX
            clear hbX
            replace eX := Lib.hid eX
            obtain ⟨c0, c1, c2, c3⟩ := HC.out X kX.out
            go_upto_region 13 with (fail)
            try rw [eC]
            rw [← eX.out]
            go_wp2_with fail
            refine (T2.out X).mono ?_
            rintro e u5 ⟨rfl, hb⟩
            have kX5 := Lib.hid (show Below X.heap.size X u5 from hb)
            have k5 := Lib.hid (show Below V.heap.size V u5 from kX.out.trans (hb.mono kX.out.size))
            clear hb c0 c1 c2 c3
            obtain ⟨Y, eY, hbY, HY⟩ := qt_box u5 (tv2) (x)
            have kY := Lib.hid (show Below V.heap.size V Y from k5.out.trans (hbY.mono k5.out.size))
            have kXY := Lib.hid (show Below X.heap.size X Y from kX5.out.trans (hbY.mono kX5.out.size))
            obtain ⟨D, eD⟩ : ∃ D, u5.heap.size = D := ⟨_, rfl⟩
            rw [eD] at HY
            replace eY := Lib.hid eY
            obtain ⟨c0, c1, c2, c3⟩ := HC.out Y kY.out
            obtain ⟨z0, z1⟩ := HX.out Y kXY.out
            obtain ⟨o0, o1⟩ := HY Y (Below.refl _ _)
            clear hbY HY
            go_upto_region 14 with (fail)
            try rw [eD]
            rw [← eY.out]
            go_wp2_with fail
            refine (LV.out _ (HW.out _ kY.out)).mono ?_
            rintro e u9 ⟨rfl, hb⟩
            have kL := Lib.hid (show Below w.heap.size w u9 from HW.out u9 (kY.out.trans (hb.mono kY.out.size)))
            clear hb
            go_wp2
            go_ret
            exact ⟨rfl, kL.out⟩
          · have a1 : decide (m < n) = false := decide_eq_false (by omega)
            have a2 : decide (n < m) = false := decide_eq_false (by omega)
            have a3 : decide (tv1 ≤ tv2) = true := decide_eq_true (by have := EQQ.out z; omega)
            have a4 : decide (tv2 ≤ tv1) = true := decide_eq_true (by have := EQQ.out z; omega)
            clear z
            go_wp2_with fail
            refine (T1.out wc).mono ?_
            rintro e u4 ⟨rfl, hb⟩
            have k4 := Lib.hid (show Below V.heap.size V u4 from kc.out.trans (hb.mono kc.out.size))
            clear hb c0 c1 c2 c3
            obtain ⟨X, eX, hbX, HX⟩ := qt_box u4 (tv1) (x)
            have kX := Lib.hid (show Below V.heap.size V X from k4.out.trans (hbX.mono k4.out.size))
            obtain ⟨C, eC⟩ : ∃ C, u4.heap.size = C := ⟨_, rfl⟩
            rw [eC] at HX
            replace HX := Lib.hid HX
            clear hbX
            replace eX := Lib.hid eX
            obtain ⟨c0, c1, c2, c3⟩ := HC.out X kX.out
            go_upto_region 13 with (fail)
            try rw [eC]
            rw [← eX.out]
            go_wp2_with fail
            refine (T2.out X).mono ?_
            rintro e u5 ⟨rfl, hb⟩
            have kX5 := Lib.hid (show Below X.heap.size X u5 from hb)
            have k5 := Lib.hid (show Below V.heap.size V u5 from kX.out.trans (hb.mono kX.out.size))
            clear hb c0 c1 c2 c3
            obtain ⟨Y, eY, hbY, HY⟩ := qt_box u5 (tv2) (x)
            have kY := Lib.hid (show Below V.heap.size V Y from k5.out.trans (hbY.mono k5.out.size))
            have kXY := Lib.hid (show Below X.heap.size X Y from kX5.out.trans (hbY.mono kX5.out.size))
            obtain ⟨D, eD⟩ : ∃ D, u5.heap.size = D := ⟨_, rfl⟩
            rw [eD] at HY
            replace eY := Lib.hid eY
            obtain ⟨c0, c1, c2, c3⟩ := HC.out Y kY.out
            obtain ⟨z0, z1⟩ := HX.out Y kXY.out
            obtain ⟨o0, o1⟩ := HY Y (Below.refl _ _)
            clear hbY HY
            go_upto_region 14 with (fail)
            try rw [eD]
            rw [← eY.out]
            go_wp2_with fail
            refine (LV.out _ (HW.out _ kY.out)).mono ?_
            rintro e u9 ⟨rfl, hb⟩
            have kL := Lib.hid (show Below w.heap.size w u9 from HW.out u9 (kY.out.trans (hb.mono kY.out.size)))
            clear hb
            go_wp2
            go_ret
            exact ⟨rfl, kL.out⟩
          · have a1 : decide (m < n) = true := decide_eq_true z
            have a2 : decide (n < m) = false := decide_eq_false (by omega)
            have a4 : decide (tv2 ≤ tv1) = true := decide_eq_true (MO2.out rfl rfl (by omega))
            go_wp2_with fail
            refine (T1.out wc).mono ?_
            rintro e u4 ⟨rfl, hb⟩
            have k4 := Lib.hid (show Below V.heap.size V u4 from kc.out.trans (hb.mono kc.out.size))
            clear hb c0 c1 c2 c3
            obtain ⟨X, eX, hbX, HX⟩ := qt_box u4 (tv1) (x)
            have kX := Lib.hid (show Below V.heap.size V X from k4.out.trans (hbX.mono k4.out.size))
            obtain ⟨C, eC⟩ : ∃ C, u4.heap.size = C := ⟨_, rfl⟩
            rw [eC] at HX
            replace HX := Lib.hid HX
            clear hbX
            replace eX := Lib.hid eX
            obtain ⟨c0, c1, c2, c3⟩ := HC.out X kX.out
            go_upto_region 13 with (fail)
            try rw [eC]
            rw [← eX.out]
            go_wp2_with fail
            refine (T2.out X).mono ?_
            rintro e u5 ⟨rfl, hb⟩
            have kX5 := Lib.hid (show Below X.heap.size X u5 from hb)
            have k5 := Lib.hid (show Below V.heap.size V u5 from kX.out.trans (hb.mono kX.out.size))
            clear hb c0 c1 c2 c3
            obtain ⟨Y, eY, hbY, HY⟩ := qt_box u5 (tv2) (x)
            have kY := Lib.hid (show Below V.heap.size V Y from k5.out.trans (hbY.mono k5.out.size))
            have kXY := Lib.hid (show Below X.heap.size X Y from kX5.out.trans (hbY.mono kX5.out.size))
            obtain ⟨D, eD⟩ : ∃ D, u5.heap.size = D := ⟨_, rfl⟩
            rw [eD] at HY
            replace eY := Lib.hid eY
            obtain ⟨c0, c1, c2, c3⟩ := HC.out Y kY.out
            obtain ⟨z0, z1⟩ := HX.out Y kXY.out
            obtain ⟨o0, o1⟩ := HY Y (Below.refl _ _)
            clear hbY HY
            go_upto_region 14 with (fail)
            try rw [eD]
            rw [← eY.out]
            go_wp2_with fail
            refine (LV.out _ (HW.out _ kY.out)).mono ?_
            rintro e u9 ⟨rfl, hb⟩
            have kL := Lib.hid (show Below w.heap.size w u9 from HW.out u9 (kY.out.trans (hb.mono kY.out.size)))
            clear hb
            go_wp2
            go_ret
            exact ⟨rfl, kL.out⟩
    · have hRR : R = ccV x1 x2 := by rw [hV.out]; rfl
      rcases Int.lt_trichotomy x1 x2 with y | y | y
      · obtain rfl : R = -1 := by rw [hRR]; exact if_pos y
        have g1 : decide (x1 < x2) = true := decide_eq_true y
        have g2 : decide (x2 < x1) = false := decide_eq_false (by omega)
        have g3 : ¬ x2 < x1 := by omega
        cases tb1
        · replace T1 := T1.out
          simp only [Bool.false_eq_true, if_false] at T1
          replace T1 := Lib.hid T1
          cases tb2
          · replace T2 := T2.out
            simp only [Bool.false_eq_true, if_false] at T2
            replace T2 := Lib.hid T2
            go_wp2_with fail
            refine (T1.out wc).mono ?_
            rintro e u4 ⟨rfl, hb⟩
            have k4 := Lib.hid (show Below V.heap.size V u4 from kc.out.trans (hb.mono kc.out.size))
            clear hb c0 c1 c2 c3
            obtain ⟨X, eX, hbX, HX⟩ := qt_box u4 (0) (0)
            have kX := Lib.hid (show Below V.heap.size V X from k4.out.trans (hbX.mono k4.out.size))
            obtain ⟨C, eC⟩ : ∃ C, u4.heap.size = C := ⟨_, rfl⟩
            rw [eC] at HX
            replace HX := Lib.hid HX
            clear hbX
            replace eX := Lib.hid eX
            obtain ⟨c0, c1, c2, c3⟩ := HC.out X kX.out
            go_upto_region 13 with (fail)
            try rw [eC]
            rw [← eX.out]
            go_wp2_with fail
            refine (T2.out X).mono ?_
            rintro e u5 ⟨rfl, hb⟩
            have kX5 := Lib.hid (show Below X.heap.size X u5 from hb)
            have k5 := Lib.hid (show Below V.heap.size V u5 from kX.out.trans (hb.mono kX.out.size))
            clear hb c0 c1 c2 c3
            obtain ⟨Y, eY, hbY, HY⟩ := qt_box u5 (0) (0)
            have kY := Lib.hid (show Below V.heap.size V Y from k5.out.trans (hbY.mono k5.out.size))
            have kXY := Lib.hid (show Below X.heap.size X Y from kX5.out.trans (hbY.mono kX5.out.size))
            obtain ⟨D, eD⟩ : ∃ D, u5.heap.size = D := ⟨_, rfl⟩
            rw [eD] at HY
            replace eY := Lib.hid eY
            obtain ⟨c0, c1, c2, c3⟩ := HC.out Y kY.out
            obtain ⟨z0, z1⟩ := HX.out Y kXY.out
            obtain ⟨o0, o1⟩ := HY Y (Below.refl _ _)
            clear hbY HY
            go_upto_region 14 with (fail)
            try rw [eD]
            rw [← eY.out]
            go_wp2_with fail
            refine (LV.out _ (HW.out _ kY.out)).mono ?_
            rintro e u9 ⟨rfl, hb⟩
            have kL := Lib.hid (show Below w.heap.size w u9 from HW.out u9 (kY.out.trans (hb.mono kY.out.size)))
            clear hb
            go_wp2
            go_ret
            exact ⟨rfl, kL.out⟩
          · replace T2 := T2.out
            simp only [if_true] at T2
            replace T2 := Lib.hid T2
            go_wp2_with fail
            refine (T1.out wc).mono ?_
            rintro e u4 ⟨rfl, hb⟩
            have k4 := Lib.hid (show Below V.heap.size V u4 from kc.out.trans (hb.mono kc.out.size))
            clear hb c0 c1 c2 c3
            obtain ⟨X, eX, hbX, HX⟩ := qt_box u4 (0) (0)
            have kX := Lib.hid (show Below V.heap.size V X from k4.out.trans (hbX.mono k4.out.size))
            obtain ⟨C, eC⟩ : ∃ C, u4.heap.size = C := ⟨_, rfl⟩
            rw [eC] at HX
            replace HX := Lib.hid HX
            clear hbX
            replace eX := Lib.hid eX
            obtain ⟨c0, c1, c2, c3⟩ := HC.out X kX.out
            go_upto_region 13 with (fail)
            try rw [eC]
            rw [← eX.out]
            go_wp2_with fail
            refine (T2.out X).mono ?_
            rintro e u5 ⟨rfl, hb⟩
            have kX5 := Lib.hid (show Below X.heap.size X u5 from hb)
            have k5 := Lib.hid (show Below V.heap.size V u5 from kX.out.trans (hb.mono kX.out.size))
            clear hb c0 c1 c2 c3
            obtain ⟨Y, eY, hbY, HY⟩ := qt_box u5 (tv2) (x)
            have kY := Lib.hid (show Below V.heap.size V Y from k5.out.trans (hbY.mono k5.out.size))
            have kXY := Lib.hid (show Below X.heap.size X Y from kX5.out.trans (hbY.mono kX5.out.size))
            obtain ⟨D, eD⟩ : ∃ D, u5.heap.size = D := ⟨_, rfl⟩
            rw [eD] at HY
            replace eY := Lib.hid eY
            obtain ⟨c0, c1, c2, c3⟩ := HC.out Y kY.out
            obtain ⟨z0, z1⟩ := HX.out Y kXY.out
            obtain ⟨o0, o1⟩ := HY Y (Below.refl _ _)
            clear hbY HY
            go_upto_region 14 with (fail)
            try rw [eD]
            rw [← eY.out]
            go_wp2_with fail
            refine (LV.out _ (HW.out _ kY.out)).mono ?_
            rintro e u9 ⟨rfl, hb⟩
            have kL := Lib.hid (show Below w.heap.size w u9 from HW.out u9 (kY.out.trans (hb.mono kY.out.size)))
            clear hb
            go_wp2
            go_ret
            exact ⟨rfl, kL.out⟩
        · replace T1 := T1.out
          simp only [if_true] at T1
          replace T1 := Lib.hid T1
          cases tb2
          · replace T2 := T2.out
            simp only [Bool.false_eq_true, if_false] at T2
            replace T2 := Lib.hid T2
            go_wp2_with fail
            refine (T1.out wc).mono ?_
            rintro e u4 ⟨rfl, hb⟩
            have k4 := Lib.hid (show Below V.heap.size V u4 from kc.out.trans (hb.mono kc.out.size))
            clear hb c0 c1 c2 c3
            obtain ⟨X, eX, hbX, HX⟩ := qt_box u4 (tv1) (x)
            have kX := Lib.hid (show Below V.heap.size V X from k4.out.trans (hbX.mono k4.out.size))
            obtain ⟨C, eC⟩ : ∃ C, u4.heap.size = C := ⟨_, rfl⟩
            rw [eC] at HX
            replace HX := Lib.hid HX
            clear hbX
            replace eX := Lib.hid eX
            obtain ⟨c0, c1, c2, c3⟩ := HC.out X kX.out
            go_upto_region 13 with (fail)
            try rw [eC]
            rw [← eX.out]
            go_wp2_with fail
            refine (T2.out X).mono ?_
            rintro e u5 ⟨rfl, hb⟩
            have kX5 := Lib.hid (show Below X.heap.size X u5 from hb)
            have k5 := Lib.hid (show Below V.heap.size V u5 from kX.out.trans (hb.mono kX.out.size))
            clear hb c0 c1 c2 c3
            obtain ⟨Y, eY, hbY, HY⟩ := qt_box u5 (0) (0)
            have kY := Lib.hid (show Below V.heap.size V Y from k5.out.trans (hbY.mono k5.out.size))
            have kXY := Lib.hid (show Below X.heap.size X Y from kX5.out.trans (hbY.mono kX5.out.size))
            obtain ⟨D, eD⟩ : ∃ D, u5.heap.size = D := ⟨_, rfl⟩
            rw [eD] at HY
            replace eY := Lib.hid eY
            obtain ⟨c0, c1, c2, c3⟩ := HC.out Y kY.out
            obtain ⟨z0, z1⟩ := HX.out Y kXY.out
            obtain ⟨o0, o1⟩ := HY Y (Below.refl _ _)
            clear hbY HY
            go_upto_region 14 with (fail)
            try rw [eD]
            rw [← eY.out]
            go_wp2_with fail
            refine (LV.out _ (HW.out _ kY.out)).mono ?_
            rintro e u9 ⟨rfl, hb⟩
            have kL := Lib.hid (show Below w.heap.size w u9 from HW.out u9 (kY.out.trans (hb.mono kY.out.size)))
            clear hb
            go_wp2
            go_ret
            exact ⟨rfl, kL.out⟩
          · replace T2 := T2.out
            simp only [if_true] at T2
            replace T2 := Lib.hid T2
            rcases Int.lt_trichotomy n m with z | z | z
            · have a1 : decide (m < n) = false := decide_eq_false (by omega)
              have a2 : decide (n < m) = true := decide_eq_true z
              have a3 : decide (tv1 ≤ tv2) = true := decide_eq_true (MO1.out rfl rfl (by omega))
              go_wp2_with fail
              refine (T1.out wc).mono ?_
              rintro e u4 ⟨rfl, hb⟩
              have k4 := Lib.hid (show Below V.heap.size V u4 from kc.out.trans (hb.mono kc.out.size))
              clear hb c0 c1 c2 c3
              obtain ⟨X, eX, hbX, HX⟩ := qt_box u4 (tv1) (x)
              have kX := Lib.hid (show Below V.heap.size V X from k4.out.trans (hbX.mono k4.out.size))
              obtain ⟨C, eC⟩ : ∃ C, u4.heap.size = C := ⟨_, rfl⟩
              rw [eC] at HX
              replace HX := Lib.hid HX
              clear hbX
              replace eX := Lib.hid eX
              obtain ⟨c0, c1, c2, c3⟩ := HC.out X kX.out
              go_upto_region 13 with (fail)
              try rw [eC]
              rw [← eX.out]
              go_wp2_with fail
              refine (T2.out X).mono ?_
              rintro e u5 ⟨rfl, hb⟩
              have kX5 := Lib.hid (show Below X.heap.size X u5 from hb)
              have k5 := Lib.hid (show Below V.heap.size V u5 from kX.out.trans (hb.mono kX.out.size))
              clear hb c0 c1 c2 c3
              obtain ⟨Y, eY, hbY, HY⟩ := qt_box u5 (tv2) (x)
              have kY := Lib.hid (show Below V.heap.size V Y from k5.out.trans (hbY.mono k5.out.size))
              have kXY := Lib.hid (show Below X.heap.size X Y from kX5.out.trans (hbY.mono kX5.out.size))
              obtain ⟨D, eD⟩ : ∃ D, u5.heap.size = D := ⟨_, rfl⟩
              rw [eD] at HY
              replace eY := Lib.hid eY
              obtain ⟨c0, c1, c2, c3⟩ := HC.out Y kY.out
              obtain ⟨z0, z1⟩ := HX.out Y kXY.out
              obtain ⟨o0, o1⟩ := HY Y (Below.refl _ _)
              clear hbY HY
              go_upto_region 14 with (fail)
              try rw [eD]
              rw [← eY.out]
              go_wp2_with fail
              refine (LV.out _ (HW.out _ kY.out)).mono ?_
              rintro e u9 ⟨rfl, hb⟩
              have kL := Lib.hid (show Below w.heap.size w u9 from HW.out u9 (kY.out.trans (hb.mono kY.out.size)))
              clear hb
              go_wp2
              go_ret
              exact ⟨rfl, kL.out⟩
            · have a1 : decide (m < n) = false := decide_eq_false (by omega)
              have a2 : decide (n < m) = false := decide_eq_false (by omega)
              have a3 : decide (tv1 ≤ tv2) = true := decide_eq_true (by have := EQQ.out z; omega)
              have a4 : decide (tv2 ≤ tv1) = true := decide_eq_true (by have := EQQ.out z; omega)
              clear z
              go_wp2_with fail
              refine (T1.out wc).mono ?_
              rintro e u4 ⟨rfl, hb⟩
              have k4 := Lib.hid (show Below V.heap.size V u4 from kc.out.trans (hb.mono kc.out.size))
              clear hb c0 c1 c2 c3
              obtain ⟨X, eX, hbX, HX⟩ := qt_box u4 (tv1) (x)
              have kX := Lib.hid (show Below V.heap.size V X from k4.out.trans (hbX.mono k4.out.size))
              obtain ⟨C, eC⟩ : ∃ C, u4.heap.size = C := ⟨_, rfl⟩
              rw [eC] at HX
              replace HX := Lib.hid HX
              clear hbX
              replace eX := Lib.hid eX
              obtain ⟨c0, c1, c2, c3⟩ := HC.out X kX.out
              go_upto_region 13 with (fail)
              try rw [eC]
              rw [← eX.out]
              go_wp2_with fail
              refine (T2.out X).mono ?_
              rintro e u5 ⟨rfl, hb⟩
              have kX5 := Lib.hid (show Below X.heap.size X u5 from hb)
              have k5 := Lib.hid (show Below V.heap.size V u5 from kX.out.trans (hb.mono kX.out.size))
              clear hb c0 c1 c2 c3
              obtain ⟨Y, eY, hbY, HY⟩ := qt_box u5 (tv2) (x)
              have kY := Lib.hid (show Below V.heap.size V Y from k5.out.trans (hbY.mono k5.out.size))
              have kXY := Lib.hid (show Below X.heap.size X Y from kX5.out.trans (hbY.mono kX5.out.size))
              obtain ⟨D, eD⟩ : ∃ D, u5.heap.size = D := ⟨_, rfl⟩
              rw [eD] at HY
              replace eY := Lib.hid eY
              obtain ⟨c0, c1, c2, c3⟩ := HC.out Y kY.out
              obtain ⟨z0, z1⟩ := HX.out Y kXY.out
              obtain ⟨o0, o1⟩ := HY Y (Below.refl _ _)
              clear hbY HY
              go_upto_region 14 with (fail)
              try rw [eD]
              rw [← eY.out]
              go_wp2_with fail
              refine (LV.out _ (HW.out _ kY.out)).mono ?_
              rintro e u9 ⟨rfl, hb⟩
              have kL := Lib.hid (show Below w.heap.size w u9 from HW.out u9 (kY.out.trans (hb.mono kY.out.size)))
              clear hb
              go_wp2
              go_ret
              exact ⟨rfl, kL.out⟩
            · have a1 : decide (m < n) = true := decide_eq_true z
              have a2 : decide (n < m) = false := decide_eq_false (by omega)
              have a4 : decide (tv2 ≤ tv1) = true := decide_eq_true (MO2.out rfl rfl (by omega))
              go_wp2_with fail
              refine (T1.out wc).mono ?_
              rintro e u4 ⟨rfl, hb⟩
              have k4 := Lib.hid (show Below V.heap.size V u4 from kc.out.trans (hb.mono kc.out.size))
              clear hb c0 c1 c2 c3
              obtain ⟨X, eX, hbX, HX⟩ := qt_box u4 (tv1) (x)
              have kX := Lib.hid (show Below V.heap.size V X from k4.out.trans (hbX.mono k4.out.size))
              obtain ⟨C, eC⟩ : ∃ C, u4.heap.size = C := ⟨_, rfl⟩
              rw [eC] at HX
              replace HX := Lib.hid HX
              clear hbX
              replace eX := Lib.hid eX
              obtain ⟨c0, c1, c2, c3⟩ := HC.out X kX.out
              go_upto_region 13 with (fail)
              try rw [eC]
              rw [← eX.out]
              go_wp2_with fail
              refine (T2.out X).mono ?_
              rintro e u5 ⟨rfl, hb⟩
              have kX5 := Lib.hid (show Below X.heap.size X u5 from hb)
              have k5 := Lib.hid (show Below V.heap.size V u5 from kX.out.trans (hb.mono kX.out.size))
              clear hb c0 c1 c2 c3
              obtain ⟨Y, eY, hbY, HY⟩ := qt_box u5 (tv2) (x)
              have kY := Lib.hid (show Below V.heap.size V Y from k5.out.trans (hbY.mono k5.out.size))
              have kXY := Lib.hid (show Below X.heap.size X Y from kX5.out.trans (hbY.mono kX5.out.size))
              obtain ⟨D, eD⟩ : ∃ D, u5.heap.size = D := ⟨_, rfl⟩
              rw [eD] at HY
              replace eY := Lib.hid eY
              obtain ⟨c0, c1, c2, c3⟩ := HC.out Y kY.out
              obtain ⟨z0, z1⟩ := HX.out Y kXY.out
              obtain ⟨o0, o1⟩ := HY Y (Below.refl _ _)
              clear hbY HY
              go_upto_region 14 with (fail)
              try rw [eD]
              rw [← eY.out]
              go_wp2_with fail
              refine (LV.out _ (HW.out _ kY.out)).mono ?_
              rintro e u9 ⟨rfl, hb⟩
              have kL := Lib.hid (show Below w.heap.size w u9 from HW.out u9 (kY.out.trans (hb.mono kY.out.size)))
              clear hb
              go_wp2
              go_ret
              exact ⟨rfl, kL.out⟩
      · obtain rfl : R = 0 := by rw [hRR]; unfold ccV; rw [if_neg (by omega), if_neg (by omega)]
        have g1 : decide (x1 < x2) = false := decide_eq_false (by omega)
        have g2 : decide (x2 < x1) = false := decide_eq_false (by omega)
        have g3 : ¬ x2 < x1 := by omega
        have g4 : ¬ x1 < x2 := by omega
        clear hRR y
        cases tb1
        · replace T1 := T1.out
          simp only [Bool.false_eq_true, if_false] at T1
          replace T1 := Lib.hid T1
          cases tb2
          · replace T2 := T2.out
            simp only [Bool.false_eq_true, if_false] at T2
            replace T2 := Lib.hid T2
            go_wp2_with fail
            refine (T1.out wc).mono ?_
            rintro e u4 ⟨rfl, hb⟩
            have k4 := Lib.hid (show Below V.heap.size V u4 from kc.out.trans (hb.mono kc.out.size))
            clear hb c0 c1 c2 c3
            obtain ⟨X, eX, hbX, HX⟩ := qt_box u4 (0) (0)
            have kX := Lib.hid (show Below V.heap.size V X from k4.out.trans (hbX.mono k4.out.size))
            obtain ⟨C, eC⟩ : ∃ C, u4.heap.size = C := ⟨_, rfl⟩
            rw [eC] at HX
            replace HX := Lib.hid HX
            clear hbX
            replace eX := Lib.hid eX
            obtain ⟨c0, c1, c2, c3⟩ := HC.out X kX.out
            go_upto_region 13 with (fail)
            try rw [eC]
            rw [← eX.out]
            go_wp2_with fail
            refine (T2.out X).mono ?_
            rintro e u5 ⟨rfl, hb⟩
            have kX5 := Lib.hid (show Below X.heap.size X u5 from hb)
            have k5 := Lib.hid (show Below V.heap.size V u5 from kX.out.trans (hb.mono kX.out.size))
            clear hb c0 c1 c2 c3
            obtain ⟨Y, eY, hbY, HY⟩ := qt_box u5 (0) (0)
            have kY := Lib.hid (show Below V.heap.size V Y from k5.out.trans (hbY.mono k5.out.size))
            have kXY := Lib.hid (show Below X.heap.size X Y from kX5.out.trans (hbY.mono kX5.out.size))
            obtain ⟨D, eD⟩ : ∃ D, u5.heap.size = D := ⟨_, rfl⟩
            rw [eD] at HY
            replace eY := Lib.hid eY
            obtain ⟨c0, c1, c2, c3⟩ := HC.out Y kY.out
            obtain ⟨z0, z1⟩ := HX.out Y kXY.out
            obtain ⟨o0, o1⟩ := HY Y (Below.refl _ _)
            clear hbY HY
            go_upto_region 14 with (fail)
            try rw [eD]
            rw [← eY.out]
            go_wp2_with fail
            refine (LV.out _ (HW.out _ kY.out)).mono ?_
            rintro e u9 ⟨rfl, hb⟩
            have kL := Lib.hid (show Below w.heap.size w u9 from HW.out u9 (kY.out.trans (hb.mono kY.out.size)))
            clear hb
            go_wp2
            go_ret
            exact ⟨rfl, kL.out⟩
          · replace T2 := T2.out
            simp only [if_true] at T2
            replace T2 := Lib.hid T2
            go_wp2_with fail
            refine (T1.out wc).mono ?_
            rintro e u4 ⟨rfl, hb⟩
            have k4 := Lib.hid (show Below V.heap.size V u4 from kc.out.trans (hb.mono kc.out.size))
            clear hb c0 c1 c2 c3
            obtain ⟨X, eX, hbX, HX⟩ := qt_box u4 (0) (0)
            have kX := Lib.hid (show Below V.heap.size V X from k4.out.trans (hbX.mono k4.out.size))
            obtain ⟨C, eC⟩ : ∃ C, u4.heap.size = C := ⟨_, rfl⟩
            rw [eC] at HX
            replace HX := Lib.hid HX
            clear hbX
            replace eX := Lib.hid eX
            obtain ⟨c0, c1, c2, c3⟩ := HC.out X kX.out
            go_upto_region 13 with (fail)
            try rw [eC]
            rw [← eX.out]
            go_wp2_with fail
            refine (T2.out X).mono ?_
            rintro e u5 ⟨rfl, hb⟩
            have kX5 := Lib.hid (show Below X.heap.size X u5 from hb)
            have k5 := Lib.hid (show Below V.heap.size V u5 from kX.out.trans (hb.mono kX.out.size))
            clear hb c0 c1 c2 c3
            obtain ⟨Y, eY, hbY, HY⟩ := qt_box u5 (tv2) (x)
            have kY := Lib.hid (show Below V.heap.size V Y from k5.out.trans (hbY.mono k5.out.size))
            have kXY := Lib.hid (show Below X.heap.size X Y from kX5.out.trans (hbY.mono kX5.out.size))
            obtain ⟨D, eD⟩ : ∃ D, u5.heap.size = D := ⟨_, rfl⟩
            rw [eD] at HY
            replace eY := Lib.hid eY
            obtain ⟨c0, c1, c2, c3⟩ := HC.out Y kY.out
            obtain ⟨z0, z1⟩ := HX.out Y kXY.out
            obtain ⟨o0, o1⟩ := HY Y (Below.refl _ _)
            clear hbY HY
            go_upto_region 14 with (fail)
            try rw [eD]
            rw [← eY.out]
            go_wp2_with fail
            refine (LV.out _ (HW.out _ kY.out)).mono ?_
            rintro e u9 ⟨rfl, hb⟩
            have kL := Lib.hid (show Below w.heap.size w u9 from HW.out u9 (kY.out.trans (hb.mono kY.out.size)))
            clear hb
            go_wp2
            go_ret
            exact ⟨rfl, kL.out⟩
        · replace T1 := T1.out
          simp only [if_true] at T1
          replace T1 := Lib.hid T1
          cases tb2
          · replace T2 := T2.out
            simp only [Bool.false_eq_true, if_false] at T2
            replace T2 := Lib.hid T2
            go_wp2_with fail
            refine (T1.out wc).mono ?_
            rintro e u4 ⟨rfl, hb⟩
            have k4 := Lib.hid (show Below V.heap.size V u4 from kc.out.trans (hb.mono kc.out.size))
            clear hb c0 c1 c2 c3
            obtain ⟨X, eX, hbX, HX⟩ := qt_box u4 (tv1) (x)
            have kX := Lib.hid (show Below V.heap.size V X from k4.out.trans (hbX.mono k4.out.size))
            obtain ⟨C, eC⟩ : ∃ C, u4.heap.size = C := ⟨_, rfl⟩
            rw [eC] at HX
            replace HX := Lib.hid HX
            clear hbX
            replace eX := Lib.hid eX
            obtain ⟨c0, c1, c2, c3⟩ := HC.out X kX.out
            go_upto_region 13 with (fail)
            try rw [eC]
            rw [← eX.out]
            go_wp2_with fail
            refine (T2.out X).mono ?_
            rintro e u5 ⟨rfl, hb⟩
            have kX5 := Lib.hid (show Below X.heap.size X u5 from hb)
            have k5 := Lib.hid (show Below V.heap.size V u5 from kX.out.trans (hb.mono kX.out.size))
            clear hb c0 c1 c2 c3
            obtain ⟨Y, eY, hbY, HY⟩ := qt_box u5 (0) (0)
            have kY := Lib.hid (show Below V.heap.size V Y from k5.out.trans (hbY.mono k5.out.size))
            have kXY := Lib.hid (show Below X.heap.size X Y from kX5.out.trans (hbY.mono kX5.out.size))
            obtain ⟨D, eD⟩ : ∃ D, u5.heap.size = D := ⟨_, rfl⟩
            rw [eD] at HY
            replace eY := Lib.hid eY
            obtain ⟨c0, c1, c2, c3⟩ := HC.out Y kY.out
            obtain ⟨z0, z1⟩ := HX.out Y kXY.out
            obtain ⟨o0, o1⟩ := HY Y (Below.refl _ _)
            clear hbY HY
            go_upto_region 14 with (fail)
            try rw [eD]
            rw [← eY.out]
            go_wp2_with fail
            refine (LV.out _ (HW.out _ kY.out)).mono ?_
            rintro e u9 ⟨rfl, hb⟩
            have kL := Lib.hid (show Below w.heap.size w u9 from HW.out u9 (kY.out.trans (hb.mono kY.out.size)))
            clear hb
            go_wp2
            go_ret
            exact ⟨rfl, kL.out⟩
          · replace T2 := T2.out
            simp only [if_true] at T2
            replace T2 := Lib.hid T2
            rcases Int.lt_trichotomy n m with z | z | z
            · have a1 : decide (m < n) = false := decide_eq_false (by omega)
              have a2 : decide (n < m) = true := decide_eq_true z
              have a3 : decide (tv1 ≤ tv2) = true := decide_eq_true (MO1.out rfl rfl (by omega))
              go_wp2_with fail
              refine (T1.out wc).mono ?_
              rintro e u4 ⟨rfl, hb⟩
              have k4 := Lib.hid (show Below V.heap.size V u4 from kc.out.trans (hb.mono kc.out.size))
              clear hb c0 c1 c2 c3
              obtain ⟨X, eX, hbX, HX⟩ := qt_box u4 (tv1) (x)
              have kX := Lib.hid (show Below V.heap.size V X from k4.out.trans (hbX.mono k4.out.size))
              obtain ⟨C, eC⟩ : ∃ C, u4.heap.size = C := ⟨_, rfl⟩
              rw [eC] at HX
              replace HX := Lib.hid HX
              clear hbX
              replace eX := Lib.hid eX
              obtain ⟨c0, c1, c2, c3⟩ := HC.out X kX.out
              go_upto_region 13 with (fail)
              try rw [eC]
              rw [← eX.out]
              go_wp2_with fail
              refine (T2.out X).mono ?_
              rintro e u5 ⟨rfl, hb⟩
              have kX5 := Lib.hid (show Below X.heap.size X u5 from hb)
              have k5 := Lib.hid (show Below V.heap.size V u5 from kX.out.trans (hb.mono kX.out.size))
              clear hb c0 c1 c2 c3
              obtain ⟨Y, eY, hbY, HY⟩ := qt_box u5 (tv2) (x)
              have kY := Lib.hid (show Below V.heap.size V Y from k5.out.trans (hbY.mono k5.out.size))
              have kXY := Lib.hid (show Below X.heap.size X Y from kX5.out.trans (hbY.mono kX5.out.size))
              obtain ⟨D, eD⟩ : ∃ D, u5.heap.size = D := ⟨_, rfl⟩
              rw [eD] at HY
              replace eY := Lib.hid eY
              obtain ⟨c0, c1, c2, c3⟩ := HC.out Y kY.out
              obtain ⟨z0, z1⟩ := HX.out Y kXY.out
              obtain ⟨o0, o1⟩ := HY Y (Below.refl _ _)
              clear hbY HY
              go_upto_region 14 with (fail)
              try rw [eD]
              rw [← eY.out]
              go_wp2_with fail
              refine (LV.out _ (HW.out _ kY.out)).mono ?_
              rintro e u9 ⟨rfl, hb⟩
              have kL := Lib.hid (show Below w.heap.size w u9 from HW.out u9 (kY.out.trans (hb.mono kY.out.size)))
              clear hb
              go_wp2
              go_ret
              exact ⟨rfl, kL.out⟩
            · have a1 : decide (m < n) = false := decide_eq_false (by omega)
              have a2 : decide (n < m) = false := decide_eq_false (by omega)
              have a3 : decide (tv1 ≤ tv2) = true := decide_eq_true (by have := EQQ.out z; omega)
              have a4 : decide (tv2 ≤ tv1) = true := decide_eq_true (by have := EQQ.out z; omega)
              clear z
              go_wp2_with fail
              refine (T1.out wc).mono ?_
              rintro e u4 ⟨rfl, hb⟩
              have k4 := Lib.hid (show Below V.heap.size V u4 from kc.out.trans (hb.mono kc.out.size))
              clear hb c0 c1 c2 c3
              obtain ⟨X, eX, hbX, HX⟩ := qt_box u4 (tv1) (x)
              have kX := Lib.hid (show Below V.heap.size V X from k4.out.trans (hbX.mono k4.out.size))
              obtain ⟨C, eC⟩ : ∃ C, u4.heap.size = C := ⟨_, rfl⟩
              rw [eC] at HX
              replace HX := Lib.hid HX
              clear hbX
              replace eX := Lib.hid eX
              obtain ⟨c0, c1, c2, c3⟩ := HC.out X kX.out
              go_upto_region 13 with (fail)
              try rw [eC]
              rw [← eX.out]
              go_wp2_with fail
              refine (T2.out X).mono ?_
              rintro e u5 ⟨rfl, hb⟩
              have kX5 := Lib.hid (show Below X.heap.size X u5 from hb)
              have k5 := Lib.hid (show Below V.heap.size V u5 from kX.out.trans (hb.mono kX.out.size))
              clear hb c0 c1 c2 c3
              obtain ⟨Y, eY, hbY, HY⟩ := qt_box u5 (tv2) (x)
              have kY := Lib.hid (show Below V.heap.size V Y from k5.out.trans (hbY.mono k5.out.size))
              have kXY := Lib.hid (show Below X.heap.size X Y from kX5.out.trans (hbY.mono kX5.out.size))
              obtain ⟨D, eD⟩ : ∃ D, u5.heap.size = D := ⟨_, rfl⟩
              rw [eD] at HY
              replace eY := Lib.hid eY
              obtain ⟨c0, c1, c2, c3⟩ := HC.out Y kY.out
              obtain ⟨z0, z1⟩ := HX.out Y kXY.out
              obtain ⟨o0, o1⟩ := HY Y (Below.refl _ _)
              clear hbY HY
              go_upto_region 14 with (fail)
              try rw [eD]
              rw [← eY.out]
              go_wp2_with fail
              refine (LV.out _ (HW.out _ kY.out)).mono ?_
              rintro e u9 ⟨rfl, hb⟩
              have kL := Lib.hid (show Below w.heap.size w u9 from HW.out u9 (kY.out.trans (hb.mono kY.out.size)))
              clear hb
              go_wp2
              go_ret
              exact ⟨rfl, kL.out⟩
            · have a1 : decide (m < n) = true := decide_eq_true z
              have a2 : decide (n < m) = false := decide_eq_false (by omega)
              have a4 : decide (tv2 ≤ tv1) = true := decide_eq_true (MO2.out rfl rfl (by omega))
              go_wp2_with fail
              refine (T1.out wc).mono ?_
              rintro e u4 ⟨rfl, hb⟩
              have k4 := Lib.hid (show Below V.heap.size V u4 from kc.out.trans (hb.mono kc.out.size))
              clear hb c0 c1 c2 c3
              obtain ⟨X, eX, hbX, HX⟩ := qt_box u4 (tv1) (x)
              have kX := Lib.hid (show Below V.heap.size V X from k4.out.trans (hbX.mono k4.out.size))
              obtain ⟨C, eC⟩ : ∃ C, u4.heap.size = C := ⟨_, rfl⟩
              rw [eC] at HX
              replace HX := Lib.hid HX
              clear hbX
              replace eX := Lib.hid eX
              obtain ⟨c0, c1, c2, c3⟩ := HC.out X kX.out
              go_upto_region 13 with (fail)
              try rw [eC]
              rw [← eX.out]
              go_wp2_with fail
              refine (T2.out X).mono ?_
              rintro e u5 ⟨rfl, hb⟩
              have kX5 := Lib.hid (show Below X.heap.size X u5 from hb)
              have k5 := Lib.hid (show Below V.heap.size V u5 from kX.out.trans (hb.mono kX.out.size))
              clear hb c0 c1 c2 c3
              obtain ⟨Y, eY, hbY, HY⟩ := qt_box u5 (tv2) (x)
              have kY := Lib.hid (show Below V.heap.size V Y from k5.out.trans (hbY.mono k5.out.size))
              have kXY := Lib.hid (show Below X.heap.size X Y from kX5.out.trans (hbY.mono kX5.out.size))
              obtain ⟨D, eD⟩ : ∃ D, u5.heap.size = D := ⟨_, rfl⟩
              rw [eD] at HY
              replace eY := Lib.hid eY
              obtain ⟨c0, c1, c2, c3⟩ := HC.out Y kY.out
              obtain ⟨z0, z1⟩ := HX.out Y kXY.out
              obtain ⟨o0, o1⟩ := HY Y (Below.refl _ _)
              clear hbY HY
              go_upto_region 14 with (fail)
              try rw [eD]
              rw [← eY.out]
              go_wp2_with fail
              refine (LV.out _ (HW.out _ kY.out)).mono ?_
              rintro e u9 ⟨rfl, hb⟩
              have kL := Lib.hid (show Below w.heap.size w u9 from HW.out u9 (kY.out.trans (hb.mono kY.out.size)))
              clear hb
              go_wp2
              go_ret
              exact ⟨rfl, kL.out⟩
      · obtain rfl : R = 1 := by rw [hRR]; unfold ccV; rw [if_neg (by omega), if_pos y]
        have g1 : decide (x1 < x2) = false := decide_eq_false (by omega)
        have g2 : decide (x2 < x1) = true := decide_eq_true y
        have g4 : ¬ x1 < x2 := by omega
        clear hRR
        cases tb1
        · replace T1 := T1.out
          simp only [Bool.false_eq_true, if_false] at T1
          replace T1 := Lib.hid T1
          cases tb2
          · replace T2 := T2.out
            simp only [Bool.false_eq_true, if_false] at T2
            replace T2 := Lib.hid T2
            go_wp2_with fail
            refine (T1.out wc).mono ?_
            rintro e u4 ⟨rfl, hb⟩
            have k4 := Lib.hid (show Below V.heap.size V u4 from kc.out.trans (hb.mono kc.out.size))
            clear hb c0 c1 c2 c3
            obtain ⟨X, eX, hbX, HX⟩ := qt_box u4 (0) (0)
            have kX := Lib.hid (show Below V.heap.size V X from k4.out.trans (hbX.mono k4.out.size))
            obtain ⟨C, eC⟩ : ∃ C, u4.heap.size = C := ⟨_, rfl⟩
            rw [eC] at HX
            replace HX := Lib.hid HX
            clear hbX
            replace eX := Lib.hid eX
            obtain ⟨c0, c1, c2, c3⟩ := HC.out X kX.out
            go_upto_region 13 with (fail)
            try rw [eC]
            rw [← eX.out]
            go_wp2_with fail
            refine (T2.out X).mono ?_
            rintro e u5 ⟨rfl, hb⟩
            have kX5 := Lib.hid (show Below X.heap.size X u5 from hb)
            have k5 := Lib.hid (show Below V.heap.size V u5 from kX.out.trans (hb.mono kX.out.size))
            clear hb c0 c1 c2 c3
            obtain ⟨Y, eY, hbY, HY⟩ := qt_box u5 (0) (0)
            have kY := Lib.hid (show Below V.heap.size V Y from k5.out.trans (hbY.mono k5.out.size))
            have kXY := Lib.hid (show Below X.heap.size X Y from kX5.out.trans (hbY.mono kX5.out.size))
            obtain ⟨D, eD⟩ : ∃ D, u5.heap.size = D := ⟨_, rfl⟩
            rw [eD] at HY
            replace eY := Lib.hid eY
            obtain ⟨c0, c1, c2, c3⟩ := HC.out Y kY.out
            obtain ⟨z0, z1⟩ := HX.out Y kXY.out
            obtain ⟨o0, o1⟩ := HY Y (Below.refl _ _)
            clear hbY HY
            go_upto_region 14 with (fail)
            try rw [eD]
            rw [← eY.out]
            go_wp2_with fail
            refine (LV.out _ (HW.out _ kY.out)).mono ?_
            rintro e u9 ⟨rfl, hb⟩
            have kL := Lib.hid (show Below w.heap.size w u9 from HW.out u9 (kY.out.trans (hb.mono kY.out.size)))
            clear hb
            go_wp2
            go_ret
            exact ⟨rfl, kL.out⟩
          · replace T2 := T2.out
            simp only [if_true] at T2
            replace T2 := Lib.hid T2
            go_wp2_with fail
            refine (T1.out wc).mono ?_
            rintro e u4 ⟨rfl, hb⟩
            have k4 := Lib.hid (show Below V.heap.size V u4 from kc.out.trans (hb.mono kc.out.size))
            clear hb c0 c1 c2 c3
            obtain ⟨X, eX, hbX, HX⟩ := qt_box u4 (0) (0)
            have kX := Lib.hid (show Below V.heap.size V X from k4.out.trans (hbX.mono k4.out.size))
            obtain ⟨C, eC⟩ : ∃ C, u4.heap.size = C := ⟨_, rfl⟩
            rw [eC] at HX
            replace HX := Lib.hid HX
            clear hbX
            replace eX := Lib.hid eX
            obtain ⟨c0, c1, c2, c3⟩ := HC.out X kX.out
            go_upto_region 13 with (fail)
            try rw [eC]
            rw [← eX.out]
            go_wp2_with fail
            refine (T2.out X).mono ?_
            rintro e u5 ⟨rfl, hb⟩
            have kX5 := Lib.hid (show Below X.heap.size X u5 from hb)
            have k5 := Lib.hid (show Below V.heap.size V u5 from kX.out.trans (hb.mono kX.out.size))
            clear hb c0 c1 c2 c3
            obtain ⟨Y, eY, hbY, HY⟩ := qt_box u5 (tv2) (x)
            have kY := Lib.hid (show Below V.heap.size V Y from k5.out.trans (hbY.mono k5.out.size))
            have kXY := Lib.hid (show Below X.heap.size X Y from kX5.out.trans (hbY.mono kX5.out.size))
            obtain ⟨D, eD⟩ : ∃ D, u5.heap.size = D := ⟨_, rfl⟩
            rw [eD] at HY
            replace eY := Lib.hid eY
            obtain ⟨c0, c1, c2, c3⟩ := HC.out Y kY.out
            obtain ⟨z0, z1⟩ := HX.out Y kXY.out
            obtain ⟨o0, o1⟩ := HY Y (Below.refl _ _)
            clear hbY HY
            go_upto_region 14 with (fail)
            try rw [eD]
            rw [← eY.out]
            go_wp2_with fail
            refine (LV.out _ (HW.out _ kY.out)).mono ?_
            rintro e u9 ⟨rfl, hb⟩
            have kL := Lib.hid (show Below w.heap.size w u9 from HW.out u9 (kY.out.trans (hb.mono kY.out.size)))
            clear hb
            go_wp2
            go_ret
            exact ⟨rfl, kL.out⟩
        · replace T1 := T1.out
          simp only [if_true] at T1
          replace T1 := Lib.hid T1
          cases tb2
          · replace T2 := T2.out
            simp only [Bool.false_eq_true, if_false] at T2
            replace T2 := Lib.hid T2
            go_wp2_with fail
            refine (T1.out wc).mono ?_
            rintro e u4 ⟨rfl, hb⟩
            have k4 := Lib.hid (show Below V.heap.size V u4 from kc.out.trans (hb.mono kc.out.size))
            clear hb c0 c1 c2 c3
            obtain ⟨X, eX, hbX, HX⟩ := qt_box u4 (tv1) (x)
            have kX := Lib.hid (show Below V.heap.size V X from k4.out.trans (hbX.mono k4.out.size))
            obtain ⟨C, eC⟩ : ∃ C, u4.heap.size = C := ⟨_, rfl⟩
            rw [eC] at HX
            replace HX := Lib.hid HX
            clear hbX
            replace eX := Lib.hid eX
            obtain ⟨c0, c1, c2, c3⟩ := HC.out X kX.out
            go_upto_region 13 with (fail)
            try rw [eC]
            rw [← eX.out]
            go_wp2_with fail
            refine (T2.out X).mono ?_
            rintro e u5 ⟨rfl, hb⟩
            have kX5 := Lib.hid (show Below X.heap.size X u5 from hb)
            have k5 := Lib.hid (show Below V.heap.size V u5 from kX.out.trans (hb.mono kX.out.size))
            clear hb c0 c1 c2 c3
            obtain ⟨Y, eY, hbY, HY⟩ := qt_box u5 (0) (0)
            have kY := Lib.hid (show Below V.heap.size V Y from k5.out.trans (hbY.mono k5.out.size))
            have kXY := Lib.hid (show Below X.heap.size X Y from kX5.out.trans (hbY.mono kX5.out.size))
            obtain ⟨D, eD⟩ : ∃ D, u5.heap.size = D := ⟨_, rfl⟩
            rw [eD] at HY
            replace eY := Lib.hid eY
            obtain ⟨c0, c1, c2, c3⟩ := HC.out Y kY.out
            obtain ⟨z0, z1⟩ := HX.out Y kXY.out
            obtain ⟨o0, o1⟩ := HY Y (Below.refl _ _)
            clear hbY HY
            go_upto_region 14 with (fail)
            try rw [eD]
            rw [← eY.out]
            go_wp2_with fail
            refine (LV.out _ (HW.out _ kY.out)).mono ?_
            rintro e u9 ⟨rfl, hb⟩
            have kL := Lib.hid (show Below w.heap.size w u9 from HW.out u9 (kY.out.trans (hb.mono kY.out.size)))
            clear hb
            go_wp2
            go_ret
            exact ⟨rfl, kL.out⟩
          · replace T2 := T2.out
            simp only [if_true] at T2
            replace T2 := Lib.hid T2
            rcases Int.lt_trichotomy n m with z | z | z
            · have a1 : decide (m < n) = false := decide_eq_false (by omega)
              have a2 : decide (n < m) = true := decide_eq_true z
              have a3 : decide (tv1 ≤ tv2) = true := decide_eq_true (MO1.out rfl rfl (by omega))
              go_wp2_with fail
              refine (T1.out wc).mono ?_
              rintro e u4 ⟨rfl, hb⟩
              have k4 := Lib.hid (show Below V.heap.size V u4 from kc.out.trans (hb.mono kc.out.size))
              clear hb c0 c1 c2 c3
              obtain ⟨X, eX, hbX, HX⟩ := qt_box u4 (tv1) (x)
              have kX := Lib.hid (show Below V.heap.size V X from k4.out.trans (hbX.mono k4.out.size))
              obtain ⟨C, eC⟩ : ∃ C, u4.heap.size = C := ⟨_, rfl⟩
              rw [eC] at HX
              replace HX := Lib.hid HX
              clear hbX
              replace eX := Lib.hid eX
              obtain ⟨c0, c1, c2, c3⟩ := HC.out X kX.out
              go_upto_region 13 with (fail)
              try rw [eC]
              rw [← eX.out]
              go_wp2_with fail
              refine (T2.out X).mono ?_
              rintro e u5 ⟨rfl, hb⟩
              have kX5 := Lib.hid (show Below X.heap.size X u5 from hb)
              have k5 := Lib.hid (show Below V.heap.size V u5 from kX.out.trans (hb.mono kX.out.size))
              clear hb c0 c1 c2 c3
              obtain ⟨Y, eY, hbY, HY⟩ := qt_box u5 (tv2) (x)
              have kY := Lib.hid (show Below V.heap.size V Y from k5.out.trans (hbY.mono k5.out.size))
              have kXY := Lib.hid (show Below X.heap.size X Y from kX5.out.trans (hbY.mono kX5.out.size))
              obtain ⟨D, eD⟩ : ∃ D, u5.heap.size = D := ⟨_, rfl⟩
              rw [eD] at HY
              replace eY := Lib.hid eY
              obtain ⟨c0, c1, c2, c3⟩ := HC.out Y kY.out
              obtain ⟨z0, z1⟩ := HX.out Y kXY.out
              obtain ⟨o0, o1⟩ := HY Y (Below.refl _ _)
              clear hbY HY
              go_upto_region 14 with (fail)
              try rw [eD]
              rw [← eY.out]
              go_wp2_with fail
              refine (LV.out _ (HW.out _ kY.out)).mono ?_
              rintro e u9 ⟨rfl, hb⟩
              have kL := Lib.hid (show Below w.heap.size w u9 from HW.out u9 (kY.out.trans (hb.mono kY.out.size)))
              clear hb
              go_wp2
              go_ret
              exact ⟨rfl, kL.out⟩
            · have a1 : decide (m < n) = false := decide_eq_false (by omega)
              have a2 : decide (n < m) = false := decide_eq_false (by omega)
              have a3 : decide (tv1 ≤ tv2) = true := decide_eq_true (by have := EQQ.out z; omega)
              have a4 : decide (tv2 ≤ tv1) = true := decide_eq_true (by have := EQQ.out z; omega)
              clear z
              go_wp2_with fail
              refine (T1.out wc).mono ?_
              rintro e u4 ⟨rfl, hb⟩
              have k4 := Lib.hid (show Below V.heap.size V u4 from kc.out.trans (hb.mono kc.out.size))
              clear hb c0 c1 c2 c3
              obtain ⟨X, eX, hbX, HX⟩ := qt_box u4 (tv1) (x)
              have kX := Lib.hid (show Below V.heap.size V X from k4.out.trans (hbX.mono k4.out.size))
              obtain ⟨C, eC⟩ : ∃ C, u4.heap.size = C := ⟨_, rfl⟩
              rw [eC] at HX
              replace HX := Lib.hid HX
              clear hbX
              replace eX := Lib.hid eX
              obtain ⟨c0, c1, c2, c3⟩ := HC.out X kX.out
              go_upto_region 13 with (fail)
              try rw [eC]
              rw [← eX.out]
              go_wp2_with fail
              refine (T2.out X).mono ?_
              rintro e u5 ⟨rfl, hb⟩
              have kX5 := Lib.hid (show Below X.heap.size X u5 from hb)
              have k5 := Lib.hid (show Below V.heap.size V u5 from kX.out.trans (hb.mono kX.out.size))
              clear hb c0 c1 c2 c3
              obtain ⟨Y, eY, hbY, HY⟩ := qt_box u5 (tv2) (x)
              have kY := Lib.hid (show Below V.heap.size V Y from k5.out.trans (hbY.mono k5.out.size))
              have kXY := Lib.hid (show Below X.heap.size X Y from kX5.out.trans (hbY.mono kX5.out.size))
              obtain ⟨D, eD⟩ : ∃ D, u5.heap.size = D := ⟨_, rfl⟩
              rw [eD] at HY
              replace eY := Lib.hid eY
              obtain ⟨c0, c1, c2, c3⟩ := HC.out Y kY.out
              obtain ⟨z0, z1⟩ := HX.out Y kXY.out
              obtain ⟨o0, o1⟩ := HY Y (Below.refl _ _)
              clear hbY HY
              go_upto_region 14 with (fail)
              try rw [eD]
              rw [← eY.out]
              go_wp2_with fail
              refine (LV.out _ (HW.out _ kY.out)).mono ?_
              rintro e u9 ⟨rfl, hb⟩
              have kL := Lib.hid (show Below w.heap.size w u9 from HW.out u9 (kY.out.trans (hb.mono kY.out.size)))
              clear hb
              go_wp2
              go_ret
              exact ⟨rfl, kL.out⟩
            · have a1 : decide (m < n) = true := decide_eq_true z
              have a2 : decide (n < m) = false := decide_eq_false (by omega)
              have a4 : decide (tv2 ≤ tv1) = true := decide_eq_true (MO2.out rfl rfl (by omega))
              go_wp2_with fail
              refine (T1.out wc).mono ?_
              rintro e u4 ⟨rfl, hb⟩
              have k4 := Lib.hid (show Below V.heap.size V u4 from kc.out.trans (hb.mono kc.out.size))
              clear hb c0 c1 c2 c3
              obtain ⟨X, eX, hbX, HX⟩ := qt_box u4 (tv1) (x)
              have kX := Lib.hid (show Below V.heap.size V X from k4.out.trans (hbX.mono k4.out.size))
              obtain ⟨C, eC⟩ : ∃ C, u4.heap.size = C := ⟨_, rfl⟩
              rw [eC] at HX
              replace HX := Lib.hid HX
              clear hbX
              replace eX := Lib.hid eX
              obtain ⟨c0, c1, c2, c3⟩ := HC.out X kX.out
              go_upto_region 13 with (fail)
              try rw [eC]
              rw [← eX.out]
              go_wp2_with fail
              refine (T2.out X).mono ?_
              rintro e u5 ⟨rfl, hb⟩
              have kX5 := Lib.hid (show Below X.heap.size X u5 from hb)
              have k5 := Lib.hid (show Below V.heap.size V u5 from kX.out.trans (hb.mono kX.out.size))
              clear hb c0 c1 c2 c3
              obtain ⟨Y, eY, hbY, HY⟩ := qt_box u5 (tv2) (x)
              have kY := Lib.hid (show Below V.heap.size V Y from k5.out.trans (hbY.mono k5.out.size))
              have kXY := Lib.hid (show Below X.heap.size X Y from kX5.out.trans (hbY.mono kX5.out.size))
              obtain ⟨D, eD⟩ : ∃ D, u5.heap.size = D := ⟨_, rfl⟩
              rw [eD] at HY
              replace eY := Lib.hid eY
              obtain ⟨c0, c1, c2, c3⟩ := HC.out Y kY.out
              obtain ⟨z0, z1⟩ := HX.out Y kXY.out
              obtain ⟨o0, o1⟩ := HY Y (Below.refl _ _)
              clear hbY HY
              go_upto_region 14 with (fail)
              try rw [eD]
              rw [← eY.out]
              go_wp2_with fail
              refine (LV.out _ (HW.out _ kY.out)).mono ?_
              rintro e u9 ⟨rfl, hb⟩
              have kL := Lib.hid (show Below w.heap.size w u9 from HW.out u9 (kY.out.trans (hb.mono kY.out.size)))
              clear hb
              go_wp2
              go_ret
              exact ⟨rfl, kL.out⟩
end Go.Proofs.YtfejdbmamaggpaaDoor
