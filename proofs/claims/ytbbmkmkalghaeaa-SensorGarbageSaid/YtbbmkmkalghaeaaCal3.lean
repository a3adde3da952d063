/- Package cal: what it tells, and the document's; walked. -/
import Derived.Test.YtbbmkmkalghaeaaCal2
namespace Go.Proofs.Ytbbmkmkalghaeaa
open Go.ChangeShapes Go.WideShapes Go.ChangeAt Go.RowKit
set_option linter.unusedVariables false
set_option linter.unusedSimpArgs false

theorem clX_is (x : Int) : (x < -8388608 ∧ clX x = -8388608) ∨ (8388607 < x ∧ clX x = 8388607) ∨ (-8388608 ≤ x ∧ x ≤ 8388607 ∧ clX x = x) := by unfold clX; omega
set_option maxRecDepth 100000 in
set_option maxHeartbeats 4000000 in
theorem cvalue_any {ga of sl dr : Int} (ok : ClOk ga of sl dr) (x t : Int) (w : World) : Calls Try.prog 129 #[.agg #[.int .i64 ga, .int .i64 of, .int .i64 sl, .int .i64 dr], .int .i64 x, .int .i64 t] w fun e w' => e = .returned (.int .i64 (clV ga of sl dr x t)) ∧ Below w.heap.size w w' := by
  have gb := clP_bd ok t
  have mb := clM_bd ok t x
  have sb := clS_bd ok t
  have hT := clT_bd t
  have hX := clX_bd x
  have hX2 := clX_is x
  have GN := Lib.hid (fun u => cgain_any ok t u)
  obtain ⟨a1, a2, b1, b2, c1, c2, d1, d2⟩ := ok
  have F1 := fun u => floor_any (clG ga dr t) (clX x) 65536 u (by omega) (by omega) (by omega) (by omega) (by omega) (by omega)
  rw [flV_pos (by omega) (by omega) (by omega)] at F1
  replace F1 := Lib.hid F1
  have F2 := fun u => floor_any sl (clT t) 256 u (by omega) (by omega) (by omega) (by omega) (by omega) (by omega)
  rw [flV_pos (by omega) (by omega) (by omega)] at F2
  replace F2 := Lib.hid F2
  have CL := Lib.hid (fun u => cclip_any t u)
  have HV := Lib.hid (show clV ga of sl dr x t = of + clG ga dr t * clX x / 65536 + sl * clT t / 256 from rfl)
  obtain ⟨-, -, m1, m2⟩ := mb
  obtain ⟨-, -, s1, s2⟩ := sb
  obtain ⟨-, -, -, -, g1, g2⟩ := gb
  generalize clV ga of sl dr x t = R at *
  generalize clG ga dr t * clX x / 65536 = P at *
  generalize sl * clT t / 256 = Q at *
  generalize clG ga dr t = G at *
  generalize clT t = T at *
  generalize clX x = X at *
  have hw1 : IntKind.i64.wrap (of + P) = of + P := IntWalk.i64_in _ ⟨by omega, by omega⟩
  have hw2 : IntKind.i64.wrap (of + P + Q) = of + P + Q := IntWalk.i64_in _ ⟨by omega, by omega⟩
  obtain ⟨V, eV, hb0, hz, hcs⟩ := cal_box w ga of sl dr
  replace hb0 := Lib.hid hb0
  replace hz := Lib.hid hz
  replace hcs := Lib.hid hcs
  replace eV := Lib.hid eV
  rcases hX2 with ⟨x1, rfl⟩ | ⟨x1, rfl⟩ | ⟨x1, x2, rfl⟩
  all_goals
    go_enter Try.func129, Try.ntmps129
    go_wp2_with fail
    all_goals first | (exfalso; omega) | skip
    rw [← eV.out]
    obtain ⟨k0, k1, k2, k3⟩ := hcs.out _ (Below.refl _ _)
    go_wp2_with fail
    refine (GN.out _).mono ?_
    rintro e w1 ⟨rfl, hb1⟩
    have hb1 := (Below.refl (w.heap.size + 1) V).trans (hb1.mono (Nat.le_of_eq hz.out.symm))
    obtain ⟨k0, k1, k2, k3⟩ := hcs.out _ hb1
    go_wp2_with fail
    refine (F1.out _).mono ?_
    rintro e w2 ⟨rfl, hb2⟩
    have hb2 := hb1.trans (hb2.mono (by have := hb1.size; have := hz.out; omega))
    obtain ⟨k0, k1, k2, k3⟩ := hcs.out _ hb2
    clear hb1
    go_wp2_with fail
    refine region_moves (fun u => u.cell? ⟨w.heap.size, 0, none⟩ = some (.int .i64 ga) ∧ u.cell? ⟨w.heap.size, 1, none⟩ = some (.int .i64 of) ∧ u.cell? ⟨w.heap.size, 2, none⟩ = some (.int .i64 sl) ∧ u.cell? ⟨w.heap.size, 3, none⟩ = some (.int .i64 dr)) [] [(.free, 0), (.take, 1), (.free, 2), (.step, 3), (.step, 4), (.free, 5), (.free, 6), (.free, 7), (.free, 8), (.free, 9)] _ (by kernel_rfl) (by kernel_rfl) (by kernel_rfl) (by kernel_rfl) (by decide) rfl (fun _ _ _ _ _ h => h) ?_
    simp only [List.filterMap_cons, List.filterMap_nil, List.getElem?_toArray, List.getElem?_cons_zero, List.getElem?_cons_succ, Option.map_some]
    iterate 1
      first
        | (refine mv_free ?_ (Or.inl ⟨by rfl, ?_⟩) (⟨k0, k1, k2, k3⟩) ?_
           rotate_left 1
           · intro u
             go_simp
             try with_reducible rfl
           simp only [Act.put, List.setIfInBounds_toArray, List.set_cons_zero, List.set_cons_succ])
        | (refine mv_free _ (Or.inr ⟨by rfl, rfl⟩) (⟨k0, k1, k2, k3⟩) ?_
           simp only [Act.put, List.setIfInBounds_toArray, List.set_cons_zero, List.set_cons_succ])
    iterate 1
      first
        | (refine mv_take ?_ (Or.inl ⟨by rfl, ?_⟩) (⟨k0, k1, k2, k3⟩) ?_
           rotate_left 1
           · intro u hu
             (try dsimp only at hu)
             go_simp
             try with_reducible rfl
           simp only [Act.put, List.setIfInBounds_toArray, List.set_cons_zero, List.set_cons_succ])
        | (refine mv_take _ (Or.inr ⟨by rfl, rfl⟩) (⟨k0, k1, k2, k3⟩) ?_
           simp only [Act.put, List.setIfInBounds_toArray, List.set_cons_zero, List.set_cons_succ])
    iterate 1
      first
        | (refine mv_free ?_ (Or.inl ⟨by rfl, ?_⟩) (⟨k0, k1, k2, k3⟩) ?_
           rotate_left 1
           · intro u
             go_simp
             try with_reducible rfl
           simp only [Act.put, List.setIfInBounds_toArray, List.set_cons_zero, List.set_cons_succ])
        | (refine mv_free _ (Or.inr ⟨by rfl, rfl⟩) (⟨k0, k1, k2, k3⟩) ?_
           simp only [Act.put, List.setIfInBounds_toArray, List.set_cons_zero, List.set_cons_succ])
    refine mv_step (fun K hK => ?_)
    go_simp
    refine (CL.out _).mono ?_
    rintro e w1 ⟨rfl, rfl⟩
    go_wp2_with fail
    refine hK.out _ _ _ (fun u hu => hu) (⟨k0, k1, k2, k3⟩) ?_
    clear hK K
    refine mv_step (fun K hK => ?_)
    go_simp
    refine (F2.out _).mono ?_
    rintro e w3 ⟨rfl, hb3⟩
    go_wp2_with fail
    have hb3 := hb2.drew.trans (hb3.mono (by have := hb2.size; have := hz.out; show _ ≤ w2.heap.size; omega))
    obtain ⟨k0, k1, k2, k3⟩ := hcs.out _ hb3
    refine hK.out _ _ _ (fun u hu => hu) (⟨k0, k1, k2, k3⟩) ?_
    clear hK K
    iterate 5
      first
        | (refine mv_free ?_ (Or.inl ⟨by rfl, ?_⟩) (⟨k0, k1, k2, k3⟩) ?_
           rotate_left 1
           · intro u
             go_simp
             try with_reducible rfl
           simp only [Act.put, List.setIfInBounds_toArray, List.set_cons_zero, List.set_cons_succ])
        | (refine mv_free _ (Or.inr ⟨by rfl, rfl⟩) (⟨k0, k1, k2, k3⟩) ?_
           simp only [Act.put, List.setIfInBounds_toArray, List.set_cons_zero, List.set_cons_succ])
    refine mv_done ?_
    go_wp2
    go_ret
    refine ⟨ret_int ?_, hb0.out.trans (hb3.mono (by omega))⟩
    rw [HV.out]
    first | done | exact hw2 | (rw [hw1, hw2])
end Go.Proofs.Ytbbmkmkalghaeaa
