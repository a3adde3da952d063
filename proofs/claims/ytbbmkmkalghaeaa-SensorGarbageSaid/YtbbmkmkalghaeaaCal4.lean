/- Package cal: what it tells, and the document's; walked. -/
import Derived.Test.YtbbmkmkalghaeaaCal3
namespace Go.Proofs.Ytbbmkmkalghaeaa
open Go.ChangeShapes Go.WideShapes Go.ChangeAt Go.RowKit
set_option linter.unusedVariables false
set_option linter.unusedSimpArgs false

set_option maxHeartbeats 2000000 in
theorem cat_ok {ga of sl dr : Int} (h : clR ga of sl dr = true) (x t : Int) (w : World) : Calls Try.prog 115 #[.agg #[.int .i64 ga, .int .i64 of, .int .i64 sl, .int .i64 dr], .int .i64 x, .int .i64 t] w fun e w' => e = .returned (.tuple #[.int .i64 (clV ga of sl dr x t), .bool true]) ∧ Below w.heap.size w w' := by
  have RT := fun u => cright_any ga of sl dr u
  rw [h] at RT
  replace RT := Lib.hid RT
  have VL := Lib.hid (fun u => cvalue_any (clR_ok h) x t u)
  generalize clV ga of sl dr x t = R at *
  clear h
  obtain ⟨V, eV, hb0, hz, hcs⟩ := cal_box w ga of sl dr
  replace hb0 := Lib.hid hb0
  replace hz := Lib.hid hz
  replace hcs := Lib.hid hcs
  replace eV := Lib.hid eV
  go_enter Try.func115, Try.ntmps115
  go_wp2_with fail
  rw [← eV.out]
  obtain ⟨k0, k1, k2, k3⟩ := hcs.out _ (Below.refl _ _)
  go_wp2_with fail
  refine (RT.out _).mono ?_
  rintro e w1 ⟨rfl, hb1⟩
  have hb1 := (Below.refl (w.heap.size + 1) V).trans (hb1.mono (Nat.le_of_eq hz.out.symm))
  obtain ⟨k0, k1, k2, k3⟩ := hcs.out _ hb1
  go_wp2_with fail
  refine (VL.out _).mono ?_
  rintro e w2 ⟨rfl, hb2⟩
  have hb2 := hb1.trans (hb2.mono (by have := hb1.size; have := hz.out; omega))
  go_wp2
  go_ret2
  exact ⟨rfl, hb0.out.trans (hb2.mono (by omega))⟩
set_option maxHeartbeats 2000000 in
theorem cat_no {ga of sl dr : Int} (h : clR ga of sl dr = false) (x t : Int) (w : World) : Calls Try.prog 115 #[.agg #[.int .i64 ga, .int .i64 of, .int .i64 sl, .int .i64 dr], .int .i64 x, .int .i64 t] w fun e w' => e = .returned (.tuple #[.int .i64 0, .bool false]) ∧ Below w.heap.size w w' := by
  have RT := fun u => cright_any ga of sl dr u
  rw [h] at RT
  replace RT := Lib.hid RT
  clear h
  obtain ⟨V, eV, hb0, hz, hcs⟩ := cal_box w ga of sl dr
  replace hb0 := Lib.hid hb0
  replace hz := Lib.hid hz
  replace hcs := Lib.hid hcs
  replace eV := Lib.hid eV
  go_enter Try.func115, Try.ntmps115
  go_wp2_with fail
  rw [← eV.out]
  obtain ⟨k0, k1, k2, k3⟩ := hcs.out _ (Below.refl _ _)
  go_wp2_with fail
  refine (RT.out _).mono ?_
  rintro e w1 ⟨rfl, hb1⟩
  have hb1 := (Below.refl (w.heap.size + 1) V).trans (hb1.mono (Nat.le_of_eq hz.out.symm))
  go_wp2
  go_ret2
  exact ⟨rfl, hb0.out.trans (hb1.mono (by omega))⟩
set_option maxRecDepth 100000 in
set_option maxHeartbeats 4000000 in
theorem rat14_any {ga of sl dr : Int} (ok : ClOk ga of sl dr) (x t : Int) (w : World) : Calls Try.prog 27 #[.agg #[.int .i64 ga, .int .i64 of, .int .i64 sl, .int .i64 dr], .int .i64 x, .int .i64 t] w fun e w' => e = .returned (.int .i64 (clV ga of sl dr x t)) ∧ Below w.heap.size w w' := by
  have gb := clP_bd ok t
  have mb := clM_bd ok t x
  have sb := clS_bd ok t
  have hT := clT_bd t
  have hX := clX_bd x
  have GN := Lib.hid (fun u => rgain_any ok t u)
  obtain ⟨a1, a2, b1, b2, c1, c2, d1, d2⟩ := ok
  have CX := fun u => clip09_any x (-8388608) 8388607 (by omega) u
  rw [show (if x < -8388608 then -8388608 else if 8388607 < x then 8388607 else x : Int) = clX x from rfl] at CX
  replace CX := Lib.hid CX
  have CT := fun u => clip09_any t (-128) 127 (by omega) u
  rw [show (if t < -128 then -128 else if 127 < t then 127 else t : Int) = clT t from rfl] at CT
  replace CT := Lib.hid CT
  have F1 := Lib.hid (fun u => floor01_any (clG ga dr t * clX x) 65536 u (by omega) (by omega) (by omega))
  have F2 := Lib.hid (fun u => floor01_any (sl * clT t) 256 u (by omega) (by omega) (by omega))
  have HV := Lib.hid (show clV ga of sl dr x t = of + clG ga dr t * clX x / 65536 + sl * clT t / 256 from rfl)
  have hw3 : IntKind.i64.wrap (clG ga dr t * clX x) = clG ga dr t * clX x := IntWalk.i64_in _ ⟨by omega, by omega⟩
  have hw4 : IntKind.i64.wrap (sl * clT t) = sl * clT t := IntWalk.i64_in _ ⟨by omega, by omega⟩
  have hw1 : IntKind.i64.wrap (of + clG ga dr t * clX x / 65536) = of + clG ga dr t * clX x / 65536 := IntWalk.i64_in _ ⟨by omega, by omega⟩
  have hw2 : IntKind.i64.wrap (of + clG ga dr t * clX x / 65536 + sl * clT t / 256) = of + clG ga dr t * clX x / 65536 + sl * clT t / 256 := IntWalk.i64_in _ ⟨by omega, by omega⟩
  clear mb sb gb
  generalize clV ga of sl dr x t = R at *
  generalize clG ga dr t = G at *
  generalize clT t = T at *
  generalize clX x = X at *
  obtain ⟨V, eV, hb0, hz, hcs⟩ := cal_box w ga of sl dr
  replace hb0 := Lib.hid hb0
  replace hz := Lib.hid hz
  replace hcs := Lib.hid hcs
  replace eV := Lib.hid eV
  go_enter Try.func27, Try.ntmps27
  go_wp2_with fail
  rw [← eV.out]
  obtain ⟨k0, k1, k2, k3⟩ := hcs.out _ (Below.refl _ _)
  go_wp2_with fail
  refine (CX.out _).mono ?_
  rintro e w1 ⟨rfl, rfl⟩
  go_wp2_with fail
  refine region_moves (fun u => u.cell? ⟨w.heap.size, 0, none⟩ = some (.int .i64 ga) ∧ u.cell? ⟨w.heap.size, 1, none⟩ = some (.int .i64 of) ∧ u.cell? ⟨w.heap.size, 2, none⟩ = some (.int .i64 sl) ∧ u.cell? ⟨w.heap.size, 3, none⟩ = some (.int .i64 dr)) [] [(.free, 0), (.take, 1), (.take, 2), (.free, 3), (.free, 5), (.free, 9), (.take, 10), (.free, 11), (.step, 4), (.free, 6), (.step, 7), (.free, 8), (.step, 12), (.free, 13), (.step, 14), (.free, 15), (.free, 16)] _ (by kernel_rfl) (by kernel_rfl) (by kernel_rfl) (by kernel_rfl) (by decide) rfl (fun _ _ _ _ _ h => h) ?_
  simp only [List.filterMap_cons, List.filterMap_nil, List.getElem?_toArray, List.getElem?_cons_zero, List.getElem?_cons_succ, Option.map_some]
  iterate 1
    first
      | (refine mv_free ?_ (Or.inl ⟨by rfl, ?_⟩) (⟨k0, k1, k2, k3⟩) ?_
         rotate_left 1
         · intro u
           go_simp
           try with_reducible rfl
         simp only [Act.put, List.setIfInBounds_toArray, List.set_cons_zero, List.set_cons_succ])
      | (refine mv_free _ (Or.inr ⟨by rfl, rfl⟩) (⟨k0, k1, k2, k3⟩) ?_
         simp only [Act.put, List.setIfInBounds_toArray, List.set_cons_zero, List.set_cons_succ])
  iterate 2
    first
      | (refine mv_take ?_ (Or.inl ⟨by rfl, ?_⟩) (⟨k0, k1, k2, k3⟩) ?_
         rotate_left 1
         · intro u hu
           (try dsimp only at hu)
           go_simp
           try with_reducible rfl
         simp only [Act.put, List.setIfInBounds_toArray, List.set_cons_zero, List.set_cons_succ])
      | (refine mv_take _ (Or.inr ⟨by rfl, rfl⟩) (⟨k0, k1, k2, k3⟩) ?_
         simp only [Act.put, List.setIfInBounds_toArray, List.set_cons_zero, List.set_cons_succ])
  iterate 3
    first
      | (refine mv_free ?_ (Or.inl ⟨by rfl, ?_⟩) (⟨k0, k1, k2, k3⟩) ?_
         rotate_left 1
         · intro u
           go_simp
           try with_reducible rfl
         simp only [Act.put, List.setIfInBounds_toArray, List.set_cons_zero, List.set_cons_succ])
      | (refine mv_free _ (Or.inr ⟨by rfl, rfl⟩) (⟨k0, k1, k2, k3⟩) ?_
         simp only [Act.put, List.setIfInBounds_toArray, List.set_cons_zero, List.set_cons_succ])
  iterate 1
    first
      | (refine mv_take ?_ (Or.inl ⟨by rfl, ?_⟩) (⟨k0, k1, k2, k3⟩) ?_
         rotate_left 1
         · intro u hu
           (try dsimp only at hu)
           go_simp
           try with_reducible rfl
         simp only [Act.put, List.setIfInBounds_toArray, List.set_cons_zero, List.set_cons_succ])
      | (refine mv_take _ (Or.inr ⟨by rfl, rfl⟩) (⟨k0, k1, k2, k3⟩) ?_
         simp only [Act.put, List.setIfInBounds_toArray, List.set_cons_zero, List.set_cons_succ])
  iterate 1
    first
      | (refine mv_free ?_ (Or.inl ⟨by rfl, ?_⟩) (⟨k0, k1, k2, k3⟩) ?_
         rotate_left 1
         · intro u
           go_simp
           try with_reducible rfl
         simp only [Act.put, List.setIfInBounds_toArray, List.set_cons_zero, List.set_cons_succ])
      | (refine mv_free _ (Or.inr ⟨by rfl, rfl⟩) (⟨k0, k1, k2, k3⟩) ?_
         simp only [Act.put, List.setIfInBounds_toArray, List.set_cons_zero, List.set_cons_succ])
  refine mv_step (fun K hK => ?_)
  go_simp
  refine (GN.out _).mono ?_
  rintro e w2 ⟨rfl, hb2⟩
  go_wp2_with fail
  have hb2 := (Below.refl (w.heap.size + 1) V).drew.trans (hb2.mono (by have := hz.out; show _ ≤ V.heap.size; omega))
  obtain ⟨k0, k1, k2, k3⟩ := hcs.out _ hb2
  refine hK.out _ _ _ (fun u hu => hu) (⟨k0, k1, k2, k3⟩) ?_
  clear hK K
  iterate 1
    first
      | (refine mv_free ?_ (Or.inl ⟨by rfl, ?_⟩) (⟨k0, k1, k2, k3⟩) ?_
         rotate_left 1
         · intro u
           go_simp
           try with_reducible rfl
         simp only [Act.put, List.setIfInBounds_toArray, List.set_cons_zero, List.set_cons_succ])
      | (refine mv_free _ (Or.inr ⟨by rfl, rfl⟩) (⟨k0, k1, k2, k3⟩) ?_
         simp only [Act.put, List.setIfInBounds_toArray, List.set_cons_zero, List.set_cons_succ])
  refine mv_step (fun K hK => ?_)
  go_simp
  first | rw [hw3] | skip
  refine (F1.out _).mono ?_
  rintro e w3 ⟨rfl, rfl⟩
  go_wp2_with fail
  refine hK.out _ _ _ (fun u hu => hu) (⟨k0, k1, k2, k3⟩) ?_
  clear hK K
  iterate 1
    first
      | (refine mv_free ?_ (Or.inl ⟨by rfl, ?_⟩) (⟨k0, k1, k2, k3⟩) ?_
         rotate_left 1
         · intro u
           go_simp
           try with_reducible rfl
         simp only [Act.put, List.setIfInBounds_toArray, List.set_cons_zero, List.set_cons_succ])
      | (refine mv_free _ (Or.inr ⟨by rfl, rfl⟩) (⟨k0, k1, k2, k3⟩) ?_
         simp only [Act.put, List.setIfInBounds_toArray, List.set_cons_zero, List.set_cons_succ])
  refine mv_step (fun K hK => ?_)
  go_simp
  refine (CT.out _).mono ?_
  rintro e w4 ⟨rfl, rfl⟩
  go_wp2_with fail
  refine hK.out _ _ _ (fun u hu => hu) (⟨k0, k1, k2, k3⟩) ?_
  clear hK K
  iterate 1
    first
      | (refine mv_free ?_ (Or.inl ⟨by rfl, ?_⟩) (⟨k0, k1, k2, k3⟩) ?_
         rotate_left 1
         · intro u
           go_simp
           try with_reducible rfl
         simp only [Act.put, List.setIfInBounds_toArray, List.set_cons_zero, List.set_cons_succ])
      | (refine mv_free _ (Or.inr ⟨by rfl, rfl⟩) (⟨k0, k1, k2, k3⟩) ?_
         simp only [Act.put, List.setIfInBounds_toArray, List.set_cons_zero, List.set_cons_succ])
  refine mv_step (fun K hK => ?_)
  go_simp
  first | rw [hw4] | skip
  refine (F2.out _).mono ?_
  rintro e w5 ⟨rfl, rfl⟩
  go_wp2_with fail
  refine hK.out _ _ _ (fun u hu => hu) (⟨k0, k1, k2, k3⟩) ?_
  clear hK K
  iterate 2
    first
      | (refine mv_free ?_ (Or.inl ⟨by rfl, ?_⟩) (⟨k0, k1, k2, k3⟩) ?_
         rotate_left 1
         · intro u
           go_simp
           try with_reducible rfl
         simp only [Act.put, List.setIfInBounds_toArray, List.set_cons_zero, List.set_cons_succ])
      | (refine mv_free _ (Or.inr ⟨by rfl, rfl⟩) (⟨k0, k1, k2, k3⟩) ?_
         simp only [Act.put, List.setIfInBounds_toArray, List.set_cons_zero, List.set_cons_succ])
  refine mv_done ?_
  go_wp2
  go_ret
  refine ⟨ret_int ?_, hb0.out.trans (hb2.mono (by omega))⟩
  rw [HV.out]
  first | done | exact hw2 | (rw [hw1, hw2])
end Go.Proofs.Ytbbmkmkalghaeaa
