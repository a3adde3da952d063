/- Package cal: its functions, walked. -/
import Derived.Test.YtbbmkmkalghaeaaCal1
namespace Go.Proofs.Ytbbmkmkalghaeaa
open Go.ChangeShapes Go.WideShapes Go.ChangeAt Go.RowKit
set_option linter.unusedVariables false
set_option linter.unusedSimpArgs false

set_option maxHeartbeats 1000000 in
theorem cclip_any (t : Int) (w : World) : Calls Try.prog 137 #[.int .i64 t] w fun e w' => e = .returned (.int .i64 (clT t)) ∧ w = w' := by
  go_enter Try.func137, Try.ntmps137
  go_wp2
  all_goals
    go_ret
    exact ⟨ret_int (by unfold clT; omega), rfl⟩
set_option maxHeartbeats 1000000 in
theorem clip09_any (t a b : Int) (hab : a ≤ b) (w : World) : Calls Try.prog 87 #[.int .i64 t, .int .i64 a, .int .i64 b] w fun e w' => e = .returned (.int .i64 (if t < a then a else if b < t then b else t)) ∧ w = w' := by
  go_enter Try.func87, Try.ntmps87
  go_wp2
  all_goals
    go_ret
    exact ⟨ret_int (by omega), rfl⟩
set_option maxHeartbeats 4000000 in
theorem rright14_any (ga of sl dr : Int) (w : World) : Calls Try.prog 81 #[.agg #[.int .i64 ga, .int .i64 of, .int .i64 sl, .int .i64 dr]] w fun e w' => e = .returned (.bool (clR ga of sl dr)) ∧ Below w.heap.size w w' := by
  cases h : clR ga of sl dr
  · have h := clR_no h
    go_enter Try.func81, Try.ntmps81
    go_wp2
    all_goals first | (exfalso; omega) | skip
    all_goals
      go_ret
      refine ⟨ret_bool ?_, (by repeat (first | exact Below.refl _ _ | assumption | apply Below.drew | apply below_drewN | (refine Below.alloc ?_ (by first | exact Nat.le_refl _ | omega | (simp <;> omega)) _) | (refine Below.setCell ?_ (by first | exact Nat.le_refl _ | omega | (simp <;> omega)) _)))⟩
      first | rfl | (simp; done) | (simp; omega)
  · obtain ⟨h1, h2, h3, h4, h5, h6, h7, h8⟩ := clR_ok h
    clear h
    go_enter Try.func81, Try.ntmps81
    go_wp2
    all_goals first | (exfalso; omega) | skip
    all_goals
      go_ret
      refine ⟨ret_bool ?_, (by repeat (first | exact Below.refl _ _ | assumption | apply Below.drew | apply below_drewN | (refine Below.alloc ?_ (by first | exact Nat.le_refl _ | omega | (simp <;> omega)) _) | (refine Below.setCell ?_ (by first | exact Nat.le_refl _ | omega | (simp <;> omega)) _)))⟩
      first | rfl | (simp; done) | (simp; omega)
set_option maxHeartbeats 4000000 in
theorem cright_any (ga of sl dr : Int) (w : World) : Calls Try.prog 70 #[.agg #[.int .i64 ga, .int .i64 of, .int .i64 sl, .int .i64 dr]] w fun e w' => e = .returned (.bool (clR ga of sl dr)) ∧ Below w.heap.size w w' := by
  cases h : clR ga of sl dr
  · have h := clR_no h
    go_enter Try.func70, Try.ntmps70
    go_wp2_with (go_at_call 112; go_in)
    all_goals first | (exfalso; omega) | skip
    all_goals
      go_ret
      refine ⟨ret_bool ?_, (by repeat (first | exact Below.refl _ _ | assumption | apply Below.drew | apply below_drewN | (refine Below.alloc ?_ (by first | exact Nat.le_refl _ | omega | (simp <;> omega)) _) | (refine Below.setCell ?_ (by first | exact Nat.le_refl _ | omega | (simp <;> omega)) _)))⟩
      first | rfl | (simp; done) | (simp; omega)
  · obtain ⟨h1, h2, h3, h4, h5, h6, h7, h8⟩ := clR_ok h
    clear h
    go_enter Try.func70, Try.ntmps70
    go_wp2_with (go_at_call 112; go_in)
    all_goals first | (exfalso; omega) | skip
    all_goals
      go_ret
      refine ⟨ret_bool ?_, (by repeat (first | exact Below.refl _ _ | assumption | apply Below.drew | apply below_drewN | (refine Below.alloc ?_ (by first | exact Nat.le_refl _ | omega | (simp <;> omega)) _) | (refine Below.setCell ?_ (by first | exact Nat.le_refl _ | omega | (simp <;> omega)) _)))⟩
      first | rfl | (simp; done) | (simp; omega)
set_option maxRecDepth 100000 in
set_option maxHeartbeats 1000000 in
theorem rgain_any {ga of sl dr : Int} (ok : ClOk ga of sl dr) (t : Int) (w : World) : Calls Try.prog 89 #[.agg #[.int .i64 ga, .int .i64 of, .int .i64 sl, .int .i64 dr], .int .i64 t] w fun e w' => e = .returned (.int .i64 (clG ga dr t)) ∧ Below w.heap.size w w' := by
  have q := clP_bd ok t
  have hT := clT_bd t
  have hw : IntKind.i64.wrap (dr * clT t) = dr * clT t := IntWalk.i64_in _ ⟨by omega, by omega⟩
  have CL := fun u => clip09_any t (-128) 127 (by omega) u
  rw [show (if t < -128 then -128 else if 127 < t then 127 else t : Int) = clT t from rfl] at CL
  have CL0 := CL
  replace CL := Lib.hid CL
  have FL0 := fun u => floor01_any (dr * clT t) 256 u (by omega) (by omega) (by omega)
  have FL := Lib.hid FL0
  have HG := Lib.hid (show clG ga dr t = ga + dr * clT t / 256 from rfl)
  generalize clG ga dr t = G at *
  generalize clT t = T at *
  obtain ⟨a1, a2, b1, b2, c1, c2, d1, d2⟩ := ok
  clear CL0 FL0
  go_enter Try.func89, Try.ntmps89
  go_wp2_with fail
  refine region_still [] [(.free, 0), (.take, 1), (.free, 2), (.take, 3), (.free, 4), (.step, 5), (.free, 6), (.step, 7), (.free, 8), (.free, 9)] _ (by kernel_rfl) (by kernel_rfl) (by kernel_rfl) (by kernel_rfl) (by decide) rfl (fun _ _ _ _ _ h => h) ?_
  simp only [List.filterMap_cons, List.filterMap_nil, List.getElem?_toArray, List.getElem?_cons_zero, List.getElem?_cons_succ, Option.map_some]
  iterate 1
    first
      | (refine mv_free ?_ (Or.inl ⟨by rfl, ?_⟩) (rfl) ?_
         rotate_left 1
         · intro u
           go_simp
           try with_reducible rfl
         simp only [Act.put, List.setIfInBounds_toArray, List.set_cons_zero, List.set_cons_succ])
      | (refine mv_free _ (Or.inr ⟨by rfl, rfl⟩) (rfl) ?_
         simp only [Act.put, List.setIfInBounds_toArray, List.set_cons_zero, List.set_cons_succ])
  iterate 1
    first
      | (refine mv_take ?_ (Or.inl ⟨by rfl, ?_⟩) (rfl) ?_
         rotate_left 1
         · intro u hu
           (try dsimp only at hu)
           go_simp
           try with_reducible rfl
         simp only [Act.put, List.setIfInBounds_toArray, List.set_cons_zero, List.set_cons_succ])
      | (refine mv_take _ (Or.inr ⟨by rfl, rfl⟩) (rfl) ?_
         simp only [Act.put, List.setIfInBounds_toArray, List.set_cons_zero, List.set_cons_succ])
  iterate 1
    first
      | (refine mv_free ?_ (Or.inl ⟨by rfl, ?_⟩) (rfl) ?_
         rotate_left 1
         · intro u
           go_simp
           try with_reducible rfl
         simp only [Act.put, List.setIfInBounds_toArray, List.set_cons_zero, List.set_cons_succ])
      | (refine mv_free _ (Or.inr ⟨by rfl, rfl⟩) (rfl) ?_
         simp only [Act.put, List.setIfInBounds_toArray, List.set_cons_zero, List.set_cons_succ])
  iterate 1
    first
      | (refine mv_take ?_ (Or.inl ⟨by rfl, ?_⟩) (rfl) ?_
         rotate_left 1
         · intro u hu
           (try dsimp only at hu)
           go_simp
           try with_reducible rfl
         simp only [Act.put, List.setIfInBounds_toArray, List.set_cons_zero, List.set_cons_succ])
      | (refine mv_take _ (Or.inr ⟨by rfl, rfl⟩) (rfl) ?_
         simp only [Act.put, List.setIfInBounds_toArray, List.set_cons_zero, List.set_cons_succ])
  iterate 1
    first
      | (refine mv_free ?_ (Or.inl ⟨by rfl, ?_⟩) (rfl) ?_
         rotate_left 1
         · intro u
           go_simp
           try with_reducible rfl
         simp only [Act.put, List.setIfInBounds_toArray, List.set_cons_zero, List.set_cons_succ])
      | (refine mv_free _ (Or.inr ⟨by rfl, rfl⟩) (rfl) ?_
         simp only [Act.put, List.setIfInBounds_toArray, List.set_cons_zero, List.set_cons_succ])
  refine mv_step (fun K hK => ?_)
  go_simp
  refine (CL.out _).mono ?_
  rintro e w1 ⟨rfl, rfl⟩
  go_wp2_with fail
  refine hK.out _ _ _ (fun u hu => hu) (rfl) ?_
  clear hK K
  iterate 1
    first
      | (refine mv_free ?_ (Or.inl ⟨by rfl, ?_⟩) (rfl) ?_
         rotate_left 1
         · intro u
           go_simp
           try with_reducible rfl
         simp only [Act.put, List.setIfInBounds_toArray, List.set_cons_zero, List.set_cons_succ])
      | (refine mv_free _ (Or.inr ⟨by rfl, rfl⟩) (rfl) ?_
         simp only [Act.put, List.setIfInBounds_toArray, List.set_cons_zero, List.set_cons_succ])
  refine mv_step (fun K hK => ?_)
  go_simp
  first | rw [hw] | skip
  refine (FL.out _).mono ?_
  rintro e w1 ⟨rfl, rfl⟩
  go_wp2_with fail
  refine hK.out _ _ _ (fun u hu => hu) (rfl) ?_
  clear hK K
  iterate 2
    first
      | (refine mv_free ?_ (Or.inl ⟨by rfl, ?_⟩) (rfl) ?_
         rotate_left 1
         · intro u
           go_simp
           try with_reducible rfl
         simp only [Act.put, List.setIfInBounds_toArray, List.set_cons_zero, List.set_cons_succ])
      | (refine mv_free _ (Or.inr ⟨by rfl, rfl⟩) (rfl) ?_
         simp only [Act.put, List.setIfInBounds_toArray, List.set_cons_zero, List.set_cons_succ])
  refine mv_done ?_
  go_wp2
  go_ret
  refine ⟨ret_int ?_, (by repeat (first | exact Below.refl _ _ | assumption | apply Below.drew | apply below_drewN | (refine Below.alloc ?_ (by first | exact Nat.le_refl _ | omega | (simp <;> omega)) _) | (refine Below.setCell ?_ (by first | exact Nat.le_refl _ | omega | (simp <;> omega)) _)))⟩
  rw [HG.out]
  first | done | exact IntWalk.i64_in _ ⟨by omega, by omega⟩
theorem cal_box (w : World) (ga of sl dr : Int) : ∃ V, V = w.alloc (.cells #[.int .i64 ga, .int .i64 of, .int .i64 sl, .int .i64 dr] 23) ∧ Below w.heap.size w V ∧ V.heap.size = w.heap.size + 1 ∧ ∀ u, Below (w.heap.size + 1) V u → u.cell? ⟨w.heap.size, 0, none⟩ = some (.int .i64 ga) ∧ u.cell? ⟨w.heap.size, 1, none⟩ = some (.int .i64 of) ∧ u.cell? ⟨w.heap.size, 2, none⟩ = some (.int .i64 sl) ∧ u.cell? ⟨w.heap.size, 3, none⟩ = some (.int .i64 dr) :=
  ⟨_, rfl, (by repeat (first | exact Below.refl _ _ | assumption | apply Below.drew | apply below_drewN | (refine Below.alloc ?_ (by first | exact Nat.le_refl _ | omega | (simp <;> omega)) _) | (refine Below.setCell ?_ (by first | exact Nat.le_refl _ | omega | (simp <;> omega)) _))), by simp, fun u hu => ⟨(bc hu (by omega)).trans (by go_simp), (bc hu (by omega)).trans (by go_simp), (bc hu (by omega)).trans (by go_simp), (bc hu (by omega)).trans (by go_simp)⟩⟩
set_option maxRecDepth 100000 in
set_option maxHeartbeats 1000000 in
theorem cgain_any {ga of sl dr : Int} (ok : ClOk ga of sl dr) (t : Int) (w : World) : Calls Try.prog 136 #[.agg #[.int .i64 ga, .int .i64 of, .int .i64 sl, .int .i64 dr], .int .i64 t] w fun e w' => e = .returned (.int .i64 (clG ga dr t)) ∧ Below w.heap.size w w' := by
  have q := clP_bd ok t
  have hT := clT_bd t
  obtain ⟨a1, a2, b1, b2, c1, c2, d1, d2⟩ := ok
  have FT := fun u => floor_any dr (clT t) 256 u (by omega) (by omega) (by omega) (by omega) (by omega) (by omega)
  rw [flV_pos (by omega) (by omega) (by omega)] at FT
  replace FT := Lib.hid FT
  have CL := Lib.hid (fun u => cclip_any t u)
  have HG := Lib.hid (show clG ga dr t = ga + dr * clT t / 256 from rfl)
  generalize clG ga dr t = G at *
  generalize dr * clT t = P at *
  generalize clT t = T at *
  obtain ⟨V, eV, hb0, hz, hcs⟩ := cal_box w ga of sl dr
  replace hb0 := Lib.hid hb0
  replace hz := Lib.hid hz
  replace hcs := Lib.hid hcs
  replace eV := Lib.hid eV
  go_enter Try.func136, Try.ntmps136
  go_wp2_with fail
  rw [← eV.out]
  obtain ⟨k0, k1, k2, k3⟩ := hcs.out _ (Below.refl _ _)
  refine region_moves (fun u => u.cell? ⟨w.heap.size, 0, none⟩ = some (.int .i64 ga) ∧ u.cell? ⟨w.heap.size, 1, none⟩ = some (.int .i64 of) ∧ u.cell? ⟨w.heap.size, 2, none⟩ = some (.int .i64 sl) ∧ u.cell? ⟨w.heap.size, 3, none⟩ = some (.int .i64 dr)) [] [(.free, 0), (.take, 1), (.free, 2), (.step, 3), (.step, 4), (.free, 5), (.free, 6), (.free, 7), (.free, 8), (.free, 9)] _ (by kernel_rfl) (by kernel_rfl) (by kernel_rfl) (by kernel_rfl) (by decide) rfl (fun _ _ _ _ _ h => h) ?_
  simp only [List.filterMap_cons, List.filterMap_nil, List.getElem?_toArray, List.getElem?_cons_zero, List.getElem?_cons_succ, Option.map_some]
  iterate 1
    first
      | (refine mv_free ?_ (Or.inl ⟨by rfl, ?_⟩) (⟨k0, k1, k2, k3⟩) ?_
         rotate_left 1
         · intro u
           go_simp
           try with_reducible rfl
         simp only [Act.put, List.setIfInBounds_toArray, List.set_cons_zero, List.set_cons_succ])
      | (refine mv_free _ (Or.inr ⟨by rfl, rfl⟩) (⟨k0, k1, k2, k3⟩) ?_
         simp only [Act.put, List.setIfInBounds_toArray, List.set_cons_zero, List.set_cons_succ])
  iterate 1
    first
      | (refine mv_take ?_ (Or.inl ⟨by rfl, ?_⟩) (⟨k0, k1, k2, k3⟩) ?_
         rotate_left 1
         · intro u hu
           (try dsimp only at hu)
           go_simp
           try with_reducible rfl
         simp only [Act.put, List.setIfInBounds_toArray, List.set_cons_zero, List.set_cons_succ])
      | (refine mv_take _ (Or.inr ⟨by rfl, rfl⟩) (⟨k0, k1, k2, k3⟩) ?_
         simp only [Act.put, List.setIfInBounds_toArray, List.set_cons_zero, List.set_cons_succ])
  iterate 1
    first
      | (refine mv_free ?_ (Or.inl ⟨by rfl, ?_⟩) (⟨k0, k1, k2, k3⟩) ?_
         rotate_left 1
         · intro u
           go_simp
           try with_reducible rfl
         simp only [Act.put, List.setIfInBounds_toArray, List.set_cons_zero, List.set_cons_succ])
      | (refine mv_free _ (Or.inr ⟨by rfl, rfl⟩) (⟨k0, k1, k2, k3⟩) ?_
         simp only [Act.put, List.setIfInBounds_toArray, List.set_cons_zero, List.set_cons_succ])
  refine mv_step (fun K hK => ?_)
  go_simp
  refine (CL.out _).mono ?_
  rintro e w1 ⟨rfl, rfl⟩
  go_wp2_with fail
  refine hK.out _ _ _ (fun u hu => hu) (⟨k0, k1, k2, k3⟩) ?_
  clear hK K
  refine mv_step (fun K hK => ?_)
  go_simp
  refine (FT.out _).mono ?_
  rintro e w1 ⟨rfl, hb1⟩
  go_wp2_with fail
  have hb1 := (Below.refl (w.heap.size + 1) V).drew.trans (hb1.mono (Nat.le_of_eq hz.out.symm))
  obtain ⟨k0, k1, k2, k3⟩ := hcs.out _ hb1
  refine hK.out _ _ _ (fun u hu => hu) (⟨k0, k1, k2, k3⟩) ?_
  clear hK K
  iterate 5
    first
      | (refine mv_free ?_ (Or.inl ⟨by rfl, ?_⟩) (⟨k0, k1, k2, k3⟩) ?_
         rotate_left 1
         · intro u
           go_simp
           try with_reducible rfl
         simp only [Act.put, List.setIfInBounds_toArray, List.set_cons_zero, List.set_cons_succ])
      | (refine mv_free _ (Or.inr ⟨by rfl, rfl⟩) (⟨k0, k1, k2, k3⟩) ?_
         simp only [Act.put, List.setIfInBounds_toArray, List.set_cons_zero, List.set_cons_succ])
  refine mv_done ?_
  go_wp2
  go_ret
  refine ⟨ret_int ?_, hb0.out.trans (hb1.mono (by omega))⟩
  rw [HG.out]
  first | done | exact IntWalk.i64_in _ ⟨by omega, by omega⟩
end Go.Proofs.Ytbbmkmkalghaeaa
