/- The laws CalTells and CalRises, walked. -/
import Derived.Test.YtigplknmfdjjaaaCal4
namespace Go.Proofs.Ytigplknmfdjjaaa
open Go.ChangeShapes Go.WideShapes Go.ChangeAt Go.RowKit
set_option linter.unusedVariables false
set_option linter.unusedSimpArgs false
theorem cal2_box (w : World) (ga of sl dr x0 x1 : Int) : ∃ V, V = (w.alloc (.cells #[.int .i64 ga, .int .i64 of, .int .i64 sl, .int .i64 dr] 30)).alloc (.cells #[.int .i64 x0, .int .i64 x1] 22) ∧ Below w.heap.size w V ∧ V.heap.size = w.heap.size + 2 ∧ ∀ u, Below (w.heap.size + 2) V u → u.cell? ⟨w.heap.size, 0, none⟩ = some (.int .i64 ga) ∧ u.cell? ⟨w.heap.size, 1, none⟩ = some (.int .i64 of) ∧ u.cell? ⟨w.heap.size, 2, none⟩ = some (.int .i64 sl) ∧ u.cell? ⟨w.heap.size, 3, none⟩ = some (.int .i64 dr) ∧ u.cell? ⟨w.heap.size + 1, 0, none⟩ = some (.int .i64 x0) ∧ u.cell? ⟨w.heap.size + 1, 1, none⟩ = some (.int .i64 x1) :=
  ⟨_, rfl, (by repeat (first | exact Below.refl _ _ | assumption | apply Below.drew | apply below_drewN | (refine Below.alloc ?_ (by first | exact Nat.le_refl _ | omega | (simp <;> omega)) _) | (refine Below.setCell ?_ (by first | exact Nat.le_refl _ | omega | (simp <;> omega)) _))), by simp, fun u hu => ⟨(bc hu (by omega)).trans (by go_simp), (bc hu (by omega)).trans (by go_simp), (bc hu (by omega)).trans (by go_simp), (bc hu (by omega)).trans (by go_simp), (bc hu (by omega)).trans (by go_simp), (bc hu (by omega)).trans (by go_simp)⟩⟩

set_option maxRecDepth 100000 in
set_option maxHeartbeats 4000000 in
theorem law_CalTells (ga of sl dr x t : Int) (w : World) : Calls Try.prog 6 #[.agg #[.int .i64 ga, .int .i64 of, .int .i64 sl, .int .i64 dr], .int .i64 x, .int .i64 t] w fun e w' => e = .returned (.bool true) ∧ Below w.heap.size w w' := by
  have RT := fun u => cright_any ga of sl dr u
  have RR := fun u => rright14_any ga of sl dr u
  obtain ⟨V, eV, hb0, hz, hcs⟩ := cal_box w ga of sl dr
  replace hb0 := Lib.hid hb0
  replace hz := Lib.hid hz
  replace hcs := Lib.hid hcs
  replace eV := Lib.hid eV
  cases h : clR ga of sl dr
  · rw [h] at RT RR
    replace RT := Lib.hid RT
    replace RR := Lib.hid RR
    have AT := Lib.hid (fun u => cat_no h x t u)
    have SP := Lib.hid (fun u => cspan_no h t u)
    clear h
    go_enter Try.func6, Try.ntmps6
    go_wp2_with fail
    rw [← eV.out]
    obtain ⟨k0, k1, k2, k3⟩ := hcs.out _ (Below.refl _ _)
    go_wp2_with fail
    refine (AT.out _).mono ?_
    rintro e w1 ⟨rfl, hb1⟩
    have hb1 := (Below.refl (w.heap.size + 1) V).trans (hb1.mono (Nat.le_of_eq hz.out.symm))
    obtain ⟨k0, k1, k2, k3⟩ := hcs.out _ hb1
    go_wp2_with fail
    refine (SP.out _).mono ?_
    rintro e w2 ⟨rfl, hb2⟩
    have hb2 := hb1.trans (hb2.mono (by have := hb1.size; have := hz.out; omega))
    obtain ⟨k0, k1, k2, k3⟩ := hcs.out _ hb2
    clear hb1
    go_wp2_with fail
    refine (RR.out _).mono ?_
    rintro e w3 ⟨rfl, hb3⟩
    have hb3 := hb2.trans (hb3.mono (by have := hb2.size; have := hz.out; omega))
    obtain ⟨k0, k1, k2, k3⟩ := hcs.out _ hb3
    clear hb2
    go_wp2_with fail
    refine (RT.out _).mono ?_
    rintro e w4 ⟨rfl, hb4⟩
    have hb4 := hb3.trans (hb4.mono (by have := hb3.size; have := hz.out; omega))
    clear hb3
    go_wp2_with fail
    refine (lives14 _).mono ?_
    rintro e w5 ⟨rfl, hb5⟩
    have hb5 := hb4.trans (hb5.mono (by have := hb4.size; have := hz.out; omega))
    go_wp2
    go_ret
    exact ⟨rfl, hb0.out.trans (hb5.mono (by omega))⟩
  · rw [h] at RT RR
    replace RT := Lib.hid RT
    replace RR := Lib.hid RR
    have AT := Lib.hid (fun u => cat_ok h x t u)
    have SP := Lib.hid (fun u => cspan_ok h t u)
    have A1 := Lib.hid (fun u => rat14_any (clR_ok h) x t u)
    have A2 := Lib.hid (fun u => rat14_any (clR_ok h) (-8388608) t u)
    have A3 := Lib.hid (fun u => rat14_any (clR_ok h) 8388607 t u)
    generalize clV ga of sl dr x t = R at *
    generalize clV ga of sl dr (-8388608) t = R1 at *
    generalize clV ga of sl dr 8388607 t = R2 at *
    clear h
    go_enter Try.func6, Try.ntmps6
    go_wp2_with fail
    rw [← eV.out]
    obtain ⟨k0, k1, k2, k3⟩ := hcs.out _ (Below.refl _ _)
    go_wp2_with fail
    refine (AT.out _).mono ?_
    rintro e w1 ⟨rfl, hb1⟩
    have hb1 := (Below.refl (w.heap.size + 1) V).trans (hb1.mono (Nat.le_of_eq hz.out.symm))
    obtain ⟨k0, k1, k2, k3⟩ := hcs.out _ hb1
    go_wp2_with fail
    refine (SP.out _).mono ?_
    rintro e w2 ⟨rfl, hb2⟩
    have hb2 := hb1.trans (hb2.mono (by have := hb1.size; have := hz.out; omega))
    obtain ⟨k0, k1, k2, k3⟩ := hcs.out _ hb2
    clear hb1
    go_wp2_with fail
    refine (RR.out _).mono ?_
    rintro e w3 ⟨rfl, hb3⟩
    have hb3 := hb2.trans (hb3.mono (by have := hb2.size; have := hz.out; omega))
    obtain ⟨k0, k1, k2, k3⟩ := hcs.out _ hb3
    clear hb2
    go_wp2_with fail
    refine (RT.out _).mono ?_
    rintro e w4 ⟨rfl, hb4⟩
    have hb4 := hb3.trans (hb4.mono (by have := hb3.size; have := hz.out; omega))
    obtain ⟨k0, k1, k2, k3⟩ := hcs.out _ hb4
    clear hb3
    go_wp2_with fail
    refine (A1.out _).mono ?_
    rintro e w5 ⟨rfl, hb5⟩
    have hb5 := hb4.trans (hb5.mono (by have := hb4.size; have := hz.out; omega))
    obtain ⟨k0, k1, k2, k3⟩ := hcs.out _ hb5
    clear hb4
    go_wp2_with fail
    refine (A2.out _).mono ?_
    rintro e w6 ⟨rfl, hb6⟩
    have hb6 := hb5.trans (hb6.mono (by have := hb5.size; have := hz.out; omega))
    obtain ⟨k0, k1, k2, k3⟩ := hcs.out _ hb6
    clear hb5
    go_wp2_with fail
    refine (A3.out _).mono ?_
    rintro e w7 ⟨rfl, hb7⟩
    have hb7 := hb6.trans (hb7.mono (by have := hb6.size; have := hz.out; omega))
    clear hb6
    go_wp2_with fail
    refine (lives14 _).mono ?_
    rintro e w8 ⟨rfl, hb8⟩
    have hb8 := hb7.trans (hb8.mono (by have := hb7.size; have := hz.out; omega))
    go_wp2
    go_ret
    exact ⟨rfl, hb0.out.trans (hb8.mono (by omega))⟩

set_option maxRecDepth 100000 in
set_option maxHeartbeats 4000000 in
theorem law_CalRises (ga of sl dr x0 x1 t : Int) (w : World) : Calls Try.prog 7 #[.agg #[.int .i64 ga, .int .i64 of, .int .i64 sl, .int .i64 dr], .agg #[.int .i64 x0, .int .i64 x1], .int .i64 t] w fun e w' => e = .returned (.bool true) ∧ Below w.heap.size w w' := by
  have RT := fun u => cright_any ga of sl dr u
  have RR := fun u => rright14_any ga of sl dr u
  obtain ⟨V, eV, hb0, hz, hcs⟩ := cal2_box w ga of sl dr x0 x1
  replace hb0 := Lib.hid hb0
  replace hz := Lib.hid hz
  replace hcs := Lib.hid hcs
  replace eV := Lib.hid eV
  have other : ∀ c : Bool, clR ga of sl dr = c → (c = false ∨ (c = true ∧ x1 < x0) ∨ (c = true ∧ x0 ≤ x1 ∧ x0 < -8388608) ∨ (c = true ∧ x0 ≤ x1 ∧ -8388608 ≤ x0 ∧ 8388607 < x1)) → Calls Try.prog 7 #[.agg #[.int .i64 ga, .int .i64 of, .int .i64 sl, .int .i64 dr], .agg #[.int .i64 x0, .int .i64 x1], .int .i64 t] w fun e w' => e = .returned (.bool true) ∧ Below w.heap.size w w' := by
    intro c hc ho
    rw [hc] at RT RR
    replace RT := Lib.hid RT
    replace RR := Lib.hid RR
    clear hc
    rcases ho with rfl | ⟨rfl, ho⟩ | ⟨rfl, ho, ho2⟩ | ⟨rfl, ho, ho2, ho3⟩
    all_goals
      go_enter Try.func7, Try.ntmps7
      go_wp2_with fail
      rw [← eV.out]
      obtain ⟨k0, k1, k2, k3, j0, j1⟩ := hcs.out _ (Below.refl _ _)
      go_wp2_with fail
      refine (RT.out _).mono ?_
      rintro e w1 ⟨rfl, hb1⟩
      have hb1 := (Below.refl (w.heap.size + 2) V).trans (hb1.mono (Nat.le_of_eq hz.out.symm))
      obtain ⟨k0, k1, k2, k3, j0, j1⟩ := hcs.out _ hb1
      go_wp2_with fail
      refine region_moves (fun u => u.cell? ⟨w.heap.size, 0, none⟩ = some (.int .i64 ga) ∧ u.cell? ⟨w.heap.size, 1, none⟩ = some (.int .i64 of) ∧ u.cell? ⟨w.heap.size, 2, none⟩ = some (.int .i64 sl) ∧ u.cell? ⟨w.heap.size, 3, none⟩ = some (.int .i64 dr) ∧ u.cell? ⟨w.heap.size + 1, 0, none⟩ = some (.int .i64 x0) ∧ u.cell? ⟨w.heap.size + 1, 1, none⟩ = some (.int .i64 x1)) [] [(.take, 0), (.take, 3), (.step, 1), (.free, 2), (.step, 4), (.free, 5), (.free, 6), (.free, 7), (.step, 8), (.free, 9), (.free, 10)] _ (by kernel_rfl) (by kernel_rfl) (by kernel_rfl) (by kernel_rfl) (by decide) rfl (fun _ _ _ _ _ h => h) ?_
      simp only [List.filterMap_cons, List.filterMap_nil, List.getElem?_toArray, List.getElem?_cons_zero, List.getElem?_cons_succ, Option.map_some]
      iterate 2
        first
          | (refine mv_take ?_ (Or.inl ⟨by rfl, ?_⟩) (⟨k0, k1, k2, k3, j0, j1⟩) ?_
             rotate_left 1
             · intro u hu
               (try dsimp only at hu)
               go_simp
               try with_reducible rfl
             simp only [Act.put, List.setIfInBounds_toArray, List.set_cons_zero, List.set_cons_succ])
          | (refine mv_take _ (Or.inr ⟨by rfl, rfl⟩) (⟨k0, k1, k2, k3, j0, j1⟩) ?_
             simp only [Act.put, List.setIfInBounds_toArray, List.set_cons_zero, List.set_cons_succ])
      refine mv_step (fun K hK => ?_)
      go_simp
      refine (RT.out _).mono ?_
      rintro e w2 ⟨rfl, hb2⟩
      go_wp2_with fail
      have hb2 := hb1.drew.trans (hb2.mono (by have := hb1.size; have := hz.out; show _ ≤ w1.heap.size; omega))
      obtain ⟨k0, k1, k2, k3, j0, j1⟩ := hcs.out _ hb2
      refine hK.out _ _ _ (fun u hu => hu) (⟨k0, k1, k2, k3, j0, j1⟩) ?_
      clear hK K
      iterate 1
        first
          | (refine mv_free ?_ (Or.inl ⟨by rfl, ?_⟩) (⟨k0, k1, k2, k3, j0, j1⟩) ?_
             rotate_left 1
             · intro u
               go_simp
               try with_reducible rfl
             simp only [Act.put, List.setIfInBounds_toArray, List.set_cons_zero, List.set_cons_succ])
          | (refine mv_free _ (Or.inr ⟨by rfl, rfl⟩) (⟨k0, k1, k2, k3, j0, j1⟩) ?_
             simp only [Act.put, List.setIfInBounds_toArray, List.set_cons_zero, List.set_cons_succ])
      refine mv_step (fun K hK => ?_)
      go_simp
      refine (RR.out _).mono ?_
      rintro e w3 ⟨rfl, hb3⟩
      go_wp2_with fail
      have hb3 := hb2.trans (hb3.mono (by have := hb2.size; have := hz.out; omega))
      obtain ⟨k0, k1, k2, k3, j0, j1⟩ := hcs.out _ hb3
      refine hK.out _ _ _ (fun u hu => hu) (⟨k0, k1, k2, k3, j0, j1⟩) ?_
      clear hK K
      iterate 3
        first
          | (refine mv_free ?_ (Or.inl ⟨by rfl, ?_⟩) (⟨k0, k1, k2, k3, j0, j1⟩) ?_
             rotate_left 1
             · intro u
               go_simp
               try with_reducible rfl
             simp only [Act.put, List.setIfInBounds_toArray, List.set_cons_zero, List.set_cons_succ])
          | (refine mv_free _ (Or.inr ⟨by rfl, rfl⟩) (⟨k0, k1, k2, k3, j0, j1⟩) ?_
             simp only [Act.put, List.setIfInBounds_toArray, List.set_cons_zero, List.set_cons_succ])
      refine mv_step (fun K hK => ?_)
      go_simp
      refine (lives14 _).mono ?_
      rintro e w4 ⟨rfl, hb4⟩
      go_wp2_with fail
      have hb4 := hb3.trans (hb4.mono (by have := hb3.size; have := hz.out; omega))
      obtain ⟨k0, k1, k2, k3, j0, j1⟩ := hcs.out _ hb4
      refine hK.out _ _ _ (fun u hu => hu) (⟨k0, k1, k2, k3, j0, j1⟩) ?_
      clear hK K
      iterate 2
        first
          | (refine mv_free ?_ (Or.inl ⟨by rfl, ?_⟩) (⟨k0, k1, k2, k3, j0, j1⟩) ?_
             rotate_left 1
             · intro u
               go_simp
               try with_reducible rfl
             simp only [Act.put, List.setIfInBounds_toArray, List.set_cons_zero, List.set_cons_succ])
          | (refine mv_free _ (Or.inr ⟨by rfl, rfl⟩) (⟨k0, k1, k2, k3, j0, j1⟩) ?_
             simp only [Act.put, List.setIfInBounds_toArray, List.set_cons_zero, List.set_cons_succ])
      refine mv_done ?_
      go_wp2
      go_ret
      exact ⟨rfl, hb0.out.trans (hb4.mono (by omega))⟩
  cases h : clR ga of sl dr
  · exact other _ h (.inl rfl)
  · by_cases hin : x0 ≤ x1 ∧ -8388608 ≤ x0 ∧ x1 ≤ 8388607
    · obtain ⟨i1, i2, i3⟩ := hin
      clear other
      rw [h] at RT
      replace RT := Lib.hid RT
      clear RR
      have rs := clV_rises (clR_ok h) t i1
      have ap := clV_apart (clR_ok h) t i2 i1 i3
      have bd0 := clV_bd (clR_ok h) t x0
      have bd1 := clV_bd (clR_ok h) t x1
      have A1 := Lib.hid (fun u => cat_ok h x0 t u)
      have A2 := Lib.hid (fun u => cat_ok h x1 t u)
      have hw : IntKind.i64.wrap (x1 - x0) = x1 - x0 := IntWalk.i64_in _ ⟨by omega, by omega⟩
      by_cases hd : x1 - x0 ≤ 8388608
      · have ER := Lib.hid (fun u => cerr_ok h t (x1 - x0) (by omega) hd u)
        generalize clV ga of sl dr x0 t = R0 at *
        generalize clV ga of sl dr x1 t = R1 at *
        generalize (x1 - x0) * clG ga dr t / 65536 + 1 = E at *
        clear h
        go_enter Try.func7, Try.ntmps7
        go_wp2_with fail
        rw [← eV.out]
        obtain ⟨k0, k1, k2, k3, j0, j1⟩ := hcs.out _ (Below.refl _ _)
        go_wp2_with fail
        refine (RT.out _).mono ?_
        rintro e w1 ⟨rfl, hb1⟩
        have hb1 := (Below.refl (w.heap.size + 2) V).trans (hb1.mono (Nat.le_of_eq hz.out.symm))
        obtain ⟨k0, k1, k2, k3, j0, j1⟩ := hcs.out _ hb1
        go_wp2_with fail
        refine (A1.out _).mono ?_
        rintro e w2 ⟨rfl, hb2⟩
        have hb2 := hb1.trans (hb2.mono (by have := hb1.size; have := hz.out; omega))
        obtain ⟨k0, k1, k2, k3, j0, j1⟩ := hcs.out _ hb2
        clear hb1
        go_wp2_with fail
        refine (A2.out _).mono ?_
        rintro e w3 ⟨rfl, hb3⟩
        have hb3 := hb2.trans (hb3.mono (by have := hb2.size; have := hz.out; omega))
        obtain ⟨k0, k1, k2, k3, j0, j1⟩ := hcs.out _ hb3
        clear hb2
        go_wp2_with fail
        first | rw [hw] | skip
        refine (ER.out _).mono ?_
        rintro e w4 ⟨rfl, hb4⟩
        have hb4 := hb3.trans (hb4.mono (by have := hb3.size; have := hz.out; omega))
        obtain ⟨k0, k1, k2, k3, j0, j1⟩ := hcs.out _ hb4
        clear hb3
        go_wp2_with fail
        refine (lives14 _).mono ?_
        rintro e w5 ⟨rfl, hb5⟩
        have hb5 := hb4.trans (hb5.mono (by have := hb4.size; have := hz.out; omega))
        go_wp2
        go_ret
        exact ⟨rfl, hb0.out.trans (hb5.mono (by omega))⟩
      · generalize clV ga of sl dr x0 t = R0 at *
        generalize clV ga of sl dr x1 t = R1 at *
        clear h ap
        go_enter Try.func7, Try.ntmps7
        go_wp2_with fail
        rw [← eV.out]
        obtain ⟨k0, k1, k2, k3, j0, j1⟩ := hcs.out _ (Below.refl _ _)
        go_wp2_with fail
        refine (RT.out _).mono ?_
        rintro e w1 ⟨rfl, hb1⟩
        have hb1 := (Below.refl (w.heap.size + 2) V).trans (hb1.mono (Nat.le_of_eq hz.out.symm))
        obtain ⟨k0, k1, k2, k3, j0, j1⟩ := hcs.out _ hb1
        go_wp2_with fail
        refine (A1.out _).mono ?_
        rintro e w2 ⟨rfl, hb2⟩
        have hb2 := hb1.trans (hb2.mono (by have := hb1.size; have := hz.out; omega))
        obtain ⟨k0, k1, k2, k3, j0, j1⟩ := hcs.out _ hb2
        clear hb1
        go_wp2_with fail
        refine (A2.out _).mono ?_
        rintro e w3 ⟨rfl, hb3⟩
        have hb3 := hb2.trans (hb3.mono (by have := hb2.size; have := hz.out; omega))
        obtain ⟨k0, k1, k2, k3, j0, j1⟩ := hcs.out _ hb3
        clear hb2
        go_wp2_with fail
        refine (lives14 _).mono ?_
        rintro e w5 ⟨rfl, hb5⟩
        have hb5 := hb3.trans (hb5.mono (by have := hb3.size; have := hz.out; omega))
        go_wp2
        go_ret
        exact ⟨rfl, hb0.out.trans (hb5.mono (by omega))⟩
    · refine other _ h ?_
      have : x1 < x0 ∨ (x0 ≤ x1 ∧ x0 < -8388608) ∨ (x0 ≤ x1 ∧ -8388608 ≤ x0 ∧ 8388607 < x1) := by omega
      simpa using this
end Go.Proofs.Ytigplknmfdjjaaa
