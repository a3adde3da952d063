/- Package aoa: a new meter; the chapter's example; walked. -/
import Derived.Test.YtnfbfggkbpobiaaAoa2
namespace Go.Proofs.Ytnfbfggkbpobiaa
open Go.ChangeShapes Go.WideShapes Go.ChangeAt Go.RowKit
set_option linter.unusedVariables false
set_option linter.unusedSimpArgs false
theorem vnw_box (w : World) (ax ay : Option Addr) (cx cy : Nat) (X Y : List Int) (tau arm sh : Int) : ∃ V, V = (w.alloc (.cells #[.slice ax X.length cx, .slice ay Y.length cy, .int .i64 tau, .int .i64 arm, .int .i64 sh] 65)) ∧ Below w.heap.size w V ∧ V.heap.size = w.heap.size + 1 ∧ ∀ u, Below (w.heap.size + 1) V u → u.cell? ⟨w.heap.size, 0, none⟩ = some (.slice ax X.length cx) ∧ u.cell? ⟨w.heap.size, 1, none⟩ = some (.slice ay Y.length cy) ∧ u.cell? ⟨w.heap.size, 2, none⟩ = some (.int .i64 tau) ∧ u.cell? ⟨w.heap.size, 3, none⟩ = some (.int .i64 arm) ∧ u.cell? ⟨w.heap.size, 4, none⟩ = some (.int .i64 sh) ∧ u.frozen? ⟨w.heap.size, 0, none⟩ = false ∧ u.frozen? ⟨w.heap.size, 1, none⟩ = false ∧ u.frozen? ⟨w.heap.size, 2, none⟩ = false ∧ u.frozen? ⟨w.heap.size, 3, none⟩ = false ∧ u.frozen? ⟨w.heap.size, 4, none⟩ = false :=
  ⟨_, rfl, (by repeat (first | exact Below.refl _ _ | assumption | apply Below.drew | apply below_drewN | (refine Below.alloc ?_ (by first | exact Nat.le_refl _ | omega | (simp <;> omega)) _) | (refine Below.setCell ?_ (by first | exact Nat.le_refl _ | omega | (simp <;> omega)) _))), by simp, fun u hu => ⟨(bc hu (by omega)).trans (by go_simp), (bc hu (by omega)).trans (by go_simp), (bc hu (by omega)).trans (by go_simp), (bc hu (by omega)).trans (by go_simp), (bc hu (by omega)).trans (by go_simp), (hu.frozen (p := ⟨w.heap.size, 0, none⟩) (by show w.heap.size + 0 < w.heap.size + 1; omega)).trans (by first | (simp; done) | go_simp), (hu.frozen (p := ⟨w.heap.size, 1, none⟩) (by show w.heap.size + 0 < w.heap.size + 1; omega)).trans (by first | (simp; done) | go_simp), (hu.frozen (p := ⟨w.heap.size, 2, none⟩) (by show w.heap.size + 0 < w.heap.size + 1; omega)).trans (by first | (simp; done) | go_simp), (hu.frozen (p := ⟨w.heap.size, 3, none⟩) (by show w.heap.size + 0 < w.heap.size + 1; omega)).trans (by first | (simp; done) | go_simp), (hu.frozen (p := ⟨w.heap.size, 4, none⟩) (by show w.heap.size + 0 < w.heap.size + 1; omega)).trans (by first | (simp; done) | go_simp)⟩⟩
set_option maxRecDepth 100000 in
set_option maxHeartbeats 8000000 in
theorem aonew_no (ax ay : Option Addr) (cx cy : Nat) (X Y : List Int) (tau arm sh : Int) (w : World) (hx : RowIs .i64 w ax X) (hy : RowIs .i64 w ay Y) (hX : X.length ≤ 300) (hY : Y.length ≤ 300) (hw : agB X Y tau arm sh = false) : Calls Try.prog 42 #[.agg #[.slice ax X.length cx, .slice ay Y.length cy, .int .i64 tau, .int .i64 arm, .int .i64 sh]] w fun e w' => e = .returned (.tuple #[.pointer none, .int .i64 1]) ∧ Below w.heap.size w w' := by
  obtain ⟨V, eV, hb0, hz, hcs⟩ := vnw_box w ax ay cx cy X Y tau arm sh
  have RT := fun u (h : Below (w.heap.size + 1) V u) => aright_any ax ay cx cy X Y tau arm sh u (hx.below (hb0.trans (h.mono (by omega)))) (hy.below (hb0.trans (h.mono (by omega)))) hX hY
  rw [hw] at RT
  replace RT := Lib.hid RT
  clear hx hy hX hY hw
  replace hb0 := Lib.hid hb0
  replace hz := Lib.hid hz
  replace hcs := Lib.hid hcs
  replace eV := Lib.hid eV
  go_enter Try.func42, Try.ntmps42
  go_wp2_with fail
  rw [← eV.out]
  obtain ⟨k0, k1, k2, k3, k4, k5, k6, k7, k8, k9⟩ := hcs.out _ (Below.refl _ _)
  go_wp2_with fail
  refine (RT.out _ (Below.refl _ _)).mono ?_
  rintro e w1 ⟨rfl, hb1⟩
  have hb1 := (Below.refl (w.heap.size + 1) V).trans (hb1.mono (Nat.le_of_eq hz.out.symm))
  obtain ⟨k0, k1, k2, k3, k4, k5, k6, k7, k8, k9⟩ := hcs.out _ hb1
  go_wp2
  go_ret2
  exact ⟨rfl, hb0.out.trans (hb1.mono (by omega))⟩
set_option maxRecDepth 100000 in
set_option maxHeartbeats 8000000 in
theorem aonew_ok (ax ay : Option Addr) (cx cy : Nat) (X Y : List Int) (tau arm sh : Int) (w : World) (hx : RowIs .i64 w ax X) (hy : RowIs .i64 w ay Y) (hX : X.length ≤ 300) (hY : Y.length ≤ 300) (hw : agB X Y tau arm sh = true) : Calls Try.prog 42 #[.agg #[.slice ax X.length cx, .slice ay Y.length cy, .int .i64 tau, .int .i64 arm, .int .i64 sh]] w fun e w' => ∃ b f g1 c1 g2 c2 : Nat, e = .returned (.tuple #[.pointer (some ⟨b, 0, none⟩), .int .i64 0]) ∧ Met b f g1 c1 g2 c2 X Y tau arm sh 0 false w' ∧ (w.heap.size ≤ b ∧ w.heap.size ≤ g1 ∧ w.heap.size ≤ g2) ∧ w.heap.size ≤ f ∧ Below w.heap.size w w' := by
  obtain ⟨V, eV, hb0, hz, hcs⟩ := vnw_box w ax ay cx cy X Y tau arm sh
  obtain ⟨hg, -, -, s1, s2⟩ := agB_at hw
  obtain ⟨n1, n2, n3, _⟩ := rgtB_at hg
  have RT := fun u (h : Below (w.heap.size + 1) V u) => aright_any ax ay cx cy X Y tau arm sh u (hx.below (hb0.trans (h.mono (by omega)))) (hy.below (hb0.trans (h.mono (by omega)))) hX hY
  have LN := Lib.hid (fun u => lgnew_ok sh u s1 s2)
  have CX := Lib.hid (fun u (h : Below (w.heap.size + 1) V u) => cclone_any ax cx X u (hx.below (hb0.trans (h.mono (by omega)))) hX (by omega))
  have CY := Lib.hid (fun u (h : Below (w.heap.size + 1) V u) => cclone_any ay cy Y u (hy.below (hb0.trans (h.mono (by omega)))) hY (by omega))
  rw [hw] at RT
  replace RT := Lib.hid RT
  clear hx hy hX hY hw hg n1 n2 n3 s1 s2
  replace hb0 := Lib.hid hb0
  replace hz := Lib.hid hz
  replace hcs := Lib.hid hcs
  replace eV := Lib.hid eV
  go_enter Try.func42, Try.ntmps42
  go_wp2_with fail
  rw [← eV.out]
  obtain ⟨k0, k1, k2, k3, k4, k5, k6, k7, k8, k9⟩ := hcs.out _ (Below.refl _ _)
  go_wp2_with fail
  refine (RT.out _ (Below.refl _ _)).mono ?_
  rintro e w1 ⟨rfl, hb1⟩
  have hb1 := (Below.refl (w.heap.size + 1) V).trans (hb1.mono (Nat.le_of_eq hz.out.symm))
  obtain ⟨k0, k1, k2, k3, k4, k5, k6, k7, k8, k9⟩ := hcs.out _ hb1
  go_wp2_with fail
  refine (LN.out _).mono ?_
  rintro e w2 ⟨f, hf, rfl, hl, hb2⟩
  replace hf : w.heap.size + 1 ≤ f := by have := hb1.size; have := hz.out; omega
  have hb2 := hb1.trans (hb2.mono (by have := hb1.size; have := hz.out; omega))
  clear hb1
  have hfl := hl.lt
  replace hl := Lib.hid hl
  obtain ⟨k0, k1, k2, k3, k4, k5, k6, k7, k8, k9⟩ := hcs.out _ hb2
  go_wp2_with fail
  refine region_moves (fun u => u.cell? ⟨w.heap.size, 0, none⟩ = some (.slice ax X.length cx) ∧ u.cell? ⟨w.heap.size, 1, none⟩ = some (.slice ay Y.length cy) ∧ u.cell? ⟨w.heap.size, 2, none⟩ = some (.int .i64 tau) ∧ u.cell? ⟨w.heap.size, 3, none⟩ = some (.int .i64 arm) ∧ u.cell? ⟨w.heap.size, 4, none⟩ = some (.int .i64 sh) ∧ u.frozen? ⟨w.heap.size, 0, none⟩ = false ∧ u.frozen? ⟨w.heap.size, 1, none⟩ = false ∧ u.frozen? ⟨w.heap.size, 2, none⟩ = false ∧ u.frozen? ⟨w.heap.size, 3, none⟩ = false ∧ u.frozen? ⟨w.heap.size, 4, none⟩ = false) [(10, [(9, 10), (8, 10), (7, 10), (0, 10), (1, 10), (2, 10), (3, 10), (4, 10), (5, 10), (6, 10)])] [(.free, 0), (.free, 1), (.take, 2), (.free, 4), (.free, 5), (.take, 6), (.step, 3), (.step, 7), (.free, 8), (.free, 9), (.late, 10)] _ (by kernel_rfl) (by kernel_rfl) (by kernel_rfl) (by kernel_rfl) (by decide) rfl (fun _ _ _ _ _ h => h) ?_
  simp only [List.filterMap_cons, List.filterMap_nil, List.getElem?_toArray, List.getElem?_cons_zero, List.getElem?_cons_succ, Option.map_some]
  iterate 2
    first
      | (refine mv_free ?_ (Or.inl ⟨by rfl, ?_⟩) (⟨k0, k1, k2, k3, k4, k5, k6, k7, k8, k9⟩) ?_
         rotate_left 1
         · intro u
           go_simp
           try simp only [d1]
           try simp only [d2]
           try simp only [d3]
           try with_reducible rfl
         simp only [Act.put, List.setIfInBounds_toArray, List.set_cons_zero, List.set_cons_succ])
      | (refine mv_free _ (Or.inr ⟨by rfl, rfl⟩) (⟨k0, k1, k2, k3, k4, k5, k6, k7, k8, k9⟩) ?_
         simp only [Act.put, List.setIfInBounds_toArray, List.set_cons_zero, List.set_cons_succ])
  iterate 1
    first
      | (refine mv_take ?_ (Or.inl ⟨by rfl, ?_⟩) (⟨k0, k1, k2, k3, k4, k5, k6, k7, k8, k9⟩) ?_
         rotate_left 1
         · intro u hu
           (try dsimp only at hu)
           go_simp
           try with_reducible rfl
         simp only [Act.put, List.setIfInBounds_toArray, List.set_cons_zero, List.set_cons_succ])
      | (refine mv_take _ (Or.inr ⟨by rfl, rfl⟩) (⟨k0, k1, k2, k3, k4, k5, k6, k7, k8, k9⟩) ?_
         simp only [Act.put, List.setIfInBounds_toArray, List.set_cons_zero, List.set_cons_succ])
  iterate 2
    first
      | (refine mv_free ?_ (Or.inl ⟨by rfl, ?_⟩) (⟨k0, k1, k2, k3, k4, k5, k6, k7, k8, k9⟩) ?_
         rotate_left 1
         · intro u
           go_simp
           try simp only [d1]
           try simp only [d2]
           try simp only [d3]
           try with_reducible rfl
         simp only [Act.put, List.setIfInBounds_toArray, List.set_cons_zero, List.set_cons_succ])
      | (refine mv_free _ (Or.inr ⟨by rfl, rfl⟩) (⟨k0, k1, k2, k3, k4, k5, k6, k7, k8, k9⟩) ?_
         simp only [Act.put, List.setIfInBounds_toArray, List.set_cons_zero, List.set_cons_succ])
  iterate 1
    first
      | (refine mv_take ?_ (Or.inl ⟨by rfl, ?_⟩) (⟨k0, k1, k2, k3, k4, k5, k6, k7, k8, k9⟩) ?_
         rotate_left 1
         · intro u hu
           (try dsimp only at hu)
           go_simp
           try with_reducible rfl
         simp only [Act.put, List.setIfInBounds_toArray, List.set_cons_zero, List.set_cons_succ])
      | (refine mv_take _ (Or.inr ⟨by rfl, rfl⟩) (⟨k0, k1, k2, k3, k4, k5, k6, k7, k8, k9⟩) ?_
         simp only [Act.put, List.setIfInBounds_toArray, List.set_cons_zero, List.set_cons_succ])
  refine mv_step (fun K hK => ?_)
  go_simp
  refine (CX.out _ hb2.drew).mono ?_
  rintro e w3 ⟨g1, c1, rfl, r1, hg1, hb3⟩
  replace hg1 : f < g1 ∧ w.heap.size + 1 ≤ g1 := by have h9 : w2.heap.size ≤ g1 := hg1; omega
  replace hl := Lib.hid (hl.out.drew.bel hb3)
  have hb3 := hb2.drew.trans (hb3.mono (by have := hb2.size; have := hz.out; show _ ≤ w2.heap.size; omega))
  obtain ⟨k0, k1, k2, k3, k4, k5, k6, k7, k8, k9⟩ := hcs.out _ hb3
  replace r1 := Lib.hid r1
  go_wp2_with fail
  refine hK.out _ _ _ (fun u hu => hu) (⟨k0, k1, k2, k3, k4, k5, k6, k7, k8, k9⟩) ?_
  clear hK K
  refine mv_step (fun K hK => ?_)
  go_simp
  refine (CY.out _ hb3).mono ?_
  rintro e w4 ⟨g2, c2, rfl, r2, hg2, hb4⟩
  replace hg2 : f < g2 ∧ w.heap.size + 1 ≤ g2 := by have := hb3.size; have := hz.out; have := hl.out.lt; omega
  replace hl := Lib.hid (hl.out.bel hb4)
  replace r1 := Lib.hid (r1.out.below hb4)
  have hb4 := hb3.trans (hb4.mono (by have := hb3.size; have := hz.out; omega))
  obtain ⟨k0, k1, k2, k3, k4, k5, k6, k7, k8, k9⟩ := hcs.out _ hb4
  replace r2 := Lib.hid r2
  go_wp2_with fail
  refine hK.out _ _ _ (fun u hu => hu) (⟨k0, k1, k2, k3, k4, k5, k6, k7, k8, k9⟩) ?_
  clear hK K
  iterate 2
    first
      | (refine mv_free ?_ (Or.inl ⟨by rfl, ?_⟩) (⟨k0, k1, k2, k3, k4, k5, k6, k7, k8, k9⟩) ?_
         rotate_left 1
         · intro u
           go_simp
           try simp only [d1]
           try simp only [d2]
           try simp only [d3]
           try with_reducible rfl
         simp only [Act.put, List.setIfInBounds_toArray, List.set_cons_zero, List.set_cons_succ])
      | (refine mv_free _ (Or.inr ⟨by rfl, rfl⟩) (⟨k0, k1, k2, k3, k4, k5, k6, k7, k8, k9⟩) ?_
         simp only [Act.put, List.setIfInBounds_toArray, List.set_cons_zero, List.set_cons_succ])
  refine mv_late (fun K hK => ?_)
  go_simp
  refine hK.out (fun _ => True) _ _ ?_
  clear hK K
  refine mv_done ?_
  obtain ⟨W5, eW5⟩ : ∃ W5, W5 = (w4.setCell ⟨w.heap.size, 0, none⟩ (.slice (some ⟨g1, 0, none⟩) X.length c1)).setCell ⟨w.heap.size, 1, none⟩ (.slice (some ⟨g2, 0, none⟩) Y.length c2) := ⟨_, rfl⟩
  have hbs : Beside w.heap.size w4 W5 := by rw [eW5]; exact Beside.setCell (p := ⟨w.heap.size, 1, none⟩) (Beside.setCell (p := ⟨w.heap.size, 0, none⟩) (Beside.of_below (Below.refl _ _)) _) _
  have z0 : W5.cell? ⟨w.heap.size, 0, none⟩ = some (.slice (some ⟨g1, 0, none⟩) X.length c1) := by rw [eW5]; exact (World.cell?_setCell_other _ ⟨w.heap.size, 1, none⟩ ⟨w.heap.size, 0, none⟩ _ (by simp)).trans (World.cell?_setCell_same w4 ⟨w.heap.size, 0, none⟩ _ k0)
  have z1 : W5.cell? ⟨w.heap.size, 1, none⟩ = some (.slice (some ⟨g2, 0, none⟩) Y.length c2) := by rw [eW5]; exact World.cell?_setCell_same _ ⟨w.heap.size, 1, none⟩ _ ((World.cell?_setCell_other w4 ⟨w.heap.size, 0, none⟩ ⟨w.heap.size, 1, none⟩ _ (by simp)).trans k1)
  have z2 : W5.cell? ⟨w.heap.size, 2, none⟩ = some (.int .i64 tau) := by rw [eW5]; exact (World.cell?_setCell_other _ ⟨w.heap.size, 1, none⟩ ⟨w.heap.size, 2, none⟩ _ (by simp)).trans ((World.cell?_setCell_other w4 ⟨w.heap.size, 0, none⟩ ⟨w.heap.size, 2, none⟩ _ (by simp)).trans k2)
  have z3 : W5.cell? ⟨w.heap.size, 3, none⟩ = some (.int .i64 arm) := by rw [eW5]; exact (World.cell?_setCell_other _ ⟨w.heap.size, 1, none⟩ ⟨w.heap.size, 3, none⟩ _ (by simp)).trans ((World.cell?_setCell_other w4 ⟨w.heap.size, 0, none⟩ ⟨w.heap.size, 3, none⟩ _ (by simp)).trans k3)
  have z4 : W5.cell? ⟨w.heap.size, 4, none⟩ = some (.int .i64 sh) := by rw [eW5]; exact (World.cell?_setCell_other _ ⟨w.heap.size, 1, none⟩ ⟨w.heap.size, 4, none⟩ _ (by simp)).trans ((World.cell?_setCell_other w4 ⟨w.heap.size, 0, none⟩ ⟨w.heap.size, 4, none⟩ _ (by simp)).trans k4)
  have hb5 := Lib.hid (show Below w.heap.size w W5 from by rw [eW5]; exact ((hb0.out.trans (hb4.mono (by omega))).setCell (p := ⟨w.heap.size, 0, none⟩) (Nat.le_refl _) _).setCell (p := ⟨w.heap.size, 1, none⟩) (Nat.le_refl _) _)
  have hM := Lib.hid (fun t => show Met W5.heap.size f g1 c1 g2 c2 X Y tau arm sh 0 false (W5.alloc (.cells (meC f g1 c1 g2 c2 X Y tau arm sh).toArray t)) from ⟨Held.new W5 _ t, (hl.out.beside hbs (by omega)).alloc _, (r1.out.besides hbs (by omega)).below ((Below.refl _ _).alloc (Nat.le_refl _) _), (r2.out.besides hbs (by omega)).below ((Below.refl _ _).alloc (Nat.le_refl _) _), by have := (hl.out.beside hbs (by omega)).lt; omega, by omega, by omega⟩)
  rw [← eW5]
  replace eW5 := Lib.hid eW5
  clear k0 k1 k2 k3 k4 k5 k6 k7 k8 k9 hbs hb4
  go_wp2
  go_ret2
  exact ⟨W5.heap.size, f, g1, c1, g2, c2, rfl, hM.out _, ⟨hb5.out.size, by omega, by omega⟩, by omega, hb5.out.alloc hb5.out.size _⟩
set_option maxRecDepth 100000 in
set_option maxHeartbeats 8000000 in
theorem straight39 (w : World) : Calls Try.prog 68 #[] w fun e w' => ∃ g1 g2 : Nat, e = .returned (.agg #[.slice (some ⟨g1, 0, none⟩) 2 2, .slice (some ⟨g2, 0, none⟩) 2 2]) ∧ RowIs .i64 w' (some ⟨g1, 0, none⟩) [-90000, 90000] ∧ RowIs .i64 w' (some ⟨g2, 0, none⟩) [-90000, 90000] ∧ Below w.heap.size w w' := by
  go_enter Try.func68, Try.ntmps68
  go_wp2
  refine bodyPost_ret (v := .agg #[.slice (some ⟨w.heap.size + 1, 0, none⟩) 2 2, .slice (some ⟨w.heap.size + 2, 0, none⟩) 2 2]) (by simp [results, Try.results68, go_sem]) rfl ?_
  refine ⟨_, _, rfl, row2_at (by simp; try omega) (by go_simp) (by go_simp), row2_at (by simp; try omega) (by go_simp) (by go_simp), (by repeat (first | exact Below.refl _ _ | assumption | apply Below.drew | apply below_drewN | (refine Below.alloc ?_ (by first | exact Nat.le_refl _ | omega | (simp <;> omega)) _) | (refine Below.setCell ?_ (by first | exact Nat.le_refl _ | omega | (simp <;> omega)) _)))⟩
theorem k39 : CrK [-90000, 90000] 2000 1 := by
  refine ⟨by decide, fun t ht => ?_, fun t a b => ?_⟩
  · obtain rfl : t = 0 := by omega
    decide
  · have b' : t < 2 := b
    obtain rfl : t = 1 := by omega
    decide
theorem one39 : trV [-90000, 90000] [-90000, 90000] 0 2000 0 10000 = 2000 := by
  unfold trV
  rw [show clA 2000 = 2000 by decide +kernel, crF_at (by decide +kernel) k39, show crV [-90000, 90000] [-90000, 90000] 2000 1 = 2000 by decide +kernel]
  decide +kernel
set_option maxRecDepth 100000 in
set_option maxHeartbeats 8000000 in
theorem lives39 (w : World) : Calls Try.prog 41 #[] w fun e w' => e = .returned (.bool true) ∧ Below w.heap.size w w' := by
  have SG := Lib.hid (fun u => straight39 u)
  have NW := Lib.hid (fun a c u hx hy => aonew_ok a c 2 2 [-90000, 90000] [-90000, 90000] 0 0 0 u hx hy (by decide) (by decide) (by decide +kernel))
  have ST := fun b f g1 c1 g2 c2 u h => astep_any b f g1 c1 g2 c2 [-90000, 90000] [-90000, 90000] 0 0 0 0 false 2000 0 2000 0 0 10000 u h (by decide) (by decide) (by decide) (by decide +kernel) (by decide) (by decide)
  rw [one39, show chO 2000 0 2000 0 0 0 false = 0 by decide +kernel, show chV 2000 0 2000 0 0 0 false = 2000 by decide +kernel, show stY 2000 0 0 0 false = 2000 by decide +kernel] at ST
  replace ST := Lib.hid ST
  go_enter Try.func41, Try.ntmps41
  go_wp2_with fail
  refine (SG.out _).mono ?_
  rintro e w1 ⟨g1, g2, rfl, r1, r2, hb1⟩
  replace r1 := Lib.hid r1
  replace r2 := Lib.hid r2
  go_wp2_with fail
  refine (NW.out _ _ _ r1.out r2.out).mono ?_
  rintro e w2 ⟨b, f, h1, c1, h2, c2, rfl, hM, hb, hf, hb2⟩
  replace hM := Lib.hid hM
  replace hb2 := hb1.trans (hb2.mono hb1.size)
  replace hf : w.heap.size ≤ f := by have := hb1.size; omega
  go_wp2_with fail
  refine (ST.out _ _ _ _ _ _ _ hM.out).mono ?_
  rintro e w3 ⟨rfl, -, hb3⟩
  have hb4 := Lib.hid (Below.beside hb2 hb3 hf)
  clear hb3
  go_wp2
  go_ret
  exact ⟨rfl, hb4.out⟩
end Go.Proofs.Ytnfbfggkbpobiaa
