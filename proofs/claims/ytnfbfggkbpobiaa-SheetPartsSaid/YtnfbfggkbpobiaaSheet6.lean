/- A row of a sheet; the law SheetParts, walked. -/
import Derived.Test.YtnfbfggkbpobiaaSheet4
import Derived.Test.YtnfbfggkbpobiaaCurve9
import Derived.Deep.Cut
namespace Go.Proofs.Ytnfbfggkbpobiaa
open Go.ChangeShapes Go.WideShapes Go.ChangeAt Go.RowKit
set_option linter.unusedVariables false
set_option linter.unusedSimpArgs false
theorem srw_box (w : World) (a1 a2 a3 : Option Addr) (e1 e2 e3 : Nat) (X Y : List Int) (Z : List (List Int)) : ∃ V, V = ((w.alloc (.cells #[.slice a1 X.length e1, .slice a2 Y.length e2, .slice a3 Z.length e3] 25)).alloc (.cells #[.slice none 0 0, .slice none 0 0] 33)) ∧ Below w.heap.size w V ∧ V.heap.size = w.heap.size + 2 ∧ ∀ u, Below (w.heap.size + 2) V u → u.cell? ⟨w.heap.size, 0, none⟩ = some (.slice a1 X.length e1) ∧ u.cell? ⟨w.heap.size, 1, none⟩ = some (.slice a2 Y.length e2) ∧ u.cell? ⟨w.heap.size, 2, none⟩ = some (.slice a3 Z.length e3) ∧ u.cell? ⟨w.heap.size + 1, 0, none⟩ = some (.slice none 0 0) ∧ u.cell? ⟨w.heap.size + 1, 1, none⟩ = some (.slice none 0 0) ∧ u.frozen? ⟨w.heap.size + 1, 0, none⟩ = false ∧ u.frozen? ⟨w.heap.size + 1, 1, none⟩ = false :=
  ⟨_, rfl, (by repeat (first | exact Below.refl _ _ | assumption | apply Below.drew | apply below_drewN | (refine Below.alloc ?_ (by first | exact Nat.le_refl _ | omega | (simp <;> omega)) _) | (refine Below.setCell ?_ (by first | exact Nat.le_refl _ | omega | (simp <;> omega)) _))), by simp, fun u hu => ⟨(bc hu (by omega)).trans (by go_simp), (bc hu (by omega)).trans (by go_simp), (bc hu (by omega)).trans (by go_simp), (bc hu (by omega)).trans (by go_simp), (bc hu (by omega)).trans (by go_simp), (hu.frozen (p := ⟨w.heap.size + 1, 0, none⟩) (by show w.heap.size + 1 < w.heap.size + 2; omega)).trans (by first | (simp; done) | go_simp), (hu.frozen (p := ⟨w.heap.size + 1, 1, none⟩) (by show w.heap.size + 1 < w.heap.size + 2; omega)).trans (by first | (simp; done) | go_simp)⟩⟩
set_option maxRecDepth 100000 in
set_option maxHeartbeats 8000000 in
theorem srow_no (a1 a2 a3 : Option Addr) (GA : Nat → Option Addr) (GC : Nat → Nat) (e1 e2 e3 : Nat) (X Y : List Int) (Z : List (List Int)) (i : Int) (w : World) (hx : RowIs .i64 w a1 X) (hy : RowIs .i64 w a2 Y) (hg : GridIs .i64 w a3 GA GC Z) (hX : X.length ≤ 50) (hY : Y.length ≤ 50) (hZ : Z.length ≤ 50) (hR : ∀ i, i < Z.length → (Z.getD i []).length ≤ 50) (hs : shB X Y Z = false ∨ (shB X Y Z = true ∧ i < 0) ∨ (shB X Y Z = true ∧ 0 ≤ i ∧ (Z.length : Int) ≤ i)) : Calls Try.prog 21 #[.agg #[.slice a1 X.length e1, .slice a2 Y.length e2, .slice a3 Z.length e3], .int .i64 i] w fun e w' => e = .returned (.tuple #[.agg #[.slice none 0 0, .slice none 0 0], .bool false]) ∧ Below w.heap.size w w' := by
  obtain ⟨V, eV, hb0, hz, hcs⟩ := srw_box w a1 a2 a3 e1 e2 e3 X Y Z
  have RT := fun u (h : Below (w.heap.size + 2) V u) => sright a1 a2 a3 GA GC e1 e2 e3 X Y Z u (hx.below (hb0.trans (h.mono (by omega)))) (hy.below (hb0.trans (h.mono (by omega)))) (hg.below (hb0.trans (h.mono (by omega)))) hX hY hZ hR
  clear hx hy hg hX hY hZ hR
  rcases hs with hs | ⟨hs, h⟩ | ⟨hs, h, h2⟩
  · rw [hs] at RT
    replace RT := Lib.hid RT
    clear hs
    replace hb0 := Lib.hid hb0
    replace hz := Lib.hid hz
    replace hcs := Lib.hid hcs
    replace eV := Lib.hid eV
    go_enter Try.func21, Try.ntmps21
    go_wp2_with fail
    rw [← eV.out]
    obtain ⟨k0, k1, k2, k3, k4, k5, k6⟩ := hcs.out _ (Below.refl _ _)
    go_wp2_with fail
    refine (RT.out _ (Below.refl _ _)).mono ?_
    rintro e w1 ⟨rfl, hb1⟩
    have hb1 := (Below.refl (w.heap.size + 2) V).trans (hb1.mono (Nat.le_of_eq hz.out.symm))
    obtain ⟨k0, k1, k2, k3, k4, k5, k6⟩ := hcs.out _ hb1
    have z0 := World.cell?_setCell_same w1 ⟨w.heap.size + 1, 0, none⟩ (.slice none 0 0) k3
    have z1 := World.cell?_setCell_same (w1.setCell ⟨w.heap.size + 1, 0, none⟩ (.slice none 0 0)) ⟨w.heap.size + 1, 1, none⟩ (.slice none 0 0) ((World.cell?_setCell_other _ _ _ _ (by simp)).trans k4)
    have hbl := Lib.hid (((hb0.out.trans (hb1.mono (by omega))).setCell (p := ⟨w.heap.size + 1, 0, none⟩) (by show _ ≤ w.heap.size + 1; omega) (.slice none 0 0)).setCell (p := ⟨w.heap.size + 1, 1, none⟩) (by show _ ≤ w.heap.size + 1; omega) (.slice none 0 0))
    replace z0 := Lib.hid ((World.cell?_setCell_other (w1.setCell ⟨w.heap.size + 1, 0, none⟩ (.slice none 0 0)) ⟨w.heap.size + 1, 1, none⟩ ⟨w.heap.size + 1, 0, none⟩ (.slice none 0 0) (by simp)).trans z0)
    replace z1 := Lib.hid z1
    go_wp2
    refine bodyPost_ret (v := .tuple #[.agg #[.slice none 0 0, .slice none 0 0], .bool false]) (by simp [results, Try.results21, go_sem, z0.out, z1.out]) rfl ?_
    exact ⟨rfl, hbl.out⟩
  · rw [hs] at RT
    replace RT := Lib.hid RT
    clear hs
    replace hb0 := Lib.hid hb0
    replace hz := Lib.hid hz
    replace hcs := Lib.hid hcs
    replace eV := Lib.hid eV
    go_enter Try.func21, Try.ntmps21
    go_wp2_with fail
    rw [← eV.out]
    obtain ⟨k0, k1, k2, k3, k4, k5, k6⟩ := hcs.out _ (Below.refl _ _)
    go_wp2_with fail
    refine (RT.out _ (Below.refl _ _)).mono ?_
    rintro e w1 ⟨rfl, hb1⟩
    have hb1 := (Below.refl (w.heap.size + 2) V).trans (hb1.mono (Nat.le_of_eq hz.out.symm))
    obtain ⟨k0, k1, k2, k3, k4, k5, k6⟩ := hcs.out _ hb1
    have z0 := World.cell?_setCell_same w1 ⟨w.heap.size + 1, 0, none⟩ (.slice none 0 0) k3
    have z1 := World.cell?_setCell_same (w1.setCell ⟨w.heap.size + 1, 0, none⟩ (.slice none 0 0)) ⟨w.heap.size + 1, 1, none⟩ (.slice none 0 0) ((World.cell?_setCell_other _ _ _ _ (by simp)).trans k4)
    have hbl := Lib.hid (((hb0.out.trans (hb1.mono (by omega))).setCell (p := ⟨w.heap.size + 1, 0, none⟩) (by show _ ≤ w.heap.size + 1; omega) (.slice none 0 0)).setCell (p := ⟨w.heap.size + 1, 1, none⟩) (by show _ ≤ w.heap.size + 1; omega) (.slice none 0 0))
    replace z0 := Lib.hid ((World.cell?_setCell_other (w1.setCell ⟨w.heap.size + 1, 0, none⟩ (.slice none 0 0)) ⟨w.heap.size + 1, 1, none⟩ ⟨w.heap.size + 1, 0, none⟩ (.slice none 0 0) (by simp)).trans z0)
    replace z1 := Lib.hid z1
    go_wp2
    refine bodyPost_ret (v := .tuple #[.agg #[.slice none 0 0, .slice none 0 0], .bool false]) (by simp [results, Try.results21, go_sem, z0.out, z1.out]) rfl ?_
    exact ⟨rfl, hbl.out⟩
  · rw [hs] at RT
    replace RT := Lib.hid RT
    clear hs
    replace hb0 := Lib.hid hb0
    replace hz := Lib.hid hz
    replace hcs := Lib.hid hcs
    replace eV := Lib.hid eV
    go_enter Try.func21, Try.ntmps21
    go_wp2_with fail
    rw [← eV.out]
    obtain ⟨k0, k1, k2, k3, k4, k5, k6⟩ := hcs.out _ (Below.refl _ _)
    go_wp2_with fail
    refine (RT.out _ (Below.refl _ _)).mono ?_
    rintro e w1 ⟨rfl, hb1⟩
    have hb1 := (Below.refl (w.heap.size + 2) V).trans (hb1.mono (Nat.le_of_eq hz.out.symm))
    obtain ⟨k0, k1, k2, k3, k4, k5, k6⟩ := hcs.out _ hb1
    have z0 := World.cell?_setCell_same w1 ⟨w.heap.size + 1, 0, none⟩ (.slice none 0 0) k3
    have z1 := World.cell?_setCell_same (w1.setCell ⟨w.heap.size + 1, 0, none⟩ (.slice none 0 0)) ⟨w.heap.size + 1, 1, none⟩ (.slice none 0 0) ((World.cell?_setCell_other _ _ _ _ (by simp)).trans k4)
    have hbl := Lib.hid (((hb0.out.trans (hb1.mono (by omega))).setCell (p := ⟨w.heap.size + 1, 0, none⟩) (by show _ ≤ w.heap.size + 1; omega) (.slice none 0 0)).setCell (p := ⟨w.heap.size + 1, 1, none⟩) (by show _ ≤ w.heap.size + 1; omega) (.slice none 0 0))
    replace z0 := Lib.hid ((World.cell?_setCell_other (w1.setCell ⟨w.heap.size + 1, 0, none⟩ (.slice none 0 0)) ⟨w.heap.size + 1, 1, none⟩ ⟨w.heap.size + 1, 0, none⟩ (.slice none 0 0) (by simp)).trans z0)
    replace z1 := Lib.hid z1
    go_wp2
    refine bodyPost_ret (v := .tuple #[.agg #[.slice none 0 0, .slice none 0 0], .bool false]) (by simp [results, Try.results21, go_sem, z0.out, z1.out]) rfl ?_
    exact ⟨rfl, hbl.out⟩
set_option maxRecDepth 100000 in
set_option maxHeartbeats 8000000 in
theorem srow_ok (a1 a2 a3 : Option Addr) (GA : Nat → Option Addr) (GC : Nat → Nat) (e1 e2 e3 : Nat) (X Y : List Int) (Z : List (List Int)) (t : Nat) (w : World) (hx : RowIs .i64 w a1 X) (hy : RowIs .i64 w a2 Y) (hg : GridIs .i64 w a3 GA GC Z) (hX : X.length ≤ 50) (hY : Y.length ≤ 50) (hZ : Z.length ≤ 50) (hR : ∀ i, i < Z.length → (Z.getD i []).length ≤ 50) (hs : shB X Y Z = true) (ht : t < Z.length) : Calls Try.prog 21 #[.agg #[.slice a1 X.length e1, .slice a2 Y.length e2, .slice a3 Z.length e3], .int .i64 (t : Int)] w fun e w' => ∃ g1 c1 g2 c2 : Nat, e = .returned (.tuple #[.agg #[.slice (some ⟨g1, 0, none⟩) Y.length c1, .slice (some ⟨g2, 0, none⟩) (Z.getD t []).length c2], .bool true]) ∧ RowIs .i64 w' (some ⟨g1, 0, none⟩) Y ∧ RowIs .i64 w' (some ⟨g2, 0, none⟩) (Z.getD t []) ∧ Below w.heap.size w w' := by
  obtain ⟨V, eV, hb0, hz, hcs⟩ := srw_box w a1 a2 a3 e1 e2 e3 X Y Z
  obtain ⟨s1, s2, s3, s4, s5, s6⟩ := shB_at hs
  obtain ⟨n1, n2, n3, _⟩ := rgtB_at (s6 t ht)
  have hrt := hR t ht
  have RT := fun u (h : Below (w.heap.size + 2) V u) => sright a1 a2 a3 GA GC e1 e2 e3 X Y Z u (hx.below (hb0.trans (h.mono (by omega)))) (hy.below (hb0.trans (h.mono (by omega)))) (hg.below (hb0.trans (h.mono (by omega)))) hX hY hZ hR
  have GG := Lib.hid (fun u (h : Below (w.heap.size + 2) V u) => (hg.below (hb0.trans (h.mono (by omega)))).at ht)
  have CY := Lib.hid (fun u (h : Below (w.heap.size + 2) V u) => cclone_any a2 e2 Y u (hy.below (hb0.trans (h.mono (by omega)))) (by omega) (by omega))
  have CZ := Lib.hid (fun u (h : Below (w.heap.size + 2) V u) => cclone_any (GA t) (GC t) (Z.getD t []) u ((hg.rows t ht).below (hb0.trans (h.mono (by omega)))) (by omega) (by omega))
  rw [hs] at RT
  replace RT := Lib.hid RT
  have l1 : (t : Int) < (Z.length : Int) := by omega
  have l0 : 0 ≤ (t : Int) := by omega
  generalize Z.getD t [] = R at *
  clear hx hy hg hX hY hZ hR hs s1 s2 s3 s4 s5 s6 n1 n2 n3 hrt
  replace hb0 := Lib.hid hb0
  replace hz := Lib.hid hz
  replace hcs := Lib.hid hcs
  replace eV := Lib.hid eV
  go_enter Try.func21, Try.ntmps21
  go_wp2_with fail
  rw [← eV.out]
  obtain ⟨k0, k1, k2, k3, k4, k5, k6⟩ := hcs.out _ (Below.refl _ _)
  go_wp2_with fail
  refine (RT.out _ (Below.refl _ _)).mono ?_
  rintro e w1 ⟨rfl, hb1⟩
  have hb1 := (Below.refl (w.heap.size + 2) V).trans (hb1.mono (Nat.le_of_eq hz.out.symm))
  obtain ⟨k0, k1, k2, k3, k4, k5, k6⟩ := hcs.out _ hb1
  obtain ⟨bz, oz, ez, -, c9⟩ := GG.out _ hb1
  subst ez
  go_wp2_with fail
  refine region_moves (fun u => u.cell? ⟨w.heap.size, 1, none⟩ = some (.slice a2 Y.length e2) ∧ u.cell? ⟨w.heap.size, 2, none⟩ = some (.slice (some ⟨bz, oz, none⟩) Z.length e3) ∧ u.cell? ⟨bz, oz + t, none⟩ = some (.slice (GA t) R.length (GC t))) [(10, [(9, 10), (8, 10), (0, 10), (1, 10), (2, 10), (3, 10), (4, 10), (5, 10), (6, 10), (7, 10)])] [(.free, 0), (.take, 1), (.free, 3), (.take, 4), (.free, 5), (.free, 6), (.take, 7), (.step, 2), (.step, 8), (.free, 9), (.late, 10), (.free, 11)] _ (by kernel_rfl) (by kernel_rfl) (by kernel_rfl) (by kernel_rfl) (by decide) rfl (fun _ _ _ _ _ h => h) ?_
  simp only [List.filterMap_cons, List.filterMap_nil, List.getElem?_toArray, List.getElem?_cons_zero, List.getElem?_cons_succ, Option.map_some]
  iterate 1
    first
      | (refine mv_free ?_ (Or.inl ⟨by rfl, ?_⟩) (⟨k1, k2, c9⟩) ?_
         rotate_left 1
         · intro u
           go_simp
           try simp only [d1]
           try simp only [d2]
           try simp only [d3]
           try with_reducible rfl
         simp only [Act.put, List.setIfInBounds_toArray, List.set_cons_zero, List.set_cons_succ])
      | (refine mv_free _ (Or.inr ⟨by rfl, rfl⟩) (⟨k1, k2, c9⟩) ?_
         simp only [Act.put, List.setIfInBounds_toArray, List.set_cons_zero, List.set_cons_succ])
  iterate 1
    first
      | (refine mv_take ?_ (Or.inl ⟨by rfl, ?_⟩) (⟨k1, k2, c9⟩) ?_
         rotate_left 1
         · intro u hu
           (try dsimp only at hu)
           go_simp
           try with_reducible rfl
         simp only [Act.put, List.setIfInBounds_toArray, List.set_cons_zero, List.set_cons_succ])
      | (refine mv_take _ (Or.inr ⟨by rfl, rfl⟩) (⟨k1, k2, c9⟩) ?_
         simp only [Act.put, List.setIfInBounds_toArray, List.set_cons_zero, List.set_cons_succ])
  iterate 1
    first
      | (refine mv_free ?_ (Or.inl ⟨by rfl, ?_⟩) (⟨k1, k2, c9⟩) ?_
         rotate_left 1
         · intro u
           go_simp
           try simp only [d1]
           try simp only [d2]
           try simp only [d3]
           try with_reducible rfl
         simp only [Act.put, List.setIfInBounds_toArray, List.set_cons_zero, List.set_cons_succ])
      | (refine mv_free _ (Or.inr ⟨by rfl, rfl⟩) (⟨k1, k2, c9⟩) ?_
         simp only [Act.put, List.setIfInBounds_toArray, List.set_cons_zero, List.set_cons_succ])
  iterate 1
    first
      | (refine mv_take ?_ (Or.inl ⟨by rfl, ?_⟩) (⟨k1, k2, c9⟩) ?_
         rotate_left 1
         · intro u hu
           (try dsimp only at hu)
           go_simp
           try with_reducible rfl
         simp only [Act.put, List.setIfInBounds_toArray, List.set_cons_zero, List.set_cons_succ])
      | (refine mv_take _ (Or.inr ⟨by rfl, rfl⟩) (⟨k1, k2, c9⟩) ?_
         simp only [Act.put, List.setIfInBounds_toArray, List.set_cons_zero, List.set_cons_succ])
  iterate 2
    first
      | (refine mv_free ?_ (Or.inl ⟨by rfl, ?_⟩) (⟨k1, k2, c9⟩) ?_
         rotate_left 1
         · intro u
           go_simp
           try simp only [d1]
           try simp only [d2]
           try simp only [d3]
           try with_reducible rfl
         simp only [Act.put, List.setIfInBounds_toArray, List.set_cons_zero, List.set_cons_succ])
      | (refine mv_free _ (Or.inr ⟨by rfl, rfl⟩) (⟨k1, k2, c9⟩) ?_
         simp only [Act.put, List.setIfInBounds_toArray, List.set_cons_zero, List.set_cons_succ])
  iterate 1
    first
      | (refine mv_take ?_ (Or.inl ⟨by rfl, ?_⟩) (⟨k1, k2, c9⟩) ?_
         rotate_left 1
         · intro u hu
           (try dsimp only at hu)
           go_simp
           try with_reducible rfl
         simp only [Act.put, List.setIfInBounds_toArray, List.set_cons_zero, List.set_cons_succ])
      | (refine mv_take _ (Or.inr ⟨by rfl, rfl⟩) (⟨k1, k2, c9⟩) ?_
         simp only [Act.put, List.setIfInBounds_toArray, List.set_cons_zero, List.set_cons_succ])
  refine mv_step (fun K hK => ?_)
  go_simp
  refine (CY.out _ hb1.drew).mono ?_
  rintro e w3 ⟨g1, c1, rfl, r1, hg1, hb3⟩
  have hg1 : w.heap.size + 2 ≤ g1 := by have := hb1.size; have := hz.out; have h' : w1.heap.size ≤ g1 := hg1; omega
  have hb3 := hb1.drew.trans (hb3.mono (by have := hb1.size; have := hz.out; show _ ≤ w1.heap.size; omega))
  clear hb1 k0 k1 k2 k3 k4 k5 k6 c9
  obtain ⟨k0, k1, k2, k3, k4, k5, k6⟩ := hcs.out _ hb3
  obtain ⟨bz', oz', ez, -, c9⟩ := GG.out _ hb3
  injection ez with ez
  injection ez with e1' e2'
  subst e1' e2'
  replace r1 := Lib.hid r1
  go_wp2_with fail
  refine hK.out _ _ _ (fun u hu => hu) (⟨k1, k2, c9⟩) ?_
  clear hK K
  refine mv_step (fun K hK => ?_)
  go_simp
  refine (CZ.out _ hb3).mono ?_
  rintro e w4 ⟨g2, c2, rfl, r2, hg2, hb4⟩
  replace r1 := Lib.hid (r1.out.below hb4)
  have hg2 : w.heap.size + 2 ≤ g2 := by have := hb3.size; have := hz.out; omega
  have hb4 := hb3.trans (hb4.mono (by have := hb3.size; have := hz.out; omega))
  clear hb3 k0 k1 k2 k3 k4 k5 k6 c9
  obtain ⟨k0, k1, k2, k3, k4, k5, k6⟩ := hcs.out _ hb4
  obtain ⟨bz', oz', ez, -, c9⟩ := GG.out _ hb4
  injection ez with ez
  injection ez with e1' e2'
  subst e1' e2'
  replace r2 := Lib.hid r2
  go_wp2_with fail
  refine hK.out _ _ _ (fun u hu => hu) (⟨k1, k2, c9⟩) ?_
  clear hK K
  iterate 1
    first
      | (refine mv_free ?_ (Or.inl ⟨by rfl, ?_⟩) (⟨k1, k2, c9⟩) ?_
         rotate_left 1
         · intro u
           go_simp
           try simp only [d1]
           try simp only [d2]
           try simp only [d3]
           try with_reducible rfl
         simp only [Act.put, List.setIfInBounds_toArray, List.set_cons_zero, List.set_cons_succ])
      | (refine mv_free _ (Or.inr ⟨by rfl, rfl⟩) (⟨k1, k2, c9⟩) ?_
         simp only [Act.put, List.setIfInBounds_toArray, List.set_cons_zero, List.set_cons_succ])
  refine mv_late (fun K hK => ?_)
  go_simp
  refine hK.out (fun _ => True) _ _ ?_
  clear hK K
  iterate 1
    first
      | (refine mv_free ?_ (Or.inl ⟨by rfl, ?_⟩) (trivial) ?_
         rotate_left 1
         · intro u
           go_simp
           try simp only [d1]
           try simp only [d2]
           try simp only [d3]
           try with_reducible rfl
         simp only [Act.put, List.setIfInBounds_toArray, List.set_cons_zero, List.set_cons_succ])
      | (refine mv_free _ (Or.inr ⟨by rfl, rfl⟩) (trivial) ?_
         simp only [Act.put, List.setIfInBounds_toArray, List.set_cons_zero, List.set_cons_succ])
  refine mv_done ?_
  have z0 := World.cell?_setCell_same w4 ⟨w.heap.size + 1, 0, none⟩ (.slice (some ⟨g1, 0, none⟩) Y.length c1) k3
  have z1 := World.cell?_setCell_same (w4.setCell ⟨w.heap.size + 1, 0, none⟩ (.slice (some ⟨g1, 0, none⟩) Y.length c1)) ⟨w.heap.size + 1, 1, none⟩ (.slice (some ⟨g2, 0, none⟩) R.length c2) ((World.cell?_setCell_other _ _ _ _ (by simp)).trans k4)
  have hbl := Lib.hid (((hb0.out.trans (hb4.mono (by omega))).setCell (p := ⟨w.heap.size + 1, 0, none⟩) (by show _ ≤ w.heap.size + 1; omega) (.slice (some ⟨g1, 0, none⟩) Y.length c1)).setCell (p := ⟨w.heap.size + 1, 1, none⟩) (by show _ ≤ w.heap.size + 1; omega) (.slice (some ⟨g2, 0, none⟩) R.length c2))
  replace z0 := Lib.hid ((World.cell?_setCell_other (w4.setCell ⟨w.heap.size + 1, 0, none⟩ (.slice (some ⟨g1, 0, none⟩) Y.length c1)) ⟨w.heap.size + 1, 1, none⟩ ⟨w.heap.size + 1, 0, none⟩ (.slice (some ⟨g2, 0, none⟩) R.length c2) (by simp)).trans z0)
  replace z1 := Lib.hid z1
  replace r1 := Lib.hid ((r1.out.aside3 ⟨w.heap.size + 1, 0, none⟩ (.slice (some ⟨g1, 0, none⟩) Y.length c1) (by show w.heap.size + 1 ≠ g1; omega)).aside3 ⟨w.heap.size + 1, 1, none⟩ (.slice (some ⟨g2, 0, none⟩) R.length c2) (by show w.heap.size + 1 ≠ g1; omega))
  replace r2 := Lib.hid ((r2.out.aside3 ⟨w.heap.size + 1, 0, none⟩ (.slice (some ⟨g1, 0, none⟩) Y.length c1) (by show w.heap.size + 1 ≠ g2; omega)).aside3 ⟨w.heap.size + 1, 1, none⟩ (.slice (some ⟨g2, 0, none⟩) R.length c2) (by show w.heap.size + 1 ≠ g2; omega))
  go_wp2
  refine bodyPost_ret (v := .tuple #[.agg #[.slice (some ⟨g1, 0, none⟩) Y.length c1, .slice (some ⟨g2, 0, none⟩) R.length c2], .bool true]) (by simp [results, Try.results21, go_sem, z0.out, z1.out]) rfl ?_
  exact ⟨g1, c1, g2, c2, rfl, r1.out, r2.out, hbl.out⟩
theorem shp_box (w : World) (a1 a2 a3 : Option Addr) (e1 e2 e3 : Nat) (X Y : List Int) (Z : List (List Int)) : ∃ V, V = (w.alloc (.cells #[.slice a1 X.length e1, .slice a2 Y.length e2, .slice a3 Z.length e3] 25)) ∧ Below w.heap.size w V ∧ V.heap.size = w.heap.size + 1 ∧ ∀ u, Below (w.heap.size + 1) V u → u.cell? ⟨w.heap.size, 0, none⟩ = some (.slice a1 X.length e1) ∧ u.cell? ⟨w.heap.size, 1, none⟩ = some (.slice a2 Y.length e2) ∧ u.cell? ⟨w.heap.size, 2, none⟩ = some (.slice a3 Z.length e3) :=
  ⟨_, rfl, (by repeat (first | exact Below.refl _ _ | assumption | apply Below.drew | apply below_drewN | (refine Below.alloc ?_ (by first | exact Nat.le_refl _ | omega | (simp <;> omega)) _) | (refine Below.setCell ?_ (by first | exact Nat.le_refl _ | omega | (simp <;> omega)) _))), by simp, fun u hu => ⟨(bc hu (by omega)).trans (by go_simp), (bc hu (by omega)).trans (by go_simp), (bc hu (by omega)).trans (by go_simp)⟩⟩
theorem shc_box (w : World) (v1 v2 : Value) : ∃ V, V = (w.alloc (.cells #[v1, v2] 33)) ∧ Below w.heap.size w V ∧ V.heap.size = w.heap.size + 1 ∧ ∀ u, Below (w.heap.size + 1) V u → u.cell? ⟨w.heap.size, 0, none⟩ = some v1 ∧ u.cell? ⟨w.heap.size, 1, none⟩ = some v2 :=
  ⟨_, rfl, (by repeat (first | exact Below.refl _ _ | assumption | apply Below.drew | apply below_drewN | (refine Below.alloc ?_ (by first | exact Nat.le_refl _ | omega | (simp <;> omega)) _) | (refine Below.setCell ?_ (by first | exact Nat.le_refl _ | omega | (simp <;> omega)) _))), by simp, fun u hu => ⟨(bc hu (by omega)).trans (by go_simp), (bc hu (by omega)).trans (by go_simp)⟩⟩
set_option maxRecDepth 100000 in
set_option maxHeartbeats 8000000 in
theorem law_SheetParts (a1 a2 a3 : Option Addr) (GA : Nat → Option Addr) (GC : Nat → Nat) (e1 e2 e3 : Nat) (X Y : List Int) (Z : List (List Int)) (i y : Int) (w : World) (hx : RowIs .i64 w a1 X) (hy : RowIs .i64 w a2 Y) (hg : GridIs .i64 w a3 GA GC Z) : Calls Try.prog 4 #[.agg #[.slice a1 X.length e1, .slice a2 Y.length e2, .slice a3 Z.length e3], .int .i64 i, .int .i64 y] w fun e w' => e = .returned (.bool true) ∧ Below w.heap.size w w' := by
  obtain ⟨V, eV, hb0, hz, hcs⟩ := shp_box w a1 a2 a3 e1 e2 e3 X Y Z
  have W := fun u (h : Below (w.heap.size + 1) V u) => show Below w.heap.size w u from hb0.trans (h.mono (by omega))
  have LV := Lib.hid (fun u => lives06 u)
  have GR := Lib.hid (fun u (h : Below (w.heap.size + 1) V u) => sgreat a1 a2 a3 GA GC e1 e2 e3 X Y Z u (hg.below (W u h)))
  have RD := Lib.hid (fun hX hY hZ hR u (h : Below (w.heap.size + 1) V u) => rright06 a1 a2 a3 GA GC e1 e2 e3 X Y Z u (hx.below (W u h)) (hy.below (W u h)) (hg.below (W u h)) hX hY hZ hR)
  have RN := Lib.hid (fun hX hY hZ hR hs u (h : Below (w.heap.size + 1) V u) => srow_no a1 a2 a3 GA GC e1 e2 e3 X Y Z i u (hx.below (W u h)) (hy.below (W u h)) (hg.below (W u h)) hX hY hZ hR hs)
  have RO := Lib.hid (fun t hX hY hZ hR hs ht u (h : Below (w.heap.size + 1) V u) => srow_ok a1 a2 a3 GA GC e1 e2 e3 X Y Z t u (hx.below (W u h)) (hy.below (W u h)) (hg.below (W u h)) hX hY hZ hR hs ht)
  have CN := Lib.hid (fun hX hY hZ hR hs u (h : Below (w.heap.size + 1) V u) => scut_no a1 a2 a3 GA GC e1 e2 e3 X Y Z y u (hx.below (W u h)) (hy.below (W u h)) (hg.below (W u h)) hX hY hZ hR hs)
  have CO := Lib.hid (fun hX hY hZ hR hs u (h : Below (w.heap.size + 1) V u) => scut_ok a1 a2 a3 GA GC e1 e2 e3 X Y Z y u (hx.below (W u h)) (hy.below (W u h)) (hg.below (W u h)) hX hY hZ hR hs)
  have RC := Lib.hid (fun hX hY hZ hR hs u (h : Below (w.heap.size + 1) V u) => rcut06 a1 a2 a3 GA GC e1 e2 e3 X Y Z y u (hx.below (W u h)) (hy.below (W u h)) (hg.below (W u h)) hX hY hZ hR hs)
  have GG := Lib.hid (fun u (h : Below (w.heap.size + 1) V u) => fun i (hi : i < Z.length) => (hg.below (W u h)).at hi)
  have GR2 := Lib.hid (fun u (h : Below (w.heap.size + 1) V u) => fun i (hi : i < Z.length) => (hg.below (W u h)).rows i hi)
  have HX := Lib.hid (fun u (h : Below (w.heap.size + 1) V u) => hx.below (W u h))
  have HY := Lib.hid (fun u (h : Below (w.heap.size + 1) V u) => hy.below (W u h))
  clear hx hy hg W
  replace hb0 := Lib.hid hb0
  replace hz := Lib.hid hz
  replace hcs := Lib.hid hcs
  replace eV := Lib.hid eV
  go_enter Try.func4, Try.ntmps4
  go_wp2_with fail
  rw [← eV.out]
  obtain ⟨k0, k1, k2⟩ := hcs.out _ (Below.refl _ _)
  go_wp2_with fail
  refine (GR.out _ (Below.refl _ _)).mono ?_
  rintro e w1 ⟨g, rfl, hgb, hb1⟩
  have hb1 := (Below.refl (w.heap.size + 1) V).trans (hb1.mono (Nat.le_of_eq hz.out.symm))
  obtain ⟨k0, k1, k2⟩ := hcs.out _ hb1
  cases g
  case true =>
    clear hgb RD RN RO CN CO RC GG GR2 HX HY
    go_wp2_with fail
    refine (LV.out _).mono ?_
    rintro e w20 ⟨rfl, hb20⟩
    have hb20 := hb1.trans (hb20.mono (by have := hb1.size; have := hz.out; omega))
    go_wp2
    go_ret
    exact ⟨rfl, hb0.out.trans (hb20.mono (by omega))⟩
  case false =>
  obtain ⟨hX, hY, hZ, hR⟩ := hgb rfl
  have RD1 := RD.out hX hY hZ hR
  cases hs : shB X Y Z
  · rw [hs] at RD1
    have RW := Lib.hid (RN.out hX hY hZ hR (.inl hs))
    have CU := Lib.hid (CN.out hX hY hZ hR hs)
    replace RD1 := Lib.hid RD1
    clear hgb RD RN RO CN CO RC GG GR2 HX HY hX hY hZ hR hs
    go_wp2_with fail
    refine (RD1.out _ hb1).mono ?_
    rintro e w2 ⟨rfl, hb2⟩
    have hb2 := hb1.trans (hb2.mono (by have := hb1.size; have := hz.out; omega))
    clear hb1
    obtain ⟨k0, k1, k2⟩ := hcs.out _ hb2
    go_wp2_with fail
    refine (RW.out _ hb2).mono ?_
    rintro e w3 ⟨rfl, hb3⟩
    have hb3 := hb2.trans (hb3.mono (by have := hb2.size; have := hz.out; omega))
    clear hb2 k0 k1 k2
    go_upto_region 5 with (fail)
    obtain ⟨V1, eV1, mV1, zV1, hcs4⟩ := shc_box w3 (.slice none 0 0) (.slice none 0 0)
    have hbV1 := hb3.trans (mV1.mono (by have := hb3.size; have := hz.out; omega))
    replace eV1 := Lib.hid eV1
    rw [← eV1.out]
    have hm4 : Below (w3.heap.size + 1) V1 V1 := Below.refl _ _
    have hs4 := Lib.hid (show V1.heap.size = w3.heap.size + 1 from zV1)
    replace hcs4 := Lib.hid hcs4
    obtain ⟨j0, j1⟩ := hcs4.out _ hm4
    obtain ⟨k0, k1, k2⟩ := hcs.out _ hbV1
    clear hb3 mV1 zV1
    go_wp2_with fail
    refine (CU.out _ hbV1).mono ?_
    rintro e w5 ⟨rfl, hb5⟩
    have hm5 := hm4.trans (hb5.mono (by have := hs4.out; omega))
    have hb5 := hbV1.trans (hb5.mono (by have := hbV1.size; have := hz.out; omega))
    clear hbV1 hm4 j0 j1 k0 k1 k2
    go_upto_region 6 with (fail)
    obtain ⟨V2, eV2, mV2, zV2, hcs6⟩ := shc_box w5 (.slice none 0 0) (.slice none 0 0)
    have hbV2 := hb5.trans (mV2.mono (by have := hb5.size; have := hz.out; omega))
    replace eV2 := Lib.hid eV2
    rw [← eV2.out]
    have hn6 : Below (w5.heap.size + 1) V2 V2 := Below.refl _ _
    have hs6 := Lib.hid (show V2.heap.size = w5.heap.size + 1 from zV2)
    replace hcs6 := Lib.hid hcs6
    obtain ⟨i0, i1⟩ := hcs6.out _ hn6
    obtain ⟨k0, k1, k2⟩ := hcs.out _ hbV2
    have hm6 := hm5.trans (mV2.mono (by have := hm5.size; have := hs4.out; omega))
    obtain ⟨j0, j1⟩ := hcs4.out _ hm6
    clear hb5 hm5 mV2 zV2
    go_upto_region 8 with (fail)
    refine region_moves (fun u => u.cell? ⟨w3.heap.size, 0, none⟩ = some (.slice none 0 0) ∧ u.cell? ⟨w3.heap.size, 1, none⟩ = some (.slice none 0 0) ∧ u.cell? ⟨w.heap.size, 0, none⟩ = some (.slice a1 X.length e1) ∧ u.cell? ⟨w.heap.size, 1, none⟩ = some (.slice a2 Y.length e2) ∧ u.cell? ⟨w.heap.size, 2, none⟩ = some (.slice a3 Z.length e3)) [] [(.free, 0), (.free, 1), (.take, 2), (.free, 3), (.take, 4), (.free, 5), (.take, 6), (.free, 7), (.free, 8), (.take, 9), (.free, 10), (.step, 11), (.free, 12), (.free, 13), (.free, 14), (.free, 15), (.free, 16), (.free, 17), (.free, 18), (.take, 19), (.free, 20), (.free, 21), (.take, 22), (.free, 23), (.free, 24), (.free, 25), (.free, 26), (.free, 27)] _ (by kernel_rfl) (by kernel_rfl) (by kernel_rfl) (by kernel_rfl) (by decide) rfl (fun _ _ _ _ _ h => h) ?_
    simp only [List.filterMap_cons, List.filterMap_nil, List.getElem?_toArray, List.getElem?_cons_zero, List.getElem?_cons_succ, Option.map_some]
    iterate 2
      first
        | (refine mv_free ?_ (Or.inl ⟨by rfl, ?_⟩) (⟨j0, j1, k0, k1, k2⟩) ?_
           rotate_left 1
           · intro u
             go_simp
             try simp only [d1]
             try simp only [d2]
             try simp only [d3]
             try with_reducible rfl
           simp only [Act.put, List.setIfInBounds_toArray, List.set_cons_zero, List.set_cons_succ])
        | (refine mv_free _ (Or.inr ⟨by rfl, rfl⟩) (⟨j0, j1, k0, k1, k2⟩) ?_
           simp only [Act.put, List.setIfInBounds_toArray, List.set_cons_zero, List.set_cons_succ])
    iterate 1
      first
        | (refine mv_take ?_ (Or.inl ⟨by rfl, ?_⟩) (⟨j0, j1, k0, k1, k2⟩) ?_
           rotate_left 1
           · intro u hu
             (try dsimp only at hu)
             go_simp
             try with_reducible rfl
           simp only [Act.put, List.setIfInBounds_toArray, List.set_cons_zero, List.set_cons_succ])
        | (refine mv_take _ (Or.inr ⟨by rfl, rfl⟩) (⟨j0, j1, k0, k1, k2⟩) ?_
           simp only [Act.put, List.setIfInBounds_toArray, List.set_cons_zero, List.set_cons_succ])
    iterate 1
      first
        | (refine mv_free ?_ (Or.inl ⟨by rfl, ?_⟩) (⟨j0, j1, k0, k1, k2⟩) ?_
           rotate_left 1
           · intro u
             go_simp
             try simp only [d1]
             try simp only [d2]
             try simp only [d3]
             try with_reducible rfl
           simp only [Act.put, List.setIfInBounds_toArray, List.set_cons_zero, List.set_cons_succ])
        | (refine mv_free _ (Or.inr ⟨by rfl, rfl⟩) (⟨j0, j1, k0, k1, k2⟩) ?_
           simp only [Act.put, List.setIfInBounds_toArray, List.set_cons_zero, List.set_cons_succ])
    iterate 1
      first
        | (refine mv_take ?_ (Or.inl ⟨by rfl, ?_⟩) (⟨j0, j1, k0, k1, k2⟩) ?_
           rotate_left 1
           · intro u hu
             (try dsimp only at hu)
             go_simp
             try with_reducible rfl
           simp only [Act.put, List.setIfInBounds_toArray, List.set_cons_zero, List.set_cons_succ])
        | (refine mv_take _ (Or.inr ⟨by rfl, rfl⟩) (⟨j0, j1, k0, k1, k2⟩) ?_
           simp only [Act.put, List.setIfInBounds_toArray, List.set_cons_zero, List.set_cons_succ])
    iterate 1
      first
        | (refine mv_free ?_ (Or.inl ⟨by rfl, ?_⟩) (⟨j0, j1, k0, k1, k2⟩) ?_
           rotate_left 1
           · intro u
             go_simp
             try simp only [d1]
             try simp only [d2]
             try simp only [d3]
             try with_reducible rfl
           simp only [Act.put, List.setIfInBounds_toArray, List.set_cons_zero, List.set_cons_succ])
        | (refine mv_free _ (Or.inr ⟨by rfl, rfl⟩) (⟨j0, j1, k0, k1, k2⟩) ?_
           simp only [Act.put, List.setIfInBounds_toArray, List.set_cons_zero, List.set_cons_succ])
    iterate 1
      first
        | (refine mv_take ?_ (Or.inl ⟨by rfl, ?_⟩) (⟨j0, j1, k0, k1, k2⟩) ?_
           rotate_left 1
           · intro u hu
             (try dsimp only at hu)
             go_simp
             try with_reducible rfl
           simp only [Act.put, List.setIfInBounds_toArray, List.set_cons_zero, List.set_cons_succ])
        | (refine mv_take _ (Or.inr ⟨by rfl, rfl⟩) (⟨j0, j1, k0, k1, k2⟩) ?_
           simp only [Act.put, List.setIfInBounds_toArray, List.set_cons_zero, List.set_cons_succ])
    iterate 2
      first
        | (refine mv_free ?_ (Or.inl ⟨by rfl, ?_⟩) (⟨j0, j1, k0, k1, k2⟩) ?_
           rotate_left 1
           · intro u
             go_simp
             try simp only [d1]
             try simp only [d2]
             try simp only [d3]
             try with_reducible rfl
           simp only [Act.put, List.setIfInBounds_toArray, List.set_cons_zero, List.set_cons_succ])
        | (refine mv_free _ (Or.inr ⟨by rfl, rfl⟩) (⟨j0, j1, k0, k1, k2⟩) ?_
           simp only [Act.put, List.setIfInBounds_toArray, List.set_cons_zero, List.set_cons_succ])
    iterate 1
      first
        | (refine mv_take ?_ (Or.inl ⟨by rfl, ?_⟩) (⟨j0, j1, k0, k1, k2⟩) ?_
           rotate_left 1
           · intro u hu
             (try dsimp only at hu)
             go_simp
             try with_reducible rfl
           simp only [Act.put, List.setIfInBounds_toArray, List.set_cons_zero, List.set_cons_succ])
        | (refine mv_take _ (Or.inr ⟨by rfl, rfl⟩) (⟨j0, j1, k0, k1, k2⟩) ?_
           simp only [Act.put, List.setIfInBounds_toArray, List.set_cons_zero, List.set_cons_succ])
    iterate 1
      first
        | (refine mv_free ?_ (Or.inl ⟨by rfl, ?_⟩) (⟨j0, j1, k0, k1, k2⟩) ?_
           rotate_left 1
           · intro u
             go_simp
             try simp only [d1]
             try simp only [d2]
             try simp only [d3]
             try with_reducible rfl
           simp only [Act.put, List.setIfInBounds_toArray, List.set_cons_zero, List.set_cons_succ])
        | (refine mv_free _ (Or.inr ⟨by rfl, rfl⟩) (⟨j0, j1, k0, k1, k2⟩) ?_
           simp only [Act.put, List.setIfInBounds_toArray, List.set_cons_zero, List.set_cons_succ])
    refine mv_step (fun K hK => ?_)
    go_simp
    refine hK.out _ _ _ (fun u hu => hu) (⟨j0, j1, k0, k1, k2⟩) ?_
    clear hK K
    iterate 7
      first
        | (refine mv_free ?_ (Or.inl ⟨by rfl, ?_⟩) (⟨j0, j1, k0, k1, k2⟩) ?_
           rotate_left 1
           · intro u
             go_simp
             try simp only [d1]
             try simp only [d2]
             try simp only [d3]
             try with_reducible rfl
           simp only [Act.put, List.setIfInBounds_toArray, List.set_cons_zero, List.set_cons_succ])
        | (refine mv_free _ (Or.inr ⟨by rfl, rfl⟩) (⟨j0, j1, k0, k1, k2⟩) ?_
           simp only [Act.put, List.setIfInBounds_toArray, List.set_cons_zero, List.set_cons_succ])
    iterate 1
      first
        | (refine mv_take ?_ (Or.inl ⟨by rfl, ?_⟩) (⟨j0, j1, k0, k1, k2⟩) ?_
           rotate_left 1
           · intro u hu
             (try dsimp only at hu)
             go_simp
             try with_reducible rfl
           simp only [Act.put, List.setIfInBounds_toArray, List.set_cons_zero, List.set_cons_succ])
        | (refine mv_take _ (Or.inr ⟨by rfl, rfl⟩) (⟨j0, j1, k0, k1, k2⟩) ?_
           simp only [Act.put, List.setIfInBounds_toArray, List.set_cons_zero, List.set_cons_succ])
    iterate 2
      first
        | (refine mv_free ?_ (Or.inl ⟨by rfl, ?_⟩) (⟨j0, j1, k0, k1, k2⟩) ?_
           rotate_left 1
           · intro u
             go_simp
             try simp only [d1]
             try simp only [d2]
             try simp only [d3]
             try with_reducible rfl
           simp only [Act.put, List.setIfInBounds_toArray, List.set_cons_zero, List.set_cons_succ])
        | (refine mv_free _ (Or.inr ⟨by rfl, rfl⟩) (⟨j0, j1, k0, k1, k2⟩) ?_
           simp only [Act.put, List.setIfInBounds_toArray, List.set_cons_zero, List.set_cons_succ])
    iterate 1
      first
        | (refine mv_take ?_ (Or.inl ⟨by rfl, ?_⟩) (⟨j0, j1, k0, k1, k2⟩) ?_
           rotate_left 1
           · intro u hu
             (try dsimp only at hu)
             go_simp
             try with_reducible rfl
           simp only [Act.put, List.setIfInBounds_toArray, List.set_cons_zero, List.set_cons_succ])
        | (refine mv_take _ (Or.inr ⟨by rfl, rfl⟩) (⟨j0, j1, k0, k1, k2⟩) ?_
           simp only [Act.put, List.setIfInBounds_toArray, List.set_cons_zero, List.set_cons_succ])
    iterate 5
      first
        | (refine mv_free ?_ (Or.inl ⟨by rfl, ?_⟩) (⟨j0, j1, k0, k1, k2⟩) ?_
           rotate_left 1
           · intro u
             go_simp
             try simp only [d1]
             try simp only [d2]
             try simp only [d3]
             try with_reducible rfl
           simp only [Act.put, List.setIfInBounds_toArray, List.set_cons_zero, List.set_cons_succ])
        | (refine mv_free _ (Or.inr ⟨by rfl, rfl⟩) (⟨j0, j1, k0, k1, k2⟩) ?_
           simp only [Act.put, List.setIfInBounds_toArray, List.set_cons_zero, List.set_cons_succ])
    refine mv_done ?_
    go_upto_region 10 with (fail)
    refine region_moves (fun u => u.cell? ⟨w5.heap.size, 0, none⟩ = some (.slice none 0 0) ∧ u.cell? ⟨w5.heap.size, 1, none⟩ = some (.slice none 0 0) ∧ u.cell? ⟨w.heap.size, 0, none⟩ = some (.slice a1 X.length e1) ∧ u.cell? ⟨w.heap.size, 1, none⟩ = some (.slice a2 Y.length e2) ∧ u.cell? ⟨w.heap.size, 2, none⟩ = some (.slice a3 Z.length e3)) [] [(.free, 0), (.free, 1), (.take, 2), (.take, 3), (.free, 4), (.step, 5), (.step, 6), (.free, 7), (.free, 8), (.free, 9), (.free, 10), (.free, 11), (.free, 12), (.take, 13), (.free, 14), (.free, 15), (.take, 16), (.free, 17), (.free, 18), (.free, 19), (.free, 20), (.free, 21), (.free, 22), (.step, 23), (.free, 24), (.free, 25)] _ (by kernel_rfl) (by kernel_rfl) (by kernel_rfl) (by kernel_rfl) (by decide) rfl (fun _ _ _ _ _ h => h) ?_
    simp only [List.filterMap_cons, List.filterMap_nil, List.getElem?_toArray, List.getElem?_cons_zero, List.getElem?_cons_succ, Option.map_some]
    iterate 2
      first
        | (refine mv_free ?_ (Or.inl ⟨by rfl, ?_⟩) (⟨i0, i1, k0, k1, k2⟩) ?_
           rotate_left 1
           · intro u
             go_simp
             try simp only [d1]
             try simp only [d2]
             try simp only [d3]
             try with_reducible rfl
           simp only [Act.put, List.setIfInBounds_toArray, List.set_cons_zero, List.set_cons_succ])
        | (refine mv_free _ (Or.inr ⟨by rfl, rfl⟩) (⟨i0, i1, k0, k1, k2⟩) ?_
           simp only [Act.put, List.setIfInBounds_toArray, List.set_cons_zero, List.set_cons_succ])
    iterate 2
      first
        | (refine mv_take ?_ (Or.inl ⟨by rfl, ?_⟩) (⟨i0, i1, k0, k1, k2⟩) ?_
           rotate_left 1
           · intro u hu
             (try dsimp only at hu)
             go_simp
             try with_reducible rfl
           simp only [Act.put, List.setIfInBounds_toArray, List.set_cons_zero, List.set_cons_succ])
        | (refine mv_take _ (Or.inr ⟨by rfl, rfl⟩) (⟨i0, i1, k0, k1, k2⟩) ?_
           simp only [Act.put, List.setIfInBounds_toArray, List.set_cons_zero, List.set_cons_succ])
    iterate 1
      first
        | (refine mv_free ?_ (Or.inl ⟨by rfl, ?_⟩) (⟨i0, i1, k0, k1, k2⟩) ?_
           rotate_left 1
           · intro u
             go_simp
             try simp only [d1]
             try simp only [d2]
             try simp only [d3]
             try with_reducible rfl
           simp only [Act.put, List.setIfInBounds_toArray, List.set_cons_zero, List.set_cons_succ])
        | (refine mv_free _ (Or.inr ⟨by rfl, rfl⟩) (⟨i0, i1, k0, k1, k2⟩) ?_
           simp only [Act.put, List.setIfInBounds_toArray, List.set_cons_zero, List.set_cons_succ])
    refine mv_step (fun K hK => ?_)
    go_simp
    refine hK.out _ _ _ (fun u hu => hu) (⟨i0, i1, k0, k1, k2⟩) ?_
    clear hK K
    refine mv_step (fun K hK => ?_)
    go_simp
    refine hK.out _ _ _ (fun u hu => hu) (⟨i0, i1, k0, k1, k2⟩) ?_
    clear hK K
    iterate 6
      first
        | (refine mv_free ?_ (Or.inl ⟨by rfl, ?_⟩) (⟨i0, i1, k0, k1, k2⟩) ?_
           rotate_left 1
           · intro u
             go_simp
             try simp only [d1]
             try simp only [d2]
             try simp only [d3]
             try with_reducible rfl
           simp only [Act.put, List.setIfInBounds_toArray, List.set_cons_zero, List.set_cons_succ])
        | (refine mv_free _ (Or.inr ⟨by rfl, rfl⟩) (⟨i0, i1, k0, k1, k2⟩) ?_
           simp only [Act.put, List.setIfInBounds_toArray, List.set_cons_zero, List.set_cons_succ])
    iterate 1
      first
        | (refine mv_take ?_ (Or.inl ⟨by rfl, ?_⟩) (⟨i0, i1, k0, k1, k2⟩) ?_
           rotate_left 1
           · intro u hu
             (try dsimp only at hu)
             go_simp
             try with_reducible rfl
           simp only [Act.put, List.setIfInBounds_toArray, List.set_cons_zero, List.set_cons_succ])
        | (refine mv_take _ (Or.inr ⟨by rfl, rfl⟩) (⟨i0, i1, k0, k1, k2⟩) ?_
           simp only [Act.put, List.setIfInBounds_toArray, List.set_cons_zero, List.set_cons_succ])
    iterate 2
      first
        | (refine mv_free ?_ (Or.inl ⟨by rfl, ?_⟩) (⟨i0, i1, k0, k1, k2⟩) ?_
           rotate_left 1
           · intro u
             go_simp
             try simp only [d1]
             try simp only [d2]
             try simp only [d3]
             try with_reducible rfl
           simp only [Act.put, List.setIfInBounds_toArray, List.set_cons_zero, List.set_cons_succ])
        | (refine mv_free _ (Or.inr ⟨by rfl, rfl⟩) (⟨i0, i1, k0, k1, k2⟩) ?_
           simp only [Act.put, List.setIfInBounds_toArray, List.set_cons_zero, List.set_cons_succ])
    iterate 1
      first
        | (refine mv_take ?_ (Or.inl ⟨by rfl, ?_⟩) (⟨i0, i1, k0, k1, k2⟩) ?_
           rotate_left 1
           · intro u hu
             (try dsimp only at hu)
             go_simp
             try with_reducible rfl
           simp only [Act.put, List.setIfInBounds_toArray, List.set_cons_zero, List.set_cons_succ])
        | (refine mv_take _ (Or.inr ⟨by rfl, rfl⟩) (⟨i0, i1, k0, k1, k2⟩) ?_
           simp only [Act.put, List.setIfInBounds_toArray, List.set_cons_zero, List.set_cons_succ])
    iterate 6
      first
        | (refine mv_free ?_ (Or.inl ⟨by rfl, ?_⟩) (⟨i0, i1, k0, k1, k2⟩) ?_
           rotate_left 1
           · intro u
             go_simp
             try simp only [d1]
             try simp only [d2]
             try simp only [d3]
             try with_reducible rfl
           simp only [Act.put, List.setIfInBounds_toArray, List.set_cons_zero, List.set_cons_succ])
        | (refine mv_free _ (Or.inr ⟨by rfl, rfl⟩) (⟨i0, i1, k0, k1, k2⟩) ?_
           simp only [Act.put, List.setIfInBounds_toArray, List.set_cons_zero, List.set_cons_succ])
    refine mv_step (fun K hK => ?_)
    go_simp
    refine (LV.out _).mono ?_
    rintro e w20 ⟨rfl, hb20⟩
    have hn20 := hn6.drew.drew.trans (hb20.mono (by have := hn6.drew.size; have := hs6.out; show _ ≤ V2.drew.heap.size; omega))
    have hb20 := hbV2.drew.drew.trans (hb20.mono (by have := hbV2.drew.size; have := hz.out; show _ ≤ V2.drew.heap.size; omega))
    clear i0 i1 k0 k1 k2
    obtain ⟨k0, k1, k2⟩ := hcs.out _ hb20
    obtain ⟨i0, i1⟩ := hcs6.out _ hn20
    go_wp2_with fail
    refine hK.out _ _ _ (fun u hu => hu) (⟨i0, i1, k0, k1, k2⟩) ?_
    clear hK K
    iterate 2
      first
        | (refine mv_free ?_ (Or.inl ⟨by rfl, ?_⟩) (⟨i0, i1, k0, k1, k2⟩) ?_
           rotate_left 1
           · intro u
             go_simp
             try simp only [d1]
             try simp only [d2]
             try simp only [d3]
             try with_reducible rfl
           simp only [Act.put, List.setIfInBounds_toArray, List.set_cons_zero, List.set_cons_succ])
        | (refine mv_free _ (Or.inr ⟨by rfl, rfl⟩) (⟨i0, i1, k0, k1, k2⟩) ?_
           simp only [Act.put, List.setIfInBounds_toArray, List.set_cons_zero, List.set_cons_succ])
    refine mv_done ?_
    go_wp2
    go_ret
    exact ⟨by first | rfl | simp, hb0.out.trans (hb20.mono (by omega))⟩
  obtain ⟨s1, s2, s3, s4, s5, s6⟩ := shB_at hs
  obtain ⟨n1, n2, _⟩ := rgtB_at s1
  obtain ⟨n3, n4, _⟩ := rgtB_at s2
  rw [hs] at RD1
  replace RD1 := Lib.hid RD1
  have CU := CO.out hX hY hZ hR hs
  have RC1 := RC.out hX hY hZ hR hs
  have hL := cuL_len Y Z y
  have NL := Lib.hid (show 2 ≤ X.length ∧ X.length ≤ 16 ∧ 2 ≤ Y.length ∧ Y.length ≤ 16 ∧ (cuL Y Z y).length = X.length from ⟨by omega, by omega, by omega, by omega, by omega⟩)
  rcases (show i < 0 ∨ (0 ≤ i ∧ (Z.length : Int) ≤ i) ∨ ∃ t : Nat, i = (t : Int) ∧ t < Z.length by
    by_cases a : i < 0
    · exact .inl a
    · by_cases b : (Z.length : Int) ≤ i
      · exact .inr (.inl ⟨by omega, b⟩)
      · exact .inr (.inr ⟨i.toNat, by omega, by omega⟩)) with h | ⟨h, h2⟩ | ⟨t, rfl, ht⟩
  · have RW := Lib.hid (RN.out hX hY hZ hR (.inr (.inl ⟨hs, h⟩)))
    generalize cuL Y Z y = L at *
    replace CU := Lib.hid CU
    replace RC1 := Lib.hid RC1
    clear hgb RD RN RO CN CO RC GG GR2 HY hX hY hZ hR hs s1 s2 s3 s4 s5 s6 n1 n2 n3 n4 hL
    go_wp2_with fail
    refine (RD1.out _ hb1).mono ?_
    rintro e w2 ⟨rfl, hb2⟩
    have hb2 := hb1.trans (hb2.mono (by have := hb1.size; have := hz.out; omega))
    clear hb1
    obtain ⟨k0, k1, k2⟩ := hcs.out _ hb2
    go_wp2_with fail
    refine (RW.out _ hb2).mono ?_
    rintro e w3 ⟨rfl, hb3⟩
    have hb3 := hb2.trans (hb3.mono (by have := hb2.size; have := hz.out; omega))
    clear hb2 k0 k1 k2
    go_upto_region 5 with (fail)
    obtain ⟨V1, eV1, mV1, zV1, hcs4⟩ := shc_box w3 (.slice none 0 0) (.slice none 0 0)
    have hbV1 := hb3.trans (mV1.mono (by have := hb3.size; have := hz.out; omega))
    replace eV1 := Lib.hid eV1
    rw [← eV1.out]
    have hm4 : Below (w3.heap.size + 1) V1 V1 := Below.refl _ _
    have hs4 := Lib.hid (show V1.heap.size = w3.heap.size + 1 from zV1)
    replace hcs4 := Lib.hid hcs4
    obtain ⟨j0, j1⟩ := hcs4.out _ hm4
    obtain ⟨k0, k1, k2⟩ := hcs.out _ hbV1
    clear hb3 mV1 zV1
    go_wp2_with fail
    refine (CU.out _ hbV1).mono ?_
    rintro e w5 ⟨g3, c3, g4, c4, rfl, x3, x4, hb5⟩
    have hm5 := hm4.trans (hb5.mono (by have := hs4.out; omega))
    have hb5 := hbV1.trans (hb5.mono (by have := hbV1.size; have := hz.out; omega))
    clear hbV1 hm4 j0 j1 k0 k1 k2
    replace x3 := Lib.hid x3
    replace x4 := Lib.hid x4
    go_upto_region 6 with (fail)
    obtain ⟨V2, eV2, mV2, zV2, hcs6⟩ := shc_box w5 (.slice (some ⟨g3, 0, none⟩) X.length c3) (.slice (some ⟨g4, 0, none⟩) L.length c4)
    have hbV2 := hb5.trans (mV2.mono (by have := hb5.size; have := hz.out; omega))
    replace eV2 := Lib.hid eV2
    rw [← eV2.out]
    have hn6 : Below (w5.heap.size + 1) V2 V2 := Below.refl _ _
    have hs6 := Lib.hid (show V2.heap.size = w5.heap.size + 1 from zV2)
    replace hcs6 := Lib.hid hcs6
    obtain ⟨i0, i1⟩ := hcs6.out _ hn6
    obtain ⟨k0, k1, k2⟩ := hcs.out _ hbV2
    have hm6 := hm5.trans (mV2.mono (by have := hm5.size; have := hs4.out; omega))
    obtain ⟨j0, j1⟩ := hcs4.out _ hm6
    replace x3 := Lib.hid (x3.out.below mV2)
    replace x4 := Lib.hid (x4.out.below mV2)
    clear hb5 hm5 mV2 zV2
    go_upto_region 8 with (fail)
    refine region_moves (fun u => u.cell? ⟨w3.heap.size, 0, none⟩ = some (.slice none 0 0) ∧ u.cell? ⟨w3.heap.size, 1, none⟩ = some (.slice none 0 0) ∧ u.cell? ⟨w.heap.size, 0, none⟩ = some (.slice a1 X.length e1) ∧ u.cell? ⟨w.heap.size, 1, none⟩ = some (.slice a2 Y.length e2) ∧ u.cell? ⟨w.heap.size, 2, none⟩ = some (.slice a3 Z.length e3)) [] [(.free, 0), (.free, 1), (.take, 2), (.free, 3), (.take, 4), (.free, 5), (.take, 6), (.free, 7), (.free, 8), (.take, 9), (.free, 10), (.step, 11), (.free, 12), (.free, 13), (.free, 14), (.free, 15), (.free, 16), (.free, 17), (.free, 18), (.take, 19), (.free, 20), (.free, 21), (.take, 22), (.free, 23), (.free, 24), (.free, 25), (.free, 26), (.free, 27)] _ (by kernel_rfl) (by kernel_rfl) (by kernel_rfl) (by kernel_rfl) (by decide) rfl (fun _ _ _ _ _ h => h) ?_
    simp only [List.filterMap_cons, List.filterMap_nil, List.getElem?_toArray, List.getElem?_cons_zero, List.getElem?_cons_succ, Option.map_some]
    iterate 2
      first
        | (refine mv_free ?_ (Or.inl ⟨by rfl, ?_⟩) (⟨j0, j1, k0, k1, k2⟩) ?_
           rotate_left 1
           · intro u
             go_simp
             try simp only [d1]
             try simp only [d2]
             try simp only [d3]
             try with_reducible rfl
           simp only [Act.put, List.setIfInBounds_toArray, List.set_cons_zero, List.set_cons_succ])
        | (refine mv_free _ (Or.inr ⟨by rfl, rfl⟩) (⟨j0, j1, k0, k1, k2⟩) ?_
           simp only [Act.put, List.setIfInBounds_toArray, List.set_cons_zero, List.set_cons_succ])
    iterate 1
      first
        | (refine mv_take ?_ (Or.inl ⟨by rfl, ?_⟩) (⟨j0, j1, k0, k1, k2⟩) ?_
           rotate_left 1
           · intro u hu
             (try dsimp only at hu)
             go_simp
             try with_reducible rfl
           simp only [Act.put, List.setIfInBounds_toArray, List.set_cons_zero, List.set_cons_succ])
        | (refine mv_take _ (Or.inr ⟨by rfl, rfl⟩) (⟨j0, j1, k0, k1, k2⟩) ?_
           simp only [Act.put, List.setIfInBounds_toArray, List.set_cons_zero, List.set_cons_succ])
    iterate 1
      first
        | (refine mv_free ?_ (Or.inl ⟨by rfl, ?_⟩) (⟨j0, j1, k0, k1, k2⟩) ?_
           rotate_left 1
           · intro u
             go_simp
             try simp only [d1]
             try simp only [d2]
             try simp only [d3]
             try with_reducible rfl
           simp only [Act.put, List.setIfInBounds_toArray, List.set_cons_zero, List.set_cons_succ])
        | (refine mv_free _ (Or.inr ⟨by rfl, rfl⟩) (⟨j0, j1, k0, k1, k2⟩) ?_
           simp only [Act.put, List.setIfInBounds_toArray, List.set_cons_zero, List.set_cons_succ])
    iterate 1
      first
        | (refine mv_take ?_ (Or.inl ⟨by rfl, ?_⟩) (⟨j0, j1, k0, k1, k2⟩) ?_
           rotate_left 1
           · intro u hu
             (try dsimp only at hu)
             go_simp
             try with_reducible rfl
           simp only [Act.put, List.setIfInBounds_toArray, List.set_cons_zero, List.set_cons_succ])
        | (refine mv_take _ (Or.inr ⟨by rfl, rfl⟩) (⟨j0, j1, k0, k1, k2⟩) ?_
           simp only [Act.put, List.setIfInBounds_toArray, List.set_cons_zero, List.set_cons_succ])
    iterate 1
      first
        | (refine mv_free ?_ (Or.inl ⟨by rfl, ?_⟩) (⟨j0, j1, k0, k1, k2⟩) ?_
           rotate_left 1
           · intro u
             go_simp
             try simp only [d1]
             try simp only [d2]
             try simp only [d3]
             try with_reducible rfl
           simp only [Act.put, List.setIfInBounds_toArray, List.set_cons_zero, List.set_cons_succ])
        | (refine mv_free _ (Or.inr ⟨by rfl, rfl⟩) (⟨j0, j1, k0, k1, k2⟩) ?_
           simp only [Act.put, List.setIfInBounds_toArray, List.set_cons_zero, List.set_cons_succ])
    iterate 1
      first
        | (refine mv_take ?_ (Or.inl ⟨by rfl, ?_⟩) (⟨j0, j1, k0, k1, k2⟩) ?_
           rotate_left 1
           · intro u hu
             (try dsimp only at hu)
             go_simp
             try with_reducible rfl
           simp only [Act.put, List.setIfInBounds_toArray, List.set_cons_zero, List.set_cons_succ])
        | (refine mv_take _ (Or.inr ⟨by rfl, rfl⟩) (⟨j0, j1, k0, k1, k2⟩) ?_
           simp only [Act.put, List.setIfInBounds_toArray, List.set_cons_zero, List.set_cons_succ])
    iterate 2
      first
        | (refine mv_free ?_ (Or.inl ⟨by rfl, ?_⟩) (⟨j0, j1, k0, k1, k2⟩) ?_
           rotate_left 1
           · intro u
             go_simp
             try simp only [d1]
             try simp only [d2]
             try simp only [d3]
             try with_reducible rfl
           simp only [Act.put, List.setIfInBounds_toArray, List.set_cons_zero, List.set_cons_succ])
        | (refine mv_free _ (Or.inr ⟨by rfl, rfl⟩) (⟨j0, j1, k0, k1, k2⟩) ?_
           simp only [Act.put, List.setIfInBounds_toArray, List.set_cons_zero, List.set_cons_succ])
    iterate 1
      first
        | (refine mv_take ?_ (Or.inl ⟨by rfl, ?_⟩) (⟨j0, j1, k0, k1, k2⟩) ?_
           rotate_left 1
           · intro u hu
             (try dsimp only at hu)
             go_simp
             try with_reducible rfl
           simp only [Act.put, List.setIfInBounds_toArray, List.set_cons_zero, List.set_cons_succ])
        | (refine mv_take _ (Or.inr ⟨by rfl, rfl⟩) (⟨j0, j1, k0, k1, k2⟩) ?_
           simp only [Act.put, List.setIfInBounds_toArray, List.set_cons_zero, List.set_cons_succ])
    iterate 1
      first
        | (refine mv_free ?_ (Or.inl ⟨by rfl, ?_⟩) (⟨j0, j1, k0, k1, k2⟩) ?_
           rotate_left 1
           · intro u
             go_simp
             try simp only [d1]
             try simp only [d2]
             try simp only [d3]
             try with_reducible rfl
           simp only [Act.put, List.setIfInBounds_toArray, List.set_cons_zero, List.set_cons_succ])
        | (refine mv_free _ (Or.inr ⟨by rfl, rfl⟩) (⟨j0, j1, k0, k1, k2⟩) ?_
           simp only [Act.put, List.setIfInBounds_toArray, List.set_cons_zero, List.set_cons_succ])
    refine mv_step (fun K hK => ?_)
    go_simp
    refine hK.out _ _ _ (fun u hu => hu) (⟨j0, j1, k0, k1, k2⟩) ?_
    clear hK K
    iterate 7
      first
        | (refine mv_free ?_ (Or.inl ⟨by rfl, ?_⟩) (⟨j0, j1, k0, k1, k2⟩) ?_
           rotate_left 1
           · intro u
             go_simp
             try simp only [d1]
             try simp only [d2]
             try simp only [d3]
             try with_reducible rfl
           simp only [Act.put, List.setIfInBounds_toArray, List.set_cons_zero, List.set_cons_succ])
        | (refine mv_free _ (Or.inr ⟨by rfl, rfl⟩) (⟨j0, j1, k0, k1, k2⟩) ?_
           simp only [Act.put, List.setIfInBounds_toArray, List.set_cons_zero, List.set_cons_succ])
    iterate 1
      first
        | (refine mv_take ?_ (Or.inl ⟨by rfl, ?_⟩) (⟨j0, j1, k0, k1, k2⟩) ?_
           rotate_left 1
           · intro u hu
             (try dsimp only at hu)
             go_simp
             try with_reducible rfl
           simp only [Act.put, List.setIfInBounds_toArray, List.set_cons_zero, List.set_cons_succ])
        | (refine mv_take _ (Or.inr ⟨by rfl, rfl⟩) (⟨j0, j1, k0, k1, k2⟩) ?_
           simp only [Act.put, List.setIfInBounds_toArray, List.set_cons_zero, List.set_cons_succ])
    iterate 2
      first
        | (refine mv_free ?_ (Or.inl ⟨by rfl, ?_⟩) (⟨j0, j1, k0, k1, k2⟩) ?_
           rotate_left 1
           · intro u
             go_simp
             try simp only [d1]
             try simp only [d2]
             try simp only [d3]
             try with_reducible rfl
           simp only [Act.put, List.setIfInBounds_toArray, List.set_cons_zero, List.set_cons_succ])
        | (refine mv_free _ (Or.inr ⟨by rfl, rfl⟩) (⟨j0, j1, k0, k1, k2⟩) ?_
           simp only [Act.put, List.setIfInBounds_toArray, List.set_cons_zero, List.set_cons_succ])
    iterate 1
      first
        | (refine mv_take ?_ (Or.inl ⟨by rfl, ?_⟩) (⟨j0, j1, k0, k1, k2⟩) ?_
           rotate_left 1
           · intro u hu
             (try dsimp only at hu)
             go_simp
             try with_reducible rfl
           simp only [Act.put, List.setIfInBounds_toArray, List.set_cons_zero, List.set_cons_succ])
        | (refine mv_take _ (Or.inr ⟨by rfl, rfl⟩) (⟨j0, j1, k0, k1, k2⟩) ?_
           simp only [Act.put, List.setIfInBounds_toArray, List.set_cons_zero, List.set_cons_succ])
    iterate 5
      first
        | (refine mv_free ?_ (Or.inl ⟨by rfl, ?_⟩) (⟨j0, j1, k0, k1, k2⟩) ?_
           rotate_left 1
           · intro u
             go_simp
             try simp only [d1]
             try simp only [d2]
             try simp only [d3]
             try with_reducible rfl
           simp only [Act.put, List.setIfInBounds_toArray, List.set_cons_zero, List.set_cons_succ])
        | (refine mv_free _ (Or.inr ⟨by rfl, rfl⟩) (⟨j0, j1, k0, k1, k2⟩) ?_
           simp only [Act.put, List.setIfInBounds_toArray, List.set_cons_zero, List.set_cons_succ])
    refine mv_done ?_
    go_upto_region 10 with (fail)
    refine region_moves (fun u => u.cell? ⟨w5.heap.size, 0, none⟩ = some (.slice (some ⟨g3, 0, none⟩) X.length c3) ∧ u.cell? ⟨w5.heap.size, 1, none⟩ = some (.slice (some ⟨g4, 0, none⟩) L.length c4) ∧ u.cell? ⟨w.heap.size, 0, none⟩ = some (.slice a1 X.length e1) ∧ u.cell? ⟨w.heap.size, 1, none⟩ = some (.slice a2 Y.length e2) ∧ u.cell? ⟨w.heap.size, 2, none⟩ = some (.slice a3 Z.length e3)) [] [(.free, 0), (.free, 1), (.take, 2), (.take, 3), (.free, 4), (.step, 5), (.step, 6), (.free, 7), (.free, 8), (.free, 9), (.free, 10), (.free, 11), (.free, 12), (.take, 13), (.free, 14), (.free, 15), (.take, 16), (.free, 17), (.free, 18), (.free, 19), (.free, 20), (.free, 21), (.free, 22), (.step, 23), (.free, 24), (.free, 25)] _ (by kernel_rfl) (by kernel_rfl) (by kernel_rfl) (by kernel_rfl) (by decide) rfl (fun _ _ _ _ _ h => h) ?_
    simp only [List.filterMap_cons, List.filterMap_nil, List.getElem?_toArray, List.getElem?_cons_zero, List.getElem?_cons_succ, Option.map_some]
    iterate 2
      first
        | (refine mv_free ?_ (Or.inl ⟨by rfl, ?_⟩) (⟨i0, i1, k0, k1, k2⟩) ?_
           rotate_left 1
           · intro u
             go_simp
             try simp only [d1]
             try simp only [d2]
             try simp only [d3]
             try with_reducible rfl
           simp only [Act.put, List.setIfInBounds_toArray, List.set_cons_zero, List.set_cons_succ])
        | (refine mv_free _ (Or.inr ⟨by rfl, rfl⟩) (⟨i0, i1, k0, k1, k2⟩) ?_
           simp only [Act.put, List.setIfInBounds_toArray, List.set_cons_zero, List.set_cons_succ])
    iterate 2
      first
        | (refine mv_take ?_ (Or.inl ⟨by rfl, ?_⟩) (⟨i0, i1, k0, k1, k2⟩) ?_
           rotate_left 1
           · intro u hu
             (try dsimp only at hu)
             go_simp
             try with_reducible rfl
           simp only [Act.put, List.setIfInBounds_toArray, List.set_cons_zero, List.set_cons_succ])
        | (refine mv_take _ (Or.inr ⟨by rfl, rfl⟩) (⟨i0, i1, k0, k1, k2⟩) ?_
           simp only [Act.put, List.setIfInBounds_toArray, List.set_cons_zero, List.set_cons_succ])
    iterate 1
      first
        | (refine mv_free ?_ (Or.inl ⟨by rfl, ?_⟩) (⟨i0, i1, k0, k1, k2⟩) ?_
           rotate_left 1
           · intro u
             go_simp
             try simp only [d1]
             try simp only [d2]
             try simp only [d3]
             try with_reducible rfl
           simp only [Act.put, List.setIfInBounds_toArray, List.set_cons_zero, List.set_cons_succ])
        | (refine mv_free _ (Or.inr ⟨by rfl, rfl⟩) (⟨i0, i1, k0, k1, k2⟩) ?_
           simp only [Act.put, List.setIfInBounds_toArray, List.set_cons_zero, List.set_cons_succ])
    refine mv_step (fun K hK => ?_)
    go_simp
    refine (RC1.out _ hbV2.drew.drew).mono ?_
    rintro e w9 ⟨g5, c5, rfl, x5, hb9⟩
    replace x3 := Lib.hid (x3.out.below (w' := w9) (show Below V2.heap.size V2 w9 from ⟨hb9.os, hb9.tape, hb9.output, hb9.size, hb9.block⟩))
    replace x4 := Lib.hid (x4.out.below (w' := w9) (show Below V2.heap.size V2 w9 from ⟨hb9.os, hb9.tape, hb9.output, hb9.size, hb9.block⟩))
    have hn9 := hn6.drew.drew.trans (hb9.mono (by have := hn6.drew.size; have := hs6.out; show _ ≤ V2.drew.heap.size; omega))
    have hb9 := hbV2.drew.drew.trans (hb9.mono (by have := hbV2.drew.size; have := hz.out; show _ ≤ V2.drew.heap.size; omega))
    replace x5 := Lib.hid x5
    clear hbV2 hn6 i0 i1 k0 k1 k2
    obtain ⟨k0, k1, k2⟩ := hcs.out _ hb9
    obtain ⟨i0, i1⟩ := hcs6.out _ hn9
    go_wp2_with fail
    refine hK.out _ _ _ (fun u hu => hu) (⟨i0, i1, k0, k1, k2⟩) ?_
    clear hK K
    refine mv_step (fun K hK => ?_)
    go_simp
    refine (rsame5_any (some ⟨g3, 0, none⟩) (some ⟨g4, 0, none⟩) a1 (some ⟨g5, 0, none⟩) c3 c4 e1 c5 X L w9 x3.out x4.out (HX.out _ hb9) x5.out (by have := NL.out; omega) (by have := NL.out; omega) (by have := NL.out; omega) (by have := NL.out; omega)).mono ?_
    rintro e w10 ⟨rfl, hb10⟩
    have hn10 := hn9.trans (hb10.mono (by have := hn9.size; have := hs6.out; omega))
    have hb10 := hb9.trans (hb10.mono (by have := hb9.size; have := hz.out; omega))
    clear hb9 hn9 i0 i1 k0 k1 k2
    obtain ⟨k0, k1, k2⟩ := hcs.out _ hb10
    obtain ⟨i0, i1⟩ := hcs6.out _ hn10
    go_wp2_with fail
    refine hK.out _ _ _ (fun u hu => hu) (⟨i0, i1, k0, k1, k2⟩) ?_
    clear hK K
    iterate 6
      first
        | (refine mv_free ?_ (Or.inl ⟨by rfl, ?_⟩) (⟨i0, i1, k0, k1, k2⟩) ?_
           rotate_left 1
           · intro u
             go_simp
             try simp only [d1]
             try simp only [d2]
             try simp only [d3]
             try with_reducible rfl
           simp only [Act.put, List.setIfInBounds_toArray, List.set_cons_zero, List.set_cons_succ])
        | (refine mv_free _ (Or.inr ⟨by rfl, rfl⟩) (⟨i0, i1, k0, k1, k2⟩) ?_
           simp only [Act.put, List.setIfInBounds_toArray, List.set_cons_zero, List.set_cons_succ])
    iterate 1
      first
        | (refine mv_take ?_ (Or.inl ⟨by rfl, ?_⟩) (⟨i0, i1, k0, k1, k2⟩) ?_
           rotate_left 1
           · intro u hu
             (try dsimp only at hu)
             go_simp
             try with_reducible rfl
           simp only [Act.put, List.setIfInBounds_toArray, List.set_cons_zero, List.set_cons_succ])
        | (refine mv_take _ (Or.inr ⟨by rfl, rfl⟩) (⟨i0, i1, k0, k1, k2⟩) ?_
           simp only [Act.put, List.setIfInBounds_toArray, List.set_cons_zero, List.set_cons_succ])
    iterate 2
      first
        | (refine mv_free ?_ (Or.inl ⟨by rfl, ?_⟩) (⟨i0, i1, k0, k1, k2⟩) ?_
           rotate_left 1
           · intro u
             go_simp
             try simp only [d1]
             try simp only [d2]
             try simp only [d3]
             try with_reducible rfl
           simp only [Act.put, List.setIfInBounds_toArray, List.set_cons_zero, List.set_cons_succ])
        | (refine mv_free _ (Or.inr ⟨by rfl, rfl⟩) (⟨i0, i1, k0, k1, k2⟩) ?_
           simp only [Act.put, List.setIfInBounds_toArray, List.set_cons_zero, List.set_cons_succ])
    iterate 1
      first
        | (refine mv_take ?_ (Or.inl ⟨by rfl, ?_⟩) (⟨i0, i1, k0, k1, k2⟩) ?_
           rotate_left 1
           · intro u hu
             (try dsimp only at hu)
             go_simp
             try with_reducible rfl
           simp only [Act.put, List.setIfInBounds_toArray, List.set_cons_zero, List.set_cons_succ])
        | (refine mv_take _ (Or.inr ⟨by rfl, rfl⟩) (⟨i0, i1, k0, k1, k2⟩) ?_
           simp only [Act.put, List.setIfInBounds_toArray, List.set_cons_zero, List.set_cons_succ])
    iterate 6
      first
        | (refine mv_free ?_ (Or.inl ⟨by rfl, ?_⟩) (⟨i0, i1, k0, k1, k2⟩) ?_
           rotate_left 1
           · intro u
             go_simp
             try simp only [d1]
             try simp only [d2]
             try simp only [d3]
             try with_reducible rfl
           simp only [Act.put, List.setIfInBounds_toArray, List.set_cons_zero, List.set_cons_succ])
        | (refine mv_free _ (Or.inr ⟨by rfl, rfl⟩) (⟨i0, i1, k0, k1, k2⟩) ?_
           simp only [Act.put, List.setIfInBounds_toArray, List.set_cons_zero, List.set_cons_succ])
    refine mv_step (fun K hK => ?_)
    go_simp
    refine (LV.out _).mono ?_
    rintro e w20 ⟨rfl, hb20⟩
    have hn20 := hn10.trans (hb20.mono (by have := hn10.size; have := hs6.out; omega))
    have hb20 := hb10.trans (hb20.mono (by have := hb10.size; have := hz.out; omega))
    clear i0 i1 k0 k1 k2
    obtain ⟨k0, k1, k2⟩ := hcs.out _ hb20
    obtain ⟨i0, i1⟩ := hcs6.out _ hn20
    go_wp2_with fail
    refine hK.out _ _ _ (fun u hu => hu) (⟨i0, i1, k0, k1, k2⟩) ?_
    clear hK K
    iterate 2
      first
        | (refine mv_free ?_ (Or.inl ⟨by rfl, ?_⟩) (⟨i0, i1, k0, k1, k2⟩) ?_
           rotate_left 1
           · intro u
             go_simp
             try simp only [d1]
             try simp only [d2]
             try simp only [d3]
             try with_reducible rfl
           simp only [Act.put, List.setIfInBounds_toArray, List.set_cons_zero, List.set_cons_succ])
        | (refine mv_free _ (Or.inr ⟨by rfl, rfl⟩) (⟨i0, i1, k0, k1, k2⟩) ?_
           simp only [Act.put, List.setIfInBounds_toArray, List.set_cons_zero, List.set_cons_succ])
    refine mv_done ?_
    go_wp2
    go_ret
    exact ⟨by first | rfl | simp, hb0.out.trans (hb20.mono (by omega))⟩
  · have RW := Lib.hid (RN.out hX hY hZ hR (.inr (.inr ⟨hs, h, h2⟩)))
    generalize cuL Y Z y = L at *
    replace CU := Lib.hid CU
    replace RC1 := Lib.hid RC1
    clear hgb RD RN RO CN CO RC GG GR2 HY hX hY hZ hR hs s1 s2 s3 s4 s5 s6 n1 n2 n3 n4 hL
    go_wp2_with fail
    refine (RD1.out _ hb1).mono ?_
    rintro e w2 ⟨rfl, hb2⟩
    have hb2 := hb1.trans (hb2.mono (by have := hb1.size; have := hz.out; omega))
    clear hb1
    obtain ⟨k0, k1, k2⟩ := hcs.out _ hb2
    go_wp2_with fail
    refine (RW.out _ hb2).mono ?_
    rintro e w3 ⟨rfl, hb3⟩
    have hb3 := hb2.trans (hb3.mono (by have := hb2.size; have := hz.out; omega))
    clear hb2 k0 k1 k2
    go_upto_region 5 with (fail)
    obtain ⟨V1, eV1, mV1, zV1, hcs4⟩ := shc_box w3 (.slice none 0 0) (.slice none 0 0)
    have hbV1 := hb3.trans (mV1.mono (by have := hb3.size; have := hz.out; omega))
    replace eV1 := Lib.hid eV1
    rw [← eV1.out]
    have hm4 : Below (w3.heap.size + 1) V1 V1 := Below.refl _ _
    have hs4 := Lib.hid (show V1.heap.size = w3.heap.size + 1 from zV1)
    replace hcs4 := Lib.hid hcs4
    obtain ⟨j0, j1⟩ := hcs4.out _ hm4
    obtain ⟨k0, k1, k2⟩ := hcs.out _ hbV1
    clear hb3 mV1 zV1
    go_wp2_with fail
    refine (CU.out _ hbV1).mono ?_
    rintro e w5 ⟨g3, c3, g4, c4, rfl, x3, x4, hb5⟩
    have hm5 := hm4.trans (hb5.mono (by have := hs4.out; omega))
    have hb5 := hbV1.trans (hb5.mono (by have := hbV1.size; have := hz.out; omega))
    clear hbV1 hm4 j0 j1 k0 k1 k2
    replace x3 := Lib.hid x3
    replace x4 := Lib.hid x4
    go_upto_region 6 with (fail)
    obtain ⟨V2, eV2, mV2, zV2, hcs6⟩ := shc_box w5 (.slice (some ⟨g3, 0, none⟩) X.length c3) (.slice (some ⟨g4, 0, none⟩) L.length c4)
    have hbV2 := hb5.trans (mV2.mono (by have := hb5.size; have := hz.out; omega))
    replace eV2 := Lib.hid eV2
    rw [← eV2.out]
    have hn6 : Below (w5.heap.size + 1) V2 V2 := Below.refl _ _
    have hs6 := Lib.hid (show V2.heap.size = w5.heap.size + 1 from zV2)
    replace hcs6 := Lib.hid hcs6
    obtain ⟨i0, i1⟩ := hcs6.out _ hn6
    obtain ⟨k0, k1, k2⟩ := hcs.out _ hbV2
    have hm6 := hm5.trans (mV2.mono (by have := hm5.size; have := hs4.out; omega))
    obtain ⟨j0, j1⟩ := hcs4.out _ hm6
    replace x3 := Lib.hid (x3.out.below mV2)
    replace x4 := Lib.hid (x4.out.below mV2)
    clear hb5 hm5 mV2 zV2
    go_upto_region 8 with (fail)
    refine region_moves (fun u => u.cell? ⟨w3.heap.size, 0, none⟩ = some (.slice none 0 0) ∧ u.cell? ⟨w3.heap.size, 1, none⟩ = some (.slice none 0 0) ∧ u.cell? ⟨w.heap.size, 0, none⟩ = some (.slice a1 X.length e1) ∧ u.cell? ⟨w.heap.size, 1, none⟩ = some (.slice a2 Y.length e2) ∧ u.cell? ⟨w.heap.size, 2, none⟩ = some (.slice a3 Z.length e3)) [] [(.free, 0), (.free, 1), (.take, 2), (.free, 3), (.take, 4), (.free, 5), (.take, 6), (.free, 7), (.free, 8), (.take, 9), (.free, 10), (.step, 11), (.free, 12), (.free, 13), (.free, 14), (.free, 15), (.free, 16), (.free, 17), (.free, 18), (.take, 19), (.free, 20), (.free, 21), (.take, 22), (.free, 23), (.free, 24), (.free, 25), (.free, 26), (.free, 27)] _ (by kernel_rfl) (by kernel_rfl) (by kernel_rfl) (by kernel_rfl) (by decide) rfl (fun _ _ _ _ _ h => h) ?_
    simp only [List.filterMap_cons, List.filterMap_nil, List.getElem?_toArray, List.getElem?_cons_zero, List.getElem?_cons_succ, Option.map_some]
    iterate 2
      first
        | (refine mv_free ?_ (Or.inl ⟨by rfl, ?_⟩) (⟨j0, j1, k0, k1, k2⟩) ?_
           rotate_left 1
           · intro u
             go_simp
             try simp only [d1]
             try simp only [d2]
             try simp only [d3]
             try with_reducible rfl
           simp only [Act.put, List.setIfInBounds_toArray, List.set_cons_zero, List.set_cons_succ])
        | (refine mv_free _ (Or.inr ⟨by rfl, rfl⟩) (⟨j0, j1, k0, k1, k2⟩) ?_
           simp only [Act.put, List.setIfInBounds_toArray, List.set_cons_zero, List.set_cons_succ])
    iterate 1
      first
        | (refine mv_take ?_ (Or.inl ⟨by rfl, ?_⟩) (⟨j0, j1, k0, k1, k2⟩) ?_
           rotate_left 1
           · intro u hu
             (try dsimp only at hu)
             go_simp
             try with_reducible rfl
           simp only [Act.put, List.setIfInBounds_toArray, List.set_cons_zero, List.set_cons_succ])
        | (refine mv_take _ (Or.inr ⟨by rfl, rfl⟩) (⟨j0, j1, k0, k1, k2⟩) ?_
           simp only [Act.put, List.setIfInBounds_toArray, List.set_cons_zero, List.set_cons_succ])
    iterate 1
      first
        | (refine mv_free ?_ (Or.inl ⟨by rfl, ?_⟩) (⟨j0, j1, k0, k1, k2⟩) ?_
           rotate_left 1
           · intro u
             go_simp
             try simp only [d1]
             try simp only [d2]
             try simp only [d3]
             try with_reducible rfl
           simp only [Act.put, List.setIfInBounds_toArray, List.set_cons_zero, List.set_cons_succ])
        | (refine mv_free _ (Or.inr ⟨by rfl, rfl⟩) (⟨j0, j1, k0, k1, k2⟩) ?_
           simp only [Act.put, List.setIfInBounds_toArray, List.set_cons_zero, List.set_cons_succ])
    iterate 1
      first
        | (refine mv_take ?_ (Or.inl ⟨by rfl, ?_⟩) (⟨j0, j1, k0, k1, k2⟩) ?_
           rotate_left 1
           · intro u hu
             (try dsimp only at hu)
             go_simp
             try with_reducible rfl
           simp only [Act.put, List.setIfInBounds_toArray, List.set_cons_zero, List.set_cons_succ])
        | (refine mv_take _ (Or.inr ⟨by rfl, rfl⟩) (⟨j0, j1, k0, k1, k2⟩) ?_
           simp only [Act.put, List.setIfInBounds_toArray, List.set_cons_zero, List.set_cons_succ])
    iterate 1
      first
        | (refine mv_free ?_ (Or.inl ⟨by rfl, ?_⟩) (⟨j0, j1, k0, k1, k2⟩) ?_
           rotate_left 1
           · intro u
             go_simp
             try simp only [d1]
             try simp only [d2]
             try simp only [d3]
             try with_reducible rfl
           simp only [Act.put, List.setIfInBounds_toArray, List.set_cons_zero, List.set_cons_succ])
        | (refine mv_free _ (Or.inr ⟨by rfl, rfl⟩) (⟨j0, j1, k0, k1, k2⟩) ?_
           simp only [Act.put, List.setIfInBounds_toArray, List.set_cons_zero, List.set_cons_succ])
    iterate 1
      first
        | (refine mv_take ?_ (Or.inl ⟨by rfl, ?_⟩) (⟨j0, j1, k0, k1, k2⟩) ?_
           rotate_left 1
           · intro u hu
             (try dsimp only at hu)
             go_simp
             try with_reducible rfl
           simp only [Act.put, List.setIfInBounds_toArray, List.set_cons_zero, List.set_cons_succ])
        | (refine mv_take _ (Or.inr ⟨by rfl, rfl⟩) (⟨j0, j1, k0, k1, k2⟩) ?_
           simp only [Act.put, List.setIfInBounds_toArray, List.set_cons_zero, List.set_cons_succ])
    iterate 2
      first
        | (refine mv_free ?_ (Or.inl ⟨by rfl, ?_⟩) (⟨j0, j1, k0, k1, k2⟩) ?_
           rotate_left 1
           · intro u
             go_simp
             try simp only [d1]
             try simp only [d2]
             try simp only [d3]
             try with_reducible rfl
           simp only [Act.put, List.setIfInBounds_toArray, List.set_cons_zero, List.set_cons_succ])
        | (refine mv_free _ (Or.inr ⟨by rfl, rfl⟩) (⟨j0, j1, k0, k1, k2⟩) ?_
           simp only [Act.put, List.setIfInBounds_toArray, List.set_cons_zero, List.set_cons_succ])
    iterate 1
      first
        | (refine mv_take ?_ (Or.inl ⟨by rfl, ?_⟩) (⟨j0, j1, k0, k1, k2⟩) ?_
           rotate_left 1
           · intro u hu
             (try dsimp only at hu)
             go_simp
             try with_reducible rfl
           simp only [Act.put, List.setIfInBounds_toArray, List.set_cons_zero, List.set_cons_succ])
        | (refine mv_take _ (Or.inr ⟨by rfl, rfl⟩) (⟨j0, j1, k0, k1, k2⟩) ?_
           simp only [Act.put, List.setIfInBounds_toArray, List.set_cons_zero, List.set_cons_succ])
    iterate 1
      first
        | (refine mv_free ?_ (Or.inl ⟨by rfl, ?_⟩) (⟨j0, j1, k0, k1, k2⟩) ?_
           rotate_left 1
           · intro u
             go_simp
             try simp only [d1]
             try simp only [d2]
             try simp only [d3]
             try with_reducible rfl
           simp only [Act.put, List.setIfInBounds_toArray, List.set_cons_zero, List.set_cons_succ])
        | (refine mv_free _ (Or.inr ⟨by rfl, rfl⟩) (⟨j0, j1, k0, k1, k2⟩) ?_
           simp only [Act.put, List.setIfInBounds_toArray, List.set_cons_zero, List.set_cons_succ])
    refine mv_step (fun K hK => ?_)
    go_simp
    refine hK.out _ _ _ (fun u hu => hu) (⟨j0, j1, k0, k1, k2⟩) ?_
    clear hK K
    iterate 7
      first
        | (refine mv_free ?_ (Or.inl ⟨by rfl, ?_⟩) (⟨j0, j1, k0, k1, k2⟩) ?_
           rotate_left 1
           · intro u
             go_simp
             try simp only [d1]
             try simp only [d2]
             try simp only [d3]
             try with_reducible rfl
           simp only [Act.put, List.setIfInBounds_toArray, List.set_cons_zero, List.set_cons_succ])
        | (refine mv_free _ (Or.inr ⟨by rfl, rfl⟩) (⟨j0, j1, k0, k1, k2⟩) ?_
           simp only [Act.put, List.setIfInBounds_toArray, List.set_cons_zero, List.set_cons_succ])
    iterate 1
      first
        | (refine mv_take ?_ (Or.inl ⟨by rfl, ?_⟩) (⟨j0, j1, k0, k1, k2⟩) ?_
           rotate_left 1
           · intro u hu
             (try dsimp only at hu)
             go_simp
             try with_reducible rfl
           simp only [Act.put, List.setIfInBounds_toArray, List.set_cons_zero, List.set_cons_succ])
        | (refine mv_take _ (Or.inr ⟨by rfl, rfl⟩) (⟨j0, j1, k0, k1, k2⟩) ?_
           simp only [Act.put, List.setIfInBounds_toArray, List.set_cons_zero, List.set_cons_succ])
    iterate 2
      first
        | (refine mv_free ?_ (Or.inl ⟨by rfl, ?_⟩) (⟨j0, j1, k0, k1, k2⟩) ?_
           rotate_left 1
           · intro u
             go_simp
             try simp only [d1]
             try simp only [d2]
             try simp only [d3]
             try with_reducible rfl
           simp only [Act.put, List.setIfInBounds_toArray, List.set_cons_zero, List.set_cons_succ])
        | (refine mv_free _ (Or.inr ⟨by rfl, rfl⟩) (⟨j0, j1, k0, k1, k2⟩) ?_
           simp only [Act.put, List.setIfInBounds_toArray, List.set_cons_zero, List.set_cons_succ])
    iterate 1
      first
        | (refine mv_take ?_ (Or.inl ⟨by rfl, ?_⟩) (⟨j0, j1, k0, k1, k2⟩) ?_
           rotate_left 1
           · intro u hu
             (try dsimp only at hu)
             go_simp
             try with_reducible rfl
           simp only [Act.put, List.setIfInBounds_toArray, List.set_cons_zero, List.set_cons_succ])
        | (refine mv_take _ (Or.inr ⟨by rfl, rfl⟩) (⟨j0, j1, k0, k1, k2⟩) ?_
           simp only [Act.put, List.setIfInBounds_toArray, List.set_cons_zero, List.set_cons_succ])
    iterate 5
      first
        | (refine mv_free ?_ (Or.inl ⟨by rfl, ?_⟩) (⟨j0, j1, k0, k1, k2⟩) ?_
           rotate_left 1
           · intro u
             go_simp
             try simp only [d1]
             try simp only [d2]
             try simp only [d3]
             try with_reducible rfl
           simp only [Act.put, List.setIfInBounds_toArray, List.set_cons_zero, List.set_cons_succ])
        | (refine mv_free _ (Or.inr ⟨by rfl, rfl⟩) (⟨j0, j1, k0, k1, k2⟩) ?_
           simp only [Act.put, List.setIfInBounds_toArray, List.set_cons_zero, List.set_cons_succ])
    refine mv_done ?_
    go_upto_region 10 with (fail)
    refine region_moves (fun u => u.cell? ⟨w5.heap.size, 0, none⟩ = some (.slice (some ⟨g3, 0, none⟩) X.length c3) ∧ u.cell? ⟨w5.heap.size, 1, none⟩ = some (.slice (some ⟨g4, 0, none⟩) L.length c4) ∧ u.cell? ⟨w.heap.size, 0, none⟩ = some (.slice a1 X.length e1) ∧ u.cell? ⟨w.heap.size, 1, none⟩ = some (.slice a2 Y.length e2) ∧ u.cell? ⟨w.heap.size, 2, none⟩ = some (.slice a3 Z.length e3)) [] [(.free, 0), (.free, 1), (.take, 2), (.take, 3), (.free, 4), (.step, 5), (.step, 6), (.free, 7), (.free, 8), (.free, 9), (.free, 10), (.free, 11), (.free, 12), (.take, 13), (.free, 14), (.free, 15), (.take, 16), (.free, 17), (.free, 18), (.free, 19), (.free, 20), (.free, 21), (.free, 22), (.step, 23), (.free, 24), (.free, 25)] _ (by kernel_rfl) (by kernel_rfl) (by kernel_rfl) (by kernel_rfl) (by decide) rfl (fun _ _ _ _ _ h => h) ?_
    simp only [List.filterMap_cons, List.filterMap_nil, List.getElem?_toArray, List.getElem?_cons_zero, List.getElem?_cons_succ, Option.map_some]
    iterate 2
      first
        | (refine mv_free ?_ (Or.inl ⟨by rfl, ?_⟩) (⟨i0, i1, k0, k1, k2⟩) ?_
           rotate_left 1
           · intro u
             go_simp
             try simp only [d1]
             try simp only [d2]
             try simp only [d3]
             try with_reducible rfl
           simp only [Act.put, List.setIfInBounds_toArray, List.set_cons_zero, List.set_cons_succ])
        | (refine mv_free _ (Or.inr ⟨by rfl, rfl⟩) (⟨i0, i1, k0, k1, k2⟩) ?_
           simp only [Act.put, List.setIfInBounds_toArray, List.set_cons_zero, List.set_cons_succ])
    iterate 2
      first
        | (refine mv_take ?_ (Or.inl ⟨by rfl, ?_⟩) (⟨i0, i1, k0, k1, k2⟩) ?_
           rotate_left 1
           · intro u hu
             (try dsimp only at hu)
             go_simp
             try with_reducible rfl
           simp only [Act.put, List.setIfInBounds_toArray, List.set_cons_zero, List.set_cons_succ])
        | (refine mv_take _ (Or.inr ⟨by rfl, rfl⟩) (⟨i0, i1, k0, k1, k2⟩) ?_
           simp only [Act.put, List.setIfInBounds_toArray, List.set_cons_zero, List.set_cons_succ])
    iterate 1
      first
        | (refine mv_free ?_ (Or.inl ⟨by rfl, ?_⟩) (⟨i0, i1, k0, k1, k2⟩) ?_
           rotate_left 1
           · intro u
             go_simp
             try simp only [d1]
             try simp only [d2]
             try simp only [d3]
             try with_reducible rfl
           simp only [Act.put, List.setIfInBounds_toArray, List.set_cons_zero, List.set_cons_succ])
        | (refine mv_free _ (Or.inr ⟨by rfl, rfl⟩) (⟨i0, i1, k0, k1, k2⟩) ?_
           simp only [Act.put, List.setIfInBounds_toArray, List.set_cons_zero, List.set_cons_succ])
    refine mv_step (fun K hK => ?_)
    go_simp
    refine (RC1.out _ hbV2.drew.drew).mono ?_
    rintro e w9 ⟨g5, c5, rfl, x5, hb9⟩
    replace x3 := Lib.hid (x3.out.below (w' := w9) (show Below V2.heap.size V2 w9 from ⟨hb9.os, hb9.tape, hb9.output, hb9.size, hb9.block⟩))
    replace x4 := Lib.hid (x4.out.below (w' := w9) (show Below V2.heap.size V2 w9 from ⟨hb9.os, hb9.tape, hb9.output, hb9.size, hb9.block⟩))
    have hn9 := hn6.drew.drew.trans (hb9.mono (by have := hn6.drew.size; have := hs6.out; show _ ≤ V2.drew.heap.size; omega))
    have hb9 := hbV2.drew.drew.trans (hb9.mono (by have := hbV2.drew.size; have := hz.out; show _ ≤ V2.drew.heap.size; omega))
    replace x5 := Lib.hid x5
    clear hbV2 hn6 i0 i1 k0 k1 k2
    obtain ⟨k0, k1, k2⟩ := hcs.out _ hb9
    obtain ⟨i0, i1⟩ := hcs6.out _ hn9
    go_wp2_with fail
    refine hK.out _ _ _ (fun u hu => hu) (⟨i0, i1, k0, k1, k2⟩) ?_
    clear hK K
    refine mv_step (fun K hK => ?_)
    go_simp
    refine (rsame5_any (some ⟨g3, 0, none⟩) (some ⟨g4, 0, none⟩) a1 (some ⟨g5, 0, none⟩) c3 c4 e1 c5 X L w9 x3.out x4.out (HX.out _ hb9) x5.out (by have := NL.out; omega) (by have := NL.out; omega) (by have := NL.out; omega) (by have := NL.out; omega)).mono ?_
    rintro e w10 ⟨rfl, hb10⟩
    have hn10 := hn9.trans (hb10.mono (by have := hn9.size; have := hs6.out; omega))
    have hb10 := hb9.trans (hb10.mono (by have := hb9.size; have := hz.out; omega))
    clear hb9 hn9 i0 i1 k0 k1 k2
    obtain ⟨k0, k1, k2⟩ := hcs.out _ hb10
    obtain ⟨i0, i1⟩ := hcs6.out _ hn10
    go_wp2_with fail
    refine hK.out _ _ _ (fun u hu => hu) (⟨i0, i1, k0, k1, k2⟩) ?_
    clear hK K
    iterate 6
      first
        | (refine mv_free ?_ (Or.inl ⟨by rfl, ?_⟩) (⟨i0, i1, k0, k1, k2⟩) ?_
           rotate_left 1
           · intro u
             go_simp
             try simp only [d1]
             try simp only [d2]
             try simp only [d3]
             try with_reducible rfl
           simp only [Act.put, List.setIfInBounds_toArray, List.set_cons_zero, List.set_cons_succ])
        | (refine mv_free _ (Or.inr ⟨by rfl, rfl⟩) (⟨i0, i1, k0, k1, k2⟩) ?_
           simp only [Act.put, List.setIfInBounds_toArray, List.set_cons_zero, List.set_cons_succ])
    iterate 1
      first
        | (refine mv_take ?_ (Or.inl ⟨by rfl, ?_⟩) (⟨i0, i1, k0, k1, k2⟩) ?_
           rotate_left 1
           · intro u hu
             (try dsimp only at hu)
             go_simp
             try with_reducible rfl
           simp only [Act.put, List.setIfInBounds_toArray, List.set_cons_zero, List.set_cons_succ])
        | (refine mv_take _ (Or.inr ⟨by rfl, rfl⟩) (⟨i0, i1, k0, k1, k2⟩) ?_
           simp only [Act.put, List.setIfInBounds_toArray, List.set_cons_zero, List.set_cons_succ])
    iterate 2
      first
        | (refine mv_free ?_ (Or.inl ⟨by rfl, ?_⟩) (⟨i0, i1, k0, k1, k2⟩) ?_
           rotate_left 1
           · intro u
             go_simp
             try simp only [d1]
             try simp only [d2]
             try simp only [d3]
             try with_reducible rfl
           simp only [Act.put, List.setIfInBounds_toArray, List.set_cons_zero, List.set_cons_succ])
        | (refine mv_free _ (Or.inr ⟨by rfl, rfl⟩) (⟨i0, i1, k0, k1, k2⟩) ?_
           simp only [Act.put, List.setIfInBounds_toArray, List.set_cons_zero, List.set_cons_succ])
    iterate 1
      first
        | (refine mv_take ?_ (Or.inl ⟨by rfl, ?_⟩) (⟨i0, i1, k0, k1, k2⟩) ?_
           rotate_left 1
           · intro u hu
             (try dsimp only at hu)
             go_simp
             try with_reducible rfl
           simp only [Act.put, List.setIfInBounds_toArray, List.set_cons_zero, List.set_cons_succ])
        | (refine mv_take _ (Or.inr ⟨by rfl, rfl⟩) (⟨i0, i1, k0, k1, k2⟩) ?_
           simp only [Act.put, List.setIfInBounds_toArray, List.set_cons_zero, List.set_cons_succ])
    iterate 6
      first
        | (refine mv_free ?_ (Or.inl ⟨by rfl, ?_⟩) (⟨i0, i1, k0, k1, k2⟩) ?_
           rotate_left 1
           · intro u
             go_simp
             try simp only [d1]
             try simp only [d2]
             try simp only [d3]
             try with_reducible rfl
           simp only [Act.put, List.setIfInBounds_toArray, List.set_cons_zero, List.set_cons_succ])
        | (refine mv_free _ (Or.inr ⟨by rfl, rfl⟩) (⟨i0, i1, k0, k1, k2⟩) ?_
           simp only [Act.put, List.setIfInBounds_toArray, List.set_cons_zero, List.set_cons_succ])
    refine mv_step (fun K hK => ?_)
    go_simp
    refine (LV.out _).mono ?_
    rintro e w20 ⟨rfl, hb20⟩
    have hn20 := hn10.trans (hb20.mono (by have := hn10.size; have := hs6.out; omega))
    have hb20 := hb10.trans (hb20.mono (by have := hb10.size; have := hz.out; omega))
    clear i0 i1 k0 k1 k2
    obtain ⟨k0, k1, k2⟩ := hcs.out _ hb20
    obtain ⟨i0, i1⟩ := hcs6.out _ hn20
    go_wp2_with fail
    refine hK.out _ _ _ (fun u hu => hu) (⟨i0, i1, k0, k1, k2⟩) ?_
    clear hK K
    iterate 2
      first
        | (refine mv_free ?_ (Or.inl ⟨by rfl, ?_⟩) (⟨i0, i1, k0, k1, k2⟩) ?_
           rotate_left 1
           · intro u
             go_simp
             try simp only [d1]
             try simp only [d2]
             try simp only [d3]
             try with_reducible rfl
           simp only [Act.put, List.setIfInBounds_toArray, List.set_cons_zero, List.set_cons_succ])
        | (refine mv_free _ (Or.inr ⟨by rfl, rfl⟩) (⟨i0, i1, k0, k1, k2⟩) ?_
           simp only [Act.put, List.setIfInBounds_toArray, List.set_cons_zero, List.set_cons_succ])
    refine mv_done ?_
    go_wp2
    go_ret
    exact ⟨by first | rfl | simp, hb0.out.trans (hb20.mono (by omega))⟩
  · have RW := RO.out t hX hY hZ hR hs ht
    have G7 := Lib.hid (fun u h => GG.out u h t ht)
    have G8 := Lib.hid (fun u h => GR2.out u h t ht)
    have rl := Lib.hid (show (Z.getD t []).length = Y.length from (rgtB_at (s6 t ht)).2.2.1)
    have l1h := Lib.hid (show (t : Int) < (Z.length : Int) from by omega)
    clear hR RN RO RD CN CO RC s6 hgb
    generalize Z.getD t [] = R at *
    generalize cuL Y Z y = L at *
    replace RW := Lib.hid RW
    replace CU := Lib.hid CU
    replace RC1 := Lib.hid RC1
    clear GG GR2 hX hY hZ hs s1 s2 s3 s4 s5 n1 n2 n3 n4 hL ht
    go_wp2_with fail
    refine (RD1.out _ hb1).mono ?_
    rintro e w2 ⟨rfl, hb2⟩
    have hb2 := hb1.trans (hb2.mono (by have := hb1.size; have := hz.out; omega))
    clear hb1
    obtain ⟨k0, k1, k2⟩ := hcs.out _ hb2
    go_wp2_with fail
    refine (RW.out _ hb2).mono ?_
    rintro e w3 ⟨g1, c1, g2, c2, rfl, x1, x2, hb3⟩
    have hb3 := hb2.trans (hb3.mono (by have := hb2.size; have := hz.out; omega))
    clear hb2 k0 k1 k2
    replace x1 := Lib.hid x1
    replace x2 := Lib.hid x2
    go_upto_region 5 with (fail)
    obtain ⟨V1, eV1, mV1, zV1, hcs4⟩ := shc_box w3 (.slice (some ⟨g1, 0, none⟩) Y.length c1) (.slice (some ⟨g2, 0, none⟩) R.length c2)
    have hbV1 := hb3.trans (mV1.mono (by have := hb3.size; have := hz.out; omega))
    replace eV1 := Lib.hid eV1
    rw [← eV1.out]
    have hm4 : Below (w3.heap.size + 1) V1 V1 := Below.refl _ _
    have hs4 := Lib.hid (show V1.heap.size = w3.heap.size + 1 from zV1)
    replace hcs4 := Lib.hid hcs4
    obtain ⟨j0, j1⟩ := hcs4.out _ hm4
    obtain ⟨k0, k1, k2⟩ := hcs.out _ hbV1
    replace x1 := Lib.hid (x1.out.below mV1)
    replace x2 := Lib.hid (x2.out.below mV1)
    clear hb3 mV1 zV1
    go_wp2_with fail
    refine (CU.out _ hbV1).mono ?_
    rintro e w5 ⟨g3, c3, g4, c4, rfl, x3, x4, hb5⟩
    replace x1 := Lib.hid (x1.out.below hb5)
    replace x2 := Lib.hid (x2.out.below hb5)
    have hm5 := hm4.trans (hb5.mono (by have := hs4.out; omega))
    have hb5 := hbV1.trans (hb5.mono (by have := hbV1.size; have := hz.out; omega))
    clear hbV1 hm4 j0 j1 k0 k1 k2
    replace x3 := Lib.hid x3
    replace x4 := Lib.hid x4
    go_upto_region 6 with (fail)
    obtain ⟨V2, eV2, mV2, zV2, hcs6⟩ := shc_box w5 (.slice (some ⟨g3, 0, none⟩) X.length c3) (.slice (some ⟨g4, 0, none⟩) L.length c4)
    have hbV2 := hb5.trans (mV2.mono (by have := hb5.size; have := hz.out; omega))
    replace eV2 := Lib.hid eV2
    rw [← eV2.out]
    have hn6 : Below (w5.heap.size + 1) V2 V2 := Below.refl _ _
    have hs6 := Lib.hid (show V2.heap.size = w5.heap.size + 1 from zV2)
    replace hcs6 := Lib.hid hcs6
    obtain ⟨i0, i1⟩ := hcs6.out _ hn6
    obtain ⟨k0, k1, k2⟩ := hcs.out _ hbV2
    have hm6 := hm5.trans (mV2.mono (by have := hm5.size; have := hs4.out; omega))
    obtain ⟨j0, j1⟩ := hcs4.out _ hm6
    replace x1 := Lib.hid (x1.out.below mV2)
    replace x2 := Lib.hid (x2.out.below mV2)
    replace x3 := Lib.hid (x3.out.below mV2)
    replace x4 := Lib.hid (x4.out.below mV2)
    clear hb5 hm5 mV2 zV2
    obtain ⟨bz, oz, ez, -, c9⟩ := G7.out _ hbV2
    subst ez
    have l1 := l1h.out
    have l0 : 0 ≤ (t : Int) := by omega
    have y5 := Lib.hid (rsame5_any (some ⟨g1, 0, none⟩) (some ⟨g2, 0, none⟩) a2 (GA t) c1 c2 e2 (GC t) Y R V2.drew x1.out x2.out (HY.out _ hbV2.drew) (G8.out _ hbV2.drew) (by have := NL.out; omega) (by have := rl.out; have := NL.out; omega) (by have := NL.out; omega) (by have := rl.out; have := NL.out; omega))
    go_upto_region 8 with (fail)
    refine region_moves (fun u => u.cell? ⟨w3.heap.size, 0, none⟩ = some (.slice (some ⟨g1, 0, none⟩) Y.length c1) ∧ u.cell? ⟨w3.heap.size, 1, none⟩ = some (.slice (some ⟨g2, 0, none⟩) R.length c2) ∧ u.cell? ⟨w.heap.size, 0, none⟩ = some (.slice a1 X.length e1) ∧ u.cell? ⟨w.heap.size, 1, none⟩ = some (.slice a2 Y.length e2) ∧ u.cell? ⟨w.heap.size, 2, none⟩ = some (.slice (some ⟨bz, oz, none⟩) Z.length e3) ∧ u.cell? ⟨bz, oz + t, none⟩ = some (.slice (GA t) R.length (GC t))) [] [(.free, 0), (.free, 1), (.take, 2), (.free, 3), (.take, 4), (.free, 5), (.take, 6), (.free, 7), (.free, 8), (.take, 9), (.free, 10), (.step, 11), (.free, 12), (.free, 13), (.free, 14), (.free, 15), (.free, 16), (.free, 17), (.free, 18), (.take, 19), (.free, 20), (.free, 21), (.take, 22), (.free, 23), (.free, 24), (.free, 25), (.free, 26), (.free, 27)] _ (by kernel_rfl) (by kernel_rfl) (by kernel_rfl) (by kernel_rfl) (by decide) rfl (fun _ _ _ _ _ h => h) ?_
    simp only [List.filterMap_cons, List.filterMap_nil, List.getElem?_toArray, List.getElem?_cons_zero, List.getElem?_cons_succ, Option.map_some]
    iterate 2
      first
        | (refine mv_free ?_ (Or.inl ⟨by rfl, ?_⟩) (⟨j0, j1, k0, k1, k2, c9⟩) ?_
           rotate_left 1
           · intro u
             go_simp
             try simp only [d1]
             try simp only [d2]
             try simp only [d3]
             try with_reducible rfl
           simp only [Act.put, List.setIfInBounds_toArray, List.set_cons_zero, List.set_cons_succ])
        | (refine mv_free _ (Or.inr ⟨by rfl, rfl⟩) (⟨j0, j1, k0, k1, k2, c9⟩) ?_
           simp only [Act.put, List.setIfInBounds_toArray, List.set_cons_zero, List.set_cons_succ])
    iterate 1
      first
        | (refine mv_take ?_ (Or.inl ⟨by rfl, ?_⟩) (⟨j0, j1, k0, k1, k2, c9⟩) ?_
           rotate_left 1
           · intro u hu
             (try dsimp only at hu)
             go_simp
             try with_reducible rfl
           simp only [Act.put, List.setIfInBounds_toArray, List.set_cons_zero, List.set_cons_succ])
        | (refine mv_take _ (Or.inr ⟨by rfl, rfl⟩) (⟨j0, j1, k0, k1, k2, c9⟩) ?_
           simp only [Act.put, List.setIfInBounds_toArray, List.set_cons_zero, List.set_cons_succ])
    iterate 1
      first
        | (refine mv_free ?_ (Or.inl ⟨by rfl, ?_⟩) (⟨j0, j1, k0, k1, k2, c9⟩) ?_
           rotate_left 1
           · intro u
             go_simp
             try simp only [d1]
             try simp only [d2]
             try simp only [d3]
             try with_reducible rfl
           simp only [Act.put, List.setIfInBounds_toArray, List.set_cons_zero, List.set_cons_succ])
        | (refine mv_free _ (Or.inr ⟨by rfl, rfl⟩) (⟨j0, j1, k0, k1, k2, c9⟩) ?_
           simp only [Act.put, List.setIfInBounds_toArray, List.set_cons_zero, List.set_cons_succ])
    iterate 1
      first
        | (refine mv_take ?_ (Or.inl ⟨by rfl, ?_⟩) (⟨j0, j1, k0, k1, k2, c9⟩) ?_
           rotate_left 1
           · intro u hu
             (try dsimp only at hu)
             go_simp
             try with_reducible rfl
           simp only [Act.put, List.setIfInBounds_toArray, List.set_cons_zero, List.set_cons_succ])
        | (refine mv_take _ (Or.inr ⟨by rfl, rfl⟩) (⟨j0, j1, k0, k1, k2, c9⟩) ?_
           simp only [Act.put, List.setIfInBounds_toArray, List.set_cons_zero, List.set_cons_succ])
    iterate 1
      first
        | (refine mv_free ?_ (Or.inl ⟨by rfl, ?_⟩) (⟨j0, j1, k0, k1, k2, c9⟩) ?_
           rotate_left 1
           · intro u
             go_simp
             try simp only [d1]
             try simp only [d2]
             try simp only [d3]
             try with_reducible rfl
           simp only [Act.put, List.setIfInBounds_toArray, List.set_cons_zero, List.set_cons_succ])
        | (refine mv_free _ (Or.inr ⟨by rfl, rfl⟩) (⟨j0, j1, k0, k1, k2, c9⟩) ?_
           simp only [Act.put, List.setIfInBounds_toArray, List.set_cons_zero, List.set_cons_succ])
    iterate 1
      first
        | (refine mv_take ?_ (Or.inl ⟨by rfl, ?_⟩) (⟨j0, j1, k0, k1, k2, c9⟩) ?_
           rotate_left 1
           · intro u hu
             (try dsimp only at hu)
             go_simp
             try with_reducible rfl
           simp only [Act.put, List.setIfInBounds_toArray, List.set_cons_zero, List.set_cons_succ])
        | (refine mv_take _ (Or.inr ⟨by rfl, rfl⟩) (⟨j0, j1, k0, k1, k2, c9⟩) ?_
           simp only [Act.put, List.setIfInBounds_toArray, List.set_cons_zero, List.set_cons_succ])
    iterate 2
      first
        | (refine mv_free ?_ (Or.inl ⟨by rfl, ?_⟩) (⟨j0, j1, k0, k1, k2, c9⟩) ?_
           rotate_left 1
           · intro u
             go_simp
             try simp only [d1]
             try simp only [d2]
             try simp only [d3]
             try with_reducible rfl
           simp only [Act.put, List.setIfInBounds_toArray, List.set_cons_zero, List.set_cons_succ])
        | (refine mv_free _ (Or.inr ⟨by rfl, rfl⟩) (⟨j0, j1, k0, k1, k2, c9⟩) ?_
           simp only [Act.put, List.setIfInBounds_toArray, List.set_cons_zero, List.set_cons_succ])
    iterate 1
      first
        | (refine mv_take ?_ (Or.inl ⟨by rfl, ?_⟩) (⟨j0, j1, k0, k1, k2, c9⟩) ?_
           rotate_left 1
           · intro u hu
             (try dsimp only at hu)
             go_simp
             try with_reducible rfl
           simp only [Act.put, List.setIfInBounds_toArray, List.set_cons_zero, List.set_cons_succ])
        | (refine mv_take _ (Or.inr ⟨by rfl, rfl⟩) (⟨j0, j1, k0, k1, k2, c9⟩) ?_
           simp only [Act.put, List.setIfInBounds_toArray, List.set_cons_zero, List.set_cons_succ])
    iterate 1
      first
        | (refine mv_free ?_ (Or.inl ⟨by rfl, ?_⟩) (⟨j0, j1, k0, k1, k2, c9⟩) ?_
           rotate_left 1
           · intro u
             go_simp
             try simp only [d1]
             try simp only [d2]
             try simp only [d3]
             try with_reducible rfl
           simp only [Act.put, List.setIfInBounds_toArray, List.set_cons_zero, List.set_cons_succ])
        | (refine mv_free _ (Or.inr ⟨by rfl, rfl⟩) (⟨j0, j1, k0, k1, k2, c9⟩) ?_
           simp only [Act.put, List.setIfInBounds_toArray, List.set_cons_zero, List.set_cons_succ])
    refine mv_step (fun K hK => ?_)
    go_simp
    refine y5.out.mono ?_
    rintro e w8 ⟨rfl, hb8⟩
    have hm8 := hm6.drew.trans (hb8.mono (by have := hm6.size; have := hs4.out; show _ ≤ V2.heap.size; omega))
    have hn8 := hn6.drew.trans (hb8.mono (by have := hs6.out; show _ ≤ V2.heap.size; omega))
    replace x3 := Lib.hid (x3.out.below (w' := w8) (show Below V2.heap.size V2 w8 from ⟨hb8.os, hb8.tape, hb8.output, hb8.size, hb8.block⟩))
    replace x4 := Lib.hid (x4.out.below (w' := w8) (show Below V2.heap.size V2 w8 from ⟨hb8.os, hb8.tape, hb8.output, hb8.size, hb8.block⟩))
    have hb8 := hbV2.drew.trans (hb8.mono (by have := hbV2.size; have := hz.out; show _ ≤ V2.heap.size; omega))
    clear hbV2 hm6 hn6 j0 j1 i0 i1 k0 k1 k2 c9 y5
    obtain ⟨k0, k1, k2⟩ := hcs.out _ hb8
    obtain ⟨j0, j1⟩ := hcs4.out _ hm8
    obtain ⟨i0, i1⟩ := hcs6.out _ hn8
    obtain ⟨bz', oz', ez, -, c9⟩ := G7.out _ hb8
    injection ez with ez
    injection ez with e1' e2'
    subst e1' e2'
    go_wp2_with fail
    refine hK.out _ _ _ (fun u hu => hu) (⟨j0, j1, k0, k1, k2, c9⟩) ?_
    clear hK K
    iterate 7
      first
        | (refine mv_free ?_ (Or.inl ⟨by rfl, ?_⟩) (⟨j0, j1, k0, k1, k2, c9⟩) ?_
           rotate_left 1
           · intro u
             go_simp
             try simp only [d1]
             try simp only [d2]
             try simp only [d3]
             try with_reducible rfl
           simp only [Act.put, List.setIfInBounds_toArray, List.set_cons_zero, List.set_cons_succ])
        | (refine mv_free _ (Or.inr ⟨by rfl, rfl⟩) (⟨j0, j1, k0, k1, k2, c9⟩) ?_
           simp only [Act.put, List.setIfInBounds_toArray, List.set_cons_zero, List.set_cons_succ])
    iterate 1
      first
        | (refine mv_take ?_ (Or.inl ⟨by rfl, ?_⟩) (⟨j0, j1, k0, k1, k2, c9⟩) ?_
           rotate_left 1
           · intro u hu
             (try dsimp only at hu)
             go_simp
             try with_reducible rfl
           simp only [Act.put, List.setIfInBounds_toArray, List.set_cons_zero, List.set_cons_succ])
        | (refine mv_take _ (Or.inr ⟨by rfl, rfl⟩) (⟨j0, j1, k0, k1, k2, c9⟩) ?_
           simp only [Act.put, List.setIfInBounds_toArray, List.set_cons_zero, List.set_cons_succ])
    iterate 2
      first
        | (refine mv_free ?_ (Or.inl ⟨by rfl, ?_⟩) (⟨j0, j1, k0, k1, k2, c9⟩) ?_
           rotate_left 1
           · intro u
             go_simp
             try simp only [d1]
             try simp only [d2]
             try simp only [d3]
             try with_reducible rfl
           simp only [Act.put, List.setIfInBounds_toArray, List.set_cons_zero, List.set_cons_succ])
        | (refine mv_free _ (Or.inr ⟨by rfl, rfl⟩) (⟨j0, j1, k0, k1, k2, c9⟩) ?_
           simp only [Act.put, List.setIfInBounds_toArray, List.set_cons_zero, List.set_cons_succ])
    iterate 1
      first
        | (refine mv_take ?_ (Or.inl ⟨by rfl, ?_⟩) (⟨j0, j1, k0, k1, k2, c9⟩) ?_
           rotate_left 1
           · intro u hu
             (try dsimp only at hu)
             go_simp
             try with_reducible rfl
           simp only [Act.put, List.setIfInBounds_toArray, List.set_cons_zero, List.set_cons_succ])
        | (refine mv_take _ (Or.inr ⟨by rfl, rfl⟩) (⟨j0, j1, k0, k1, k2, c9⟩) ?_
           simp only [Act.put, List.setIfInBounds_toArray, List.set_cons_zero, List.set_cons_succ])
    iterate 5
      first
        | (refine mv_free ?_ (Or.inl ⟨by rfl, ?_⟩) (⟨j0, j1, k0, k1, k2, c9⟩) ?_
           rotate_left 1
           · intro u
             go_simp
             try simp only [d1]
             try simp only [d2]
             try simp only [d3]
             try with_reducible rfl
           simp only [Act.put, List.setIfInBounds_toArray, List.set_cons_zero, List.set_cons_succ])
        | (refine mv_free _ (Or.inr ⟨by rfl, rfl⟩) (⟨j0, j1, k0, k1, k2, c9⟩) ?_
           simp only [Act.put, List.setIfInBounds_toArray, List.set_cons_zero, List.set_cons_succ])
    refine mv_done ?_
    go_upto_region 10 with (fail)
    refine region_moves (fun u => u.cell? ⟨w5.heap.size, 0, none⟩ = some (.slice (some ⟨g3, 0, none⟩) X.length c3) ∧ u.cell? ⟨w5.heap.size, 1, none⟩ = some (.slice (some ⟨g4, 0, none⟩) L.length c4) ∧ u.cell? ⟨w.heap.size, 0, none⟩ = some (.slice a1 X.length e1) ∧ u.cell? ⟨w.heap.size, 1, none⟩ = some (.slice a2 Y.length e2) ∧ u.cell? ⟨w.heap.size, 2, none⟩ = some (.slice (some ⟨bz, oz, none⟩) Z.length e3)) [] [(.free, 0), (.free, 1), (.take, 2), (.take, 3), (.free, 4), (.step, 5), (.step, 6), (.free, 7), (.free, 8), (.free, 9), (.free, 10), (.free, 11), (.free, 12), (.take, 13), (.free, 14), (.free, 15), (.take, 16), (.free, 17), (.free, 18), (.free, 19), (.free, 20), (.free, 21), (.free, 22), (.step, 23), (.free, 24), (.free, 25)] _ (by kernel_rfl) (by kernel_rfl) (by kernel_rfl) (by kernel_rfl) (by decide) rfl (fun _ _ _ _ _ h => h) ?_
    simp only [List.filterMap_cons, List.filterMap_nil, List.getElem?_toArray, List.getElem?_cons_zero, List.getElem?_cons_succ, Option.map_some]
    iterate 2
      first
        | (refine mv_free ?_ (Or.inl ⟨by rfl, ?_⟩) (⟨i0, i1, k0, k1, k2⟩) ?_
           rotate_left 1
           · intro u
             go_simp
             try simp only [d1]
             try simp only [d2]
             try simp only [d3]
             try with_reducible rfl
           simp only [Act.put, List.setIfInBounds_toArray, List.set_cons_zero, List.set_cons_succ])
        | (refine mv_free _ (Or.inr ⟨by rfl, rfl⟩) (⟨i0, i1, k0, k1, k2⟩) ?_
           simp only [Act.put, List.setIfInBounds_toArray, List.set_cons_zero, List.set_cons_succ])
    iterate 2
      first
        | (refine mv_take ?_ (Or.inl ⟨by rfl, ?_⟩) (⟨i0, i1, k0, k1, k2⟩) ?_
           rotate_left 1
           · intro u hu
             (try dsimp only at hu)
             go_simp
             try with_reducible rfl
           simp only [Act.put, List.setIfInBounds_toArray, List.set_cons_zero, List.set_cons_succ])
        | (refine mv_take _ (Or.inr ⟨by rfl, rfl⟩) (⟨i0, i1, k0, k1, k2⟩) ?_
           simp only [Act.put, List.setIfInBounds_toArray, List.set_cons_zero, List.set_cons_succ])
    iterate 1
      first
        | (refine mv_free ?_ (Or.inl ⟨by rfl, ?_⟩) (⟨i0, i1, k0, k1, k2⟩) ?_
           rotate_left 1
           · intro u
             go_simp
             try simp only [d1]
             try simp only [d2]
             try simp only [d3]
             try with_reducible rfl
           simp only [Act.put, List.setIfInBounds_toArray, List.set_cons_zero, List.set_cons_succ])
        | (refine mv_free _ (Or.inr ⟨by rfl, rfl⟩) (⟨i0, i1, k0, k1, k2⟩) ?_
           simp only [Act.put, List.setIfInBounds_toArray, List.set_cons_zero, List.set_cons_succ])
    refine mv_step (fun K hK => ?_)
    go_simp
    refine (RC1.out _ hb8.drew).mono ?_
    rintro e w9 ⟨g5, c5, rfl, x5, hb9⟩
    replace x3 := Lib.hid (x3.out.below (w' := w9) (show Below w8.heap.size w8 w9 from ⟨hb9.os, hb9.tape, hb9.output, hb9.size, hb9.block⟩))
    replace x4 := Lib.hid (x4.out.below (w' := w9) (show Below w8.heap.size w8 w9 from ⟨hb9.os, hb9.tape, hb9.output, hb9.size, hb9.block⟩))
    have hn9 := hn8.drew.trans (hb9.mono (by have := hn8.size; have := hs6.out; show _ ≤ w8.heap.size; omega))
    have hb9 := hb8.drew.trans (hb9.mono (by have := hb8.size; have := hz.out; show _ ≤ w8.heap.size; omega))
    replace x5 := Lib.hid x5
    clear hb8 hn8 i0 i1 k0 k1 k2
    obtain ⟨k0, k1, k2⟩ := hcs.out _ hb9
    obtain ⟨i0, i1⟩ := hcs6.out _ hn9
    go_wp2_with fail
    refine hK.out _ _ _ (fun u hu => hu) (⟨i0, i1, k0, k1, k2⟩) ?_
    clear hK K
    refine mv_step (fun K hK => ?_)
    go_simp
    refine (rsame5_any (some ⟨g3, 0, none⟩) (some ⟨g4, 0, none⟩) a1 (some ⟨g5, 0, none⟩) c3 c4 e1 c5 X L w9 x3.out x4.out (HX.out _ hb9) x5.out (by have := NL.out; omega) (by have := NL.out; omega) (by have := NL.out; omega) (by have := NL.out; omega)).mono ?_
    rintro e w10 ⟨rfl, hb10⟩
    have hn10 := hn9.trans (hb10.mono (by have := hn9.size; have := hs6.out; omega))
    have hb10 := hb9.trans (hb10.mono (by have := hb9.size; have := hz.out; omega))
    clear hb9 hn9 i0 i1 k0 k1 k2
    obtain ⟨k0, k1, k2⟩ := hcs.out _ hb10
    obtain ⟨i0, i1⟩ := hcs6.out _ hn10
    go_wp2_with fail
    refine hK.out _ _ _ (fun u hu => hu) (⟨i0, i1, k0, k1, k2⟩) ?_
    clear hK K
    iterate 6
      first
        | (refine mv_free ?_ (Or.inl ⟨by rfl, ?_⟩) (⟨i0, i1, k0, k1, k2⟩) ?_
           rotate_left 1
           · intro u
             go_simp
             try simp only [d1]
             try simp only [d2]
             try simp only [d3]
             try with_reducible rfl
           simp only [Act.put, List.setIfInBounds_toArray, List.set_cons_zero, List.set_cons_succ])
        | (refine mv_free _ (Or.inr ⟨by rfl, rfl⟩) (⟨i0, i1, k0, k1, k2⟩) ?_
           simp only [Act.put, List.setIfInBounds_toArray, List.set_cons_zero, List.set_cons_succ])
    iterate 1
      first
        | (refine mv_take ?_ (Or.inl ⟨by rfl, ?_⟩) (⟨i0, i1, k0, k1, k2⟩) ?_
           rotate_left 1
           · intro u hu
             (try dsimp only at hu)
             go_simp
             try with_reducible rfl
           simp only [Act.put, List.setIfInBounds_toArray, List.set_cons_zero, List.set_cons_succ])
        | (refine mv_take _ (Or.inr ⟨by rfl, rfl⟩) (⟨i0, i1, k0, k1, k2⟩) ?_
           simp only [Act.put, List.setIfInBounds_toArray, List.set_cons_zero, List.set_cons_succ])
    iterate 2
      first
        | (refine mv_free ?_ (Or.inl ⟨by rfl, ?_⟩) (⟨i0, i1, k0, k1, k2⟩) ?_
           rotate_left 1
           · intro u
             go_simp
             try simp only [d1]
             try simp only [d2]
             try simp only [d3]
             try with_reducible rfl
           simp only [Act.put, List.setIfInBounds_toArray, List.set_cons_zero, List.set_cons_succ])
        | (refine mv_free _ (Or.inr ⟨by rfl, rfl⟩) (⟨i0, i1, k0, k1, k2⟩) ?_
           simp only [Act.put, List.setIfInBounds_toArray, List.set_cons_zero, List.set_cons_succ])
    iterate 1
      first
        | (refine mv_take ?_ (Or.inl ⟨by rfl, ?_⟩) (⟨i0, i1, k0, k1, k2⟩) ?_
           rotate_left 1
           · intro u hu
             (try dsimp only at hu)
             go_simp
             try with_reducible rfl
           simp only [Act.put, List.setIfInBounds_toArray, List.set_cons_zero, List.set_cons_succ])
        | (refine mv_take _ (Or.inr ⟨by rfl, rfl⟩) (⟨i0, i1, k0, k1, k2⟩) ?_
           simp only [Act.put, List.setIfInBounds_toArray, List.set_cons_zero, List.set_cons_succ])
    iterate 6
      first
        | (refine mv_free ?_ (Or.inl ⟨by rfl, ?_⟩) (⟨i0, i1, k0, k1, k2⟩) ?_
           rotate_left 1
           · intro u
             go_simp
             try simp only [d1]
             try simp only [d2]
             try simp only [d3]
             try with_reducible rfl
           simp only [Act.put, List.setIfInBounds_toArray, List.set_cons_zero, List.set_cons_succ])
        | (refine mv_free _ (Or.inr ⟨by rfl, rfl⟩) (⟨i0, i1, k0, k1, k2⟩) ?_
           simp only [Act.put, List.setIfInBounds_toArray, List.set_cons_zero, List.set_cons_succ])
    refine mv_step (fun K hK => ?_)
    go_simp
    refine (LV.out _).mono ?_
    rintro e w20 ⟨rfl, hb20⟩
    have hn20 := hn10.trans (hb20.mono (by have := hn10.size; have := hs6.out; omega))
    have hb20 := hb10.trans (hb20.mono (by have := hb10.size; have := hz.out; omega))
    clear i0 i1 k0 k1 k2
    obtain ⟨k0, k1, k2⟩ := hcs.out _ hb20
    obtain ⟨i0, i1⟩ := hcs6.out _ hn20
    go_wp2_with fail
    refine hK.out _ _ _ (fun u hu => hu) (⟨i0, i1, k0, k1, k2⟩) ?_
    clear hK K
    iterate 2
      first
        | (refine mv_free ?_ (Or.inl ⟨by rfl, ?_⟩) (⟨i0, i1, k0, k1, k2⟩) ?_
           rotate_left 1
           · intro u
             go_simp
             try simp only [d1]
             try simp only [d2]
             try simp only [d3]
             try with_reducible rfl
           simp only [Act.put, List.setIfInBounds_toArray, List.set_cons_zero, List.set_cons_succ])
        | (refine mv_free _ (Or.inr ⟨by rfl, rfl⟩) (⟨i0, i1, k0, k1, k2⟩) ?_
           simp only [Act.put, List.setIfInBounds_toArray, List.set_cons_zero, List.set_cons_succ])
    refine mv_done ?_
    go_wp2
    go_ret
    exact ⟨by first | rfl | simp, hb0.out.trans (hb20.mono (by omega))⟩
end Go.Proofs.Ytnfbfggkbpobiaa
