/- The laws AirFalls, AirSteps; walked. -/
import Derived.Test.YtlgiefdhjhijaaaAir11
import Derived.Deep.Cut
namespace Go.Proofs.Ytlgiefdhjhijaaa
open Go.ChangeShapes Go.WideShapes Go.ChangeAt Go.RowKit
set_option linter.unusedVariables false
set_option linter.unusedSimpArgs false
theorem af_box (w : World) (x0 x1 : Int) : ∃ V, V = (w.alloc (.cells #[.int .i64 x0, .int .i64 x1] 45)) ∧ Below w.heap.size w V ∧ V.heap.size = w.heap.size + 1 ∧ ∀ u, Below (w.heap.size + 1) V u → u.cell? ⟨w.heap.size, 0, none⟩ = some (.int .i64 x0) ∧ u.cell? ⟨w.heap.size, 1, none⟩ = some (.int .i64 x1) :=
  ⟨_, rfl, (by repeat (first | exact Below.refl _ _ | assumption | apply Below.drew | apply below_drewN | (refine Below.alloc ?_ (by first | exact Nat.le_refl _ | omega | (simp <;> omega)) _) | (refine Below.setCell ?_ (by first | exact Nat.le_refl _ | omega | (simp <;> omega)) _))), by simp, fun u hu => ⟨(bc hu (by omega)).trans (by go_simp), (bc hu (by omega)).trans (by go_simp)⟩⟩
set_option maxRecDepth 100000 in
set_option maxHeartbeats 8000000 in
theorem law_AirFalls (k x0 x1 : Int) (w : World) : Calls Try.prog 6 #[.int .i64 k, .agg #[.int .i64 x0, .int .i64 x1]] w fun e w' => e = .returned (.bool true) ∧ Below w.heap.size w w' := by
  obtain ⟨V, eV, hb0, hz, hcs⟩ := af_box w x0 x1
  obtain ⟨Z, U, hZ, eU, mU⟩ := air_newW V
  have LV := Lib.hid (fun u => lives07 u)
  have AS := Lib.hid (fun u m => astepsW V u m)
  have F1 := Lib.hid (fun (h : x0 ≤ x1) => show prV x1 ≤ prV x0 ∧ heV x1 ≤ heV x0 from ⟨prV_fall h, heV_fall h⟩)
  have F2 := Lib.hid (fun (h : x0 = x1) => show prV x1 = prV x0 ∧ heV x1 = heV x0 from by subst h; exact ⟨rfl, rfl⟩)
  have F3 := Lib.hid (fun (h : x1 ≤ x0) => show prV x0 ≤ prV x1 ∧ heV x0 ≤ heV x1 from ⟨prV_fall h, heV_fall h⟩)
  have P0 := Lib.hid (fun u m => apressW x0 V u m)
  have P1 := Lib.hid (fun u m => apressW x1 V u m)
  have H0 := Lib.hid (fun u m => aheightW x0 V u m)
  have H1 := Lib.hid (fun u m => aheightW x1 V u m)
  have b1 := prV_bd x0
  have b2 := heV_bd x0
  generalize prV x0 = p at *
  generalize prV x1 = q at *
  generalize heV x0 = x at *
  generalize heV x1 = y at *
  obtain ⟨b1, -⟩ := b1
  obtain ⟨b2, b3⟩ := b2
  replace eU := Lib.hid eU
  replace mU := Lib.hid mU
  replace hb0 := Lib.hid hb0
  replace hz := Lib.hid hz
  replace hcs := Lib.hid hcs
  replace eV := Lib.hid eV
  go_enter Try.func6, Try.ntmps6
  go_upto_region 1 with (fail)
  rw [← eV.out]
  go_wp2_with fail
  rw [← eU.out]
  refine (AS.out _ mU.out).mono ?_
  rintro e w3 ⟨g, off, cap, rfl, s3, m3, -⟩
  replace m3 := Lib.hid m3
  replace s3 := Lib.hid s3
  obtain ⟨k0, k1⟩ := hcs.out _ (m3.out.b.mono (Nat.le_of_eq hz.out.symm))
  rcases (show k < 0 ∨ (0 ≤ k ∧ 2100 ≤ k) ∨ (0 ≤ k ∧ k < 2100) by omega) with g1 | ⟨g1, g2⟩ | ⟨g1, g2⟩
  · have k2 := s3.out.c 0 (by omega)
    have d1 : decide (0 ≤ k) = false := by simp; omega
    have d2 : decide (k < 2100) = true := by simp; omega
    go_wp2_with fail
    refine region_moves (fun u => u.cell? ⟨w.heap.size, 0, none⟩ = some (.int .i64 x0) ∧ u.cell? ⟨w.heap.size, 1, none⟩ = some (.int .i64 x1)) [] [(.free, 0), (.free, 1), (.free, 2), (.free, 3), (.free, 4), (.free, 5), (.free, 6), (.free, 7), (.free, 8), (.free, 9), (.free, 10), (.take, 11), (.free, 12), (.free, 13), (.free, 14), (.take, 15), (.free, 16), (.free, 17)] _ (by kernel_rfl) (by kernel_rfl) (by kernel_rfl) (by kernel_rfl) (by decide) rfl (fun _ _ _ _ _ h => h) ?_
    simp only [List.filterMap_cons, List.filterMap_nil, List.getElem?_toArray, List.getElem?_cons_zero, List.getElem?_cons_succ, Option.map_some]
    iterate 11
      first
        | (refine mv_free ?_ (Or.inl ⟨by rfl, ?_⟩) (⟨k0, k1⟩) ?_
           rotate_left 1
           · intro u
             go_simp
             try simp only [d1]
             try simp only [d2]
             try simp only [d3]
             try with_reducible rfl
           simp only [Act.put, List.setIfInBounds_toArray, List.set_cons_zero, List.set_cons_succ])
        | (refine mv_free _ (Or.inr ⟨by rfl, rfl⟩) (⟨k0, k1⟩) ?_
           simp only [Act.put, List.setIfInBounds_toArray, List.set_cons_zero, List.set_cons_succ])
    iterate 1
      first
        | (refine mv_take ?_ (Or.inl ⟨by rfl, ?_⟩) (⟨k0, k1⟩) ?_
           rotate_left 1
           · intro u hu
             (try dsimp only at hu)
             go_simp
             try with_reducible rfl
           simp only [Act.put, List.setIfInBounds_toArray, List.set_cons_zero, List.set_cons_succ])
        | (refine mv_take _ (Or.inr ⟨by rfl, rfl⟩) (⟨k0, k1⟩) ?_
           simp only [Act.put, List.setIfInBounds_toArray, List.set_cons_zero, List.set_cons_succ])
    iterate 3
      first
        | (refine mv_free ?_ (Or.inl ⟨by rfl, ?_⟩) (⟨k0, k1⟩) ?_
           rotate_left 1
           · intro u
             go_simp
             try simp only [d1]
             try simp only [d2]
             try simp only [d3]
             try with_reducible rfl
           simp only [Act.put, List.setIfInBounds_toArray, List.set_cons_zero, List.set_cons_succ])
        | (refine mv_free _ (Or.inr ⟨by rfl, rfl⟩) (⟨k0, k1⟩) ?_
           simp only [Act.put, List.setIfInBounds_toArray, List.set_cons_zero, List.set_cons_succ])
    iterate 1
      first
        | (refine mv_take ?_ (Or.inl ⟨by rfl, ?_⟩) (⟨k0, k1⟩) ?_
           rotate_left 1
           · intro u hu
             (try dsimp only at hu)
             go_simp
             try with_reducible rfl
           simp only [Act.put, List.setIfInBounds_toArray, List.set_cons_zero, List.set_cons_succ])
        | (refine mv_take _ (Or.inr ⟨by rfl, rfl⟩) (⟨k0, k1⟩) ?_
           simp only [Act.put, List.setIfInBounds_toArray, List.set_cons_zero, List.set_cons_succ])
    iterate 2
      first
        | (refine mv_free ?_ (Or.inl ⟨by rfl, ?_⟩) (⟨k0, k1⟩) ?_
           rotate_left 1
           · intro u
             go_simp
             try simp only [d1]
             try simp only [d2]
             try simp only [d3]
             try with_reducible rfl
           simp only [Act.put, List.setIfInBounds_toArray, List.set_cons_zero, List.set_cons_succ])
        | (refine mv_free _ (Or.inr ⟨by rfl, rfl⟩) (⟨k0, k1⟩) ?_
           simp only [Act.put, List.setIfInBounds_toArray, List.set_cons_zero, List.set_cons_succ])
    refine mv_done ?_
    have m4 := Lib.hid m3.out.drew
    go_wp2_with fail
    refine region_moves (fun u => u.cell? ⟨w.heap.size, 0, none⟩ = some (.int .i64 x0) ∧ u.cell? ⟨w.heap.size, 1, none⟩ = some (.int .i64 x1)) [] [(.free, 0), (.take, 1), (.free, 3), (.take, 4), (.step, 2), (.step, 5), (.free, 6), (.free, 7)] _ (by kernel_rfl) (by kernel_rfl) (by kernel_rfl) (by kernel_rfl) (by decide) rfl (fun _ _ _ _ _ h => h) ?_
    simp only [List.filterMap_cons, List.filterMap_nil, List.getElem?_toArray, List.getElem?_cons_zero, List.getElem?_cons_succ, Option.map_some]
    iterate 1
      first
        | (refine mv_free ?_ (Or.inl ⟨by rfl, ?_⟩) (⟨k0, k1⟩) ?_
           rotate_left 1
           · intro u
             go_simp
             try simp only [d1]
             try simp only [d2]
             try simp only [d3]
             try with_reducible rfl
           simp only [Act.put, List.setIfInBounds_toArray, List.set_cons_zero, List.set_cons_succ])
        | (refine mv_free _ (Or.inr ⟨by rfl, rfl⟩) (⟨k0, k1⟩) ?_
           simp only [Act.put, List.setIfInBounds_toArray, List.set_cons_zero, List.set_cons_succ])
    iterate 1
      first
        | (refine mv_take ?_ (Or.inl ⟨by rfl, ?_⟩) (⟨k0, k1⟩) ?_
           rotate_left 1
           · intro u hu
             (try dsimp only at hu)
             go_simp
             try with_reducible rfl
           simp only [Act.put, List.setIfInBounds_toArray, List.set_cons_zero, List.set_cons_succ])
        | (refine mv_take _ (Or.inr ⟨by rfl, rfl⟩) (⟨k0, k1⟩) ?_
           simp only [Act.put, List.setIfInBounds_toArray, List.set_cons_zero, List.set_cons_succ])
    iterate 1
      first
        | (refine mv_free ?_ (Or.inl ⟨by rfl, ?_⟩) (⟨k0, k1⟩) ?_
           rotate_left 1
           · intro u
             go_simp
             try simp only [d1]
             try simp only [d2]
             try simp only [d3]
             try with_reducible rfl
           simp only [Act.put, List.setIfInBounds_toArray, List.set_cons_zero, List.set_cons_succ])
        | (refine mv_free _ (Or.inr ⟨by rfl, rfl⟩) (⟨k0, k1⟩) ?_
           simp only [Act.put, List.setIfInBounds_toArray, List.set_cons_zero, List.set_cons_succ])
    iterate 1
      first
        | (refine mv_take ?_ (Or.inl ⟨by rfl, ?_⟩) (⟨k0, k1⟩) ?_
           rotate_left 1
           · intro u hu
             (try dsimp only at hu)
             go_simp
             try with_reducible rfl
           simp only [Act.put, List.setIfInBounds_toArray, List.set_cons_zero, List.set_cons_succ])
        | (refine mv_take _ (Or.inr ⟨by rfl, rfl⟩) (⟨k0, k1⟩) ?_
           simp only [Act.put, List.setIfInBounds_toArray, List.set_cons_zero, List.set_cons_succ])
    refine mv_step (fun K hK => ?_)
    go_simp
    refine (P0.out _ m4.out.drew).mono ?_
    rintro e w6 ⟨rfl, m6, -⟩
    replace m6 := Lib.hid m6
    obtain ⟨k0, k1⟩ := hcs.out _ (m6.out.b.mono (Nat.le_of_eq hz.out.symm))
    go_wp2_with fail
    refine hK.out _ _ _ (fun u hu => hu) (⟨k0, k1⟩) ?_
    clear hK K
    refine mv_step (fun K hK => ?_)
    go_simp
    refine (P1.out _ m6.out).mono ?_
    rintro e w7 ⟨rfl, m7, -⟩
    replace m7 := Lib.hid m7
    obtain ⟨k0, k1⟩ := hcs.out _ (m7.out.b.mono (Nat.le_of_eq hz.out.symm))
    go_wp2_with fail
    refine hK.out _ _ _ (fun u hu => hu) (⟨k0, k1⟩) ?_
    clear hK K
    iterate 2
      first
        | (refine mv_free ?_ (Or.inl ⟨by rfl, ?_⟩) (⟨k0, k1⟩) ?_
           rotate_left 1
           · intro u
             go_simp
             try simp only [d1]
             try simp only [d2]
             try simp only [d3]
             try with_reducible rfl
           simp only [Act.put, List.setIfInBounds_toArray, List.set_cons_zero, List.set_cons_succ])
        | (refine mv_free _ (Or.inr ⟨by rfl, rfl⟩) (⟨k0, k1⟩) ?_
           simp only [Act.put, List.setIfInBounds_toArray, List.set_cons_zero, List.set_cons_succ])
    refine mv_done ?_
    go_wp2_with fail
    refine region_moves (fun u => u.cell? ⟨w.heap.size, 0, none⟩ = some (.int .i64 x0) ∧ u.cell? ⟨w.heap.size, 1, none⟩ = some (.int .i64 x1)) [] [(.free, 0), (.take, 1), (.free, 3), (.take, 4), (.step, 2), (.step, 5), (.free, 6), (.free, 7)] _ (by kernel_rfl) (by kernel_rfl) (by kernel_rfl) (by kernel_rfl) (by decide) rfl (fun _ _ _ _ _ h => h) ?_
    simp only [List.filterMap_cons, List.filterMap_nil, List.getElem?_toArray, List.getElem?_cons_zero, List.getElem?_cons_succ, Option.map_some]
    iterate 1
      first
        | (refine mv_free ?_ (Or.inl ⟨by rfl, ?_⟩) (⟨k0, k1⟩) ?_
           rotate_left 1
           · intro u
             go_simp
             try simp only [d1]
             try simp only [d2]
             try simp only [d3]
             try with_reducible rfl
           simp only [Act.put, List.setIfInBounds_toArray, List.set_cons_zero, List.set_cons_succ])
        | (refine mv_free _ (Or.inr ⟨by rfl, rfl⟩) (⟨k0, k1⟩) ?_
           simp only [Act.put, List.setIfInBounds_toArray, List.set_cons_zero, List.set_cons_succ])
    iterate 1
      first
        | (refine mv_take ?_ (Or.inl ⟨by rfl, ?_⟩) (⟨k0, k1⟩) ?_
           rotate_left 1
           · intro u hu
             (try dsimp only at hu)
             go_simp
             try with_reducible rfl
           simp only [Act.put, List.setIfInBounds_toArray, List.set_cons_zero, List.set_cons_succ])
        | (refine mv_take _ (Or.inr ⟨by rfl, rfl⟩) (⟨k0, k1⟩) ?_
           simp only [Act.put, List.setIfInBounds_toArray, List.set_cons_zero, List.set_cons_succ])
    iterate 1
      first
        | (refine mv_free ?_ (Or.inl ⟨by rfl, ?_⟩) (⟨k0, k1⟩) ?_
           rotate_left 1
           · intro u
             go_simp
             try simp only [d1]
             try simp only [d2]
             try simp only [d3]
             try with_reducible rfl
           simp only [Act.put, List.setIfInBounds_toArray, List.set_cons_zero, List.set_cons_succ])
        | (refine mv_free _ (Or.inr ⟨by rfl, rfl⟩) (⟨k0, k1⟩) ?_
           simp only [Act.put, List.setIfInBounds_toArray, List.set_cons_zero, List.set_cons_succ])
    iterate 1
      first
        | (refine mv_take ?_ (Or.inl ⟨by rfl, ?_⟩) (⟨k0, k1⟩) ?_
           rotate_left 1
           · intro u hu
             (try dsimp only at hu)
             go_simp
             try with_reducible rfl
           simp only [Act.put, List.setIfInBounds_toArray, List.set_cons_zero, List.set_cons_succ])
        | (refine mv_take _ (Or.inr ⟨by rfl, rfl⟩) (⟨k0, k1⟩) ?_
           simp only [Act.put, List.setIfInBounds_toArray, List.set_cons_zero, List.set_cons_succ])
    refine mv_step (fun K hK => ?_)
    go_simp
    refine (H0.out _ m7.out.drew).mono ?_
    rintro e w8 ⟨rfl, m8, -⟩
    replace m8 := Lib.hid m8
    obtain ⟨k0, k1⟩ := hcs.out _ (m8.out.b.mono (Nat.le_of_eq hz.out.symm))
    go_wp2_with fail
    refine hK.out _ _ _ (fun u hu => hu) (⟨k0, k1⟩) ?_
    clear hK K
    refine mv_step (fun K hK => ?_)
    go_simp
    refine (H1.out _ m8.out).mono ?_
    rintro e w9 ⟨rfl, m9, -⟩
    replace m9 := Lib.hid m9
    obtain ⟨k0, k1⟩ := hcs.out _ (m9.out.b.mono (Nat.le_of_eq hz.out.symm))
    go_wp2_with fail
    refine hK.out _ _ _ (fun u hu => hu) (⟨k0, k1⟩) ?_
    clear hK K
    iterate 2
      first
        | (refine mv_free ?_ (Or.inl ⟨by rfl, ?_⟩) (⟨k0, k1⟩) ?_
           rotate_left 1
           · intro u
             go_simp
             try simp only [d1]
             try simp only [d2]
             try simp only [d3]
             try with_reducible rfl
           simp only [Act.put, List.setIfInBounds_toArray, List.set_cons_zero, List.set_cons_succ])
        | (refine mv_free _ (Or.inr ⟨by rfl, rfl⟩) (⟨k0, k1⟩) ?_
           simp only [Act.put, List.setIfInBounds_toArray, List.set_cons_zero, List.set_cons_succ])
    refine mv_done ?_
    rcases (show x0 < x1 ∨ x0 = x1 ∨ x1 < x0 by omega) with q | q | q
    · have f1 := F1.out (by omega)
      obtain ⟨f1, f2⟩ := f1
      go_wp2_with fail
      refine (LV.out _).mono ?_
      rintro e w20 ⟨rfl, hb20⟩
      have m20 := Lib.hid (m9.out.bel hb20)
      clear hb20
      go_wp2
      go_ret
      exact ⟨rfl, hb0.out.trans (m20.out.b.mono (by have := hz.out; omega))⟩
    · obtain ⟨f1, f2⟩ := F2.out q
      subst q
      subst f1 f2
      go_wp2_with fail
      refine (LV.out _).mono ?_
      rintro e w20 ⟨rfl, hb20⟩
      have m20 := Lib.hid (m9.out.bel hb20)
      clear hb20
      go_wp2
      go_ret
      exact ⟨rfl, hb0.out.trans (m20.out.b.mono (by have := hz.out; omega))⟩
    · have f1 := F3.out (by omega)
      obtain ⟨f1, f2⟩ := f1
      go_wp2_with fail
      refine (LV.out _).mono ?_
      rintro e w20 ⟨rfl, hb20⟩
      have m20 := Lib.hid (m9.out.bel hb20)
      clear hb20
      go_wp2
      go_ret
      exact ⟨rfl, hb0.out.trans (m20.out.b.mono (by have := hz.out; omega))⟩
  · have k2 := s3.out.c 0 (by omega)
    have d1 : decide (0 ≤ k) = true := by simp; omega
    have d2 : decide (k < 2100) = false := by simp; omega
    go_wp2_with fail
    refine region_moves (fun u => u.cell? ⟨w.heap.size, 0, none⟩ = some (.int .i64 x0) ∧ u.cell? ⟨w.heap.size, 1, none⟩ = some (.int .i64 x1)) [] [(.free, 0), (.free, 1), (.free, 2), (.free, 3), (.free, 4), (.free, 5), (.free, 6), (.free, 7), (.free, 8), (.free, 9), (.free, 10), (.take, 11), (.free, 12), (.free, 13), (.free, 14), (.take, 15), (.free, 16), (.free, 17)] _ (by kernel_rfl) (by kernel_rfl) (by kernel_rfl) (by kernel_rfl) (by decide) rfl (fun _ _ _ _ _ h => h) ?_
    simp only [List.filterMap_cons, List.filterMap_nil, List.getElem?_toArray, List.getElem?_cons_zero, List.getElem?_cons_succ, Option.map_some]
    iterate 11
      first
        | (refine mv_free ?_ (Or.inl ⟨by rfl, ?_⟩) (⟨k0, k1⟩) ?_
           rotate_left 1
           · intro u
             go_simp
             try simp only [d1]
             try simp only [d2]
             try simp only [d3]
             try with_reducible rfl
           simp only [Act.put, List.setIfInBounds_toArray, List.set_cons_zero, List.set_cons_succ])
        | (refine mv_free _ (Or.inr ⟨by rfl, rfl⟩) (⟨k0, k1⟩) ?_
           simp only [Act.put, List.setIfInBounds_toArray, List.set_cons_zero, List.set_cons_succ])
    iterate 1
      first
        | (refine mv_take ?_ (Or.inl ⟨by rfl, ?_⟩) (⟨k0, k1⟩) ?_
           rotate_left 1
           · intro u hu
             (try dsimp only at hu)
             go_simp
             try with_reducible rfl
           simp only [Act.put, List.setIfInBounds_toArray, List.set_cons_zero, List.set_cons_succ])
        | (refine mv_take _ (Or.inr ⟨by rfl, rfl⟩) (⟨k0, k1⟩) ?_
           simp only [Act.put, List.setIfInBounds_toArray, List.set_cons_zero, List.set_cons_succ])
    iterate 3
      first
        | (refine mv_free ?_ (Or.inl ⟨by rfl, ?_⟩) (⟨k0, k1⟩) ?_
           rotate_left 1
           · intro u
             go_simp
             try simp only [d1]
             try simp only [d2]
             try simp only [d3]
             try with_reducible rfl
           simp only [Act.put, List.setIfInBounds_toArray, List.set_cons_zero, List.set_cons_succ])
        | (refine mv_free _ (Or.inr ⟨by rfl, rfl⟩) (⟨k0, k1⟩) ?_
           simp only [Act.put, List.setIfInBounds_toArray, List.set_cons_zero, List.set_cons_succ])
    iterate 1
      first
        | (refine mv_take ?_ (Or.inl ⟨by rfl, ?_⟩) (⟨k0, k1⟩) ?_
           rotate_left 1
           · intro u hu
             (try dsimp only at hu)
             go_simp
             try with_reducible rfl
           simp only [Act.put, List.setIfInBounds_toArray, List.set_cons_zero, List.set_cons_succ])
        | (refine mv_take _ (Or.inr ⟨by rfl, rfl⟩) (⟨k0, k1⟩) ?_
           simp only [Act.put, List.setIfInBounds_toArray, List.set_cons_zero, List.set_cons_succ])
    iterate 2
      first
        | (refine mv_free ?_ (Or.inl ⟨by rfl, ?_⟩) (⟨k0, k1⟩) ?_
           rotate_left 1
           · intro u
             go_simp
             try simp only [d1]
             try simp only [d2]
             try simp only [d3]
             try with_reducible rfl
           simp only [Act.put, List.setIfInBounds_toArray, List.set_cons_zero, List.set_cons_succ])
        | (refine mv_free _ (Or.inr ⟨by rfl, rfl⟩) (⟨k0, k1⟩) ?_
           simp only [Act.put, List.setIfInBounds_toArray, List.set_cons_zero, List.set_cons_succ])
    refine mv_done ?_
    have m4 := Lib.hid m3.out.drew
    go_wp2_with fail
    refine region_moves (fun u => u.cell? ⟨w.heap.size, 0, none⟩ = some (.int .i64 x0) ∧ u.cell? ⟨w.heap.size, 1, none⟩ = some (.int .i64 x1)) [] [(.free, 0), (.take, 1), (.free, 3), (.take, 4), (.step, 2), (.step, 5), (.free, 6), (.free, 7)] _ (by kernel_rfl) (by kernel_rfl) (by kernel_rfl) (by kernel_rfl) (by decide) rfl (fun _ _ _ _ _ h => h) ?_
    simp only [List.filterMap_cons, List.filterMap_nil, List.getElem?_toArray, List.getElem?_cons_zero, List.getElem?_cons_succ, Option.map_some]
    iterate 1
      first
        | (refine mv_free ?_ (Or.inl ⟨by rfl, ?_⟩) (⟨k0, k1⟩) ?_
           rotate_left 1
           · intro u
             go_simp
             try simp only [d1]
             try simp only [d2]
             try simp only [d3]
             try with_reducible rfl
           simp only [Act.put, List.setIfInBounds_toArray, List.set_cons_zero, List.set_cons_succ])
        | (refine mv_free _ (Or.inr ⟨by rfl, rfl⟩) (⟨k0, k1⟩) ?_
           simp only [Act.put, List.setIfInBounds_toArray, List.set_cons_zero, List.set_cons_succ])
    iterate 1
      first
        | (refine mv_take ?_ (Or.inl ⟨by rfl, ?_⟩) (⟨k0, k1⟩) ?_
           rotate_left 1
           · intro u hu
             (try dsimp only at hu)
             go_simp
             try with_reducible rfl
           simp only [Act.put, List.setIfInBounds_toArray, List.set_cons_zero, List.set_cons_succ])
        | (refine mv_take _ (Or.inr ⟨by rfl, rfl⟩) (⟨k0, k1⟩) ?_
           simp only [Act.put, List.setIfInBounds_toArray, List.set_cons_zero, List.set_cons_succ])
    iterate 1
      first
        | (refine mv_free ?_ (Or.inl ⟨by rfl, ?_⟩) (⟨k0, k1⟩) ?_
           rotate_left 1
           · intro u
             go_simp
             try simp only [d1]
             try simp only [d2]
             try simp only [d3]
             try with_reducible rfl
           simp only [Act.put, List.setIfInBounds_toArray, List.set_cons_zero, List.set_cons_succ])
        | (refine mv_free _ (Or.inr ⟨by rfl, rfl⟩) (⟨k0, k1⟩) ?_
           simp only [Act.put, List.setIfInBounds_toArray, List.set_cons_zero, List.set_cons_succ])
    iterate 1
      first
        | (refine mv_take ?_ (Or.inl ⟨by rfl, ?_⟩) (⟨k0, k1⟩) ?_
           rotate_left 1
           · intro u hu
             (try dsimp only at hu)
             go_simp
             try with_reducible rfl
           simp only [Act.put, List.setIfInBounds_toArray, List.set_cons_zero, List.set_cons_succ])
        | (refine mv_take _ (Or.inr ⟨by rfl, rfl⟩) (⟨k0, k1⟩) ?_
           simp only [Act.put, List.setIfInBounds_toArray, List.set_cons_zero, List.set_cons_succ])
    refine mv_step (fun K hK => ?_)
    go_simp
    refine (P0.out _ m4.out.drew).mono ?_
    rintro e w6 ⟨rfl, m6, -⟩
    replace m6 := Lib.hid m6
    obtain ⟨k0, k1⟩ := hcs.out _ (m6.out.b.mono (Nat.le_of_eq hz.out.symm))
    go_wp2_with fail
    refine hK.out _ _ _ (fun u hu => hu) (⟨k0, k1⟩) ?_
    clear hK K
    refine mv_step (fun K hK => ?_)
    go_simp
    refine (P1.out _ m6.out).mono ?_
    rintro e w7 ⟨rfl, m7, -⟩
    replace m7 := Lib.hid m7
    obtain ⟨k0, k1⟩ := hcs.out _ (m7.out.b.mono (Nat.le_of_eq hz.out.symm))
    go_wp2_with fail
    refine hK.out _ _ _ (fun u hu => hu) (⟨k0, k1⟩) ?_
    clear hK K
    iterate 2
      first
        | (refine mv_free ?_ (Or.inl ⟨by rfl, ?_⟩) (⟨k0, k1⟩) ?_
           rotate_left 1
           · intro u
             go_simp
             try simp only [d1]
             try simp only [d2]
             try simp only [d3]
             try with_reducible rfl
           simp only [Act.put, List.setIfInBounds_toArray, List.set_cons_zero, List.set_cons_succ])
        | (refine mv_free _ (Or.inr ⟨by rfl, rfl⟩) (⟨k0, k1⟩) ?_
           simp only [Act.put, List.setIfInBounds_toArray, List.set_cons_zero, List.set_cons_succ])
    refine mv_done ?_
    go_wp2_with fail
    refine region_moves (fun u => u.cell? ⟨w.heap.size, 0, none⟩ = some (.int .i64 x0) ∧ u.cell? ⟨w.heap.size, 1, none⟩ = some (.int .i64 x1)) [] [(.free, 0), (.take, 1), (.free, 3), (.take, 4), (.step, 2), (.step, 5), (.free, 6), (.free, 7)] _ (by kernel_rfl) (by kernel_rfl) (by kernel_rfl) (by kernel_rfl) (by decide) rfl (fun _ _ _ _ _ h => h) ?_
    simp only [List.filterMap_cons, List.filterMap_nil, List.getElem?_toArray, List.getElem?_cons_zero, List.getElem?_cons_succ, Option.map_some]
    iterate 1
      first
        | (refine mv_free ?_ (Or.inl ⟨by rfl, ?_⟩) (⟨k0, k1⟩) ?_
           rotate_left 1
           · intro u
             go_simp
             try simp only [d1]
             try simp only [d2]
             try simp only [d3]
             try with_reducible rfl
           simp only [Act.put, List.setIfInBounds_toArray, List.set_cons_zero, List.set_cons_succ])
        | (refine mv_free _ (Or.inr ⟨by rfl, rfl⟩) (⟨k0, k1⟩) ?_
           simp only [Act.put, List.setIfInBounds_toArray, List.set_cons_zero, List.set_cons_succ])
    iterate 1
      first
        | (refine mv_take ?_ (Or.inl ⟨by rfl, ?_⟩) (⟨k0, k1⟩) ?_
           rotate_left 1
           · intro u hu
             (try dsimp only at hu)
             go_simp
             try with_reducible rfl
           simp only [Act.put, List.setIfInBounds_toArray, List.set_cons_zero, List.set_cons_succ])
        | (refine mv_take _ (Or.inr ⟨by rfl, rfl⟩) (⟨k0, k1⟩) ?_
           simp only [Act.put, List.setIfInBounds_toArray, List.set_cons_zero, List.set_cons_succ])
    iterate 1
      first
        | (refine mv_free ?_ (Or.inl ⟨by rfl, ?_⟩) (⟨k0, k1⟩) ?_
           rotate_left 1
           · intro u
             go_simp
             try simp only [d1]
             try simp only [d2]
             try simp only [d3]
             try with_reducible rfl
           simp only [Act.put, List.setIfInBounds_toArray, List.set_cons_zero, List.set_cons_succ])
        | (refine mv_free _ (Or.inr ⟨by rfl, rfl⟩) (⟨k0, k1⟩) ?_
           simp only [Act.put, List.setIfInBounds_toArray, List.set_cons_zero, List.set_cons_succ])
    iterate 1
      first
        | (refine mv_take ?_ (Or.inl ⟨by rfl, ?_⟩) (⟨k0, k1⟩) ?_
           rotate_left 1
           · intro u hu
             (try dsimp only at hu)
             go_simp
             try with_reducible rfl
           simp only [Act.put, List.setIfInBounds_toArray, List.set_cons_zero, List.set_cons_succ])
        | (refine mv_take _ (Or.inr ⟨by rfl, rfl⟩) (⟨k0, k1⟩) ?_
           simp only [Act.put, List.setIfInBounds_toArray, List.set_cons_zero, List.set_cons_succ])
    refine mv_step (fun K hK => ?_)
    go_simp
    refine (H0.out _ m7.out.drew).mono ?_
    rintro e w8 ⟨rfl, m8, -⟩
    replace m8 := Lib.hid m8
    obtain ⟨k0, k1⟩ := hcs.out _ (m8.out.b.mono (Nat.le_of_eq hz.out.symm))
    go_wp2_with fail
    refine hK.out _ _ _ (fun u hu => hu) (⟨k0, k1⟩) ?_
    clear hK K
    refine mv_step (fun K hK => ?_)
    go_simp
    refine (H1.out _ m8.out).mono ?_
    rintro e w9 ⟨rfl, m9, -⟩
    replace m9 := Lib.hid m9
    obtain ⟨k0, k1⟩ := hcs.out _ (m9.out.b.mono (Nat.le_of_eq hz.out.symm))
    go_wp2_with fail
    refine hK.out _ _ _ (fun u hu => hu) (⟨k0, k1⟩) ?_
    clear hK K
    iterate 2
      first
        | (refine mv_free ?_ (Or.inl ⟨by rfl, ?_⟩) (⟨k0, k1⟩) ?_
           rotate_left 1
           · intro u
             go_simp
             try simp only [d1]
             try simp only [d2]
             try simp only [d3]
             try with_reducible rfl
           simp only [Act.put, List.setIfInBounds_toArray, List.set_cons_zero, List.set_cons_succ])
        | (refine mv_free _ (Or.inr ⟨by rfl, rfl⟩) (⟨k0, k1⟩) ?_
           simp only [Act.put, List.setIfInBounds_toArray, List.set_cons_zero, List.set_cons_succ])
    refine mv_done ?_
    rcases (show x0 < x1 ∨ x0 = x1 ∨ x1 < x0 by omega) with q | q | q
    · have f1 := F1.out (by omega)
      obtain ⟨f1, f2⟩ := f1
      go_wp2_with fail
      refine (LV.out _).mono ?_
      rintro e w20 ⟨rfl, hb20⟩
      have m20 := Lib.hid (m9.out.bel hb20)
      clear hb20
      go_wp2
      go_ret
      exact ⟨rfl, hb0.out.trans (m20.out.b.mono (by have := hz.out; omega))⟩
    · obtain ⟨f1, f2⟩ := F2.out q
      subst q
      subst f1 f2
      go_wp2_with fail
      refine (LV.out _).mono ?_
      rintro e w20 ⟨rfl, hb20⟩
      have m20 := Lib.hid (m9.out.bel hb20)
      clear hb20
      go_wp2
      go_ret
      exact ⟨rfl, hb0.out.trans (m20.out.b.mono (by have := hz.out; omega))⟩
    · have f1 := F3.out (by omega)
      obtain ⟨f1, f2⟩ := f1
      go_wp2_with fail
      refine (LV.out _).mono ?_
      rintro e w20 ⟨rfl, hb20⟩
      have m20 := Lib.hid (m9.out.bel hb20)
      clear hb20
      go_wp2
      go_ret
      exact ⟨rfl, hb0.out.trans (m20.out.b.mono (by have := hz.out; omega))⟩
  · obtain ⟨j, rfl⟩ : ∃ j : Nat, k = (j : Int) := ⟨k.toNat, by omega⟩
    have c1 := s3.out.c j (by omega)
    have c2 := s3.out.c (j + 1) (by omega)
    have st := aS_step j (by omega)
    generalize aS j = X at *
    generalize aS (j + 1) = Y at *
    have i2 : IntKind.i64.wrap ((j : Int) + 1) = (j : Int) + 1 := by rw [IntKind.wrap_i64]; omega
    have i3 : ((j : Int) + 1).toNat = j + 1 := by omega
    have i4 : 0 ≤ (j : Int) + 1 := by omega
    have i5 : (j : Int) + 1 < 2101 := by omega
    have i6 : (j : Int) < 2101 := by omega
    have d1 : decide (0 ≤ (j : Int)) = true := by simp
    have d2 : decide ((j : Int) < 2100) = true := by simp; omega
    have d3 : decide (X ≤ Y) = false := by simp; omega
    have i7 : ¬ X ≤ Y := by omega
    go_wp2_with fail
    refine region_moves (fun u => u.cell? ⟨g, off + (j + 1), none⟩ = some (.int .i64 Y) ∧ u.cell? ⟨g, off + j, none⟩ = some (.int .i64 X)) [] [(.free, 0), (.free, 1), (.free, 2), (.free, 3), (.free, 4), (.free, 5), (.free, 6), (.free, 7), (.free, 8), (.free, 9), (.free, 10), (.take, 11), (.free, 12), (.free, 13), (.free, 14), (.take, 15), (.free, 16), (.free, 17)] _ (by kernel_rfl) (by kernel_rfl) (by kernel_rfl) (by kernel_rfl) (by decide) rfl (fun _ _ _ _ _ h => h) ?_
    simp only [List.filterMap_cons, List.filterMap_nil, List.getElem?_toArray, List.getElem?_cons_zero, List.getElem?_cons_succ, Option.map_some]
    iterate 11
      first
        | (refine mv_free ?_ (Or.inl ⟨by rfl, ?_⟩) (⟨c2, c1⟩) ?_
           rotate_left 1
           · intro u
             go_simp
             try simp only [d1]
             try simp only [d2]
             try simp only [d3]
             try with_reducible rfl
           simp only [Act.put, List.setIfInBounds_toArray, List.set_cons_zero, List.set_cons_succ])
        | (refine mv_free _ (Or.inr ⟨by rfl, rfl⟩) (⟨c2, c1⟩) ?_
           simp only [Act.put, List.setIfInBounds_toArray, List.set_cons_zero, List.set_cons_succ])
    iterate 1
      first
        | (refine mv_take ?_ (Or.inl ⟨by rfl, ?_⟩) (⟨c2, c1⟩) ?_
           rotate_left 1
           · intro u hu
             (try dsimp only at hu)
             go_simp
             try with_reducible rfl
           simp only [Act.put, List.setIfInBounds_toArray, List.set_cons_zero, List.set_cons_succ])
        | (refine mv_take _ (Or.inr ⟨by rfl, rfl⟩) (⟨c2, c1⟩) ?_
           simp only [Act.put, List.setIfInBounds_toArray, List.set_cons_zero, List.set_cons_succ])
    iterate 3
      first
        | (refine mv_free ?_ (Or.inl ⟨by rfl, ?_⟩) (⟨c2, c1⟩) ?_
           rotate_left 1
           · intro u
             go_simp
             try simp only [d1]
             try simp only [d2]
             try simp only [d3]
             try with_reducible rfl
           simp only [Act.put, List.setIfInBounds_toArray, List.set_cons_zero, List.set_cons_succ])
        | (refine mv_free _ (Or.inr ⟨by rfl, rfl⟩) (⟨c2, c1⟩) ?_
           simp only [Act.put, List.setIfInBounds_toArray, List.set_cons_zero, List.set_cons_succ])
    iterate 1
      first
        | (refine mv_take ?_ (Or.inl ⟨by rfl, ?_⟩) (⟨c2, c1⟩) ?_
           rotate_left 1
           · intro u hu
             (try dsimp only at hu)
             go_simp
             try with_reducible rfl
           simp only [Act.put, List.setIfInBounds_toArray, List.set_cons_zero, List.set_cons_succ])
        | (refine mv_take _ (Or.inr ⟨by rfl, rfl⟩) (⟨c2, c1⟩) ?_
           simp only [Act.put, List.setIfInBounds_toArray, List.set_cons_zero, List.set_cons_succ])
    iterate 2
      first
        | (refine mv_free ?_ (Or.inl ⟨by rfl, ?_⟩) (⟨c2, c1⟩) ?_
           rotate_left 1
           · intro u
             go_simp
             try simp only [d1]
             try simp only [d2]
             try simp only [d3]
             try with_reducible rfl
           simp only [Act.put, List.setIfInBounds_toArray, List.set_cons_zero, List.set_cons_succ])
        | (refine mv_free _ (Or.inr ⟨by rfl, rfl⟩) (⟨c2, c1⟩) ?_
           simp only [Act.put, List.setIfInBounds_toArray, List.set_cons_zero, List.set_cons_succ])
    refine mv_done ?_
    have m4 := Lib.hid m3.out.drew
    go_wp2_with fail
    refine region_moves (fun u => u.cell? ⟨w.heap.size, 0, none⟩ = some (.int .i64 x0) ∧ u.cell? ⟨w.heap.size, 1, none⟩ = some (.int .i64 x1)) [] [(.free, 0), (.take, 1), (.free, 3), (.take, 4), (.step, 2), (.step, 5), (.free, 6), (.free, 7)] _ (by kernel_rfl) (by kernel_rfl) (by kernel_rfl) (by kernel_rfl) (by decide) rfl (fun _ _ _ _ _ h => h) ?_
    simp only [List.filterMap_cons, List.filterMap_nil, List.getElem?_toArray, List.getElem?_cons_zero, List.getElem?_cons_succ, Option.map_some]
    iterate 1
      first
        | (refine mv_free ?_ (Or.inl ⟨by rfl, ?_⟩) (⟨k0, k1⟩) ?_
           rotate_left 1
           · intro u
             go_simp
             try simp only [d1]
             try simp only [d2]
             try simp only [d3]
             try with_reducible rfl
           simp only [Act.put, List.setIfInBounds_toArray, List.set_cons_zero, List.set_cons_succ])
        | (refine mv_free _ (Or.inr ⟨by rfl, rfl⟩) (⟨k0, k1⟩) ?_
           simp only [Act.put, List.setIfInBounds_toArray, List.set_cons_zero, List.set_cons_succ])
    iterate 1
      first
        | (refine mv_take ?_ (Or.inl ⟨by rfl, ?_⟩) (⟨k0, k1⟩) ?_
           rotate_left 1
           · intro u hu
             (try dsimp only at hu)
             go_simp
             try with_reducible rfl
           simp only [Act.put, List.setIfInBounds_toArray, List.set_cons_zero, List.set_cons_succ])
        | (refine mv_take _ (Or.inr ⟨by rfl, rfl⟩) (⟨k0, k1⟩) ?_
           simp only [Act.put, List.setIfInBounds_toArray, List.set_cons_zero, List.set_cons_succ])
    iterate 1
      first
        | (refine mv_free ?_ (Or.inl ⟨by rfl, ?_⟩) (⟨k0, k1⟩) ?_
           rotate_left 1
           · intro u
             go_simp
             try simp only [d1]
             try simp only [d2]
             try simp only [d3]
             try with_reducible rfl
           simp only [Act.put, List.setIfInBounds_toArray, List.set_cons_zero, List.set_cons_succ])
        | (refine mv_free _ (Or.inr ⟨by rfl, rfl⟩) (⟨k0, k1⟩) ?_
           simp only [Act.put, List.setIfInBounds_toArray, List.set_cons_zero, List.set_cons_succ])
    iterate 1
      first
        | (refine mv_take ?_ (Or.inl ⟨by rfl, ?_⟩) (⟨k0, k1⟩) ?_
           rotate_left 1
           · intro u hu
             (try dsimp only at hu)
             go_simp
             try with_reducible rfl
           simp only [Act.put, List.setIfInBounds_toArray, List.set_cons_zero, List.set_cons_succ])
        | (refine mv_take _ (Or.inr ⟨by rfl, rfl⟩) (⟨k0, k1⟩) ?_
           simp only [Act.put, List.setIfInBounds_toArray, List.set_cons_zero, List.set_cons_succ])
    refine mv_step (fun K hK => ?_)
    go_simp
    refine (P0.out _ m4.out.drew).mono ?_
    rintro e w6 ⟨rfl, m6, -⟩
    replace m6 := Lib.hid m6
    obtain ⟨k0, k1⟩ := hcs.out _ (m6.out.b.mono (Nat.le_of_eq hz.out.symm))
    go_wp2_with fail
    refine hK.out _ _ _ (fun u hu => hu) (⟨k0, k1⟩) ?_
    clear hK K
    refine mv_step (fun K hK => ?_)
    go_simp
    refine (P1.out _ m6.out).mono ?_
    rintro e w7 ⟨rfl, m7, -⟩
    replace m7 := Lib.hid m7
    obtain ⟨k0, k1⟩ := hcs.out _ (m7.out.b.mono (Nat.le_of_eq hz.out.symm))
    go_wp2_with fail
    refine hK.out _ _ _ (fun u hu => hu) (⟨k0, k1⟩) ?_
    clear hK K
    iterate 2
      first
        | (refine mv_free ?_ (Or.inl ⟨by rfl, ?_⟩) (⟨k0, k1⟩) ?_
           rotate_left 1
           · intro u
             go_simp
             try simp only [d1]
             try simp only [d2]
             try simp only [d3]
             try with_reducible rfl
           simp only [Act.put, List.setIfInBounds_toArray, List.set_cons_zero, List.set_cons_succ])
        | (refine mv_free _ (Or.inr ⟨by rfl, rfl⟩) (⟨k0, k1⟩) ?_
           simp only [Act.put, List.setIfInBounds_toArray, List.set_cons_zero, List.set_cons_succ])
    refine mv_done ?_
    go_wp2_with fail
    refine region_moves (fun u => u.cell? ⟨w.heap.size, 0, none⟩ = some (.int .i64 x0) ∧ u.cell? ⟨w.heap.size, 1, none⟩ = some (.int .i64 x1)) [] [(.free, 0), (.take, 1), (.free, 3), (.take, 4), (.step, 2), (.step, 5), (.free, 6), (.free, 7)] _ (by kernel_rfl) (by kernel_rfl) (by kernel_rfl) (by kernel_rfl) (by decide) rfl (fun _ _ _ _ _ h => h) ?_
    simp only [List.filterMap_cons, List.filterMap_nil, List.getElem?_toArray, List.getElem?_cons_zero, List.getElem?_cons_succ, Option.map_some]
    iterate 1
      first
        | (refine mv_free ?_ (Or.inl ⟨by rfl, ?_⟩) (⟨k0, k1⟩) ?_
           rotate_left 1
           · intro u
             go_simp
             try simp only [d1]
             try simp only [d2]
             try simp only [d3]
             try with_reducible rfl
           simp only [Act.put, List.setIfInBounds_toArray, List.set_cons_zero, List.set_cons_succ])
        | (refine mv_free _ (Or.inr ⟨by rfl, rfl⟩) (⟨k0, k1⟩) ?_
           simp only [Act.put, List.setIfInBounds_toArray, List.set_cons_zero, List.set_cons_succ])
    iterate 1
      first
        | (refine mv_take ?_ (Or.inl ⟨by rfl, ?_⟩) (⟨k0, k1⟩) ?_
           rotate_left 1
           · intro u hu
             (try dsimp only at hu)
             go_simp
             try with_reducible rfl
           simp only [Act.put, List.setIfInBounds_toArray, List.set_cons_zero, List.set_cons_succ])
        | (refine mv_take _ (Or.inr ⟨by rfl, rfl⟩) (⟨k0, k1⟩) ?_
           simp only [Act.put, List.setIfInBounds_toArray, List.set_cons_zero, List.set_cons_succ])
    iterate 1
      first
        | (refine mv_free ?_ (Or.inl ⟨by rfl, ?_⟩) (⟨k0, k1⟩) ?_
           rotate_left 1
           · intro u
             go_simp
             try simp only [d1]
             try simp only [d2]
             try simp only [d3]
             try with_reducible rfl
           simp only [Act.put, List.setIfInBounds_toArray, List.set_cons_zero, List.set_cons_succ])
        | (refine mv_free _ (Or.inr ⟨by rfl, rfl⟩) (⟨k0, k1⟩) ?_
           simp only [Act.put, List.setIfInBounds_toArray, List.set_cons_zero, List.set_cons_succ])
    iterate 1
      first
        | (refine mv_take ?_ (Or.inl ⟨by rfl, ?_⟩) (⟨k0, k1⟩) ?_
           rotate_left 1
           · intro u hu
             (try dsimp only at hu)
             go_simp
             try with_reducible rfl
           simp only [Act.put, List.setIfInBounds_toArray, List.set_cons_zero, List.set_cons_succ])
        | (refine mv_take _ (Or.inr ⟨by rfl, rfl⟩) (⟨k0, k1⟩) ?_
           simp only [Act.put, List.setIfInBounds_toArray, List.set_cons_zero, List.set_cons_succ])
    refine mv_step (fun K hK => ?_)
    go_simp
    refine (H0.out _ m7.out.drew).mono ?_
    rintro e w8 ⟨rfl, m8, -⟩
    replace m8 := Lib.hid m8
    obtain ⟨k0, k1⟩ := hcs.out _ (m8.out.b.mono (Nat.le_of_eq hz.out.symm))
    go_wp2_with fail
    refine hK.out _ _ _ (fun u hu => hu) (⟨k0, k1⟩) ?_
    clear hK K
    refine mv_step (fun K hK => ?_)
    go_simp
    refine (H1.out _ m8.out).mono ?_
    rintro e w9 ⟨rfl, m9, -⟩
    replace m9 := Lib.hid m9
    obtain ⟨k0, k1⟩ := hcs.out _ (m9.out.b.mono (Nat.le_of_eq hz.out.symm))
    go_wp2_with fail
    refine hK.out _ _ _ (fun u hu => hu) (⟨k0, k1⟩) ?_
    clear hK K
    iterate 2
      first
        | (refine mv_free ?_ (Or.inl ⟨by rfl, ?_⟩) (⟨k0, k1⟩) ?_
           rotate_left 1
           · intro u
             go_simp
             try simp only [d1]
             try simp only [d2]
             try simp only [d3]
             try with_reducible rfl
           simp only [Act.put, List.setIfInBounds_toArray, List.set_cons_zero, List.set_cons_succ])
        | (refine mv_free _ (Or.inr ⟨by rfl, rfl⟩) (⟨k0, k1⟩) ?_
           simp only [Act.put, List.setIfInBounds_toArray, List.set_cons_zero, List.set_cons_succ])
    refine mv_done ?_
    rcases (show x0 < x1 ∨ x0 = x1 ∨ x1 < x0 by omega) with q | q | q
    · have f1 := F1.out (by omega)
      obtain ⟨f1, f2⟩ := f1
      go_wp2_with fail
      refine (LV.out _).mono ?_
      rintro e w20 ⟨rfl, hb20⟩
      have m20 := Lib.hid (m9.out.bel hb20)
      clear hb20
      go_wp2
      go_ret
      exact ⟨rfl, hb0.out.trans (m20.out.b.mono (by have := hz.out; omega))⟩
    · obtain ⟨f1, f2⟩ := F2.out q
      subst q
      subst f1 f2
      go_wp2_with fail
      refine (LV.out _).mono ?_
      rintro e w20 ⟨rfl, hb20⟩
      have m20 := Lib.hid (m9.out.bel hb20)
      clear hb20
      go_wp2
      go_ret
      exact ⟨rfl, hb0.out.trans (m20.out.b.mono (by have := hz.out; omega))⟩
    · have f1 := F3.out (by omega)
      obtain ⟨f1, f2⟩ := f1
      go_wp2_with fail
      refine (LV.out _).mono ?_
      rintro e w20 ⟨rfl, hb20⟩
      have m20 := Lib.hid (m9.out.bel hb20)
      clear hb20
      go_wp2
      go_ret
      exact ⟨rfl, hb0.out.trans (m20.out.b.mono (by have := hz.out; omega))⟩
set_option maxRecDepth 100000 in
set_option maxHeartbeats 8000000 in
theorem law_AirSteps (times h : Int) (w : World) : Calls Try.prog 3 #[.int .i64 times, .int .i64 h] w fun e w' => e = .returned (.bool true) ∧ Below w.heap.size w w' := by
  have LV := Lib.hid (fun u => lives07 u)
  have RS := Lib.hid (rsteps w)
  have SN := Lib.hid (fun u => asteps_nil u)
  have PN := Lib.hid (fun u => apress_nil h u)
  have HN := Lib.hid (fun u => aheight_nil h u)
  go_enter Try.func3, Try.ntmps3
  go_upto_region 2 with (first | (refine RS.out.mono ?_; rintro e w1 ⟨x, L, rfl, hO, hL, hb1⟩))
  obtain ⟨a0, cap0, rfl, hr, -⟩ := hO.row
  obtain ⟨g0, off0, rfl, cl⟩ := hL.cell hr
  have hlt0 : g0 < w1.heap.size := by
    rcases hr with e | ⟨g', off', e, hl, _⟩
    · have := hL.len; rw [e] at this; cases this
    · injection e with e; injection e with e1 e2; rw [e1]; exact hl
  have CL := Lib.hid (fun u (k : Below w1.heap.size w1 u) i (hi : i < 2101) => (k.cell (p := ⟨g0, off0 + i, none⟩) hlt0).trans (cl i hi))
  rw [hL.len]
  clear hO hr hL cl hlt0 RS
  obtain ⟨Z, U, hZ, eU, mU⟩ := air_newW w1
  have AS := Lib.hid (fun u m => astepsW w1 u m)
  replace eU := Lib.hid eU
  replace mU := Lib.hid mU
  replace hb1 := Lib.hid hb1
  go_wp2_with fail
  rw [← eU.out]
  go_loopw [8] (fun i v => ∃ k : Nat, k ≤ 4 ∧ i = .int .i64 (k : Int) ∧ Hid (AirW w1 v)) (fun i _ => 4 - (intOf i).toNat)
  case atStart => exact ⟨0, by omega, rfl, mU⟩
  case round =>
    clear mU eU
    obtain ⟨k, hk, rfl, m2⟩ := hrel
    by_cases hgo : k = 0 ∨ ((k : Int) < times ∧ k < 4)
    · have HD : ∀ X : Prop, X → X := fun _ x => x
      have k4 : k < 4 := by omega
      have split : (k = 0) ∨ (k ≠ 0 ∧ (k : Int) < times) := by omega
      rcases split with rfl | ⟨z, z2⟩
      all_goals
        (try have z0 : ((k : Int) == 0) = false := by simp; omega)
        (try have z1 : ¬ (k : Int) = 0 := by omega)
        (try have z3 : (k : Int) < 4 := by omega)
        go_wp2_with fail
        refine (AS.out _ m2.out).mono ?_
        rintro e w3 ⟨g, off, cap, rfl, s3, m3, -⟩
        replace m3 := Lib.hid m3
        replace s3 := Lib.hid s3
        go_wp2_with fail
        go_loopw [10] (fun i v => ∃ j : Nat, j ≤ 2101 ∧ i = .int .i64 (j : Int) ∧ Hid (AirW w1 v ∧ StC w1 g off v)) (fun i _ => 2101 - (intOf i).toNat)
        case atStart => exact ⟨0, by omega, rfl, Lib.hid ⟨m3.out, s3.out⟩⟩
        case round =>
          clear m3 s3
          obtain ⟨j, hj, rfl, mS⟩ := hrel
          by_cases hlt : j < 2101
          · have c1 := mS.out.2.c j hlt
            have c2 := CL.out _ mS.out.1.b j hlt
            have j1 : (j : Int) < 2101 := by omega
            have j0 : 0 ≤ (j : Int) := by omega
            generalize aS j = X at *
            have d1 : (X != X) = false := by simp
            go_wp2_with fail
            refine region_moves (fun u => u.cell? ⟨g, off + j, none⟩ = some (.int .i64 X) ∧ u.cell? ⟨g0, off0 + j, none⟩ = some (.int .i64 X)) [] [(.free, 0), (.free, 1), (.free, 2), (.take, 3), (.free, 4), (.free, 5), (.free, 6), (.take, 7), (.free, 8)] _ (by kernel_rfl) (by kernel_rfl) (by kernel_rfl) (by kernel_rfl) (by decide) rfl (fun _ _ _ _ _ h => h) ?_
            simp only [List.filterMap_cons, List.filterMap_nil, List.getElem?_toArray, List.getElem?_cons_zero, List.getElem?_cons_succ, Option.map_some]
            iterate 3
              first
                | (refine mv_free ?_ (Or.inl ⟨by rfl, ?_⟩) (⟨c1, c2⟩) ?_
                   rotate_left 1
                   · intro u
                     go_simp
                     try simp only [d1]
                     try simp only [d2]
                     try simp only [d3]
                     try with_reducible rfl
                   simp only [Act.put, List.setIfInBounds_toArray, List.set_cons_zero, List.set_cons_succ])
                | (refine mv_free _ (Or.inr ⟨by rfl, rfl⟩) (⟨c1, c2⟩) ?_
                   simp only [Act.put, List.setIfInBounds_toArray, List.set_cons_zero, List.set_cons_succ])
            iterate 1
              first
                | (refine mv_take ?_ (Or.inl ⟨by rfl, ?_⟩) (⟨c1, c2⟩) ?_
                   rotate_left 1
                   · intro u hu
                     (try dsimp only at hu)
                     go_simp
                     try with_reducible rfl
                   simp only [Act.put, List.setIfInBounds_toArray, List.set_cons_zero, List.set_cons_succ])
                | (refine mv_take _ (Or.inr ⟨by rfl, rfl⟩) (⟨c1, c2⟩) ?_
                   simp only [Act.put, List.setIfInBounds_toArray, List.set_cons_zero, List.set_cons_succ])
            iterate 3
              first
                | (refine mv_free ?_ (Or.inl ⟨by rfl, ?_⟩) (⟨c1, c2⟩) ?_
                   rotate_left 1
                   · intro u
                     go_simp
                     try simp only [d1]
                     try simp only [d2]
                     try simp only [d3]
                     try with_reducible rfl
                   simp only [Act.put, List.setIfInBounds_toArray, List.set_cons_zero, List.set_cons_succ])
                | (refine mv_free _ (Or.inr ⟨by rfl, rfl⟩) (⟨c1, c2⟩) ?_
                   simp only [Act.put, List.setIfInBounds_toArray, List.set_cons_zero, List.set_cons_succ])
            iterate 1
              first
                | (refine mv_take ?_ (Or.inl ⟨by rfl, ?_⟩) (⟨c1, c2⟩) ?_
                   rotate_left 1
                   · intro u hu
                     (try dsimp only at hu)
                     go_simp
                     try with_reducible rfl
                   simp only [Act.put, List.setIfInBounds_toArray, List.set_cons_zero, List.set_cons_succ])
                | (refine mv_take _ (Or.inr ⟨by rfl, rfl⟩) (⟨c1, c2⟩) ?_
                   simp only [Act.put, List.setIfInBounds_toArray, List.set_cons_zero, List.set_cons_succ])
            iterate 1
              first
                | (refine mv_free ?_ (Or.inl ⟨by rfl, ?_⟩) (⟨c1, c2⟩) ?_
                   rotate_left 1
                   · intro u
                     go_simp
                     try simp only [d1]
                     try simp only [d2]
                     try simp only [d3]
                     try with_reducible rfl
                   simp only [Act.put, List.setIfInBounds_toArray, List.set_cons_zero, List.set_cons_succ])
                | (refine mv_free _ (Or.inr ⟨by rfl, rfl⟩) (⟨c1, c2⟩) ?_
                   simp only [Act.put, List.setIfInBounds_toArray, List.set_cons_zero, List.set_cons_succ])
            refine mv_done ?_
            go_wp2
            go_roundw
            case rel => exact ⟨j + 1, by omega, by go_num, Lib.hid ⟨mS.out.1.drew, mS.out.2.drew⟩⟩
            case measure => simp [intOf]; omega
          · obtain rfl : j = 2101 := by omega
            have m5 := Lib.hid mS.out.1
            clear mS
            go_wp2
            go_roundw
            case rel => first | exact ⟨1, by omega, by go_num, m5⟩ | exact ⟨k + 1, by omega, by go_num, m5⟩
            case measure => simp [intOf] <;> omega
    · have z1 : ¬ (k : Int) = 0 := by omega
      have z0 : ((k : Int) == 0) = false := by simp; omega
      rcases (show times ≤ (k : Int) ∨ ((k : Int) < times ∧ 4 ≤ (k : Int)) by omega) with z2 | ⟨z2, z3⟩
      all_goals
        go_wp2_with fail
        refine (SN.out _).mono ?_
        rintro e w3 ⟨rfl, rfl⟩
        go_wp2_with fail
        refine (PN.out _).mono ?_
        rintro e w3 ⟨rfl, rfl⟩
        go_wp2_with fail
        refine (HN.out _).mono ?_
        rintro e w3 ⟨rfl, hb3⟩
        have m3 := Lib.hid (m2.out.bel hb3)
        clear hb3
        go_wp2_with fail
        refine (LV.out _).mono ?_
        rintro e w20 ⟨rfl, hb20⟩
        have m20 := Lib.hid (m3.out.bel hb20)
        clear hb20
        go_wp2
        go_ret
        exact ⟨rfl, hb1.out.trans (m20.out.b.mono hb1.out.size)⟩
end Go.Proofs.Ytlgiefdhjhijaaa
