/- The law HeatCooler, walked. -/
import Derived.Test.YtigplknmfdjjaaaHeat1
namespace Go.Proofs.Ytigplknmfdjjaaa
open Go.ChangeShapes Go.WideShapes Go.ChangeAt Go.RowKit
set_option linter.unusedVariables false
set_option linter.unusedSimpArgs false

set_option maxRecDepth 100000 in
set_option maxHeartbeats 4000000 in
theorem law_HeatCooler (t0 t1 m0 m1 r : Int) (w : World) : Calls Try.prog 4 #[.agg #[.int .i64 t0, .int .i64 t1], .agg #[.int .i64 m0, .int .i64 m1], .int .i64 r] w fun e w' => e = .returned (.bool true) ∧ Below w.heap.size w w' := by
  by_cases hin : 1 ≤ t0 ∧ t1 ≤ 1000000 ∧ t0 ≤ t1 ∧ m0 ≤ m1
  · obtain ⟨h1, h2, h3, h4⟩ := hin
    have hT := htT_id h1 (by omega)
    have a1 := htS_bd t0 m0 r
    have a2 := htU_bd t0 m0 r
    rw [hT] at a1 a2
    have a3 : htS t0 0 r = t0 := by unfold htS; rw [hT, htH_rest]; omega
    have a4 : htU t0 m0 0 = t0 := by unfold htU; rw [hT, htH_no]; omega
    have a5 := htS_anti t0 r h4
    have a6 := htS_mono (s := t0) (t := t1) m0 r h3
    have S1 := Lib.hid (fun u => hstatic_any t0 m0 r u)
    have S2 := fun u => hstatic_any t0 0 r u
    rw [a3] at S2
    replace S2 := Lib.hid S2
    have S3 := Lib.hid (fun u => hstatic_any t0 m1 r u)
    have S4 := Lib.hid (fun u => hstatic_any t1 m0 r u)
    have T1 := Lib.hid (fun u => htotal_any t0 m0 r u)
    have T2 := fun u => htotal_any t0 m0 0 u
    rw [a4] at T2
    replace T2 := Lib.hid T2
    have R1 := fun u => hram_any t0 m0 r u
    rw [hT] at R1
    replace R1 := Lib.hid R1
    clear a3 a4 hT
    generalize htS t0 m0 r = A at *
    generalize htS t0 m1 r = B at *
    generalize htS t1 m0 r = C at *
    generalize htU t0 m0 r = D at *
    have dq0 : decide (t0 < A) = false := decide_eq_false (by omega)
    have dq1 : decide (D < t0) = false := decide_eq_false (by omega)
    have dq2 : decide (D - t0 < 0) = false := decide_eq_false (by omega)
    have dq3 : decide (B ≤ A) = true := decide_eq_true (by omega)
    have dq4 : decide (A ≤ C) = true := decide_eq_true (by omega)
    have hcells : ∀ u, Below (w.heap.size + 2) ((w.alloc (.cells #[.int .i64 t0, .int .i64 t1] 22)).alloc (.cells #[.int .i64 m0, .int .i64 m1] 22)) u → u.cell? ⟨w.heap.size, 0, none⟩ = some (.int .i64 t0) ∧ u.cell? ⟨w.heap.size, 1, none⟩ = some (.int .i64 t1) ∧ u.cell? ⟨w.heap.size + 1, 0, none⟩ = some (.int .i64 m0) ∧ u.cell? ⟨w.heap.size + 1, 1, none⟩ = some (.int .i64 m1) := fun u hu =>
      ⟨(bc hu (by omega)).trans (by go_simp), (bc hu (by omega)).trans (by go_simp), (bc hu (by omega)).trans (by go_simp), (bc hu (by omega)).trans (by go_simp)⟩
    have hcells := Lib.hid hcells
    have hb0 : Below w.heap.size w ((w.alloc (.cells #[.int .i64 t0, .int .i64 t1] 22)).alloc (.cells #[.int .i64 m0, .int .i64 m1] 22)) := (by repeat (first | exact Below.refl _ _ | assumption | apply Below.drew | apply below_drewN | (refine Below.alloc ?_ (by first | exact Nat.le_refl _ | omega | (simp <;> omega)) _) | (refine Below.setCell ?_ (by first | exact Nat.le_refl _ | omega | (simp <;> omega)) _)))
    have B0 := Below.refl (w.heap.size + 2) ((w.alloc (.cells #[.int .i64 t0, .int .i64 t1] 22)).alloc (.cells #[.int .i64 m0, .int .i64 m1] 22))
    have z0 : w.heap.size + 2 = ((w.alloc (.cells #[.int .i64 t0, .int .i64 t1] 22)).alloc (.cells #[.int .i64 m0, .int .i64 m1] 22)).heap.size := by simp
    replace hb0 := Lib.hid hb0
    replace B0 := Lib.hid B0
    replace z0 := Lib.hid z0
    go_enter Try.func4, Try.ntmps4
    go_wp2_with fail
    replace hb0 := hb0.out
    replace B0 := B0.out
    generalize (w.alloc (.cells #[.int .i64 t0, .int .i64 t1] 22)).alloc (.cells #[.int .i64 m0, .int .i64 m1] 22) = V at *
    obtain ⟨k0, k1, k2, k3⟩ := hcells.out _ B0
    refine region_moves (fun u => u.cell? ⟨w.heap.size, 0, none⟩ = some (.int .i64 t0) ∧ u.cell? ⟨w.heap.size, 1, none⟩ = some (.int .i64 t1) ∧ u.cell? ⟨w.heap.size + 1, 0, none⟩ = some (.int .i64 m0) ∧ u.cell? ⟨w.heap.size + 1, 1, none⟩ = some (.int .i64 m1)) [] [(.free, 0), (.take, 1), (.free, 2), (.take, 3), (.free, 4), (.free, 6), (.take, 7), (.step, 5), (.free, 8), (.free, 9), (.free, 10), (.take, 11), (.free, 12), (.take, 13), (.free, 14), (.free, 16), (.take, 17), (.step, 15), (.free, 18), (.free, 19), (.free, 20), (.free, 21), (.take, 22), (.free, 23), (.take, 24), (.free, 25), (.step, 26), (.free, 27), (.free, 28)] _ (by kernel_rfl) (by kernel_rfl) (by kernel_rfl) (by kernel_rfl) (by decide) rfl (fun _ _ _ _ _ h => h) ?_
    simp only [List.filterMap_cons, List.filterMap_nil, List.getElem?_toArray, List.getElem?_cons_zero, List.getElem?_cons_succ, Option.map_some]
    iterate 1
      first
        | (refine mv_free ?_ (Or.inl ⟨by rfl, ?_⟩) (⟨k0, k1, k2, k3⟩) ?_
           rotate_left 1
           · intro u
             go_simp
             try simp only [dq0]
             try simp only [dq1]
             try simp only [dq2]
             try simp only [dq3]
             try simp only [dq4]
             try simp only [dq5]
             try simp only [dq6]
             try with_reducible rfl
           simp only [Act.put, List.setIfInBounds_toArray, List.set_cons_zero, List.set_cons_succ])
        | (refine mv_free _ (Or.inr ⟨by rfl, rfl⟩) (⟨k0, k1, k2, k3⟩) ?_
           simp only [Act.put, List.setIfInBounds_toArray, List.set_cons_zero, List.set_cons_succ])
    iterate 1
      first
        | (refine mv_take ?_ (Or.inl ⟨by rfl, ?_⟩) (⟨k0, k1, k2, k3⟩) ?_
           rotate_left 1
           · intro u hu
             (try dsimp only at hu)
             go_simp
             try with_reducible rfl
           simp only [Act.put, List.setIfInBounds_toArray, List.set_cons_zero, List.set_cons_succ])
        | (refine mv_take _ (Or.inr ⟨by rfl, rfl⟩) (⟨k0, k1, k2, k3⟩) ?_
           simp only [Act.put, List.setIfInBounds_toArray, List.set_cons_zero, List.set_cons_succ])
    iterate 1
      first
        | (refine mv_free ?_ (Or.inl ⟨by rfl, ?_⟩) (⟨k0, k1, k2, k3⟩) ?_
           rotate_left 1
           · intro u
             go_simp
             try simp only [dq0]
             try simp only [dq1]
             try simp only [dq2]
             try simp only [dq3]
             try simp only [dq4]
             try simp only [dq5]
             try simp only [dq6]
             try with_reducible rfl
           simp only [Act.put, List.setIfInBounds_toArray, List.set_cons_zero, List.set_cons_succ])
        | (refine mv_free _ (Or.inr ⟨by rfl, rfl⟩) (⟨k0, k1, k2, k3⟩) ?_
           simp only [Act.put, List.setIfInBounds_toArray, List.set_cons_zero, List.set_cons_succ])
    iterate 1
      first
        | (refine mv_take ?_ (Or.inl ⟨by rfl, ?_⟩) (⟨k0, k1, k2, k3⟩) ?_
           rotate_left 1
           · intro u hu
             (try dsimp only at hu)
             go_simp
             try with_reducible rfl
           simp only [Act.put, List.setIfInBounds_toArray, List.set_cons_zero, List.set_cons_succ])
        | (refine mv_take _ (Or.inr ⟨by rfl, rfl⟩) (⟨k0, k1, k2, k3⟩) ?_
           simp only [Act.put, List.setIfInBounds_toArray, List.set_cons_zero, List.set_cons_succ])
    iterate 2
      first
        | (refine mv_free ?_ (Or.inl ⟨by rfl, ?_⟩) (⟨k0, k1, k2, k3⟩) ?_
           rotate_left 1
           · intro u
             go_simp
             try simp only [dq0]
             try simp only [dq1]
             try simp only [dq2]
             try simp only [dq3]
             try simp only [dq4]
             try simp only [dq5]
             try simp only [dq6]
             try with_reducible rfl
           simp only [Act.put, List.setIfInBounds_toArray, List.set_cons_zero, List.set_cons_succ])
        | (refine mv_free _ (Or.inr ⟨by rfl, rfl⟩) (⟨k0, k1, k2, k3⟩) ?_
           simp only [Act.put, List.setIfInBounds_toArray, List.set_cons_zero, List.set_cons_succ])
    iterate 1
      first
        | (refine mv_take ?_ (Or.inl ⟨by rfl, ?_⟩) (⟨k0, k1, k2, k3⟩) ?_
           rotate_left 1
           · intro u hu
             (try dsimp only at hu)
             go_simp
             try with_reducible rfl
           simp only [Act.put, List.setIfInBounds_toArray, List.set_cons_zero, List.set_cons_succ])
        | (refine mv_take _ (Or.inr ⟨by rfl, rfl⟩) (⟨k0, k1, k2, k3⟩) ?_
           simp only [Act.put, List.setIfInBounds_toArray, List.set_cons_zero, List.set_cons_succ])
    refine mv_step (fun K hK => ?_)
    go_simp
    refine (S1.out _).mono ?_
    rintro e w1 ⟨rfl, b1⟩
    go_wp2_with fail
    have B1 := B0.drew.trans (b1.mono (Nat.le_of_eq z0.out))
    obtain ⟨k0, k1, k2, k3⟩ := hcells.out _ B1
    refine hK.out _ _ _ (fun u hu => hu) (⟨k0, k1, k2, k3⟩) ?_
    clear hK K
    iterate 3
      first
        | (refine mv_free ?_ (Or.inl ⟨by rfl, ?_⟩) (⟨k0, k1, k2, k3⟩) ?_
           rotate_left 1
           · intro u
             go_simp
             try simp only [dq0]
             try simp only [dq1]
             try simp only [dq2]
             try simp only [dq3]
             try simp only [dq4]
             try simp only [dq5]
             try simp only [dq6]
             try with_reducible rfl
           simp only [Act.put, List.setIfInBounds_toArray, List.set_cons_zero, List.set_cons_succ])
        | (refine mv_free _ (Or.inr ⟨by rfl, rfl⟩) (⟨k0, k1, k2, k3⟩) ?_
           simp only [Act.put, List.setIfInBounds_toArray, List.set_cons_zero, List.set_cons_succ])
    iterate 1
      first
        | (refine mv_take ?_ (Or.inl ⟨by rfl, ?_⟩) (⟨k0, k1, k2, k3⟩) ?_
           rotate_left 1
           · intro u hu
             (try dsimp only at hu)
             go_simp
             try with_reducible rfl
           simp only [Act.put, List.setIfInBounds_toArray, List.set_cons_zero, List.set_cons_succ])
        | (refine mv_take _ (Or.inr ⟨by rfl, rfl⟩) (⟨k0, k1, k2, k3⟩) ?_
           simp only [Act.put, List.setIfInBounds_toArray, List.set_cons_zero, List.set_cons_succ])
    iterate 1
      first
        | (refine mv_free ?_ (Or.inl ⟨by rfl, ?_⟩) (⟨k0, k1, k2, k3⟩) ?_
           rotate_left 1
           · intro u
             go_simp
             try simp only [dq0]
             try simp only [dq1]
             try simp only [dq2]
             try simp only [dq3]
             try simp only [dq4]
             try simp only [dq5]
             try simp only [dq6]
             try with_reducible rfl
           simp only [Act.put, List.setIfInBounds_toArray, List.set_cons_zero, List.set_cons_succ])
        | (refine mv_free _ (Or.inr ⟨by rfl, rfl⟩) (⟨k0, k1, k2, k3⟩) ?_
           simp only [Act.put, List.setIfInBounds_toArray, List.set_cons_zero, List.set_cons_succ])
    iterate 1
      first
        | (refine mv_take ?_ (Or.inl ⟨by rfl, ?_⟩) (⟨k0, k1, k2, k3⟩) ?_
           rotate_left 1
           · intro u hu
             (try dsimp only at hu)
             go_simp
             try with_reducible rfl
           simp only [Act.put, List.setIfInBounds_toArray, List.set_cons_zero, List.set_cons_succ])
        | (refine mv_take _ (Or.inr ⟨by rfl, rfl⟩) (⟨k0, k1, k2, k3⟩) ?_
           simp only [Act.put, List.setIfInBounds_toArray, List.set_cons_zero, List.set_cons_succ])
    iterate 2
      first
        | (refine mv_free ?_ (Or.inl ⟨by rfl, ?_⟩) (⟨k0, k1, k2, k3⟩) ?_
           rotate_left 1
           · intro u
             go_simp
             try simp only [dq0]
             try simp only [dq1]
             try simp only [dq2]
             try simp only [dq3]
             try simp only [dq4]
             try simp only [dq5]
             try simp only [dq6]
             try with_reducible rfl
           simp only [Act.put, List.setIfInBounds_toArray, List.set_cons_zero, List.set_cons_succ])
        | (refine mv_free _ (Or.inr ⟨by rfl, rfl⟩) (⟨k0, k1, k2, k3⟩) ?_
           simp only [Act.put, List.setIfInBounds_toArray, List.set_cons_zero, List.set_cons_succ])
    iterate 1
      first
        | (refine mv_take ?_ (Or.inl ⟨by rfl, ?_⟩) (⟨k0, k1, k2, k3⟩) ?_
           rotate_left 1
           · intro u hu
             (try dsimp only at hu)
             go_simp
             try with_reducible rfl
           simp only [Act.put, List.setIfInBounds_toArray, List.set_cons_zero, List.set_cons_succ])
        | (refine mv_take _ (Or.inr ⟨by rfl, rfl⟩) (⟨k0, k1, k2, k3⟩) ?_
           simp only [Act.put, List.setIfInBounds_toArray, List.set_cons_zero, List.set_cons_succ])
    refine mv_step (fun K hK => ?_)
    go_simp
    refine (T1.out _).mono ?_
    rintro e w2 ⟨rfl, b2⟩
    go_wp2_with fail
    have B2 := B1.trans (b2.mono (by have := B1.size; have := z0.out; omega))
    obtain ⟨k0, k1, k2, k3⟩ := hcells.out _ B2
    refine hK.out _ _ _ (fun u hu => hu) (⟨k0, k1, k2, k3⟩) ?_
    clear hK K
    iterate 4
      first
        | (refine mv_free ?_ (Or.inl ⟨by rfl, ?_⟩) (⟨k0, k1, k2, k3⟩) ?_
           rotate_left 1
           · intro u
             go_simp
             try simp only [dq0]
             try simp only [dq1]
             try simp only [dq2]
             try simp only [dq3]
             try simp only [dq4]
             try simp only [dq5]
             try simp only [dq6]
             try with_reducible rfl
           simp only [Act.put, List.setIfInBounds_toArray, List.set_cons_zero, List.set_cons_succ])
        | (refine mv_free _ (Or.inr ⟨by rfl, rfl⟩) (⟨k0, k1, k2, k3⟩) ?_
           simp only [Act.put, List.setIfInBounds_toArray, List.set_cons_zero, List.set_cons_succ])
    iterate 1
      first
        | (refine mv_take ?_ (Or.inl ⟨by rfl, ?_⟩) (⟨k0, k1, k2, k3⟩) ?_
           rotate_left 1
           · intro u hu
             (try dsimp only at hu)
             go_simp
             try with_reducible rfl
           simp only [Act.put, List.setIfInBounds_toArray, List.set_cons_zero, List.set_cons_succ])
        | (refine mv_take _ (Or.inr ⟨by rfl, rfl⟩) (⟨k0, k1, k2, k3⟩) ?_
           simp only [Act.put, List.setIfInBounds_toArray, List.set_cons_zero, List.set_cons_succ])
    iterate 1
      first
        | (refine mv_free ?_ (Or.inl ⟨by rfl, ?_⟩) (⟨k0, k1, k2, k3⟩) ?_
           rotate_left 1
           · intro u
             go_simp
             try simp only [dq0]
             try simp only [dq1]
             try simp only [dq2]
             try simp only [dq3]
             try simp only [dq4]
             try simp only [dq5]
             try simp only [dq6]
             try with_reducible rfl
           simp only [Act.put, List.setIfInBounds_toArray, List.set_cons_zero, List.set_cons_succ])
        | (refine mv_free _ (Or.inr ⟨by rfl, rfl⟩) (⟨k0, k1, k2, k3⟩) ?_
           simp only [Act.put, List.setIfInBounds_toArray, List.set_cons_zero, List.set_cons_succ])
    iterate 1
      first
        | (refine mv_take ?_ (Or.inl ⟨by rfl, ?_⟩) (⟨k0, k1, k2, k3⟩) ?_
           rotate_left 1
           · intro u hu
             (try dsimp only at hu)
             go_simp
             try with_reducible rfl
           simp only [Act.put, List.setIfInBounds_toArray, List.set_cons_zero, List.set_cons_succ])
        | (refine mv_take _ (Or.inr ⟨by rfl, rfl⟩) (⟨k0, k1, k2, k3⟩) ?_
           simp only [Act.put, List.setIfInBounds_toArray, List.set_cons_zero, List.set_cons_succ])
    iterate 1
      first
        | (refine mv_free ?_ (Or.inl ⟨by rfl, ?_⟩) (⟨k0, k1, k2, k3⟩) ?_
           rotate_left 1
           · intro u
             go_simp
             try simp only [dq0]
             try simp only [dq1]
             try simp only [dq2]
             try simp only [dq3]
             try simp only [dq4]
             try simp only [dq5]
             try simp only [dq6]
             try with_reducible rfl
           simp only [Act.put, List.setIfInBounds_toArray, List.set_cons_zero, List.set_cons_succ])
        | (refine mv_free _ (Or.inr ⟨by rfl, rfl⟩) (⟨k0, k1, k2, k3⟩) ?_
           simp only [Act.put, List.setIfInBounds_toArray, List.set_cons_zero, List.set_cons_succ])
    refine mv_step (fun K hK => ?_)
    go_simp
    refine (R1.out _).mono ?_
    rintro e w3 ⟨rfl, b3⟩
    go_wp2_with fail
    have B3 := B2.trans (b3.mono (by have := B2.size; have := z0.out; omega))
    obtain ⟨k0, k1, k2, k3⟩ := hcells.out _ B3
    refine hK.out _ _ _ (fun u hu => hu) (⟨k0, k1, k2, k3⟩) ?_
    clear hK K
    iterate 2
      first
        | (refine mv_free ?_ (Or.inl ⟨by rfl, ?_⟩) (⟨k0, k1, k2, k3⟩) ?_
           rotate_left 1
           · intro u
             go_simp
             try simp only [dq0]
             try simp only [dq1]
             try simp only [dq2]
             try simp only [dq3]
             try simp only [dq4]
             try simp only [dq5]
             try simp only [dq6]
             try with_reducible rfl
           simp only [Act.put, List.setIfInBounds_toArray, List.set_cons_zero, List.set_cons_succ])
        | (refine mv_free _ (Or.inr ⟨by rfl, rfl⟩) (⟨k0, k1, k2, k3⟩) ?_
           simp only [Act.put, List.setIfInBounds_toArray, List.set_cons_zero, List.set_cons_succ])
    refine mv_done ?_
    clear B1 B2 b1 b2 b3
    go_wp2_with fail
    refine region_moves (fun u => u.cell? ⟨w.heap.size, 0, none⟩ = some (.int .i64 t0) ∧ u.cell? ⟨w.heap.size, 1, none⟩ = some (.int .i64 t1) ∧ u.cell? ⟨w.heap.size + 1, 0, none⟩ = some (.int .i64 m0) ∧ u.cell? ⟨w.heap.size + 1, 1, none⟩ = some (.int .i64 m1)) [] [(.free, 0), (.take, 1), (.free, 2), (.free, 4), (.take, 5), (.step, 3), (.free, 6), (.free, 7), (.free, 8), (.take, 9), (.free, 10), (.take, 11), (.free, 13), (.take, 14), (.step, 12), (.free, 15), (.free, 16)] _ (by kernel_rfl) (by kernel_rfl) (by kernel_rfl) (by kernel_rfl) (by decide) rfl (fun _ _ _ _ _ h => h) ?_
    simp only [List.filterMap_cons, List.filterMap_nil, List.getElem?_toArray, List.getElem?_cons_zero, List.getElem?_cons_succ, Option.map_some]
    iterate 1
      first
        | (refine mv_free ?_ (Or.inl ⟨by rfl, ?_⟩) (⟨k0, k1, k2, k3⟩) ?_
           rotate_left 1
           · intro u
             go_simp
             try simp only [dq0]
             try simp only [dq1]
             try simp only [dq2]
             try simp only [dq3]
             try simp only [dq4]
             try simp only [dq5]
             try simp only [dq6]
             try with_reducible rfl
           simp only [Act.put, List.setIfInBounds_toArray, List.set_cons_zero, List.set_cons_succ])
        | (refine mv_free _ (Or.inr ⟨by rfl, rfl⟩) (⟨k0, k1, k2, k3⟩) ?_
           simp only [Act.put, List.setIfInBounds_toArray, List.set_cons_zero, List.set_cons_succ])
    iterate 1
      first
        | (refine mv_take ?_ (Or.inl ⟨by rfl, ?_⟩) (⟨k0, k1, k2, k3⟩) ?_
           rotate_left 1
           · intro u hu
             (try dsimp only at hu)
             go_simp
             try with_reducible rfl
           simp only [Act.put, List.setIfInBounds_toArray, List.set_cons_zero, List.set_cons_succ])
        | (refine mv_take _ (Or.inr ⟨by rfl, rfl⟩) (⟨k0, k1, k2, k3⟩) ?_
           simp only [Act.put, List.setIfInBounds_toArray, List.set_cons_zero, List.set_cons_succ])
    iterate 2
      first
        | (refine mv_free ?_ (Or.inl ⟨by rfl, ?_⟩) (⟨k0, k1, k2, k3⟩) ?_
           rotate_left 1
           · intro u
             go_simp
             try simp only [dq0]
             try simp only [dq1]
             try simp only [dq2]
             try simp only [dq3]
             try simp only [dq4]
             try simp only [dq5]
             try simp only [dq6]
             try with_reducible rfl
           simp only [Act.put, List.setIfInBounds_toArray, List.set_cons_zero, List.set_cons_succ])
        | (refine mv_free _ (Or.inr ⟨by rfl, rfl⟩) (⟨k0, k1, k2, k3⟩) ?_
           simp only [Act.put, List.setIfInBounds_toArray, List.set_cons_zero, List.set_cons_succ])
    iterate 1
      first
        | (refine mv_take ?_ (Or.inl ⟨by rfl, ?_⟩) (⟨k0, k1, k2, k3⟩) ?_
           rotate_left 1
           · intro u hu
             (try dsimp only at hu)
             go_simp
             try with_reducible rfl
           simp only [Act.put, List.setIfInBounds_toArray, List.set_cons_zero, List.set_cons_succ])
        | (refine mv_take _ (Or.inr ⟨by rfl, rfl⟩) (⟨k0, k1, k2, k3⟩) ?_
           simp only [Act.put, List.setIfInBounds_toArray, List.set_cons_zero, List.set_cons_succ])
    refine mv_step (fun K hK => ?_)
    go_simp
    refine (S2.out _).mono ?_
    rintro e w4 ⟨rfl, b4⟩
    go_wp2_with fail
    have B4 := B3.drew.trans (b4.mono (by have := B3.size; have := z0.out; show _ ≤ w3.heap.size; omega))
    obtain ⟨k0, k1, k2, k3⟩ := hcells.out _ B4
    refine hK.out _ _ _ (fun u hu => hu) (⟨k0, k1, k2, k3⟩) ?_
    clear hK K
    iterate 3
      first
        | (refine mv_free ?_ (Or.inl ⟨by rfl, ?_⟩) (⟨k0, k1, k2, k3⟩) ?_
           rotate_left 1
           · intro u
             go_simp
             try simp only [dq0]
             try simp only [dq1]
             try simp only [dq2]
             try simp only [dq3]
             try simp only [dq4]
             try simp only [dq5]
             try simp only [dq6]
             try with_reducible rfl
           simp only [Act.put, List.setIfInBounds_toArray, List.set_cons_zero, List.set_cons_succ])
        | (refine mv_free _ (Or.inr ⟨by rfl, rfl⟩) (⟨k0, k1, k2, k3⟩) ?_
           simp only [Act.put, List.setIfInBounds_toArray, List.set_cons_zero, List.set_cons_succ])
    iterate 1
      first
        | (refine mv_take ?_ (Or.inl ⟨by rfl, ?_⟩) (⟨k0, k1, k2, k3⟩) ?_
           rotate_left 1
           · intro u hu
             (try dsimp only at hu)
             go_simp
             try with_reducible rfl
           simp only [Act.put, List.setIfInBounds_toArray, List.set_cons_zero, List.set_cons_succ])
        | (refine mv_take _ (Or.inr ⟨by rfl, rfl⟩) (⟨k0, k1, k2, k3⟩) ?_
           simp only [Act.put, List.setIfInBounds_toArray, List.set_cons_zero, List.set_cons_succ])
    iterate 1
      first
        | (refine mv_free ?_ (Or.inl ⟨by rfl, ?_⟩) (⟨k0, k1, k2, k3⟩) ?_
           rotate_left 1
           · intro u
             go_simp
             try simp only [dq0]
             try simp only [dq1]
             try simp only [dq2]
             try simp only [dq3]
             try simp only [dq4]
             try simp only [dq5]
             try simp only [dq6]
             try with_reducible rfl
           simp only [Act.put, List.setIfInBounds_toArray, List.set_cons_zero, List.set_cons_succ])
        | (refine mv_free _ (Or.inr ⟨by rfl, rfl⟩) (⟨k0, k1, k2, k3⟩) ?_
           simp only [Act.put, List.setIfInBounds_toArray, List.set_cons_zero, List.set_cons_succ])
    iterate 1
      first
        | (refine mv_take ?_ (Or.inl ⟨by rfl, ?_⟩) (⟨k0, k1, k2, k3⟩) ?_
           rotate_left 1
           · intro u hu
             (try dsimp only at hu)
             go_simp
             try with_reducible rfl
           simp only [Act.put, List.setIfInBounds_toArray, List.set_cons_zero, List.set_cons_succ])
        | (refine mv_take _ (Or.inr ⟨by rfl, rfl⟩) (⟨k0, k1, k2, k3⟩) ?_
           simp only [Act.put, List.setIfInBounds_toArray, List.set_cons_zero, List.set_cons_succ])
    iterate 1
      first
        | (refine mv_free ?_ (Or.inl ⟨by rfl, ?_⟩) (⟨k0, k1, k2, k3⟩) ?_
           rotate_left 1
           · intro u
             go_simp
             try simp only [dq0]
             try simp only [dq1]
             try simp only [dq2]
             try simp only [dq3]
             try simp only [dq4]
             try simp only [dq5]
             try simp only [dq6]
             try with_reducible rfl
           simp only [Act.put, List.setIfInBounds_toArray, List.set_cons_zero, List.set_cons_succ])
        | (refine mv_free _ (Or.inr ⟨by rfl, rfl⟩) (⟨k0, k1, k2, k3⟩) ?_
           simp only [Act.put, List.setIfInBounds_toArray, List.set_cons_zero, List.set_cons_succ])
    iterate 1
      first
        | (refine mv_take ?_ (Or.inl ⟨by rfl, ?_⟩) (⟨k0, k1, k2, k3⟩) ?_
           rotate_left 1
           · intro u hu
             (try dsimp only at hu)
             go_simp
             try with_reducible rfl
           simp only [Act.put, List.setIfInBounds_toArray, List.set_cons_zero, List.set_cons_succ])
        | (refine mv_take _ (Or.inr ⟨by rfl, rfl⟩) (⟨k0, k1, k2, k3⟩) ?_
           simp only [Act.put, List.setIfInBounds_toArray, List.set_cons_zero, List.set_cons_succ])
    refine mv_step (fun K hK => ?_)
    go_simp
    refine (T2.out _).mono ?_
    rintro e w5 ⟨rfl, b5⟩
    go_wp2_with fail
    have B5 := B4.trans (b5.mono (by have := B4.size; have := z0.out; omega))
    obtain ⟨k0, k1, k2, k3⟩ := hcells.out _ B5
    refine hK.out _ _ _ (fun u hu => hu) (⟨k0, k1, k2, k3⟩) ?_
    clear hK K
    iterate 2
      first
        | (refine mv_free ?_ (Or.inl ⟨by rfl, ?_⟩) (⟨k0, k1, k2, k3⟩) ?_
           rotate_left 1
           · intro u
             go_simp
             try simp only [dq0]
             try simp only [dq1]
             try simp only [dq2]
             try simp only [dq3]
             try simp only [dq4]
             try simp only [dq5]
             try simp only [dq6]
             try with_reducible rfl
           simp only [Act.put, List.setIfInBounds_toArray, List.set_cons_zero, List.set_cons_succ])
        | (refine mv_free _ (Or.inr ⟨by rfl, rfl⟩) (⟨k0, k1, k2, k3⟩) ?_
           simp only [Act.put, List.setIfInBounds_toArray, List.set_cons_zero, List.set_cons_succ])
    refine mv_done ?_
    clear B3 B4 b4 b5
    go_wp2_with fail
    refine region_moves (fun u => u.cell? ⟨w.heap.size, 0, none⟩ = some (.int .i64 t0) ∧ u.cell? ⟨w.heap.size, 1, none⟩ = some (.int .i64 t1) ∧ u.cell? ⟨w.heap.size + 1, 0, none⟩ = some (.int .i64 m0) ∧ u.cell? ⟨w.heap.size + 1, 1, none⟩ = some (.int .i64 m1)) [] [(.free, 0), (.take, 1), (.free, 2), (.take, 3), (.free, 4), (.free, 6), (.take, 7), (.free, 8), (.take, 9), (.free, 10), (.step, 5), (.step, 11), (.free, 12), (.free, 13), (.free, 14), (.take, 15), (.free, 16), (.take, 17), (.free, 18), (.free, 20), (.take, 21), (.free, 22), (.take, 23), (.free, 24), (.step, 19), (.step, 25), (.free, 26), (.free, 27), (.free, 28), (.step, 29), (.free, 30), (.free, 31)] _ (by kernel_rfl) (by kernel_rfl) (by kernel_rfl) (by kernel_rfl) (by decide) rfl (fun _ _ _ _ _ h => h) ?_
    simp only [List.filterMap_cons, List.filterMap_nil, List.getElem?_toArray, List.getElem?_cons_zero, List.getElem?_cons_succ, Option.map_some]
    iterate 1
      first
        | (refine mv_free ?_ (Or.inl ⟨by rfl, ?_⟩) (⟨k0, k1, k2, k3⟩) ?_
           rotate_left 1
           · intro u
             go_simp
             try simp only [dq0]
             try simp only [dq1]
             try simp only [dq2]
             try simp only [dq3]
             try simp only [dq4]
             try simp only [dq5]
             try simp only [dq6]
             try with_reducible rfl
           simp only [Act.put, List.setIfInBounds_toArray, List.set_cons_zero, List.set_cons_succ])
        | (refine mv_free _ (Or.inr ⟨by rfl, rfl⟩) (⟨k0, k1, k2, k3⟩) ?_
           simp only [Act.put, List.setIfInBounds_toArray, List.set_cons_zero, List.set_cons_succ])
    iterate 1
      first
        | (refine mv_take ?_ (Or.inl ⟨by rfl, ?_⟩) (⟨k0, k1, k2, k3⟩) ?_
           rotate_left 1
           · intro u hu
             (try dsimp only at hu)
             go_simp
             try with_reducible rfl
           simp only [Act.put, List.setIfInBounds_toArray, List.set_cons_zero, List.set_cons_succ])
        | (refine mv_take _ (Or.inr ⟨by rfl, rfl⟩) (⟨k0, k1, k2, k3⟩) ?_
           simp only [Act.put, List.setIfInBounds_toArray, List.set_cons_zero, List.set_cons_succ])
    iterate 1
      first
        | (refine mv_free ?_ (Or.inl ⟨by rfl, ?_⟩) (⟨k0, k1, k2, k3⟩) ?_
           rotate_left 1
           · intro u
             go_simp
             try simp only [dq0]
             try simp only [dq1]
             try simp only [dq2]
             try simp only [dq3]
             try simp only [dq4]
             try simp only [dq5]
             try simp only [dq6]
             try with_reducible rfl
           simp only [Act.put, List.setIfInBounds_toArray, List.set_cons_zero, List.set_cons_succ])
        | (refine mv_free _ (Or.inr ⟨by rfl, rfl⟩) (⟨k0, k1, k2, k3⟩) ?_
           simp only [Act.put, List.setIfInBounds_toArray, List.set_cons_zero, List.set_cons_succ])
    iterate 1
      first
        | (refine mv_take ?_ (Or.inl ⟨by rfl, ?_⟩) (⟨k0, k1, k2, k3⟩) ?_
           rotate_left 1
           · intro u hu
             (try dsimp only at hu)
             go_simp
             try with_reducible rfl
           simp only [Act.put, List.setIfInBounds_toArray, List.set_cons_zero, List.set_cons_succ])
        | (refine mv_take _ (Or.inr ⟨by rfl, rfl⟩) (⟨k0, k1, k2, k3⟩) ?_
           simp only [Act.put, List.setIfInBounds_toArray, List.set_cons_zero, List.set_cons_succ])
    iterate 2
      first
        | (refine mv_free ?_ (Or.inl ⟨by rfl, ?_⟩) (⟨k0, k1, k2, k3⟩) ?_
           rotate_left 1
           · intro u
             go_simp
             try simp only [dq0]
             try simp only [dq1]
             try simp only [dq2]
             try simp only [dq3]
             try simp only [dq4]
             try simp only [dq5]
             try simp only [dq6]
             try with_reducible rfl
           simp only [Act.put, List.setIfInBounds_toArray, List.set_cons_zero, List.set_cons_succ])
        | (refine mv_free _ (Or.inr ⟨by rfl, rfl⟩) (⟨k0, k1, k2, k3⟩) ?_
           simp only [Act.put, List.setIfInBounds_toArray, List.set_cons_zero, List.set_cons_succ])
    iterate 1
      first
        | (refine mv_take ?_ (Or.inl ⟨by rfl, ?_⟩) (⟨k0, k1, k2, k3⟩) ?_
           rotate_left 1
           · intro u hu
             (try dsimp only at hu)
             go_simp
             try with_reducible rfl
           simp only [Act.put, List.setIfInBounds_toArray, List.set_cons_zero, List.set_cons_succ])
        | (refine mv_take _ (Or.inr ⟨by rfl, rfl⟩) (⟨k0, k1, k2, k3⟩) ?_
           simp only [Act.put, List.setIfInBounds_toArray, List.set_cons_zero, List.set_cons_succ])
    iterate 1
      first
        | (refine mv_free ?_ (Or.inl ⟨by rfl, ?_⟩) (⟨k0, k1, k2, k3⟩) ?_
           rotate_left 1
           · intro u
             go_simp
             try simp only [dq0]
             try simp only [dq1]
             try simp only [dq2]
             try simp only [dq3]
             try simp only [dq4]
             try simp only [dq5]
             try simp only [dq6]
             try with_reducible rfl
           simp only [Act.put, List.setIfInBounds_toArray, List.set_cons_zero, List.set_cons_succ])
        | (refine mv_free _ (Or.inr ⟨by rfl, rfl⟩) (⟨k0, k1, k2, k3⟩) ?_
           simp only [Act.put, List.setIfInBounds_toArray, List.set_cons_zero, List.set_cons_succ])
    iterate 1
      first
        | (refine mv_take ?_ (Or.inl ⟨by rfl, ?_⟩) (⟨k0, k1, k2, k3⟩) ?_
           rotate_left 1
           · intro u hu
             (try dsimp only at hu)
             go_simp
             try with_reducible rfl
           simp only [Act.put, List.setIfInBounds_toArray, List.set_cons_zero, List.set_cons_succ])
        | (refine mv_take _ (Or.inr ⟨by rfl, rfl⟩) (⟨k0, k1, k2, k3⟩) ?_
           simp only [Act.put, List.setIfInBounds_toArray, List.set_cons_zero, List.set_cons_succ])
    iterate 1
      first
        | (refine mv_free ?_ (Or.inl ⟨by rfl, ?_⟩) (⟨k0, k1, k2, k3⟩) ?_
           rotate_left 1
           · intro u
             go_simp
             try simp only [dq0]
             try simp only [dq1]
             try simp only [dq2]
             try simp only [dq3]
             try simp only [dq4]
             try simp only [dq5]
             try simp only [dq6]
             try with_reducible rfl
           simp only [Act.put, List.setIfInBounds_toArray, List.set_cons_zero, List.set_cons_succ])
        | (refine mv_free _ (Or.inr ⟨by rfl, rfl⟩) (⟨k0, k1, k2, k3⟩) ?_
           simp only [Act.put, List.setIfInBounds_toArray, List.set_cons_zero, List.set_cons_succ])
    refine mv_step (fun K hK => ?_)
    go_simp
    refine (S3.out _).mono ?_
    rintro e w6 ⟨rfl, b6⟩
    go_wp2_with fail
    have B6 := B5.drew.trans (b6.mono (by have := B5.size; have := z0.out; show _ ≤ w5.heap.size; omega))
    obtain ⟨k0, k1, k2, k3⟩ := hcells.out _ B6
    refine hK.out _ _ _ (fun u hu => hu) (⟨k0, k1, k2, k3⟩) ?_
    clear hK K
    refine mv_step (fun K hK => ?_)
    go_simp
    refine (S1.out _).mono ?_
    rintro e w7 ⟨rfl, b7⟩
    go_wp2_with fail
    have B7 := B6.trans (b7.mono (by have := B6.size; have := z0.out; omega))
    obtain ⟨k0, k1, k2, k3⟩ := hcells.out _ B7
    refine hK.out _ _ _ (fun u hu => hu) (⟨k0, k1, k2, k3⟩) ?_
    clear hK K
    iterate 3
      first
        | (refine mv_free ?_ (Or.inl ⟨by rfl, ?_⟩) (⟨k0, k1, k2, k3⟩) ?_
           rotate_left 1
           · intro u
             go_simp
             try simp only [dq0]
             try simp only [dq1]
             try simp only [dq2]
             try simp only [dq3]
             try simp only [dq4]
             try simp only [dq5]
             try simp only [dq6]
             try with_reducible rfl
           simp only [Act.put, List.setIfInBounds_toArray, List.set_cons_zero, List.set_cons_succ])
        | (refine mv_free _ (Or.inr ⟨by rfl, rfl⟩) (⟨k0, k1, k2, k3⟩) ?_
           simp only [Act.put, List.setIfInBounds_toArray, List.set_cons_zero, List.set_cons_succ])
    iterate 1
      first
        | (refine mv_take ?_ (Or.inl ⟨by rfl, ?_⟩) (⟨k0, k1, k2, k3⟩) ?_
           rotate_left 1
           · intro u hu
             (try dsimp only at hu)
             go_simp
             try with_reducible rfl
           simp only [Act.put, List.setIfInBounds_toArray, List.set_cons_zero, List.set_cons_succ])
        | (refine mv_take _ (Or.inr ⟨by rfl, rfl⟩) (⟨k0, k1, k2, k3⟩) ?_
           simp only [Act.put, List.setIfInBounds_toArray, List.set_cons_zero, List.set_cons_succ])
    iterate 1
      first
        | (refine mv_free ?_ (Or.inl ⟨by rfl, ?_⟩) (⟨k0, k1, k2, k3⟩) ?_
           rotate_left 1
           · intro u
             go_simp
             try simp only [dq0]
             try simp only [dq1]
             try simp only [dq2]
             try simp only [dq3]
             try simp only [dq4]
             try simp only [dq5]
             try simp only [dq6]
             try with_reducible rfl
           simp only [Act.put, List.setIfInBounds_toArray, List.set_cons_zero, List.set_cons_succ])
        | (refine mv_free _ (Or.inr ⟨by rfl, rfl⟩) (⟨k0, k1, k2, k3⟩) ?_
           simp only [Act.put, List.setIfInBounds_toArray, List.set_cons_zero, List.set_cons_succ])
    iterate 1
      first
        | (refine mv_take ?_ (Or.inl ⟨by rfl, ?_⟩) (⟨k0, k1, k2, k3⟩) ?_
           rotate_left 1
           · intro u hu
             (try dsimp only at hu)
             go_simp
             try with_reducible rfl
           simp only [Act.put, List.setIfInBounds_toArray, List.set_cons_zero, List.set_cons_succ])
        | (refine mv_take _ (Or.inr ⟨by rfl, rfl⟩) (⟨k0, k1, k2, k3⟩) ?_
           simp only [Act.put, List.setIfInBounds_toArray, List.set_cons_zero, List.set_cons_succ])
    iterate 2
      first
        | (refine mv_free ?_ (Or.inl ⟨by rfl, ?_⟩) (⟨k0, k1, k2, k3⟩) ?_
           rotate_left 1
           · intro u
             go_simp
             try simp only [dq0]
             try simp only [dq1]
             try simp only [dq2]
             try simp only [dq3]
             try simp only [dq4]
             try simp only [dq5]
             try simp only [dq6]
             try with_reducible rfl
           simp only [Act.put, List.setIfInBounds_toArray, List.set_cons_zero, List.set_cons_succ])
        | (refine mv_free _ (Or.inr ⟨by rfl, rfl⟩) (⟨k0, k1, k2, k3⟩) ?_
           simp only [Act.put, List.setIfInBounds_toArray, List.set_cons_zero, List.set_cons_succ])
    iterate 1
      first
        | (refine mv_take ?_ (Or.inl ⟨by rfl, ?_⟩) (⟨k0, k1, k2, k3⟩) ?_
           rotate_left 1
           · intro u hu
             (try dsimp only at hu)
             go_simp
             try with_reducible rfl
           simp only [Act.put, List.setIfInBounds_toArray, List.set_cons_zero, List.set_cons_succ])
        | (refine mv_take _ (Or.inr ⟨by rfl, rfl⟩) (⟨k0, k1, k2, k3⟩) ?_
           simp only [Act.put, List.setIfInBounds_toArray, List.set_cons_zero, List.set_cons_succ])
    iterate 1
      first
        | (refine mv_free ?_ (Or.inl ⟨by rfl, ?_⟩) (⟨k0, k1, k2, k3⟩) ?_
           rotate_left 1
           · intro u
             go_simp
             try simp only [dq0]
             try simp only [dq1]
             try simp only [dq2]
             try simp only [dq3]
             try simp only [dq4]
             try simp only [dq5]
             try simp only [dq6]
             try with_reducible rfl
           simp only [Act.put, List.setIfInBounds_toArray, List.set_cons_zero, List.set_cons_succ])
        | (refine mv_free _ (Or.inr ⟨by rfl, rfl⟩) (⟨k0, k1, k2, k3⟩) ?_
           simp only [Act.put, List.setIfInBounds_toArray, List.set_cons_zero, List.set_cons_succ])
    iterate 1
      first
        | (refine mv_take ?_ (Or.inl ⟨by rfl, ?_⟩) (⟨k0, k1, k2, k3⟩) ?_
           rotate_left 1
           · intro u hu
             (try dsimp only at hu)
             go_simp
             try with_reducible rfl
           simp only [Act.put, List.setIfInBounds_toArray, List.set_cons_zero, List.set_cons_succ])
        | (refine mv_take _ (Or.inr ⟨by rfl, rfl⟩) (⟨k0, k1, k2, k3⟩) ?_
           simp only [Act.put, List.setIfInBounds_toArray, List.set_cons_zero, List.set_cons_succ])
    iterate 1
      first
        | (refine mv_free ?_ (Or.inl ⟨by rfl, ?_⟩) (⟨k0, k1, k2, k3⟩) ?_
           rotate_left 1
           · intro u
             go_simp
             try simp only [dq0]
             try simp only [dq1]
             try simp only [dq2]
             try simp only [dq3]
             try simp only [dq4]
             try simp only [dq5]
             try simp only [dq6]
             try with_reducible rfl
           simp only [Act.put, List.setIfInBounds_toArray, List.set_cons_zero, List.set_cons_succ])
        | (refine mv_free _ (Or.inr ⟨by rfl, rfl⟩) (⟨k0, k1, k2, k3⟩) ?_
           simp only [Act.put, List.setIfInBounds_toArray, List.set_cons_zero, List.set_cons_succ])
    refine mv_step (fun K hK => ?_)
    go_simp
    refine (S1.out _).mono ?_
    rintro e w8 ⟨rfl, b8⟩
    go_wp2_with fail
    have B8 := B7.trans (b8.mono (by have := B7.size; have := z0.out; omega))
    obtain ⟨k0, k1, k2, k3⟩ := hcells.out _ B8
    refine hK.out _ _ _ (fun u hu => hu) (⟨k0, k1, k2, k3⟩) ?_
    clear hK K
    refine mv_step (fun K hK => ?_)
    go_simp
    refine (S4.out _).mono ?_
    rintro e w9 ⟨rfl, b9⟩
    go_wp2_with fail
    have B9 := B8.trans (b9.mono (by have := B8.size; have := z0.out; omega))
    obtain ⟨k0, k1, k2, k3⟩ := hcells.out _ B9
    refine hK.out _ _ _ (fun u hu => hu) (⟨k0, k1, k2, k3⟩) ?_
    clear hK K
    iterate 3
      first
        | (refine mv_free ?_ (Or.inl ⟨by rfl, ?_⟩) (⟨k0, k1, k2, k3⟩) ?_
           rotate_left 1
           · intro u
             go_simp
             try simp only [dq0]
             try simp only [dq1]
             try simp only [dq2]
             try simp only [dq3]
             try simp only [dq4]
             try simp only [dq5]
             try simp only [dq6]
             try with_reducible rfl
           simp only [Act.put, List.setIfInBounds_toArray, List.set_cons_zero, List.set_cons_succ])
        | (refine mv_free _ (Or.inr ⟨by rfl, rfl⟩) (⟨k0, k1, k2, k3⟩) ?_
           simp only [Act.put, List.setIfInBounds_toArray, List.set_cons_zero, List.set_cons_succ])
    refine mv_step (fun K hK => ?_)
    go_simp
    refine (lives10 _).mono ?_
    rintro e w10 ⟨rfl, b10⟩
    go_wp2_with fail
    have B10 := B9.trans (b10.mono (by have := B9.size; have := z0.out; omega))
    obtain ⟨k0, k1, k2, k3⟩ := hcells.out _ B10
    refine hK.out _ _ _ (fun u hu => hu) (⟨k0, k1, k2, k3⟩) ?_
    clear hK K
    iterate 2
      first
        | (refine mv_free ?_ (Or.inl ⟨by rfl, ?_⟩) (⟨k0, k1, k2, k3⟩) ?_
           rotate_left 1
           · intro u
             go_simp
             try simp only [dq0]
             try simp only [dq1]
             try simp only [dq2]
             try simp only [dq3]
             try simp only [dq4]
             try simp only [dq5]
             try simp only [dq6]
             try with_reducible rfl
           simp only [Act.put, List.setIfInBounds_toArray, List.set_cons_zero, List.set_cons_succ])
        | (refine mv_free _ (Or.inr ⟨by rfl, rfl⟩) (⟨k0, k1, k2, k3⟩) ?_
           simp only [Act.put, List.setIfInBounds_toArray, List.set_cons_zero, List.set_cons_succ])
    refine mv_done ?_
    go_wp2
    go_ret
    exact ⟨rfl, hb0.trans (B10.mono (by omega))⟩
  · go_enter Try.func4, Try.ntmps4
    go_wp2_with (go_at_call 11; refine (lives10 _).mono ?_; rintro e w1 ⟨rfl, hb5⟩)
    all_goals first | (exfalso; omega) | skip
    all_goals
      go_ret
      exact ⟨rfl, Below.trans (by repeat (first | exact Below.refl _ _ | assumption | apply Below.drew | apply below_drewN | (refine Below.alloc ?_ (by first | exact Nat.le_refl _ | omega | (simp <;> omega)) _) | (refine Below.setCell ?_ (by first | exact Nat.le_refl _ | omega | (simp <;> omega)) _))) (hb5.mono (by simp; omega))⟩
end Go.Proofs.Ytigplknmfdjjaaa
