/- The law's nine; the document's Times, Sum, Dot, Row, Column, Turn, Outer, Mul, Det. -/
import Derived.Test.YtakocggclopngaaMat7
import Derived.Test.YtakocggclopngaaDig8
namespace Go.Proofs.Ytakocggclopngaa
open Go.ChangeShapes Go.WideShapes Go.ChangeAt Go.RowKit
set_option linter.unusedVariables false
set_option linter.unusedSimpArgs false
set_option maxRecDepth 100000 in
set_option maxHeartbeats 8000000 in
theorem rtimes (x y : Int) (w : World) : Calls Try.prog 28 #[.int .i64 x, .int .i64 y] w fun e w' => e = .returned (.int .i64 (prd x y)) ∧ Below w.heap.size w w' := by
  have b1 := clp_bd x
  have b2 := clp_bd y
  have C1 := Lib.hid (fun u => rclip_any x u)
  have C2 := Lib.hid (fun u => rclip_any y u)
  have FT := fun u => rfit_any (clp x) (clp y) 1048576 u (by omega) (by omega) (by omega) (by omega) (by omega) (by omega)
  rw [show fitV (clp x) (clp y) 1048576 = prd x y from rfl] at FT
  generalize clp x = X at *
  generalize clp y = Y at *
  generalize prd x y = P at *
  replace FT := Lib.hid FT
  go_enter Try.func28, Try.ntmps28
  go_wp2_with fail
  refine (C1.out _).mono ?_
  rintro e w' ⟨rfl, rfl⟩
  go_wp2_with fail
  refine (C2.out _).mono ?_
  rintro e w' ⟨rfl, rfl⟩
  go_wp2_with fail
  refine (FT.out _).mono ?_
  rintro e w1 ⟨rfl, hb1⟩
  go_wp2
  go_ret
  exact ⟨rfl, hb1⟩
set_option maxRecDepth 100000 in
set_option maxHeartbeats 8000000 in
theorem rsum40 (x y : Int) (w : World) : Calls Try.prog 26 #[.int .i64 x, .int .i64 y] w fun e w' => e = .returned (.int .i64 (smI x y)) ∧ w = w' := by
  have b1 := clp_bd x
  have b2 := clp_bd y
  have C1 := Lib.hid (fun u => rclip_any x u)
  have C2 := Lib.hid (fun u => rclip_any y u)
  have C3 := fun u => rclip_any (clp x + clp y) u
  rw [show clp (clp x + clp y) = smI x y from rfl] at C3
  replace C3 := Lib.hid C3
  generalize clp x = X at *
  generalize clp y = Y at *
  generalize smI x y = P at *
  go_enter Try.func26, Try.ntmps26
  go_wp2_with fail
  refine (C1.out _).mono ?_
  rintro e w' ⟨rfl, rfl⟩
  go_wp2_with fail
  refine (C2.out _).mono ?_
  rintro e w' ⟨rfl, rfl⟩
  go_wp2_with fail
  refine (C3.out _).mono ?_
  rintro e w' ⟨rfl, rfl⟩
  go_wp2
  go_ret
  exact ⟨rfl, rfl⟩
theorem rdt_box (w : World) (A B : Nat → Int) : ∃ V, V = ((w.alloc (.cells #[.int .i64 (A 0), .int .i64 (A 1), .int .i64 (A 2)] 54)).alloc (.cells #[.int .i64 (B 0), .int .i64 (B 1), .int .i64 (B 2)] 54)) ∧ Below w.heap.size w V ∧ Held w.heap.size [.int .i64 (A 0), .int .i64 (A 1), .int .i64 (A 2)] V ∧ Held (w.heap.size + 1) [.int .i64 (B 0), .int .i64 (B 1), .int .i64 (B 2)] V ∧ V.heap.size = w.heap.size + 2 := by
  refine ⟨_, rfl, (by repeat (first | exact Below.refl _ _ | assumption | apply Below.drew | apply below_drewN | (refine Below.alloc ?_ (by first | exact Nat.le_refl _ | omega | (simp <;> omega)) _) | (refine Below.setCell ?_ (by first | exact Nat.le_refl _ | omega | (simp <;> omega)) _))), ?_, ?_, by simp⟩
  · have := ((Held.new w [.int .i64 (A 0), .int .i64 (A 1), .int .i64 (A 2)] 54).alloc (.cells #[.int .i64 (B 0), .int .i64 (B 1), .int .i64 (B 2)] 54))
    simpa using this
  · have := (Held.new (w.alloc (.cells #[.int .i64 (A 0), .int .i64 (A 1), .int .i64 (A 2)] 54)) [.int .i64 (B 0), .int .i64 (B 1), .int .i64 (B 2)] 54)
    simpa using this
set_option maxRecDepth 100000 in
set_option maxHeartbeats 8000000 in
theorem rdot (A B : Nat → Int) (w : World) : Calls Try.prog 33 #[.agg #[.int .i64 (A 0), .int .i64 (A 1), .int .i64 (A 2)], .agg #[.int .i64 (B 0), .int .i64 (B 1), .int .i64 (B 2)]] w fun e w' => e = .returned (.int .i64 (dtI A B)) ∧ Below w.heap.size w w' := by
  obtain ⟨V, eV, hb0, hA, hB, hz⟩ := rdt_box w A B
  have p0 := prd_bd (A 0) (B 0)
  have p1 := prd_bd (A 1) (B 1)
  have p2 := prd_bd (A 2) (B 2)
  have T0 := Lib.hid (fun u => rtimes (A 0) (B 0) u)
  have T1 := Lib.hid (fun u => rtimes (A 1) (B 1) u)
  have T2 := Lib.hid (fun u => rtimes (A 2) (B 2) u)
  have CC := fun u => rclip_any (prd (A 0) (B 0) + prd (A 1) (B 1) + prd (A 2) (B 2)) u
  rw [show clp (prd (A 0) (B 0) + prd (A 1) (B 1) + prd (A 2) (B 2)) = dtI A B from rfl] at CC
  replace CC := Lib.hid CC
  generalize dtI A B = D at *
  generalize prd (A 0) (B 0) = q0 at *
  generalize prd (A 1) (B 1) = q1 at *
  generalize prd (A 2) (B 2) = q2 at *
  have z1 : IntKind.i64.wrap (q0 + q1) = q0 + q1 := by rw [IntKind.wrap_i64]; omega
  have z2 : IntKind.i64.wrap (q0 + q1 + q2) = q0 + q1 + q2 := by rw [IntKind.wrap_i64]; omega
  have HA := Lib.hid (fun u (h : Below (w.heap.size + 2) V u) => hA.below h (by omega))
  have HB := Lib.hid (fun u (h : Below (w.heap.size + 2) V u) => hB.below h (by omega))
  obtain ⟨c0, f0⟩ := hA.one 0 rfl
  obtain ⟨c1, f1⟩ := hA.one 1 rfl
  obtain ⟨c2, f2⟩ := hA.one 2 rfl
  obtain ⟨d0, g0⟩ := hB.one 0 rfl
  obtain ⟨d1, g1⟩ := hB.one 1 rfl
  obtain ⟨d2, g2⟩ := hB.one 2 rfl
  replace eV := Lib.hid eV
  replace hz := Lib.hid hz
  replace hb0 := Lib.hid hb0
  clear hA hB
  go_enter Try.func33, Try.ntmps33
  go_upto_region 1 with (fail)
  rw [← eV.out]
  refine region_moves (fun u => u.cell? ⟨w.heap.size, 0, none⟩ = some (.int .i64 (A 0)) ∧ u.cell? ⟨w.heap.size, 1, none⟩ = some (.int .i64 (A 1)) ∧ u.cell? ⟨w.heap.size, 2, none⟩ = some (.int .i64 (A 2)) ∧ u.cell? ⟨w.heap.size + 1, 0, none⟩ = some (.int .i64 (B 0)) ∧ u.cell? ⟨w.heap.size + 1, 1, none⟩ = some (.int .i64 (B 1)) ∧ u.cell? ⟨w.heap.size + 1, 2, none⟩ = some (.int .i64 (B 2))) [] [(.free, 0), (.take, 1), (.free, 2), (.take, 3), (.free, 5), (.take, 6), (.free, 7), (.take, 8), (.free, 11), (.take, 12), (.free, 13), (.take, 14), (.step, 4), (.step, 9), (.free, 10), (.step, 15), (.free, 16), (.step, 17), (.free, 18)] _ (by kernel_rfl) (by kernel_rfl) (by kernel_rfl) (by kernel_rfl) (by decide) rfl (fun _ _ _ _ _ h => h) ?_
  simp only [List.filterMap_cons, List.filterMap_nil, List.getElem?_toArray, List.getElem?_cons_zero, List.getElem?_cons_succ, Option.map_some]
  iterate 1
    first
      | (refine mv_free ?_ (Or.inl ⟨by rfl, ?_⟩) (⟨c0, c1, c2, d0, d1, d2⟩) ?_
         rotate_left 1
         · intro u
           go_simp
           try simp only [d1]
           try simp only [d2]
           try simp only [d3]
           try with_reducible rfl
         simp only [Act.put, List.setIfInBounds_toArray, List.set_cons_zero, List.set_cons_succ])
      | (refine mv_free _ (Or.inr ⟨by rfl, rfl⟩) (⟨c0, c1, c2, d0, d1, d2⟩) ?_
         simp only [Act.put, List.setIfInBounds_toArray, List.set_cons_zero, List.set_cons_succ])
  iterate 1
    first
      | (refine mv_take ?_ (Or.inl ⟨by rfl, ?_⟩) (⟨c0, c1, c2, d0, d1, d2⟩) ?_
         rotate_left 1
         · intro u hu
           (try dsimp only at hu)
           go_simp
           try with_reducible rfl
         simp only [Act.put, List.setIfInBounds_toArray, List.set_cons_zero, List.set_cons_succ])
      | (refine mv_take _ (Or.inr ⟨by rfl, rfl⟩) (⟨c0, c1, c2, d0, d1, d2⟩) ?_
         simp only [Act.put, List.setIfInBounds_toArray, List.set_cons_zero, List.set_cons_succ])
  iterate 1
    first
      | (refine mv_free ?_ (Or.inl ⟨by rfl, ?_⟩) (⟨c0, c1, c2, d0, d1, d2⟩) ?_
         rotate_left 1
         · intro u
           go_simp
           try simp only [d1]
           try simp only [d2]
           try simp only [d3]
           try with_reducible rfl
         simp only [Act.put, List.setIfInBounds_toArray, List.set_cons_zero, List.set_cons_succ])
      | (refine mv_free _ (Or.inr ⟨by rfl, rfl⟩) (⟨c0, c1, c2, d0, d1, d2⟩) ?_
         simp only [Act.put, List.setIfInBounds_toArray, List.set_cons_zero, List.set_cons_succ])
  iterate 1
    first
      | (refine mv_take ?_ (Or.inl ⟨by rfl, ?_⟩) (⟨c0, c1, c2, d0, d1, d2⟩) ?_
         rotate_left 1
         · intro u hu
           (try dsimp only at hu)
           go_simp
           try with_reducible rfl
         simp only [Act.put, List.setIfInBounds_toArray, List.set_cons_zero, List.set_cons_succ])
      | (refine mv_take _ (Or.inr ⟨by rfl, rfl⟩) (⟨c0, c1, c2, d0, d1, d2⟩) ?_
         simp only [Act.put, List.setIfInBounds_toArray, List.set_cons_zero, List.set_cons_succ])
  iterate 1
    first
      | (refine mv_free ?_ (Or.inl ⟨by rfl, ?_⟩) (⟨c0, c1, c2, d0, d1, d2⟩) ?_
         rotate_left 1
         · intro u
           go_simp
           try simp only [d1]
           try simp only [d2]
           try simp only [d3]
           try with_reducible rfl
         simp only [Act.put, List.setIfInBounds_toArray, List.set_cons_zero, List.set_cons_succ])
      | (refine mv_free _ (Or.inr ⟨by rfl, rfl⟩) (⟨c0, c1, c2, d0, d1, d2⟩) ?_
         simp only [Act.put, List.setIfInBounds_toArray, List.set_cons_zero, List.set_cons_succ])
  iterate 1
    first
      | (refine mv_take ?_ (Or.inl ⟨by rfl, ?_⟩) (⟨c0, c1, c2, d0, d1, d2⟩) ?_
         rotate_left 1
         · intro u hu
           (try dsimp only at hu)
           go_simp
           try with_reducible rfl
         simp only [Act.put, List.setIfInBounds_toArray, List.set_cons_zero, List.set_cons_succ])
      | (refine mv_take _ (Or.inr ⟨by rfl, rfl⟩) (⟨c0, c1, c2, d0, d1, d2⟩) ?_
         simp only [Act.put, List.setIfInBounds_toArray, List.set_cons_zero, List.set_cons_succ])
  iterate 1
    first
      | (refine mv_free ?_ (Or.inl ⟨by rfl, ?_⟩) (⟨c0, c1, c2, d0, d1, d2⟩) ?_
         rotate_left 1
         · intro u
           go_simp
           try simp only [d1]
           try simp only [d2]
           try simp only [d3]
           try with_reducible rfl
         simp only [Act.put, List.setIfInBounds_toArray, List.set_cons_zero, List.set_cons_succ])
      | (refine mv_free _ (Or.inr ⟨by rfl, rfl⟩) (⟨c0, c1, c2, d0, d1, d2⟩) ?_
         simp only [Act.put, List.setIfInBounds_toArray, List.set_cons_zero, List.set_cons_succ])
  iterate 1
    first
      | (refine mv_take ?_ (Or.inl ⟨by rfl, ?_⟩) (⟨c0, c1, c2, d0, d1, d2⟩) ?_
         rotate_left 1
         · intro u hu
           (try dsimp only at hu)
           go_simp
           try with_reducible rfl
         simp only [Act.put, List.setIfInBounds_toArray, List.set_cons_zero, List.set_cons_succ])
      | (refine mv_take _ (Or.inr ⟨by rfl, rfl⟩) (⟨c0, c1, c2, d0, d1, d2⟩) ?_
         simp only [Act.put, List.setIfInBounds_toArray, List.set_cons_zero, List.set_cons_succ])
  iterate 1
    first
      | (refine mv_free ?_ (Or.inl ⟨by rfl, ?_⟩) (⟨c0, c1, c2, d0, d1, d2⟩) ?_
         rotate_left 1
         · intro u
           go_simp
           try simp only [d1]
           try simp only [d2]
           try simp only [d3]
           try with_reducible rfl
         simp only [Act.put, List.setIfInBounds_toArray, List.set_cons_zero, List.set_cons_succ])
      | (refine mv_free _ (Or.inr ⟨by rfl, rfl⟩) (⟨c0, c1, c2, d0, d1, d2⟩) ?_
         simp only [Act.put, List.setIfInBounds_toArray, List.set_cons_zero, List.set_cons_succ])
  iterate 1
    first
      | (refine mv_take ?_ (Or.inl ⟨by rfl, ?_⟩) (⟨c0, c1, c2, d0, d1, d2⟩) ?_
         rotate_left 1
         · intro u hu
           (try dsimp only at hu)
           go_simp
           try with_reducible rfl
         simp only [Act.put, List.setIfInBounds_toArray, List.set_cons_zero, List.set_cons_succ])
      | (refine mv_take _ (Or.inr ⟨by rfl, rfl⟩) (⟨c0, c1, c2, d0, d1, d2⟩) ?_
         simp only [Act.put, List.setIfInBounds_toArray, List.set_cons_zero, List.set_cons_succ])
  iterate 1
    first
      | (refine mv_free ?_ (Or.inl ⟨by rfl, ?_⟩) (⟨c0, c1, c2, d0, d1, d2⟩) ?_
         rotate_left 1
         · intro u
           go_simp
           try simp only [d1]
           try simp only [d2]
           try simp only [d3]
           try with_reducible rfl
         simp only [Act.put, List.setIfInBounds_toArray, List.set_cons_zero, List.set_cons_succ])
      | (refine mv_free _ (Or.inr ⟨by rfl, rfl⟩) (⟨c0, c1, c2, d0, d1, d2⟩) ?_
         simp only [Act.put, List.setIfInBounds_toArray, List.set_cons_zero, List.set_cons_succ])
  iterate 1
    first
      | (refine mv_take ?_ (Or.inl ⟨by rfl, ?_⟩) (⟨c0, c1, c2, d0, d1, d2⟩) ?_
         rotate_left 1
         · intro u hu
           (try dsimp only at hu)
           go_simp
           try with_reducible rfl
         simp only [Act.put, List.setIfInBounds_toArray, List.set_cons_zero, List.set_cons_succ])
      | (refine mv_take _ (Or.inr ⟨by rfl, rfl⟩) (⟨c0, c1, c2, d0, d1, d2⟩) ?_
         simp only [Act.put, List.setIfInBounds_toArray, List.set_cons_zero, List.set_cons_succ])
  refine mv_step (fun K hK => ?_)
  go_simp
  refine (T0.out _).mono ?_
  rintro e w1 ⟨rfl, hb1⟩
  have hL1 := Lib.hid ((Below.refl (w.heap.size + 2) V).drew.trans (hb1.mono (by exact Nat.le_of_eq hz.out.symm)))
  clear c0 c1 c2 d0 d1 d2 f0 f1 f2 g0 g1 g2 hb1
  have hA1 := HA.out _ hL1.out
  have hB1 := HB.out _ hL1.out
  obtain ⟨c0, f0⟩ := hA1.one 0 rfl
  obtain ⟨c1, f1⟩ := hA1.one 1 rfl
  obtain ⟨c2, f2⟩ := hA1.one 2 rfl
  obtain ⟨d0, g0⟩ := hB1.one 0 rfl
  obtain ⟨d1, g1⟩ := hB1.one 1 rfl
  obtain ⟨d2, g2⟩ := hB1.one 2 rfl
  clear hA1 hB1
  go_wp2_with fail
  refine hK.out _ _ _ (fun u hu => hu) (⟨c0, c1, c2, d0, d1, d2⟩) ?_
  clear hK K
  refine mv_step (fun K hK => ?_)
  go_simp
  refine (T1.out _).mono ?_
  rintro e w2 ⟨rfl, hb2⟩
  have hL2 := Lib.hid (hL1.out.trans (hb2.mono (by have := hL1.out.size; have := hz.out; omega)))
  clear c0 c1 c2 d0 d1 d2 f0 f1 f2 g0 g1 g2 hb2
  have hA2 := HA.out _ hL2.out
  have hB2 := HB.out _ hL2.out
  obtain ⟨c0, f0⟩ := hA2.one 0 rfl
  obtain ⟨c1, f1⟩ := hA2.one 1 rfl
  obtain ⟨c2, f2⟩ := hA2.one 2 rfl
  obtain ⟨d0, g0⟩ := hB2.one 0 rfl
  obtain ⟨d1, g1⟩ := hB2.one 1 rfl
  obtain ⟨d2, g2⟩ := hB2.one 2 rfl
  clear hA2 hB2
  go_wp2_with fail
  refine hK.out _ _ _ (fun u hu => hu) (⟨c0, c1, c2, d0, d1, d2⟩) ?_
  clear hK K
  iterate 1
    first
      | (refine mv_free ?_ (Or.inl ⟨by rfl, ?_⟩) (⟨c0, c1, c2, d0, d1, d2⟩) ?_
         rotate_left 1
         · intro u
           go_simp
           try simp only [d1]
           try simp only [d2]
           try simp only [d3]
           try with_reducible rfl
         simp only [Act.put, List.setIfInBounds_toArray, List.set_cons_zero, List.set_cons_succ])
      | (refine mv_free _ (Or.inr ⟨by rfl, rfl⟩) (⟨c0, c1, c2, d0, d1, d2⟩) ?_
         simp only [Act.put, List.setIfInBounds_toArray, List.set_cons_zero, List.set_cons_succ])
  refine mv_step (fun K hK => ?_)
  go_simp
  refine (T2.out _).mono ?_
  rintro e w3 ⟨rfl, hb3⟩
  have hL3 := Lib.hid (hL2.out.trans (hb3.mono (by have := hL2.out.size; have := hz.out; omega)))
  clear c0 c1 c2 d0 d1 d2 f0 f1 f2 g0 g1 g2 hb3
  have hA3 := HA.out _ hL3.out
  have hB3 := HB.out _ hL3.out
  obtain ⟨c0, f0⟩ := hA3.one 0 rfl
  obtain ⟨c1, f1⟩ := hA3.one 1 rfl
  obtain ⟨c2, f2⟩ := hA3.one 2 rfl
  obtain ⟨d0, g0⟩ := hB3.one 0 rfl
  obtain ⟨d1, g1⟩ := hB3.one 1 rfl
  obtain ⟨d2, g2⟩ := hB3.one 2 rfl
  clear hA3 hB3
  go_wp2_with fail
  refine hK.out _ _ _ (fun u hu => hu) (⟨c0, c1, c2, d0, d1, d2⟩) ?_
  clear hK K
  iterate 1
    first
      | (refine mv_free ?_ (Or.inl ⟨by rfl, ?_⟩) (⟨c0, c1, c2, d0, d1, d2⟩) ?_
         rotate_left 1
         · intro u
           go_simp
           try simp only [d1]
           try simp only [d2]
           try simp only [d3]
           try with_reducible rfl
         simp only [Act.put, List.setIfInBounds_toArray, List.set_cons_zero, List.set_cons_succ])
      | (refine mv_free _ (Or.inr ⟨by rfl, rfl⟩) (⟨c0, c1, c2, d0, d1, d2⟩) ?_
         simp only [Act.put, List.setIfInBounds_toArray, List.set_cons_zero, List.set_cons_succ])
  refine mv_step (fun K hK => ?_)
  go_simp
  refine (CC.out _).mono ?_
  rintro e w' ⟨rfl, rfl⟩
  go_wp2_with fail
  refine hK.out _ _ _ (fun u hu => hu) (⟨c0, c1, c2, d0, d1, d2⟩) ?_
  clear hK K
  iterate 1
    first
      | (refine mv_free ?_ (Or.inl ⟨by rfl, ?_⟩) (⟨c0, c1, c2, d0, d1, d2⟩) ?_
         rotate_left 1
         · intro u
           go_simp
           try simp only [d1]
           try simp only [d2]
           try simp only [d3]
           try with_reducible rfl
         simp only [Act.put, List.setIfInBounds_toArray, List.set_cons_zero, List.set_cons_succ])
      | (refine mv_free _ (Or.inr ⟨by rfl, rfl⟩) (⟨c0, c1, c2, d0, d1, d2⟩) ?_
         simp only [Act.put, List.setIfInBounds_toArray, List.set_cons_zero, List.set_cons_succ])
  refine mv_done ?_
  go_wp2
  go_ret
  exact ⟨rfl, hb0.out.trans (hL3.out.mono (by omega))⟩
theorem rrw_box (w : World) (X : Nat → Int) : ∃ V, V = ((w.alloc (.cells #[.int .i64 (X 0), .int .i64 (X 1), .int .i64 (X 2), .int .i64 (X 3), .int .i64 (X 4), .int .i64 (X 5), .int .i64 (X 6), .int .i64 (X 7), .int .i64 (X 8)] 58)).alloc (.cells #[.int .i64 0, .int .i64 0, .int .i64 0] 54)) ∧ Below w.heap.size w V ∧ Held w.heap.size [.int .i64 (X 0), .int .i64 (X 1), .int .i64 (X 2), .int .i64 (X 3), .int .i64 (X 4), .int .i64 (X 5), .int .i64 (X 6), .int .i64 (X 7), .int .i64 (X 8)] V ∧ Held (w.heap.size + 1) [.int .i64 0, .int .i64 0, .int .i64 0] V ∧ V.heap.size = w.heap.size + 2 := by
  refine ⟨_, rfl, (by repeat (first | exact Below.refl _ _ | assumption | apply Below.drew | apply below_drewN | (refine Below.alloc ?_ (by first | exact Nat.le_refl _ | omega | (simp <;> omega)) _) | (refine Below.setCell ?_ (by first | exact Nat.le_refl _ | omega | (simp <;> omega)) _))), ?_, ?_, by simp⟩
  · have := ((Held.new w [.int .i64 (X 0), .int .i64 (X 1), .int .i64 (X 2), .int .i64 (X 3), .int .i64 (X 4), .int .i64 (X 5), .int .i64 (X 6), .int .i64 (X 7), .int .i64 (X 8)] 58).alloc (.cells #[.int .i64 0, .int .i64 0, .int .i64 0] 54))
    simpa using this
  · have := (Held.new (w.alloc (.cells #[.int .i64 (X 0), .int .i64 (X 1), .int .i64 (X 2), .int .i64 (X 3), .int .i64 (X 4), .int .i64 (X 5), .int .i64 (X 6), .int .i64 (X 7), .int .i64 (X 8)] 58)) [.int .i64 0, .int .i64 0, .int .i64 0] 54)
    simpa using this
set_option maxRecDepth 100000 in
set_option maxHeartbeats 8000000 in
theorem rrow0 (X : Nat → Int) (w : World) : Calls Try.prog 34 #[.agg #[.int .i64 (X 0), .int .i64 (X 1), .int .i64 (X 2), .int .i64 (X 3), .int .i64 (X 4), .int .i64 (X 5), .int .i64 (X 6), .int .i64 (X 7), .int .i64 (X 8)], .int .i64 0] w fun e w' => e = .returned (.agg #[.int .i64 (X 0), .int .i64 (X 1), .int .i64 (X 2)]) ∧ Below w.heap.size w w' := by
  obtain ⟨V, eV, hb0, hX, hR, hz⟩ := rrw_box w X
  have h3 := ((hR.set 0 (.int .i64 (X 0)) (by simp)).set 1 (.int .i64 (X 1)) (by simp)).set 2 (.int .i64 (X 2)) (by simp)
  have b3 : Below w.heap.size w (((V.setCell ⟨w.heap.size + 1, 0, none⟩ (.int .i64 (X 0))).setCell ⟨w.heap.size + 1, 1, none⟩ (.int .i64 (X 1))).setCell ⟨w.heap.size + 1, 2, none⟩ (.int .i64 (X 2))) := ((hb0.setCell (by show w.heap.size ≤ w.heap.size + 1; omega) _).setCell (by show w.heap.size ≤ w.heap.size + 1; omega) _).setCell (by show w.heap.size ≤ w.heap.size + 1; omega) _
  obtain ⟨u9, e9⟩ : ∃ u9, u9 = ((V.setCell ⟨w.heap.size + 1, 0, none⟩ (.int .i64 (X 0))).setCell ⟨w.heap.size + 1, 1, none⟩ (.int .i64 (X 1))).setCell ⟨w.heap.size + 1, 2, none⟩ (.int .i64 (X 2)) := ⟨_, rfl⟩
  rw [← e9] at h3 b3
  replace h3 := Lib.hid h3.drew
  replace b3 := Lib.hid b3.drew
  replace e9 := Lib.hid e9
  have c0 := hX.c 0 _ rfl
  have c1 := hX.c 1 _ rfl
  have c2 := hX.c 2 _ rfl
  obtain ⟨p0, q0⟩ := hR.one 0 rfl
  obtain ⟨p1, q1⟩ := hR.one 1 rfl
  obtain ⟨p2, q2⟩ := hR.one 2 rfl
  replace eV := Lib.hid eV
  clear hX hR hb0 hz
  have k0 : IntKind.i64.wrap 0 = 0 := by decide
  have k1 : IntKind.i64.wrap 1 = 1 := by decide
  have k2 : IntKind.i64.wrap 2 = 2 := by decide
  have k3 : IntKind.i64.wrap 3 = 3 := by decide
  have k4 : IntKind.i64.wrap 4 = 4 := by decide
  have k5 : IntKind.i64.wrap 5 = 5 := by decide
  have k6 : IntKind.i64.wrap 6 = 6 := by decide
  have k7 : IntKind.i64.wrap 7 = 7 := by decide
  have k8 : IntKind.i64.wrap 8 = 8 := by decide
  go_enter Try.func34, Try.ntmps34
  go_upto_region 1 with (fail)
  rw [← eV.out]
  refine region_still [(15, [(14, 15), (0, 15), (1, 15), (2, 15), (3, 15), (4, 15), (5, 15), (6, 15), (7, 15), (8, 15), (9, 15), (10, 15), (11, 15), (12, 15), (13, 15)])] [(.free, 0), (.free, 1), (.free, 2), (.take, 3), (.free, 4), (.free, 5), (.free, 6), (.free, 7), (.take, 8), (.free, 9), (.free, 10), (.free, 11), (.free, 12), (.take, 13), (.free, 14), (.late, 15)] _ (by kernel_rfl) (by kernel_rfl) (by kernel_rfl) (by kernel_rfl) (by decide) rfl (fun _ _ _ _ _ h => h) ?_
  simp only [List.filterMap_cons, List.filterMap_nil, List.getElem?_toArray, List.getElem?_cons_zero, List.getElem?_cons_succ, Option.map_some]
  iterate 3
    first
      | (refine mv_free ?_ (Or.inl ⟨by rfl, ?_⟩) (rfl) ?_
         rotate_left 1
         · intro u
           go_simp
           try simp only [d1]
           try simp only [d2]
           try simp only [d3]
           try with_reducible rfl
         simp only [Act.put, List.setIfInBounds_toArray, List.set_cons_zero, List.set_cons_succ])
      | (refine mv_free _ (Or.inr ⟨by rfl, rfl⟩) (rfl) ?_
         simp only [Act.put, List.setIfInBounds_toArray, List.set_cons_zero, List.set_cons_succ])
  iterate 1
    first
      | (refine mv_take ?_ (Or.inl ⟨by rfl, ?_⟩) (rfl) ?_
         rotate_left 1
         · intro u hu
           (try dsimp only at hu)
           go_simp
           try with_reducible rfl
         simp only [Act.put, List.setIfInBounds_toArray, List.set_cons_zero, List.set_cons_succ])
      | (refine mv_take _ (Or.inr ⟨by rfl, rfl⟩) (rfl) ?_
         simp only [Act.put, List.setIfInBounds_toArray, List.set_cons_zero, List.set_cons_succ])
  iterate 4
    first
      | (refine mv_free ?_ (Or.inl ⟨by rfl, ?_⟩) (rfl) ?_
         rotate_left 1
         · intro u
           go_simp
           try simp only [d1]
           try simp only [d2]
           try simp only [d3]
           try with_reducible rfl
         simp only [Act.put, List.setIfInBounds_toArray, List.set_cons_zero, List.set_cons_succ])
      | (refine mv_free _ (Or.inr ⟨by rfl, rfl⟩) (rfl) ?_
         simp only [Act.put, List.setIfInBounds_toArray, List.set_cons_zero, List.set_cons_succ])
  iterate 1
    first
      | (refine mv_take ?_ (Or.inl ⟨by rfl, ?_⟩) (rfl) ?_
         rotate_left 1
         · intro u hu
           (try dsimp only at hu)
           go_simp
           try with_reducible rfl
         simp only [Act.put, List.setIfInBounds_toArray, List.set_cons_zero, List.set_cons_succ])
      | (refine mv_take _ (Or.inr ⟨by rfl, rfl⟩) (rfl) ?_
         simp only [Act.put, List.setIfInBounds_toArray, List.set_cons_zero, List.set_cons_succ])
  iterate 4
    first
      | (refine mv_free ?_ (Or.inl ⟨by rfl, ?_⟩) (rfl) ?_
         rotate_left 1
         · intro u
           go_simp
           try simp only [d1]
           try simp only [d2]
           try simp only [d3]
           try with_reducible rfl
         simp only [Act.put, List.setIfInBounds_toArray, List.set_cons_zero, List.set_cons_succ])
      | (refine mv_free _ (Or.inr ⟨by rfl, rfl⟩) (rfl) ?_
         simp only [Act.put, List.setIfInBounds_toArray, List.set_cons_zero, List.set_cons_succ])
  iterate 1
    first
      | (refine mv_take ?_ (Or.inl ⟨by rfl, ?_⟩) (rfl) ?_
         rotate_left 1
         · intro u hu
           (try dsimp only at hu)
           go_simp
           try with_reducible rfl
         simp only [Act.put, List.setIfInBounds_toArray, List.set_cons_zero, List.set_cons_succ])
      | (refine mv_take _ (Or.inr ⟨by rfl, rfl⟩) (rfl) ?_
         simp only [Act.put, List.setIfInBounds_toArray, List.set_cons_zero, List.set_cons_succ])
  iterate 1
    first
      | (refine mv_free ?_ (Or.inl ⟨by rfl, ?_⟩) (rfl) ?_
         rotate_left 1
         · intro u
           go_simp
           try simp only [d1]
           try simp only [d2]
           try simp only [d3]
           try with_reducible rfl
         simp only [Act.put, List.setIfInBounds_toArray, List.set_cons_zero, List.set_cons_succ])
      | (refine mv_free _ (Or.inr ⟨by rfl, rfl⟩) (rfl) ?_
         simp only [Act.put, List.setIfInBounds_toArray, List.set_cons_zero, List.set_cons_succ])
  refine mv_late (fun K hK => ?_)
  go_simp
  refine hK.out (fun _ => True) _ _ ?_
  clear hK K
  refine mv_done ?_
  rw [← e9.out]
  have h4 := h3.out
  obtain ⟨y0, z0⟩ := h4.one 0 rfl
  obtain ⟨y1, z1⟩ := h4.one 1 rfl
  obtain ⟨y2, z2⟩ := h4.one 2 rfl
  clear h4 h3 c0 c1 c2 p0 p1 p2 q0 q1 q2
  generalize u9.drew = v9 at *
  go_wp2
  exact bodyPost_ret (v := .agg #[.int .i64 (X 0), .int .i64 (X 1), .int .i64 (X 2)]) (by simp [results, Try.results34, go_sem, y0, y1, y2]) rfl ⟨rfl, b3.out⟩
set_option maxRecDepth 100000 in
set_option maxHeartbeats 8000000 in
theorem rrow1 (X : Nat → Int) (w : World) : Calls Try.prog 34 #[.agg #[.int .i64 (X 0), .int .i64 (X 1), .int .i64 (X 2), .int .i64 (X 3), .int .i64 (X 4), .int .i64 (X 5), .int .i64 (X 6), .int .i64 (X 7), .int .i64 (X 8)], .int .i64 1] w fun e w' => e = .returned (.agg #[.int .i64 (X 3), .int .i64 (X 4), .int .i64 (X 5)]) ∧ Below w.heap.size w w' := by
  obtain ⟨V, eV, hb0, hX, hR, hz⟩ := rrw_box w X
  have h3 := ((hR.set 0 (.int .i64 (X 3)) (by simp)).set 1 (.int .i64 (X 4)) (by simp)).set 2 (.int .i64 (X 5)) (by simp)
  have b3 : Below w.heap.size w (((V.setCell ⟨w.heap.size + 1, 0, none⟩ (.int .i64 (X 3))).setCell ⟨w.heap.size + 1, 1, none⟩ (.int .i64 (X 4))).setCell ⟨w.heap.size + 1, 2, none⟩ (.int .i64 (X 5))) := ((hb0.setCell (by show w.heap.size ≤ w.heap.size + 1; omega) _).setCell (by show w.heap.size ≤ w.heap.size + 1; omega) _).setCell (by show w.heap.size ≤ w.heap.size + 1; omega) _
  obtain ⟨u9, e9⟩ : ∃ u9, u9 = ((V.setCell ⟨w.heap.size + 1, 0, none⟩ (.int .i64 (X 3))).setCell ⟨w.heap.size + 1, 1, none⟩ (.int .i64 (X 4))).setCell ⟨w.heap.size + 1, 2, none⟩ (.int .i64 (X 5)) := ⟨_, rfl⟩
  rw [← e9] at h3 b3
  replace h3 := Lib.hid h3.drew
  replace b3 := Lib.hid b3.drew
  replace e9 := Lib.hid e9
  have c0 := hX.c 3 _ rfl
  have c1 := hX.c 4 _ rfl
  have c2 := hX.c 5 _ rfl
  obtain ⟨p0, q0⟩ := hR.one 0 rfl
  obtain ⟨p1, q1⟩ := hR.one 1 rfl
  obtain ⟨p2, q2⟩ := hR.one 2 rfl
  replace eV := Lib.hid eV
  clear hX hR hb0 hz
  have k0 : IntKind.i64.wrap 0 = 0 := by decide
  have k1 : IntKind.i64.wrap 1 = 1 := by decide
  have k2 : IntKind.i64.wrap 2 = 2 := by decide
  have k3 : IntKind.i64.wrap 3 = 3 := by decide
  have k4 : IntKind.i64.wrap 4 = 4 := by decide
  have k5 : IntKind.i64.wrap 5 = 5 := by decide
  have k6 : IntKind.i64.wrap 6 = 6 := by decide
  have k7 : IntKind.i64.wrap 7 = 7 := by decide
  have k8 : IntKind.i64.wrap 8 = 8 := by decide
  go_enter Try.func34, Try.ntmps34
  go_upto_region 1 with (fail)
  rw [← eV.out]
  refine region_still [(15, [(14, 15), (0, 15), (1, 15), (2, 15), (3, 15), (4, 15), (5, 15), (6, 15), (7, 15), (8, 15), (9, 15), (10, 15), (11, 15), (12, 15), (13, 15)])] [(.free, 0), (.free, 1), (.free, 2), (.take, 3), (.free, 4), (.free, 5), (.free, 6), (.free, 7), (.take, 8), (.free, 9), (.free, 10), (.free, 11), (.free, 12), (.take, 13), (.free, 14), (.late, 15)] _ (by kernel_rfl) (by kernel_rfl) (by kernel_rfl) (by kernel_rfl) (by decide) rfl (fun _ _ _ _ _ h => h) ?_
  simp only [List.filterMap_cons, List.filterMap_nil, List.getElem?_toArray, List.getElem?_cons_zero, List.getElem?_cons_succ, Option.map_some]
  iterate 3
    first
      | (refine mv_free ?_ (Or.inl ⟨by rfl, ?_⟩) (rfl) ?_
         rotate_left 1
         · intro u
           go_simp
           try simp only [d1]
           try simp only [d2]
           try simp only [d3]
           try with_reducible rfl
         simp only [Act.put, List.setIfInBounds_toArray, List.set_cons_zero, List.set_cons_succ])
      | (refine mv_free _ (Or.inr ⟨by rfl, rfl⟩) (rfl) ?_
         simp only [Act.put, List.setIfInBounds_toArray, List.set_cons_zero, List.set_cons_succ])
  iterate 1
    first
      | (refine mv_take ?_ (Or.inl ⟨by rfl, ?_⟩) (rfl) ?_
         rotate_left 1
         · intro u hu
           (try dsimp only at hu)
           go_simp
           try with_reducible rfl
         simp only [Act.put, List.setIfInBounds_toArray, List.set_cons_zero, List.set_cons_succ])
      | (refine mv_take _ (Or.inr ⟨by rfl, rfl⟩) (rfl) ?_
         simp only [Act.put, List.setIfInBounds_toArray, List.set_cons_zero, List.set_cons_succ])
  iterate 4
    first
      | (refine mv_free ?_ (Or.inl ⟨by rfl, ?_⟩) (rfl) ?_
         rotate_left 1
         · intro u
           go_simp
           try simp only [d1]
           try simp only [d2]
           try simp only [d3]
           try with_reducible rfl
         simp only [Act.put, List.setIfInBounds_toArray, List.set_cons_zero, List.set_cons_succ])
      | (refine mv_free _ (Or.inr ⟨by rfl, rfl⟩) (rfl) ?_
         simp only [Act.put, List.setIfInBounds_toArray, List.set_cons_zero, List.set_cons_succ])
  iterate 1
    first
      | (refine mv_take ?_ (Or.inl ⟨by rfl, ?_⟩) (rfl) ?_
         rotate_left 1
         · intro u hu
           (try dsimp only at hu)
           go_simp
           try with_reducible rfl
         simp only [Act.put, List.setIfInBounds_toArray, List.set_cons_zero, List.set_cons_succ])
      | (refine mv_take _ (Or.inr ⟨by rfl, rfl⟩) (rfl) ?_
         simp only [Act.put, List.setIfInBounds_toArray, List.set_cons_zero, List.set_cons_succ])
  iterate 4
    first
      | (refine mv_free ?_ (Or.inl ⟨by rfl, ?_⟩) (rfl) ?_
         rotate_left 1
         · intro u
           go_simp
           try simp only [d1]
           try simp only [d2]
           try simp only [d3]
           try with_reducible rfl
         simp only [Act.put, List.setIfInBounds_toArray, List.set_cons_zero, List.set_cons_succ])
      | (refine mv_free _ (Or.inr ⟨by rfl, rfl⟩) (rfl) ?_
         simp only [Act.put, List.setIfInBounds_toArray, List.set_cons_zero, List.set_cons_succ])
  iterate 1
    first
      | (refine mv_take ?_ (Or.inl ⟨by rfl, ?_⟩) (rfl) ?_
         rotate_left 1
         · intro u hu
           (try dsimp only at hu)
           go_simp
           try with_reducible rfl
         simp only [Act.put, List.setIfInBounds_toArray, List.set_cons_zero, List.set_cons_succ])
      | (refine mv_take _ (Or.inr ⟨by rfl, rfl⟩) (rfl) ?_
         simp only [Act.put, List.setIfInBounds_toArray, List.set_cons_zero, List.set_cons_succ])
  iterate 1
    first
      | (refine mv_free ?_ (Or.inl ⟨by rfl, ?_⟩) (rfl) ?_
         rotate_left 1
         · intro u
           go_simp
           try simp only [d1]
           try simp only [d2]
           try simp only [d3]
           try with_reducible rfl
         simp only [Act.put, List.setIfInBounds_toArray, List.set_cons_zero, List.set_cons_succ])
      | (refine mv_free _ (Or.inr ⟨by rfl, rfl⟩) (rfl) ?_
         simp only [Act.put, List.setIfInBounds_toArray, List.set_cons_zero, List.set_cons_succ])
  refine mv_late (fun K hK => ?_)
  go_simp
  refine hK.out (fun _ => True) _ _ ?_
  clear hK K
  refine mv_done ?_
  rw [← e9.out]
  have h4 := h3.out
  obtain ⟨y0, z0⟩ := h4.one 0 rfl
  obtain ⟨y1, z1⟩ := h4.one 1 rfl
  obtain ⟨y2, z2⟩ := h4.one 2 rfl
  clear h4 h3 c0 c1 c2 p0 p1 p2 q0 q1 q2
  generalize u9.drew = v9 at *
  go_wp2
  exact bodyPost_ret (v := .agg #[.int .i64 (X 3), .int .i64 (X 4), .int .i64 (X 5)]) (by simp [results, Try.results34, go_sem, y0, y1, y2]) rfl ⟨rfl, b3.out⟩
set_option maxRecDepth 100000 in
set_option maxHeartbeats 8000000 in
theorem rrow2 (X : Nat → Int) (w : World) : Calls Try.prog 34 #[.agg #[.int .i64 (X 0), .int .i64 (X 1), .int .i64 (X 2), .int .i64 (X 3), .int .i64 (X 4), .int .i64 (X 5), .int .i64 (X 6), .int .i64 (X 7), .int .i64 (X 8)], .int .i64 2] w fun e w' => e = .returned (.agg #[.int .i64 (X 6), .int .i64 (X 7), .int .i64 (X 8)]) ∧ Below w.heap.size w w' := by
  obtain ⟨V, eV, hb0, hX, hR, hz⟩ := rrw_box w X
  have h3 := ((hR.set 0 (.int .i64 (X 6)) (by simp)).set 1 (.int .i64 (X 7)) (by simp)).set 2 (.int .i64 (X 8)) (by simp)
  have b3 : Below w.heap.size w (((V.setCell ⟨w.heap.size + 1, 0, none⟩ (.int .i64 (X 6))).setCell ⟨w.heap.size + 1, 1, none⟩ (.int .i64 (X 7))).setCell ⟨w.heap.size + 1, 2, none⟩ (.int .i64 (X 8))) := ((hb0.setCell (by show w.heap.size ≤ w.heap.size + 1; omega) _).setCell (by show w.heap.size ≤ w.heap.size + 1; omega) _).setCell (by show w.heap.size ≤ w.heap.size + 1; omega) _
  obtain ⟨u9, e9⟩ : ∃ u9, u9 = ((V.setCell ⟨w.heap.size + 1, 0, none⟩ (.int .i64 (X 6))).setCell ⟨w.heap.size + 1, 1, none⟩ (.int .i64 (X 7))).setCell ⟨w.heap.size + 1, 2, none⟩ (.int .i64 (X 8)) := ⟨_, rfl⟩
  rw [← e9] at h3 b3
  replace h3 := Lib.hid h3.drew
  replace b3 := Lib.hid b3.drew
  replace e9 := Lib.hid e9
  have c0 := hX.c 6 _ rfl
  have c1 := hX.c 7 _ rfl
  have c2 := hX.c 8 _ rfl
  obtain ⟨p0, q0⟩ := hR.one 0 rfl
  obtain ⟨p1, q1⟩ := hR.one 1 rfl
  obtain ⟨p2, q2⟩ := hR.one 2 rfl
  replace eV := Lib.hid eV
  clear hX hR hb0 hz
  have k0 : IntKind.i64.wrap 0 = 0 := by decide
  have k1 : IntKind.i64.wrap 1 = 1 := by decide
  have k2 : IntKind.i64.wrap 2 = 2 := by decide
  have k3 : IntKind.i64.wrap 3 = 3 := by decide
  have k4 : IntKind.i64.wrap 4 = 4 := by decide
  have k5 : IntKind.i64.wrap 5 = 5 := by decide
  have k6 : IntKind.i64.wrap 6 = 6 := by decide
  have k7 : IntKind.i64.wrap 7 = 7 := by decide
  have k8 : IntKind.i64.wrap 8 = 8 := by decide
  go_enter Try.func34, Try.ntmps34
  go_upto_region 1 with (fail)
  rw [← eV.out]
  refine region_still [(15, [(14, 15), (0, 15), (1, 15), (2, 15), (3, 15), (4, 15), (5, 15), (6, 15), (7, 15), (8, 15), (9, 15), (10, 15), (11, 15), (12, 15), (13, 15)])] [(.free, 0), (.free, 1), (.free, 2), (.take, 3), (.free, 4), (.free, 5), (.free, 6), (.free, 7), (.take, 8), (.free, 9), (.free, 10), (.free, 11), (.free, 12), (.take, 13), (.free, 14), (.late, 15)] _ (by kernel_rfl) (by kernel_rfl) (by kernel_rfl) (by kernel_rfl) (by decide) rfl (fun _ _ _ _ _ h => h) ?_
  simp only [List.filterMap_cons, List.filterMap_nil, List.getElem?_toArray, List.getElem?_cons_zero, List.getElem?_cons_succ, Option.map_some]
  iterate 3
    first
      | (refine mv_free ?_ (Or.inl ⟨by rfl, ?_⟩) (rfl) ?_
         rotate_left 1
         · intro u
           go_simp
           try simp only [d1]
           try simp only [d2]
           try simp only [d3]
           try with_reducible rfl
         simp only [Act.put, List.setIfInBounds_toArray, List.set_cons_zero, List.set_cons_succ])
      | (refine mv_free _ (Or.inr ⟨by rfl, rfl⟩) (rfl) ?_
         simp only [Act.put, List.setIfInBounds_toArray, List.set_cons_zero, List.set_cons_succ])
  iterate 1
    first
      | (refine mv_take ?_ (Or.inl ⟨by rfl, ?_⟩) (rfl) ?_
         rotate_left 1
         · intro u hu
           (try dsimp only at hu)
           go_simp
           try with_reducible rfl
         simp only [Act.put, List.setIfInBounds_toArray, List.set_cons_zero, List.set_cons_succ])
      | (refine mv_take _ (Or.inr ⟨by rfl, rfl⟩) (rfl) ?_
         simp only [Act.put, List.setIfInBounds_toArray, List.set_cons_zero, List.set_cons_succ])
  iterate 4
    first
      | (refine mv_free ?_ (Or.inl ⟨by rfl, ?_⟩) (rfl) ?_
         rotate_left 1
         · intro u
           go_simp
           try simp only [d1]
           try simp only [d2]
           try simp only [d3]
           try with_reducible rfl
         simp only [Act.put, List.setIfInBounds_toArray, List.set_cons_zero, List.set_cons_succ])
      | (refine mv_free _ (Or.inr ⟨by rfl, rfl⟩) (rfl) ?_
         simp only [Act.put, List.setIfInBounds_toArray, List.set_cons_zero, List.set_cons_succ])
  iterate 1
    first
      | (refine mv_take ?_ (Or.inl ⟨by rfl, ?_⟩) (rfl) ?_
         rotate_left 1
         · intro u hu
           (try dsimp only at hu)
           go_simp
           try with_reducible rfl
         simp only [Act.put, List.setIfInBounds_toArray, List.set_cons_zero, List.set_cons_succ])
      | (refine mv_take _ (Or.inr ⟨by rfl, rfl⟩) (rfl) ?_
         simp only [Act.put, List.setIfInBounds_toArray, List.set_cons_zero, List.set_cons_succ])
  iterate 4
    first
      | (refine mv_free ?_ (Or.inl ⟨by rfl, ?_⟩) (rfl) ?_
         rotate_left 1
         · intro u
           go_simp
           try simp only [d1]
           try simp only [d2]
           try simp only [d3]
           try with_reducible rfl
         simp only [Act.put, List.setIfInBounds_toArray, List.set_cons_zero, List.set_cons_succ])
      | (refine mv_free _ (Or.inr ⟨by rfl, rfl⟩) (rfl) ?_
         simp only [Act.put, List.setIfInBounds_toArray, List.set_cons_zero, List.set_cons_succ])
  iterate 1
    first
      | (refine mv_take ?_ (Or.inl ⟨by rfl, ?_⟩) (rfl) ?_
         rotate_left 1
         · intro u hu
           (try dsimp only at hu)
           go_simp
           try with_reducible rfl
         simp only [Act.put, List.setIfInBounds_toArray, List.set_cons_zero, List.set_cons_succ])
      | (refine mv_take _ (Or.inr ⟨by rfl, rfl⟩) (rfl) ?_
         simp only [Act.put, List.setIfInBounds_toArray, List.set_cons_zero, List.set_cons_succ])
  iterate 1
    first
      | (refine mv_free ?_ (Or.inl ⟨by rfl, ?_⟩) (rfl) ?_
         rotate_left 1
         · intro u
           go_simp
           try simp only [d1]
           try simp only [d2]
           try simp only [d3]
           try with_reducible rfl
         simp only [Act.put, List.setIfInBounds_toArray, List.set_cons_zero, List.set_cons_succ])
      | (refine mv_free _ (Or.inr ⟨by rfl, rfl⟩) (rfl) ?_
         simp only [Act.put, List.setIfInBounds_toArray, List.set_cons_zero, List.set_cons_succ])
  refine mv_late (fun K hK => ?_)
  go_simp
  refine hK.out (fun _ => True) _ _ ?_
  clear hK K
  refine mv_done ?_
  rw [← e9.out]
  have h4 := h3.out
  obtain ⟨y0, z0⟩ := h4.one 0 rfl
  obtain ⟨y1, z1⟩ := h4.one 1 rfl
  obtain ⟨y2, z2⟩ := h4.one 2 rfl
  clear h4 h3 c0 c1 c2 p0 p1 p2 q0 q1 q2
  generalize u9.drew = v9 at *
  go_wp2
  exact bodyPost_ret (v := .agg #[.int .i64 (X 6), .int .i64 (X 7), .int .i64 (X 8)]) (by simp [results, Try.results34, go_sem, y0, y1, y2]) rfl ⟨rfl, b3.out⟩
set_option maxRecDepth 100000 in
set_option maxHeartbeats 8000000 in
theorem rcol0 (X : Nat → Int) (w : World) : Calls Try.prog 92 #[.agg #[.int .i64 (X 0), .int .i64 (X 1), .int .i64 (X 2), .int .i64 (X 3), .int .i64 (X 4), .int .i64 (X 5), .int .i64 (X 6), .int .i64 (X 7), .int .i64 (X 8)], .int .i64 0] w fun e w' => e = .returned (.agg #[.int .i64 (X 0), .int .i64 (X 3), .int .i64 (X 6)]) ∧ Below w.heap.size w w' := by
  obtain ⟨V, eV, hb0, hX, hR, hz⟩ := rrw_box w X
  have h3 := ((hR.set 0 (.int .i64 (X 0)) (by simp)).set 1 (.int .i64 (X 3)) (by simp)).set 2 (.int .i64 (X 6)) (by simp)
  have b3 : Below w.heap.size w (((V.setCell ⟨w.heap.size + 1, 0, none⟩ (.int .i64 (X 0))).setCell ⟨w.heap.size + 1, 1, none⟩ (.int .i64 (X 3))).setCell ⟨w.heap.size + 1, 2, none⟩ (.int .i64 (X 6))) := ((hb0.setCell (by show w.heap.size ≤ w.heap.size + 1; omega) _).setCell (by show w.heap.size ≤ w.heap.size + 1; omega) _).setCell (by show w.heap.size ≤ w.heap.size + 1; omega) _
  obtain ⟨u9, e9⟩ : ∃ u9, u9 = ((V.setCell ⟨w.heap.size + 1, 0, none⟩ (.int .i64 (X 0))).setCell ⟨w.heap.size + 1, 1, none⟩ (.int .i64 (X 3))).setCell ⟨w.heap.size + 1, 2, none⟩ (.int .i64 (X 6)) := ⟨_, rfl⟩
  rw [← e9] at h3 b3
  replace h3 := Lib.hid h3.drew
  replace b3 := Lib.hid b3.drew
  replace e9 := Lib.hid e9
  have c0 := hX.c 0 _ rfl
  have c1 := hX.c 3 _ rfl
  have c2 := hX.c 6 _ rfl
  obtain ⟨p0, q0⟩ := hR.one 0 rfl
  obtain ⟨p1, q1⟩ := hR.one 1 rfl
  obtain ⟨p2, q2⟩ := hR.one 2 rfl
  replace eV := Lib.hid eV
  clear hX hR hb0 hz
  have k0 : IntKind.i64.wrap 0 = 0 := by decide
  have k1 : IntKind.i64.wrap 1 = 1 := by decide
  have k2 : IntKind.i64.wrap 2 = 2 := by decide
  have k3 : IntKind.i64.wrap 3 = 3 := by decide
  have k4 : IntKind.i64.wrap 4 = 4 := by decide
  have k5 : IntKind.i64.wrap 5 = 5 := by decide
  have k6 : IntKind.i64.wrap 6 = 6 := by decide
  have k7 : IntKind.i64.wrap 7 = 7 := by decide
  have k8 : IntKind.i64.wrap 8 = 8 := by decide
  go_enter Try.func92, Try.ntmps92
  go_upto_region 1 with (fail)
  rw [← eV.out]
  refine region_still [(12, [(11, 12), (0, 12), (1, 12), (2, 12), (3, 12), (4, 12), (5, 12), (6, 12), (7, 12), (8, 12), (9, 12), (10, 12)])] [(.free, 0), (.free, 1), (.take, 2), (.free, 3), (.free, 4), (.free, 5), (.take, 6), (.free, 7), (.free, 8), (.free, 9), (.take, 10), (.free, 11), (.late, 12)] _ (by kernel_rfl) (by kernel_rfl) (by kernel_rfl) (by kernel_rfl) (by decide) rfl (fun _ _ _ _ _ h => h) ?_
  simp only [List.filterMap_cons, List.filterMap_nil, List.getElem?_toArray, List.getElem?_cons_zero, List.getElem?_cons_succ, Option.map_some]
  iterate 2
    first
      | (refine mv_free ?_ (Or.inl ⟨by rfl, ?_⟩) (rfl) ?_
         rotate_left 1
         · intro u
           go_simp
           try simp only [d1]
           try simp only [d2]
           try simp only [d3]
           try with_reducible rfl
         simp only [Act.put, List.setIfInBounds_toArray, List.set_cons_zero, List.set_cons_succ])
      | (refine mv_free _ (Or.inr ⟨by rfl, rfl⟩) (rfl) ?_
         simp only [Act.put, List.setIfInBounds_toArray, List.set_cons_zero, List.set_cons_succ])
  iterate 1
    first
      | (refine mv_take ?_ (Or.inl ⟨by rfl, ?_⟩) (rfl) ?_
         rotate_left 1
         · intro u hu
           (try dsimp only at hu)
           go_simp
           try with_reducible rfl
         simp only [Act.put, List.setIfInBounds_toArray, List.set_cons_zero, List.set_cons_succ])
      | (refine mv_take _ (Or.inr ⟨by rfl, rfl⟩) (rfl) ?_
         simp only [Act.put, List.setIfInBounds_toArray, List.set_cons_zero, List.set_cons_succ])
  iterate 3
    first
      | (refine mv_free ?_ (Or.inl ⟨by rfl, ?_⟩) (rfl) ?_
         rotate_left 1
         · intro u
           go_simp
           try simp only [d1]
           try simp only [d2]
           try simp only [d3]
           try with_reducible rfl
         simp only [Act.put, List.setIfInBounds_toArray, List.set_cons_zero, List.set_cons_succ])
      | (refine mv_free _ (Or.inr ⟨by rfl, rfl⟩) (rfl) ?_
         simp only [Act.put, List.setIfInBounds_toArray, List.set_cons_zero, List.set_cons_succ])
  iterate 1
    first
      | (refine mv_take ?_ (Or.inl ⟨by rfl, ?_⟩) (rfl) ?_
         rotate_left 1
         · intro u hu
           (try dsimp only at hu)
           go_simp
           try with_reducible rfl
         simp only [Act.put, List.setIfInBounds_toArray, List.set_cons_zero, List.set_cons_succ])
      | (refine mv_take _ (Or.inr ⟨by rfl, rfl⟩) (rfl) ?_
         simp only [Act.put, List.setIfInBounds_toArray, List.set_cons_zero, List.set_cons_succ])
  iterate 3
    first
      | (refine mv_free ?_ (Or.inl ⟨by rfl, ?_⟩) (rfl) ?_
         rotate_left 1
         · intro u
           go_simp
           try simp only [d1]
           try simp only [d2]
           try simp only [d3]
           try with_reducible rfl
         simp only [Act.put, List.setIfInBounds_toArray, List.set_cons_zero, List.set_cons_succ])
      | (refine mv_free _ (Or.inr ⟨by rfl, rfl⟩) (rfl) ?_
         simp only [Act.put, List.setIfInBounds_toArray, List.set_cons_zero, List.set_cons_succ])
  iterate 1
    first
      | (refine mv_take ?_ (Or.inl ⟨by rfl, ?_⟩) (rfl) ?_
         rotate_left 1
         · intro u hu
           (try dsimp only at hu)
           go_simp
           try with_reducible rfl
         simp only [Act.put, List.setIfInBounds_toArray, List.set_cons_zero, List.set_cons_succ])
      | (refine mv_take _ (Or.inr ⟨by rfl, rfl⟩) (rfl) ?_
         simp only [Act.put, List.setIfInBounds_toArray, List.set_cons_zero, List.set_cons_succ])
  iterate 1
    first
      | (refine mv_free ?_ (Or.inl ⟨by rfl, ?_⟩) (rfl) ?_
         rotate_left 1
         · intro u
           go_simp
           try simp only [d1]
           try simp only [d2]
           try simp only [d3]
           try with_reducible rfl
         simp only [Act.put, List.setIfInBounds_toArray, List.set_cons_zero, List.set_cons_succ])
      | (refine mv_free _ (Or.inr ⟨by rfl, rfl⟩) (rfl) ?_
         simp only [Act.put, List.setIfInBounds_toArray, List.set_cons_zero, List.set_cons_succ])
  refine mv_late (fun K hK => ?_)
  go_simp
  refine hK.out (fun _ => True) _ _ ?_
  clear hK K
  refine mv_done ?_
  rw [← e9.out]
  have h4 := h3.out
  obtain ⟨y0, z0⟩ := h4.one 0 rfl
  obtain ⟨y1, z1⟩ := h4.one 1 rfl
  obtain ⟨y2, z2⟩ := h4.one 2 rfl
  clear h4 h3 c0 c1 c2 p0 p1 p2 q0 q1 q2
  generalize u9.drew = v9 at *
  go_wp2
  exact bodyPost_ret (v := .agg #[.int .i64 (X 0), .int .i64 (X 3), .int .i64 (X 6)]) (by simp [results, Try.results92, go_sem, y0, y1, y2]) rfl ⟨rfl, b3.out⟩
set_option maxRecDepth 100000 in
set_option maxHeartbeats 8000000 in
theorem rcol1 (X : Nat → Int) (w : World) : Calls Try.prog 92 #[.agg #[.int .i64 (X 0), .int .i64 (X 1), .int .i64 (X 2), .int .i64 (X 3), .int .i64 (X 4), .int .i64 (X 5), .int .i64 (X 6), .int .i64 (X 7), .int .i64 (X 8)], .int .i64 1] w fun e w' => e = .returned (.agg #[.int .i64 (X 1), .int .i64 (X 4), .int .i64 (X 7)]) ∧ Below w.heap.size w w' := by
  obtain ⟨V, eV, hb0, hX, hR, hz⟩ := rrw_box w X
  have h3 := ((hR.set 0 (.int .i64 (X 1)) (by simp)).set 1 (.int .i64 (X 4)) (by simp)).set 2 (.int .i64 (X 7)) (by simp)
  have b3 : Below w.heap.size w (((V.setCell ⟨w.heap.size + 1, 0, none⟩ (.int .i64 (X 1))).setCell ⟨w.heap.size + 1, 1, none⟩ (.int .i64 (X 4))).setCell ⟨w.heap.size + 1, 2, none⟩ (.int .i64 (X 7))) := ((hb0.setCell (by show w.heap.size ≤ w.heap.size + 1; omega) _).setCell (by show w.heap.size ≤ w.heap.size + 1; omega) _).setCell (by show w.heap.size ≤ w.heap.size + 1; omega) _
  obtain ⟨u9, e9⟩ : ∃ u9, u9 = ((V.setCell ⟨w.heap.size + 1, 0, none⟩ (.int .i64 (X 1))).setCell ⟨w.heap.size + 1, 1, none⟩ (.int .i64 (X 4))).setCell ⟨w.heap.size + 1, 2, none⟩ (.int .i64 (X 7)) := ⟨_, rfl⟩
  rw [← e9] at h3 b3
  replace h3 := Lib.hid h3.drew
  replace b3 := Lib.hid b3.drew
  replace e9 := Lib.hid e9
  have c0 := hX.c 1 _ rfl
  have c1 := hX.c 4 _ rfl
  have c2 := hX.c 7 _ rfl
  obtain ⟨p0, q0⟩ := hR.one 0 rfl
  obtain ⟨p1, q1⟩ := hR.one 1 rfl
  obtain ⟨p2, q2⟩ := hR.one 2 rfl
  replace eV := Lib.hid eV
  clear hX hR hb0 hz
  have k0 : IntKind.i64.wrap 0 = 0 := by decide
  have k1 : IntKind.i64.wrap 1 = 1 := by decide
  have k2 : IntKind.i64.wrap 2 = 2 := by decide
  have k3 : IntKind.i64.wrap 3 = 3 := by decide
  have k4 : IntKind.i64.wrap 4 = 4 := by decide
  have k5 : IntKind.i64.wrap 5 = 5 := by decide
  have k6 : IntKind.i64.wrap 6 = 6 := by decide
  have k7 : IntKind.i64.wrap 7 = 7 := by decide
  have k8 : IntKind.i64.wrap 8 = 8 := by decide
  go_enter Try.func92, Try.ntmps92
  go_upto_region 1 with (fail)
  rw [← eV.out]
  refine region_still [(12, [(11, 12), (0, 12), (1, 12), (2, 12), (3, 12), (4, 12), (5, 12), (6, 12), (7, 12), (8, 12), (9, 12), (10, 12)])] [(.free, 0), (.free, 1), (.take, 2), (.free, 3), (.free, 4), (.free, 5), (.take, 6), (.free, 7), (.free, 8), (.free, 9), (.take, 10), (.free, 11), (.late, 12)] _ (by kernel_rfl) (by kernel_rfl) (by kernel_rfl) (by kernel_rfl) (by decide) rfl (fun _ _ _ _ _ h => h) ?_
  simp only [List.filterMap_cons, List.filterMap_nil, List.getElem?_toArray, List.getElem?_cons_zero, List.getElem?_cons_succ, Option.map_some]
  iterate 2
    first
      | (refine mv_free ?_ (Or.inl ⟨by rfl, ?_⟩) (rfl) ?_
         rotate_left 1
         · intro u
           go_simp
           try simp only [d1]
           try simp only [d2]
           try simp only [d3]
           try with_reducible rfl
         simp only [Act.put, List.setIfInBounds_toArray, List.set_cons_zero, List.set_cons_succ])
      | (refine mv_free _ (Or.inr ⟨by rfl, rfl⟩) (rfl) ?_
         simp only [Act.put, List.setIfInBounds_toArray, List.set_cons_zero, List.set_cons_succ])
  iterate 1
    first
      | (refine mv_take ?_ (Or.inl ⟨by rfl, ?_⟩) (rfl) ?_
         rotate_left 1
         · intro u hu
           (try dsimp only at hu)
           go_simp
           try with_reducible rfl
         simp only [Act.put, List.setIfInBounds_toArray, List.set_cons_zero, List.set_cons_succ])
      | (refine mv_take _ (Or.inr ⟨by rfl, rfl⟩) (rfl) ?_
         simp only [Act.put, List.setIfInBounds_toArray, List.set_cons_zero, List.set_cons_succ])
  iterate 3
    first
      | (refine mv_free ?_ (Or.inl ⟨by rfl, ?_⟩) (rfl) ?_
         rotate_left 1
         · intro u
           go_simp
           try simp only [d1]
           try simp only [d2]
           try simp only [d3]
           try with_reducible rfl
         simp only [Act.put, List.setIfInBounds_toArray, List.set_cons_zero, List.set_cons_succ])
      | (refine mv_free _ (Or.inr ⟨by rfl, rfl⟩) (rfl) ?_
         simp only [Act.put, List.setIfInBounds_toArray, List.set_cons_zero, List.set_cons_succ])
  iterate 1
    first
      | (refine mv_take ?_ (Or.inl ⟨by rfl, ?_⟩) (rfl) ?_
         rotate_left 1
         · intro u hu
           (try dsimp only at hu)
           go_simp
           try with_reducible rfl
         simp only [Act.put, List.setIfInBounds_toArray, List.set_cons_zero, List.set_cons_succ])
      | (refine mv_take _ (Or.inr ⟨by rfl, rfl⟩) (rfl) ?_
         simp only [Act.put, List.setIfInBounds_toArray, List.set_cons_zero, List.set_cons_succ])
  iterate 3
    first
      | (refine mv_free ?_ (Or.inl ⟨by rfl, ?_⟩) (rfl) ?_
         rotate_left 1
         · intro u
           go_simp
           try simp only [d1]
           try simp only [d2]
           try simp only [d3]
           try with_reducible rfl
         simp only [Act.put, List.setIfInBounds_toArray, List.set_cons_zero, List.set_cons_succ])
      | (refine mv_free _ (Or.inr ⟨by rfl, rfl⟩) (rfl) ?_
         simp only [Act.put, List.setIfInBounds_toArray, List.set_cons_zero, List.set_cons_succ])
  iterate 1
    first
      | (refine mv_take ?_ (Or.inl ⟨by rfl, ?_⟩) (rfl) ?_
         rotate_left 1
         · intro u hu
           (try dsimp only at hu)
           go_simp
           try with_reducible rfl
         simp only [Act.put, List.setIfInBounds_toArray, List.set_cons_zero, List.set_cons_succ])
      | (refine mv_take _ (Or.inr ⟨by rfl, rfl⟩) (rfl) ?_
         simp only [Act.put, List.setIfInBounds_toArray, List.set_cons_zero, List.set_cons_succ])
  iterate 1
    first
      | (refine mv_free ?_ (Or.inl ⟨by rfl, ?_⟩) (rfl) ?_
         rotate_left 1
         · intro u
           go_simp
           try simp only [d1]
           try simp only [d2]
           try simp only [d3]
           try with_reducible rfl
         simp only [Act.put, List.setIfInBounds_toArray, List.set_cons_zero, List.set_cons_succ])
      | (refine mv_free _ (Or.inr ⟨by rfl, rfl⟩) (rfl) ?_
         simp only [Act.put, List.setIfInBounds_toArray, List.set_cons_zero, List.set_cons_succ])
  refine mv_late (fun K hK => ?_)
  go_simp
  refine hK.out (fun _ => True) _ _ ?_
  clear hK K
  refine mv_done ?_
  rw [← e9.out]
  have h4 := h3.out
  obtain ⟨y0, z0⟩ := h4.one 0 rfl
  obtain ⟨y1, z1⟩ := h4.one 1 rfl
  obtain ⟨y2, z2⟩ := h4.one 2 rfl
  clear h4 h3 c0 c1 c2 p0 p1 p2 q0 q1 q2
  generalize u9.drew = v9 at *
  go_wp2
  exact bodyPost_ret (v := .agg #[.int .i64 (X 1), .int .i64 (X 4), .int .i64 (X 7)]) (by simp [results, Try.results92, go_sem, y0, y1, y2]) rfl ⟨rfl, b3.out⟩
set_option maxRecDepth 100000 in
set_option maxHeartbeats 8000000 in
theorem rcol2 (X : Nat → Int) (w : World) : Calls Try.prog 92 #[.agg #[.int .i64 (X 0), .int .i64 (X 1), .int .i64 (X 2), .int .i64 (X 3), .int .i64 (X 4), .int .i64 (X 5), .int .i64 (X 6), .int .i64 (X 7), .int .i64 (X 8)], .int .i64 2] w fun e w' => e = .returned (.agg #[.int .i64 (X 2), .int .i64 (X 5), .int .i64 (X 8)]) ∧ Below w.heap.size w w' := by
  obtain ⟨V, eV, hb0, hX, hR, hz⟩ := rrw_box w X
  have h3 := ((hR.set 0 (.int .i64 (X 2)) (by simp)).set 1 (.int .i64 (X 5)) (by simp)).set 2 (.int .i64 (X 8)) (by simp)
  have b3 : Below w.heap.size w (((V.setCell ⟨w.heap.size + 1, 0, none⟩ (.int .i64 (X 2))).setCell ⟨w.heap.size + 1, 1, none⟩ (.int .i64 (X 5))).setCell ⟨w.heap.size + 1, 2, none⟩ (.int .i64 (X 8))) := ((hb0.setCell (by show w.heap.size ≤ w.heap.size + 1; omega) _).setCell (by show w.heap.size ≤ w.heap.size + 1; omega) _).setCell (by show w.heap.size ≤ w.heap.size + 1; omega) _
  obtain ⟨u9, e9⟩ : ∃ u9, u9 = ((V.setCell ⟨w.heap.size + 1, 0, none⟩ (.int .i64 (X 2))).setCell ⟨w.heap.size + 1, 1, none⟩ (.int .i64 (X 5))).setCell ⟨w.heap.size + 1, 2, none⟩ (.int .i64 (X 8)) := ⟨_, rfl⟩
  rw [← e9] at h3 b3
  replace h3 := Lib.hid h3.drew
  replace b3 := Lib.hid b3.drew
  replace e9 := Lib.hid e9
  have c0 := hX.c 2 _ rfl
  have c1 := hX.c 5 _ rfl
  have c2 := hX.c 8 _ rfl
  obtain ⟨p0, q0⟩ := hR.one 0 rfl
  obtain ⟨p1, q1⟩ := hR.one 1 rfl
  obtain ⟨p2, q2⟩ := hR.one 2 rfl
  replace eV := Lib.hid eV
  clear hX hR hb0 hz
  have k0 : IntKind.i64.wrap 0 = 0 := by decide
  have k1 : IntKind.i64.wrap 1 = 1 := by decide
  have k2 : IntKind.i64.wrap 2 = 2 := by decide
  have k3 : IntKind.i64.wrap 3 = 3 := by decide
  have k4 : IntKind.i64.wrap 4 = 4 := by decide
  have k5 : IntKind.i64.wrap 5 = 5 := by decide
  have k6 : IntKind.i64.wrap 6 = 6 := by decide
  have k7 : IntKind.i64.wrap 7 = 7 := by decide
  have k8 : IntKind.i64.wrap 8 = 8 := by decide
  go_enter Try.func92, Try.ntmps92
  go_upto_region 1 with (fail)
  rw [← eV.out]
  refine region_still [(12, [(11, 12), (0, 12), (1, 12), (2, 12), (3, 12), (4, 12), (5, 12), (6, 12), (7, 12), (8, 12), (9, 12), (10, 12)])] [(.free, 0), (.free, 1), (.take, 2), (.free, 3), (.free, 4), (.free, 5), (.take, 6), (.free, 7), (.free, 8), (.free, 9), (.take, 10), (.free, 11), (.late, 12)] _ (by kernel_rfl) (by kernel_rfl) (by kernel_rfl) (by kernel_rfl) (by decide) rfl (fun _ _ _ _ _ h => h) ?_
  simp only [List.filterMap_cons, List.filterMap_nil, List.getElem?_toArray, List.getElem?_cons_zero, List.getElem?_cons_succ, Option.map_some]
  iterate 2
    first
      | (refine mv_free ?_ (Or.inl ⟨by rfl, ?_⟩) (rfl) ?_
         rotate_left 1
         · intro u
           go_simp
           try simp only [d1]
           try simp only [d2]
           try simp only [d3]
           try with_reducible rfl
         simp only [Act.put, List.setIfInBounds_toArray, List.set_cons_zero, List.set_cons_succ])
      | (refine mv_free _ (Or.inr ⟨by rfl, rfl⟩) (rfl) ?_
         simp only [Act.put, List.setIfInBounds_toArray, List.set_cons_zero, List.set_cons_succ])
  iterate 1
    first
      | (refine mv_take ?_ (Or.inl ⟨by rfl, ?_⟩) (rfl) ?_
         rotate_left 1
         · intro u hu
           (try dsimp only at hu)
           go_simp
           try with_reducible rfl
         simp only [Act.put, List.setIfInBounds_toArray, List.set_cons_zero, List.set_cons_succ])
      | (refine mv_take _ (Or.inr ⟨by rfl, rfl⟩) (rfl) ?_
         simp only [Act.put, List.setIfInBounds_toArray, List.set_cons_zero, List.set_cons_succ])
  iterate 3
    first
      | (refine mv_free ?_ (Or.inl ⟨by rfl, ?_⟩) (rfl) ?_
         rotate_left 1
         · intro u
           go_simp
           try simp only [d1]
           try simp only [d2]
           try simp only [d3]
           try with_reducible rfl
         simp only [Act.put, List.setIfInBounds_toArray, List.set_cons_zero, List.set_cons_succ])
      | (refine mv_free _ (Or.inr ⟨by rfl, rfl⟩) (rfl) ?_
         simp only [Act.put, List.setIfInBounds_toArray, List.set_cons_zero, List.set_cons_succ])
  iterate 1
    first
      | (refine mv_take ?_ (Or.inl ⟨by rfl, ?_⟩) (rfl) ?_
         rotate_left 1
         · intro u hu
           (try dsimp only at hu)
           go_simp
           try with_reducible rfl
         simp only [Act.put, List.setIfInBounds_toArray, List.set_cons_zero, List.set_cons_succ])
      | (refine mv_take _ (Or.inr ⟨by rfl, rfl⟩) (rfl) ?_
         simp only [Act.put, List.setIfInBounds_toArray, List.set_cons_zero, List.set_cons_succ])
  iterate 3
    first
      | (refine mv_free ?_ (Or.inl ⟨by rfl, ?_⟩) (rfl) ?_
         rotate_left 1
         · intro u
           go_simp
           try simp only [d1]
           try simp only [d2]
           try simp only [d3]
           try with_reducible rfl
         simp only [Act.put, List.setIfInBounds_toArray, List.set_cons_zero, List.set_cons_succ])
      | (refine mv_free _ (Or.inr ⟨by rfl, rfl⟩) (rfl) ?_
         simp only [Act.put, List.setIfInBounds_toArray, List.set_cons_zero, List.set_cons_succ])
  iterate 1
    first
      | (refine mv_take ?_ (Or.inl ⟨by rfl, ?_⟩) (rfl) ?_
         rotate_left 1
         · intro u hu
           (try dsimp only at hu)
           go_simp
           try with_reducible rfl
         simp only [Act.put, List.setIfInBounds_toArray, List.set_cons_zero, List.set_cons_succ])
      | (refine mv_take _ (Or.inr ⟨by rfl, rfl⟩) (rfl) ?_
         simp only [Act.put, List.setIfInBounds_toArray, List.set_cons_zero, List.set_cons_succ])
  iterate 1
    first
      | (refine mv_free ?_ (Or.inl ⟨by rfl, ?_⟩) (rfl) ?_
         rotate_left 1
         · intro u
           go_simp
           try simp only [d1]
           try simp only [d2]
           try simp only [d3]
           try with_reducible rfl
         simp only [Act.put, List.setIfInBounds_toArray, List.set_cons_zero, List.set_cons_succ])
      | (refine mv_free _ (Or.inr ⟨by rfl, rfl⟩) (rfl) ?_
         simp only [Act.put, List.setIfInBounds_toArray, List.set_cons_zero, List.set_cons_succ])
  refine mv_late (fun K hK => ?_)
  go_simp
  refine hK.out (fun _ => True) _ _ ?_
  clear hK K
  refine mv_done ?_
  rw [← e9.out]
  have h4 := h3.out
  obtain ⟨y0, z0⟩ := h4.one 0 rfl
  obtain ⟨y1, z1⟩ := h4.one 1 rfl
  obtain ⟨y2, z2⟩ := h4.one 2 rfl
  clear h4 h3 c0 c1 c2 p0 p1 p2 q0 q1 q2
  generalize u9.drew = v9 at *
  go_wp2
  exact bodyPost_ret (v := .agg #[.int .i64 (X 2), .int .i64 (X 5), .int .i64 (X 8)]) (by simp [results, Try.results92, go_sem, y0, y1, y2]) rfl ⟨rfl, b3.out⟩
end Go.Proofs.Ytakocggclopngaa
