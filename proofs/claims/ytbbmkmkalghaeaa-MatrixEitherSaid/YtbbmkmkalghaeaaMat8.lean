/- The law MatrixEither; walked. -/
import Derived.Test.YtbbmkmkalghaeaaMat7
namespace Go.Proofs.Ytbbmkmkalghaeaa
open Go.ChangeShapes Go.WideShapes Go.ChangeAt Go.RowKit
set_option linter.unusedVariables false
set_option linter.unusedSimpArgs false
theorem dte_comm (A B : Nat → Int) : dtI A B = dtI B A := by
  unfold dtI
  rw [prd_comm (A 0), prd_comm (A 1), prd_comm (A 2)]
theorem out_trp (A B : Nat → Int) (t : Nat) (ht : t < 9) : trp (out A B) t = out B A t := by
  show prd (A ((t % 3 * 3 + t / 3) / 3)) (B ((t % 3 * 3 + t / 3) % 3)) = prd (B (t / 3)) (A (t % 3))
  rw [show (t % 3 * 3 + t / 3) / 3 = t % 3 by omega, show (t % 3 * 3 + t / 3) % 3 = t / 3 by omega, prd_comm]
theorem me_box (w : World) (X Y : Nat → Int) : ∃ V, V = ((w.alloc (.cells #[.int .i64 (X 0), .int .i64 (X 1), .int .i64 (X 2), .int .i64 (X 3), .int .i64 (X 4), .int .i64 (X 5), .int .i64 (X 6), .int .i64 (X 7), .int .i64 (X 8)] 65)).alloc (.cells #[.int .i64 (Y 0), .int .i64 (Y 1), .int .i64 (Y 2), .int .i64 (Y 3), .int .i64 (Y 4), .int .i64 (Y 5), .int .i64 (Y 6), .int .i64 (Y 7), .int .i64 (Y 8)] 65)) ∧ Below w.heap.size w V ∧ Held w.heap.size [.int .i64 (X 0), .int .i64 (X 1), .int .i64 (X 2), .int .i64 (X 3), .int .i64 (X 4), .int .i64 (X 5), .int .i64 (X 6), .int .i64 (X 7), .int .i64 (X 8)] V ∧ Held (w.heap.size + 1) [.int .i64 (Y 0), .int .i64 (Y 1), .int .i64 (Y 2), .int .i64 (Y 3), .int .i64 (Y 4), .int .i64 (Y 5), .int .i64 (Y 6), .int .i64 (Y 7), .int .i64 (Y 8)] V ∧ V.heap.size = w.heap.size + 2 := by
  refine ⟨_, rfl, (by repeat (first | exact Below.refl _ _ | assumption | apply Below.drew | apply below_drewN | (refine Below.alloc ?_ (by first | exact Nat.le_refl _ | omega | (simp <;> omega)) _) | (refine Below.setCell ?_ (by first | exact Nat.le_refl _ | omega | (simp <;> omega)) _))), ?_, ?_, by simp⟩
  · have := ((Held.new w [.int .i64 (X 0), .int .i64 (X 1), .int .i64 (X 2), .int .i64 (X 3), .int .i64 (X 4), .int .i64 (X 5), .int .i64 (X 6), .int .i64 (X 7), .int .i64 (X 8)] 65).alloc (.cells #[.int .i64 (Y 0), .int .i64 (Y 1), .int .i64 (Y 2), .int .i64 (Y 3), .int .i64 (Y 4), .int .i64 (Y 5), .int .i64 (Y 6), .int .i64 (Y 7), .int .i64 (Y 8)] 65))
    simpa using this
  · have := (Held.new (w.alloc (.cells #[.int .i64 (X 0), .int .i64 (X 1), .int .i64 (X 2), .int .i64 (X 3), .int .i64 (X 4), .int .i64 (X 5), .int .i64 (X 6), .int .i64 (X 7), .int .i64 (X 8)] 65)) [.int .i64 (Y 0), .int .i64 (Y 1), .int .i64 (Y 2), .int .i64 (Y 3), .int .i64 (Y 4), .int .i64 (Y 5), .int .i64 (Y 6), .int .i64 (Y 7), .int .i64 (Y 8)] 65)
    simpa using this
set_option maxRecDepth 100000 in
set_option maxHeartbeats 8000000 in
theorem law_MatrixEither (X Y : Nat → Int) (w : World) : Calls Try.prog 11 #[.agg #[.int .i64 (X 0), .int .i64 (X 1), .int .i64 (X 2), .int .i64 (X 3), .int .i64 (X 4), .int .i64 (X 5), .int .i64 (X 6), .int .i64 (X 7), .int .i64 (X 8)], .agg #[.int .i64 (Y 0), .int .i64 (Y 1), .int .i64 (Y 2), .int .i64 (Y 3), .int .i64 (Y 4), .int .i64 (Y 5), .int .i64 (Y 6), .int .i64 (Y 7), .int .i64 (Y 8)]] w fun e w' => e = .returned (.bool true) ∧ Below w.heap.size w w' := by
  obtain ⟨V, eV, hb0, hX, hY, hz⟩ := me_box w X Y
  have LV := Lib.hid (fun u => lives40 u)
  have HX := Lib.hid (fun u (h : Below (w.heap.size + 2) V u) => hX.below h (by omega))
  have HY := Lib.hid (fun u (h : Below (w.heap.size + 2) V u) => hY.below h (by omega))
  have A1 := fun u => madd X Y u
  have A2 := fun u => madd Y X u
  simp only [smI_comm (Y 0), smI_comm (Y 1), smI_comm (Y 2), smI_comm (Y 3), smI_comm (Y 4), smI_comm (Y 5), smI_comm (Y 6), smI_comm (Y 7), smI_comm (Y 8)] at A2
  have D1 := fun u => mdot X Y u
  have D2 := fun u => mdot Y X u
  rw [dte_comm Y X] at D2
  have SB := fun u => msub X X u
  simp only [sbI_self] at SB
  have P1 := fun u => mplus (fun t => X (3 + t)) (fun t => Y (3 + t)) u
  have P2 := fun u => mplus (fun t => Y (3 + t)) (fun t => X (3 + t)) u
  simp only [show ∀ t, pls (fun t => Y (3 + t)) (fun t => X (3 + t)) t = pls (fun t => X (3 + t)) (fun t => Y (3 + t)) t from fun t => smI_comm _ _] at P2
  simp only [Nat.reduceAdd] at P1 P2
  have O1 := fun u => mouter X Y u
  have T1 := fun u => mturn (out X Y) u
  simp only [out_trp X Y 0 (by omega), out_trp X Y 1 (by omega), out_trp X Y 2 (by omega), out_trp X Y 3 (by omega), out_trp X Y 4 (by omega), out_trp X Y 5 (by omega), out_trp X Y 6 (by omega), out_trp X Y 7 (by omega), out_trp X Y 8 (by omega)] at T1
  have O2 := fun u => mouter Y X u
  generalize dtI X Y = DD at *
  generalize pls (fun t => X (3 + t)) (fun t => Y (3 + t)) = PP at *
  generalize out X Y = OX at *
  generalize out Y X = OY at *
  generalize smI (X 0) (Y 0) = s0 at *
  generalize smI (X 1) (Y 1) = s1 at *
  generalize smI (X 2) (Y 2) = s2 at *
  generalize smI (X 3) (Y 3) = s3 at *
  generalize smI (X 4) (Y 4) = s4 at *
  generalize smI (X 5) (Y 5) = s5 at *
  generalize smI (X 6) (Y 6) = s6 at *
  generalize smI (X 7) (Y 7) = s7 at *
  generalize smI (X 8) (Y 8) = s8 at *
  replace A1 := Lib.hid A1
  replace A2 := Lib.hid A2
  replace D1 := Lib.hid D1
  replace D2 := Lib.hid D2
  replace SB := Lib.hid SB
  replace P1 := Lib.hid P1
  replace P2 := Lib.hid P2
  replace O1 := Lib.hid O1
  replace T1 := Lib.hid T1
  replace O2 := Lib.hid O2
  have EQ1 := fun u => meq s0 s1 s2 s3 s4 s5 s6 s7 s8 u
  have EQ2 := fun u => meq 0 0 0 0 0 0 0 0 0 u
  have EQ3 := fun u => meq (OY 0) (OY 1) (OY 2) (OY 3) (OY 4) (OY 5) (OY 6) (OY 7) (OY 8) u
  have EQ4 := fun u => veq (PP 0) (PP 1) (PP 2) u
  replace eV := Lib.hid eV
  replace hz := Lib.hid hz
  replace hb0 := Lib.hid hb0
  clear hX hY
  go_enter Try.func11, Try.ntmps11
  go_upto_region 1 with (fail)
  rw [← eV.out]
  have hA1 := HX.out _ (Below.refl _ _)
  have hB1 := HY.out _ (Below.refl _ _)
  obtain ⟨c0, f0⟩ := hA1.one 0 rfl
  obtain ⟨c1, f1⟩ := hA1.one 1 rfl
  obtain ⟨c2, f2⟩ := hA1.one 2 rfl
  obtain ⟨c3, f3⟩ := hA1.one 3 rfl
  obtain ⟨c4, f4⟩ := hA1.one 4 rfl
  obtain ⟨c5, f5⟩ := hA1.one 5 rfl
  obtain ⟨c6, f6⟩ := hA1.one 6 rfl
  obtain ⟨c7, f7⟩ := hA1.one 7 rfl
  obtain ⟨c8, f8⟩ := hA1.one 8 rfl
  obtain ⟨d0, g0⟩ := hB1.one 0 rfl
  obtain ⟨d1, g1⟩ := hB1.one 1 rfl
  obtain ⟨d2, g2⟩ := hB1.one 2 rfl
  obtain ⟨d3, g3⟩ := hB1.one 3 rfl
  obtain ⟨d4, g4⟩ := hB1.one 4 rfl
  obtain ⟨d5, g5⟩ := hB1.one 5 rfl
  obtain ⟨d6, g6⟩ := hB1.one 6 rfl
  obtain ⟨d7, g7⟩ := hB1.one 7 rfl
  obtain ⟨d8, g8⟩ := hB1.one 8 rfl
  clear hA1 hB1
  refine region_moves (fun u => u.cell? ⟨w.heap.size, 0, none⟩ = some (.int .i64 (X 0)) ∧ u.cell? ⟨w.heap.size, 1, none⟩ = some (.int .i64 (X 1)) ∧ u.cell? ⟨w.heap.size, 2, none⟩ = some (.int .i64 (X 2)) ∧ u.cell? ⟨w.heap.size, 3, none⟩ = some (.int .i64 (X 3)) ∧ u.cell? ⟨w.heap.size, 4, none⟩ = some (.int .i64 (X 4)) ∧ u.cell? ⟨w.heap.size, 5, none⟩ = some (.int .i64 (X 5)) ∧ u.cell? ⟨w.heap.size, 6, none⟩ = some (.int .i64 (X 6)) ∧ u.cell? ⟨w.heap.size, 7, none⟩ = some (.int .i64 (X 7)) ∧ u.cell? ⟨w.heap.size, 8, none⟩ = some (.int .i64 (X 8)) ∧ u.cell? ⟨w.heap.size + 1, 0, none⟩ = some (.int .i64 (Y 0)) ∧ u.cell? ⟨w.heap.size + 1, 1, none⟩ = some (.int .i64 (Y 1)) ∧ u.cell? ⟨w.heap.size + 1, 2, none⟩ = some (.int .i64 (Y 2)) ∧ u.cell? ⟨w.heap.size + 1, 3, none⟩ = some (.int .i64 (Y 3)) ∧ u.cell? ⟨w.heap.size + 1, 4, none⟩ = some (.int .i64 (Y 4)) ∧ u.cell? ⟨w.heap.size + 1, 5, none⟩ = some (.int .i64 (Y 5)) ∧ u.cell? ⟨w.heap.size + 1, 6, none⟩ = some (.int .i64 (Y 6)) ∧ u.cell? ⟨w.heap.size + 1, 7, none⟩ = some (.int .i64 (Y 7)) ∧ u.cell? ⟨w.heap.size + 1, 8, none⟩ = some (.int .i64 (Y 8))) [] [(.take, 0), (.take, 1), (.take, 3), (.take, 4), (.step, 2), (.step, 5), (.free, 6), (.free, 7), (.free, 8), (.take, 9), (.free, 10), (.take, 11), (.free, 13), (.take, 14), (.free, 15), (.take, 16), (.step, 12), (.step, 17), (.free, 18), (.free, 19), (.free, 20), (.take, 21), (.take, 22), (.free, 24), (.step, 23), (.free, 25), (.free, 26), (.free, 27), (.free, 28), (.take, 29), (.free, 30), (.take, 31), (.free, 33), (.take, 34), (.free, 35), (.take, 36), (.step, 32), (.step, 37), (.free, 38), (.free, 39), (.free, 40), (.free, 41), (.take, 42), (.free, 43), (.take, 44), (.free, 47), (.take, 48), (.free, 49), (.take, 50), (.step, 45), (.step, 46), (.step, 51), (.free, 52), (.free, 53), (.free, 54), (.step, 55), (.free, 56), (.free, 57)] _ (by kernel_rfl) (by kernel_rfl) (by kernel_rfl) (by kernel_rfl) (by decide) rfl (fun _ _ _ _ _ h => h) ?_
  simp only [List.filterMap_cons, List.filterMap_nil, List.getElem?_toArray, List.getElem?_cons_zero, List.getElem?_cons_succ, Option.map_some]
  iterate 4
    first
      | (refine mv_take ?_ (Or.inl ⟨by rfl, ?_⟩) (⟨c0, c1, c2, c3, c4, c5, c6, c7, c8, d0, d1, d2, d3, d4, d5, d6, d7, d8⟩) ?_
         rotate_left 1
         · intro u hu
           (try dsimp only at hu)
           go_simp
           try with_reducible rfl
         simp only [Act.put, List.setIfInBounds_toArray, List.set_cons_zero, List.set_cons_succ])
      | (refine mv_take _ (Or.inr ⟨by rfl, rfl⟩) (⟨c0, c1, c2, c3, c4, c5, c6, c7, c8, d0, d1, d2, d3, d4, d5, d6, d7, d8⟩) ?_
         simp only [Act.put, List.setIfInBounds_toArray, List.set_cons_zero, List.set_cons_succ])
  refine mv_step (fun K hK => ?_)
  go_simp
  refine (A1.out _).mono ?_
  rintro e w10 ⟨rfl, hb10⟩
  have hB10' := Lib.hid ((Below.refl (w.heap.size + 2) V).drew.trans (hb10.mono (by exact Nat.le_of_eq hz.out.symm)))
  clear c0 f0 d0 g0 c1 f1 d1 g1 c2 f2 d2 g2 c3 f3 d3 g3 c4 f4 d4 g4 c5 f5 d5 g5 c6 f6 d6 g6 c7 f7 d7 g7 c8 f8 d8 g8
  clear hb10
  have hA10 := HX.out _ hB10'.out
  have hB10 := HY.out _ hB10'.out
  obtain ⟨c0, f0⟩ := hA10.one 0 rfl
  obtain ⟨c1, f1⟩ := hA10.one 1 rfl
  obtain ⟨c2, f2⟩ := hA10.one 2 rfl
  obtain ⟨c3, f3⟩ := hA10.one 3 rfl
  obtain ⟨c4, f4⟩ := hA10.one 4 rfl
  obtain ⟨c5, f5⟩ := hA10.one 5 rfl
  obtain ⟨c6, f6⟩ := hA10.one 6 rfl
  obtain ⟨c7, f7⟩ := hA10.one 7 rfl
  obtain ⟨c8, f8⟩ := hA10.one 8 rfl
  obtain ⟨d0, g0⟩ := hB10.one 0 rfl
  obtain ⟨d1, g1⟩ := hB10.one 1 rfl
  obtain ⟨d2, g2⟩ := hB10.one 2 rfl
  obtain ⟨d3, g3⟩ := hB10.one 3 rfl
  obtain ⟨d4, g4⟩ := hB10.one 4 rfl
  obtain ⟨d5, g5⟩ := hB10.one 5 rfl
  obtain ⟨d6, g6⟩ := hB10.one 6 rfl
  obtain ⟨d7, g7⟩ := hB10.one 7 rfl
  obtain ⟨d8, g8⟩ := hB10.one 8 rfl
  clear hA10 hB10
  go_wp2_with fail
  refine hK.out _ _ _ (fun u hu => hu) (⟨c0, c1, c2, c3, c4, c5, c6, c7, c8, d0, d1, d2, d3, d4, d5, d6, d7, d8⟩) ?_
  clear hK K
  refine mv_step (fun K hK => ?_)
  go_simp
  refine (A2.out _).mono ?_
  rintro e w11 ⟨rfl, hb11⟩
  have hB11' := Lib.hid (hB10'.out.trans (hb11.mono (by have := hB10'.out.size; have := hz.out; omega)))
  clear c0 f0 d0 g0 c1 f1 d1 g1 c2 f2 d2 g2 c3 f3 d3 g3 c4 f4 d4 g4 c5 f5 d5 g5 c6 f6 d6 g6 c7 f7 d7 g7 c8 f8 d8 g8
  clear hb11
  have hA11 := HX.out _ hB11'.out
  have hB11 := HY.out _ hB11'.out
  obtain ⟨c0, f0⟩ := hA11.one 0 rfl
  obtain ⟨c1, f1⟩ := hA11.one 1 rfl
  obtain ⟨c2, f2⟩ := hA11.one 2 rfl
  obtain ⟨c3, f3⟩ := hA11.one 3 rfl
  obtain ⟨c4, f4⟩ := hA11.one 4 rfl
  obtain ⟨c5, f5⟩ := hA11.one 5 rfl
  obtain ⟨c6, f6⟩ := hA11.one 6 rfl
  obtain ⟨c7, f7⟩ := hA11.one 7 rfl
  obtain ⟨c8, f8⟩ := hA11.one 8 rfl
  obtain ⟨d0, g0⟩ := hB11.one 0 rfl
  obtain ⟨d1, g1⟩ := hB11.one 1 rfl
  obtain ⟨d2, g2⟩ := hB11.one 2 rfl
  obtain ⟨d3, g3⟩ := hB11.one 3 rfl
  obtain ⟨d4, g4⟩ := hB11.one 4 rfl
  obtain ⟨d5, g5⟩ := hB11.one 5 rfl
  obtain ⟨d6, g6⟩ := hB11.one 6 rfl
  obtain ⟨d7, g7⟩ := hB11.one 7 rfl
  obtain ⟨d8, g8⟩ := hB11.one 8 rfl
  clear hA11 hB11
  go_wp2_with fail
  refine hK.out _ _ _ (fun u hu => hu) (⟨c0, c1, c2, c3, c4, c5, c6, c7, c8, d0, d1, d2, d3, d4, d5, d6, d7, d8⟩) ?_
  clear hK K
  iterate 3
    first
      | (refine mv_free ?_ (Or.inl ⟨by rfl, ?_⟩) (⟨c0, c1, c2, c3, c4, c5, c6, c7, c8, d0, d1, d2, d3, d4, d5, d6, d7, d8⟩) ?_
         rotate_left 1
         · intro u
           go_simp
           try simp only [d1]
           try simp only [d2]
           try simp only [d3]
           try with_reducible rfl
         simp only [Act.put, List.setIfInBounds_toArray, List.set_cons_zero, List.set_cons_succ])
      | (refine mv_free _ (Or.inr ⟨by rfl, rfl⟩) (⟨c0, c1, c2, c3, c4, c5, c6, c7, c8, d0, d1, d2, d3, d4, d5, d6, d7, d8⟩) ?_
         simp only [Act.put, List.setIfInBounds_toArray, List.set_cons_zero, List.set_cons_succ])
  iterate 1
    first
      | (refine mv_take ?_ (Or.inl ⟨by rfl, ?_⟩) (⟨c0, c1, c2, c3, c4, c5, c6, c7, c8, d0, d1, d2, d3, d4, d5, d6, d7, d8⟩) ?_
         rotate_left 1
         · intro u hu
           (try dsimp only at hu)
           go_simp
           try with_reducible rfl
         simp only [Act.put, List.setIfInBounds_toArray, List.set_cons_zero, List.set_cons_succ])
      | (refine mv_take _ (Or.inr ⟨by rfl, rfl⟩) (⟨c0, c1, c2, c3, c4, c5, c6, c7, c8, d0, d1, d2, d3, d4, d5, d6, d7, d8⟩) ?_
         simp only [Act.put, List.setIfInBounds_toArray, List.set_cons_zero, List.set_cons_succ])
  iterate 1
    first
      | (refine mv_free ?_ (Or.inl ⟨by rfl, ?_⟩) (⟨c0, c1, c2, c3, c4, c5, c6, c7, c8, d0, d1, d2, d3, d4, d5, d6, d7, d8⟩) ?_
         rotate_left 1
         · intro u
           go_simp
           try simp only [d1]
           try simp only [d2]
           try simp only [d3]
           try with_reducible rfl
         simp only [Act.put, List.setIfInBounds_toArray, List.set_cons_zero, List.set_cons_succ])
      | (refine mv_free _ (Or.inr ⟨by rfl, rfl⟩) (⟨c0, c1, c2, c3, c4, c5, c6, c7, c8, d0, d1, d2, d3, d4, d5, d6, d7, d8⟩) ?_
         simp only [Act.put, List.setIfInBounds_toArray, List.set_cons_zero, List.set_cons_succ])
  iterate 1
    first
      | (refine mv_take ?_ (Or.inl ⟨by rfl, ?_⟩) (⟨c0, c1, c2, c3, c4, c5, c6, c7, c8, d0, d1, d2, d3, d4, d5, d6, d7, d8⟩) ?_
         rotate_left 1
         · intro u hu
           (try dsimp only at hu)
           go_simp
           try with_reducible rfl
         simp only [Act.put, List.setIfInBounds_toArray, List.set_cons_zero, List.set_cons_succ])
      | (refine mv_take _ (Or.inr ⟨by rfl, rfl⟩) (⟨c0, c1, c2, c3, c4, c5, c6, c7, c8, d0, d1, d2, d3, d4, d5, d6, d7, d8⟩) ?_
         simp only [Act.put, List.setIfInBounds_toArray, List.set_cons_zero, List.set_cons_succ])
  iterate 1
    first
      | (refine mv_free ?_ (Or.inl ⟨by rfl, ?_⟩) (⟨c0, c1, c2, c3, c4, c5, c6, c7, c8, d0, d1, d2, d3, d4, d5, d6, d7, d8⟩) ?_
         rotate_left 1
         · intro u
           go_simp
           try simp only [d1]
           try simp only [d2]
           try simp only [d3]
           try with_reducible rfl
         simp only [Act.put, List.setIfInBounds_toArray, List.set_cons_zero, List.set_cons_succ])
      | (refine mv_free _ (Or.inr ⟨by rfl, rfl⟩) (⟨c0, c1, c2, c3, c4, c5, c6, c7, c8, d0, d1, d2, d3, d4, d5, d6, d7, d8⟩) ?_
         simp only [Act.put, List.setIfInBounds_toArray, List.set_cons_zero, List.set_cons_succ])
  iterate 1
    first
      | (refine mv_take ?_ (Or.inl ⟨by rfl, ?_⟩) (⟨c0, c1, c2, c3, c4, c5, c6, c7, c8, d0, d1, d2, d3, d4, d5, d6, d7, d8⟩) ?_
         rotate_left 1
         · intro u hu
           (try dsimp only at hu)
           go_simp
           try with_reducible rfl
         simp only [Act.put, List.setIfInBounds_toArray, List.set_cons_zero, List.set_cons_succ])
      | (refine mv_take _ (Or.inr ⟨by rfl, rfl⟩) (⟨c0, c1, c2, c3, c4, c5, c6, c7, c8, d0, d1, d2, d3, d4, d5, d6, d7, d8⟩) ?_
         simp only [Act.put, List.setIfInBounds_toArray, List.set_cons_zero, List.set_cons_succ])
  iterate 1
    first
      | (refine mv_free ?_ (Or.inl ⟨by rfl, ?_⟩) (⟨c0, c1, c2, c3, c4, c5, c6, c7, c8, d0, d1, d2, d3, d4, d5, d6, d7, d8⟩) ?_
         rotate_left 1
         · intro u
           go_simp
           try simp only [d1]
           try simp only [d2]
           try simp only [d3]
           try with_reducible rfl
         simp only [Act.put, List.setIfInBounds_toArray, List.set_cons_zero, List.set_cons_succ])
      | (refine mv_free _ (Or.inr ⟨by rfl, rfl⟩) (⟨c0, c1, c2, c3, c4, c5, c6, c7, c8, d0, d1, d2, d3, d4, d5, d6, d7, d8⟩) ?_
         simp only [Act.put, List.setIfInBounds_toArray, List.set_cons_zero, List.set_cons_succ])
  iterate 1
    first
      | (refine mv_take ?_ (Or.inl ⟨by rfl, ?_⟩) (⟨c0, c1, c2, c3, c4, c5, c6, c7, c8, d0, d1, d2, d3, d4, d5, d6, d7, d8⟩) ?_
         rotate_left 1
         · intro u hu
           (try dsimp only at hu)
           go_simp
           try with_reducible rfl
         simp only [Act.put, List.setIfInBounds_toArray, List.set_cons_zero, List.set_cons_succ])
      | (refine mv_take _ (Or.inr ⟨by rfl, rfl⟩) (⟨c0, c1, c2, c3, c4, c5, c6, c7, c8, d0, d1, d2, d3, d4, d5, d6, d7, d8⟩) ?_
         simp only [Act.put, List.setIfInBounds_toArray, List.set_cons_zero, List.set_cons_succ])
  refine mv_step (fun K hK => ?_)
  go_simp
  refine (D1.out _).mono ?_
  rintro e w12 ⟨rfl, hb12⟩
  have hB12' := Lib.hid (hB11'.out.trans (hb12.mono (by have := hB11'.out.size; have := hz.out; omega)))
  clear c0 f0 d0 g0 c1 f1 d1 g1 c2 f2 d2 g2 c3 f3 d3 g3 c4 f4 d4 g4 c5 f5 d5 g5 c6 f6 d6 g6 c7 f7 d7 g7 c8 f8 d8 g8
  clear hb12
  have hA12 := HX.out _ hB12'.out
  have hB12 := HY.out _ hB12'.out
  obtain ⟨c0, f0⟩ := hA12.one 0 rfl
  obtain ⟨c1, f1⟩ := hA12.one 1 rfl
  obtain ⟨c2, f2⟩ := hA12.one 2 rfl
  obtain ⟨c3, f3⟩ := hA12.one 3 rfl
  obtain ⟨c4, f4⟩ := hA12.one 4 rfl
  obtain ⟨c5, f5⟩ := hA12.one 5 rfl
  obtain ⟨c6, f6⟩ := hA12.one 6 rfl
  obtain ⟨c7, f7⟩ := hA12.one 7 rfl
  obtain ⟨c8, f8⟩ := hA12.one 8 rfl
  obtain ⟨d0, g0⟩ := hB12.one 0 rfl
  obtain ⟨d1, g1⟩ := hB12.one 1 rfl
  obtain ⟨d2, g2⟩ := hB12.one 2 rfl
  obtain ⟨d3, g3⟩ := hB12.one 3 rfl
  obtain ⟨d4, g4⟩ := hB12.one 4 rfl
  obtain ⟨d5, g5⟩ := hB12.one 5 rfl
  obtain ⟨d6, g6⟩ := hB12.one 6 rfl
  obtain ⟨d7, g7⟩ := hB12.one 7 rfl
  obtain ⟨d8, g8⟩ := hB12.one 8 rfl
  clear hA12 hB12
  go_wp2_with fail
  refine hK.out _ _ _ (fun u hu => hu) (⟨c0, c1, c2, c3, c4, c5, c6, c7, c8, d0, d1, d2, d3, d4, d5, d6, d7, d8⟩) ?_
  clear hK K
  refine mv_step (fun K hK => ?_)
  go_simp
  refine (D2.out _).mono ?_
  rintro e w13 ⟨rfl, hb13⟩
  have hB13' := Lib.hid (hB12'.out.trans (hb13.mono (by have := hB12'.out.size; have := hz.out; omega)))
  clear c0 f0 d0 g0 c1 f1 d1 g1 c2 f2 d2 g2 c3 f3 d3 g3 c4 f4 d4 g4 c5 f5 d5 g5 c6 f6 d6 g6 c7 f7 d7 g7 c8 f8 d8 g8
  clear hb13
  have hA13 := HX.out _ hB13'.out
  have hB13 := HY.out _ hB13'.out
  obtain ⟨c0, f0⟩ := hA13.one 0 rfl
  obtain ⟨c1, f1⟩ := hA13.one 1 rfl
  obtain ⟨c2, f2⟩ := hA13.one 2 rfl
  obtain ⟨c3, f3⟩ := hA13.one 3 rfl
  obtain ⟨c4, f4⟩ := hA13.one 4 rfl
  obtain ⟨c5, f5⟩ := hA13.one 5 rfl
  obtain ⟨c6, f6⟩ := hA13.one 6 rfl
  obtain ⟨c7, f7⟩ := hA13.one 7 rfl
  obtain ⟨c8, f8⟩ := hA13.one 8 rfl
  obtain ⟨d0, g0⟩ := hB13.one 0 rfl
  obtain ⟨d1, g1⟩ := hB13.one 1 rfl
  obtain ⟨d2, g2⟩ := hB13.one 2 rfl
  obtain ⟨d3, g3⟩ := hB13.one 3 rfl
  obtain ⟨d4, g4⟩ := hB13.one 4 rfl
  obtain ⟨d5, g5⟩ := hB13.one 5 rfl
  obtain ⟨d6, g6⟩ := hB13.one 6 rfl
  obtain ⟨d7, g7⟩ := hB13.one 7 rfl
  obtain ⟨d8, g8⟩ := hB13.one 8 rfl
  clear hA13 hB13
  go_wp2_with fail
  refine hK.out _ _ _ (fun u hu => hu) (⟨c0, c1, c2, c3, c4, c5, c6, c7, c8, d0, d1, d2, d3, d4, d5, d6, d7, d8⟩) ?_
  clear hK K
  iterate 3
    first
      | (refine mv_free ?_ (Or.inl ⟨by rfl, ?_⟩) (⟨c0, c1, c2, c3, c4, c5, c6, c7, c8, d0, d1, d2, d3, d4, d5, d6, d7, d8⟩) ?_
         rotate_left 1
         · intro u
           go_simp
           try simp only [d1]
           try simp only [d2]
           try simp only [d3]
           try with_reducible rfl
         simp only [Act.put, List.setIfInBounds_toArray, List.set_cons_zero, List.set_cons_succ])
      | (refine mv_free _ (Or.inr ⟨by rfl, rfl⟩) (⟨c0, c1, c2, c3, c4, c5, c6, c7, c8, d0, d1, d2, d3, d4, d5, d6, d7, d8⟩) ?_
         simp only [Act.put, List.setIfInBounds_toArray, List.set_cons_zero, List.set_cons_succ])
  iterate 2
    first
      | (refine mv_take ?_ (Or.inl ⟨by rfl, ?_⟩) (⟨c0, c1, c2, c3, c4, c5, c6, c7, c8, d0, d1, d2, d3, d4, d5, d6, d7, d8⟩) ?_
         rotate_left 1
         · intro u hu
           (try dsimp only at hu)
           go_simp
           try with_reducible rfl
         simp only [Act.put, List.setIfInBounds_toArray, List.set_cons_zero, List.set_cons_succ])
      | (refine mv_take _ (Or.inr ⟨by rfl, rfl⟩) (⟨c0, c1, c2, c3, c4, c5, c6, c7, c8, d0, d1, d2, d3, d4, d5, d6, d7, d8⟩) ?_
         simp only [Act.put, List.setIfInBounds_toArray, List.set_cons_zero, List.set_cons_succ])
  iterate 1
    first
      | (refine mv_free ?_ (Or.inl ⟨by rfl, ?_⟩) (⟨c0, c1, c2, c3, c4, c5, c6, c7, c8, d0, d1, d2, d3, d4, d5, d6, d7, d8⟩) ?_
         rotate_left 1
         · intro u
           go_simp
           try simp only [d1]
           try simp only [d2]
           try simp only [d3]
           try with_reducible rfl
         simp only [Act.put, List.setIfInBounds_toArray, List.set_cons_zero, List.set_cons_succ])
      | (refine mv_free _ (Or.inr ⟨by rfl, rfl⟩) (⟨c0, c1, c2, c3, c4, c5, c6, c7, c8, d0, d1, d2, d3, d4, d5, d6, d7, d8⟩) ?_
         simp only [Act.put, List.setIfInBounds_toArray, List.set_cons_zero, List.set_cons_succ])
  refine mv_step (fun K hK => ?_)
  go_simp
  refine (SB.out _).mono ?_
  rintro e w14 ⟨rfl, hb14⟩
  have hB14' := Lib.hid (hB13'.out.trans (hb14.mono (by have := hB13'.out.size; have := hz.out; omega)))
  clear c0 f0 d0 g0 c1 f1 d1 g1 c2 f2 d2 g2 c3 f3 d3 g3 c4 f4 d4 g4 c5 f5 d5 g5 c6 f6 d6 g6 c7 f7 d7 g7 c8 f8 d8 g8
  clear hb14
  have hA14 := HX.out _ hB14'.out
  have hB14 := HY.out _ hB14'.out
  obtain ⟨c0, f0⟩ := hA14.one 0 rfl
  obtain ⟨c1, f1⟩ := hA14.one 1 rfl
  obtain ⟨c2, f2⟩ := hA14.one 2 rfl
  obtain ⟨c3, f3⟩ := hA14.one 3 rfl
  obtain ⟨c4, f4⟩ := hA14.one 4 rfl
  obtain ⟨c5, f5⟩ := hA14.one 5 rfl
  obtain ⟨c6, f6⟩ := hA14.one 6 rfl
  obtain ⟨c7, f7⟩ := hA14.one 7 rfl
  obtain ⟨c8, f8⟩ := hA14.one 8 rfl
  obtain ⟨d0, g0⟩ := hB14.one 0 rfl
  obtain ⟨d1, g1⟩ := hB14.one 1 rfl
  obtain ⟨d2, g2⟩ := hB14.one 2 rfl
  obtain ⟨d3, g3⟩ := hB14.one 3 rfl
  obtain ⟨d4, g4⟩ := hB14.one 4 rfl
  obtain ⟨d5, g5⟩ := hB14.one 5 rfl
  obtain ⟨d6, g6⟩ := hB14.one 6 rfl
  obtain ⟨d7, g7⟩ := hB14.one 7 rfl
  obtain ⟨d8, g8⟩ := hB14.one 8 rfl
  clear hA14 hB14
  go_wp2_with fail
  refine hK.out _ _ _ (fun u hu => hu) (⟨c0, c1, c2, c3, c4, c5, c6, c7, c8, d0, d1, d2, d3, d4, d5, d6, d7, d8⟩) ?_
  clear hK K
  iterate 4
    first
      | (refine mv_free ?_ (Or.inl ⟨by rfl, ?_⟩) (⟨c0, c1, c2, c3, c4, c5, c6, c7, c8, d0, d1, d2, d3, d4, d5, d6, d7, d8⟩) ?_
         rotate_left 1
         · intro u
           go_simp
           try simp only [d1]
           try simp only [d2]
           try simp only [d3]
           try with_reducible rfl
         simp only [Act.put, List.setIfInBounds_toArray, List.set_cons_zero, List.set_cons_succ])
      | (refine mv_free _ (Or.inr ⟨by rfl, rfl⟩) (⟨c0, c1, c2, c3, c4, c5, c6, c7, c8, d0, d1, d2, d3, d4, d5, d6, d7, d8⟩) ?_
         simp only [Act.put, List.setIfInBounds_toArray, List.set_cons_zero, List.set_cons_succ])
  iterate 1
    first
      | (refine mv_take ?_ (Or.inl ⟨by rfl, ?_⟩) (⟨c0, c1, c2, c3, c4, c5, c6, c7, c8, d0, d1, d2, d3, d4, d5, d6, d7, d8⟩) ?_
         rotate_left 1
         · intro u hu
           (try dsimp only at hu)
           go_simp
           try with_reducible rfl
         simp only [Act.put, List.setIfInBounds_toArray, List.set_cons_zero, List.set_cons_succ])
      | (refine mv_take _ (Or.inr ⟨by rfl, rfl⟩) (⟨c0, c1, c2, c3, c4, c5, c6, c7, c8, d0, d1, d2, d3, d4, d5, d6, d7, d8⟩) ?_
         simp only [Act.put, List.setIfInBounds_toArray, List.set_cons_zero, List.set_cons_succ])
  iterate 1
    first
      | (refine mv_free ?_ (Or.inl ⟨by rfl, ?_⟩) (⟨c0, c1, c2, c3, c4, c5, c6, c7, c8, d0, d1, d2, d3, d4, d5, d6, d7, d8⟩) ?_
         rotate_left 1
         · intro u
           go_simp
           try simp only [d1]
           try simp only [d2]
           try simp only [d3]
           try with_reducible rfl
         simp only [Act.put, List.setIfInBounds_toArray, List.set_cons_zero, List.set_cons_succ])
      | (refine mv_free _ (Or.inr ⟨by rfl, rfl⟩) (⟨c0, c1, c2, c3, c4, c5, c6, c7, c8, d0, d1, d2, d3, d4, d5, d6, d7, d8⟩) ?_
         simp only [Act.put, List.setIfInBounds_toArray, List.set_cons_zero, List.set_cons_succ])
  iterate 1
    first
      | (refine mv_take ?_ (Or.inl ⟨by rfl, ?_⟩) (⟨c0, c1, c2, c3, c4, c5, c6, c7, c8, d0, d1, d2, d3, d4, d5, d6, d7, d8⟩) ?_
         rotate_left 1
         · intro u hu
           (try dsimp only at hu)
           go_simp
           try with_reducible rfl
         simp only [Act.put, List.setIfInBounds_toArray, List.set_cons_zero, List.set_cons_succ])
      | (refine mv_take _ (Or.inr ⟨by rfl, rfl⟩) (⟨c0, c1, c2, c3, c4, c5, c6, c7, c8, d0, d1, d2, d3, d4, d5, d6, d7, d8⟩) ?_
         simp only [Act.put, List.setIfInBounds_toArray, List.set_cons_zero, List.set_cons_succ])
  iterate 1
    first
      | (refine mv_free ?_ (Or.inl ⟨by rfl, ?_⟩) (⟨c0, c1, c2, c3, c4, c5, c6, c7, c8, d0, d1, d2, d3, d4, d5, d6, d7, d8⟩) ?_
         rotate_left 1
         · intro u
           go_simp
           try simp only [d1]
           try simp only [d2]
           try simp only [d3]
           try with_reducible rfl
         simp only [Act.put, List.setIfInBounds_toArray, List.set_cons_zero, List.set_cons_succ])
      | (refine mv_free _ (Or.inr ⟨by rfl, rfl⟩) (⟨c0, c1, c2, c3, c4, c5, c6, c7, c8, d0, d1, d2, d3, d4, d5, d6, d7, d8⟩) ?_
         simp only [Act.put, List.setIfInBounds_toArray, List.set_cons_zero, List.set_cons_succ])
  iterate 1
    first
      | (refine mv_take ?_ (Or.inl ⟨by rfl, ?_⟩) (⟨c0, c1, c2, c3, c4, c5, c6, c7, c8, d0, d1, d2, d3, d4, d5, d6, d7, d8⟩) ?_
         rotate_left 1
         · intro u hu
           (try dsimp only at hu)
           go_simp
           try with_reducible rfl
         simp only [Act.put, List.setIfInBounds_toArray, List.set_cons_zero, List.set_cons_succ])
      | (refine mv_take _ (Or.inr ⟨by rfl, rfl⟩) (⟨c0, c1, c2, c3, c4, c5, c6, c7, c8, d0, d1, d2, d3, d4, d5, d6, d7, d8⟩) ?_
         simp only [Act.put, List.setIfInBounds_toArray, List.set_cons_zero, List.set_cons_succ])
  iterate 1
    first
      | (refine mv_free ?_ (Or.inl ⟨by rfl, ?_⟩) (⟨c0, c1, c2, c3, c4, c5, c6, c7, c8, d0, d1, d2, d3, d4, d5, d6, d7, d8⟩) ?_
         rotate_left 1
         · intro u
           go_simp
           try simp only [d1]
           try simp only [d2]
           try simp only [d3]
           try with_reducible rfl
         simp only [Act.put, List.setIfInBounds_toArray, List.set_cons_zero, List.set_cons_succ])
      | (refine mv_free _ (Or.inr ⟨by rfl, rfl⟩) (⟨c0, c1, c2, c3, c4, c5, c6, c7, c8, d0, d1, d2, d3, d4, d5, d6, d7, d8⟩) ?_
         simp only [Act.put, List.setIfInBounds_toArray, List.set_cons_zero, List.set_cons_succ])
  iterate 1
    first
      | (refine mv_take ?_ (Or.inl ⟨by rfl, ?_⟩) (⟨c0, c1, c2, c3, c4, c5, c6, c7, c8, d0, d1, d2, d3, d4, d5, d6, d7, d8⟩) ?_
         rotate_left 1
         · intro u hu
           (try dsimp only at hu)
           go_simp
           try with_reducible rfl
         simp only [Act.put, List.setIfInBounds_toArray, List.set_cons_zero, List.set_cons_succ])
      | (refine mv_take _ (Or.inr ⟨by rfl, rfl⟩) (⟨c0, c1, c2, c3, c4, c5, c6, c7, c8, d0, d1, d2, d3, d4, d5, d6, d7, d8⟩) ?_
         simp only [Act.put, List.setIfInBounds_toArray, List.set_cons_zero, List.set_cons_succ])
  refine mv_step (fun K hK => ?_)
  go_simp
  refine (P1.out _).mono ?_
  rintro e w15 ⟨rfl, hb15⟩
  have hB15' := Lib.hid (hB14'.out.trans (hb15.mono (by have := hB14'.out.size; have := hz.out; omega)))
  clear c0 f0 d0 g0 c1 f1 d1 g1 c2 f2 d2 g2 c3 f3 d3 g3 c4 f4 d4 g4 c5 f5 d5 g5 c6 f6 d6 g6 c7 f7 d7 g7 c8 f8 d8 g8
  clear hb15
  have hA15 := HX.out _ hB15'.out
  have hB15 := HY.out _ hB15'.out
  obtain ⟨c0, f0⟩ := hA15.one 0 rfl
  obtain ⟨c1, f1⟩ := hA15.one 1 rfl
  obtain ⟨c2, f2⟩ := hA15.one 2 rfl
  obtain ⟨c3, f3⟩ := hA15.one 3 rfl
  obtain ⟨c4, f4⟩ := hA15.one 4 rfl
  obtain ⟨c5, f5⟩ := hA15.one 5 rfl
  obtain ⟨c6, f6⟩ := hA15.one 6 rfl
  obtain ⟨c7, f7⟩ := hA15.one 7 rfl
  obtain ⟨c8, f8⟩ := hA15.one 8 rfl
  obtain ⟨d0, g0⟩ := hB15.one 0 rfl
  obtain ⟨d1, g1⟩ := hB15.one 1 rfl
  obtain ⟨d2, g2⟩ := hB15.one 2 rfl
  obtain ⟨d3, g3⟩ := hB15.one 3 rfl
  obtain ⟨d4, g4⟩ := hB15.one 4 rfl
  obtain ⟨d5, g5⟩ := hB15.one 5 rfl
  obtain ⟨d6, g6⟩ := hB15.one 6 rfl
  obtain ⟨d7, g7⟩ := hB15.one 7 rfl
  obtain ⟨d8, g8⟩ := hB15.one 8 rfl
  clear hA15 hB15
  go_wp2_with fail
  refine hK.out _ _ _ (fun u hu => hu) (⟨c0, c1, c2, c3, c4, c5, c6, c7, c8, d0, d1, d2, d3, d4, d5, d6, d7, d8⟩) ?_
  clear hK K
  refine mv_step (fun K hK => ?_)
  go_simp
  refine (P2.out _).mono ?_
  rintro e w16 ⟨rfl, hb16⟩
  have hB16' := Lib.hid (hB15'.out.trans (hb16.mono (by have := hB15'.out.size; have := hz.out; omega)))
  clear c0 f0 d0 g0 c1 f1 d1 g1 c2 f2 d2 g2 c3 f3 d3 g3 c4 f4 d4 g4 c5 f5 d5 g5 c6 f6 d6 g6 c7 f7 d7 g7 c8 f8 d8 g8
  clear hb16
  have hA16 := HX.out _ hB16'.out
  have hB16 := HY.out _ hB16'.out
  obtain ⟨c0, f0⟩ := hA16.one 0 rfl
  obtain ⟨c1, f1⟩ := hA16.one 1 rfl
  obtain ⟨c2, f2⟩ := hA16.one 2 rfl
  obtain ⟨c3, f3⟩ := hA16.one 3 rfl
  obtain ⟨c4, f4⟩ := hA16.one 4 rfl
  obtain ⟨c5, f5⟩ := hA16.one 5 rfl
  obtain ⟨c6, f6⟩ := hA16.one 6 rfl
  obtain ⟨c7, f7⟩ := hA16.one 7 rfl
  obtain ⟨c8, f8⟩ := hA16.one 8 rfl
  obtain ⟨d0, g0⟩ := hB16.one 0 rfl
  obtain ⟨d1, g1⟩ := hB16.one 1 rfl
  obtain ⟨d2, g2⟩ := hB16.one 2 rfl
  obtain ⟨d3, g3⟩ := hB16.one 3 rfl
  obtain ⟨d4, g4⟩ := hB16.one 4 rfl
  obtain ⟨d5, g5⟩ := hB16.one 5 rfl
  obtain ⟨d6, g6⟩ := hB16.one 6 rfl
  obtain ⟨d7, g7⟩ := hB16.one 7 rfl
  obtain ⟨d8, g8⟩ := hB16.one 8 rfl
  clear hA16 hB16
  go_wp2_with fail
  refine hK.out _ _ _ (fun u hu => hu) (⟨c0, c1, c2, c3, c4, c5, c6, c7, c8, d0, d1, d2, d3, d4, d5, d6, d7, d8⟩) ?_
  clear hK K
  iterate 4
    first
      | (refine mv_free ?_ (Or.inl ⟨by rfl, ?_⟩) (⟨c0, c1, c2, c3, c4, c5, c6, c7, c8, d0, d1, d2, d3, d4, d5, d6, d7, d8⟩) ?_
         rotate_left 1
         · intro u
           go_simp
           try simp only [d1]
           try simp only [d2]
           try simp only [d3]
           try with_reducible rfl
         simp only [Act.put, List.setIfInBounds_toArray, List.set_cons_zero, List.set_cons_succ])
      | (refine mv_free _ (Or.inr ⟨by rfl, rfl⟩) (⟨c0, c1, c2, c3, c4, c5, c6, c7, c8, d0, d1, d2, d3, d4, d5, d6, d7, d8⟩) ?_
         simp only [Act.put, List.setIfInBounds_toArray, List.set_cons_zero, List.set_cons_succ])
  iterate 1
    first
      | (refine mv_take ?_ (Or.inl ⟨by rfl, ?_⟩) (⟨c0, c1, c2, c3, c4, c5, c6, c7, c8, d0, d1, d2, d3, d4, d5, d6, d7, d8⟩) ?_
         rotate_left 1
         · intro u hu
           (try dsimp only at hu)
           go_simp
           try with_reducible rfl
         simp only [Act.put, List.setIfInBounds_toArray, List.set_cons_zero, List.set_cons_succ])
      | (refine mv_take _ (Or.inr ⟨by rfl, rfl⟩) (⟨c0, c1, c2, c3, c4, c5, c6, c7, c8, d0, d1, d2, d3, d4, d5, d6, d7, d8⟩) ?_
         simp only [Act.put, List.setIfInBounds_toArray, List.set_cons_zero, List.set_cons_succ])
  iterate 1
    first
      | (refine mv_free ?_ (Or.inl ⟨by rfl, ?_⟩) (⟨c0, c1, c2, c3, c4, c5, c6, c7, c8, d0, d1, d2, d3, d4, d5, d6, d7, d8⟩) ?_
         rotate_left 1
         · intro u
           go_simp
           try simp only [d1]
           try simp only [d2]
           try simp only [d3]
           try with_reducible rfl
         simp only [Act.put, List.setIfInBounds_toArray, List.set_cons_zero, List.set_cons_succ])
      | (refine mv_free _ (Or.inr ⟨by rfl, rfl⟩) (⟨c0, c1, c2, c3, c4, c5, c6, c7, c8, d0, d1, d2, d3, d4, d5, d6, d7, d8⟩) ?_
         simp only [Act.put, List.setIfInBounds_toArray, List.set_cons_zero, List.set_cons_succ])
  iterate 1
    first
      | (refine mv_take ?_ (Or.inl ⟨by rfl, ?_⟩) (⟨c0, c1, c2, c3, c4, c5, c6, c7, c8, d0, d1, d2, d3, d4, d5, d6, d7, d8⟩) ?_
         rotate_left 1
         · intro u hu
           (try dsimp only at hu)
           go_simp
           try with_reducible rfl
         simp only [Act.put, List.setIfInBounds_toArray, List.set_cons_zero, List.set_cons_succ])
      | (refine mv_take _ (Or.inr ⟨by rfl, rfl⟩) (⟨c0, c1, c2, c3, c4, c5, c6, c7, c8, d0, d1, d2, d3, d4, d5, d6, d7, d8⟩) ?_
         simp only [Act.put, List.setIfInBounds_toArray, List.set_cons_zero, List.set_cons_succ])
  iterate 1
    first
      | (refine mv_free ?_ (Or.inl ⟨by rfl, ?_⟩) (⟨c0, c1, c2, c3, c4, c5, c6, c7, c8, d0, d1, d2, d3, d4, d5, d6, d7, d8⟩) ?_
         rotate_left 1
         · intro u
           go_simp
           try simp only [d1]
           try simp only [d2]
           try simp only [d3]
           try with_reducible rfl
         simp only [Act.put, List.setIfInBounds_toArray, List.set_cons_zero, List.set_cons_succ])
      | (refine mv_free _ (Or.inr ⟨by rfl, rfl⟩) (⟨c0, c1, c2, c3, c4, c5, c6, c7, c8, d0, d1, d2, d3, d4, d5, d6, d7, d8⟩) ?_
         simp only [Act.put, List.setIfInBounds_toArray, List.set_cons_zero, List.set_cons_succ])
  iterate 1
    first
      | (refine mv_take ?_ (Or.inl ⟨by rfl, ?_⟩) (⟨c0, c1, c2, c3, c4, c5, c6, c7, c8, d0, d1, d2, d3, d4, d5, d6, d7, d8⟩) ?_
         rotate_left 1
         · intro u hu
           (try dsimp only at hu)
           go_simp
           try with_reducible rfl
         simp only [Act.put, List.setIfInBounds_toArray, List.set_cons_zero, List.set_cons_succ])
      | (refine mv_take _ (Or.inr ⟨by rfl, rfl⟩) (⟨c0, c1, c2, c3, c4, c5, c6, c7, c8, d0, d1, d2, d3, d4, d5, d6, d7, d8⟩) ?_
         simp only [Act.put, List.setIfInBounds_toArray, List.set_cons_zero, List.set_cons_succ])
  iterate 1
    first
      | (refine mv_free ?_ (Or.inl ⟨by rfl, ?_⟩) (⟨c0, c1, c2, c3, c4, c5, c6, c7, c8, d0, d1, d2, d3, d4, d5, d6, d7, d8⟩) ?_
         rotate_left 1
         · intro u
           go_simp
           try simp only [d1]
           try simp only [d2]
           try simp only [d3]
           try with_reducible rfl
         simp only [Act.put, List.setIfInBounds_toArray, List.set_cons_zero, List.set_cons_succ])
      | (refine mv_free _ (Or.inr ⟨by rfl, rfl⟩) (⟨c0, c1, c2, c3, c4, c5, c6, c7, c8, d0, d1, d2, d3, d4, d5, d6, d7, d8⟩) ?_
         simp only [Act.put, List.setIfInBounds_toArray, List.set_cons_zero, List.set_cons_succ])
  iterate 1
    first
      | (refine mv_take ?_ (Or.inl ⟨by rfl, ?_⟩) (⟨c0, c1, c2, c3, c4, c5, c6, c7, c8, d0, d1, d2, d3, d4, d5, d6, d7, d8⟩) ?_
         rotate_left 1
         · intro u hu
           (try dsimp only at hu)
           go_simp
           try with_reducible rfl
         simp only [Act.put, List.setIfInBounds_toArray, List.set_cons_zero, List.set_cons_succ])
      | (refine mv_take _ (Or.inr ⟨by rfl, rfl⟩) (⟨c0, c1, c2, c3, c4, c5, c6, c7, c8, d0, d1, d2, d3, d4, d5, d6, d7, d8⟩) ?_
         simp only [Act.put, List.setIfInBounds_toArray, List.set_cons_zero, List.set_cons_succ])
  refine mv_step (fun K hK => ?_)
  go_simp
  refine (O1.out _).mono ?_
  rintro e w17 ⟨rfl, hb17⟩
  have hB17' := Lib.hid (hB16'.out.trans (hb17.mono (by have := hB16'.out.size; have := hz.out; omega)))
  clear c0 f0 d0 g0 c1 f1 d1 g1 c2 f2 d2 g2 c3 f3 d3 g3 c4 f4 d4 g4 c5 f5 d5 g5 c6 f6 d6 g6 c7 f7 d7 g7 c8 f8 d8 g8
  clear hb17
  have hA17 := HX.out _ hB17'.out
  have hB17 := HY.out _ hB17'.out
  obtain ⟨c0, f0⟩ := hA17.one 0 rfl
  obtain ⟨c1, f1⟩ := hA17.one 1 rfl
  obtain ⟨c2, f2⟩ := hA17.one 2 rfl
  obtain ⟨c3, f3⟩ := hA17.one 3 rfl
  obtain ⟨c4, f4⟩ := hA17.one 4 rfl
  obtain ⟨c5, f5⟩ := hA17.one 5 rfl
  obtain ⟨c6, f6⟩ := hA17.one 6 rfl
  obtain ⟨c7, f7⟩ := hA17.one 7 rfl
  obtain ⟨c8, f8⟩ := hA17.one 8 rfl
  obtain ⟨d0, g0⟩ := hB17.one 0 rfl
  obtain ⟨d1, g1⟩ := hB17.one 1 rfl
  obtain ⟨d2, g2⟩ := hB17.one 2 rfl
  obtain ⟨d3, g3⟩ := hB17.one 3 rfl
  obtain ⟨d4, g4⟩ := hB17.one 4 rfl
  obtain ⟨d5, g5⟩ := hB17.one 5 rfl
  obtain ⟨d6, g6⟩ := hB17.one 6 rfl
  obtain ⟨d7, g7⟩ := hB17.one 7 rfl
  obtain ⟨d8, g8⟩ := hB17.one 8 rfl
  clear hA17 hB17
  go_wp2_with fail
  refine hK.out _ _ _ (fun u hu => hu) (⟨c0, c1, c2, c3, c4, c5, c6, c7, c8, d0, d1, d2, d3, d4, d5, d6, d7, d8⟩) ?_
  clear hK K
  refine mv_step (fun K hK => ?_)
  go_simp
  refine (T1.out _).mono ?_
  rintro e w18 ⟨rfl, hb18⟩
  have hB18' := Lib.hid (hB17'.out.trans (hb18.mono (by have := hB17'.out.size; have := hz.out; omega)))
  clear c0 f0 d0 g0 c1 f1 d1 g1 c2 f2 d2 g2 c3 f3 d3 g3 c4 f4 d4 g4 c5 f5 d5 g5 c6 f6 d6 g6 c7 f7 d7 g7 c8 f8 d8 g8
  clear hb18
  have hA18 := HX.out _ hB18'.out
  have hB18 := HY.out _ hB18'.out
  obtain ⟨c0, f0⟩ := hA18.one 0 rfl
  obtain ⟨c1, f1⟩ := hA18.one 1 rfl
  obtain ⟨c2, f2⟩ := hA18.one 2 rfl
  obtain ⟨c3, f3⟩ := hA18.one 3 rfl
  obtain ⟨c4, f4⟩ := hA18.one 4 rfl
  obtain ⟨c5, f5⟩ := hA18.one 5 rfl
  obtain ⟨c6, f6⟩ := hA18.one 6 rfl
  obtain ⟨c7, f7⟩ := hA18.one 7 rfl
  obtain ⟨c8, f8⟩ := hA18.one 8 rfl
  obtain ⟨d0, g0⟩ := hB18.one 0 rfl
  obtain ⟨d1, g1⟩ := hB18.one 1 rfl
  obtain ⟨d2, g2⟩ := hB18.one 2 rfl
  obtain ⟨d3, g3⟩ := hB18.one 3 rfl
  obtain ⟨d4, g4⟩ := hB18.one 4 rfl
  obtain ⟨d5, g5⟩ := hB18.one 5 rfl
  obtain ⟨d6, g6⟩ := hB18.one 6 rfl
  obtain ⟨d7, g7⟩ := hB18.one 7 rfl
  obtain ⟨d8, g8⟩ := hB18.one 8 rfl
  clear hA18 hB18
  go_wp2_with fail
  refine hK.out _ _ _ (fun u hu => hu) (⟨c0, c1, c2, c3, c4, c5, c6, c7, c8, d0, d1, d2, d3, d4, d5, d6, d7, d8⟩) ?_
  clear hK K
  refine mv_step (fun K hK => ?_)
  go_simp
  refine (O2.out _).mono ?_
  rintro e w19 ⟨rfl, hb19⟩
  have hB19' := Lib.hid (hB18'.out.trans (hb19.mono (by have := hB18'.out.size; have := hz.out; omega)))
  clear c0 f0 d0 g0 c1 f1 d1 g1 c2 f2 d2 g2 c3 f3 d3 g3 c4 f4 d4 g4 c5 f5 d5 g5 c6 f6 d6 g6 c7 f7 d7 g7 c8 f8 d8 g8
  clear hb19
  have hA19 := HX.out _ hB19'.out
  have hB19 := HY.out _ hB19'.out
  obtain ⟨c0, f0⟩ := hA19.one 0 rfl
  obtain ⟨c1, f1⟩ := hA19.one 1 rfl
  obtain ⟨c2, f2⟩ := hA19.one 2 rfl
  obtain ⟨c3, f3⟩ := hA19.one 3 rfl
  obtain ⟨c4, f4⟩ := hA19.one 4 rfl
  obtain ⟨c5, f5⟩ := hA19.one 5 rfl
  obtain ⟨c6, f6⟩ := hA19.one 6 rfl
  obtain ⟨c7, f7⟩ := hA19.one 7 rfl
  obtain ⟨c8, f8⟩ := hA19.one 8 rfl
  obtain ⟨d0, g0⟩ := hB19.one 0 rfl
  obtain ⟨d1, g1⟩ := hB19.one 1 rfl
  obtain ⟨d2, g2⟩ := hB19.one 2 rfl
  obtain ⟨d3, g3⟩ := hB19.one 3 rfl
  obtain ⟨d4, g4⟩ := hB19.one 4 rfl
  obtain ⟨d5, g5⟩ := hB19.one 5 rfl
  obtain ⟨d6, g6⟩ := hB19.one 6 rfl
  obtain ⟨d7, g7⟩ := hB19.one 7 rfl
  obtain ⟨d8, g8⟩ := hB19.one 8 rfl
  clear hA19 hB19
  go_wp2_with fail
  refine hK.out _ _ _ (fun u hu => hu) (⟨c0, c1, c2, c3, c4, c5, c6, c7, c8, d0, d1, d2, d3, d4, d5, d6, d7, d8⟩) ?_
  clear hK K
  iterate 3
    first
      | (refine mv_free ?_ (Or.inl ⟨by rfl, ?_⟩) (⟨c0, c1, c2, c3, c4, c5, c6, c7, c8, d0, d1, d2, d3, d4, d5, d6, d7, d8⟩) ?_
         rotate_left 1
         · intro u
           go_simp
           try simp only [d1]
           try simp only [d2]
           try simp only [d3]
           try with_reducible rfl
         simp only [Act.put, List.setIfInBounds_toArray, List.set_cons_zero, List.set_cons_succ])
      | (refine mv_free _ (Or.inr ⟨by rfl, rfl⟩) (⟨c0, c1, c2, c3, c4, c5, c6, c7, c8, d0, d1, d2, d3, d4, d5, d6, d7, d8⟩) ?_
         simp only [Act.put, List.setIfInBounds_toArray, List.set_cons_zero, List.set_cons_succ])
  refine mv_step (fun K hK => ?_)
  go_simp
  refine (LV.out _).mono ?_
  rintro e w20 ⟨rfl, hb20⟩
  have hB20' := Lib.hid (hB19'.out.trans (hb20.mono (by have := hB19'.out.size; have := hz.out; omega)))
  clear c0 f0 d0 g0 c1 f1 d1 g1 c2 f2 d2 g2 c3 f3 d3 g3 c4 f4 d4 g4 c5 f5 d5 g5 c6 f6 d6 g6 c7 f7 d7 g7 c8 f8 d8 g8
  clear hb20
  have hA20 := HX.out _ hB20'.out
  have hB20 := HY.out _ hB20'.out
  obtain ⟨c0, f0⟩ := hA20.one 0 rfl
  obtain ⟨c1, f1⟩ := hA20.one 1 rfl
  obtain ⟨c2, f2⟩ := hA20.one 2 rfl
  obtain ⟨c3, f3⟩ := hA20.one 3 rfl
  obtain ⟨c4, f4⟩ := hA20.one 4 rfl
  obtain ⟨c5, f5⟩ := hA20.one 5 rfl
  obtain ⟨c6, f6⟩ := hA20.one 6 rfl
  obtain ⟨c7, f7⟩ := hA20.one 7 rfl
  obtain ⟨c8, f8⟩ := hA20.one 8 rfl
  obtain ⟨d0, g0⟩ := hB20.one 0 rfl
  obtain ⟨d1, g1⟩ := hB20.one 1 rfl
  obtain ⟨d2, g2⟩ := hB20.one 2 rfl
  obtain ⟨d3, g3⟩ := hB20.one 3 rfl
  obtain ⟨d4, g4⟩ := hB20.one 4 rfl
  obtain ⟨d5, g5⟩ := hB20.one 5 rfl
  obtain ⟨d6, g6⟩ := hB20.one 6 rfl
  obtain ⟨d7, g7⟩ := hB20.one 7 rfl
  obtain ⟨d8, g8⟩ := hB20.one 8 rfl
  clear hA20 hB20
  go_wp2_with fail
  refine hK.out _ _ _ (fun u hu => hu) (⟨c0, c1, c2, c3, c4, c5, c6, c7, c8, d0, d1, d2, d3, d4, d5, d6, d7, d8⟩) ?_
  clear hK K
  iterate 2
    first
      | (refine mv_free ?_ (Or.inl ⟨by rfl, ?_⟩) (⟨c0, c1, c2, c3, c4, c5, c6, c7, c8, d0, d1, d2, d3, d4, d5, d6, d7, d8⟩) ?_
         rotate_left 1
         · intro u
           go_simp
           try simp only [d1]
           try simp only [d2]
           try simp only [d3]
           try with_reducible rfl
         simp only [Act.put, List.setIfInBounds_toArray, List.set_cons_zero, List.set_cons_succ])
      | (refine mv_free _ (Or.inr ⟨by rfl, rfl⟩) (⟨c0, c1, c2, c3, c4, c5, c6, c7, c8, d0, d1, d2, d3, d4, d5, d6, d7, d8⟩) ?_
         simp only [Act.put, List.setIfInBounds_toArray, List.set_cons_zero, List.set_cons_succ])
  refine mv_done ?_
  go_wp2
  go_ret
  exact ⟨rfl, hb0.out.trans (hB20'.out.mono (by omega))⟩
end Go.Proofs.Ytbbmkmkalghaeaa
