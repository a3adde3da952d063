/- Whether a matrix is symmetric, of any; the document's Turn; walked. -/
import Derived.Test.YtakocggclopngaaMat4
import Derived.Test.YtakocggclopngaaMatEq2
namespace Go.Proofs.Ytakocggclopngaa
open Go.ChangeShapes Go.WideShapes Go.ChangeAt Go.RowKit
set_option linter.unusedVariables false
set_option linter.unusedSimpArgs false
def smB (X : Nat → Int) : Bool := ((X 0 == trp X 0) && (X 1 == trp X 1) && (X 2 == trp X 2)) && ((X 3 == trp X 3) && (X 4 == trp X 4) && (X 5 == trp X 5)) && ((X 6 == trp X 6) && (X 7 == trp X 7) && (X 8 == trp X 8))
set_option maxRecDepth 100000 in
set_option maxHeartbeats 8000000 in
theorem msymg (X : Nat → Int) (w : World) : Calls Try.prog 45 #[.agg #[.int .i64 (X 0), .int .i64 (X 1), .int .i64 (X 2), .int .i64 (X 3), .int .i64 (X 4), .int .i64 (X 5), .int .i64 (X 6), .int .i64 (X 7), .int .i64 (X 8)]] w fun e w' => e = .returned (.bool (smB X)) ∧ Below w.heap.size w w' := by
  obtain ⟨V, eV, hb0, hX, hz⟩ := msym_box w X
  have MT := fun u => mturn X u
  have eS : smB X = (((X 0 == trp X 0) && (X 1 == trp X 1) && (X 2 == trp X 2)) && ((X 3 == trp X 3) && (X 4 == trp X 4) && (X 5 == trp X 5)) && ((X 6 == trp X 6) && (X 7 == trp X 7) && (X 8 == trp X 8))) := rfl
  rw [eS]
  clear eS
  obtain ⟨c0, f0⟩ := hX.one 0 rfl
  obtain ⟨c1, f1⟩ := hX.one 1 rfl
  obtain ⟨c2, f2⟩ := hX.one 2 rfl
  obtain ⟨c3, f3⟩ := hX.one 3 rfl
  obtain ⟨c4, f4⟩ := hX.one 4 rfl
  obtain ⟨c5, f5⟩ := hX.one 5 rfl
  obtain ⟨c6, f6⟩ := hX.one 6 rfl
  obtain ⟨c7, f7⟩ := hX.one 7 rfl
  obtain ⟨c8, f8⟩ := hX.one 8 rfl
  generalize trp X 0 = y0 at *
  generalize trp X 1 = y1 at *
  generalize trp X 2 = y2 at *
  generalize trp X 3 = y3 at *
  generalize trp X 4 = y4 at *
  generalize trp X 5 = y5 at *
  generalize trp X 6 = y6 at *
  generalize trp X 7 = y7 at *
  generalize trp X 8 = y8 at *
  generalize X 0 = x0 at *
  generalize X 1 = x1 at *
  generalize X 2 = x2 at *
  generalize X 3 = x3 at *
  generalize X 4 = x4 at *
  generalize X 5 = x5 at *
  generalize X 6 = x6 at *
  generalize X 7 = x7 at *
  generalize X 8 = x8 at *
  have EQ := fun u => meqg x0 x1 x2 x3 x4 x5 x6 x7 x8 y0 y1 y2 y3 y4 y5 y6 y7 y8 u
  replace MT := Lib.hid MT
  generalize ((x0 == y0) && (x1 == y1) && (x2 == y2)) = b0 at *
  generalize ((x3 == y3) && (x4 == y4) && (x5 == y5)) = b1 at *
  generalize ((x6 == y6) && (x7 == y7) && (x8 == y8)) = b2 at *
  generalize (b0 && b1 && b2) = bb at *
  replace eV := Lib.hid eV
  replace hz := Lib.hid hz
  replace hb0 := Lib.hid hb0
  have hXX := Lib.hid hX
  clear hX
  go_enter Try.func45, Try.ntmps45
  go_upto_region 1 with (fail)
  rw [← eV.out]
  refine region_moves (fun u => u.cell? ⟨w.heap.size, 0, none⟩ = some (.int .i64 x0) ∧ u.cell? ⟨w.heap.size, 1, none⟩ = some (.int .i64 x1) ∧ u.cell? ⟨w.heap.size, 2, none⟩ = some (.int .i64 x2) ∧ u.cell? ⟨w.heap.size, 3, none⟩ = some (.int .i64 x3) ∧ u.cell? ⟨w.heap.size, 4, none⟩ = some (.int .i64 x4) ∧ u.cell? ⟨w.heap.size, 5, none⟩ = some (.int .i64 x5) ∧ u.cell? ⟨w.heap.size, 6, none⟩ = some (.int .i64 x6) ∧ u.cell? ⟨w.heap.size, 7, none⟩ = some (.int .i64 x7) ∧ u.cell? ⟨w.heap.size, 8, none⟩ = some (.int .i64 x8)) [] [(.take, 0), (.take, 1), (.step, 2), (.free, 3), (.free, 4)] _ (by kernel_rfl) (by kernel_rfl) (by kernel_rfl) (by kernel_rfl) (by decide) rfl (fun _ _ _ _ _ h => h) ?_
  simp only [List.filterMap_cons, List.filterMap_nil, List.getElem?_toArray, List.getElem?_cons_zero, List.getElem?_cons_succ, Option.map_some]
  iterate 2
    first
      | (refine mv_take ?_ (Or.inl ⟨by rfl, ?_⟩) (⟨c0, c1, c2, c3, c4, c5, c6, c7, c8⟩) ?_
         rotate_left 1
         · intro u hu
           (try dsimp only at hu)
           go_simp
           try with_reducible rfl
         simp only [Act.put, List.setIfInBounds_toArray, List.set_cons_zero, List.set_cons_succ])
      | (refine mv_take _ (Or.inr ⟨by rfl, rfl⟩) (⟨c0, c1, c2, c3, c4, c5, c6, c7, c8⟩) ?_
         simp only [Act.put, List.setIfInBounds_toArray, List.set_cons_zero, List.set_cons_succ])
  refine mv_step (fun K hK => ?_)
  go_simp
  refine (MT.out _).mono ?_
  rintro e w1 ⟨rfl, hb1⟩
  have hb2 := Lib.hid ((hb0.out.drew).trans (hb1.mono (by have := hb0.out.size; show _ ≤ V.heap.size; omega)))
  have hX1 := hXX.out.drew.bel hb1
  clear c0 c1 c2 c3 c4 c5 c6 c7 c8 f0 f1 f2 f3 f4 f5 f6 f7 f8 hb1
  obtain ⟨c0, f0⟩ := hX1.one 0 rfl
  obtain ⟨c1, f1⟩ := hX1.one 1 rfl
  obtain ⟨c2, f2⟩ := hX1.one 2 rfl
  obtain ⟨c3, f3⟩ := hX1.one 3 rfl
  obtain ⟨c4, f4⟩ := hX1.one 4 rfl
  obtain ⟨c5, f5⟩ := hX1.one 5 rfl
  obtain ⟨c6, f6⟩ := hX1.one 6 rfl
  obtain ⟨c7, f7⟩ := hX1.one 7 rfl
  obtain ⟨c8, f8⟩ := hX1.one 8 rfl
  clear hX1
  go_wp2_with fail
  refine hK.out _ _ _ (fun u hu => hu) (⟨c0, c1, c2, c3, c4, c5, c6, c7, c8⟩) ?_
  clear hK K
  iterate 2
    first
      | (refine mv_free ?_ (Or.inl ⟨by rfl, ?_⟩) (⟨c0, c1, c2, c3, c4, c5, c6, c7, c8⟩) ?_
         rotate_left 1
         · intro u
           go_simp
           try with_reducible rfl
         simp only [Act.put, List.setIfInBounds_toArray, List.set_cons_zero, List.set_cons_succ])
      | (refine mv_free _ (Or.inr ⟨by rfl, rfl⟩) (⟨c0, c1, c2, c3, c4, c5, c6, c7, c8⟩) ?_
         simp only [Act.put, List.setIfInBounds_toArray, List.set_cons_zero, List.set_cons_succ])
  refine mv_done ?_
  go_wp2
  go_ret
  exact ⟨rfl, hb2.out⟩
set_option maxRecDepth 100000 in
set_option maxHeartbeats 8000000 in
theorem rturn (X : Nat → Int) (w : World) : Calls Try.prog 30 #[.agg #[.int .i64 (X 0), .int .i64 (X 1), .int .i64 (X 2), .int .i64 (X 3), .int .i64 (X 4), .int .i64 (X 5), .int .i64 (X 6), .int .i64 (X 7), .int .i64 (X 8)]] w fun e w' => e = .returned (.agg #[.int .i64 (X 0), .int .i64 (X 3), .int .i64 (X 6), .int .i64 (X 1), .int .i64 (X 4), .int .i64 (X 7), .int .i64 (X 2), .int .i64 (X 5), .int .i64 (X 8)]) ∧ Below w.heap.size w w' := by
  go_enter Try.func30, Try.ntmps30
  go_wp2
  exact bodyPost_ret (v := .agg #[.int .i64 (X 0), .int .i64 (X 3), .int .i64 (X 6), .int .i64 (X 1), .int .i64 (X 4), .int .i64 (X 7), .int .i64 (X 2), .int .i64 (X 5), .int .i64 (X 8)]) (by simp [results, Try.results30, go_sem]) rfl ⟨rfl, (by repeat (first | exact Below.refl _ _ | assumption | apply Below.drew | apply below_drewN | (refine Below.alloc ?_ (by first | exact Nat.le_refl _ | omega | (simp <;> omega)) _) | (refine Below.setCell ?_ (by first | exact Nat.le_refl _ | omega | (simp <;> omega)) _)))⟩
end Go.Proofs.Ytakocggclopngaa
