/- A link: its object, New, what it tells; receive; walked. -/
import Derived.Test.YtbbmkmkalghaeaaFrame7
import Derived.Test.YtbbmkmkalghaeaaAtom
import Derived.Test.YtbbmkmkalghaeaaHb
import Derived.Deep.Cut
namespace Go.Proofs.Ytbbmkmkalghaeaa
open Go.ChangeShapes Go.WideShapes Go.ChangeAt Go.RowKit
set_option linter.unusedVariables false
set_option linter.unusedSimpArgs false

/-- A link's cells. -/
def lkC (id pa i s v t : Int) (kn : Bool) (ag ta re : Int) : List Value := [.int .i64 id, .int .i64 pa, .int .i64 i, .int .i64 s, .int .i64 v, .int .i64 t, .bool kn, .int .i64 ag, .int .i64 ta, .int .i64 re]
set_option maxRecDepth 100000 in
set_option maxHeartbeats 8000000 in
theorem lknew_no (id pa : Int) (w : World) (h : id < 0 ∨ 255 < id ∨ pa < 0 ∨ 1000 < pa) : Calls Try.prog 69 #[.int .i64 id, .int .i64 pa] w fun e w' => e = .returned (.tuple #[.pointer none, .int .i64 2]) ∧ w = w' := by
  rcases (show id < 0 ∨ (0 ≤ id ∧ 255 < id) ∨ (0 ≤ id ∧ id ≤ 255 ∧ pa < 0) ∨ (0 ≤ id ∧ id ≤ 255 ∧ 0 ≤ pa ∧ 1000 < pa) by omega) with g | ⟨g, g2⟩ | ⟨g, g2, g3⟩ | ⟨g, g2, g3, g4⟩
  all_goals
    clear h
    go_enter Try.func69, Try.ntmps69
    go_wp2
    go_ret2
    exact ⟨rfl, rfl⟩
set_option maxRecDepth 100000 in
set_option maxHeartbeats 8000000 in
theorem lknew_ok (id pa : Int) (w : World) (h : 0 ≤ id ∧ id ≤ 255 ∧ 0 ≤ pa ∧ pa ≤ 1000) : Calls Try.prog 69 #[.int .i64 id, .int .i64 pa] w (NewObj (lkC id pa 0 0 0 0 false 0 0 0) w) := by
  obtain ⟨g, g2, g3, g4⟩ := h
  go_enter Try.func69, Try.ntmps69
  go_wp2
  go_ret2
  exact ⟨w.heap.size, Nat.le_refl _, rfl, Held.new w (lkC id pa 0 0 0 0 false 0 0 0) _, (by repeat (first | exact Below.refl _ _ | assumption | apply Below.drew | apply below_drewN | (refine Below.alloc ?_ (by first | exact Nat.le_refl _ | omega | (simp <;> omega)) _) | (refine Below.setCell ?_ (by first | exact Nat.le_refl _ | omega | (simp <;> omega)) _)))⟩
set_option maxRecDepth 100000 in
set_option maxHeartbeats 8000000 in
theorem lkstale {id pa i s v t ag ta re : Int} {kn : Bool} (b : Nat) (w : World) (h : Held b (lkC id pa i s v t kn ag ta re) w) : Calls Try.prog 80 #[.pointer (some ⟨b, 0, none⟩)] w fun e w' => e = .returned (.bool (decide (pa < ag))) ∧ w' = w.drew := by
  obtain ⟨c0, f0⟩ := h.one 0 rfl
  obtain ⟨c1, f1⟩ := h.one 1 rfl
  obtain ⟨c2, f2⟩ := h.one 2 rfl
  obtain ⟨c3, f3⟩ := h.one 3 rfl
  obtain ⟨c4, f4⟩ := h.one 4 rfl
  obtain ⟨c5, f5⟩ := h.one 5 rfl
  obtain ⟨c6, f6⟩ := h.one 6 rfl
  obtain ⟨c7, f7⟩ := h.one 7 rfl
  obtain ⟨c8, f8⟩ := h.one 8 rfl
  obtain ⟨c9, f9⟩ := h.one 9 rfl
  go_enter Try.func80, Try.ntmps80
  go_wp2_with fail
  refine region_moves (fun u => u.cell? ⟨b, 7, none⟩ = some (.int .i64 ag) ∧ u.cell? ⟨b, 1, none⟩ = some (.int .i64 pa)) [] [(.free, 0), (.free, 1), (.free, 2), (.free, 3), (.free, 4), (.free, 5), (.free, 6), (.take, 7), (.free, 8), (.free, 9), (.free, 10), (.take, 11), (.free, 12), (.free, 13), (.free, 14)] _ (by kernel_rfl) (by kernel_rfl) (by kernel_rfl) (by kernel_rfl) (by decide) rfl (fun _ _ _ _ _ h => h) ?_
  simp only [List.filterMap_cons, List.filterMap_nil, List.getElem?_toArray, List.getElem?_cons_zero, List.getElem?_cons_succ, Option.map_some]
  iterate 7
    first
      | (refine mv_free ?_ (Or.inl ⟨by rfl, ?_⟩) (⟨c7, c1⟩) ?_
         rotate_left 1
         · intro u
           go_simp
           try simp only [d1]
           try simp only [d2]
           try simp only [d3]
           try with_reducible rfl
         simp only [Act.put, List.setIfInBounds_toArray, List.set_cons_zero, List.set_cons_succ])
      | (refine mv_free _ (Or.inr ⟨by rfl, rfl⟩) (⟨c7, c1⟩) ?_
         simp only [Act.put, List.setIfInBounds_toArray, List.set_cons_zero, List.set_cons_succ])
  iterate 1
    first
      | (refine mv_take ?_ (Or.inl ⟨by rfl, ?_⟩) (⟨c7, c1⟩) ?_
         rotate_left 1
         · intro u hu
           (try dsimp only at hu)
           go_simp
           try with_reducible rfl
         simp only [Act.put, List.setIfInBounds_toArray, List.set_cons_zero, List.set_cons_succ])
      | (refine mv_take _ (Or.inr ⟨by rfl, rfl⟩) (⟨c7, c1⟩) ?_
         simp only [Act.put, List.setIfInBounds_toArray, List.set_cons_zero, List.set_cons_succ])
  iterate 3
    first
      | (refine mv_free ?_ (Or.inl ⟨by rfl, ?_⟩) (⟨c7, c1⟩) ?_
         rotate_left 1
         · intro u
           go_simp
           try simp only [d1]
           try simp only [d2]
           try simp only [d3]
           try with_reducible rfl
         simp only [Act.put, List.setIfInBounds_toArray, List.set_cons_zero, List.set_cons_succ])
      | (refine mv_free _ (Or.inr ⟨by rfl, rfl⟩) (⟨c7, c1⟩) ?_
         simp only [Act.put, List.setIfInBounds_toArray, List.set_cons_zero, List.set_cons_succ])
  iterate 1
    first
      | (refine mv_take ?_ (Or.inl ⟨by rfl, ?_⟩) (⟨c7, c1⟩) ?_
         rotate_left 1
         · intro u hu
           (try dsimp only at hu)
           go_simp
           try with_reducible rfl
         simp only [Act.put, List.setIfInBounds_toArray, List.set_cons_zero, List.set_cons_succ])
      | (refine mv_take _ (Or.inr ⟨by rfl, rfl⟩) (⟨c7, c1⟩) ?_
         simp only [Act.put, List.setIfInBounds_toArray, List.set_cons_zero, List.set_cons_succ])
  iterate 3
    first
      | (refine mv_free ?_ (Or.inl ⟨by rfl, ?_⟩) (⟨c7, c1⟩) ?_
         rotate_left 1
         · intro u
           go_simp
           try simp only [d1]
           try simp only [d2]
           try simp only [d3]
           try with_reducible rfl
         simp only [Act.put, List.setIfInBounds_toArray, List.set_cons_zero, List.set_cons_succ])
      | (refine mv_free _ (Or.inr ⟨by rfl, rfl⟩) (⟨c7, c1⟩) ?_
         simp only [Act.put, List.setIfInBounds_toArray, List.set_cons_zero, List.set_cons_succ])
  refine mv_done ?_
  go_wp2
  go_ret
  exact ⟨by first | rfl | exact ret_bool (by simp), rfl⟩
set_option maxRecDepth 100000 in
set_option maxHeartbeats 8000000 in
theorem lkstale_nil (w : World) : Calls Try.prog 80 #[.pointer none] w fun e w' => e = .returned (.bool true) ∧ w' = w.drew := by
  go_enter Try.func80, Try.ntmps80
  go_wp2_with fail
  refine region_still [] [(.free, 0), (.free, 1), (.free, 2), (.free, 3), (.free, 4), (.free, 5), (.free, 6), (.take, 7), (.free, 8), (.free, 9), (.free, 10), (.take, 11), (.free, 12), (.free, 13), (.free, 14)] _ (by kernel_rfl) (by kernel_rfl) (by kernel_rfl) (by kernel_rfl) (by decide) rfl (fun _ _ _ _ _ h => h) ?_
  simp only [List.filterMap_cons, List.filterMap_nil, List.getElem?_toArray, List.getElem?_cons_zero, List.getElem?_cons_succ, Option.map_some]
  iterate 7
    first
      | (refine mv_free ?_ (Or.inl ⟨by rfl, ?_⟩) (rfl) ?_
         rotate_left 1
         · intro u
           go_simp
           try simp only [d1]
           try simp only [d2]
           try simp only [d3]
           try with_reducible rfl
         simp only [Act.put, List.setIfInBounds_toArray, List.set_cons_zero, List.set_cons_succ])
      | (refine mv_free _ (Or.inr ⟨by rfl, rfl⟩) (rfl) ?_
         simp only [Act.put, List.setIfInBounds_toArray, List.set_cons_zero, List.set_cons_succ])
  iterate 1
    first
      | (refine mv_take ?_ (Or.inl ⟨by rfl, ?_⟩) (rfl) ?_
         rotate_left 1
         · intro u hu
           (try dsimp only at hu)
           go_simp
           try with_reducible rfl
         simp only [Act.put, List.setIfInBounds_toArray, List.set_cons_zero, List.set_cons_succ])
      | (refine mv_take _ (Or.inr ⟨by rfl, rfl⟩) (rfl) ?_
         simp only [Act.put, List.setIfInBounds_toArray, List.set_cons_zero, List.set_cons_succ])
  iterate 3
    first
      | (refine mv_free ?_ (Or.inl ⟨by rfl, ?_⟩) (rfl) ?_
         rotate_left 1
         · intro u
           go_simp
           try simp only [d1]
           try simp only [d2]
           try simp only [d3]
           try with_reducible rfl
         simp only [Act.put, List.setIfInBounds_toArray, List.set_cons_zero, List.set_cons_succ])
      | (refine mv_free _ (Or.inr ⟨by rfl, rfl⟩) (rfl) ?_
         simp only [Act.put, List.setIfInBounds_toArray, List.set_cons_zero, List.set_cons_succ])
  iterate 1
    first
      | (refine mv_take ?_ (Or.inl ⟨by rfl, ?_⟩) (rfl) ?_
         rotate_left 1
         · intro u hu
           (try dsimp only at hu)
           go_simp
           try with_reducible rfl
         simp only [Act.put, List.setIfInBounds_toArray, List.set_cons_zero, List.set_cons_succ])
      | (refine mv_take _ (Or.inr ⟨by rfl, rfl⟩) (rfl) ?_
         simp only [Act.put, List.setIfInBounds_toArray, List.set_cons_zero, List.set_cons_succ])
  iterate 3
    first
      | (refine mv_free ?_ (Or.inl ⟨by rfl, ?_⟩) (rfl) ?_
         rotate_left 1
         · intro u
           go_simp
           try simp only [d1]
           try simp only [d2]
           try simp only [d3]
           try with_reducible rfl
         simp only [Act.put, List.setIfInBounds_toArray, List.set_cons_zero, List.set_cons_succ])
      | (refine mv_free _ (Or.inr ⟨by rfl, rfl⟩) (rfl) ?_
         simp only [Act.put, List.setIfInBounds_toArray, List.set_cons_zero, List.set_cons_succ])
  refine mv_done ?_
  go_wp2
  go_ret
  exact ⟨rfl, rfl⟩
theorem lkreset_nil (w : World) : Calls Try.prog 73 #[.pointer none] w fun e w' => e = .returned (.tuple #[]) ∧ w = w' := by
  go_enter Try.func73, Try.ntmps73
  go_wp2
  go_end0
  exact ⟨rfl, rfl⟩
end Go.Proofs.Ytbbmkmkalghaeaa
