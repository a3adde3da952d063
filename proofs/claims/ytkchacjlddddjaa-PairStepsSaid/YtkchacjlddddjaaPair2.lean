/- Package pair: the object Pair. -/
import Derived.Test.YtkchacjlddddjaaPair
import Derived.Test.YtkchacjlddddjaaReg
import Derived.Test.YtkchacjlddddjaaHb
namespace Go.Proofs.Ytkchacjlddddjaa
open Go.ChangeShapes Go.WideShapes Go.ChangeAt Go.RowKit
set_option linter.unusedVariables false
set_option linter.unusedSimpArgs false

def prC (tau run worst : Int) : List Value := [.int .i64 tau, .int .i64 run, .int .i64 worst]
def prR (v run : Int) : Int := if v = 1 then run + 1 else 0
def prW (v worst d : Int) : Int := if v = 0 ∨ v = 1 then (if worst < d then d else worst) else worst
theorem apt_bd (a b : Int) : 0 ≤ apt a b ∧ apt a b ≤ 1099511627774 := by
  have := clq_bd a
  have := clq_bd b
  unfold apt; omega
theorem vrd_is (x e y f tau : Int) : vrd x e y f tau = 0 ∨ vrd x e y f tau = 1 ∨ vrd x e y f tau = 2 ∨ vrd x e y f tau = 3 ∨ vrd x e y f tau = 4 := by unfold vrd; omega

set_option maxHeartbeats 400000 in
theorem pnew_ok (tau : Int) (w : World) (h0 : 0 ≤ tau) (h1 : tau ≤ 549755813887) : Calls Try.prog 28 #[.int .i64 tau] w (NewObj (prC tau 0 0) w) := by
  go_enter Try.func28, Try.ntmps28
  go_wp2
  go_ret2
  exact ⟨w.heap.size, Nat.le_refl _, rfl, Held.new w (prC tau 0 0) _, (by repeat (first | exact Below.refl _ _ | assumption | apply Below.drew | apply below_drewN | (refine Below.alloc ?_ (by first | exact Nat.le_refl _ | omega | (simp <;> omega)) _) | (refine Below.setCell ?_ (by first | exact Nat.le_refl _ | omega | (simp <;> omega)) _)))⟩
set_option maxHeartbeats 400000 in
theorem pnew_no (tau : Int) (w : World) (h : ¬ (0 ≤ tau ∧ tau ≤ 549755813887)) : Calls Try.prog 28 #[.int .i64 tau] w fun e w' => e = .returned (.tuple #[.pointer none, .int .i64 2]) ∧ w = w' := by
  go_enter Try.func28, Try.ntmps28
  go_wp2
  all_goals first | (exfalso; omega) | skip
  all_goals
    go_ret2
    exact ⟨rfl, rfl⟩
theorem prun_any (b : Nat) {tau run worst : Int} (w : World) (h : Held b (prC tau run worst) w) : Calls Try.prog 31 #[.pointer (some ⟨b, 0, none⟩)] w fun e w' => e = .returned (.int .i64 run) ∧ w = w' := by
  obtain ⟨c0, f0⟩ := h.one 0 rfl
  obtain ⟨c1, f1⟩ := h.one 1 rfl
  obtain ⟨c2, f2⟩ := h.one 2 rfl
  go_enter Try.func31, Try.ntmps31
  go_wp2
  go_ret
  exact ⟨rfl, rfl⟩
theorem prun_nil (w : World) : Calls Try.prog 31 #[.pointer none] w fun e w' => e = .returned (.int .i64 0) ∧ w = w' := by
  go_enter Try.func31, Try.ntmps31
  go_wp2
  go_ret
  exact ⟨rfl, rfl⟩
theorem pworst_any (b : Nat) {tau run worst : Int} (w : World) (h : Held b (prC tau run worst) w) : Calls Try.prog 32 #[.pointer (some ⟨b, 0, none⟩)] w fun e w' => e = .returned (.int .i64 worst) ∧ w = w' := by
  obtain ⟨c0, f0⟩ := h.one 0 rfl
  obtain ⟨c1, f1⟩ := h.one 1 rfl
  obtain ⟨c2, f2⟩ := h.one 2 rfl
  go_enter Try.func32, Try.ntmps32
  go_wp2
  go_ret
  exact ⟨rfl, rfl⟩
theorem pworst_nil (w : World) : Calls Try.prog 32 #[.pointer none] w fun e w' => e = .returned (.int .i64 0) ∧ w = w' := by
  go_enter Try.func32, Try.ntmps32
  go_wp2
  go_ret
  exact ⟨rfl, rfl⟩
theorem preset_any (b : Nat) {tau run worst : Int} (w : World) (h : Held b (prC tau run worst) w) : Calls Try.prog 29 #[.pointer (some ⟨b, 0, none⟩)] w fun e w' => e = .returned (.tuple #[]) ∧ Held b (prC tau 0 0) w' ∧ Beside b w w' := by
  obtain ⟨c0, f0⟩ := h.one 0 rfl
  obtain ⟨c1, f1⟩ := h.one 1 rfl
  obtain ⟨c2, f2⟩ := h.one 2 rfl
  go_enter Try.func29, Try.ntmps29
  go_wp2
  go_end0
  exact ⟨rfl, (((HB.start h).set 1 (.int .i64 0) (by simp [prC])).set 2 (.int .i64 0) (by simp [prC])).fin rfl rfl rfl rfl⟩
theorem preset_nil (w : World) : Calls Try.prog 29 #[.pointer none] w fun e w' => e = .returned (.tuple #[]) ∧ w = w' := by
  go_enter Try.func29, Try.ntmps29
  go_wp2
  go_end0
  exact ⟨rfl, rfl⟩
set_option maxHeartbeats 400000 in
theorem pstep_nil (x e y f : Int) (w : World) : Calls Try.prog 30 #[.pointer none, .agg #[.int .i64 x, .int .i64 e], .agg #[.int .i64 y, .int .i64 f]] w fun r w' => r = .returned (.int .i64 4) ∧ Below w.heap.size w w' := by
  go_enter Try.func30, Try.ntmps30
  go_wp2
  go_ret
  exact ⟨rfl, (by repeat (first | exact Below.refl _ _ | assumption | apply Below.drew | apply below_drewN | (refine Below.alloc ?_ (by first | exact Nat.le_refl _ | omega | (simp <;> omega)) _) | (refine Below.setCell ?_ (by first | exact Nat.le_refl _ | omega | (simp <;> omega)) _)))⟩

set_option maxRecDepth 100000 in
set_option maxHeartbeats 4000000 in
theorem pstep_any (b : Nat) {tau run worst : Int} (x e y f : Int) (w : World) (h : Held b (prC tau run worst) w) (r0 : 0 ≤ run) (r1 : run < 1000000) :
    Calls Try.prog 30 #[.pointer (some ⟨b, 0, none⟩), .agg #[.int .i64 x, .int .i64 e], .agg #[.int .i64 y, .int .i64 f]] w fun r w' => r = .returned (.int .i64 (vrd x e y f tau)) ∧ Held b (prC tau (prR (vrd x e y f tau) run) (prW (vrd x e y f tau) worst (apt x y))) w' ∧ Beside b w w' := by
  have VD := Lib.hid (fun u => verdict_any x e y f tau u)
  have AP := Lib.hid (fun u => apart_any x y u)
  have vis := vrd_is x e y f tau
  generalize vrd x e y f tau = v at *
  have db := apt_bd x y
  generalize apt x y = d at *
  obtain ⟨c0, f0⟩ := h.one 0 rfl
  obtain ⟨c1, f1⟩ := h.one 1 rfl
  obtain ⟨c2, f2⟩ := h.one 2 rfl
  have ba : b < w.heap.size := h.lt
  have hne0 : w.heap.size ≠ b := by omega
  have hne1 : w.heap.size + 1 ≠ b := by omega
  go_enter Try.func30, Try.ntmps30
  go_wp2_with fail
  refine region_still [(.take, 0), (.take, 1), (.take, 2), (.take, 3), (.take, 4), (.take, 5), (.late, 6), (.take, 7)] _ (by kernel_rfl) (by kernel_rfl) (by kernel_rfl) (by decide) rfl (fun _ _ _ _ _ h => h) ?_
  simp only [List.filterMap_cons, List.filterMap_nil, List.getElem?_toArray, List.getElem?_cons_zero, List.getElem?_cons_succ, Option.map_some]
  iterate 6
    first
      | (refine mv_take ?_ (Or.inl ⟨by rfl, ?_⟩) (rfl) ?_
         rotate_left 1
         · intro u hu
           (try dsimp only at hu)
           go_simp
           try with_reducible rfl
         simp only [Act.put, List.setIfInBounds_toArray, List.set_cons_zero, List.set_cons_succ])
      | (refine mv_take _ (Or.inr ⟨by rfl, rfl⟩) (rfl) ?_
         simp only [Act.put, List.setIfInBounds_toArray, List.set_cons_zero, List.set_cons_succ])
  refine mv_late (fun K hK => ?_)
  go_simp
  refine (VD.out _).mono ?_
  rintro e w1 ⟨rfl, hb1⟩
  go_wp2_with fail
  refine hK.out (fun _ => True) _ _ ?_
  clear hK K
  iterate 1
    first
      | (refine mv_take ?_ (Or.inl ⟨by rfl, ?_⟩) (trivial) ?_
         rotate_left 1
         · intro u hu
           (try dsimp only at hu)
           go_simp
           try with_reducible rfl
         simp only [Act.put, List.setIfInBounds_toArray, List.set_cons_zero, List.set_cons_succ])
      | (refine mv_take _ (Or.inr ⟨by rfl, rfl⟩) (trivial) ?_
         simp only [Act.put, List.setIfInBounds_toArray, List.set_cons_zero, List.set_cons_succ])
  refine mv_done ?_
  have h1 : Held b (prC tau run worst) w1 := (((h.alloc _).alloc _).drew).bel hb1
  have o1 : Beside b w w1 := Beside.of_below (Below.trans (by repeat (first | exact Below.refl _ _ | assumption | apply Below.drew | apply below_drewN | (refine Below.alloc ?_ (by first | exact Nat.le_refl _ | omega | (simp <;> omega)) _) | (refine Below.setCell ?_ (by first | exact Nat.le_refl _ | omega | (simp <;> omega)) _))) (hb1.mono (by simp; omega)))
  have c10 : w1.cell? ⟨w.heap.size, 0, none⟩ = some (.int .i64 x) := (bc hb1 (by simp; omega)).trans (by go_simp)
  have c20 : w1.cell? ⟨w.heap.size + 1, 0, none⟩ = some (.int .i64 y) := (bc hb1 (by simp)).trans (by go_simp)
  clear c0 c1 c2 f0 f1 f2 hb1 h VD
  obtain ⟨c0, f0⟩ := h1.one 0 rfl
  obtain ⟨c1, f1⟩ := h1.one 1 rfl
  obtain ⟨c2, f2⟩ := h1.one 2 rfl
  rcases vis with rfl | rfl | rfl | rfl | rfl
  · by_cases hwd : worst < d
    all_goals
      go_wp2_with fail
      refine region_still [(.take, 0), (.take, 1), (.take, 2), (.take, 3), (.take, 4), (.take, 5), (.take, 6), (.take, 7), (.take, 8), (.step, 9), (.take, 10), (.take, 11), (.take, 12), (.late, 13)] _ (by kernel_rfl) (by kernel_rfl) (by kernel_rfl) (by decide) rfl (fun _ _ _ _ _ h => h) ?_
      simp only [List.filterMap_cons, List.filterMap_nil, List.getElem?_toArray, List.getElem?_cons_zero, List.getElem?_cons_succ, Option.map_some]
      iterate 9
        first
          | (refine mv_take ?_ (Or.inl ⟨by rfl, ?_⟩) (rfl) ?_
             rotate_left 1
             · intro u hu
               (try dsimp only at hu)
               go_simp
               try with_reducible rfl
             simp only [Act.put, List.setIfInBounds_toArray, List.set_cons_zero, List.set_cons_succ])
          | (refine mv_take _ (Or.inr ⟨by rfl, rfl⟩) (rfl) ?_
             simp only [Act.put, List.setIfInBounds_toArray, List.set_cons_zero, List.set_cons_succ])
      refine mv_step (fun K hK => ?_)
      go_simp
      refine (AP.out _).mono ?_
      rintro e w' ⟨rfl, rfl⟩
      go_wp2_with fail
      refine hK.out _ _ _ (fun u hu => hu) (rfl) ?_
      clear hK K
      iterate 3
        first
          | (refine mv_take ?_ (Or.inl ⟨by rfl, ?_⟩) (rfl) ?_
             rotate_left 1
             · intro u hu
               (try dsimp only at hu)
               go_simp
               try with_reducible rfl
             simp only [Act.put, List.setIfInBounds_toArray, List.set_cons_zero, List.set_cons_succ])
          | (refine mv_take _ (Or.inr ⟨by rfl, rfl⟩) (rfl) ?_
             simp only [Act.put, List.setIfInBounds_toArray, List.set_cons_zero, List.set_cons_succ])
      refine mv_late (fun K hK => ?_)
      go_simp
      refine hK.out (fun _ => True) _ _ ?_
      clear hK K
      refine mv_done ?_
      go_wp2
      go_ret
      first
        | exact ⟨rfl, ((((HB.mk h1 o1).set 1 (.int .i64 (0)) (by simp [prC])).set 2 (.int .i64 d) (by simp [prC])).is (show _ = prC tau (prR 0 run) (prW 0 worst d) by simp [prC, prR, prW, hwd])).fin rfl rfl rfl rfl⟩
        | exact ⟨rfl, ((((HB.mk h1 o1).set 1 (.int .i64 (0)) (by simp [prC])).set 2 (.int .i64 worst) (by simp [prC])).is (show _ = prC tau (prR 0 run) (prW 0 worst d) by rw [show prW 0 worst d = worst by unfold prW; omega]; simp [prC, prR])).fin rfl rfl rfl rfl⟩
  · by_cases hwd : worst < d
    all_goals
      go_wp2_with fail
      refine region_still [(.take, 0), (.take, 1), (.take, 2), (.take, 3), (.take, 4), (.take, 5), (.take, 6), (.take, 7), (.take, 8), (.step, 9), (.take, 10), (.take, 11), (.take, 12), (.late, 13)] _ (by kernel_rfl) (by kernel_rfl) (by kernel_rfl) (by decide) rfl (fun _ _ _ _ _ h => h) ?_
      simp only [List.filterMap_cons, List.filterMap_nil, List.getElem?_toArray, List.getElem?_cons_zero, List.getElem?_cons_succ, Option.map_some]
      iterate 9
        first
          | (refine mv_take ?_ (Or.inl ⟨by rfl, ?_⟩) (rfl) ?_
             rotate_left 1
             · intro u hu
               (try dsimp only at hu)
               go_simp
               try with_reducible rfl
             simp only [Act.put, List.setIfInBounds_toArray, List.set_cons_zero, List.set_cons_succ])
          | (refine mv_take _ (Or.inr ⟨by rfl, rfl⟩) (rfl) ?_
             simp only [Act.put, List.setIfInBounds_toArray, List.set_cons_zero, List.set_cons_succ])
      refine mv_step (fun K hK => ?_)
      go_simp
      refine (AP.out _).mono ?_
      rintro e w' ⟨rfl, rfl⟩
      go_wp2_with fail
      refine hK.out _ _ _ (fun u hu => hu) (rfl) ?_
      clear hK K
      iterate 3
        first
          | (refine mv_take ?_ (Or.inl ⟨by rfl, ?_⟩) (rfl) ?_
             rotate_left 1
             · intro u hu
               (try dsimp only at hu)
               go_simp
               try with_reducible rfl
             simp only [Act.put, List.setIfInBounds_toArray, List.set_cons_zero, List.set_cons_succ])
          | (refine mv_take _ (Or.inr ⟨by rfl, rfl⟩) (rfl) ?_
             simp only [Act.put, List.setIfInBounds_toArray, List.set_cons_zero, List.set_cons_succ])
      refine mv_late (fun K hK => ?_)
      go_simp
      refine hK.out (fun _ => True) _ _ ?_
      clear hK K
      refine mv_done ?_
      go_wp2
      go_ret
      first
        | exact ⟨rfl, ((((HB.mk h1 o1).set 1 (.int .i64 (run + 1)) (by simp [prC])).set 2 (.int .i64 d) (by simp [prC])).is (show _ = prC tau (prR 1 run) (prW 1 worst d) by simp [prC, prR, prW, hwd])).fin rfl rfl rfl rfl⟩
        | exact ⟨rfl, ((((HB.mk h1 o1).set 1 (.int .i64 (run + 1)) (by simp [prC])).set 2 (.int .i64 worst) (by simp [prC])).is (show _ = prC tau (prR 1 run) (prW 1 worst d) by rw [show prW 1 worst d = worst by unfold prW; omega]; simp [prC, prR])).fin rfl rfl rfl rfl⟩
  · go_wp2
    go_ret
    have hb : HB b (prC tau 0 worst) w _ := (HB.mk h1 o1).set 1 (.int .i64 0) (by simp [prC])
    exact ⟨rfl, hb.fin rfl rfl rfl rfl⟩
  · go_wp2
    go_ret
    have hb : HB b (prC tau 0 worst) w _ := (HB.mk h1 o1).set 1 (.int .i64 0) (by simp [prC])
    exact ⟨rfl, hb.fin rfl rfl rfl rfl⟩
  · go_wp2
    go_ret
    have hb : HB b (prC tau 0 worst) w _ := (HB.mk h1 o1).set 1 (.int .i64 0) (by simp [prC])
    exact ⟨rfl, hb.fin rfl rfl rfl rfl⟩
end Go.Proofs.Ytkchacjlddddjaa
