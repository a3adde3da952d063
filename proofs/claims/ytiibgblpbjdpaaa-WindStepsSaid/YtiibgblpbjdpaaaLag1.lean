/- Package lag: the filter Lag. -/
import Derived.Test.YtiibgblpbjdpaaaClip
import Derived.Test.YtiibgblpbjdpaaaReg
import Derived.Test.YtiibgblpbjdpaaaHb
import Derived.BigRegion
namespace Go.Proofs.Ytiibgblpbjdpaaa
open Go.ChangeShapes Go.WideShapes Go.ChangeAt Go.RowKit
set_option linter.unusedVariables false
set_option linter.unusedSimpArgs false

def lgC (sh y : Int) (kn : Bool) : List Value := [.int .i64 sh, .int .i64 y, .bool kn]
def lgV (sh y x : Int) : Int := y + (x - y) / 2 ^ sh.toNat

theorem lgQ_bd (sh d : Int) (h : -1099511627774 ≤ d ∧ d ≤ 1099511627774) : -1099511627774 ≤ d / 2 ^ sh.toNat ∧ d / 2 ^ sh.toNat ≤ 1099511627774 ∧ (0 ≤ d → d / 2 ^ sh.toNat ≤ d) ∧ (0 ≤ d → 0 ≤ d / 2 ^ sh.toNat) ∧ (d ≤ 0 → d ≤ d / 2 ^ sh.toNat) ∧ (d ≤ 0 → d / 2 ^ sh.toNat ≤ 0) := by
  have hp : (0 : Int) < 2 ^ sh.toNat := Int.pow_pos (by omega)
  generalize (2 : Int) ^ sh.toNat = p at *
  have e := Int.mul_ediv_add_emod d p
  have r1 := Int.emod_nonneg d (by omega : p ≠ 0)
  have r2 := Int.emod_lt_of_pos d hp
  have a1 : 0 ≤ d → 0 ≤ d / p ∧ d / p ≤ d := fun h => ⟨Int.ediv_nonneg h (by omega), Int.ediv_le_self p h⟩
  have a2 : d ≤ 0 → d / p ≤ 0 := fun h => by
    apply Int.not_lt.1
    intro hc
    have := Int.mul_le_mul_of_nonneg_left (show 1 ≤ d / p by omega) (show 0 ≤ p by omega)
    omega
  have a3 : d ≤ 0 → d ≤ d / p := fun h => by
    apply Int.not_lt.1
    intro hc
    have h1 : p * (d / p + 1) = p * (d / p) + p := by rw [Int.mul_add, Int.mul_one]
    have h2 := Int.mul_le_mul_of_nonneg_right (show 1 ≤ p by omega) (show 0 ≤ -(d / p + 1) by omega)
    rw [Int.mul_neg, Int.mul_neg, Int.one_mul] at h2
    omega
  refine ⟨?_, ?_, fun h => (a1 h).2, fun h => (a1 h).1, a3, a2⟩
  · rcases Int.le_total 0 d with h | h
    · have := a1 h; omega
    · have := a3 h; omega
  · rcases Int.le_total 0 d with h | h
    · have := a1 h; omega
    · have := a2 h; omega

set_option maxHeartbeats 400000 in
theorem lgnew_ok (sh : Int) (w : World) (h0 : 0 ≤ sh) (h1 : sh ≤ 16) : Calls Try.prog 49 #[.int .i64 sh] w (NewObj (lgC sh 0 false) w) := by
  go_enter Try.func49, Try.ntmps49
  go_wp2
  go_ret2
  exact ⟨w.heap.size, Nat.le_refl _, rfl, Held.new w (lgC sh 0 false) _, (by repeat (first | exact Below.refl _ _ | assumption | apply Below.drew | apply below_drewN | (refine Below.alloc ?_ (by first | exact Nat.le_refl _ | omega | (simp <;> omega)) _) | (refine Below.setCell ?_ (by first | exact Nat.le_refl _ | omega | (simp <;> omega)) _)))⟩
set_option maxHeartbeats 400000 in
theorem lgnew_no (sh : Int) (w : World) (h : ¬ (0 ≤ sh ∧ sh ≤ 16)) : Calls Try.prog 49 #[.int .i64 sh] w fun e w' => e = .returned (.tuple #[.pointer none, .int .i64 2]) ∧ w = w' := by
  go_enter Try.func49, Try.ntmps49
  go_wp2
  all_goals first | (exfalso; omega) | skip
  all_goals
    go_ret2
    exact ⟨rfl, rfl⟩
theorem lgval_any (b : Nat) {sh y : Int} {kn : Bool} (w : World) (h : Held b (lgC sh y kn) w) : Calls Try.prog 53 #[.pointer (some ⟨b, 0, none⟩)] w fun e w' => e = .returned (.tuple #[.int .i64 y, .bool kn]) ∧ w' = w.drew := by
  obtain ⟨c0, f0⟩ := h.one 0 rfl
  obtain ⟨c1, f1⟩ := h.one 1 rfl
  obtain ⟨c2, f2⟩ := h.one 2 rfl
  go_enter Try.func53, Try.ntmps53
  go_wp2_with fail
  refine region_still [] [(.free, 0), (.free, 1), (.free, 2), (.take, 3), (.free, 4), (.free, 5), (.free, 6), (.take, 7), (.free, 8), (.free, 9)] _ (by kernel_rfl) (by kernel_rfl) (by kernel_rfl) (by kernel_rfl) (by decide) rfl (fun _ _ _ _ _ h => h) ?_
  simp only [List.filterMap_cons, List.filterMap_nil, List.getElem?_toArray, List.getElem?_cons_zero, List.getElem?_cons_succ, Option.map_some]
  iterate 3
    first
      | (refine mv_free ?_ (Or.inl ⟨by rfl, ?_⟩) (rfl) ?_
         rotate_left 1
         · intro u
           go_simp
           try with_reducible rfl
         simp only [Act.put, List.setIfInBounds_toArray, List.set_cons_zero, List.set_cons_succ])
      | (refine mv_free _ (Or.inr ⟨by rfl, rfl⟩) (rfl) ?_
         simp only [Act.put, List.setIfInBounds_toArray, List.set_cons_zero, List.set_cons_succ])
  iterate 1
    first
      | (refine mv_take ?_ (Or.inl ⟨by rfl, ?_⟩) (rfl) ?_
         rotate_left 1
         · intro u hu
           (try dsimp only at hu)
           go_simp
           try with_reducible rfl
         simp only [Act.put, List.setIfInBounds_toArray, List.set_cons_zero, List.set_cons_succ])
      | (refine mv_take _ (Or.inr ⟨by rfl, rfl⟩) (rfl) ?_
         simp only [Act.put, List.setIfInBounds_toArray, List.set_cons_zero, List.set_cons_succ])
  iterate 3
    first
      | (refine mv_free ?_ (Or.inl ⟨by rfl, ?_⟩) (rfl) ?_
         rotate_left 1
         · intro u
           go_simp
           try with_reducible rfl
         simp only [Act.put, List.setIfInBounds_toArray, List.set_cons_zero, List.set_cons_succ])
      | (refine mv_free _ (Or.inr ⟨by rfl, rfl⟩) (rfl) ?_
         simp only [Act.put, List.setIfInBounds_toArray, List.set_cons_zero, List.set_cons_succ])
  iterate 1
    first
      | (refine mv_take ?_ (Or.inl ⟨by rfl, ?_⟩) (rfl) ?_
         rotate_left 1
         · intro u hu
           (try dsimp only at hu)
           go_simp
           try with_reducible rfl
         simp only [Act.put, List.setIfInBounds_toArray, List.set_cons_zero, List.set_cons_succ])
      | (refine mv_take _ (Or.inr ⟨by rfl, rfl⟩) (rfl) ?_
         simp only [Act.put, List.setIfInBounds_toArray, List.set_cons_zero, List.set_cons_succ])
  iterate 2
    first
      | (refine mv_free ?_ (Or.inl ⟨by rfl, ?_⟩) (rfl) ?_
         rotate_left 1
         · intro u
           go_simp
           try with_reducible rfl
         simp only [Act.put, List.setIfInBounds_toArray, List.set_cons_zero, List.set_cons_succ])
      | (refine mv_free _ (Or.inr ⟨by rfl, rfl⟩) (rfl) ?_
         simp only [Act.put, List.setIfInBounds_toArray, List.set_cons_zero, List.set_cons_succ])
  refine mv_done ?_
  go_wp2
  go_ret2
  exact ⟨rfl, rfl⟩
theorem lgval_nil (w : World) : Calls Try.prog 53 #[.pointer none] w fun e w' => e = .returned (.tuple #[.int .i64 0, .bool false]) ∧ w = w' := by
  go_enter Try.func53, Try.ntmps53
  go_wp2
  go_ret2
  exact ⟨rfl, rfl⟩
theorem lgreset_any (b : Nat) {sh y : Int} {kn : Bool} (w : World) (h : Held b (lgC sh y kn) w) : Calls Try.prog 52 #[.pointer (some ⟨b, 0, none⟩)] w fun e w' => e = .returned (.tuple #[]) ∧ Held b (lgC sh 0 false) w' ∧ Beside b w w' := by
  obtain ⟨c0, f0⟩ := h.one 0 rfl
  obtain ⟨c1, f1⟩ := h.one 1 rfl
  obtain ⟨c2, f2⟩ := h.one 2 rfl
  go_enter Try.func52, Try.ntmps52
  go_wp2
  go_end0
  exact ⟨rfl, (((HB.start h).set 1 (.int .i64 0) (by simp [lgC])).set 2 (.bool false) (by simp [lgC])).fin rfl rfl rfl rfl⟩
theorem lgreset_nil (w : World) : Calls Try.prog 52 #[.pointer none] w fun e w' => e = .returned (.tuple #[]) ∧ w = w' := by
  go_enter Try.func52, Try.ntmps52
  go_wp2
  go_end0
  exact ⟨rfl, rfl⟩
theorem lgstep_nil (x : Int) (w : World) : Calls Try.prog 51 #[.pointer none, .int .i64 x] w fun e w' => e = .returned (.int .i64 0) ∧ w = w' := by
  go_enter Try.func51, Try.ntmps51
  go_wp2
  go_ret
  exact ⟨rfl, rfl⟩

set_option maxRecDepth 100000 in
set_option maxHeartbeats 4000000 in
theorem lgstep_any (b : Nat) {sh y : Int} {kn : Bool} (x0 : Int) (w : World) (h : Held b (lgC sh y kn) w) (h0 : 0 ≤ sh) (h1 : sh ≤ 16) (y1 : -549755813887 ≤ y) (y2 : y ≤ 549755813887) :
    Calls Try.prog 51 #[.pointer (some ⟨b, 0, none⟩), .int .i64 x0] w fun e w' => e = .returned (.int .i64 (lgV sh (if kn then y else clq x0) (clq x0))) ∧ Held b (lgC sh (lgV sh (if kn then y else clq x0) (clq x0)) true) w' ∧ Beside b w w' := by
  have CL := Lib.hid (fun u => lclip_any x0 u)
  have xb := clq_bd x0
  generalize clq x0 = x at *
  obtain ⟨c0, f0⟩ := h.one 0 rfl
  obtain ⟨c1, f1⟩ := h.one 1 rfl
  obtain ⟨c2, f2⟩ := h.one 2 rfl
  have qb := lgQ_bd sh (x - y) ⟨by omega, by omega⟩
  have hw0 : IntKind.i64.wrap 0 = 0 := by decide
  have hw1 : IntKind.i64.wrap (x - y) = x - y := IntWalk.i64_in _ ⟨by omega, by omega⟩
  have hw2 : IntKind.i64.wrap (y + (x - y) / 2 ^ sh.toNat) = y + (x - y) / 2 ^ sh.toNat := IntWalk.i64_in _ ⟨by omega, by omega⟩
  have hw3 : IntKind.i64.wrap x = x := IntWalk.i64_in _ ⟨by omega, by omega⟩
  clear qb
  cases kn <;> simp only [if_true, if_false, Bool.false_eq_true]
  · rw [show lgV sh x x = x by simp [lgV]]
    go_enter Try.func51, Try.ntmps51
    go_wp2_with ((go_at_call 75; (with_reducible refine (CL.out _).mono ?_); rintro e w' ⟨rfl, rfl⟩))
    refine region_still [(18, [(17, 18), (15, 18), (0, 18), (1, 18), (2, 18), (3, 18), (4, 18), (5, 18), (6, 18), (7, 18), (8, 18), (9, 18), (10, 18), (11, 18), (12, 18), (13, 18), (14, 18), (16, 17)])] [(.free, 0), (.free, 1), (.free, 2), (.take, 3), (.free, 4), (.free, 5), (.free, 6), (.free, 7), (.take, 8), (.free, 9), (.free, 10), (.free, 11), (.free, 12), (.take, 13), (.free, 14), (.free, 15), (.free, 16), (.free, 17), (.late, 18)] _ (by kernel_rfl) (by kernel_rfl) (by kernel_rfl) (by kernel_rfl) (by decide) rfl (fun _ _ _ _ _ h => h) ?_
    simp only [List.filterMap_cons, List.filterMap_nil, List.getElem?_toArray, List.getElem?_cons_zero, List.getElem?_cons_succ, Option.map_some]
    iterate 3
      first
        | (refine mv_free ?_ (Or.inl ⟨by rfl, ?_⟩) (rfl) ?_
           rotate_left 1
           · intro u
             go_simp
             try with_reducible rfl
           simp only [Act.put, List.setIfInBounds_toArray, List.set_cons_zero, List.set_cons_succ])
        | (refine mv_free _ (Or.inr ⟨by rfl, rfl⟩) (rfl) ?_
           simp only [Act.put, List.setIfInBounds_toArray, List.set_cons_zero, List.set_cons_succ])
    iterate 1
      first
        | (refine mv_take ?_ (Or.inl ⟨by rfl, ?_⟩) (rfl) ?_
           rotate_left 1
           · intro u hu
             (try dsimp only at hu)
             go_simp
             try with_reducible rfl
           simp only [Act.put, List.setIfInBounds_toArray, List.set_cons_zero, List.set_cons_succ])
        | (refine mv_take _ (Or.inr ⟨by rfl, rfl⟩) (rfl) ?_
           simp only [Act.put, List.setIfInBounds_toArray, List.set_cons_zero, List.set_cons_succ])
    iterate 4
      first
        | (refine mv_free ?_ (Or.inl ⟨by rfl, ?_⟩) (rfl) ?_
           rotate_left 1
           · intro u
             go_simp
             try with_reducible rfl
           simp only [Act.put, List.setIfInBounds_toArray, List.set_cons_zero, List.set_cons_succ])
        | (refine mv_free _ (Or.inr ⟨by rfl, rfl⟩) (rfl) ?_
           simp only [Act.put, List.setIfInBounds_toArray, List.set_cons_zero, List.set_cons_succ])
    iterate 1
      first
        | (refine mv_take ?_ (Or.inl ⟨by rfl, ?_⟩) (rfl) ?_
           rotate_left 1
           · intro u hu
             (try dsimp only at hu)
             go_simp
             try with_reducible rfl
           simp only [Act.put, List.setIfInBounds_toArray, List.set_cons_zero, List.set_cons_succ])
        | (refine mv_take _ (Or.inr ⟨by rfl, rfl⟩) (rfl) ?_
           simp only [Act.put, List.setIfInBounds_toArray, List.set_cons_zero, List.set_cons_succ])
    iterate 4
      first
        | (refine mv_free ?_ (Or.inl ⟨by rfl, ?_⟩) (rfl) ?_
           rotate_left 1
           · intro u
             go_simp
             try with_reducible rfl
           simp only [Act.put, List.setIfInBounds_toArray, List.set_cons_zero, List.set_cons_succ])
        | (refine mv_free _ (Or.inr ⟨by rfl, rfl⟩) (rfl) ?_
           simp only [Act.put, List.setIfInBounds_toArray, List.set_cons_zero, List.set_cons_succ])
    iterate 1
      first
        | (refine mv_take ?_ (Or.inl ⟨by rfl, ?_⟩) (rfl) ?_
           rotate_left 1
           · intro u hu
             (try dsimp only at hu)
             go_simp
             try with_reducible rfl
           simp only [Act.put, List.setIfInBounds_toArray, List.set_cons_zero, List.set_cons_succ])
        | (refine mv_take _ (Or.inr ⟨by rfl, rfl⟩) (rfl) ?_
           simp only [Act.put, List.setIfInBounds_toArray, List.set_cons_zero, List.set_cons_succ])
    iterate 4
      first
        | (refine mv_free ?_ (Or.inl ⟨by rfl, ?_⟩) (rfl) ?_
           rotate_left 1
           · intro u
             go_simp
             try with_reducible rfl
           simp only [Act.put, List.setIfInBounds_toArray, List.set_cons_zero, List.set_cons_succ])
        | (refine mv_free _ (Or.inr ⟨by rfl, rfl⟩) (rfl) ?_
           simp only [Act.put, List.setIfInBounds_toArray, List.set_cons_zero, List.set_cons_succ])
    refine mv_late (fun K hK => ?_)
    go_simp
    refine hK.out (fun _ => True) _ _ ?_
    clear hK K
    refine mv_done ?_
    go_wp2
    go_ret
    exact ⟨rfl, ((((HB.start h).set 1 (.int .i64 x) (by simp [lgC])).set 2 (.bool true) (by simp [lgC])).set 1 (.int .i64 x) (by simp [lgC])).fin rfl rfl rfl rfl⟩
  · go_enter Try.func51, Try.ntmps51
    go_wp2_with ((go_at_call 75; (with_reducible refine (CL.out _).mono ?_); rintro e w' ⟨rfl, rfl⟩))
    refine region_still [(18, [(17, 18), (15, 18), (0, 18), (1, 18), (2, 18), (3, 18), (4, 18), (5, 18), (6, 18), (7, 18), (8, 18), (9, 18), (10, 18), (11, 18), (12, 18), (13, 18), (14, 18), (16, 17)])] [(.free, 0), (.free, 1), (.free, 2), (.take, 3), (.free, 4), (.free, 5), (.free, 6), (.free, 7), (.take, 8), (.free, 9), (.free, 10), (.free, 11), (.free, 12), (.take, 13), (.free, 14), (.free, 15), (.free, 16), (.free, 17), (.late, 18)] _ (by kernel_rfl) (by kernel_rfl) (by kernel_rfl) (by kernel_rfl) (by decide) rfl (fun _ _ _ _ _ h => h) ?_
    simp only [List.filterMap_cons, List.filterMap_nil, List.getElem?_toArray, List.getElem?_cons_zero, List.getElem?_cons_succ, Option.map_some]
    iterate 3
      first
        | (refine mv_free ?_ (Or.inl ⟨by rfl, ?_⟩) (rfl) ?_
           rotate_left 1
           · intro u
             go_simp
             try with_reducible rfl
           simp only [Act.put, List.setIfInBounds_toArray, List.set_cons_zero, List.set_cons_succ])
        | (refine mv_free _ (Or.inr ⟨by rfl, rfl⟩) (rfl) ?_
           simp only [Act.put, List.setIfInBounds_toArray, List.set_cons_zero, List.set_cons_succ])
    iterate 1
      first
        | (refine mv_take ?_ (Or.inl ⟨by rfl, ?_⟩) (rfl) ?_
           rotate_left 1
           · intro u hu
             (try dsimp only at hu)
             go_simp
             try with_reducible rfl
           simp only [Act.put, List.setIfInBounds_toArray, List.set_cons_zero, List.set_cons_succ])
        | (refine mv_take _ (Or.inr ⟨by rfl, rfl⟩) (rfl) ?_
           simp only [Act.put, List.setIfInBounds_toArray, List.set_cons_zero, List.set_cons_succ])
    iterate 4
      first
        | (refine mv_free ?_ (Or.inl ⟨by rfl, ?_⟩) (rfl) ?_
           rotate_left 1
           · intro u
             go_simp
             try with_reducible rfl
           simp only [Act.put, List.setIfInBounds_toArray, List.set_cons_zero, List.set_cons_succ])
        | (refine mv_free _ (Or.inr ⟨by rfl, rfl⟩) (rfl) ?_
           simp only [Act.put, List.setIfInBounds_toArray, List.set_cons_zero, List.set_cons_succ])
    iterate 1
      first
        | (refine mv_take ?_ (Or.inl ⟨by rfl, ?_⟩) (rfl) ?_
           rotate_left 1
           · intro u hu
             (try dsimp only at hu)
             go_simp
             try with_reducible rfl
           simp only [Act.put, List.setIfInBounds_toArray, List.set_cons_zero, List.set_cons_succ])
        | (refine mv_take _ (Or.inr ⟨by rfl, rfl⟩) (rfl) ?_
           simp only [Act.put, List.setIfInBounds_toArray, List.set_cons_zero, List.set_cons_succ])
    iterate 4
      first
        | (refine mv_free ?_ (Or.inl ⟨by rfl, ?_⟩) (rfl) ?_
           rotate_left 1
           · intro u
             go_simp
             try with_reducible rfl
           simp only [Act.put, List.setIfInBounds_toArray, List.set_cons_zero, List.set_cons_succ])
        | (refine mv_free _ (Or.inr ⟨by rfl, rfl⟩) (rfl) ?_
           simp only [Act.put, List.setIfInBounds_toArray, List.set_cons_zero, List.set_cons_succ])
    iterate 1
      first
        | (refine mv_take ?_ (Or.inl ⟨by rfl, ?_⟩) (rfl) ?_
           rotate_left 1
           · intro u hu
             (try dsimp only at hu)
             go_simp
             try with_reducible rfl
           simp only [Act.put, List.setIfInBounds_toArray, List.set_cons_zero, List.set_cons_succ])
        | (refine mv_take _ (Or.inr ⟨by rfl, rfl⟩) (rfl) ?_
           simp only [Act.put, List.setIfInBounds_toArray, List.set_cons_zero, List.set_cons_succ])
    iterate 4
      first
        | (refine mv_free ?_ (Or.inl ⟨by rfl, ?_⟩) (rfl) ?_
           rotate_left 1
           · intro u
             go_simp
             try with_reducible rfl
           simp only [Act.put, List.setIfInBounds_toArray, List.set_cons_zero, List.set_cons_succ])
        | (refine mv_free _ (Or.inr ⟨by rfl, rfl⟩) (rfl) ?_
           simp only [Act.put, List.setIfInBounds_toArray, List.set_cons_zero, List.set_cons_succ])
    refine mv_late (fun K hK => ?_)
    go_simp
    refine hK.out (fun _ => True) _ _ ?_
    clear hK K
    refine mv_done ?_
    go_wp2
    go_ret
    exact ⟨rfl, ((HB.start h).set 1 (.int .i64 (lgV sh y x)) (by simp [lgC])).fin rfl rfl rfl rfl⟩
end Go.Proofs.Ytiibgblpbjdpaaa
