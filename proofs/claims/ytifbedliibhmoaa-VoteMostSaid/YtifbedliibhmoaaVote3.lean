/- Package vote: There; the document's Pick; the chapter's example; the law VotePicks, walked. -/
import Derived.Test.YtifbedliibhmoaaVote2
namespace Go.Proofs.Ytifbedliibhmoaa
open Go.ChangeShapes Go.WideShapes Go.ChangeAt Go.RowKit
set_option linter.unusedVariables false
set_option linter.unusedSimpArgs false

def vtN (z0 z1 z2 : Bool) (k : Nat) : Int := (if z0 && decide (0 < k) then 1 else 0) + (if z1 && decide (1 < k) then 1 else 0) + (if z2 && decide (2 < k) then 1 else 0)

set_option maxRecDepth 100000 in
set_option maxHeartbeats 4000000 in
theorem vthere_any (x0 e0 x1 e1 x2 e2 : Int) (w : World) : Calls Try.prog 37 #[.agg #[.int .i64 x0, .int .i64 e0, .int .i64 x1, .int .i64 e1, .int .i64 x2, .int .i64 e2]] w fun r w' => r = .returned (.int .i64 (vtN (e0 == 0) (e1 == 0) (e2 == 0) 3)) ∧ Below w.heap.size w w' := by
  have AV := Lib.hid (fun u => vavail_any x0 e0 x1 e1 x2 e2 u)
  have hb0 : Below w.heap.size w (w.alloc (.cells #[.int .i64 x0, .int .i64 e0, .int .i64 x1, .int .i64 e1, .int .i64 x2, .int .i64 e2] 57)) := (by repeat (first | exact Below.refl _ _ | assumption | apply Below.drew | apply below_drewN | (refine Below.alloc ?_ (by first | exact Nat.le_refl _ | omega | (simp <;> omega)) _) | (refine Below.setCell ?_ (by first | exact Nat.le_refl _ | omega | (simp <;> omega)) _)))
  generalize (e0 == 0) = z0 at *
  generalize (e1 == 0) = z1 at *
  generalize (e2 == 0) = z2 at *
  go_enter Try.func37, Try.ntmps37
  go_wp2_with fail
  refine (AV.out _).mono ?_
  rintro e w1 ⟨rfl, hb1⟩
  have hbel : Below w.heap.size w w1 := hb0.trans (hb1.mono (by simp))
  clear hb1 AV hb0
  have i0 : ∀ u, (Instr.index 62 (.agg #[.bool z0, .bool z1, .bool z2]) (.int .i64 0)).run Try.prog u = .ok (.bool z0) u := fun _ => by kernel_rfl
  have i1 : ∀ u, (Instr.index 62 (.agg #[.bool z0, .bool z1, .bool z2]) (.int .i64 1)).run Try.prog u = .ok (.bool z1) u := fun _ => by kernel_rfl
  have i2 : ∀ u, (Instr.index 62 (.agg #[.bool z0, .bool z1, .bool z2]) (.int .i64 2)).run Try.prog u = .ok (.bool z2) u := fun _ => by kernel_rfl
  go_wp2_with fail
  go_loop [3, 8] (fun n i => ∃ k : Nat, k ≤ 3 ∧ i = .int .i64 k ∧ n = .int .i64 (vtN z0 z1 z2 k)) (fun _ i => 3 - (intOf i).toNat)
  case atStart => exact ⟨0, by omega, rfl, by simp [vtN]⟩
  case round =>
    obtain ⟨k, hk, rfl, rfl⟩ := hrel
    by_cases hk3 : k < 3
    · obtain rfl | rfl | rfl : k = 0 ∨ k = 1 ∨ k = 2 := by omega
      all_goals
        cases z0 <;> cases z1 <;> cases z2
      all_goals
        simp only [vtN, Bool.true_and, Bool.false_and, Bool.false_eq_true, if_false, Int.reduceAdd, Nat.lt_irrefl, decide_true, decide_false, if_true, Nat.reduceLT]
        go_wp2
        go_round
        case rel => first | exact ⟨1, by omega, rfl, by simp [vtN]⟩ | exact ⟨2, by omega, rfl, by simp [vtN]⟩ | exact ⟨3, by omega, rfl, by simp [vtN]⟩
        case measure => simp [intOf]
    · obtain rfl : k = 3 := by omega
      go_wp2
      go_ret
      exact ⟨rfl, hbel⟩

set_option maxRecDepth 100000 in
set_option maxHeartbeats 4000000 in
theorem rvpick_any (x0 e0 x1 e1 x2 e2 tau : Int) (w : World) : Calls Try.prog 36 #[.agg #[.int .i64 x0, .int .i64 e0, .int .i64 x1, .int .i64 e1, .int .i64 x2, .int .i64 e2], .int .i64 tau] w fun r w' => r = .returned (.tuple #[.int .i64 (vtP x0 e0 x1 e1 x2 e2 tau).1, .int .i64 (vtP x0 e0 x1 e1 x2 e2 tau).2]) ∧ Below w.heap.size w w' := by
  have HV := Lib.hid (show vtP x0 e0 x1 e1 x2 e2 tau = (if (e0 == 0) && (e1 == 0) && (e2 == 0) then (vtMid x0 x1 x2, 5) else if (e0 == 0) && (e1 == 0) then (men x0 x1, 3) else if e0 == 0 then (if (e2 == 0) && decide (tau < apt x0 x2) then (x2, 4) else (x0, 1)) else if e1 == 0 then (if (e2 == 0) && decide (tau < apt x1 x2) then (x2, 4) else (x1, 2)) else if e2 == 0 then (x2, 4) else (0, 0)) from rfl)
  generalize vtP x0 e0 x1 e1 x2 e2 tau = q at *
  have MN := Lib.hid (fun u => rmean_any x0 x1 u)
  have MD := Lib.hid (fun u => rvmid_any x0 x1 x2 u)
  have A0 := Lib.hid (fun u => rapart_any x0 x2 u)
  have A1 := Lib.hid (fun u => rapart_any x1 x2 u)
  have T0 := Lib.hid (fun u => rthere_any x0 e0 u)
  have T1 := Lib.hid (fun u => rthere_any x1 e1 u)
  have T2 := Lib.hid (fun u => rthere_any x2 e2 u)
  have SX := Lib.hid (fun u h => six_at w x0 e0 x1 e1 x2 e2 (u := u) rfl h)
  generalize men x0 x1 = mn at *
  generalize vtMid x0 x1 x2 = md at *
  generalize apt x0 x2 = d0 at *
  generalize apt x1 x2 = d1 at *
  have hb0 : Hid (Below w.heap.size w (w.alloc (.cells #[.int .i64 x0, .int .i64 e0, .int .i64 x1, .int .i64 e1, .int .i64 x2, .int .i64 e2] 57))) := Lib.hid (by repeat (first | exact Below.refl _ _ | assumption | apply Below.drew | apply below_drewN | (refine Below.alloc ?_ (by first | exact Nat.le_refl _ | omega | (simp <;> omega)) _) | (refine Below.setCell ?_ (by first | exact Nat.le_refl _ | omega | (simp <;> omega)) _)))
  have B0 := Lib.hid (Below.refl (w.heap.size + 1) (w.alloc (.cells #[.int .i64 x0, .int .i64 e0, .int .i64 x1, .int .i64 e1, .int .i64 x2, .int .i64 e2] 57)))
  have hz : Hid (w.heap.size + 1 = (w.alloc (.cells #[.int .i64 x0, .int .i64 e0, .int .i64 x1, .int .i64 e1, .int .i64 x2, .int .i64 e2] 57)).heap.size) := Lib.hid (by simp)
  generalize hz0 : (e0 == 0) = z0 at *
  generalize hz1 : (e1 == 0) = z1 at *
  generalize hz2 : (e2 == 0) = z2 at *
  clear hz0 hz1 hz2
  go_enter Try.func36, Try.ntmps36
  go_wp2_with fail
  replace hb0 := hb0.out
  replace B0 := B0.out
  replace hz := hz.out
  generalize (w.alloc (.cells #[.int .i64 x0, .int .i64 e0, .int .i64 x1, .int .i64 e1, .int .i64 x2, .int .i64 e2] 57)) = V at *
  obtain ⟨k0, k1, k2, k3, k4, k5⟩ := SX.out _ B0
  refine region_moves (fun u => u.cell? ⟨w.heap.size, 0, none⟩ = some (.int .i64 x0) ∧ u.cell? ⟨w.heap.size, 1, none⟩ = some (.int .i64 e0) ∧ u.cell? ⟨w.heap.size, 2, none⟩ = some (.int .i64 x1) ∧ u.cell? ⟨w.heap.size, 3, none⟩ = some (.int .i64 e1) ∧ u.cell? ⟨w.heap.size, 4, none⟩ = some (.int .i64 x2) ∧ u.cell? ⟨w.heap.size, 5, none⟩ = some (.int .i64 e2)) [] [(.free, 0), (.take, 1), (.free, 3), (.take, 4), (.free, 6), (.take, 7), (.step, 2), (.step, 5), (.step, 8), (.free, 9), (.free, 10), (.free, 11)] _ (by kernel_rfl) (by kernel_rfl) (by kernel_rfl) (by kernel_rfl) (by decide) rfl (fun _ _ _ _ _ h => h) ?_
  simp only [List.filterMap_cons, List.filterMap_nil, List.getElem?_toArray, List.getElem?_cons_zero, List.getElem?_cons_succ, Option.map_some]
  iterate 1
    first
      | (refine mv_free ?_ (Or.inl ⟨by rfl, ?_⟩) (⟨k0, k1, k2, k3, k4, k5⟩) ?_
         rotate_left 1
         · intro u
           go_simp
           try with_reducible rfl
         simp only [Act.put, List.setIfInBounds_toArray, List.set_cons_zero, List.set_cons_succ])
      | (refine mv_free _ (Or.inr ⟨by rfl, rfl⟩) (⟨k0, k1, k2, k3, k4, k5⟩) ?_
         simp only [Act.put, List.setIfInBounds_toArray, List.set_cons_zero, List.set_cons_succ])
  iterate 1
    first
      | (refine mv_take ?_ (Or.inl ⟨by rfl, ?_⟩) (⟨k0, k1, k2, k3, k4, k5⟩) ?_
         rotate_left 1
         · intro u hu
           (try dsimp only at hu)
           go_simp
           try with_reducible rfl
         simp only [Act.put, List.setIfInBounds_toArray, List.set_cons_zero, List.set_cons_succ])
      | (refine mv_take _ (Or.inr ⟨by rfl, rfl⟩) (⟨k0, k1, k2, k3, k4, k5⟩) ?_
         simp only [Act.put, List.setIfInBounds_toArray, List.set_cons_zero, List.set_cons_succ])
  iterate 1
    first
      | (refine mv_free ?_ (Or.inl ⟨by rfl, ?_⟩) (⟨k0, k1, k2, k3, k4, k5⟩) ?_
         rotate_left 1
         · intro u
           go_simp
           try with_reducible rfl
         simp only [Act.put, List.setIfInBounds_toArray, List.set_cons_zero, List.set_cons_succ])
      | (refine mv_free _ (Or.inr ⟨by rfl, rfl⟩) (⟨k0, k1, k2, k3, k4, k5⟩) ?_
         simp only [Act.put, List.setIfInBounds_toArray, List.set_cons_zero, List.set_cons_succ])
  iterate 1
    first
      | (refine mv_take ?_ (Or.inl ⟨by rfl, ?_⟩) (⟨k0, k1, k2, k3, k4, k5⟩) ?_
         rotate_left 1
         · intro u hu
           (try dsimp only at hu)
           go_simp
           try with_reducible rfl
         simp only [Act.put, List.setIfInBounds_toArray, List.set_cons_zero, List.set_cons_succ])
      | (refine mv_take _ (Or.inr ⟨by rfl, rfl⟩) (⟨k0, k1, k2, k3, k4, k5⟩) ?_
         simp only [Act.put, List.setIfInBounds_toArray, List.set_cons_zero, List.set_cons_succ])
  iterate 1
    first
      | (refine mv_free ?_ (Or.inl ⟨by rfl, ?_⟩) (⟨k0, k1, k2, k3, k4, k5⟩) ?_
         rotate_left 1
         · intro u
           go_simp
           try with_reducible rfl
         simp only [Act.put, List.setIfInBounds_toArray, List.set_cons_zero, List.set_cons_succ])
      | (refine mv_free _ (Or.inr ⟨by rfl, rfl⟩) (⟨k0, k1, k2, k3, k4, k5⟩) ?_
         simp only [Act.put, List.setIfInBounds_toArray, List.set_cons_zero, List.set_cons_succ])
  iterate 1
    first
      | (refine mv_take ?_ (Or.inl ⟨by rfl, ?_⟩) (⟨k0, k1, k2, k3, k4, k5⟩) ?_
         rotate_left 1
         · intro u hu
           (try dsimp only at hu)
           go_simp
           try with_reducible rfl
         simp only [Act.put, List.setIfInBounds_toArray, List.set_cons_zero, List.set_cons_succ])
      | (refine mv_take _ (Or.inr ⟨by rfl, rfl⟩) (⟨k0, k1, k2, k3, k4, k5⟩) ?_
         simp only [Act.put, List.setIfInBounds_toArray, List.set_cons_zero, List.set_cons_succ])
  refine mv_step (fun K hK => ?_)
  go_simp
  refine (T0.out _).mono ?_
  rintro e w1 ⟨rfl, b1⟩
  go_wp2_with fail
  have B1 := B0.drew.trans (b1.mono (Nat.le_of_eq hz))
  obtain ⟨k0, k1, k2, k3, k4, k5⟩ := SX.out _ B1
  refine hK.out _ _ _ (fun u hu => hu) (⟨k0, k1, k2, k3, k4, k5⟩) ?_
  clear hK K
  refine mv_step (fun K hK => ?_)
  go_simp
  refine (T1.out _).mono ?_
  rintro e w2 ⟨rfl, b2⟩
  go_wp2_with fail
  have B2 := B1.trans (b2.mono (by have := B1.size; omega))
  obtain ⟨k0, k1, k2, k3, k4, k5⟩ := SX.out _ B2
  refine hK.out _ _ _ (fun u hu => hu) (⟨k0, k1, k2, k3, k4, k5⟩) ?_
  clear hK K
  refine mv_step (fun K hK => ?_)
  go_simp
  refine (T2.out _).mono ?_
  rintro e w3 ⟨rfl, b3⟩
  go_wp2_with fail
  have B3 := B2.trans (b3.mono (by have := B2.size; omega))
  obtain ⟨k0, k1, k2, k3, k4, k5⟩ := SX.out _ B3
  refine hK.out _ _ _ (fun u hu => hu) (⟨k0, k1, k2, k3, k4, k5⟩) ?_
  clear hK K
  iterate 3
    first
      | (refine mv_free ?_ (Or.inl ⟨by rfl, ?_⟩) (⟨k0, k1, k2, k3, k4, k5⟩) ?_
         rotate_left 1
         · intro u
           go_simp
           try with_reducible rfl
         simp only [Act.put, List.setIfInBounds_toArray, List.set_cons_zero, List.set_cons_succ])
      | (refine mv_free _ (Or.inr ⟨by rfl, rfl⟩) (⟨k0, k1, k2, k3, k4, k5⟩) ?_
         simp only [Act.put, List.setIfInBounds_toArray, List.set_cons_zero, List.set_cons_succ])
  refine mv_done ?_
  have hbel : Below w.heap.size w w3 := hb0.trans (B3.mono (by omega))
  have hs3 := B3.size
  clear B0 B1 B2 b1 b2 b3 hb0 T2
  cases z0 <;> cases z1 <;> cases z2
  · have hv := HV.out
    simp only [Bool.and_true, Bool.and_false, Bool.and_self, Bool.true_and, Bool.false_and, if_true, if_false, Bool.false_eq_true] at hv
    subst hv
    clear HV
    go_wp2_with fail
    go_loopw [9] (fun i u => ∃ k : Nat, k ≤ 2 ∧ i = .int .i64 k ∧ Below (w.heap.size + 1) V u ∧ Below w.heap.size w u) (fun i _ => 2 - (intOf i).toNat)
    case atStart => exact ⟨0, by omega, rfl, B3, hbel⟩
    case round =>
      obtain ⟨k, hk, rfl, B4, hbel4⟩ := hrel
      clear k0 k1 k2 k3 k4 k5
      obtain ⟨k0, k1, k2, k3, k4, k5⟩ := SX.out _ B4
      obtain rfl | rfl | rfl : k = 0 ∨ k = 1 ∨ k = 2 := by omega
      · go_wp2_with fail
        refine (T0.out _).mono ?_
        rintro e w5 ⟨rfl, b5⟩
        have B5 := B4.trans (b5.mono (by have := B4.size; omega))
        have hbel5 : Below w.heap.size w w5 := hbel4.trans (b5.mono hbel4.size)
        go_wp2
        go_roundw
        case rel => exact ⟨1, by omega, rfl, B5, hbel5⟩
        case measure => simp [intOf]
      · go_wp2_with fail
        refine (T1.out _).mono ?_
        rintro e w5 ⟨rfl, b5⟩
        have B5 := B4.trans (b5.mono (by have := B4.size; omega))
        have hbel5 : Below w.heap.size w w5 := hbel4.trans (b5.mono hbel4.size)
        go_wp2
        go_roundw
        case rel => exact ⟨2, by omega, rfl, B5, hbel5⟩
        case measure => simp [intOf]
      · go_wp2
        go_ret2
        exact ⟨rfl, hbel4⟩
  · have hv := HV.out
    simp only [Bool.and_true, Bool.and_false, Bool.and_self, Bool.true_and, Bool.false_and, if_true, if_false, Bool.false_eq_true] at hv
    subst hv
    clear HV
    go_wp2_with fail
    go_loopw [9] (fun i u => ∃ k : Nat, k ≤ 2 ∧ i = .int .i64 k ∧ Below (w.heap.size + 1) V u ∧ Below w.heap.size w u) (fun i _ => 2 - (intOf i).toNat)
    case atStart => exact ⟨0, by omega, rfl, B3, hbel⟩
    case round =>
      obtain ⟨k, hk, rfl, B4, hbel4⟩ := hrel
      clear k0 k1 k2 k3 k4 k5
      obtain ⟨k0, k1, k2, k3, k4, k5⟩ := SX.out _ B4
      obtain rfl | rfl | rfl : k = 0 ∨ k = 1 ∨ k = 2 := by omega
      · go_wp2_with fail
        refine (T0.out _).mono ?_
        rintro e w5 ⟨rfl, b5⟩
        have B5 := B4.trans (b5.mono (by have := B4.size; omega))
        have hbel5 : Below w.heap.size w w5 := hbel4.trans (b5.mono hbel4.size)
        go_wp2
        go_roundw
        case rel => exact ⟨1, by omega, rfl, B5, hbel5⟩
        case measure => simp [intOf]
      · go_wp2_with fail
        refine (T1.out _).mono ?_
        rintro e w5 ⟨rfl, b5⟩
        have B5 := B4.trans (b5.mono (by have := B4.size; omega))
        have hbel5 : Below w.heap.size w w5 := hbel4.trans (b5.mono hbel4.size)
        go_wp2
        go_roundw
        case rel => exact ⟨2, by omega, rfl, B5, hbel5⟩
        case measure => simp [intOf]
      · go_wp2
        go_ret2
        exact ⟨rfl, hbel4⟩
  · have hv := HV.out
    simp only [Bool.and_true, Bool.and_false, Bool.and_self, Bool.true_and, Bool.false_and, if_true, if_false, Bool.false_eq_true] at hv
    subst hv
    clear HV
    go_wp2_with fail
    go_loopw [9] (fun i u => ∃ k : Nat, k ≤ 1 ∧ i = .int .i64 k ∧ Below (w.heap.size + 1) V u ∧ Below w.heap.size w u) (fun i _ => 2 - (intOf i).toNat)
    case atStart => exact ⟨0, by omega, rfl, B3, hbel⟩
    case round =>
      obtain ⟨k, hk, rfl, B4, hbel4⟩ := hrel
      clear k0 k1 k2 k3 k4 k5
      obtain ⟨k0, k1, k2, k3, k4, k5⟩ := SX.out _ B4
      obtain rfl | rfl : k = 0 ∨ k = 1 := by omega
      · go_wp2_with fail
        refine (T0.out _).mono ?_
        rintro e w5 ⟨rfl, b5⟩
        have B5 := B4.trans (b5.mono (by have := B4.size; omega))
        have hbel5 : Below w.heap.size w w5 := hbel4.trans (b5.mono hbel4.size)
        go_wp2
        go_roundw
        case rel => exact ⟨1, by omega, rfl, B5, hbel5⟩
        case measure => simp [intOf]
      · go_wp2_with fail
        refine (T1.out _).mono ?_
        rintro e w5 ⟨rfl, b5⟩
        have B5 := B4.trans (b5.mono (by have := B4.size; omega))
        obtain ⟨k0, k1, k2, k3, k4, k5⟩ := SX.out _ B5
        have hbel5 : Below w.heap.size w w5 := hbel4.trans (b5.mono hbel4.size)
        go_wp2_with fail
        refine region_still [] [(.free, 0), (.free, 1), (.free, 2), (.free, 3), (.free, 4), (.take, 5), (.free, 6), (.free, 7), (.take, 8), (.free, 10), (.step, 9), (.free, 11), (.free, 12)] _ (by kernel_rfl) (by kernel_rfl) (by kernel_rfl) (by kernel_rfl) (by decide) rfl (fun _ _ _ _ _ h => h) ?_
        simp only [List.filterMap_cons, List.filterMap_nil, List.getElem?_toArray, List.getElem?_cons_zero, List.getElem?_cons_succ, Option.map_some]
        iterate 5
          first
            | (refine mv_free ?_ (Or.inl ⟨by rfl, ?_⟩) (rfl) ?_
               rotate_left 1
               · intro u
                 go_simp
                 try with_reducible rfl
               simp only [Act.put, List.setIfInBounds_toArray, List.set_cons_zero, List.set_cons_succ])
            | (refine mv_free _ (Or.inr ⟨by rfl, rfl⟩) (rfl) ?_
               simp only [Act.put, List.setIfInBounds_toArray, List.set_cons_zero, List.set_cons_succ])
        iterate 1
          first
            | (refine mv_take ?_ (Or.inl ⟨by rfl, ?_⟩) (rfl) ?_
               rotate_left 1
               · intro u hu
                 (try dsimp only at hu)
                 go_simp
                 try with_reducible rfl
               simp only [Act.put, List.setIfInBounds_toArray, List.set_cons_zero, List.set_cons_succ])
            | (refine mv_take _ (Or.inr ⟨by rfl, rfl⟩) (rfl) ?_
               simp only [Act.put, List.setIfInBounds_toArray, List.set_cons_zero, List.set_cons_succ])
        iterate 2
          first
            | (refine mv_free ?_ (Or.inl ⟨by rfl, ?_⟩) (rfl) ?_
               rotate_left 1
               · intro u
                 go_simp
                 try with_reducible rfl
               simp only [Act.put, List.setIfInBounds_toArray, List.set_cons_zero, List.set_cons_succ])
            | (refine mv_free _ (Or.inr ⟨by rfl, rfl⟩) (rfl) ?_
               simp only [Act.put, List.setIfInBounds_toArray, List.set_cons_zero, List.set_cons_succ])
        iterate 1
          first
            | (refine mv_take ?_ (Or.inl ⟨by rfl, ?_⟩) (rfl) ?_
               rotate_left 1
               · intro u hu
                 (try dsimp only at hu)
                 go_simp
                 try with_reducible rfl
               simp only [Act.put, List.setIfInBounds_toArray, List.set_cons_zero, List.set_cons_succ])
            | (refine mv_take _ (Or.inr ⟨by rfl, rfl⟩) (rfl) ?_
               simp only [Act.put, List.setIfInBounds_toArray, List.set_cons_zero, List.set_cons_succ])
        iterate 1
          first
            | (refine mv_free ?_ (Or.inl ⟨by rfl, ?_⟩) (rfl) ?_
               rotate_left 1
               · intro u
                 go_simp
                 try with_reducible rfl
               simp only [Act.put, List.setIfInBounds_toArray, List.set_cons_zero, List.set_cons_succ])
            | (refine mv_free _ (Or.inr ⟨by rfl, rfl⟩) (rfl) ?_
               simp only [Act.put, List.setIfInBounds_toArray, List.set_cons_zero, List.set_cons_succ])
        refine mv_step (fun K hK => ?_)
        go_simp
        refine hK.out _ _ _ (fun u hu => hu) (rfl) ?_
        clear hK K
        iterate 2
          first
            | (refine mv_free ?_ (Or.inl ⟨by rfl, ?_⟩) (rfl) ?_
               rotate_left 1
               · intro u
                 go_simp
                 try with_reducible rfl
               simp only [Act.put, List.setIfInBounds_toArray, List.set_cons_zero, List.set_cons_succ])
            | (refine mv_free _ (Or.inr ⟨by rfl, rfl⟩) (rfl) ?_
               simp only [Act.put, List.setIfInBounds_toArray, List.set_cons_zero, List.set_cons_succ])
        refine mv_done ?_
        go_wp2
        go_ret2
        exact ⟨rfl, hbel5.drew⟩
  · cases hd : decide (tau < d1)
    all_goals
      have hv := HV.out
      simp only [hd, Bool.and_true, Bool.and_false, Bool.and_self, Bool.true_and, Bool.false_and, if_true, if_false, Bool.false_eq_true] at hv
      subst hv
      clear HV
      go_wp2_with fail
      go_loopw [9] (fun i u => ∃ k : Nat, k ≤ 1 ∧ i = .int .i64 k ∧ Below (w.heap.size + 1) V u ∧ Below w.heap.size w u) (fun i _ => 2 - (intOf i).toNat)
      case atStart => exact ⟨0, by omega, rfl, B3, hbel⟩
      case round =>
        obtain ⟨k, hk, rfl, B4, hbel4⟩ := hrel
        clear k0 k1 k2 k3 k4 k5
        obtain ⟨k0, k1, k2, k3, k4, k5⟩ := SX.out _ B4
        obtain rfl | rfl : k = 0 ∨ k = 1 := by omega
        · go_wp2_with fail
          refine (T0.out _).mono ?_
          rintro e w5 ⟨rfl, b5⟩
          have B5 := B4.trans (b5.mono (by have := B4.size; omega))
          have hbel5 : Below w.heap.size w w5 := hbel4.trans (b5.mono hbel4.size)
          go_wp2
          go_roundw
          case rel => exact ⟨1, by omega, rfl, B5, hbel5⟩
          case measure => simp [intOf]
        · go_wp2_with fail
          refine (T1.out _).mono ?_
          rintro e w5 ⟨rfl, b5⟩
          have B5 := B4.trans (b5.mono (by have := B4.size; omega))
          obtain ⟨k0, k1, k2, k3, k4, k5⟩ := SX.out _ B5
          have hbel5 : Below w.heap.size w w5 := hbel4.trans (b5.mono hbel4.size)
          go_wp2_with fail
          refine region_still [] [(.free, 0), (.free, 1), (.free, 2), (.free, 3), (.free, 4), (.take, 5), (.free, 6), (.free, 7), (.take, 8), (.free, 10), (.step, 9), (.free, 11), (.free, 12)] _ (by kernel_rfl) (by kernel_rfl) (by kernel_rfl) (by kernel_rfl) (by decide) rfl (fun _ _ _ _ _ h => h) ?_
          simp only [List.filterMap_cons, List.filterMap_nil, List.getElem?_toArray, List.getElem?_cons_zero, List.getElem?_cons_succ, Option.map_some]
          iterate 5
            first
              | (refine mv_free ?_ (Or.inl ⟨by rfl, ?_⟩) (rfl) ?_
                 rotate_left 1
                 · intro u
                   go_simp
                   try with_reducible rfl
                 simp only [Act.put, List.setIfInBounds_toArray, List.set_cons_zero, List.set_cons_succ])
              | (refine mv_free _ (Or.inr ⟨by rfl, rfl⟩) (rfl) ?_
                 simp only [Act.put, List.setIfInBounds_toArray, List.set_cons_zero, List.set_cons_succ])
          iterate 1
            first
              | (refine mv_take ?_ (Or.inl ⟨by rfl, ?_⟩) (rfl) ?_
                 rotate_left 1
                 · intro u hu
                   (try dsimp only at hu)
                   go_simp
                   try with_reducible rfl
                 simp only [Act.put, List.setIfInBounds_toArray, List.set_cons_zero, List.set_cons_succ])
              | (refine mv_take _ (Or.inr ⟨by rfl, rfl⟩) (rfl) ?_
                 simp only [Act.put, List.setIfInBounds_toArray, List.set_cons_zero, List.set_cons_succ])
          iterate 2
            first
              | (refine mv_free ?_ (Or.inl ⟨by rfl, ?_⟩) (rfl) ?_
                 rotate_left 1
                 · intro u
                   go_simp
                   try with_reducible rfl
                 simp only [Act.put, List.setIfInBounds_toArray, List.set_cons_zero, List.set_cons_succ])
              | (refine mv_free _ (Or.inr ⟨by rfl, rfl⟩) (rfl) ?_
                 simp only [Act.put, List.setIfInBounds_toArray, List.set_cons_zero, List.set_cons_succ])
          iterate 1
            first
              | (refine mv_take ?_ (Or.inl ⟨by rfl, ?_⟩) (rfl) ?_
                 rotate_left 1
                 · intro u hu
                   (try dsimp only at hu)
                   go_simp
                   try with_reducible rfl
                 simp only [Act.put, List.setIfInBounds_toArray, List.set_cons_zero, List.set_cons_succ])
              | (refine mv_take _ (Or.inr ⟨by rfl, rfl⟩) (rfl) ?_
                 simp only [Act.put, List.setIfInBounds_toArray, List.set_cons_zero, List.set_cons_succ])
          iterate 1
            first
              | (refine mv_free ?_ (Or.inl ⟨by rfl, ?_⟩) (rfl) ?_
                 rotate_left 1
                 · intro u
                   go_simp
                   try with_reducible rfl
                 simp only [Act.put, List.setIfInBounds_toArray, List.set_cons_zero, List.set_cons_succ])
              | (refine mv_free _ (Or.inr ⟨by rfl, rfl⟩) (rfl) ?_
                 simp only [Act.put, List.setIfInBounds_toArray, List.set_cons_zero, List.set_cons_succ])
          refine mv_step (fun K hK => ?_)
          go_simp
          refine (A1.out _).mono ?_
          rintro e w' ⟨rfl, rfl⟩
          go_wp2_with fail
          refine hK.out _ _ _ (fun u hu => hu) (rfl) ?_
          clear hK K
          iterate 2
            first
              | (refine mv_free ?_ (Or.inl ⟨by rfl, ?_⟩) (rfl) ?_
                 rotate_left 1
                 · intro u
                   go_simp
                   try with_reducible rfl
                 simp only [Act.put, List.setIfInBounds_toArray, List.set_cons_zero, List.set_cons_succ])
              | (refine mv_free _ (Or.inr ⟨by rfl, rfl⟩) (rfl) ?_
                 simp only [Act.put, List.setIfInBounds_toArray, List.set_cons_zero, List.set_cons_succ])
          refine mv_done ?_
          go_wp2
          go_ret2
          exact ⟨rfl, hbel5.drew⟩
  · have hv := HV.out
    simp only [Bool.and_true, Bool.and_false, Bool.and_self, Bool.true_and, Bool.false_and, if_true, if_false, Bool.false_eq_true] at hv
    subst hv
    clear HV
    go_wp2_with fail
    go_loopw [9] (fun i u => ∃ k : Nat, k ≤ 0 ∧ i = .int .i64 k ∧ Below (w.heap.size + 1) V u ∧ Below w.heap.size w u) (fun i _ => 2 - (intOf i).toNat)
    case atStart => exact ⟨0, by omega, rfl, B3, hbel⟩
    case round =>
      obtain ⟨k, hk, rfl, B4, hbel4⟩ := hrel
      clear k0 k1 k2 k3 k4 k5
      obtain ⟨k0, k1, k2, k3, k4, k5⟩ := SX.out _ B4
      obtain rfl : k = 0 := by omega
      go_wp2_with fail
      refine (T0.out _).mono ?_
      rintro e w5 ⟨rfl, b5⟩
      have B5 := B4.trans (b5.mono (by have := B4.size; omega))
      obtain ⟨k0, k1, k2, k3, k4, k5⟩ := SX.out _ B5
      have hbel5 : Below w.heap.size w w5 := hbel4.trans (b5.mono hbel4.size)
      go_wp2_with fail
      refine region_still [] [(.free, 0), (.free, 1), (.free, 2), (.free, 3), (.free, 4), (.take, 5), (.free, 6), (.free, 7), (.take, 8), (.free, 10), (.step, 9), (.free, 11), (.free, 12)] _ (by kernel_rfl) (by kernel_rfl) (by kernel_rfl) (by kernel_rfl) (by decide) rfl (fun _ _ _ _ _ h => h) ?_
      simp only [List.filterMap_cons, List.filterMap_nil, List.getElem?_toArray, List.getElem?_cons_zero, List.getElem?_cons_succ, Option.map_some]
      iterate 5
        first
          | (refine mv_free ?_ (Or.inl ⟨by rfl, ?_⟩) (rfl) ?_
             rotate_left 1
             · intro u
               go_simp
               try with_reducible rfl
             simp only [Act.put, List.setIfInBounds_toArray, List.set_cons_zero, List.set_cons_succ])
          | (refine mv_free _ (Or.inr ⟨by rfl, rfl⟩) (rfl) ?_
             simp only [Act.put, List.setIfInBounds_toArray, List.set_cons_zero, List.set_cons_succ])
      iterate 1
        first
          | (refine mv_take ?_ (Or.inl ⟨by rfl, ?_⟩) (rfl) ?_
             rotate_left 1
             · intro u hu
               (try dsimp only at hu)
               go_simp
               try with_reducible rfl
             simp only [Act.put, List.setIfInBounds_toArray, List.set_cons_zero, List.set_cons_succ])
          | (refine mv_take _ (Or.inr ⟨by rfl, rfl⟩) (rfl) ?_
             simp only [Act.put, List.setIfInBounds_toArray, List.set_cons_zero, List.set_cons_succ])
      iterate 2
        first
          | (refine mv_free ?_ (Or.inl ⟨by rfl, ?_⟩) (rfl) ?_
             rotate_left 1
             · intro u
               go_simp
               try with_reducible rfl
             simp only [Act.put, List.setIfInBounds_toArray, List.set_cons_zero, List.set_cons_succ])
          | (refine mv_free _ (Or.inr ⟨by rfl, rfl⟩) (rfl) ?_
             simp only [Act.put, List.setIfInBounds_toArray, List.set_cons_zero, List.set_cons_succ])
      iterate 1
        first
          | (refine mv_take ?_ (Or.inl ⟨by rfl, ?_⟩) (rfl) ?_
             rotate_left 1
             · intro u hu
               (try dsimp only at hu)
               go_simp
               try with_reducible rfl
             simp only [Act.put, List.setIfInBounds_toArray, List.set_cons_zero, List.set_cons_succ])
          | (refine mv_take _ (Or.inr ⟨by rfl, rfl⟩) (rfl) ?_
             simp only [Act.put, List.setIfInBounds_toArray, List.set_cons_zero, List.set_cons_succ])
      iterate 1
        first
          | (refine mv_free ?_ (Or.inl ⟨by rfl, ?_⟩) (rfl) ?_
             rotate_left 1
             · intro u
               go_simp
               try with_reducible rfl
             simp only [Act.put, List.setIfInBounds_toArray, List.set_cons_zero, List.set_cons_succ])
          | (refine mv_free _ (Or.inr ⟨by rfl, rfl⟩) (rfl) ?_
             simp only [Act.put, List.setIfInBounds_toArray, List.set_cons_zero, List.set_cons_succ])
      refine mv_step (fun K hK => ?_)
      go_simp
      refine hK.out _ _ _ (fun u hu => hu) (rfl) ?_
      clear hK K
      iterate 2
        first
          | (refine mv_free ?_ (Or.inl ⟨by rfl, ?_⟩) (rfl) ?_
             rotate_left 1
             · intro u
               go_simp
               try with_reducible rfl
             simp only [Act.put, List.setIfInBounds_toArray, List.set_cons_zero, List.set_cons_succ])
          | (refine mv_free _ (Or.inr ⟨by rfl, rfl⟩) (rfl) ?_
             simp only [Act.put, List.setIfInBounds_toArray, List.set_cons_zero, List.set_cons_succ])
      refine mv_done ?_
      go_wp2
      go_ret2
      exact ⟨rfl, hbel5.drew⟩
  · cases hd : decide (tau < d0)
    all_goals
      have hv := HV.out
      simp only [hd, Bool.and_true, Bool.and_false, Bool.and_self, Bool.true_and, Bool.false_and, if_true, if_false, Bool.false_eq_true] at hv
      subst hv
      clear HV
      go_wp2_with fail
      go_loopw [9] (fun i u => ∃ k : Nat, k ≤ 0 ∧ i = .int .i64 k ∧ Below (w.heap.size + 1) V u ∧ Below w.heap.size w u) (fun i _ => 2 - (intOf i).toNat)
      case atStart => exact ⟨0, by omega, rfl, B3, hbel⟩
      case round =>
        obtain ⟨k, hk, rfl, B4, hbel4⟩ := hrel
        clear k0 k1 k2 k3 k4 k5
        obtain ⟨k0, k1, k2, k3, k4, k5⟩ := SX.out _ B4
        obtain rfl : k = 0 := by omega
        go_wp2_with fail
        refine (T0.out _).mono ?_
        rintro e w5 ⟨rfl, b5⟩
        have B5 := B4.trans (b5.mono (by have := B4.size; omega))
        obtain ⟨k0, k1, k2, k3, k4, k5⟩ := SX.out _ B5
        have hbel5 : Below w.heap.size w w5 := hbel4.trans (b5.mono hbel4.size)
        go_wp2_with fail
        refine region_still [] [(.free, 0), (.free, 1), (.free, 2), (.free, 3), (.free, 4), (.take, 5), (.free, 6), (.free, 7), (.take, 8), (.free, 10), (.step, 9), (.free, 11), (.free, 12)] _ (by kernel_rfl) (by kernel_rfl) (by kernel_rfl) (by kernel_rfl) (by decide) rfl (fun _ _ _ _ _ h => h) ?_
        simp only [List.filterMap_cons, List.filterMap_nil, List.getElem?_toArray, List.getElem?_cons_zero, List.getElem?_cons_succ, Option.map_some]
        iterate 5
          first
            | (refine mv_free ?_ (Or.inl ⟨by rfl, ?_⟩) (rfl) ?_
               rotate_left 1
               · intro u
                 go_simp
                 try with_reducible rfl
               simp only [Act.put, List.setIfInBounds_toArray, List.set_cons_zero, List.set_cons_succ])
            | (refine mv_free _ (Or.inr ⟨by rfl, rfl⟩) (rfl) ?_
               simp only [Act.put, List.setIfInBounds_toArray, List.set_cons_zero, List.set_cons_succ])
        iterate 1
          first
            | (refine mv_take ?_ (Or.inl ⟨by rfl, ?_⟩) (rfl) ?_
               rotate_left 1
               · intro u hu
                 (try dsimp only at hu)
                 go_simp
                 try with_reducible rfl
               simp only [Act.put, List.setIfInBounds_toArray, List.set_cons_zero, List.set_cons_succ])
            | (refine mv_take _ (Or.inr ⟨by rfl, rfl⟩) (rfl) ?_
               simp only [Act.put, List.setIfInBounds_toArray, List.set_cons_zero, List.set_cons_succ])
        iterate 2
          first
            | (refine mv_free ?_ (Or.inl ⟨by rfl, ?_⟩) (rfl) ?_
               rotate_left 1
               · intro u
                 go_simp
                 try with_reducible rfl
               simp only [Act.put, List.setIfInBounds_toArray, List.set_cons_zero, List.set_cons_succ])
            | (refine mv_free _ (Or.inr ⟨by rfl, rfl⟩) (rfl) ?_
               simp only [Act.put, List.setIfInBounds_toArray, List.set_cons_zero, List.set_cons_succ])
        iterate 1
          first
            | (refine mv_take ?_ (Or.inl ⟨by rfl, ?_⟩) (rfl) ?_
               rotate_left 1
               · intro u hu
                 (try dsimp only at hu)
                 go_simp
                 try with_reducible rfl
               simp only [Act.put, List.setIfInBounds_toArray, List.set_cons_zero, List.set_cons_succ])
            | (refine mv_take _ (Or.inr ⟨by rfl, rfl⟩) (rfl) ?_
               simp only [Act.put, List.setIfInBounds_toArray, List.set_cons_zero, List.set_cons_succ])
        iterate 1
          first
            | (refine mv_free ?_ (Or.inl ⟨by rfl, ?_⟩) (rfl) ?_
               rotate_left 1
               · intro u
                 go_simp
                 try with_reducible rfl
               simp only [Act.put, List.setIfInBounds_toArray, List.set_cons_zero, List.set_cons_succ])
            | (refine mv_free _ (Or.inr ⟨by rfl, rfl⟩) (rfl) ?_
               simp only [Act.put, List.setIfInBounds_toArray, List.set_cons_zero, List.set_cons_succ])
        refine mv_step (fun K hK => ?_)
        go_simp
        refine (A0.out _).mono ?_
        rintro e w' ⟨rfl, rfl⟩
        go_wp2_with fail
        refine hK.out _ _ _ (fun u hu => hu) (rfl) ?_
        clear hK K
        iterate 2
          first
            | (refine mv_free ?_ (Or.inl ⟨by rfl, ?_⟩) (rfl) ?_
               rotate_left 1
               · intro u
                 go_simp
                 try with_reducible rfl
               simp only [Act.put, List.setIfInBounds_toArray, List.set_cons_zero, List.set_cons_succ])
            | (refine mv_free _ (Or.inr ⟨by rfl, rfl⟩) (rfl) ?_
               simp only [Act.put, List.setIfInBounds_toArray, List.set_cons_zero, List.set_cons_succ])
        refine mv_done ?_
        go_wp2
        go_ret2
        exact ⟨rfl, hbel5.drew⟩
  · have hv := HV.out
    simp only [Bool.and_true, Bool.and_false, Bool.and_self, Bool.true_and, Bool.false_and, if_true, if_false, Bool.false_eq_true] at hv
    subst hv
    clear HV
    go_wp2_with ((go_at_call 75; (with_reducible refine (MN.out _).mono ?_); rintro e w' ⟨rfl, rfl⟩))
    go_ret2
    exact ⟨rfl, hbel⟩
  · have hv := HV.out
    simp only [Bool.and_true, Bool.and_false, Bool.and_self, Bool.true_and, Bool.false_and, if_true, if_false, Bool.false_eq_true] at hv
    subst hv
    clear HV
    go_wp2_with ((go_at_call 74; (with_reducible refine (MD.out _).mono ?_); rintro e w' ⟨rfl, rfl⟩))
    go_ret2
    exact ⟨rfl, hbel⟩

set_option maxHeartbeats 1000000 in
theorem lives24 (w : World) : Calls Try.prog 38 #[] w fun e w' => e = .returned (.bool true) ∧ Below w.heap.size w w' := by
  go_enter Try.func38, Try.ntmps38
  go_wp2_with fail
  refine (vpick_any 5 0 900 0 7 0 0 _).mono ?_
  rw [show vtP 5 0 900 0 7 0 0 = (7, 5) by decide]
  rintro e w1 ⟨rfl, hb1⟩
  go_wp2
  go_ret
  exact ⟨rfl, hb1⟩

set_option maxRecDepth 100000 in
set_option maxHeartbeats 4000000 in
theorem law_VotePicks (x0 e0 x1 e1 x2 e2 tau : Int) (w : World) : Calls Try.prog 8 #[.agg #[.int .i64 x0, .int .i64 e0, .int .i64 x1, .int .i64 e1, .int .i64 x2, .int .i64 e2], .int .i64 tau] w fun r w' => r = .returned (.bool true) ∧ Below w.heap.size w w' := by
  have VP := Lib.hid (fun u => vpick_any x0 e0 x1 e1 x2 e2 tau u)
  have RP := Lib.hid (fun u => rvpick_any x0 e0 x1 e1 x2 e2 tau u)
  have VT := Lib.hid (fun u => vthere_any x0 e0 x1 e1 x2 e2 u)
  have SX := Lib.hid (fun u h => six_at w x0 e0 x1 e1 x2 e2 (u := u) rfl h)
  generalize (vtP x0 e0 x1 e1 x2 e2 tau).1 = qv at *
  generalize (vtP x0 e0 x1 e1 x2 e2 tau).2 = qs at *
  have hb0 : Hid (Below w.heap.size w (w.alloc (.cells #[.int .i64 x0, .int .i64 e0, .int .i64 x1, .int .i64 e1, .int .i64 x2, .int .i64 e2] 57))) := Lib.hid (by repeat (first | exact Below.refl _ _ | assumption | apply Below.drew | apply below_drewN | (refine Below.alloc ?_ (by first | exact Nat.le_refl _ | omega | (simp <;> omega)) _) | (refine Below.setCell ?_ (by first | exact Nat.le_refl _ | omega | (simp <;> omega)) _)))
  have B0 := Lib.hid (Below.refl (w.heap.size + 1) (w.alloc (.cells #[.int .i64 x0, .int .i64 e0, .int .i64 x1, .int .i64 e1, .int .i64 x2, .int .i64 e2] 57)))
  have hz : Hid (w.heap.size + 1 = (w.alloc (.cells #[.int .i64 x0, .int .i64 e0, .int .i64 x1, .int .i64 e1, .int .i64 x2, .int .i64 e2] 57)).heap.size) := Lib.hid (by simp)
  generalize hz0 : (e0 == 0) = z0 at *
  generalize hz1 : (e1 == 0) = z1 at *
  generalize hz2 : (e2 == 0) = z2 at *
  go_enter Try.func8, Try.ntmps8
  go_wp2_with fail
  replace hb0 := hb0.out
  replace B0 := B0.out
  replace hz := hz.out
  generalize (w.alloc (.cells #[.int .i64 x0, .int .i64 e0, .int .i64 x1, .int .i64 e1, .int .i64 x2, .int .i64 e2] 57)) = V at *
  refine (VP.out _).mono ?_
  rintro e w1 ⟨rfl, b1⟩
  have B1 := B0.trans (b1.mono (Nat.le_of_eq hz))
  obtain ⟨k0, k1, k2, k3, k4, k5⟩ := SX.out _ B1
  go_wp2_with fail
  refine (RP.out _).mono ?_
  rintro e w2 ⟨rfl, b2⟩
  have B2 := B1.trans (b2.mono (by have := B1.size; omega))
  clear k0 k1 k2 k3 k4 k5
  obtain ⟨k0, k1, k2, k3, k4, k5⟩ := SX.out _ B2
  have hbel : Below w.heap.size w w2 := hb0.trans (B2.mono (by omega))
  have hs2 := B2.size
  clear B0 B1 b1 b2 hb0 VP RP
  go_wp2_with fail
  go_loop [9, 10] (fun n i => ∃ k : Nat, k ≤ 3 ∧ i = .int .i64 k ∧ n = .int .i64 (vtN z0 z1 z2 k)) (fun _ i => 3 - (intOf i).toNat)
  case atStart => exact ⟨0, by omega, rfl, by simp [vtN]⟩
  case round =>
    obtain ⟨k, hk, rfl, rfl⟩ := hrel
    by_cases hk3 : k < 3
    · obtain rfl | rfl | rfl : k = 0 ∨ k = 1 ∨ k = 2 := by omega
      all_goals
        cases z0 <;> cases z1 <;> cases z2
      all_goals
        simp only [vtN, Bool.true_and, Bool.false_and, Bool.false_eq_true, if_false, Int.reduceAdd, Nat.lt_irrefl, decide_true, decide_false, if_true, Nat.reduceLT]
        go_wp2
        go_round
        case rel => first | exact ⟨1, by omega, rfl, by simp [vtN]⟩ | exact ⟨2, by omega, rfl, by simp [vtN]⟩ | exact ⟨3, by omega, rfl, by simp [vtN]⟩
        case measure => simp [intOf]
    · obtain rfl : k = 3 := by omega
      go_wp2_with fail
      refine (VT.out _).mono ?_
      rintro e w3 ⟨rfl, b3⟩
      have hbel3 := hbel.trans (b3.mono hbel.size)
      go_wp2_with (go_at_call 38; refine (lives24 _).mono ?_; rintro e w1 ⟨rfl, b4⟩)
      go_ret
      exact ⟨rfl, hbel3.trans (b4.mono hbel3.size)⟩
end Go.Proofs.Ytifbedliibhmoaa
