/- The law VoteMost, walked. -/
import Derived.Test.YtifbedliibhmoaaVote3
namespace Go.Proofs.Ytifbedliibhmoaa
open Go.ChangeShapes Go.WideShapes Go.ChangeAt Go.RowKit
set_option linter.unusedVariables false
set_option linter.unusedSimpArgs false

def vmMin (z : Bool) (a x : Int) : Int := if z = true then (if a < x then a else x) else a
def vmMax (z : Bool) (a x : Int) : Int := if z = true then (if a < x then x else a) else a
def vmOne (z : Bool) (n a b x : Int) : Int := if z = true ∧ a ≤ x ∧ x ≤ b then n + 1 else n
def vmL (z0 z1 z2 : Bool) (x0 x1 x2 : Int) : Nat → Int
  | 0 => 549755813887
  | 1 => vmMin z0 549755813887 x0
  | 2 => vmMin z1 (vmMin z0 549755813887 x0) x1
  | _ => vmMin z2 (vmMin z1 (vmMin z0 549755813887 x0) x1) x2
def vmH (z0 z1 z2 : Bool) (x0 x1 x2 : Int) : Nat → Int
  | 0 => -549755813887
  | 1 => vmMax z0 (-549755813887) x0
  | 2 => vmMax z1 (vmMax z0 (-549755813887) x0) x1
  | _ => vmMax z2 (vmMax z1 (vmMax z0 (-549755813887) x0) x1) x2
def vmI (z0 z1 z2 : Bool) (a b x0 x1 x2 : Int) : Nat → Int
  | 0 => 0
  | 1 => vmOne z0 0 a b x0
  | 2 => vmOne z1 (vmOne z0 0 a b x0) a b x1
  | _ => vmOne z2 (vmOne z1 (vmOne z0 0 a b x0) a b x1) a b x2
theorem vmI_bd (z0 z1 z2 : Bool) (a b x0 x1 x2 : Int) (k : Nat) : 0 ≤ vmI z0 z1 z2 a b x0 x1 x2 k ∧ vmI z0 z1 z2 a b x0 x1 x2 k ≤ 3 := by
  rcases k with _ | _ | _ | k <;> simp only [vmI, vmOne] <;> (try split) <;> (try split) <;> (try split) <;> omega
theorem vi64 {a b : Int} (h : a = b) : Value.int .i64 a = .int .i64 b := by rw [h]

theorem vm_fact (x0 e0 x1 e1 x2 e2 tau a b : Int) (h0 : clq x0 = x0) (h1 : clq x1 = x1) (h2 : clq x2 = x2) :
    ((vtP x0 e0 x1 e1 x2 e2 tau).2 = 0 → (vtP x0 e0 x1 e1 x2 e2 tau).1 = 0 ∧ vtN (e0 == 0) (e1 == 0) (e2 == 0) 3 = 0) ∧
    ((vtP x0 e0 x1 e1 x2 e2 tau).2 ≠ 0 → vmL (e0 == 0) (e1 == 0) (e2 == 0) x0 x1 x2 3 ≤ (vtP x0 e0 x1 e1 x2 e2 tau).1 ∧ (vtP x0 e0 x1 e1 x2 e2 tau).1 ≤ vmH (e0 == 0) (e1 == 0) (e2 == 0) x0 x1 x2 3) ∧
    ((vtP x0 e0 x1 e1 x2 e2 tau).2 ≠ 5 ∨ vmI (e0 == 0) (e1 == 0) (e2 == 0) a b x0 x1 x2 3 < 2 ∨ (a ≤ (vtP x0 e0 x1 e1 x2 e2 tau).1 ∧ (vtP x0 e0 x1 e1 x2 e2 tau).1 ≤ b)) := by
  have b0 := clq_bd x0
  have b1 := clq_bd x1
  have b2 := clq_bd x2
  rw [h0] at b0
  rw [h1] at b1
  rw [h2] at b2
  unfold vtP vtOne men
  rw [h0, h1]
  generalize (e0 == 0) = z0
  generalize (e1 == 0) = z1
  generalize (e2 == 0) = z2
  generalize apt x0 x2 = d0
  generalize apt x1 x2 = d1
  have hd0 : decide (tau < d0) = true ∨ decide (tau < d0) = false := by cases decide (tau < d0) <;> simp
  have hd1 : decide (tau < d1) = true ∨ decide (tau < d1) = false := by cases decide (tau < d1) <;> simp
  generalize decide (tau < d0) = c0 at *
  generalize decide (tau < d1) = c1 at *
  rcases hd0 with rfl | rfl <;> rcases hd1 with rfl | rfl
  all_goals
    cases z0 <;> cases z1 <;> cases z2
  all_goals
    simp [vtN, vmL, vmH, vmI, vmMin, vmMax, vmOne, vtMid]
    try omega

set_option maxRecDepth 100000 in
set_option maxHeartbeats 8000000 in
theorem law_VoteMost (x0 e0 x1 e1 x2 e2 tau a b : Int) (w : World) : Calls Try.prog 10 #[.agg #[.int .i64 x0, .int .i64 e0, .int .i64 x1, .int .i64 e1, .int .i64 x2, .int .i64 e2], .int .i64 tau, .agg #[.int .i64 a, .int .i64 b]] w fun r w' => r = .returned (.bool true) ∧ Below w.heap.size w w' := by
  have VP := Lib.hid (fun u => vpick_any x0 e0 x1 e1 x2 e2 tau u)
  have VT := Lib.hid (fun u => vthere_any x0 e0 x1 e1 x2 e2 u)
  have FX := Lib.hid (vm_fact x0 e0 x1 e1 x2 e2 tau a b)
  have C0 := Lib.hid (fun u => r16clip_any x0 u)
  have C1 := Lib.hid (fun u => r16clip_any x1 u)
  have C2 := Lib.hid (fun u => r16clip_any x2 u)
  have b0 := clq_bd x0
  have b1 := clq_bd x1
  have b2 := clq_bd x2
  generalize (vtP x0 e0 x1 e1 x2 e2 tau).1 = qv at *
  generalize (vtP x0 e0 x1 e1 x2 e2 tau).2 = qs at *
  generalize hq0 : clq x0 = q0 at *
  generalize hq1 : clq x1 = q1 at *
  generalize hq2 : clq x2 = q2 at *
  clear hq0 hq1 hq2
  generalize hz0 : (e0 == 0) = z0 at *
  generalize hz1 : (e1 == 0) = z1 at *
  generalize hz2 : (e2 == 0) = z2 at *
  obtain ⟨V, eV, hb0, hz, hcs⟩ : ∃ V, V = (w.alloc (.cells #[.int .i64 x0, .int .i64 e0, .int .i64 x1, .int .i64 e1, .int .i64 x2, .int .i64 e2] 57)).alloc (.cells #[.int .i64 a, .int .i64 b] 66) ∧ Below w.heap.size w V ∧ V.heap.size = w.heap.size + 2 ∧ ∀ u, Below (w.heap.size + 2) V u → u.cell? ⟨w.heap.size, 0, none⟩ = some (.int .i64 x0) ∧ u.cell? ⟨w.heap.size, 1, none⟩ = some (.int .i64 e0) ∧ u.cell? ⟨w.heap.size, 2, none⟩ = some (.int .i64 x1) ∧ u.cell? ⟨w.heap.size, 3, none⟩ = some (.int .i64 e1) ∧ u.cell? ⟨w.heap.size, 4, none⟩ = some (.int .i64 x2) ∧ u.cell? ⟨w.heap.size, 5, none⟩ = some (.int .i64 e2) ∧ u.cell? ⟨w.heap.size + 1, 0, none⟩ = some (.int .i64 a) ∧ u.cell? ⟨w.heap.size + 1, 1, none⟩ = some (.int .i64 b) :=
    ⟨_, rfl, (by repeat (first | exact Below.refl _ _ | assumption | apply Below.drew | apply below_drewN | (refine Below.alloc ?_ (by first | exact Nat.le_refl _ | omega | (simp <;> omega)) _) | (refine Below.setCell ?_ (by first | exact Nat.le_refl _ | omega | (simp <;> omega)) _))), by simp, fun u hu => ⟨(bc hu (by omega)).trans (by go_simp), (bc hu (by omega)).trans (by go_simp), (bc hu (by omega)).trans (by go_simp), (bc hu (by omega)).trans (by go_simp), (bc hu (by omega)).trans (by go_simp), (bc hu (by omega)).trans (by go_simp), (bc hu (by omega)).trans (by go_simp), (bc hu (by omega)).trans (by go_simp)⟩⟩
  replace hb0 := Lib.hid hb0
  replace hz := Lib.hid hz
  replace hcs := Lib.hid hcs
  replace eV := Lib.hid eV
  go_enter Try.func10, Try.ntmps10
  go_wp2_with fail
  rw [← eV.out]
  refine (VP.out _).mono ?_
  rintro e w1 ⟨rfl, hb1⟩
  have hb1 := (Below.refl (w.heap.size + 2) V).trans (hb1.mono (Nat.le_of_eq hz.out.symm))
  obtain ⟨k0, k1, k2, k3, k4, k5, k6, k7⟩ := hcs.out _ hb1
  go_wp2_with fail
  clear k0 k1 k2 k3 k4 k5 k6 k7
  go_loopw [9, 10, 11, 12] (fun L H I i v => ∃ k : Nat, k ≤ 3 ∧ i = .int .i64 k ∧ L = .int .i64 (vmL z0 z1 z2 x0 x1 x2 k) ∧ H = .int .i64 (vmH z0 z1 z2 x0 x1 x2 k) ∧ I = .int .i64 (vmI z0 z1 z2 a b x0 x1 x2 k) ∧ (1 ≤ k → q0 = x0) ∧ (2 ≤ k → q1 = x1) ∧ (3 ≤ k → q2 = x2) ∧ Below (w.heap.size + 2) V v) (fun _ _ _ i _ => 3 - (intOf i).toNat)
  case atStart => exact ⟨0, by omega, rfl, rfl, rfl, rfl, fun h => absurd h (by omega), fun h => absurd h (by omega), fun h => absurd h (by omega), hb1⟩
  case round =>
    clear hb1
    obtain ⟨k, hk, rfl, rfl, rfl, rfl, r0, r1, r2, hbel⟩ := hrel
    obtain ⟨k0, k1, k2, k3, k4, k5, k6, k7⟩ := hcs.out _ hbel
    by_cases hk3 : k < 3
    · obtain rfl | rfl | rfl : k = 0 ∨ k = 1 ∨ k = 2 := by omega
      · have eL : vmL z0 z1 z2 x0 x1 x2 1 = vmMin z0 (vmL z0 z1 z2 x0 x1 x2 0) x0 := rfl
        have eH : vmH z0 z1 z2 x0 x1 x2 1 = vmMax z0 (vmH z0 z1 z2 x0 x1 x2 0) x0 := rfl
        have eI : vmI z0 z1 z2 a b x0 x1 x2 1 = vmOne z0 (vmI z0 z1 z2 a b x0 x1 x2 0) a b x0 := rfl
        have bI := vmI_bd z0 z1 z2 a b x0 x1 x2 0
        replace eL := Lib.hid eL
        replace eH := Lib.hid eH
        replace eI := Lib.hid eI
        generalize vmL z0 z1 z2 x0 x1 x2 0 = L at *
        generalize vmH z0 z1 z2 x0 x1 x2 0 = H at *
        generalize vmI z0 z1 z2 a b x0 x1 x2 0 = I at *
        replace r0 := Lib.hid r0
        replace r1 := Lib.hid r1
        replace r2 := Lib.hid r2
        by_cases hc : q0 = x0
        · have CL := C0
          rw [hc] at CL
          cases z0
          · go_wp2_with fail
            refine region_moves (fun u => u.cell? ⟨w.heap.size, 0, none⟩ = some (.int .i64 x0) ∧ u.cell? ⟨w.heap.size, 1, none⟩ = some (.int .i64 e0) ∧ u.cell? ⟨w.heap.size, 2, none⟩ = some (.int .i64 x1) ∧ u.cell? ⟨w.heap.size, 3, none⟩ = some (.int .i64 e1) ∧ u.cell? ⟨w.heap.size, 4, none⟩ = some (.int .i64 x2) ∧ u.cell? ⟨w.heap.size, 5, none⟩ = some (.int .i64 e2) ∧ u.cell? ⟨w.heap.size + 1, 0, none⟩ = some (.int .i64 a) ∧ u.cell? ⟨w.heap.size + 1, 1, none⟩ = some (.int .i64 b)) [] [(.free, 0), (.free, 1), (.free, 2), (.take, 3), (.free, 4), (.free, 5), (.free, 6), (.take, 7), (.step, 8), (.free, 9)] _ (by kernel_rfl) (by kernel_rfl) (by kernel_rfl) (by kernel_rfl) (by decide) rfl (fun _ _ _ _ _ h => h) ?_
            simp only [List.filterMap_cons, List.filterMap_nil, List.getElem?_toArray, List.getElem?_cons_zero, List.getElem?_cons_succ, Option.map_some]
            iterate 3
              first
                | (refine mv_free ?_ (Or.inl ⟨by rfl, ?_⟩) (⟨k0, k1, k2, k3, k4, k5, k6, k7⟩) ?_
                   rotate_left 1
                   · intro u
                     go_simp
                     try simp only [dq0]
                     try simp only [dq1]
                     try with_reducible rfl
                   simp only [Act.put, List.setIfInBounds_toArray, List.set_cons_zero, List.set_cons_succ])
                | (refine mv_free _ (Or.inr ⟨by rfl, rfl⟩) (⟨k0, k1, k2, k3, k4, k5, k6, k7⟩) ?_
                   simp only [Act.put, List.setIfInBounds_toArray, List.set_cons_zero, List.set_cons_succ])
            iterate 1
              first
                | (refine mv_take ?_ (Or.inl ⟨by rfl, ?_⟩) (⟨k0, k1, k2, k3, k4, k5, k6, k7⟩) ?_
                   rotate_left 1
                   · intro u hu
                     (try dsimp only at hu)
                     go_simp
                     try with_reducible rfl
                   simp only [Act.put, List.setIfInBounds_toArray, List.set_cons_zero, List.set_cons_succ])
                | (refine mv_take _ (Or.inr ⟨by rfl, rfl⟩) (⟨k0, k1, k2, k3, k4, k5, k6, k7⟩) ?_
                   simp only [Act.put, List.setIfInBounds_toArray, List.set_cons_zero, List.set_cons_succ])
            iterate 3
              first
                | (refine mv_free ?_ (Or.inl ⟨by rfl, ?_⟩) (⟨k0, k1, k2, k3, k4, k5, k6, k7⟩) ?_
                   rotate_left 1
                   · intro u
                     go_simp
                     try simp only [dq0]
                     try simp only [dq1]
                     try with_reducible rfl
                   simp only [Act.put, List.setIfInBounds_toArray, List.set_cons_zero, List.set_cons_succ])
                | (refine mv_free _ (Or.inr ⟨by rfl, rfl⟩) (⟨k0, k1, k2, k3, k4, k5, k6, k7⟩) ?_
                   simp only [Act.put, List.setIfInBounds_toArray, List.set_cons_zero, List.set_cons_succ])
            iterate 1
              first
                | (refine mv_take ?_ (Or.inl ⟨by rfl, ?_⟩) (⟨k0, k1, k2, k3, k4, k5, k6, k7⟩) ?_
                   rotate_left 1
                   · intro u hu
                     (try dsimp only at hu)
                     go_simp
                     try with_reducible rfl
                   simp only [Act.put, List.setIfInBounds_toArray, List.set_cons_zero, List.set_cons_succ])
                | (refine mv_take _ (Or.inr ⟨by rfl, rfl⟩) (⟨k0, k1, k2, k3, k4, k5, k6, k7⟩) ?_
                   simp only [Act.put, List.setIfInBounds_toArray, List.set_cons_zero, List.set_cons_succ])
            refine mv_step (fun K hK => ?_)
            go_simp
            refine (CL.out _).mono ?_
            rintro e w' ⟨rfl, rfl⟩
            go_wp2_with fail
            refine hK.out _ _ _ (fun u hu => hu) (⟨k0, k1, k2, k3, k4, k5, k6, k7⟩) ?_
            clear hK K
            iterate 1
              first
                | (refine mv_free ?_ (Or.inl ⟨by rfl, ?_⟩) (⟨k0, k1, k2, k3, k4, k5, k6, k7⟩) ?_
                   rotate_left 1
                   · intro u
                     go_simp
                     try simp only [dq0]
                     try simp only [dq1]
                     try with_reducible rfl
                   simp only [Act.put, List.setIfInBounds_toArray, List.set_cons_zero, List.set_cons_succ])
                | (refine mv_free _ (Or.inr ⟨by rfl, rfl⟩) (⟨k0, k1, k2, k3, k4, k5, k6, k7⟩) ?_
                   simp only [Act.put, List.setIfInBounds_toArray, List.set_cons_zero, List.set_cons_succ])
            refine mv_done ?_
            go_wp2
            go_roundw
            case rel => exact ⟨1, by omega, rfl, vi64 (by rw [eL.out]; simp [vmMin]), vi64 (by rw [eH.out]; simp [vmMax]), vi64 (by rw [eI.out]; simp [vmOne]), (fun _ => hc), fun h => absurd h (by omega), fun h => absurd h (by omega), hbel.drew⟩
            case measure => simp [intOf]
          · rcases (show (decide (a ≤ x0) = true ∨ decide (a ≤ x0) = false) by cases decide (a ≤ x0) <;> simp) with dq0 | dq0 <;> rcases (show (decide (x0 ≤ b) = true ∨ decide (x0 ≤ b) = false) by cases decide (x0 ≤ b) <;> simp) with dq1 | dq1
            all_goals
              go_wp2_with fail
              refine region_moves (fun u => u.cell? ⟨w.heap.size, 0, none⟩ = some (.int .i64 x0) ∧ u.cell? ⟨w.heap.size, 1, none⟩ = some (.int .i64 e0) ∧ u.cell? ⟨w.heap.size, 2, none⟩ = some (.int .i64 x1) ∧ u.cell? ⟨w.heap.size, 3, none⟩ = some (.int .i64 e1) ∧ u.cell? ⟨w.heap.size, 4, none⟩ = some (.int .i64 x2) ∧ u.cell? ⟨w.heap.size, 5, none⟩ = some (.int .i64 e2) ∧ u.cell? ⟨w.heap.size + 1, 0, none⟩ = some (.int .i64 a) ∧ u.cell? ⟨w.heap.size + 1, 1, none⟩ = some (.int .i64 b)) [] [(.free, 0), (.free, 1), (.free, 2), (.take, 3), (.free, 4), (.free, 5), (.free, 6), (.take, 7), (.step, 8), (.free, 9)] _ (by kernel_rfl) (by kernel_rfl) (by kernel_rfl) (by kernel_rfl) (by decide) rfl (fun _ _ _ _ _ h => h) ?_
              simp only [List.filterMap_cons, List.filterMap_nil, List.getElem?_toArray, List.getElem?_cons_zero, List.getElem?_cons_succ, Option.map_some]
              iterate 3
                first
                  | (refine mv_free ?_ (Or.inl ⟨by rfl, ?_⟩) (⟨k0, k1, k2, k3, k4, k5, k6, k7⟩) ?_
                     rotate_left 1
                     · intro u
                       go_simp
                       try simp only [dq0]
                       try simp only [dq1]
                       try with_reducible rfl
                     simp only [Act.put, List.setIfInBounds_toArray, List.set_cons_zero, List.set_cons_succ])
                  | (refine mv_free _ (Or.inr ⟨by rfl, rfl⟩) (⟨k0, k1, k2, k3, k4, k5, k6, k7⟩) ?_
                     simp only [Act.put, List.setIfInBounds_toArray, List.set_cons_zero, List.set_cons_succ])
              iterate 1
                first
                  | (refine mv_take ?_ (Or.inl ⟨by rfl, ?_⟩) (⟨k0, k1, k2, k3, k4, k5, k6, k7⟩) ?_
                     rotate_left 1
                     · intro u hu
                       (try dsimp only at hu)
                       go_simp
                       try with_reducible rfl
                     simp only [Act.put, List.setIfInBounds_toArray, List.set_cons_zero, List.set_cons_succ])
                  | (refine mv_take _ (Or.inr ⟨by rfl, rfl⟩) (⟨k0, k1, k2, k3, k4, k5, k6, k7⟩) ?_
                     simp only [Act.put, List.setIfInBounds_toArray, List.set_cons_zero, List.set_cons_succ])
              iterate 3
                first
                  | (refine mv_free ?_ (Or.inl ⟨by rfl, ?_⟩) (⟨k0, k1, k2, k3, k4, k5, k6, k7⟩) ?_
                     rotate_left 1
                     · intro u
                       go_simp
                       try simp only [dq0]
                       try simp only [dq1]
                       try with_reducible rfl
                     simp only [Act.put, List.setIfInBounds_toArray, List.set_cons_zero, List.set_cons_succ])
                  | (refine mv_free _ (Or.inr ⟨by rfl, rfl⟩) (⟨k0, k1, k2, k3, k4, k5, k6, k7⟩) ?_
                     simp only [Act.put, List.setIfInBounds_toArray, List.set_cons_zero, List.set_cons_succ])
              iterate 1
                first
                  | (refine mv_take ?_ (Or.inl ⟨by rfl, ?_⟩) (⟨k0, k1, k2, k3, k4, k5, k6, k7⟩) ?_
                     rotate_left 1
                     · intro u hu
                       (try dsimp only at hu)
                       go_simp
                       try with_reducible rfl
                     simp only [Act.put, List.setIfInBounds_toArray, List.set_cons_zero, List.set_cons_succ])
                  | (refine mv_take _ (Or.inr ⟨by rfl, rfl⟩) (⟨k0, k1, k2, k3, k4, k5, k6, k7⟩) ?_
                     simp only [Act.put, List.setIfInBounds_toArray, List.set_cons_zero, List.set_cons_succ])
              refine mv_step (fun K hK => ?_)
              go_simp
              refine (CL.out _).mono ?_
              rintro e w' ⟨rfl, rfl⟩
              go_wp2_with fail
              refine hK.out _ _ _ (fun u hu => hu) (⟨k0, k1, k2, k3, k4, k5, k6, k7⟩) ?_
              clear hK K
              iterate 1
                first
                  | (refine mv_free ?_ (Or.inl ⟨by rfl, ?_⟩) (⟨k0, k1, k2, k3, k4, k5, k6, k7⟩) ?_
                     rotate_left 1
                     · intro u
                       go_simp
                       try simp only [dq0]
                       try simp only [dq1]
                       try with_reducible rfl
                     simp only [Act.put, List.setIfInBounds_toArray, List.set_cons_zero, List.set_cons_succ])
                  | (refine mv_free _ (Or.inr ⟨by rfl, rfl⟩) (⟨k0, k1, k2, k3, k4, k5, k6, k7⟩) ?_
                     simp only [Act.put, List.setIfInBounds_toArray, List.set_cons_zero, List.set_cons_succ])
              refine mv_done ?_
              go_wp2_with fail
              all_goals
                refine region_moves (fun u => u.cell? ⟨w.heap.size, 0, none⟩ = some (.int .i64 x0) ∧ u.cell? ⟨w.heap.size, 1, none⟩ = some (.int .i64 e0) ∧ u.cell? ⟨w.heap.size, 2, none⟩ = some (.int .i64 x1) ∧ u.cell? ⟨w.heap.size, 3, none⟩ = some (.int .i64 e1) ∧ u.cell? ⟨w.heap.size, 4, none⟩ = some (.int .i64 x2) ∧ u.cell? ⟨w.heap.size, 5, none⟩ = some (.int .i64 e2) ∧ u.cell? ⟨w.heap.size + 1, 0, none⟩ = some (.int .i64 a) ∧ u.cell? ⟨w.heap.size + 1, 1, none⟩ = some (.int .i64 b)) [] [(.free, 0), (.free, 1), (.free, 2), (.take, 3), (.free, 4), (.take, 5), (.free, 6), (.free, 7), (.free, 8), (.free, 9), (.free, 10), (.take, 11), (.free, 12), (.take, 13), (.free, 14), (.free, 15)] _ (by kernel_rfl) (by kernel_rfl) (by kernel_rfl) (by kernel_rfl) (by decide) rfl (fun _ _ _ _ _ h => h) ?_
                simp only [List.filterMap_cons, List.filterMap_nil, List.getElem?_toArray, List.getElem?_cons_zero, List.getElem?_cons_succ, Option.map_some]
                iterate 3
                  first
                    | (refine mv_free ?_ (Or.inl ⟨by rfl, ?_⟩) (⟨k0, k1, k2, k3, k4, k5, k6, k7⟩) ?_
                       rotate_left 1
                       · intro u
                         go_simp
                         try simp only [dq0]
                         try simp only [dq1]
                         try with_reducible rfl
                       simp only [Act.put, List.setIfInBounds_toArray, List.set_cons_zero, List.set_cons_succ])
                    | (refine mv_free _ (Or.inr ⟨by rfl, rfl⟩) (⟨k0, k1, k2, k3, k4, k5, k6, k7⟩) ?_
                       simp only [Act.put, List.setIfInBounds_toArray, List.set_cons_zero, List.set_cons_succ])
                iterate 1
                  first
                    | (refine mv_take ?_ (Or.inl ⟨by rfl, ?_⟩) (⟨k0, k1, k2, k3, k4, k5, k6, k7⟩) ?_
                       rotate_left 1
                       · intro u hu
                         (try dsimp only at hu)
                         go_simp
                         try with_reducible rfl
                       simp only [Act.put, List.setIfInBounds_toArray, List.set_cons_zero, List.set_cons_succ])
                    | (refine mv_take _ (Or.inr ⟨by rfl, rfl⟩) (⟨k0, k1, k2, k3, k4, k5, k6, k7⟩) ?_
                       simp only [Act.put, List.setIfInBounds_toArray, List.set_cons_zero, List.set_cons_succ])
                iterate 1
                  first
                    | (refine mv_free ?_ (Or.inl ⟨by rfl, ?_⟩) (⟨k0, k1, k2, k3, k4, k5, k6, k7⟩) ?_
                       rotate_left 1
                       · intro u
                         go_simp
                         try simp only [dq0]
                         try simp only [dq1]
                         try with_reducible rfl
                       simp only [Act.put, List.setIfInBounds_toArray, List.set_cons_zero, List.set_cons_succ])
                    | (refine mv_free _ (Or.inr ⟨by rfl, rfl⟩) (⟨k0, k1, k2, k3, k4, k5, k6, k7⟩) ?_
                       simp only [Act.put, List.setIfInBounds_toArray, List.set_cons_zero, List.set_cons_succ])
                iterate 1
                  first
                    | (refine mv_take ?_ (Or.inl ⟨by rfl, ?_⟩) (⟨k0, k1, k2, k3, k4, k5, k6, k7⟩) ?_
                       rotate_left 1
                       · intro u hu
                         (try dsimp only at hu)
                         go_simp
                         try with_reducible rfl
                       simp only [Act.put, List.setIfInBounds_toArray, List.set_cons_zero, List.set_cons_succ])
                    | (refine mv_take _ (Or.inr ⟨by rfl, rfl⟩) (⟨k0, k1, k2, k3, k4, k5, k6, k7⟩) ?_
                       simp only [Act.put, List.setIfInBounds_toArray, List.set_cons_zero, List.set_cons_succ])
                iterate 5
                  first
                    | (refine mv_free ?_ (Or.inl ⟨by rfl, ?_⟩) (⟨k0, k1, k2, k3, k4, k5, k6, k7⟩) ?_
                       rotate_left 1
                       · intro u
                         go_simp
                         try simp only [dq0]
                         try simp only [dq1]
                         try with_reducible rfl
                       simp only [Act.put, List.setIfInBounds_toArray, List.set_cons_zero, List.set_cons_succ])
                    | (refine mv_free _ (Or.inr ⟨by rfl, rfl⟩) (⟨k0, k1, k2, k3, k4, k5, k6, k7⟩) ?_
                       simp only [Act.put, List.setIfInBounds_toArray, List.set_cons_zero, List.set_cons_succ])
                iterate 1
                  first
                    | (refine mv_take ?_ (Or.inl ⟨by rfl, ?_⟩) (⟨k0, k1, k2, k3, k4, k5, k6, k7⟩) ?_
                       rotate_left 1
                       · intro u hu
                         (try dsimp only at hu)
                         go_simp
                         try with_reducible rfl
                       simp only [Act.put, List.setIfInBounds_toArray, List.set_cons_zero, List.set_cons_succ])
                    | (refine mv_take _ (Or.inr ⟨by rfl, rfl⟩) (⟨k0, k1, k2, k3, k4, k5, k6, k7⟩) ?_
                       simp only [Act.put, List.setIfInBounds_toArray, List.set_cons_zero, List.set_cons_succ])
                iterate 1
                  first
                    | (refine mv_free ?_ (Or.inl ⟨by rfl, ?_⟩) (⟨k0, k1, k2, k3, k4, k5, k6, k7⟩) ?_
                       rotate_left 1
                       · intro u
                         go_simp
                         try simp only [dq0]
                         try simp only [dq1]
                         try with_reducible rfl
                       simp only [Act.put, List.setIfInBounds_toArray, List.set_cons_zero, List.set_cons_succ])
                    | (refine mv_free _ (Or.inr ⟨by rfl, rfl⟩) (⟨k0, k1, k2, k3, k4, k5, k6, k7⟩) ?_
                       simp only [Act.put, List.setIfInBounds_toArray, List.set_cons_zero, List.set_cons_succ])
                iterate 1
                  first
                    | (refine mv_take ?_ (Or.inl ⟨by rfl, ?_⟩) (⟨k0, k1, k2, k3, k4, k5, k6, k7⟩) ?_
                       rotate_left 1
                       · intro u hu
                         (try dsimp only at hu)
                         go_simp
                         try with_reducible rfl
                       simp only [Act.put, List.setIfInBounds_toArray, List.set_cons_zero, List.set_cons_succ])
                    | (refine mv_take _ (Or.inr ⟨by rfl, rfl⟩) (⟨k0, k1, k2, k3, k4, k5, k6, k7⟩) ?_
                       simp only [Act.put, List.setIfInBounds_toArray, List.set_cons_zero, List.set_cons_succ])
                iterate 2
                  first
                    | (refine mv_free ?_ (Or.inl ⟨by rfl, ?_⟩) (⟨k0, k1, k2, k3, k4, k5, k6, k7⟩) ?_
                       rotate_left 1
                       · intro u
                         go_simp
                         try simp only [dq0]
                         try simp only [dq1]
                         try with_reducible rfl
                       simp only [Act.put, List.setIfInBounds_toArray, List.set_cons_zero, List.set_cons_succ])
                    | (refine mv_free _ (Or.inr ⟨by rfl, rfl⟩) (⟨k0, k1, k2, k3, k4, k5, k6, k7⟩) ?_
                       simp only [Act.put, List.setIfInBounds_toArray, List.set_cons_zero, List.set_cons_succ])
                refine mv_done ?_
                go_wp2
                have dq2 := dq0
                have dq3 := dq1
                simp only [decide_eq_true_eq, decide_eq_false_iff_not] at dq2 dq3
                go_roundw
                case rel => exact ⟨1, by omega, rfl, vi64 (by rw [eL.out]; simp [vmMin]; try omega), vi64 (by rw [eH.out]; simp [vmMax]; try omega), vi64 (by rw [eI.out]; simp [vmOne, dq2, dq3]; try omega), (fun _ => hc), fun h => absurd h (by omega), fun h => absurd h (by omega), hbel.drew.drew⟩
                case measure => simp [intOf]
        · go_wp2_with fail
          refine region_moves (fun u => u.cell? ⟨w.heap.size, 0, none⟩ = some (.int .i64 x0) ∧ u.cell? ⟨w.heap.size, 1, none⟩ = some (.int .i64 e0) ∧ u.cell? ⟨w.heap.size, 2, none⟩ = some (.int .i64 x1) ∧ u.cell? ⟨w.heap.size, 3, none⟩ = some (.int .i64 e1) ∧ u.cell? ⟨w.heap.size, 4, none⟩ = some (.int .i64 x2) ∧ u.cell? ⟨w.heap.size, 5, none⟩ = some (.int .i64 e2) ∧ u.cell? ⟨w.heap.size + 1, 0, none⟩ = some (.int .i64 a) ∧ u.cell? ⟨w.heap.size + 1, 1, none⟩ = some (.int .i64 b)) [] [(.free, 0), (.free, 1), (.free, 2), (.take, 3), (.free, 4), (.free, 5), (.free, 6), (.take, 7), (.step, 8), (.free, 9)] _ (by kernel_rfl) (by kernel_rfl) (by kernel_rfl) (by kernel_rfl) (by decide) rfl (fun _ _ _ _ _ h => h) ?_
          simp only [List.filterMap_cons, List.filterMap_nil, List.getElem?_toArray, List.getElem?_cons_zero, List.getElem?_cons_succ, Option.map_some]
          iterate 3
            first
              | (refine mv_free ?_ (Or.inl ⟨by rfl, ?_⟩) (⟨k0, k1, k2, k3, k4, k5, k6, k7⟩) ?_
                 rotate_left 1
                 · intro u
                   go_simp
                   try simp only [dq0]
                   try simp only [dq1]
                   try with_reducible rfl
                 simp only [Act.put, List.setIfInBounds_toArray, List.set_cons_zero, List.set_cons_succ])
              | (refine mv_free _ (Or.inr ⟨by rfl, rfl⟩) (⟨k0, k1, k2, k3, k4, k5, k6, k7⟩) ?_
                 simp only [Act.put, List.setIfInBounds_toArray, List.set_cons_zero, List.set_cons_succ])
          iterate 1
            first
              | (refine mv_take ?_ (Or.inl ⟨by rfl, ?_⟩) (⟨k0, k1, k2, k3, k4, k5, k6, k7⟩) ?_
                 rotate_left 1
                 · intro u hu
                   (try dsimp only at hu)
                   go_simp
                   try with_reducible rfl
                 simp only [Act.put, List.setIfInBounds_toArray, List.set_cons_zero, List.set_cons_succ])
              | (refine mv_take _ (Or.inr ⟨by rfl, rfl⟩) (⟨k0, k1, k2, k3, k4, k5, k6, k7⟩) ?_
                 simp only [Act.put, List.setIfInBounds_toArray, List.set_cons_zero, List.set_cons_succ])
          iterate 3
            first
              | (refine mv_free ?_ (Or.inl ⟨by rfl, ?_⟩) (⟨k0, k1, k2, k3, k4, k5, k6, k7⟩) ?_
                 rotate_left 1
                 · intro u
                   go_simp
                   try simp only [dq0]
                   try simp only [dq1]
                   try with_reducible rfl
                 simp only [Act.put, List.setIfInBounds_toArray, List.set_cons_zero, List.set_cons_succ])
              | (refine mv_free _ (Or.inr ⟨by rfl, rfl⟩) (⟨k0, k1, k2, k3, k4, k5, k6, k7⟩) ?_
                 simp only [Act.put, List.setIfInBounds_toArray, List.set_cons_zero, List.set_cons_succ])
          iterate 1
            first
              | (refine mv_take ?_ (Or.inl ⟨by rfl, ?_⟩) (⟨k0, k1, k2, k3, k4, k5, k6, k7⟩) ?_
                 rotate_left 1
                 · intro u hu
                   (try dsimp only at hu)
                   go_simp
                   try with_reducible rfl
                 simp only [Act.put, List.setIfInBounds_toArray, List.set_cons_zero, List.set_cons_succ])
              | (refine mv_take _ (Or.inr ⟨by rfl, rfl⟩) (⟨k0, k1, k2, k3, k4, k5, k6, k7⟩) ?_
                 simp only [Act.put, List.setIfInBounds_toArray, List.set_cons_zero, List.set_cons_succ])
          refine mv_step (fun K hK => ?_)
          go_simp
          refine (C0.out _).mono ?_
          rintro e w' ⟨rfl, rfl⟩
          go_wp2_with fail
          refine hK.out _ _ _ (fun u hu => hu) (⟨k0, k1, k2, k3, k4, k5, k6, k7⟩) ?_
          clear hK K
          iterate 1
            first
              | (refine mv_free ?_ (Or.inl ⟨by rfl, ?_⟩) (⟨k0, k1, k2, k3, k4, k5, k6, k7⟩) ?_
                 rotate_left 1
                 · intro u
                   go_simp
                   try simp only [dq0]
                   try simp only [dq1]
                   try with_reducible rfl
                 simp only [Act.put, List.setIfInBounds_toArray, List.set_cons_zero, List.set_cons_succ])
              | (refine mv_free _ (Or.inr ⟨by rfl, rfl⟩) (⟨k0, k1, k2, k3, k4, k5, k6, k7⟩) ?_
                 simp only [Act.put, List.setIfInBounds_toArray, List.set_cons_zero, List.set_cons_succ])
          refine mv_done ?_
          go_wp2_with (go_at_call 38; refine (lives24 _).mono ?_; rintro e w1 ⟨rfl, b4⟩)
          all_goals first | (exfalso; omega) | skip
          all_goals
            go_ret
            exact ⟨rfl, (hb0.out.trans (hbel.drew.mono (by omega))).trans (b4.mono (by have := (hb0.out.trans (hbel.drew.mono (by omega))).size; exact this))⟩
      · have eL : vmL z0 z1 z2 x0 x1 x2 2 = vmMin z1 (vmL z0 z1 z2 x0 x1 x2 1) x1 := rfl
        have eH : vmH z0 z1 z2 x0 x1 x2 2 = vmMax z1 (vmH z0 z1 z2 x0 x1 x2 1) x1 := rfl
        have eI : vmI z0 z1 z2 a b x0 x1 x2 2 = vmOne z1 (vmI z0 z1 z2 a b x0 x1 x2 1) a b x1 := rfl
        have bI := vmI_bd z0 z1 z2 a b x0 x1 x2 1
        replace eL := Lib.hid eL
        replace eH := Lib.hid eH
        replace eI := Lib.hid eI
        generalize vmL z0 z1 z2 x0 x1 x2 1 = L at *
        generalize vmH z0 z1 z2 x0 x1 x2 1 = H at *
        generalize vmI z0 z1 z2 a b x0 x1 x2 1 = I at *
        replace r0 := Lib.hid r0
        replace r1 := Lib.hid r1
        replace r2 := Lib.hid r2
        by_cases hc : q1 = x1
        · have CL := C1
          rw [hc] at CL
          cases z1
          · go_wp2_with fail
            refine region_moves (fun u => u.cell? ⟨w.heap.size, 0, none⟩ = some (.int .i64 x0) ∧ u.cell? ⟨w.heap.size, 1, none⟩ = some (.int .i64 e0) ∧ u.cell? ⟨w.heap.size, 2, none⟩ = some (.int .i64 x1) ∧ u.cell? ⟨w.heap.size, 3, none⟩ = some (.int .i64 e1) ∧ u.cell? ⟨w.heap.size, 4, none⟩ = some (.int .i64 x2) ∧ u.cell? ⟨w.heap.size, 5, none⟩ = some (.int .i64 e2) ∧ u.cell? ⟨w.heap.size + 1, 0, none⟩ = some (.int .i64 a) ∧ u.cell? ⟨w.heap.size + 1, 1, none⟩ = some (.int .i64 b)) [] [(.free, 0), (.free, 1), (.free, 2), (.take, 3), (.free, 4), (.free, 5), (.free, 6), (.take, 7), (.step, 8), (.free, 9)] _ (by kernel_rfl) (by kernel_rfl) (by kernel_rfl) (by kernel_rfl) (by decide) rfl (fun _ _ _ _ _ h => h) ?_
            simp only [List.filterMap_cons, List.filterMap_nil, List.getElem?_toArray, List.getElem?_cons_zero, List.getElem?_cons_succ, Option.map_some]
            iterate 3
              first
                | (refine mv_free ?_ (Or.inl ⟨by rfl, ?_⟩) (⟨k0, k1, k2, k3, k4, k5, k6, k7⟩) ?_
                   rotate_left 1
                   · intro u
                     go_simp
                     try simp only [dq0]
                     try simp only [dq1]
                     try with_reducible rfl
                   simp only [Act.put, List.setIfInBounds_toArray, List.set_cons_zero, List.set_cons_succ])
                | (refine mv_free _ (Or.inr ⟨by rfl, rfl⟩) (⟨k0, k1, k2, k3, k4, k5, k6, k7⟩) ?_
                   simp only [Act.put, List.setIfInBounds_toArray, List.set_cons_zero, List.set_cons_succ])
            iterate 1
              first
                | (refine mv_take ?_ (Or.inl ⟨by rfl, ?_⟩) (⟨k0, k1, k2, k3, k4, k5, k6, k7⟩) ?_
                   rotate_left 1
                   · intro u hu
                     (try dsimp only at hu)
                     go_simp
                     try with_reducible rfl
                   simp only [Act.put, List.setIfInBounds_toArray, List.set_cons_zero, List.set_cons_succ])
                | (refine mv_take _ (Or.inr ⟨by rfl, rfl⟩) (⟨k0, k1, k2, k3, k4, k5, k6, k7⟩) ?_
                   simp only [Act.put, List.setIfInBounds_toArray, List.set_cons_zero, List.set_cons_succ])
            iterate 3
              first
                | (refine mv_free ?_ (Or.inl ⟨by rfl, ?_⟩) (⟨k0, k1, k2, k3, k4, k5, k6, k7⟩) ?_
                   rotate_left 1
                   · intro u
                     go_simp
                     try simp only [dq0]
                     try simp only [dq1]
                     try with_reducible rfl
                   simp only [Act.put, List.setIfInBounds_toArray, List.set_cons_zero, List.set_cons_succ])
                | (refine mv_free _ (Or.inr ⟨by rfl, rfl⟩) (⟨k0, k1, k2, k3, k4, k5, k6, k7⟩) ?_
                   simp only [Act.put, List.setIfInBounds_toArray, List.set_cons_zero, List.set_cons_succ])
            iterate 1
              first
                | (refine mv_take ?_ (Or.inl ⟨by rfl, ?_⟩) (⟨k0, k1, k2, k3, k4, k5, k6, k7⟩) ?_
                   rotate_left 1
                   · intro u hu
                     (try dsimp only at hu)
                     go_simp
                     try with_reducible rfl
                   simp only [Act.put, List.setIfInBounds_toArray, List.set_cons_zero, List.set_cons_succ])
                | (refine mv_take _ (Or.inr ⟨by rfl, rfl⟩) (⟨k0, k1, k2, k3, k4, k5, k6, k7⟩) ?_
                   simp only [Act.put, List.setIfInBounds_toArray, List.set_cons_zero, List.set_cons_succ])
            refine mv_step (fun K hK => ?_)
            go_simp
            refine (CL.out _).mono ?_
            rintro e w' ⟨rfl, rfl⟩
            go_wp2_with fail
            refine hK.out _ _ _ (fun u hu => hu) (⟨k0, k1, k2, k3, k4, k5, k6, k7⟩) ?_
            clear hK K
            iterate 1
              first
                | (refine mv_free ?_ (Or.inl ⟨by rfl, ?_⟩) (⟨k0, k1, k2, k3, k4, k5, k6, k7⟩) ?_
                   rotate_left 1
                   · intro u
                     go_simp
                     try simp only [dq0]
                     try simp only [dq1]
                     try with_reducible rfl
                   simp only [Act.put, List.setIfInBounds_toArray, List.set_cons_zero, List.set_cons_succ])
                | (refine mv_free _ (Or.inr ⟨by rfl, rfl⟩) (⟨k0, k1, k2, k3, k4, k5, k6, k7⟩) ?_
                   simp only [Act.put, List.setIfInBounds_toArray, List.set_cons_zero, List.set_cons_succ])
            refine mv_done ?_
            go_wp2
            go_roundw
            case rel => exact ⟨2, by omega, rfl, vi64 (by rw [eL.out]; simp [vmMin]), vi64 (by rw [eH.out]; simp [vmMax]), vi64 (by rw [eI.out]; simp [vmOne]), (fun _ => r0.out (by omega)), (fun _ => hc), fun h => absurd h (by omega), hbel.drew⟩
            case measure => simp [intOf]
          · rcases (show (decide (a ≤ x1) = true ∨ decide (a ≤ x1) = false) by cases decide (a ≤ x1) <;> simp) with dq0 | dq0 <;> rcases (show (decide (x1 ≤ b) = true ∨ decide (x1 ≤ b) = false) by cases decide (x1 ≤ b) <;> simp) with dq1 | dq1
            all_goals
              go_wp2_with fail
              refine region_moves (fun u => u.cell? ⟨w.heap.size, 0, none⟩ = some (.int .i64 x0) ∧ u.cell? ⟨w.heap.size, 1, none⟩ = some (.int .i64 e0) ∧ u.cell? ⟨w.heap.size, 2, none⟩ = some (.int .i64 x1) ∧ u.cell? ⟨w.heap.size, 3, none⟩ = some (.int .i64 e1) ∧ u.cell? ⟨w.heap.size, 4, none⟩ = some (.int .i64 x2) ∧ u.cell? ⟨w.heap.size, 5, none⟩ = some (.int .i64 e2) ∧ u.cell? ⟨w.heap.size + 1, 0, none⟩ = some (.int .i64 a) ∧ u.cell? ⟨w.heap.size + 1, 1, none⟩ = some (.int .i64 b)) [] [(.free, 0), (.free, 1), (.free, 2), (.take, 3), (.free, 4), (.free, 5), (.free, 6), (.take, 7), (.step, 8), (.free, 9)] _ (by kernel_rfl) (by kernel_rfl) (by kernel_rfl) (by kernel_rfl) (by decide) rfl (fun _ _ _ _ _ h => h) ?_
              simp only [List.filterMap_cons, List.filterMap_nil, List.getElem?_toArray, List.getElem?_cons_zero, List.getElem?_cons_succ, Option.map_some]
              iterate 3
                first
                  | (refine mv_free ?_ (Or.inl ⟨by rfl, ?_⟩) (⟨k0, k1, k2, k3, k4, k5, k6, k7⟩) ?_
                     rotate_left 1
                     · intro u
                       go_simp
                       try simp only [dq0]
                       try simp only [dq1]
                       try with_reducible rfl
                     simp only [Act.put, List.setIfInBounds_toArray, List.set_cons_zero, List.set_cons_succ])
                  | (refine mv_free _ (Or.inr ⟨by rfl, rfl⟩) (⟨k0, k1, k2, k3, k4, k5, k6, k7⟩) ?_
                     simp only [Act.put, List.setIfInBounds_toArray, List.set_cons_zero, List.set_cons_succ])
              iterate 1
                first
                  | (refine mv_take ?_ (Or.inl ⟨by rfl, ?_⟩) (⟨k0, k1, k2, k3, k4, k5, k6, k7⟩) ?_
                     rotate_left 1
                     · intro u hu
                       (try dsimp only at hu)
                       go_simp
                       try with_reducible rfl
                     simp only [Act.put, List.setIfInBounds_toArray, List.set_cons_zero, List.set_cons_succ])
                  | (refine mv_take _ (Or.inr ⟨by rfl, rfl⟩) (⟨k0, k1, k2, k3, k4, k5, k6, k7⟩) ?_
                     simp only [Act.put, List.setIfInBounds_toArray, List.set_cons_zero, List.set_cons_succ])
              iterate 3
                first
                  | (refine mv_free ?_ (Or.inl ⟨by rfl, ?_⟩) (⟨k0, k1, k2, k3, k4, k5, k6, k7⟩) ?_
                     rotate_left 1
                     · intro u
                       go_simp
                       try simp only [dq0]
                       try simp only [dq1]
                       try with_reducible rfl
                     simp only [Act.put, List.setIfInBounds_toArray, List.set_cons_zero, List.set_cons_succ])
                  | (refine mv_free _ (Or.inr ⟨by rfl, rfl⟩) (⟨k0, k1, k2, k3, k4, k5, k6, k7⟩) ?_
                     simp only [Act.put, List.setIfInBounds_toArray, List.set_cons_zero, List.set_cons_succ])
              iterate 1
                first
                  | (refine mv_take ?_ (Or.inl ⟨by rfl, ?_⟩) (⟨k0, k1, k2, k3, k4, k5, k6, k7⟩) ?_
                     rotate_left 1
                     · intro u hu
                       (try dsimp only at hu)
                       go_simp
                       try with_reducible rfl
                     simp only [Act.put, List.setIfInBounds_toArray, List.set_cons_zero, List.set_cons_succ])
                  | (refine mv_take _ (Or.inr ⟨by rfl, rfl⟩) (⟨k0, k1, k2, k3, k4, k5, k6, k7⟩) ?_
                     simp only [Act.put, List.setIfInBounds_toArray, List.set_cons_zero, List.set_cons_succ])
              refine mv_step (fun K hK => ?_)
              go_simp
              refine (CL.out _).mono ?_
              rintro e w' ⟨rfl, rfl⟩
              go_wp2_with fail
              refine hK.out _ _ _ (fun u hu => hu) (⟨k0, k1, k2, k3, k4, k5, k6, k7⟩) ?_
              clear hK K
              iterate 1
                first
                  | (refine mv_free ?_ (Or.inl ⟨by rfl, ?_⟩) (⟨k0, k1, k2, k3, k4, k5, k6, k7⟩) ?_
                     rotate_left 1
                     · intro u
                       go_simp
                       try simp only [dq0]
                       try simp only [dq1]
                       try with_reducible rfl
                     simp only [Act.put, List.setIfInBounds_toArray, List.set_cons_zero, List.set_cons_succ])
                  | (refine mv_free _ (Or.inr ⟨by rfl, rfl⟩) (⟨k0, k1, k2, k3, k4, k5, k6, k7⟩) ?_
                     simp only [Act.put, List.setIfInBounds_toArray, List.set_cons_zero, List.set_cons_succ])
              refine mv_done ?_
              go_wp2_with fail
              all_goals
                refine region_moves (fun u => u.cell? ⟨w.heap.size, 0, none⟩ = some (.int .i64 x0) ∧ u.cell? ⟨w.heap.size, 1, none⟩ = some (.int .i64 e0) ∧ u.cell? ⟨w.heap.size, 2, none⟩ = some (.int .i64 x1) ∧ u.cell? ⟨w.heap.size, 3, none⟩ = some (.int .i64 e1) ∧ u.cell? ⟨w.heap.size, 4, none⟩ = some (.int .i64 x2) ∧ u.cell? ⟨w.heap.size, 5, none⟩ = some (.int .i64 e2) ∧ u.cell? ⟨w.heap.size + 1, 0, none⟩ = some (.int .i64 a) ∧ u.cell? ⟨w.heap.size + 1, 1, none⟩ = some (.int .i64 b)) [] [(.free, 0), (.free, 1), (.free, 2), (.take, 3), (.free, 4), (.take, 5), (.free, 6), (.free, 7), (.free, 8), (.free, 9), (.free, 10), (.take, 11), (.free, 12), (.take, 13), (.free, 14), (.free, 15)] _ (by kernel_rfl) (by kernel_rfl) (by kernel_rfl) (by kernel_rfl) (by decide) rfl (fun _ _ _ _ _ h => h) ?_
                simp only [List.filterMap_cons, List.filterMap_nil, List.getElem?_toArray, List.getElem?_cons_zero, List.getElem?_cons_succ, Option.map_some]
                iterate 3
                  first
                    | (refine mv_free ?_ (Or.inl ⟨by rfl, ?_⟩) (⟨k0, k1, k2, k3, k4, k5, k6, k7⟩) ?_
                       rotate_left 1
                       · intro u
                         go_simp
                         try simp only [dq0]
                         try simp only [dq1]
                         try with_reducible rfl
                       simp only [Act.put, List.setIfInBounds_toArray, List.set_cons_zero, List.set_cons_succ])
                    | (refine mv_free _ (Or.inr ⟨by rfl, rfl⟩) (⟨k0, k1, k2, k3, k4, k5, k6, k7⟩) ?_
                       simp only [Act.put, List.setIfInBounds_toArray, List.set_cons_zero, List.set_cons_succ])
                iterate 1
                  first
                    | (refine mv_take ?_ (Or.inl ⟨by rfl, ?_⟩) (⟨k0, k1, k2, k3, k4, k5, k6, k7⟩) ?_
                       rotate_left 1
                       · intro u hu
                         (try dsimp only at hu)
                         go_simp
                         try with_reducible rfl
                       simp only [Act.put, List.setIfInBounds_toArray, List.set_cons_zero, List.set_cons_succ])
                    | (refine mv_take _ (Or.inr ⟨by rfl, rfl⟩) (⟨k0, k1, k2, k3, k4, k5, k6, k7⟩) ?_
                       simp only [Act.put, List.setIfInBounds_toArray, List.set_cons_zero, List.set_cons_succ])
                iterate 1
                  first
                    | (refine mv_free ?_ (Or.inl ⟨by rfl, ?_⟩) (⟨k0, k1, k2, k3, k4, k5, k6, k7⟩) ?_
                       rotate_left 1
                       · intro u
                         go_simp
                         try simp only [dq0]
                         try simp only [dq1]
                         try with_reducible rfl
                       simp only [Act.put, List.setIfInBounds_toArray, List.set_cons_zero, List.set_cons_succ])
                    | (refine mv_free _ (Or.inr ⟨by rfl, rfl⟩) (⟨k0, k1, k2, k3, k4, k5, k6, k7⟩) ?_
                       simp only [Act.put, List.setIfInBounds_toArray, List.set_cons_zero, List.set_cons_succ])
                iterate 1
                  first
                    | (refine mv_take ?_ (Or.inl ⟨by rfl, ?_⟩) (⟨k0, k1, k2, k3, k4, k5, k6, k7⟩) ?_
                       rotate_left 1
                       · intro u hu
                         (try dsimp only at hu)
                         go_simp
                         try with_reducible rfl
                       simp only [Act.put, List.setIfInBounds_toArray, List.set_cons_zero, List.set_cons_succ])
                    | (refine mv_take _ (Or.inr ⟨by rfl, rfl⟩) (⟨k0, k1, k2, k3, k4, k5, k6, k7⟩) ?_
                       simp only [Act.put, List.setIfInBounds_toArray, List.set_cons_zero, List.set_cons_succ])
                iterate 5
                  first
                    | (refine mv_free ?_ (Or.inl ⟨by rfl, ?_⟩) (⟨k0, k1, k2, k3, k4, k5, k6, k7⟩) ?_
                       rotate_left 1
                       · intro u
                         go_simp
                         try simp only [dq0]
                         try simp only [dq1]
                         try with_reducible rfl
                       simp only [Act.put, List.setIfInBounds_toArray, List.set_cons_zero, List.set_cons_succ])
                    | (refine mv_free _ (Or.inr ⟨by rfl, rfl⟩) (⟨k0, k1, k2, k3, k4, k5, k6, k7⟩) ?_
                       simp only [Act.put, List.setIfInBounds_toArray, List.set_cons_zero, List.set_cons_succ])
                iterate 1
                  first
                    | (refine mv_take ?_ (Or.inl ⟨by rfl, ?_⟩) (⟨k0, k1, k2, k3, k4, k5, k6, k7⟩) ?_
                       rotate_left 1
                       · intro u hu
                         (try dsimp only at hu)
                         go_simp
                         try with_reducible rfl
                       simp only [Act.put, List.setIfInBounds_toArray, List.set_cons_zero, List.set_cons_succ])
                    | (refine mv_take _ (Or.inr ⟨by rfl, rfl⟩) (⟨k0, k1, k2, k3, k4, k5, k6, k7⟩) ?_
                       simp only [Act.put, List.setIfInBounds_toArray, List.set_cons_zero, List.set_cons_succ])
                iterate 1
                  first
                    | (refine mv_free ?_ (Or.inl ⟨by rfl, ?_⟩) (⟨k0, k1, k2, k3, k4, k5, k6, k7⟩) ?_
                       rotate_left 1
                       · intro u
                         go_simp
                         try simp only [dq0]
                         try simp only [dq1]
                         try with_reducible rfl
                       simp only [Act.put, List.setIfInBounds_toArray, List.set_cons_zero, List.set_cons_succ])
                    | (refine mv_free _ (Or.inr ⟨by rfl, rfl⟩) (⟨k0, k1, k2, k3, k4, k5, k6, k7⟩) ?_
                       simp only [Act.put, List.setIfInBounds_toArray, List.set_cons_zero, List.set_cons_succ])
                iterate 1
                  first
                    | (refine mv_take ?_ (Or.inl ⟨by rfl, ?_⟩) (⟨k0, k1, k2, k3, k4, k5, k6, k7⟩) ?_
                       rotate_left 1
                       · intro u hu
                         (try dsimp only at hu)
                         go_simp
                         try with_reducible rfl
                       simp only [Act.put, List.setIfInBounds_toArray, List.set_cons_zero, List.set_cons_succ])
                    | (refine mv_take _ (Or.inr ⟨by rfl, rfl⟩) (⟨k0, k1, k2, k3, k4, k5, k6, k7⟩) ?_
                       simp only [Act.put, List.setIfInBounds_toArray, List.set_cons_zero, List.set_cons_succ])
                iterate 2
                  first
                    | (refine mv_free ?_ (Or.inl ⟨by rfl, ?_⟩) (⟨k0, k1, k2, k3, k4, k5, k6, k7⟩) ?_
                       rotate_left 1
                       · intro u
                         go_simp
                         try simp only [dq0]
                         try simp only [dq1]
                         try with_reducible rfl
                       simp only [Act.put, List.setIfInBounds_toArray, List.set_cons_zero, List.set_cons_succ])
                    | (refine mv_free _ (Or.inr ⟨by rfl, rfl⟩) (⟨k0, k1, k2, k3, k4, k5, k6, k7⟩) ?_
                       simp only [Act.put, List.setIfInBounds_toArray, List.set_cons_zero, List.set_cons_succ])
                refine mv_done ?_
                go_wp2
                have dq2 := dq0
                have dq3 := dq1
                simp only [decide_eq_true_eq, decide_eq_false_iff_not] at dq2 dq3
                go_roundw
                case rel => exact ⟨2, by omega, rfl, vi64 (by rw [eL.out]; simp [vmMin]; try omega), vi64 (by rw [eH.out]; simp [vmMax]; try omega), vi64 (by rw [eI.out]; simp [vmOne, dq2, dq3]; try omega), (fun _ => r0.out (by omega)), (fun _ => hc), fun h => absurd h (by omega), hbel.drew.drew⟩
                case measure => simp [intOf]
        · go_wp2_with fail
          refine region_moves (fun u => u.cell? ⟨w.heap.size, 0, none⟩ = some (.int .i64 x0) ∧ u.cell? ⟨w.heap.size, 1, none⟩ = some (.int .i64 e0) ∧ u.cell? ⟨w.heap.size, 2, none⟩ = some (.int .i64 x1) ∧ u.cell? ⟨w.heap.size, 3, none⟩ = some (.int .i64 e1) ∧ u.cell? ⟨w.heap.size, 4, none⟩ = some (.int .i64 x2) ∧ u.cell? ⟨w.heap.size, 5, none⟩ = some (.int .i64 e2) ∧ u.cell? ⟨w.heap.size + 1, 0, none⟩ = some (.int .i64 a) ∧ u.cell? ⟨w.heap.size + 1, 1, none⟩ = some (.int .i64 b)) [] [(.free, 0), (.free, 1), (.free, 2), (.take, 3), (.free, 4), (.free, 5), (.free, 6), (.take, 7), (.step, 8), (.free, 9)] _ (by kernel_rfl) (by kernel_rfl) (by kernel_rfl) (by kernel_rfl) (by decide) rfl (fun _ _ _ _ _ h => h) ?_
          simp only [List.filterMap_cons, List.filterMap_nil, List.getElem?_toArray, List.getElem?_cons_zero, List.getElem?_cons_succ, Option.map_some]
          iterate 3
            first
              | (refine mv_free ?_ (Or.inl ⟨by rfl, ?_⟩) (⟨k0, k1, k2, k3, k4, k5, k6, k7⟩) ?_
                 rotate_left 1
                 · intro u
                   go_simp
                   try simp only [dq0]
                   try simp only [dq1]
                   try with_reducible rfl
                 simp only [Act.put, List.setIfInBounds_toArray, List.set_cons_zero, List.set_cons_succ])
              | (refine mv_free _ (Or.inr ⟨by rfl, rfl⟩) (⟨k0, k1, k2, k3, k4, k5, k6, k7⟩) ?_
                 simp only [Act.put, List.setIfInBounds_toArray, List.set_cons_zero, List.set_cons_succ])
          iterate 1
            first
              | (refine mv_take ?_ (Or.inl ⟨by rfl, ?_⟩) (⟨k0, k1, k2, k3, k4, k5, k6, k7⟩) ?_
                 rotate_left 1
                 · intro u hu
                   (try dsimp only at hu)
                   go_simp
                   try with_reducible rfl
                 simp only [Act.put, List.setIfInBounds_toArray, List.set_cons_zero, List.set_cons_succ])
              | (refine mv_take _ (Or.inr ⟨by rfl, rfl⟩) (⟨k0, k1, k2, k3, k4, k5, k6, k7⟩) ?_
                 simp only [Act.put, List.setIfInBounds_toArray, List.set_cons_zero, List.set_cons_succ])
          iterate 3
            first
              | (refine mv_free ?_ (Or.inl ⟨by rfl, ?_⟩) (⟨k0, k1, k2, k3, k4, k5, k6, k7⟩) ?_
                 rotate_left 1
                 · intro u
                   go_simp
                   try simp only [dq0]
                   try simp only [dq1]
                   try with_reducible rfl
                 simp only [Act.put, List.setIfInBounds_toArray, List.set_cons_zero, List.set_cons_succ])
              | (refine mv_free _ (Or.inr ⟨by rfl, rfl⟩) (⟨k0, k1, k2, k3, k4, k5, k6, k7⟩) ?_
                 simp only [Act.put, List.setIfInBounds_toArray, List.set_cons_zero, List.set_cons_succ])
          iterate 1
            first
              | (refine mv_take ?_ (Or.inl ⟨by rfl, ?_⟩) (⟨k0, k1, k2, k3, k4, k5, k6, k7⟩) ?_
                 rotate_left 1
                 · intro u hu
                   (try dsimp only at hu)
                   go_simp
                   try with_reducible rfl
                 simp only [Act.put, List.setIfInBounds_toArray, List.set_cons_zero, List.set_cons_succ])
              | (refine mv_take _ (Or.inr ⟨by rfl, rfl⟩) (⟨k0, k1, k2, k3, k4, k5, k6, k7⟩) ?_
                 simp only [Act.put, List.setIfInBounds_toArray, List.set_cons_zero, List.set_cons_succ])
          refine mv_step (fun K hK => ?_)
          go_simp
          refine (C1.out _).mono ?_
          rintro e w' ⟨rfl, rfl⟩
          go_wp2_with fail
          refine hK.out _ _ _ (fun u hu => hu) (⟨k0, k1, k2, k3, k4, k5, k6, k7⟩) ?_
          clear hK K
          iterate 1
            first
              | (refine mv_free ?_ (Or.inl ⟨by rfl, ?_⟩) (⟨k0, k1, k2, k3, k4, k5, k6, k7⟩) ?_
                 rotate_left 1
                 · intro u
                   go_simp
                   try simp only [dq0]
                   try simp only [dq1]
                   try with_reducible rfl
                 simp only [Act.put, List.setIfInBounds_toArray, List.set_cons_zero, List.set_cons_succ])
              | (refine mv_free _ (Or.inr ⟨by rfl, rfl⟩) (⟨k0, k1, k2, k3, k4, k5, k6, k7⟩) ?_
                 simp only [Act.put, List.setIfInBounds_toArray, List.set_cons_zero, List.set_cons_succ])
          refine mv_done ?_
          go_wp2_with (go_at_call 38; refine (lives24 _).mono ?_; rintro e w1 ⟨rfl, b4⟩)
          all_goals first | (exfalso; omega) | skip
          all_goals
            go_ret
            exact ⟨rfl, (hb0.out.trans (hbel.drew.mono (by omega))).trans (b4.mono (by have := (hb0.out.trans (hbel.drew.mono (by omega))).size; exact this))⟩
      · have eL : vmL z0 z1 z2 x0 x1 x2 3 = vmMin z2 (vmL z0 z1 z2 x0 x1 x2 2) x2 := rfl
        have eH : vmH z0 z1 z2 x0 x1 x2 3 = vmMax z2 (vmH z0 z1 z2 x0 x1 x2 2) x2 := rfl
        have eI : vmI z0 z1 z2 a b x0 x1 x2 3 = vmOne z2 (vmI z0 z1 z2 a b x0 x1 x2 2) a b x2 := rfl
        have bI := vmI_bd z0 z1 z2 a b x0 x1 x2 2
        replace eL := Lib.hid eL
        replace eH := Lib.hid eH
        replace eI := Lib.hid eI
        generalize vmL z0 z1 z2 x0 x1 x2 2 = L at *
        generalize vmH z0 z1 z2 x0 x1 x2 2 = H at *
        generalize vmI z0 z1 z2 a b x0 x1 x2 2 = I at *
        replace r0 := Lib.hid r0
        replace r1 := Lib.hid r1
        replace r2 := Lib.hid r2
        by_cases hc : q2 = x2
        · have CL := C2
          rw [hc] at CL
          cases z2
          · go_wp2_with fail
            refine region_moves (fun u => u.cell? ⟨w.heap.size, 0, none⟩ = some (.int .i64 x0) ∧ u.cell? ⟨w.heap.size, 1, none⟩ = some (.int .i64 e0) ∧ u.cell? ⟨w.heap.size, 2, none⟩ = some (.int .i64 x1) ∧ u.cell? ⟨w.heap.size, 3, none⟩ = some (.int .i64 e1) ∧ u.cell? ⟨w.heap.size, 4, none⟩ = some (.int .i64 x2) ∧ u.cell? ⟨w.heap.size, 5, none⟩ = some (.int .i64 e2) ∧ u.cell? ⟨w.heap.size + 1, 0, none⟩ = some (.int .i64 a) ∧ u.cell? ⟨w.heap.size + 1, 1, none⟩ = some (.int .i64 b)) [] [(.free, 0), (.free, 1), (.free, 2), (.take, 3), (.free, 4), (.free, 5), (.free, 6), (.take, 7), (.step, 8), (.free, 9)] _ (by kernel_rfl) (by kernel_rfl) (by kernel_rfl) (by kernel_rfl) (by decide) rfl (fun _ _ _ _ _ h => h) ?_
            simp only [List.filterMap_cons, List.filterMap_nil, List.getElem?_toArray, List.getElem?_cons_zero, List.getElem?_cons_succ, Option.map_some]
            iterate 3
              first
                | (refine mv_free ?_ (Or.inl ⟨by rfl, ?_⟩) (⟨k0, k1, k2, k3, k4, k5, k6, k7⟩) ?_
                   rotate_left 1
                   · intro u
                     go_simp
                     try simp only [dq0]
                     try simp only [dq1]
                     try with_reducible rfl
                   simp only [Act.put, List.setIfInBounds_toArray, List.set_cons_zero, List.set_cons_succ])
                | (refine mv_free _ (Or.inr ⟨by rfl, rfl⟩) (⟨k0, k1, k2, k3, k4, k5, k6, k7⟩) ?_
                   simp only [Act.put, List.setIfInBounds_toArray, List.set_cons_zero, List.set_cons_succ])
            iterate 1
              first
                | (refine mv_take ?_ (Or.inl ⟨by rfl, ?_⟩) (⟨k0, k1, k2, k3, k4, k5, k6, k7⟩) ?_
                   rotate_left 1
                   · intro u hu
                     (try dsimp only at hu)
                     go_simp
                     try with_reducible rfl
                   simp only [Act.put, List.setIfInBounds_toArray, List.set_cons_zero, List.set_cons_succ])
                | (refine mv_take _ (Or.inr ⟨by rfl, rfl⟩) (⟨k0, k1, k2, k3, k4, k5, k6, k7⟩) ?_
                   simp only [Act.put, List.setIfInBounds_toArray, List.set_cons_zero, List.set_cons_succ])
            iterate 3
              first
                | (refine mv_free ?_ (Or.inl ⟨by rfl, ?_⟩) (⟨k0, k1, k2, k3, k4, k5, k6, k7⟩) ?_
                   rotate_left 1
                   · intro u
                     go_simp
                     try simp only [dq0]
                     try simp only [dq1]
                     try with_reducible rfl
                   simp only [Act.put, List.setIfInBounds_toArray, List.set_cons_zero, List.set_cons_succ])
                | (refine mv_free _ (Or.inr ⟨by rfl, rfl⟩) (⟨k0, k1, k2, k3, k4, k5, k6, k7⟩) ?_
                   simp only [Act.put, List.setIfInBounds_toArray, List.set_cons_zero, List.set_cons_succ])
            iterate 1
              first
                | (refine mv_take ?_ (Or.inl ⟨by rfl, ?_⟩) (⟨k0, k1, k2, k3, k4, k5, k6, k7⟩) ?_
                   rotate_left 1
                   · intro u hu
                     (try dsimp only at hu)
                     go_simp
                     try with_reducible rfl
                   simp only [Act.put, List.setIfInBounds_toArray, List.set_cons_zero, List.set_cons_succ])
                | (refine mv_take _ (Or.inr ⟨by rfl, rfl⟩) (⟨k0, k1, k2, k3, k4, k5, k6, k7⟩) ?_
                   simp only [Act.put, List.setIfInBounds_toArray, List.set_cons_zero, List.set_cons_succ])
            refine mv_step (fun K hK => ?_)
            go_simp
            refine (CL.out _).mono ?_
            rintro e w' ⟨rfl, rfl⟩
            go_wp2_with fail
            refine hK.out _ _ _ (fun u hu => hu) (⟨k0, k1, k2, k3, k4, k5, k6, k7⟩) ?_
            clear hK K
            iterate 1
              first
                | (refine mv_free ?_ (Or.inl ⟨by rfl, ?_⟩) (⟨k0, k1, k2, k3, k4, k5, k6, k7⟩) ?_
                   rotate_left 1
                   · intro u
                     go_simp
                     try simp only [dq0]
                     try simp only [dq1]
                     try with_reducible rfl
                   simp only [Act.put, List.setIfInBounds_toArray, List.set_cons_zero, List.set_cons_succ])
                | (refine mv_free _ (Or.inr ⟨by rfl, rfl⟩) (⟨k0, k1, k2, k3, k4, k5, k6, k7⟩) ?_
                   simp only [Act.put, List.setIfInBounds_toArray, List.set_cons_zero, List.set_cons_succ])
            refine mv_done ?_
            go_wp2
            go_roundw
            case rel => exact ⟨3, by omega, rfl, vi64 (by rw [eL.out]; simp [vmMin]), vi64 (by rw [eH.out]; simp [vmMax]), vi64 (by rw [eI.out]; simp [vmOne]), (fun _ => r0.out (by omega)), (fun _ => r1.out (by omega)), (fun _ => hc), hbel.drew⟩
            case measure => simp [intOf]
          · rcases (show (decide (a ≤ x2) = true ∨ decide (a ≤ x2) = false) by cases decide (a ≤ x2) <;> simp) with dq0 | dq0 <;> rcases (show (decide (x2 ≤ b) = true ∨ decide (x2 ≤ b) = false) by cases decide (x2 ≤ b) <;> simp) with dq1 | dq1
            all_goals
              go_wp2_with fail
              refine region_moves (fun u => u.cell? ⟨w.heap.size, 0, none⟩ = some (.int .i64 x0) ∧ u.cell? ⟨w.heap.size, 1, none⟩ = some (.int .i64 e0) ∧ u.cell? ⟨w.heap.size, 2, none⟩ = some (.int .i64 x1) ∧ u.cell? ⟨w.heap.size, 3, none⟩ = some (.int .i64 e1) ∧ u.cell? ⟨w.heap.size, 4, none⟩ = some (.int .i64 x2) ∧ u.cell? ⟨w.heap.size, 5, none⟩ = some (.int .i64 e2) ∧ u.cell? ⟨w.heap.size + 1, 0, none⟩ = some (.int .i64 a) ∧ u.cell? ⟨w.heap.size + 1, 1, none⟩ = some (.int .i64 b)) [] [(.free, 0), (.free, 1), (.free, 2), (.take, 3), (.free, 4), (.free, 5), (.free, 6), (.take, 7), (.step, 8), (.free, 9)] _ (by kernel_rfl) (by kernel_rfl) (by kernel_rfl) (by kernel_rfl) (by decide) rfl (fun _ _ _ _ _ h => h) ?_
              simp only [List.filterMap_cons, List.filterMap_nil, List.getElem?_toArray, List.getElem?_cons_zero, List.getElem?_cons_succ, Option.map_some]
              iterate 3
                first
                  | (refine mv_free ?_ (Or.inl ⟨by rfl, ?_⟩) (⟨k0, k1, k2, k3, k4, k5, k6, k7⟩) ?_
                     rotate_left 1
                     · intro u
                       go_simp
                       try simp only [dq0]
                       try simp only [dq1]
                       try with_reducible rfl
                     simp only [Act.put, List.setIfInBounds_toArray, List.set_cons_zero, List.set_cons_succ])
                  | (refine mv_free _ (Or.inr ⟨by rfl, rfl⟩) (⟨k0, k1, k2, k3, k4, k5, k6, k7⟩) ?_
                     simp only [Act.put, List.setIfInBounds_toArray, List.set_cons_zero, List.set_cons_succ])
              iterate 1
                first
                  | (refine mv_take ?_ (Or.inl ⟨by rfl, ?_⟩) (⟨k0, k1, k2, k3, k4, k5, k6, k7⟩) ?_
                     rotate_left 1
                     · intro u hu
                       (try dsimp only at hu)
                       go_simp
                       try with_reducible rfl
                     simp only [Act.put, List.setIfInBounds_toArray, List.set_cons_zero, List.set_cons_succ])
                  | (refine mv_take _ (Or.inr ⟨by rfl, rfl⟩) (⟨k0, k1, k2, k3, k4, k5, k6, k7⟩) ?_
                     simp only [Act.put, List.setIfInBounds_toArray, List.set_cons_zero, List.set_cons_succ])
              iterate 3
                first
                  | (refine mv_free ?_ (Or.inl ⟨by rfl, ?_⟩) (⟨k0, k1, k2, k3, k4, k5, k6, k7⟩) ?_
                     rotate_left 1
                     · intro u
                       go_simp
                       try simp only [dq0]
                       try simp only [dq1]
                       try with_reducible rfl
                     simp only [Act.put, List.setIfInBounds_toArray, List.set_cons_zero, List.set_cons_succ])
                  | (refine mv_free _ (Or.inr ⟨by rfl, rfl⟩) (⟨k0, k1, k2, k3, k4, k5, k6, k7⟩) ?_
                     simp only [Act.put, List.setIfInBounds_toArray, List.set_cons_zero, List.set_cons_succ])
              iterate 1
                first
                  | (refine mv_take ?_ (Or.inl ⟨by rfl, ?_⟩) (⟨k0, k1, k2, k3, k4, k5, k6, k7⟩) ?_
                     rotate_left 1
                     · intro u hu
                       (try dsimp only at hu)
                       go_simp
                       try with_reducible rfl
                     simp only [Act.put, List.setIfInBounds_toArray, List.set_cons_zero, List.set_cons_succ])
                  | (refine mv_take _ (Or.inr ⟨by rfl, rfl⟩) (⟨k0, k1, k2, k3, k4, k5, k6, k7⟩) ?_
                     simp only [Act.put, List.setIfInBounds_toArray, List.set_cons_zero, List.set_cons_succ])
              refine mv_step (fun K hK => ?_)
              go_simp
              refine (CL.out _).mono ?_
              rintro e w' ⟨rfl, rfl⟩
              go_wp2_with fail
              refine hK.out _ _ _ (fun u hu => hu) (⟨k0, k1, k2, k3, k4, k5, k6, k7⟩) ?_
              clear hK K
              iterate 1
                first
                  | (refine mv_free ?_ (Or.inl ⟨by rfl, ?_⟩) (⟨k0, k1, k2, k3, k4, k5, k6, k7⟩) ?_
                     rotate_left 1
                     · intro u
                       go_simp
                       try simp only [dq0]
                       try simp only [dq1]
                       try with_reducible rfl
                     simp only [Act.put, List.setIfInBounds_toArray, List.set_cons_zero, List.set_cons_succ])
                  | (refine mv_free _ (Or.inr ⟨by rfl, rfl⟩) (⟨k0, k1, k2, k3, k4, k5, k6, k7⟩) ?_
                     simp only [Act.put, List.setIfInBounds_toArray, List.set_cons_zero, List.set_cons_succ])
              refine mv_done ?_
              go_wp2_with fail
              all_goals
                refine region_moves (fun u => u.cell? ⟨w.heap.size, 0, none⟩ = some (.int .i64 x0) ∧ u.cell? ⟨w.heap.size, 1, none⟩ = some (.int .i64 e0) ∧ u.cell? ⟨w.heap.size, 2, none⟩ = some (.int .i64 x1) ∧ u.cell? ⟨w.heap.size, 3, none⟩ = some (.int .i64 e1) ∧ u.cell? ⟨w.heap.size, 4, none⟩ = some (.int .i64 x2) ∧ u.cell? ⟨w.heap.size, 5, none⟩ = some (.int .i64 e2) ∧ u.cell? ⟨w.heap.size + 1, 0, none⟩ = some (.int .i64 a) ∧ u.cell? ⟨w.heap.size + 1, 1, none⟩ = some (.int .i64 b)) [] [(.free, 0), (.free, 1), (.free, 2), (.take, 3), (.free, 4), (.take, 5), (.free, 6), (.free, 7), (.free, 8), (.free, 9), (.free, 10), (.take, 11), (.free, 12), (.take, 13), (.free, 14), (.free, 15)] _ (by kernel_rfl) (by kernel_rfl) (by kernel_rfl) (by kernel_rfl) (by decide) rfl (fun _ _ _ _ _ h => h) ?_
                simp only [List.filterMap_cons, List.filterMap_nil, List.getElem?_toArray, List.getElem?_cons_zero, List.getElem?_cons_succ, Option.map_some]
                iterate 3
                  first
                    | (refine mv_free ?_ (Or.inl ⟨by rfl, ?_⟩) (⟨k0, k1, k2, k3, k4, k5, k6, k7⟩) ?_
                       rotate_left 1
                       · intro u
                         go_simp
                         try simp only [dq0]
                         try simp only [dq1]
                         try with_reducible rfl
                       simp only [Act.put, List.setIfInBounds_toArray, List.set_cons_zero, List.set_cons_succ])
                    | (refine mv_free _ (Or.inr ⟨by rfl, rfl⟩) (⟨k0, k1, k2, k3, k4, k5, k6, k7⟩) ?_
                       simp only [Act.put, List.setIfInBounds_toArray, List.set_cons_zero, List.set_cons_succ])
                iterate 1
                  first
                    | (refine mv_take ?_ (Or.inl ⟨by rfl, ?_⟩) (⟨k0, k1, k2, k3, k4, k5, k6, k7⟩) ?_
                       rotate_left 1
                       · intro u hu
                         (try dsimp only at hu)
                         go_simp
                         try with_reducible rfl
                       simp only [Act.put, List.setIfInBounds_toArray, List.set_cons_zero, List.set_cons_succ])
                    | (refine mv_take _ (Or.inr ⟨by rfl, rfl⟩) (⟨k0, k1, k2, k3, k4, k5, k6, k7⟩) ?_
                       simp only [Act.put, List.setIfInBounds_toArray, List.set_cons_zero, List.set_cons_succ])
                iterate 1
                  first
                    | (refine mv_free ?_ (Or.inl ⟨by rfl, ?_⟩) (⟨k0, k1, k2, k3, k4, k5, k6, k7⟩) ?_
                       rotate_left 1
                       · intro u
                         go_simp
                         try simp only [dq0]
                         try simp only [dq1]
                         try with_reducible rfl
                       simp only [Act.put, List.setIfInBounds_toArray, List.set_cons_zero, List.set_cons_succ])
                    | (refine mv_free _ (Or.inr ⟨by rfl, rfl⟩) (⟨k0, k1, k2, k3, k4, k5, k6, k7⟩) ?_
                       simp only [Act.put, List.setIfInBounds_toArray, List.set_cons_zero, List.set_cons_succ])
                iterate 1
                  first
                    | (refine mv_take ?_ (Or.inl ⟨by rfl, ?_⟩) (⟨k0, k1, k2, k3, k4, k5, k6, k7⟩) ?_
                       rotate_left 1
                       · intro u hu
                         (try dsimp only at hu)
                         go_simp
                         try with_reducible rfl
                       simp only [Act.put, List.setIfInBounds_toArray, List.set_cons_zero, List.set_cons_succ])
                    | (refine mv_take _ (Or.inr ⟨by rfl, rfl⟩) (⟨k0, k1, k2, k3, k4, k5, k6, k7⟩) ?_
                       simp only [Act.put, List.setIfInBounds_toArray, List.set_cons_zero, List.set_cons_succ])
                iterate 5
                  first
                    | (refine mv_free ?_ (Or.inl ⟨by rfl, ?_⟩) (⟨k0, k1, k2, k3, k4, k5, k6, k7⟩) ?_
                       rotate_left 1
                       · intro u
                         go_simp
                         try simp only [dq0]
                         try simp only [dq1]
                         try with_reducible rfl
                       simp only [Act.put, List.setIfInBounds_toArray, List.set_cons_zero, List.set_cons_succ])
                    | (refine mv_free _ (Or.inr ⟨by rfl, rfl⟩) (⟨k0, k1, k2, k3, k4, k5, k6, k7⟩) ?_
                       simp only [Act.put, List.setIfInBounds_toArray, List.set_cons_zero, List.set_cons_succ])
                iterate 1
                  first
                    | (refine mv_take ?_ (Or.inl ⟨by rfl, ?_⟩) (⟨k0, k1, k2, k3, k4, k5, k6, k7⟩) ?_
                       rotate_left 1
                       · intro u hu
                         (try dsimp only at hu)
                         go_simp
                         try with_reducible rfl
                       simp only [Act.put, List.setIfInBounds_toArray, List.set_cons_zero, List.set_cons_succ])
                    | (refine mv_take _ (Or.inr ⟨by rfl, rfl⟩) (⟨k0, k1, k2, k3, k4, k5, k6, k7⟩) ?_
                       simp only [Act.put, List.setIfInBounds_toArray, List.set_cons_zero, List.set_cons_succ])
                iterate 1
                  first
                    | (refine mv_free ?_ (Or.inl ⟨by rfl, ?_⟩) (⟨k0, k1, k2, k3, k4, k5, k6, k7⟩) ?_
                       rotate_left 1
                       · intro u
                         go_simp
                         try simp only [dq0]
                         try simp only [dq1]
                         try with_reducible rfl
                       simp only [Act.put, List.setIfInBounds_toArray, List.set_cons_zero, List.set_cons_succ])
                    | (refine mv_free _ (Or.inr ⟨by rfl, rfl⟩) (⟨k0, k1, k2, k3, k4, k5, k6, k7⟩) ?_
                       simp only [Act.put, List.setIfInBounds_toArray, List.set_cons_zero, List.set_cons_succ])
                iterate 1
                  first
                    | (refine mv_take ?_ (Or.inl ⟨by rfl, ?_⟩) (⟨k0, k1, k2, k3, k4, k5, k6, k7⟩) ?_
                       rotate_left 1
                       · intro u hu
                         (try dsimp only at hu)
                         go_simp
                         try with_reducible rfl
                       simp only [Act.put, List.setIfInBounds_toArray, List.set_cons_zero, List.set_cons_succ])
                    | (refine mv_take _ (Or.inr ⟨by rfl, rfl⟩) (⟨k0, k1, k2, k3, k4, k5, k6, k7⟩) ?_
                       simp only [Act.put, List.setIfInBounds_toArray, List.set_cons_zero, List.set_cons_succ])
                iterate 2
                  first
                    | (refine mv_free ?_ (Or.inl ⟨by rfl, ?_⟩) (⟨k0, k1, k2, k3, k4, k5, k6, k7⟩) ?_
                       rotate_left 1
                       · intro u
                         go_simp
                         try simp only [dq0]
                         try simp only [dq1]
                         try with_reducible rfl
                       simp only [Act.put, List.setIfInBounds_toArray, List.set_cons_zero, List.set_cons_succ])
                    | (refine mv_free _ (Or.inr ⟨by rfl, rfl⟩) (⟨k0, k1, k2, k3, k4, k5, k6, k7⟩) ?_
                       simp only [Act.put, List.setIfInBounds_toArray, List.set_cons_zero, List.set_cons_succ])
                refine mv_done ?_
                go_wp2
                have dq2 := dq0
                have dq3 := dq1
                simp only [decide_eq_true_eq, decide_eq_false_iff_not] at dq2 dq3
                go_roundw
                case rel => exact ⟨3, by omega, rfl, vi64 (by rw [eL.out]; simp [vmMin]; try omega), vi64 (by rw [eH.out]; simp [vmMax]; try omega), vi64 (by rw [eI.out]; simp [vmOne, dq2, dq3]; try omega), (fun _ => r0.out (by omega)), (fun _ => r1.out (by omega)), (fun _ => hc), hbel.drew.drew⟩
                case measure => simp [intOf]
        · go_wp2_with fail
          refine region_moves (fun u => u.cell? ⟨w.heap.size, 0, none⟩ = some (.int .i64 x0) ∧ u.cell? ⟨w.heap.size, 1, none⟩ = some (.int .i64 e0) ∧ u.cell? ⟨w.heap.size, 2, none⟩ = some (.int .i64 x1) ∧ u.cell? ⟨w.heap.size, 3, none⟩ = some (.int .i64 e1) ∧ u.cell? ⟨w.heap.size, 4, none⟩ = some (.int .i64 x2) ∧ u.cell? ⟨w.heap.size, 5, none⟩ = some (.int .i64 e2) ∧ u.cell? ⟨w.heap.size + 1, 0, none⟩ = some (.int .i64 a) ∧ u.cell? ⟨w.heap.size + 1, 1, none⟩ = some (.int .i64 b)) [] [(.free, 0), (.free, 1), (.free, 2), (.take, 3), (.free, 4), (.free, 5), (.free, 6), (.take, 7), (.step, 8), (.free, 9)] _ (by kernel_rfl) (by kernel_rfl) (by kernel_rfl) (by kernel_rfl) (by decide) rfl (fun _ _ _ _ _ h => h) ?_
          simp only [List.filterMap_cons, List.filterMap_nil, List.getElem?_toArray, List.getElem?_cons_zero, List.getElem?_cons_succ, Option.map_some]
          iterate 3
            first
              | (refine mv_free ?_ (Or.inl ⟨by rfl, ?_⟩) (⟨k0, k1, k2, k3, k4, k5, k6, k7⟩) ?_
                 rotate_left 1
                 · intro u
                   go_simp
                   try simp only [dq0]
                   try simp only [dq1]
                   try with_reducible rfl
                 simp only [Act.put, List.setIfInBounds_toArray, List.set_cons_zero, List.set_cons_succ])
              | (refine mv_free _ (Or.inr ⟨by rfl, rfl⟩) (⟨k0, k1, k2, k3, k4, k5, k6, k7⟩) ?_
                 simp only [Act.put, List.setIfInBounds_toArray, List.set_cons_zero, List.set_cons_succ])
          iterate 1
            first
              | (refine mv_take ?_ (Or.inl ⟨by rfl, ?_⟩) (⟨k0, k1, k2, k3, k4, k5, k6, k7⟩) ?_
                 rotate_left 1
                 · intro u hu
                   (try dsimp only at hu)
                   go_simp
                   try with_reducible rfl
                 simp only [Act.put, List.setIfInBounds_toArray, List.set_cons_zero, List.set_cons_succ])
              | (refine mv_take _ (Or.inr ⟨by rfl, rfl⟩) (⟨k0, k1, k2, k3, k4, k5, k6, k7⟩) ?_
                 simp only [Act.put, List.setIfInBounds_toArray, List.set_cons_zero, List.set_cons_succ])
          iterate 3
            first
              | (refine mv_free ?_ (Or.inl ⟨by rfl, ?_⟩) (⟨k0, k1, k2, k3, k4, k5, k6, k7⟩) ?_
                 rotate_left 1
                 · intro u
                   go_simp
                   try simp only [dq0]
                   try simp only [dq1]
                   try with_reducible rfl
                 simp only [Act.put, List.setIfInBounds_toArray, List.set_cons_zero, List.set_cons_succ])
              | (refine mv_free _ (Or.inr ⟨by rfl, rfl⟩) (⟨k0, k1, k2, k3, k4, k5, k6, k7⟩) ?_
                 simp only [Act.put, List.setIfInBounds_toArray, List.set_cons_zero, List.set_cons_succ])
          iterate 1
            first
              | (refine mv_take ?_ (Or.inl ⟨by rfl, ?_⟩) (⟨k0, k1, k2, k3, k4, k5, k6, k7⟩) ?_
                 rotate_left 1
                 · intro u hu
                   (try dsimp only at hu)
                   go_simp
                   try with_reducible rfl
                 simp only [Act.put, List.setIfInBounds_toArray, List.set_cons_zero, List.set_cons_succ])
              | (refine mv_take _ (Or.inr ⟨by rfl, rfl⟩) (⟨k0, k1, k2, k3, k4, k5, k6, k7⟩) ?_
                 simp only [Act.put, List.setIfInBounds_toArray, List.set_cons_zero, List.set_cons_succ])
          refine mv_step (fun K hK => ?_)
          go_simp
          refine (C2.out _).mono ?_
          rintro e w' ⟨rfl, rfl⟩
          go_wp2_with fail
          refine hK.out _ _ _ (fun u hu => hu) (⟨k0, k1, k2, k3, k4, k5, k6, k7⟩) ?_
          clear hK K
          iterate 1
            first
              | (refine mv_free ?_ (Or.inl ⟨by rfl, ?_⟩) (⟨k0, k1, k2, k3, k4, k5, k6, k7⟩) ?_
                 rotate_left 1
                 · intro u
                   go_simp
                   try simp only [dq0]
                   try simp only [dq1]
                   try with_reducible rfl
                 simp only [Act.put, List.setIfInBounds_toArray, List.set_cons_zero, List.set_cons_succ])
              | (refine mv_free _ (Or.inr ⟨by rfl, rfl⟩) (⟨k0, k1, k2, k3, k4, k5, k6, k7⟩) ?_
                 simp only [Act.put, List.setIfInBounds_toArray, List.set_cons_zero, List.set_cons_succ])
          refine mv_done ?_
          go_wp2_with (go_at_call 38; refine (lives24 _).mono ?_; rintro e w1 ⟨rfl, b4⟩)
          all_goals first | (exfalso; omega) | skip
          all_goals
            go_ret
            exact ⟨rfl, (hb0.out.trans (hbel.drew.mono (by omega))).trans (b4.mono (by have := (hb0.out.trans (hbel.drew.mono (by omega))).size; exact this))⟩
    · obtain rfl : k = 3 := by omega
      obtain ⟨f1, f2, f3⟩ := FX.out (r0 (by omega)) (r1 (by omega)) (r2 (by omega))
      have bI := vmI_bd z0 z1 z2 a b x0 x1 x2 3
      generalize vmL z0 z1 z2 x0 x1 x2 3 = L at *
      generalize vmH z0 z1 z2 x0 x1 x2 3 = H at *
      generalize vmI z0 z1 z2 a b x0 x1 x2 3 = I at *
      have g1 := hb0.out.trans (hbel.mono (by omega))
      by_cases h0 : qs = 0
      · obtain ⟨f4, f5⟩ := f1 h0
        subst h0
        subst f4
        rw [f5] at VT
        clear f1 f2 f3
        go_wp2_with fail
        refine (VT.out _).mono ?_
        rintro e w3 ⟨rfl, b3⟩
        have g2 := g1.trans (b3.mono g1.size)
        go_wp2_with (go_at_call 38; refine (lives24 _).mono ?_; rintro e w1 ⟨rfl, b4⟩)
        go_ret
        exact ⟨rfl, g2.trans (b4.mono g2.size)⟩
      · obtain ⟨f4, f5⟩ := f2 h0
        clear f1 f2
        go_wp2_with (go_at_call 38; refine (lives24 _).mono ?_; rintro e w1 ⟨rfl, b4⟩)
        all_goals first | (exfalso; omega) | skip
        all_goals
          go_ret
          refine ⟨ret_bool ?_, g1.trans (b4.mono g1.size)⟩
          first | rfl | (simp; done) | (simp; omega)
end Go.Proofs.Ytifbedliibhmoaa
