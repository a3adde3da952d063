/- The document's rows of digits: a row as a number; the sign; the quotient; walked. -/
import Derived.Test.YtfejdbmamaggpaaDoorDig5
import Derived.Test.YtfejdbmamaggpaaDoorWide3
namespace Go.Proofs.YtfejdbmamaggpaaDoor
open Go.ChangeShapes Go.WideShapes Go.ChangeAt Go.RowKit
set_option linter.unusedVariables false
set_option linter.unusedSimpArgs false

def nbB (A : Int) : Bool := decide (A ≤ 1099511627775)
def nbV (A : Int) (x : Bool) : Int := if nbB A then (if x then -A else A) else 0
theorem aw_nb (W : Int) (x st : Bool) : awV W x st = nbV (awN W st) x ∧ awB W st = nbB (awN W st) := ⟨rfl, rfl⟩

set_option maxHeartbeats 1000000 in
theorem rneg_any (a b c : Int) (w : World) :
    Calls Tryd.prog 116 #[.int .i64 a, .int .i64 b, .int .i64 c] w fun e w' => e = .returned (.bool (xr a b c)) ∧ w = w' := by
  rcases (show (decide (a < 0) = true ∨ decide (a < 0) = false) by cases decide (a < 0) <;> simp) with d1 | d1 <;> rcases (show (decide (b < 0) = true ∨ decide (b < 0) = false) by cases decide (b < 0) <;> simp) with d2 | d2 <;> rcases (show (decide (c < 0) = true ∨ decide (c < 0) = false) by cases decide (c < 0) <;> simp) with d3 | d3
  all_goals
    have hx : xr a b c = ((decide (a < 0) != decide (b < 0)) != decide (c < 0)) := rfl
    rw [d1, d2, d3] at hx
    rw [hx]
    clear hx
    go_enter Tryd.func116, Tryd.ntmps116
    go_wp2
    go_ret
    exact ⟨rfl, rfl⟩

theorem div_small {A : Int} (h0 : 0 ≤ A) (h : A ≤ 1099511627775) (j : Nat) : 0 ≤ A / pw j ∧ A / pw j ≤ 1099511627775 := ⟨Int.ediv_nonneg h0 (by have := pw_pos j; omega), Int.le_trans (Int.ediv_le_self _ h0) h⟩
set_option maxRecDepth 100000 in
set_option maxHeartbeats 4000000 in
theorem rnum_any (A : Int) (x : Bool) (w : World) (h0 : 0 ≤ A) (h1 : A < pw 12) :
    Calls Tryd.prog 120 #[rwv A, .bool x] w fun e w' => e = .returned (.tuple #[.int .i64 (nbV A x), .bool (nbB A)]) ∧ Below w.heap.size w w' := by
  obtain ⟨M, hM⟩ : ∃ M : Int, M = 1099511627775 := ⟨_, rfl⟩
  have OF := fun u => rof_pos M u (by omega) (by omega)
  have CM := fun u => rcmp_any A M u h0 h1 (by omega) (by rw [pw_12]; omega)
  have OF' : ∀ u, Calls Tryd.prog 115 #[.int .i64 1099511627775] u fun e w' => e = .returned (rwv M) ∧ Below u.heap.size u w' := by
    intro u; have := OF u; rwa [show (Value.int .i64 M) = .int .i64 1099511627775 by rw [hM]] at this
  clear OF
  have OF := Lib.hid OF'
  clear OF'
  by_cases hA : A ≤ 1099511627775
  · have cle : rcmp A M ≤ 0 := by unfold rcmp; omega
    have e1 : nbB A = true := decide_eq_true hA
    have e2 : nbV A x = (if x then -A else A) := by unfold nbV; rw [e1]; rfl
    rw [e1, e2]
    clear e1 e2
    generalize rcmp A M = q at *
    replace CM := Lib.hid CM
    have z4 := Lib.hid (show A / pw 4 = 0 from Int.ediv_eq_zero_of_lt h0 (by rw [pw_4]; omega))
    have HS := Lib.hid (fun j => div_small h0 hA j)
    have HD := Lib.hid (fun j => div_pw_dg A j)
    have H0 := Lib.hid (show A / pw 0 = A by simp [pw])
    clear h1 hM
    have hA1 := hA
    clear hA
    have hA := Rw.new w (dg A) 160
    obtain ⟨c0, c1, c2, c3, c4, c5, c6, c7, c8, c9, c10, c11⟩ := hA.all
    go_enter Tryd.func120, Tryd.ntmps120
    go_wp2_with fail
    refine region_moves (fun u => u.cell? ⟨w.heap.size, 0, none⟩ = some (.int .u64 (dg A 0)) ∧ u.cell? ⟨w.heap.size, 1, none⟩ = some (.int .u64 (dg A 1)) ∧ u.cell? ⟨w.heap.size, 2, none⟩ = some (.int .u64 (dg A 2)) ∧ u.cell? ⟨w.heap.size, 3, none⟩ = some (.int .u64 (dg A 3)) ∧ u.cell? ⟨w.heap.size, 4, none⟩ = some (.int .u64 (dg A 4)) ∧ u.cell? ⟨w.heap.size, 5, none⟩ = some (.int .u64 (dg A 5)) ∧ u.cell? ⟨w.heap.size, 6, none⟩ = some (.int .u64 (dg A 6)) ∧ u.cell? ⟨w.heap.size, 7, none⟩ = some (.int .u64 (dg A 7)) ∧ u.cell? ⟨w.heap.size, 8, none⟩ = some (.int .u64 (dg A 8)) ∧ u.cell? ⟨w.heap.size, 9, none⟩ = some (.int .u64 (dg A 9)) ∧ u.cell? ⟨w.heap.size, 10, none⟩ = some (.int .u64 (dg A 10)) ∧ u.cell? ⟨w.heap.size, 11, none⟩ = some (.int .u64 (dg A 11))) [] [(.take, 0), (.step, 1), (.step, 2), (.free, 3)] _ (by kernel_rfl) (by kernel_rfl) (by kernel_rfl) (by kernel_rfl) (by decide) rfl (fun _ _ _ _ _ h => h) ?_
    simp only [List.filterMap_cons, List.filterMap_nil, List.getElem?_toArray, List.getElem?_cons_zero, List.getElem?_cons_succ, Option.map_some]
    iterate 1
      first
        | (refine mv_take ?_ (Or.inl ⟨by rfl, ?_⟩) (⟨c0, c1, c2, c3, c4, c5, c6, c7, c8, c9, c10, c11⟩) ?_
           rotate_left 1
           · intro u hu
             (try dsimp only at hu)
             go_simp
             try with_reducible rfl
           simp only [Act.put, List.setIfInBounds_toArray, List.set_cons_zero, List.set_cons_succ])
        | (refine mv_take _ (Or.inr ⟨by rfl, rfl⟩) (⟨c0, c1, c2, c3, c4, c5, c6, c7, c8, c9, c10, c11⟩) ?_
           simp only [Act.put, List.setIfInBounds_toArray, List.set_cons_zero, List.set_cons_succ])
    refine mv_step (fun K hK => ?_)
    go_simp
    refine (OF.out _).mono ?_
    rintro e w1 ⟨rfl, hb1⟩
    replace hA := hA.drew.bel hb1
    have hb := ((((Below.refl w.heap.size w).alloc (Nat.le_refl _) _).drew).trans (hb1.mono (by simp)) : Below w.heap.size w w1)
    clear hb1 c0 c1 c2 c3 c4 c5 c6 c7 c8 c9 c10 c11
    obtain ⟨c0, c1, c2, c3, c4, c5, c6, c7, c8, c9, c10, c11⟩ := hA.all
    go_wp2_with fail
    refine hK.out _ _ _ (fun u hu => hu) (⟨c0, c1, c2, c3, c4, c5, c6, c7, c8, c9, c10, c11⟩) ?_
    clear hK K
    refine mv_step (fun K hK => ?_)
    go_simp
    refine (CM.out _).mono ?_
    rintro e w2 ⟨rfl, hb2⟩
    replace hA := hA.bel hb2
    replace hb := hb.trans (hb2.mono (Nat.le_trans (Nat.le_refl _) hb.size))
    clear hb2 c0 c1 c2 c3 c4 c5 c6 c7 c8 c9 c10 c11
    obtain ⟨c0, c1, c2, c3, c4, c5, c6, c7, c8, c9, c10, c11⟩ := hA.all
    go_wp2_with fail
    refine hK.out _ _ _ (fun u hu => hu) (⟨c0, c1, c2, c3, c4, c5, c6, c7, c8, c9, c10, c11⟩) ?_
    clear hK K
    iterate 1
      first
        | (refine mv_free ?_ (Or.inl ⟨by rfl, ?_⟩) (⟨c0, c1, c2, c3, c4, c5, c6, c7, c8, c9, c10, c11⟩) ?_
           rotate_left 1
           · intro u
             go_simp
             try with_reducible rfl
           simp only [Act.put, List.setIfInBounds_toArray, List.set_cons_zero, List.set_cons_succ])
        | (refine mv_free _ (Or.inr ⟨by rfl, rfl⟩) (⟨c0, c1, c2, c3, c4, c5, c6, c7, c8, c9, c10, c11⟩) ?_
           simp only [Act.put, List.setIfInBounds_toArray, List.set_cons_zero, List.set_cons_succ])
    refine mv_done ?_
    clear c0 c1 c2 c3 c4 c5 c6 c7 c8 c9 c10 c11
    go_wp2
    go_loopw [6, 7] (fun n i v => ∃ k : Nat, k ≤ 4 ∧ i = .int .i64 ((k : Int) - 1) ∧ n = .int .i64 (A / pw k) ∧ Rw w.heap.size (dg A) v ∧ Below w.heap.size w v) (fun _ i _ => (intOf i + 1).toNat)
    case atStart => exact ⟨4, by omega, rfl, by rw [z4.out], hA, hb⟩
    case round =>
      clear hA hb
      obtain ⟨k, hk, rfl, rfl, hA, hb⟩ := hrel
      cases k with
      | zero =>
        rw [H0.out]
        cases x
        all_goals
          go_wp2
          go_ret2
          exact ⟨rfl, hb⟩
      | succ j =>
        have ha := hA.c j (by omega)
        have hj : (j : Int) < 12 := by omega
        have hd := dg_bd A j
        have hm := HS.out (j + 1)
        have hE := Lib.hid (HD.out j)
        rw [show ((j + 1 : Nat) : Int) - 1 = (j : Int) by omega]
        generalize A / pw (j + 1) = m at *
        go_wp2
        go_roundw
        case rel => exact ⟨j, by omega, rfl, by rw [hE.out]; congr 1; omega, hA, hb⟩
        case measure => simp [intOf]
  · have cle : 0 < rcmp A M := by unfold rcmp; omega
    have e1 : nbB A = false := decide_eq_false hA
    have e2 : nbV A x = 0 := by unfold nbV; rw [e1]; rfl
    rw [e1, e2]
    clear e1 e2
    generalize rcmp A M = q at *
    replace CM := Lib.hid CM
    clear h0 h1 hA hM
    have hA := Rw.new w (dg A) 160
    obtain ⟨c0, c1, c2, c3, c4, c5, c6, c7, c8, c9, c10, c11⟩ := hA.all
    go_enter Tryd.func120, Tryd.ntmps120
    go_wp2_with fail
    refine region_moves (fun u => u.cell? ⟨w.heap.size, 0, none⟩ = some (.int .u64 (dg A 0)) ∧ u.cell? ⟨w.heap.size, 1, none⟩ = some (.int .u64 (dg A 1)) ∧ u.cell? ⟨w.heap.size, 2, none⟩ = some (.int .u64 (dg A 2)) ∧ u.cell? ⟨w.heap.size, 3, none⟩ = some (.int .u64 (dg A 3)) ∧ u.cell? ⟨w.heap.size, 4, none⟩ = some (.int .u64 (dg A 4)) ∧ u.cell? ⟨w.heap.size, 5, none⟩ = some (.int .u64 (dg A 5)) ∧ u.cell? ⟨w.heap.size, 6, none⟩ = some (.int .u64 (dg A 6)) ∧ u.cell? ⟨w.heap.size, 7, none⟩ = some (.int .u64 (dg A 7)) ∧ u.cell? ⟨w.heap.size, 8, none⟩ = some (.int .u64 (dg A 8)) ∧ u.cell? ⟨w.heap.size, 9, none⟩ = some (.int .u64 (dg A 9)) ∧ u.cell? ⟨w.heap.size, 10, none⟩ = some (.int .u64 (dg A 10)) ∧ u.cell? ⟨w.heap.size, 11, none⟩ = some (.int .u64 (dg A 11))) [] [(.take, 0), (.step, 1), (.step, 2), (.free, 3)] _ (by kernel_rfl) (by kernel_rfl) (by kernel_rfl) (by kernel_rfl) (by decide) rfl (fun _ _ _ _ _ h => h) ?_
    simp only [List.filterMap_cons, List.filterMap_nil, List.getElem?_toArray, List.getElem?_cons_zero, List.getElem?_cons_succ, Option.map_some]
    iterate 1
      first
        | (refine mv_take ?_ (Or.inl ⟨by rfl, ?_⟩) (⟨c0, c1, c2, c3, c4, c5, c6, c7, c8, c9, c10, c11⟩) ?_
           rotate_left 1
           · intro u hu
             (try dsimp only at hu)
             go_simp
             try with_reducible rfl
           simp only [Act.put, List.setIfInBounds_toArray, List.set_cons_zero, List.set_cons_succ])
        | (refine mv_take _ (Or.inr ⟨by rfl, rfl⟩) (⟨c0, c1, c2, c3, c4, c5, c6, c7, c8, c9, c10, c11⟩) ?_
           simp only [Act.put, List.setIfInBounds_toArray, List.set_cons_zero, List.set_cons_succ])
    refine mv_step (fun K hK => ?_)
    go_simp
    refine (OF.out _).mono ?_
    rintro e w1 ⟨rfl, hb1⟩
    replace hA := hA.drew.bel hb1
    have hb := ((((Below.refl w.heap.size w).alloc (Nat.le_refl _) _).drew).trans (hb1.mono (by simp)) : Below w.heap.size w w1)
    clear hb1 c0 c1 c2 c3 c4 c5 c6 c7 c8 c9 c10 c11
    obtain ⟨c0, c1, c2, c3, c4, c5, c6, c7, c8, c9, c10, c11⟩ := hA.all
    go_wp2_with fail
    refine hK.out _ _ _ (fun u hu => hu) (⟨c0, c1, c2, c3, c4, c5, c6, c7, c8, c9, c10, c11⟩) ?_
    clear hK K
    refine mv_step (fun K hK => ?_)
    go_simp
    refine (CM.out _).mono ?_
    rintro e w2 ⟨rfl, hb2⟩
    replace hA := hA.bel hb2
    replace hb := hb.trans (hb2.mono (Nat.le_trans (Nat.le_refl _) hb.size))
    clear hb2 c0 c1 c2 c3 c4 c5 c6 c7 c8 c9 c10 c11
    obtain ⟨c0, c1, c2, c3, c4, c5, c6, c7, c8, c9, c10, c11⟩ := hA.all
    go_wp2_with fail
    refine hK.out _ _ _ (fun u hu => hu) (⟨c0, c1, c2, c3, c4, c5, c6, c7, c8, c9, c10, c11⟩) ?_
    clear hK K
    iterate 1
      first
        | (refine mv_free ?_ (Or.inl ⟨by rfl, ?_⟩) (⟨c0, c1, c2, c3, c4, c5, c6, c7, c8, c9, c10, c11⟩) ?_
           rotate_left 1
           · intro u
             go_simp
             try with_reducible rfl
           simp only [Act.put, List.setIfInBounds_toArray, List.set_cons_zero, List.set_cons_succ])
        | (refine mv_free _ (Or.inr ⟨by rfl, rfl⟩) (⟨c0, c1, c2, c3, c4, c5, c6, c7, c8, c9, c10, c11⟩) ?_
           simp only [Act.put, List.setIfInBounds_toArray, List.set_cons_zero, List.set_cons_succ])
    refine mv_done ?_
    clear c0 c1 c2 c3 c4 c5 c6 c7 c8 c9 c10 c11
    go_wp2
    go_ret2
    exact ⟨rfl, hb⟩

end Go.Proofs.YtfejdbmamaggpaaDoor
