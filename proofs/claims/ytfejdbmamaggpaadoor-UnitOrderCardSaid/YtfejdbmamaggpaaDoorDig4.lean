/- The document's rows of digits: Of any number, compared, a bit, a product; walked. -/
import Derived.Test.YtfejdbmamaggpaaDoorDig2
import Derived.Test.YtfejdbmamaggpaaDoorReg
import Derived.Test.YtfejdbmamaggpaaDoorWide
namespace Go.Proofs.YtfejdbmamaggpaaDoor
open Go.ChangeShapes Go.WideShapes Go.ChangeAt Go.RowKit
set_option linter.unusedVariables false
set_option linter.unusedSimpArgs false

set_option maxHeartbeats 1000000 in
theorem rof_neg (n m : Int) (w : World) (hm : n = -m) (h1 : 0 < m) (h2 : m ≤ 9223372036854775808) :
    Calls Tryd.prog 115 #[.int .i64 n] w fun e w' => e = .returned (rwv m) ∧ Below w.heap.size w w' := by
  subst hm
  have d0 : decide (-m < 0) = true := decide_eq_true (by omega)
  go_enter Tryd.func115, Tryd.ntmps115
  go_wp2
  go_loopw [0, 5] (fun a i v => ∃ (k : Nat) (f : Nat → Int), k ≤ 12 ∧ i = .int .i64 k ∧ a = .int .i64 (-(m / pw k)) ∧ Rw (w.heap.size + 1) f v ∧ Rw w.heap.size (fun _ => 0) v ∧ Below w.heap.size w v ∧ Hid (Upto (dg m) f k)) (fun _ i _ => 12 - (intOf i).toNat)
  case atStart => exact ⟨0, fun _ => 0, by omega, rfl, by simp [pw], Rw.new' (fun _ => 0) 160 (by simp), (Rw.new w (fun _ => 0) 160).alloc _, (by repeat (first | exact Below.refl _ _ | assumption | apply Below.drew | apply below_drewN | (refine Below.alloc ?_ (by first | exact Nat.le_refl _ | omega | (simp <;> omega)) _) | (refine Below.setCell ?_ (by first | exact Nat.le_refl _ | omega | (simp <;> omega)) _))), Lib.hid (Upto.start _)⟩
  case round =>
    obtain ⟨k, f, hk, rfl, rfl, hR, hZ, hb, hU⟩ := hrel
    have hm : 0 ≤ m / pw k ∧ m / pw k ≤ 9223372036854775808 := ⟨Int.ediv_nonneg (by omega) (by have := pw_pos k; omega), Int.le_trans (Int.ediv_le_self _ (by omega)) h2⟩
    have hd := Lib.hid (show m / pw k % 65536 = dg m k from rfl)
    have hs := Lib.hid (div_pw_succ m k)
    generalize m / pw k = q at *
    by_cases hlt : k < 12
    · have hf := hR.f k hlt
      have hc := hR.c k hlt
      have e1 : (-q).tmod 65536 = -(q % 65536) := by rw [Int.neg_tmod, Int.tmod_eq_emod_of_nonneg hm.1]
      have e2 : (-q).tdiv 65536 = -(q / 65536) := by rw [Int.neg_tdiv, Int.tdiv_eq_ediv_of_nonneg hm.1]
      have e3 : q.tmod 65536 = q % 65536 := Int.tmod_eq_emod_of_nonneg hm.1
      have e4 : q.tdiv 65536 = q / 65536 := Int.tdiv_eq_ediv_of_nonneg hm.1
      have e5 : - -(q % 65536) = q % 65536 := by omega
      have b5 : 0 ≤ q % 65536 ∧ q % 65536 < 65536 := by omega
      have b6 : 0 ≤ q / 65536 ∧ q / 65536 ≤ 140737488355328 := by omega
      go_wp2
      go_roundw
      case rel => exact ⟨k + 1, upd f k (dg m k), by omega, by go_num, by rw [hs.out], by have := hR.set k (dg m k) hlt; rw [← hd.out] at this ⊢; exact this, hZ.other (by omega) _ _, hb.setCell (by simp) _, Lib.hid (hU.out.step rfl)⟩
      case measure => simp [intOf]; omega
    · obtain rfl : k = 12 := by omega
      have hR := hR.congr (fun i hi => hU.out.1 i hi)
      have hS12 := hR
      obtain ⟨c0, c1, c2, c3, c4, c5, c6, c7, c8, c9, c10, c11⟩ := hS12.all
      obtain ⟨z0, z1, z2, z3, z4, z5, z6, z7, z8, z9, z10, z11⟩ := (hZ).all
      obtain ⟨y0, y1, y2, y3, y4, y5, y6, y7, y8, y9, y10, y11⟩ := (hZ).allf
      go_wp2
      change bodyPost _ _ _ _ _ (rput (w.heap.size) (dg m) _)
      have hW := (hZ).put (dg m)
      have hB := rput_below (hb) (by omega : w.heap.size ≤ w.heap.size) (dg m)
      clear c0 c1 c2 c3 c4 c5 c6 c7 c8 c9 c10 c11 z0 z1 z2 z3 z4 z5 z6 z7 z8 z9 z10 z11 y0 y1 y2 y3 y4 y5 y6 y7 y8 y9 y10 y11
      generalize rput (w.heap.size) (dg m) _ = wz at *
      obtain ⟨c0, c1, c2, c3, c4, c5, c6, c7, c8, c9, c10, c11⟩ := hW.all
      refine bodyPost_ret (v := rwv m) (by simp [results, Tryd.results115, go_sem, rwv, c0, c1, c2, c3, c4, c5, c6, c7, c8, c9, c10, c11]) rfl ⟨rfl, hB⟩
theorem rof_any (n : Int) (w : World) (h1 : -9223372036854775808 ≤ n) (h2 : n ≤ 9223372036854775807) :
    Calls Tryd.prog 115 #[.int .i64 n] w fun e w' => e = .returned (rwv (mag n)) ∧ Below w.heap.size w w' := by
  unfold mag
  by_cases h : n < 0
  · rw [if_pos h]; exact rof_neg n (-n) w (by omega) (by omega) (by omega)
  · rw [if_neg h]; exact rof_pos n w (by omega) h2

def rcmp (A B : Int) : Int := if A < B then -1 else if B < A then 1 else 0
set_option maxHeartbeats 1000000 in
theorem rcmp_any (A B : Int) (w : World) (hA0 : 0 ≤ A) (hA1 : A < pw 12) (hB0 : 0 ≤ B) (hB1 : B < pw 12) :
    Calls Tryd.prog 117 #[rwv A, rwv B] w fun e w' => e = .returned (.int .i64 (rcmp A B)) ∧ Below w.heap.size w w' := by
  have HA := Lib.hid (show A / pw 12 = B / pw 12 by rw [div_pw12 hA0 hA1, div_pw12 hB0 hB1])
  clear hA1 hB1
  go_enter Tryd.func117, Tryd.ntmps117
  go_wp2
  go_loopw [5] (fun i v => ∃ k : Nat, k ≤ 12 ∧ i = .int .i64 ((k : Int) - 1) ∧ Rw w.heap.size (dg A) v ∧ Rw (w.heap.size + 1) (dg B) v ∧ Below w.heap.size w v ∧ Hid (A / pw k = B / pw k)) (fun i _ => (intOf i + 1).toNat)
  case atStart => exact ⟨12, by omega, rfl, (Rw.new w (dg A) 160).alloc _, Rw.new' (dg B) 160 (by simp), (by repeat (first | exact Below.refl _ _ | assumption | apply Below.drew | apply below_drewN | (refine Below.alloc ?_ (by first | exact Nat.le_refl _ | omega | (simp <;> omega)) _) | (refine Below.setCell ?_ (by first | exact Nat.le_refl _ | omega | (simp <;> omega)) _))), HA⟩
  case round =>
    obtain ⟨k, hk, rfl, hA, hB, hb, hU⟩ := hrel
    cases k with
    | zero =>
      go_wp2
      go_ret
      refine ⟨ret_int ?_, hb⟩
      have := hU.out
      simp [pw] at this
      unfold rcmp
      omega
    | succ j =>
      have hj : (j : Int) < 12 := by omega
      have ha := hA.c j (by omega)
      have hb' := hB.c j (by omega)
      have da := dg_bd A j
      have db := dg_bd B j
      rw [show ((j + 1 : Nat) : Int) - 1 = (j : Int) by omega]
      by_cases c1 : dg A j < dg B j
      · have d1 : decide (dg A j < dg B j) = true := decide_eq_true c1
        have hlt := dig_lt hU.out c1
        go_wp2_with fail
        refine region_still [] [(.free, 0), (.free, 1), (.take, 2), (.free, 3), (.free, 4), (.take, 5), (.free, 6)] _ (by kernel_rfl) (by kernel_rfl) (by kernel_rfl) (by kernel_rfl) (by decide) rfl (fun _ _ _ _ _ h => h) ?_
        simp only [List.filterMap_cons, List.filterMap_nil, List.getElem?_toArray, List.getElem?_cons_zero, List.getElem?_cons_succ, Option.map_some]
        iterate 2
          first
            | (refine mv_free ?_ (Or.inl ⟨by rfl, ?_⟩) (rfl) ?_
               rotate_left 1
               · intro u
                 go_simp
                 try with_reducible rfl
               simp only [Act.put, List.setIfInBounds_toArray, List.set_cons_zero, List.set_cons_succ])
            | (refine mv_free _ (Or.inr ⟨by rfl, rfl⟩) (rfl) ?_
               simp only [Act.put, List.setIfInBounds_toArray, List.set_cons_zero, List.set_cons_succ])
        iterate 1
          first
            | (refine mv_take ?_ (Or.inl ⟨by rfl, ?_⟩) (rfl) ?_
               rotate_left 1
               · intro u hu
                 (try dsimp only at hu)
                 go_simp
                 try with_reducible rfl
               simp only [Act.put, List.setIfInBounds_toArray, List.set_cons_zero, List.set_cons_succ])
            | (refine mv_take _ (Or.inr ⟨by rfl, rfl⟩) (rfl) ?_
               simp only [Act.put, List.setIfInBounds_toArray, List.set_cons_zero, List.set_cons_succ])
        iterate 2
          first
            | (refine mv_free ?_ (Or.inl ⟨by rfl, ?_⟩) (rfl) ?_
               rotate_left 1
               · intro u
                 go_simp
                 try with_reducible rfl
               simp only [Act.put, List.setIfInBounds_toArray, List.set_cons_zero, List.set_cons_succ])
            | (refine mv_free _ (Or.inr ⟨by rfl, rfl⟩) (rfl) ?_
               simp only [Act.put, List.setIfInBounds_toArray, List.set_cons_zero, List.set_cons_succ])
        iterate 1
          first
            | (refine mv_take ?_ (Or.inl ⟨by rfl, ?_⟩) (rfl) ?_
               rotate_left 1
               · intro u hu
                 (try dsimp only at hu)
                 go_simp
                 try with_reducible rfl
               simp only [Act.put, List.setIfInBounds_toArray, List.set_cons_zero, List.set_cons_succ])
            | (refine mv_take _ (Or.inr ⟨by rfl, rfl⟩) (rfl) ?_
               simp only [Act.put, List.setIfInBounds_toArray, List.set_cons_zero, List.set_cons_succ])
        iterate 1
          first
            | (refine mv_free ?_ (Or.inl ⟨by rfl, ?_⟩) (rfl) ?_
               rotate_left 1
               · intro u
                 go_simp
                 try with_reducible rfl
               simp only [Act.put, List.setIfInBounds_toArray, List.set_cons_zero, List.set_cons_succ])
            | (refine mv_free _ (Or.inr ⟨by rfl, rfl⟩) (rfl) ?_
               simp only [Act.put, List.setIfInBounds_toArray, List.set_cons_zero, List.set_cons_succ])
        refine mv_done ?_
        go_wp2
        go_ret
        exact ⟨ret_int (by unfold rcmp; rw [if_pos hlt]), hb.drew⟩
      · have d1 : decide (dg A j < dg B j) = false := decide_eq_false c1
        by_cases c2 : dg B j < dg A j
        · have d2 : decide (dg B j < dg A j) = true := decide_eq_true c2
          have hlt := dig_lt hU.out.symm c2
          go_wp2_with fail
          refine region_still [] [(.free, 0), (.free, 1), (.take, 2), (.free, 3), (.free, 4), (.take, 5), (.free, 6)] _ (by kernel_rfl) (by kernel_rfl) (by kernel_rfl) (by kernel_rfl) (by decide) rfl (fun _ _ _ _ _ h => h) ?_
          simp only [List.filterMap_cons, List.filterMap_nil, List.getElem?_toArray, List.getElem?_cons_zero, List.getElem?_cons_succ, Option.map_some]
          iterate 2
            first
              | (refine mv_free ?_ (Or.inl ⟨by rfl, ?_⟩) (rfl) ?_
                 rotate_left 1
                 · intro u
                   go_simp
                   try with_reducible rfl
                 simp only [Act.put, List.setIfInBounds_toArray, List.set_cons_zero, List.set_cons_succ])
              | (refine mv_free _ (Or.inr ⟨by rfl, rfl⟩) (rfl) ?_
                 simp only [Act.put, List.setIfInBounds_toArray, List.set_cons_zero, List.set_cons_succ])
          iterate 1
            first
              | (refine mv_take ?_ (Or.inl ⟨by rfl, ?_⟩) (rfl) ?_
                 rotate_left 1
                 · intro u hu
                   (try dsimp only at hu)
                   go_simp
                   try with_reducible rfl
                 simp only [Act.put, List.setIfInBounds_toArray, List.set_cons_zero, List.set_cons_succ])
              | (refine mv_take _ (Or.inr ⟨by rfl, rfl⟩) (rfl) ?_
                 simp only [Act.put, List.setIfInBounds_toArray, List.set_cons_zero, List.set_cons_succ])
          iterate 2
            first
              | (refine mv_free ?_ (Or.inl ⟨by rfl, ?_⟩) (rfl) ?_
                 rotate_left 1
                 · intro u
                   go_simp
                   try with_reducible rfl
                 simp only [Act.put, List.setIfInBounds_toArray, List.set_cons_zero, List.set_cons_succ])
              | (refine mv_free _ (Or.inr ⟨by rfl, rfl⟩) (rfl) ?_
                 simp only [Act.put, List.setIfInBounds_toArray, List.set_cons_zero, List.set_cons_succ])
          iterate 1
            first
              | (refine mv_take ?_ (Or.inl ⟨by rfl, ?_⟩) (rfl) ?_
                 rotate_left 1
                 · intro u hu
                   (try dsimp only at hu)
                   go_simp
                   try with_reducible rfl
                 simp only [Act.put, List.setIfInBounds_toArray, List.set_cons_zero, List.set_cons_succ])
              | (refine mv_take _ (Or.inr ⟨by rfl, rfl⟩) (rfl) ?_
                 simp only [Act.put, List.setIfInBounds_toArray, List.set_cons_zero, List.set_cons_succ])
          iterate 1
            first
              | (refine mv_free ?_ (Or.inl ⟨by rfl, ?_⟩) (rfl) ?_
                 rotate_left 1
                 · intro u
                   go_simp
                   try with_reducible rfl
                 simp only [Act.put, List.setIfInBounds_toArray, List.set_cons_zero, List.set_cons_succ])
              | (refine mv_free _ (Or.inr ⟨by rfl, rfl⟩) (rfl) ?_
                 simp only [Act.put, List.setIfInBounds_toArray, List.set_cons_zero, List.set_cons_succ])
          refine mv_done ?_
          go_wp2_with fail
          refine region_still [] [(.free, 0), (.free, 1), (.take, 2), (.free, 3), (.free, 4), (.take, 5), (.free, 6)] _ (by kernel_rfl) (by kernel_rfl) (by kernel_rfl) (by kernel_rfl) (by decide) rfl (fun _ _ _ _ _ h => h) ?_
          simp only [List.filterMap_cons, List.filterMap_nil, List.getElem?_toArray, List.getElem?_cons_zero, List.getElem?_cons_succ, Option.map_some]
          iterate 2
            first
              | (refine mv_free ?_ (Or.inl ⟨by rfl, ?_⟩) (rfl) ?_
                 rotate_left 1
                 · intro u
                   go_simp
                   try with_reducible rfl
                 simp only [Act.put, List.setIfInBounds_toArray, List.set_cons_zero, List.set_cons_succ])
              | (refine mv_free _ (Or.inr ⟨by rfl, rfl⟩) (rfl) ?_
                 simp only [Act.put, List.setIfInBounds_toArray, List.set_cons_zero, List.set_cons_succ])
          iterate 1
            first
              | (refine mv_take ?_ (Or.inl ⟨by rfl, ?_⟩) (rfl) ?_
                 rotate_left 1
                 · intro u hu
                   (try dsimp only at hu)
                   go_simp
                   try with_reducible rfl
                 simp only [Act.put, List.setIfInBounds_toArray, List.set_cons_zero, List.set_cons_succ])
              | (refine mv_take _ (Or.inr ⟨by rfl, rfl⟩) (rfl) ?_
                 simp only [Act.put, List.setIfInBounds_toArray, List.set_cons_zero, List.set_cons_succ])
          iterate 2
            first
              | (refine mv_free ?_ (Or.inl ⟨by rfl, ?_⟩) (rfl) ?_
                 rotate_left 1
                 · intro u
                   go_simp
                   try with_reducible rfl
                 simp only [Act.put, List.setIfInBounds_toArray, List.set_cons_zero, List.set_cons_succ])
              | (refine mv_free _ (Or.inr ⟨by rfl, rfl⟩) (rfl) ?_
                 simp only [Act.put, List.setIfInBounds_toArray, List.set_cons_zero, List.set_cons_succ])
          iterate 1
            first
              | (refine mv_take ?_ (Or.inl ⟨by rfl, ?_⟩) (rfl) ?_
                 rotate_left 1
                 · intro u hu
                   (try dsimp only at hu)
                   go_simp
                   try with_reducible rfl
                 simp only [Act.put, List.setIfInBounds_toArray, List.set_cons_zero, List.set_cons_succ])
              | (refine mv_take _ (Or.inr ⟨by rfl, rfl⟩) (rfl) ?_
                 simp only [Act.put, List.setIfInBounds_toArray, List.set_cons_zero, List.set_cons_succ])
          iterate 1
            first
              | (refine mv_free ?_ (Or.inl ⟨by rfl, ?_⟩) (rfl) ?_
                 rotate_left 1
                 · intro u
                   go_simp
                   try with_reducible rfl
                 simp only [Act.put, List.setIfInBounds_toArray, List.set_cons_zero, List.set_cons_succ])
              | (refine mv_free _ (Or.inr ⟨by rfl, rfl⟩) (rfl) ?_
                 simp only [Act.put, List.setIfInBounds_toArray, List.set_cons_zero, List.set_cons_succ])
          refine mv_done ?_
          go_wp2
          go_ret
          exact ⟨ret_int (by unfold rcmp; rw [if_neg (by omega), if_pos hlt]), hb.drew.drew⟩
        · have d2 : decide (dg B j < dg A j) = false := decide_eq_false c2
          have he := Lib.hid (dig_eq hU.out (by omega))
          go_wp2_with fail
          refine region_still [] [(.free, 0), (.free, 1), (.take, 2), (.free, 3), (.free, 4), (.take, 5), (.free, 6)] _ (by kernel_rfl) (by kernel_rfl) (by kernel_rfl) (by kernel_rfl) (by decide) rfl (fun _ _ _ _ _ h => h) ?_
          simp only [List.filterMap_cons, List.filterMap_nil, List.getElem?_toArray, List.getElem?_cons_zero, List.getElem?_cons_succ, Option.map_some]
          iterate 2
            first
              | (refine mv_free ?_ (Or.inl ⟨by rfl, ?_⟩) (rfl) ?_
                 rotate_left 1
                 · intro u
                   go_simp
                   try with_reducible rfl
                 simp only [Act.put, List.setIfInBounds_toArray, List.set_cons_zero, List.set_cons_succ])
              | (refine mv_free _ (Or.inr ⟨by rfl, rfl⟩) (rfl) ?_
                 simp only [Act.put, List.setIfInBounds_toArray, List.set_cons_zero, List.set_cons_succ])
          iterate 1
            first
              | (refine mv_take ?_ (Or.inl ⟨by rfl, ?_⟩) (rfl) ?_
                 rotate_left 1
                 · intro u hu
                   (try dsimp only at hu)
                   go_simp
                   try with_reducible rfl
                 simp only [Act.put, List.setIfInBounds_toArray, List.set_cons_zero, List.set_cons_succ])
              | (refine mv_take _ (Or.inr ⟨by rfl, rfl⟩) (rfl) ?_
                 simp only [Act.put, List.setIfInBounds_toArray, List.set_cons_zero, List.set_cons_succ])
          iterate 2
            first
              | (refine mv_free ?_ (Or.inl ⟨by rfl, ?_⟩) (rfl) ?_
                 rotate_left 1
                 · intro u
                   go_simp
                   try with_reducible rfl
                 simp only [Act.put, List.setIfInBounds_toArray, List.set_cons_zero, List.set_cons_succ])
              | (refine mv_free _ (Or.inr ⟨by rfl, rfl⟩) (rfl) ?_
                 simp only [Act.put, List.setIfInBounds_toArray, List.set_cons_zero, List.set_cons_succ])
          iterate 1
            first
              | (refine mv_take ?_ (Or.inl ⟨by rfl, ?_⟩) (rfl) ?_
                 rotate_left 1
                 · intro u hu
                   (try dsimp only at hu)
                   go_simp
                   try with_reducible rfl
                 simp only [Act.put, List.setIfInBounds_toArray, List.set_cons_zero, List.set_cons_succ])
              | (refine mv_take _ (Or.inr ⟨by rfl, rfl⟩) (rfl) ?_
                 simp only [Act.put, List.setIfInBounds_toArray, List.set_cons_zero, List.set_cons_succ])
          iterate 1
            first
              | (refine mv_free ?_ (Or.inl ⟨by rfl, ?_⟩) (rfl) ?_
                 rotate_left 1
                 · intro u
                   go_simp
                   try with_reducible rfl
                 simp only [Act.put, List.setIfInBounds_toArray, List.set_cons_zero, List.set_cons_succ])
              | (refine mv_free _ (Or.inr ⟨by rfl, rfl⟩) (rfl) ?_
                 simp only [Act.put, List.setIfInBounds_toArray, List.set_cons_zero, List.set_cons_succ])
          refine mv_done ?_
          go_wp2_with fail
          refine region_still [] [(.free, 0), (.free, 1), (.take, 2), (.free, 3), (.free, 4), (.take, 5), (.free, 6)] _ (by kernel_rfl) (by kernel_rfl) (by kernel_rfl) (by kernel_rfl) (by decide) rfl (fun _ _ _ _ _ h => h) ?_
          simp only [List.filterMap_cons, List.filterMap_nil, List.getElem?_toArray, List.getElem?_cons_zero, List.getElem?_cons_succ, Option.map_some]
          iterate 2
            first
              | (refine mv_free ?_ (Or.inl ⟨by rfl, ?_⟩) (rfl) ?_
                 rotate_left 1
                 · intro u
                   go_simp
                   try with_reducible rfl
                 simp only [Act.put, List.setIfInBounds_toArray, List.set_cons_zero, List.set_cons_succ])
              | (refine mv_free _ (Or.inr ⟨by rfl, rfl⟩) (rfl) ?_
                 simp only [Act.put, List.setIfInBounds_toArray, List.set_cons_zero, List.set_cons_succ])
          iterate 1
            first
              | (refine mv_take ?_ (Or.inl ⟨by rfl, ?_⟩) (rfl) ?_
                 rotate_left 1
                 · intro u hu
                   (try dsimp only at hu)
                   go_simp
                   try with_reducible rfl
                 simp only [Act.put, List.setIfInBounds_toArray, List.set_cons_zero, List.set_cons_succ])
              | (refine mv_take _ (Or.inr ⟨by rfl, rfl⟩) (rfl) ?_
                 simp only [Act.put, List.setIfInBounds_toArray, List.set_cons_zero, List.set_cons_succ])
          iterate 2
            first
              | (refine mv_free ?_ (Or.inl ⟨by rfl, ?_⟩) (rfl) ?_
                 rotate_left 1
                 · intro u
                   go_simp
                   try with_reducible rfl
                 simp only [Act.put, List.setIfInBounds_toArray, List.set_cons_zero, List.set_cons_succ])
              | (refine mv_free _ (Or.inr ⟨by rfl, rfl⟩) (rfl) ?_
                 simp only [Act.put, List.setIfInBounds_toArray, List.set_cons_zero, List.set_cons_succ])
          iterate 1
            first
              | (refine mv_take ?_ (Or.inl ⟨by rfl, ?_⟩) (rfl) ?_
                 rotate_left 1
                 · intro u hu
                   (try dsimp only at hu)
                   go_simp
                   try with_reducible rfl
                 simp only [Act.put, List.setIfInBounds_toArray, List.set_cons_zero, List.set_cons_succ])
              | (refine mv_take _ (Or.inr ⟨by rfl, rfl⟩) (rfl) ?_
                 simp only [Act.put, List.setIfInBounds_toArray, List.set_cons_zero, List.set_cons_succ])
          iterate 1
            first
              | (refine mv_free ?_ (Or.inl ⟨by rfl, ?_⟩) (rfl) ?_
                 rotate_left 1
                 · intro u
                   go_simp
                   try with_reducible rfl
                 simp only [Act.put, List.setIfInBounds_toArray, List.set_cons_zero, List.set_cons_succ])
              | (refine mv_free _ (Or.inr ⟨by rfl, rfl⟩) (rfl) ?_
                 simp only [Act.put, List.setIfInBounds_toArray, List.set_cons_zero, List.set_cons_succ])
          refine mv_done ?_
          go_wp2
          go_roundw
          case rel => exact ⟨j, by omega, rfl, hA.drew.drew, hB.drew.drew, hb.drew.drew, he⟩
          case measure => simp [intOf]

set_option maxHeartbeats 1000000 in
theorem rbit_any (A : Int) (i : Nat) (w : World) (hi : i < 192) :
    Calls Tryd.prog 147 #[rwv A, .int .i64 (i : Nat)] w fun e w' => e = .returned (.int .u64 (A / p2 i % 2)) ∧ Below w.heap.size w w' := by
  obtain ⟨q, r, hq, hr, rfl⟩ : ∃ q r : Nat, q < 12 ∧ r < 16 ∧ i = 16 * q + r := ⟨i / 16, i % 16, by omega, by omega, by omega⟩
  have e1 : ((16 * q + r : Nat) : Int) / 16 = (q : Int) := by omega
  have e2 : ((16 * q + r : Nat) : Int) % 16 = (r : Int) := by omega
  have b1 : 0 ≤ ((16 * q + r : Nat) : Int) ∧ ((16 * q + r : Nat) : Int) ≤ 191 := by omega
  have HB := Lib.hid (dg_bit A q r hr)
  generalize ((16 * q + r : Nat) : Int) = I at *
  have hR := Rw.new w (dg A) 160
  have hc := hR.c q hq
  have hd := dg_bd A q
  go_enter Tryd.func147, Tryd.ntmps147
  go_wp2
  go_loopw [5, 6] (fun n i v => ∃ k : Nat, k ≤ r ∧ i = .int .i64 k ∧ n = .int .u64 (dg A q / p2 k) ∧ Below w.heap.size w v) (fun _ i _ => r - (intOf i).toNat)
  case atStart => exact ⟨0, by omega, rfl, by simp [p2], (by repeat (first | exact Below.refl _ _ | assumption | apply Below.drew | apply below_drewN | (refine Below.alloc ?_ (by first | exact Nat.le_refl _ | omega | (simp <;> omega)) _) | (refine Below.setCell ?_ (by first | exact Nat.le_refl _ | omega | (simp <;> omega)) _)))⟩
  case round =>
    obtain ⟨k, hk, rfl, rfl, hb⟩ := hrel
    have hm : 0 ≤ dg A q / p2 k ∧ dg A q / p2 k < 65536 := ⟨Int.ediv_nonneg hd.1 (by have := p2_pos k; omega), Int.lt_of_le_of_lt (Int.ediv_le_self _ hd.1) hd.2⟩
    have hs := Lib.hid (div_p2_succ (dg A q) k)
    by_cases hlt : k < r
    · generalize dg A q / p2 k = m at *
      go_wp2
      go_roundw
      case rel => exact ⟨k + 1, by omega, by go_num, by rw [hs.out], hb⟩
      case measure => simp [intOf]; omega
    · obtain rfl : k = r := by omega
      have HB := HB.out
      generalize dg A q / p2 k = m at *
      replace HB := Lib.hid HB
      go_wp2
      go_ret
      exact ⟨ret_int HB.out, hb⟩

set_option maxHeartbeats 2000000 in
theorem rtimes_any (A B : Int) (w : World) (hA0 : 0 ≤ A) (hA1 : A < pw 4) (hB0 : 0 ≤ B) (hB1 : B < pw 4) :
    Calls Tryd.prog 114 #[rwv A, rwv B] w fun e w' => e = .returned (rwv (A * B)) ∧ Below w.heap.size w w' := by
  have HA := Lib.hid hA1
  have HB := Lib.hid hB1
  clear hA1 hB1
  go_enter Tryd.func114, Tryd.ntmps114
  go_wp2
  go_loopw [6] (fun i v => ∃ (a : Nat) (f : Nat → Int), a ≤ 4 ∧ i = .int .i64 a ∧ Rw w.heap.size (dg A) v ∧ Rw (w.heap.size + 1) (dg B) v ∧ Rw (w.heap.size + 2) (fun _ => 0) v ∧ Rw (w.heap.size + 3) f v ∧ Below w.heap.size w v ∧ Hid (Tim A B f a)) (fun i _ => 4 - (intOf i).toNat)
  case atStart => exact ⟨0, fun _ => 0, by omega, rfl, (((Rw.new w (dg A) 160).alloc _).alloc _).alloc _, ((Rw.new' (dg B) 160 (by simp)).alloc _).alloc _, (Rw.new' (fun _ => 0) 160 (by simp)).alloc _, Rw.new' (fun _ => 0) 160 (by simp), (by repeat (first | exact Below.refl _ _ | assumption | apply Below.drew | apply below_drewN | (refine Below.alloc ?_ (by first | exact Nat.le_refl _ | omega | (simp <;> omega)) _) | (refine Below.setCell ?_ (by first | exact Nat.le_refl _ | omega | (simp <;> omega)) _))), Lib.hid (Tim.start A B)⟩
  case round =>
    obtain ⟨a, f, ha4, rfl, hA, hB, hZ, hR, hb, hU⟩ := hrel
    by_cases hlt : a < 4
    · have hlt' : (a : Int) < 4 := by omega
      have hlt2 : (a : Int) < 12 := by omega
      have hI := Lib.hid hU.out.inner
      go_wp2
      go_loopw [7, 8] (fun cc i v => ∃ (k : Nat) (g : Nat → Int) (c : Int), k ≤ 4 ∧ i = .int .i64 k ∧ cc = .int .u64 c ∧ 0 ≤ c ∧ c < 65536 ∧ Rw w.heap.size (dg A) v ∧ Rw (w.heap.size + 1) (dg B) v ∧ Rw (w.heap.size + 2) (fun _ => 0) v ∧ Rw (w.heap.size + 3) g v ∧ Below w.heap.size w v ∧ Hid (Tin A B a g k c)) (fun _ i _ => 4 - (intOf i).toNat)
      case atStart => exact ⟨0, f, 0, by omega, rfl, rfl, by omega, by omega, hA, hB, hZ, hR, hb, hI⟩
      case round =>
        clear hA hB hZ hR hb hI hU
        obtain ⟨k, g, c, hk4, rfl, rfl, hc0, hc1, hA, hB, hZ, hR, hb, hU⟩ := hrel
        by_cases hkt : k < 4
        · have hkt' : (k : Int) < 4 := by omega
          have hkt2 : (k : Int) < 12 := by omega
          have hak : a + k < 12 := by omega
          have hak' : (a : Int) + (k : Int) < 12 := by omega
          have et : ((a : Int) + (k : Int)).toNat = a + k := by omega
          have hak0 : 0 ≤ (a : Int) + (k : Int) := by omega
          have da := dg_bd A a
          have db := dg_bd B k
          have dr := hU.out.1 (a + k) hak
          have hx := tin_bd dr da db ⟨hc0, hc1⟩
          have ca := hA.c a (by omega)
          have cb := hB.c k (by omega)
          have cr := hR.c (a + k) hak
          have cf := hR.f (a + k) hak
          have st := Lib.hid (hU.out.step hlt hkt hc0)
          have hS := Lib.hid (hR.drew.set (a + k) ((g (a + k) + dg A a * dg B k + c) % 65536) hak)
          obtain ⟨P, hP⟩ : ∃ P, dg A a * dg B k = P := ⟨_, rfl⟩
          rw [hP] at hx st hS
          generalize g (a + k) = G at *
          have hw0 : IntKind.i64.wrap ((a : Int) + (k : Int)) = (a : Int) + (k : Int) := IntWalk.i64_in _ ⟨by omega, by omega⟩
          have hw1 : IntKind.u64.wrap (dg A a * dg B k) = P := by rw [hP]; exact IntWalk.u64_in _ ⟨by omega, by omega⟩
          replace hP := Lib.hid hP
          have hw2 : IntKind.u64.wrap (G + P) = G + P := IntWalk.u64_in _ ⟨by omega, by omega⟩
          have hw3 : IntKind.u64.wrap (G + P + c) = G + P + c := IntWalk.u64_in _ ⟨by omega, by omega⟩
          go_wp2_with fail
          refine region_still [] [(.free, 0), (.free, 1), (.free, 2), (.free, 3), (.take, 4), (.free, 5), (.free, 6), (.take, 7), (.free, 8), (.free, 9), (.take, 10), (.free, 11), (.free, 12), (.free, 13), (.free, 14), (.free, 15)] _ (by kernel_rfl) (by kernel_rfl) (by kernel_rfl) (by kernel_rfl) (by decide) rfl (fun _ _ _ _ _ h => h) ?_
          simp only [List.filterMap_cons, List.filterMap_nil, List.getElem?_toArray, List.getElem?_cons_zero, List.getElem?_cons_succ, Option.map_some]
          iterate 4
            first
              | (refine mv_free ?_ (Or.inl ⟨by rfl, ?_⟩) (rfl) ?_
                 rotate_left 1
                 · intro u
                   go_simp
                   try with_reducible rfl
                 simp only [Act.put, List.setIfInBounds_toArray, List.set_cons_zero, List.set_cons_succ])
              | (refine mv_free _ (Or.inr ⟨by rfl, rfl⟩) (rfl) ?_
                 simp only [Act.put, List.setIfInBounds_toArray, List.set_cons_zero, List.set_cons_succ])
          iterate 1
            first
              | (refine mv_take ?_ (Or.inl ⟨by rfl, ?_⟩) (rfl) ?_
                 rotate_left 1
                 · intro u hu
                   (try dsimp only at hu)
                   go_simp
                   try with_reducible rfl
                 simp only [Act.put, List.setIfInBounds_toArray, List.set_cons_zero, List.set_cons_succ])
              | (refine mv_take _ (Or.inr ⟨by rfl, rfl⟩) (rfl) ?_
                 simp only [Act.put, List.setIfInBounds_toArray, List.set_cons_zero, List.set_cons_succ])
          iterate 2
            first
              | (refine mv_free ?_ (Or.inl ⟨by rfl, ?_⟩) (rfl) ?_
                 rotate_left 1
                 · intro u
                   go_simp
                   try with_reducible rfl
                 simp only [Act.put, List.setIfInBounds_toArray, List.set_cons_zero, List.set_cons_succ])
              | (refine mv_free _ (Or.inr ⟨by rfl, rfl⟩) (rfl) ?_
                 simp only [Act.put, List.setIfInBounds_toArray, List.set_cons_zero, List.set_cons_succ])
          iterate 1
            first
              | (refine mv_take ?_ (Or.inl ⟨by rfl, ?_⟩) (rfl) ?_
                 rotate_left 1
                 · intro u hu
                   (try dsimp only at hu)
                   go_simp
                   try with_reducible rfl
                 simp only [Act.put, List.setIfInBounds_toArray, List.set_cons_zero, List.set_cons_succ])
              | (refine mv_take _ (Or.inr ⟨by rfl, rfl⟩) (rfl) ?_
                 simp only [Act.put, List.setIfInBounds_toArray, List.set_cons_zero, List.set_cons_succ])
          iterate 2
            first
              | (refine mv_free ?_ (Or.inl ⟨by rfl, ?_⟩) (rfl) ?_
                 rotate_left 1
                 · intro u
                   go_simp
                   try with_reducible rfl
                 simp only [Act.put, List.setIfInBounds_toArray, List.set_cons_zero, List.set_cons_succ])
              | (refine mv_free _ (Or.inr ⟨by rfl, rfl⟩) (rfl) ?_
                 simp only [Act.put, List.setIfInBounds_toArray, List.set_cons_zero, List.set_cons_succ])
          iterate 1
            first
              | (refine mv_take ?_ (Or.inl ⟨by rfl, ?_⟩) (rfl) ?_
                 rotate_left 1
                 · intro u hu
                   (try dsimp only at hu)
                   go_simp
                   try with_reducible rfl
                 simp only [Act.put, List.setIfInBounds_toArray, List.set_cons_zero, List.set_cons_succ])
              | (refine mv_take _ (Or.inr ⟨by rfl, rfl⟩) (rfl) ?_
                 simp only [Act.put, List.setIfInBounds_toArray, List.set_cons_zero, List.set_cons_succ])
          iterate 5
            first
              | (refine mv_free ?_ (Or.inl ⟨by rfl, ?_⟩) (rfl) ?_
                 rotate_left 1
                 · intro u
                   go_simp
                   try with_reducible rfl
                 simp only [Act.put, List.setIfInBounds_toArray, List.set_cons_zero, List.set_cons_succ])
              | (refine mv_free _ (Or.inr ⟨by rfl, rfl⟩) (rfl) ?_
                 simp only [Act.put, List.setIfInBounds_toArray, List.set_cons_zero, List.set_cons_succ])
          refine mv_done ?_
          go_wp2
          go_roundw
          case rel => exact ⟨k + 1, _, (G + P + c) / 65536, by omega, by go_num, rfl, by omega, by omega, hA.drew.other (by omega) _ _, hB.drew.other (by omega) _ _, hZ.drew.other (by omega) _ _, hS.out, hb.drew.setCell (by simp; try omega) _, st⟩
          case measure => simp [intOf]; omega
        · obtain rfl : k = 4 := by omega
          obtain ⟨hz, st⟩ := hU.out.fin hlt hc0 hc1 hB0 HB.out
          replace st := Lib.hid st
          have hak' : (a : Int) + 4 < 12 := by omega
          have et : ((a : Int) + 4).toNat = a + 4 := by omega
          have cr := hR.c (a + 4) (by omega)
          have cf := hR.f (a + 4) (by omega)
          rw [hz] at cr
          go_wp2
          exact ⟨⟨a + 1, _, by omega, by go_num, hA.other (by omega) _ _, hB.other (by omega) _ _, hZ.other (by omega) _ _, hR.set (a + 4) c (by omega), hb.setCell (by simp; try omega) _, st⟩, by simp [intOf]; omega⟩
    · obtain rfl : a = 4 := by omega
      have hR := hR.congr (hU.out.fin hA0 HA.out)
      have hS12 := hR
      obtain ⟨c0, c1, c2, c3, c4, c5, c6, c7, c8, c9, c10, c11⟩ := hS12.all
      obtain ⟨z0, z1, z2, z3, z4, z5, z6, z7, z8, z9, z10, z11⟩ := (hZ).all
      obtain ⟨y0, y1, y2, y3, y4, y5, y6, y7, y8, y9, y10, y11⟩ := (hZ).allf
      go_wp2
      change bodyPost _ _ _ _ _ (rput (w.heap.size + 2) (dg (A * B)) _)
      have hW := (hZ).put (dg (A * B))
      have hB := rput_below (hb) (by omega : w.heap.size ≤ w.heap.size + 2) (dg (A * B))
      clear c0 c1 c2 c3 c4 c5 c6 c7 c8 c9 c10 c11 z0 z1 z2 z3 z4 z5 z6 z7 z8 z9 z10 z11 y0 y1 y2 y3 y4 y5 y6 y7 y8 y9 y10 y11
      generalize rput (w.heap.size + 2) (dg (A * B)) _ = wz at *
      obtain ⟨c0, c1, c2, c3, c4, c5, c6, c7, c8, c9, c10, c11⟩ := hW.all
      refine bodyPost_ret (v := rwv (A * B)) (by simp [results, Tryd.results114, go_sem, rwv, c0, c1, c2, c3, c4, c5, c6, c7, c8, c9, c10, c11]) rfl ⟨rfl, hB⟩

end Go.Proofs.YtfejdbmamaggpaaDoor
