/- The document's pressure and height, of steps; the chapter's examples; walked. -/
import Derived.Test.YtecpmffmmiogfaaGreatAir7
import Derived.Test.YtecpmffmmiogfaaGreatAir8
import Derived.Deep.Cut
namespace Go.Proofs.YtecpmffmmiogfaaGreat
open Go.ChangeShapes Go.WideShapes Go.ChangeAt Go.RowKit
set_option linter.unusedVariables false
set_option linter.unusedSimpArgs false
/-- The steps as a row. -/
structure StL (L : List Int) : Prop where
  len : L.length = 2101
  at' : ∀ i, i < 2101 → L.getD i 0 = aS i
theorem StL.cell {L : List Int} {a : Option Addr} {w : World} (h : StL L) (r : RowIs .i64 w a L) : ∃ g off, a = some ⟨g, off, none⟩ ∧ ∀ i, i < 2101 → w.cell? ⟨g, off + i, none⟩ = some (.int .i64 (aS i)) := by
  obtain ⟨g, off, e, _, _⟩ := r.at (show 0 < L.length by have := h.len; omega)
  subst e
  refine ⟨g, off, rfl, fun i hi => ?_⟩
  obtain ⟨g', off', e', _, c⟩ := r.at (show i < L.length by have := h.len; omega)
  injection e' with e'
  injection e' with e1 e2
  subst e1 e2
  rw [c, h.at' i hi]
set_option maxRecDepth 100000 in
set_option maxHeartbeats 8000000 in
theorem rheight (g off cap : Nat) (p : Int) (w : World) (hc : ∀ i, i < 2101 → w.cell? ⟨g, off + i, none⟩ = some (.int .i64 (aS i))) : Calls Tryz.prog 10 #[.slice (some ⟨g, off, none⟩) 2101 cap, .int .i64 p] w fun e w' => e = .returned (.int .i64 (heV p)) ∧ Below w.heap.size w w' := by
  have c0 := hc 0 (by omega)
  have c0 : w.cell? ⟨g, off, none⟩ = some (.int .i64 (aS 0)) := c0
  by_cases g1 : aS 0 ≤ p
  · rw [heV_top g1]
    clear hc
    go_enter Tryz.func10, Tryz.ntmps10
    go_wp2
    go_ret
    exact ⟨rfl, (by repeat (first | exact Below.refl _ _ | assumption | apply Below.drew | apply below_drewN | (refine Below.alloc ?_ (by first | exact Nat.le_refl _ | omega | (simp <;> omega)) _) | (refine Below.setCell ?_ (by first | exact Nat.le_refl _ | omega | (simp <;> omega)) _)))⟩
  have g1' : p < aS 0 := by omega
  have HC := Lib.hid hc
  have HI := Lib.hid (fun (k : Nat) (hk : k < 2100) (h1 : p ≤ aS k) (h2 : aS (k + 1) < p) => heV_in hk h1 h2)
  have HB := Lib.hid (fun (h : p ≤ aS 2100) => heV_bot h)
  generalize heV p = R at *
  clear hc
  go_enter Tryz.func10, Tryz.ntmps10
  go_wp2_with fail
  go_loopw [5] (fun i v => ∃ k : Nat, k ≤ 2100 ∧ i = .int .i64 (k : Int) ∧ p ≤ aS k ∧ w = v) (fun i _ => 2101 - (intOf i).toNat)
  case atStart => exact ⟨0, by omega, rfl, by omega, rfl⟩
  case round =>
    obtain ⟨k, hk, rfl, hp, rfl⟩ := hrel
    have i2 : IntKind.i64.wrap ((k : Int) + 1) = (k : Int) + 1 := by rw [IntKind.wrap_i64]; omega
    have i3 : ((k : Int) + 1).toNat = k + 1 := by omega
    have i4 : 0 ≤ (k : Int) + 1 := by omega
    have i6 : 0 ≤ (k : Int) := by omega
    by_cases hlt : k < 2100
    · have i5 : (k : Int) + 1 < 2101 := by omega
      have i7 : (k : Int) < 2101 := by omega
      have c1 := HC.out k (by omega)
      have c2 := HC.out (k + 1) (by omega)
      by_cases h2 : aS (k + 1) < p
      · have eR := HI.out k hlt hp h2
        have fb := heF_bd hlt hp h2
        have s := aS_step k hlt
        have b1 := aS_bd k (by omega)
        have b2 := aS_bd (k + 1) (by omega)
        unfold heF at eR
        obtain ⟨M, eM⟩ : ∃ M, M = (aS k - p) * 1000 := ⟨_, rfl⟩
        obtain ⟨D, eD⟩ : ∃ D, D = aS k - aS (k + 1) := ⟨_, rfl⟩
        rw [← eM, ← eD] at eR fb
        have z0 : IntKind.i64.wrap ((k : Int) * 1000) = (k : Int) * 1000 := by rw [IntKind.wrap_i64]; omega
        have z1 : IntKind.i64.wrap ((k : Int) * 1000 - 100000) = (k : Int) * 1000 - 100000 := by rw [IntKind.wrap_i64]; omega
        have z2 : IntKind.i64.wrap (aS k - p) = aS k - p := by rw [IntKind.wrap_i64]; omega
        have z3 : IntKind.i64.wrap ((aS k - p) * 1000) = M := by rw [← eM, IntKind.wrap_i64]; omega
        have z4 : IntKind.i64.wrap (aS k - aS (k + 1)) = D := by rw [← eD, IntKind.wrap_i64]; omega
        have z5 : M.tdiv D = M / D := Int.tdiv_eq_ediv_of_nonneg (by omega)
        have nD : ¬ D = 0 := by omega
        have nD1 : ¬ D = -1 := by omega
        have z6 : IntKind.i64.wrap (M / D) = M / D := by rw [IntKind.wrap_i64]; omega
        have z7 : IntKind.i64.wrap ((k : Int) * 1000 - 100000 + M / D) = R := by rw [eR, IntKind.wrap_i64]; omega
        generalize aS k = x at *
        generalize aS (k + 1) = y at *
        generalize M / D = Q at *
        replace eM := Lib.hid eM
        replace eD := Lib.hid eD
        replace eR := Lib.hid eR
        clear HI HB HC fb s b1 b2
        go_wp2_with fail
        refine region_moves (fun u => u.cell? ⟨g, off + k, none⟩ = some (.int .i64 x) ∧ u.cell? ⟨g, off + (k + 1), none⟩ = some (.int .i64 y)) [] [(.free, 0), (.free, 1), (.free, 2), (.free, 3), (.free, 4), (.free, 5), (.take, 6), (.free, 7), (.free, 8), (.free, 9), (.free, 10), (.free, 11), (.free, 12), (.take, 13), (.free, 14), (.free, 15), (.free, 16), (.free, 17), (.take, 18), (.free, 19), (.free, 20), (.free, 21), (.free, 22)] _ (by kernel_rfl) (by kernel_rfl) (by kernel_rfl) (by kernel_rfl) (by decide) rfl (fun _ _ _ _ _ h => h) ?_
        simp only [List.filterMap_cons, List.filterMap_nil, List.getElem?_toArray, List.getElem?_cons_zero, List.getElem?_cons_succ, Option.map_some]
        iterate 6
          first
            | (refine mv_free ?_ (Or.inl ⟨by rfl, ?_⟩) (⟨c1, c2⟩) ?_
               rotate_left 1
               · intro u
                 go_simp
                 try simp only [d1]
                 try simp only [d2]
                 try simp only [d3]
                 try with_reducible rfl
               simp only [Act.put, List.setIfInBounds_toArray, List.set_cons_zero, List.set_cons_succ])
            | (refine mv_free _ (Or.inr ⟨by rfl, rfl⟩) (⟨c1, c2⟩) ?_
               simp only [Act.put, List.setIfInBounds_toArray, List.set_cons_zero, List.set_cons_succ])
        iterate 1
          first
            | (refine mv_take ?_ (Or.inl ⟨by rfl, ?_⟩) (⟨c1, c2⟩) ?_
               rotate_left 1
               · intro u hu
                 (try dsimp only at hu)
                 go_simp
                 try with_reducible rfl
               simp only [Act.put, List.setIfInBounds_toArray, List.set_cons_zero, List.set_cons_succ])
            | (refine mv_take _ (Or.inr ⟨by rfl, rfl⟩) (⟨c1, c2⟩) ?_
               simp only [Act.put, List.setIfInBounds_toArray, List.set_cons_zero, List.set_cons_succ])
        iterate 6
          first
            | (refine mv_free ?_ (Or.inl ⟨by rfl, ?_⟩) (⟨c1, c2⟩) ?_
               rotate_left 1
               · intro u
                 go_simp
                 try simp only [d1]
                 try simp only [d2]
                 try simp only [d3]
                 try with_reducible rfl
               simp only [Act.put, List.setIfInBounds_toArray, List.set_cons_zero, List.set_cons_succ])
            | (refine mv_free _ (Or.inr ⟨by rfl, rfl⟩) (⟨c1, c2⟩) ?_
               simp only [Act.put, List.setIfInBounds_toArray, List.set_cons_zero, List.set_cons_succ])
        iterate 1
          first
            | (refine mv_take ?_ (Or.inl ⟨by rfl, ?_⟩) (⟨c1, c2⟩) ?_
               rotate_left 1
               · intro u hu
                 (try dsimp only at hu)
                 go_simp
                 try with_reducible rfl
               simp only [Act.put, List.setIfInBounds_toArray, List.set_cons_zero, List.set_cons_succ])
            | (refine mv_take _ (Or.inr ⟨by rfl, rfl⟩) (⟨c1, c2⟩) ?_
               simp only [Act.put, List.setIfInBounds_toArray, List.set_cons_zero, List.set_cons_succ])
        iterate 4
          first
            | (refine mv_free ?_ (Or.inl ⟨by rfl, ?_⟩) (⟨c1, c2⟩) ?_
               rotate_left 1
               · intro u
                 go_simp
                 try simp only [d1]
                 try simp only [d2]
                 try simp only [d3]
                 try with_reducible rfl
               simp only [Act.put, List.setIfInBounds_toArray, List.set_cons_zero, List.set_cons_succ])
            | (refine mv_free _ (Or.inr ⟨by rfl, rfl⟩) (⟨c1, c2⟩) ?_
               simp only [Act.put, List.setIfInBounds_toArray, List.set_cons_zero, List.set_cons_succ])
        iterate 1
          first
            | (refine mv_take ?_ (Or.inl ⟨by rfl, ?_⟩) (⟨c1, c2⟩) ?_
               rotate_left 1
               · intro u hu
                 (try dsimp only at hu)
                 go_simp
                 try with_reducible rfl
               simp only [Act.put, List.setIfInBounds_toArray, List.set_cons_zero, List.set_cons_succ])
            | (refine mv_take _ (Or.inr ⟨by rfl, rfl⟩) (⟨c1, c2⟩) ?_
               simp only [Act.put, List.setIfInBounds_toArray, List.set_cons_zero, List.set_cons_succ])
        iterate 4
          first
            | (refine mv_free ?_ (Or.inl ⟨by rfl, ?_⟩) (⟨c1, c2⟩) ?_
               rotate_left 1
               · intro u
                 go_simp
                 try simp only [d1]
                 try simp only [d2]
                 try simp only [d3]
                 try with_reducible rfl
               simp only [Act.put, List.setIfInBounds_toArray, List.set_cons_zero, List.set_cons_succ])
            | (refine mv_free _ (Or.inr ⟨by rfl, rfl⟩) (⟨c1, c2⟩) ?_
               simp only [Act.put, List.setIfInBounds_toArray, List.set_cons_zero, List.set_cons_succ])
        refine mv_done ?_
        go_wp2
        go_ret
        exact ⟨rfl, (by repeat (first | exact Below.refl _ _ | assumption | apply Below.drew | apply below_drewN | (refine Below.alloc ?_ (by first | exact Nat.le_refl _ | omega | (simp <;> omega)) _) | (refine Below.setCell ?_ (by first | exact Nat.le_refl _ | omega | (simp <;> omega)) _)))⟩
      · have h2' : p ≤ aS (k + 1) := by omega
        obtain ⟨x, ex⟩ : ∃ x, x = aS (k + 1) := ⟨_, rfl⟩
        rw [← ex] at c2 h2 h2'
        have h3 := Lib.hid (ex ▸ h2' : p ≤ aS (k + 1))
        replace ex := Lib.hid ex
        clear c1
        go_wp2
        go_roundw
        case rel => exact ⟨k + 1, by omega, by go_num, h3.out, trivial⟩
        case measure => simp [intOf]; omega
    · obtain rfl : k = 2100 := by omega
      have eR := HB.out hp
      clear HI HB HC
      subst eR
      go_wp2
      go_ret
      exact ⟨rfl, (by repeat (first | exact Below.refl _ _ | assumption | apply Below.drew | apply below_drewN | (refine Below.alloc ?_ (by first | exact Nat.le_refl _ | omega | (simp <;> omega)) _) | (refine Below.setCell ?_ (by first | exact Nat.le_refl _ | omega | (simp <;> omega)) _)))⟩
end Go.Proofs.YtecpmffmmiogfaaGreat
