/- curve.Back, and that the document calls two curves of the same numbers the same; walked. -/
import Derived.Test.YtnfbfggkbpobiaaCurve8a
namespace Go.Proofs.Ytnfbfggkbpobiaa
open Go.ChangeShapes Go.WideShapes Go.ChangeAt Go.RowKit
set_option linter.unusedVariables false
set_option linter.unusedSimpArgs false
theorem RowIs.aside {w : World} {g : Nat} {l : List Int} (h : RowIs .i64 w (some ⟨g, 0, none⟩) l) (p : Addr) (v : Value) (hp : p.block ≠ g) : RowIs .i64 (w.setCell p v) (some ⟨g, 0, none⟩) l := by
  rcases h with rfl | ⟨b, off, e, hlt, hc⟩
  · exact .inl rfl
  · injection e with e
    injection e with e1 e2
    subst e1 e2
    exact .inr ⟨_, _, rfl, by simpa using hlt, fun i hi => (World.cell?_setCell_other _ _ _ _ (by first | (intro e; exact hp (by rw [e])) | (intro e; exact hp (by rw [← e])) | simp [hp])).trans (hc i hi)⟩
theorem same_box (w : World) (a1 a2 a3 a4 : Option Addr) (c1 c2 c3 c4 : Nat) (X Y : List Int) : ∃ V, V = ((w.alloc (.cells #[.slice a1 X.length c1, .slice a2 Y.length c2] 33)).alloc (.cells #[.slice a3 X.length c3, .slice a4 Y.length c4] 33)) ∧ Below w.heap.size w V ∧ V.heap.size = w.heap.size + 2 ∧ ∀ u, Below (w.heap.size + 2) V u → u.cell? ⟨w.heap.size, 0, none⟩ = some (.slice a1 X.length c1) ∧ u.cell? ⟨w.heap.size, 1, none⟩ = some (.slice a2 Y.length c2) ∧ u.cell? ⟨w.heap.size + 1, 0, none⟩ = some (.slice a3 X.length c3) ∧ u.cell? ⟨w.heap.size + 1, 1, none⟩ = some (.slice a4 Y.length c4) :=
  ⟨_, rfl, (by repeat (first | exact Below.refl _ _ | assumption | apply Below.drew | apply below_drewN | (refine Below.alloc ?_ (by first | exact Nat.le_refl _ | omega | (simp <;> omega)) _) | (refine Below.setCell ?_ (by first | exact Nat.le_refl _ | omega | (simp <;> omega)) _))), by simp, fun u hu => ⟨(bc hu (by omega)).trans (by go_simp), (bc hu (by omega)).trans (by go_simp), (bc hu (by omega)).trans (by go_simp), (bc hu (by omega)).trans (by go_simp)⟩⟩
set_option maxRecDepth 100000 in
set_option maxHeartbeats 8000000 in
theorem rsame5_any (a1 a2 a3 a4 : Option Addr) (c1 c2 c3 c4 : Nat) (X Y : List Int) (w : World) (h1 : RowIs .i64 w a1 X) (h2 : RowIs .i64 w a2 Y) (h3 : RowIs .i64 w a3 X) (h4 : RowIs .i64 w a4 Y) (hX : 0 < X.length) (hY : 0 < Y.length) (mX : X.length ≤ 300) (mY : Y.length ≤ 300) :
    Calls Try.prog 23 #[.agg #[.slice a1 X.length c1, .slice a2 Y.length c2], .agg #[.slice a3 X.length c3, .slice a4 Y.length c4]] w fun e w' => e = .returned (.bool true) ∧ Below w.heap.size w w' := by
  obtain ⟨V, eV, hb0, hz, hcs⟩ := same_box w a1 a2 a3 a4 c1 c2 c3 c4 X Y
  obtain ⟨b1, o1, rfl, R1⟩ := row_cell h1 hX
  obtain ⟨b2, o2, rfl, R2⟩ := row_cell h2 hY
  obtain ⟨b3, o3, rfl, R3⟩ := row_cell h3 hX
  obtain ⟨b4, o4, rfl, R4⟩ := row_cell h4 hY
  have G1 := Lib.hid (fun u (h : Below (w.heap.size + 2) V u) => R1 u (hb0.trans (h.mono (by omega))))
  have G2 := Lib.hid (fun u (h : Below (w.heap.size + 2) V u) => R2 u (hb0.trans (h.mono (by omega))))
  have G3 := Lib.hid (fun u (h : Below (w.heap.size + 2) V u) => R3 u (hb0.trans (h.mono (by omega))))
  have G4 := Lib.hid (fun u (h : Below (w.heap.size + 2) V u) => R4 u (hb0.trans (h.mono (by omega))))
  clear R1 R2 R3 R4 h1 h2 h3 h4 hX hY
  have q1 : ((X.length : Int) != (X.length : Int)) = false := by simp
  have q2 : ((Y.length : Int) != (Y.length : Int)) = false := by simp
  replace hb0 := Lib.hid hb0
  replace hz := Lib.hid hz
  replace hcs := Lib.hid hcs
  replace eV := Lib.hid eV
  go_enter Try.func23, Try.ntmps23
  go_upto_region 1 with (fail)
  rw [← eV.out]
  obtain ⟨k0, k1, k2, k3⟩ := hcs.out _ (Below.refl _ _)
  go_wp2_with fail
  go_loopw [5] (fun i v => ∃ j : Nat, j ≤ X.length ∧ i = .int .i64 j ∧ Below (w.heap.size + 2) V v) (fun i _ => X.length - (intOf i).toNat)
  case atStart => exact ⟨0, by omega, rfl, Below.refl _ _⟩
  case round =>
    obtain ⟨j, hj, rfl, hb⟩ := hrel
    obtain ⟨k0, k1, k2, k3⟩ := hcs.out _ hb
    by_cases hlt : j < X.length
    · have x1 := G1.out _ hb j hlt
      have x2 := G3.out _ hb j hlt
      have l1 : (j : Int) < (X.length : Int) := by omega
      generalize X.getD j 0 = p at *
      have d1 : (p != p) = false := by simp
      go_wp2_with fail
      refine region_still [] [(.free, 0), (.take, 1), (.free, 2), (.free, 3), (.take, 4), (.free, 5), (.take, 6), (.free, 7), (.free, 8), (.take, 9), (.free, 10)] _ (by kernel_rfl) (by kernel_rfl) (by kernel_rfl) (by kernel_rfl) (by decide) rfl (fun _ _ _ _ _ h => h) ?_
      simp only [List.filterMap_cons, List.filterMap_nil, List.getElem?_toArray, List.getElem?_cons_zero, List.getElem?_cons_succ, Option.map_some]
      iterate 1
        first
          | (refine mv_free ?_ (Or.inl ⟨by rfl, ?_⟩) (rfl) ?_
             rotate_left 1
             · intro u
               go_simp
               try simp only [d1]
               try simp only [d2]
               try simp only [d3]
               try with_reducible rfl
             simp only [Act.put, List.setIfInBounds_toArray, List.set_cons_zero, List.set_cons_succ])
          | (refine mv_free _ (Or.inr ⟨by rfl, rfl⟩) (rfl) ?_
             simp only [Act.put, List.setIfInBounds_toArray, List.set_cons_zero, List.set_cons_succ])
      iterate 1
        first
          | (refine mv_take ?_ (Or.inl ⟨by rfl, ?_⟩) (rfl) ?_
             rotate_left 1
             · intro u hu
               (try dsimp only at hu)
               go_simp
               try with_reducible rfl
             simp only [Act.put, List.setIfInBounds_toArray, List.set_cons_zero, List.set_cons_succ])
          | (refine mv_take _ (Or.inr ⟨by rfl, rfl⟩) (rfl) ?_
             simp only [Act.put, List.setIfInBounds_toArray, List.set_cons_zero, List.set_cons_succ])
      iterate 2
        first
          | (refine mv_free ?_ (Or.inl ⟨by rfl, ?_⟩) (rfl) ?_
             rotate_left 1
             · intro u
               go_simp
               try simp only [d1]
               try simp only [d2]
               try simp only [d3]
               try with_reducible rfl
             simp only [Act.put, List.setIfInBounds_toArray, List.set_cons_zero, List.set_cons_succ])
          | (refine mv_free _ (Or.inr ⟨by rfl, rfl⟩) (rfl) ?_
             simp only [Act.put, List.setIfInBounds_toArray, List.set_cons_zero, List.set_cons_succ])
      iterate 1
        first
          | (refine mv_take ?_ (Or.inl ⟨by rfl, ?_⟩) (rfl) ?_
             rotate_left 1
             · intro u hu
               (try dsimp only at hu)
               go_simp
               try with_reducible rfl
             simp only [Act.put, List.setIfInBounds_toArray, List.set_cons_zero, List.set_cons_succ])
          | (refine mv_take _ (Or.inr ⟨by rfl, rfl⟩) (rfl) ?_
             simp only [Act.put, List.setIfInBounds_toArray, List.set_cons_zero, List.set_cons_succ])
      iterate 1
        first
          | (refine mv_free ?_ (Or.inl ⟨by rfl, ?_⟩) (rfl) ?_
             rotate_left 1
             · intro u
               go_simp
               try simp only [d1]
               try simp only [d2]
               try simp only [d3]
               try with_reducible rfl
             simp only [Act.put, List.setIfInBounds_toArray, List.set_cons_zero, List.set_cons_succ])
          | (refine mv_free _ (Or.inr ⟨by rfl, rfl⟩) (rfl) ?_
             simp only [Act.put, List.setIfInBounds_toArray, List.set_cons_zero, List.set_cons_succ])
      iterate 1
        first
          | (refine mv_take ?_ (Or.inl ⟨by rfl, ?_⟩) (rfl) ?_
             rotate_left 1
             · intro u hu
               (try dsimp only at hu)
               go_simp
               try with_reducible rfl
             simp only [Act.put, List.setIfInBounds_toArray, List.set_cons_zero, List.set_cons_succ])
          | (refine mv_take _ (Or.inr ⟨by rfl, rfl⟩) (rfl) ?_
             simp only [Act.put, List.setIfInBounds_toArray, List.set_cons_zero, List.set_cons_succ])
      iterate 2
        first
          | (refine mv_free ?_ (Or.inl ⟨by rfl, ?_⟩) (rfl) ?_
             rotate_left 1
             · intro u
               go_simp
               try simp only [d1]
               try simp only [d2]
               try simp only [d3]
               try with_reducible rfl
             simp only [Act.put, List.setIfInBounds_toArray, List.set_cons_zero, List.set_cons_succ])
          | (refine mv_free _ (Or.inr ⟨by rfl, rfl⟩) (rfl) ?_
             simp only [Act.put, List.setIfInBounds_toArray, List.set_cons_zero, List.set_cons_succ])
      iterate 1
        first
          | (refine mv_take ?_ (Or.inl ⟨by rfl, ?_⟩) (rfl) ?_
             rotate_left 1
             · intro u hu
               (try dsimp only at hu)
               go_simp
               try with_reducible rfl
             simp only [Act.put, List.setIfInBounds_toArray, List.set_cons_zero, List.set_cons_succ])
          | (refine mv_take _ (Or.inr ⟨by rfl, rfl⟩) (rfl) ?_
             simp only [Act.put, List.setIfInBounds_toArray, List.set_cons_zero, List.set_cons_succ])
      iterate 1
        first
          | (refine mv_free ?_ (Or.inl ⟨by rfl, ?_⟩) (rfl) ?_
             rotate_left 1
             · intro u
               go_simp
               try simp only [d1]
               try simp only [d2]
               try simp only [d3]
               try with_reducible rfl
             simp only [Act.put, List.setIfInBounds_toArray, List.set_cons_zero, List.set_cons_succ])
          | (refine mv_free _ (Or.inr ⟨by rfl, rfl⟩) (rfl) ?_
             simp only [Act.put, List.setIfInBounds_toArray, List.set_cons_zero, List.set_cons_succ])
      refine mv_done ?_
      go_wp2
      go_roundw
      case rel => exact ⟨j + 1, by omega, by go_num, hb.drew⟩
      case measure => simp [intOf]; omega
    · have hge : (X.length : Int) ≤ (j : Int) := by omega
      go_wp2_with fail
      go_loopw [6] (fun i v => ∃ j : Nat, j ≤ Y.length ∧ i = .int .i64 j ∧ Below (w.heap.size + 2) V v) (fun i _ => Y.length - (intOf i).toNat)
      case atStart => exact ⟨0, by omega, rfl, hb⟩
      case round =>
        obtain ⟨j, hj, rfl, hb⟩ := hrel
        obtain ⟨k0, k1, k2, k3⟩ := hcs.out _ hb
        by_cases hlt : j < Y.length
        · have x1 := G2.out _ hb j hlt
          have x2 := G4.out _ hb j hlt
          have l1 : (j : Int) < (Y.length : Int) := by omega
          generalize Y.getD j 0 = p at *
          have d1 : (p != p) = false := by simp
          go_wp2_with fail
          refine region_still [] [(.free, 0), (.take, 1), (.free, 2), (.free, 3), (.take, 4), (.free, 5), (.take, 6), (.free, 7), (.free, 8), (.take, 9), (.free, 10)] _ (by kernel_rfl) (by kernel_rfl) (by kernel_rfl) (by kernel_rfl) (by decide) rfl (fun _ _ _ _ _ h => h) ?_
          simp only [List.filterMap_cons, List.filterMap_nil, List.getElem?_toArray, List.getElem?_cons_zero, List.getElem?_cons_succ, Option.map_some]
          iterate 1
            first
              | (refine mv_free ?_ (Or.inl ⟨by rfl, ?_⟩) (rfl) ?_
                 rotate_left 1
                 · intro u
                   go_simp
                   try simp only [d1]
                   try simp only [d2]
                   try simp only [d3]
                   try with_reducible rfl
                 simp only [Act.put, List.setIfInBounds_toArray, List.set_cons_zero, List.set_cons_succ])
              | (refine mv_free _ (Or.inr ⟨by rfl, rfl⟩) (rfl) ?_
                 simp only [Act.put, List.setIfInBounds_toArray, List.set_cons_zero, List.set_cons_succ])
          iterate 1
            first
              | (refine mv_take ?_ (Or.inl ⟨by rfl, ?_⟩) (rfl) ?_
                 rotate_left 1
                 · intro u hu
                   (try dsimp only at hu)
                   go_simp
                   try with_reducible rfl
                 simp only [Act.put, List.setIfInBounds_toArray, List.set_cons_zero, List.set_cons_succ])
              | (refine mv_take _ (Or.inr ⟨by rfl, rfl⟩) (rfl) ?_
                 simp only [Act.put, List.setIfInBounds_toArray, List.set_cons_zero, List.set_cons_succ])
          iterate 2
            first
              | (refine mv_free ?_ (Or.inl ⟨by rfl, ?_⟩) (rfl) ?_
                 rotate_left 1
                 · intro u
                   go_simp
                   try simp only [d1]
                   try simp only [d2]
                   try simp only [d3]
                   try with_reducible rfl
                 simp only [Act.put, List.setIfInBounds_toArray, List.set_cons_zero, List.set_cons_succ])
              | (refine mv_free _ (Or.inr ⟨by rfl, rfl⟩) (rfl) ?_
                 simp only [Act.put, List.setIfInBounds_toArray, List.set_cons_zero, List.set_cons_succ])
          iterate 1
            first
              | (refine mv_take ?_ (Or.inl ⟨by rfl, ?_⟩) (rfl) ?_
                 rotate_left 1
                 · intro u hu
                   (try dsimp only at hu)
                   go_simp
                   try with_reducible rfl
                 simp only [Act.put, List.setIfInBounds_toArray, List.set_cons_zero, List.set_cons_succ])
              | (refine mv_take _ (Or.inr ⟨by rfl, rfl⟩) (rfl) ?_
                 simp only [Act.put, List.setIfInBounds_toArray, List.set_cons_zero, List.set_cons_succ])
          iterate 1
            first
              | (refine mv_free ?_ (Or.inl ⟨by rfl, ?_⟩) (rfl) ?_
                 rotate_left 1
                 · intro u
                   go_simp
                   try simp only [d1]
                   try simp only [d2]
                   try simp only [d3]
                   try with_reducible rfl
                 simp only [Act.put, List.setIfInBounds_toArray, List.set_cons_zero, List.set_cons_succ])
              | (refine mv_free _ (Or.inr ⟨by rfl, rfl⟩) (rfl) ?_
                 simp only [Act.put, List.setIfInBounds_toArray, List.set_cons_zero, List.set_cons_succ])
          iterate 1
            first
              | (refine mv_take ?_ (Or.inl ⟨by rfl, ?_⟩) (rfl) ?_
                 rotate_left 1
                 · intro u hu
                   (try dsimp only at hu)
                   go_simp
                   try with_reducible rfl
                 simp only [Act.put, List.setIfInBounds_toArray, List.set_cons_zero, List.set_cons_succ])
              | (refine mv_take _ (Or.inr ⟨by rfl, rfl⟩) (rfl) ?_
                 simp only [Act.put, List.setIfInBounds_toArray, List.set_cons_zero, List.set_cons_succ])
          iterate 2
            first
              | (refine mv_free ?_ (Or.inl ⟨by rfl, ?_⟩) (rfl) ?_
                 rotate_left 1
                 · intro u
                   go_simp
                   try simp only [d1]
                   try simp only [d2]
                   try simp only [d3]
                   try with_reducible rfl
                 simp only [Act.put, List.setIfInBounds_toArray, List.set_cons_zero, List.set_cons_succ])
              | (refine mv_free _ (Or.inr ⟨by rfl, rfl⟩) (rfl) ?_
                 simp only [Act.put, List.setIfInBounds_toArray, List.set_cons_zero, List.set_cons_succ])
          iterate 1
            first
              | (refine mv_take ?_ (Or.inl ⟨by rfl, ?_⟩) (rfl) ?_
                 rotate_left 1
                 · intro u hu
                   (try dsimp only at hu)
                   go_simp
                   try with_reducible rfl
                 simp only [Act.put, List.setIfInBounds_toArray, List.set_cons_zero, List.set_cons_succ])
              | (refine mv_take _ (Or.inr ⟨by rfl, rfl⟩) (rfl) ?_
                 simp only [Act.put, List.setIfInBounds_toArray, List.set_cons_zero, List.set_cons_succ])
          iterate 1
            first
              | (refine mv_free ?_ (Or.inl ⟨by rfl, ?_⟩) (rfl) ?_
                 rotate_left 1
                 · intro u
                   go_simp
                   try simp only [d1]
                   try simp only [d2]
                   try simp only [d3]
                   try with_reducible rfl
                 simp only [Act.put, List.setIfInBounds_toArray, List.set_cons_zero, List.set_cons_succ])
              | (refine mv_free _ (Or.inr ⟨by rfl, rfl⟩) (rfl) ?_
                 simp only [Act.put, List.setIfInBounds_toArray, List.set_cons_zero, List.set_cons_succ])
          refine mv_done ?_
          go_wp2
          go_roundw
          case rel => exact ⟨j + 1, by omega, by go_num, hb.drew⟩
          case measure => simp [intOf]; omega
        · have hge : (Y.length : Int) ≤ (j : Int) := by omega
          go_wp2
          go_ret
          exact ⟨rfl, hb0.out.trans (hb.mono (by omega))⟩
end Go.Proofs.Ytnfbfggkbpobiaa
