/- The law CurveTurns, walked. -/
import Derived.Test.YtmmenpaodofahaaCurve10
namespace Go.Proofs.Ytmmenpaodofahaa
open Go.ChangeShapes Go.WideShapes Go.ChangeAt Go.RowKit
set_option linter.unusedVariables false
set_option linter.unusedSimpArgs false
set_option maxRecDepth 100000 in
set_option maxHeartbeats 8000000 in
theorem law_CurveTurns (ax ay : Option Addr) (cx cy : Nat) (X Y : List Int) (w : World) (hx : RowIs .i64 w ax X) (hy : RowIs .i64 w ay Y) :
    Calls Try.prog 4 #[.agg #[.slice ax X.length cx, .slice ay Y.length cy]] w fun e w' => e = .returned (.bool true) ∧ Below w.heap.size w w' := by
  have LV := Lib.hid (fun u => lives05 u)
  have GR := fun u => cgreat_any ax ay cx cy X Y u
  cases hgr : (decide (300 < X.length) || decide (300 < Y.length))
  case true =>
    rw [hgr] at GR
    replace GR := Lib.hid GR
    clear hgr hx hy
    obtain ⟨V, eV, hb0, hz, hcs⟩ := crv_box w ax ay cx cy X Y
    replace hb0 := Lib.hid hb0
    replace hz := Lib.hid hz
    replace hcs := Lib.hid hcs
    replace eV := Lib.hid eV
    go_enter Try.func4, Try.ntmps4
    go_wp2_with fail
    rw [← eV.out]
    obtain ⟨k0, k1⟩ := hcs.out _ (Below.refl _ _)
    go_wp2_with fail
    refine (GR.out _).mono ?_
    rintro e w1 ⟨rfl, hb1⟩
    have hb1 := (Below.refl (w.heap.size + 1) V).trans (hb1.mono (Nat.le_of_eq hz.out.symm))
    obtain ⟨k0, k1⟩ := hcs.out _ hb1
    go_wp2_with fail
    refine (LV.out _).mono ?_
    rintro e w2 ⟨rfl, hb2⟩
    have hb2 := hb1.trans (hb2.mono (by have := hb1.size; have := hz.out; omega))
    clear hb1
    go_wp2
    go_ret
    exact ⟨rfl, hb0.out.trans (hb2.mono (by omega))⟩
  rw [hgr] at GR
  replace GR := Lib.hid GR
  have hX : X.length ≤ 300 := by simp at hgr; omega
  have hY : Y.length ≤ 300 := by simp at hgr; omega
  clear hgr
  cases hg : rgtB X Y
  case false =>
    obtain ⟨V, eV, hb0, hz, hcs⟩ := crv_box w ax ay cx cy X Y
    have W := fun u (h : Below (w.heap.size + 1) V u) => show Below w.heap.size w u from hb0.trans (h.mono (by omega))
    have CR := fun u (h : Below (w.heap.size + 1) V u) => crises_any ax ay cx cy X Y u (hx.below (W u h)) (hy.below (W u h)) hX hY
    have BD := fun u (h : Below (w.heap.size + 1) V u) => cbounds_any ax ay cx cy X Y u (hx.below (W u h)) (hy.below (W u h)) hX hY
    have RF := fun u (h : Below (w.heap.size + 1) V u) => rrises5_any ax ay cx cy X Y false u (hx.below (W u h)) (hy.below (W u h)) hX hY
    have RT := fun u (h : Below (w.heap.size + 1) V u) => rrises5_any ax ay cx cy X Y true u (hx.below (W u h)) (hy.below (W u h)) hX hY
    have RG := fun u (h : Below (w.heap.size + 1) V u) => rright5_any ax ay cx cy X Y u (hx.below (W u h)) (hy.below (W u h)) hX hY
    have BK := Lib.hid (fun u (h : Below (w.heap.size + 1) V u) => cback_no ax ay cx cy X Y u (hx.below (W u h)) (hy.below (W u h)) hX hY (by rw [hg, Bool.and_false]))
    rw [hg] at CR BD RF RT RG
    rw [Bool.and_false] at CR RF RT
    simp only [Bool.false_eq_true, if_false] at BD
    replace CR := Lib.hid CR
    replace BD := Lib.hid BD
    replace RF := Lib.hid RF
    replace RT := Lib.hid RT
    replace RG := Lib.hid RG
    clear hX hY W hx hy hg
    replace hb0 := Lib.hid hb0
    replace hz := Lib.hid hz
    replace hcs := Lib.hid hcs
    replace eV := Lib.hid eV
    go_enter Try.func4, Try.ntmps4
    go_wp2_with fail
    rw [← eV.out]
    obtain ⟨k0, k1⟩ := hcs.out _ (Below.refl _ _)
    go_wp2_with fail
    refine (GR.out _).mono ?_
    rintro e w1 ⟨rfl, hb1⟩
    have hb1 := (Below.refl (w.heap.size + 1) V).trans (hb1.mono (Nat.le_of_eq hz.out.symm))
    obtain ⟨k0, k1⟩ := hcs.out _ hb1
    go_wp2_with fail
    refine (BK.out _ hb1).mono ?_
    rintro e w2 ⟨rfl, hb2⟩
    have hb2 := hb1.trans (hb2.mono (by have := hb1.size; have := hz.out; omega))
    obtain ⟨k0, k1⟩ := hcs.out _ hb2
    go_upto_region 4 with (fail)
    obtain ⟨V1, eV1, hm0, hz1, hcs1⟩ := crv_box w2 none none 0 0 [] []
    replace eV1 : V1 = (w2.alloc (.cells #[.slice none 0 0, .slice none 0 0] 24)) := eV1
    replace hcs1 : ∀ u, Below (w2.heap.size + 1) V1 u → u.cell? ⟨w2.heap.size, 0, none⟩ = some (.slice none 0 0) ∧ u.cell? ⟨w2.heap.size, 1, none⟩ = some (.slice none 0 0) := hcs1
    have hb3 := hb2.trans (hm0.mono (by have := hb2.size; have := hz.out; omega))
    replace eV1 := Lib.hid eV1
    rw [← eV1.out]
    obtain ⟨k0, k1⟩ := hcs.out _ hb3
    obtain ⟨j0, j1⟩ := hcs1 _ (Below.refl _ _)
    clear hb2
    have hmv := Lib.hid hm0
    clear hm0
    have hm3 := Below.refl (w2.heap.size + 1) V1
    have hs3 := Lib.hid (show w.heap.size + 1 ≤ w2.heap.size + 1 ∧ V1.heap.size = w2.heap.size + 1 from ⟨by have := hb3.size; have := hz.out; omega, hz1⟩)
    clear hz1
    replace hcs1 := Lib.hid hcs1
    go_wp2_with fail
    refine (BD.out _ (hb3)).mono ?_
    rintro e w4 ⟨rfl, hb4⟩
    have hm4 := hm3.trans (hb4.mono (by have := hm3.size; have := hs3.out.2; omega))
    have hb4 := hb3.trans (hb4.mono (by have := hb3.size; have := hz.out; omega))
    clear hb3 hm3
    obtain ⟨k0, k1⟩ := hcs.out _ hb4
    obtain ⟨j0, j1⟩ := hcs1.out _ hm4
    go_wp2_with fail
    refine region_moves (fun u => u.cell? ⟨w.heap.size, 0, none⟩ = some (.slice ax X.length cx) ∧ u.cell? ⟨w.heap.size, 1, none⟩ = some (.slice ay Y.length cy)) [] [(.take, 0), (.take, 2), (.step, 1), (.step, 3), (.free, 4), (.free, 5), (.free, 6), (.take, 7), (.step, 8), (.free, 9), (.free, 10), (.free, 11), (.free, 12), (.take, 13), (.step, 14), (.free, 15), (.free, 16)] _ (by kernel_rfl) (by kernel_rfl) (by kernel_rfl) (by kernel_rfl) (by decide) rfl (fun _ _ _ _ _ h => h) ?_
    simp only [List.filterMap_cons, List.filterMap_nil, List.getElem?_toArray, List.getElem?_cons_zero, List.getElem?_cons_succ, Option.map_some]
    iterate 2
      first
        | (refine mv_take ?_ (Or.inl ⟨by rfl, ?_⟩) (⟨k0, k1⟩) ?_
           rotate_left 1
           · intro u hu
             (try dsimp only at hu)
             go_simp
             try with_reducible rfl
           simp only [Act.put, List.setIfInBounds_toArray, List.set_cons_zero, List.set_cons_succ])
        | (refine mv_take _ (Or.inr ⟨by rfl, rfl⟩) (⟨k0, k1⟩) ?_
           simp only [Act.put, List.setIfInBounds_toArray, List.set_cons_zero, List.set_cons_succ])
    refine mv_step (fun K hK => ?_)
    go_simp
    refine (CR.out _ (hb4.drew)).mono ?_
    rintro e w5 ⟨rfl, hb5⟩
    have hm5 := hm4.drew.trans (hb5.mono (by have := hm4.size; have := hs3.out.2; show _ ≤ w4.heap.size; omega))
    have hb5 := hb4.drew.trans (hb5.mono (by have := hb4.size; have := hz.out; show _ ≤ w4.heap.size; omega))
    clear hb4 hm4
    obtain ⟨k0, k1⟩ := hcs.out _ hb5
    obtain ⟨j0, j1⟩ := hcs1.out _ hm5
    go_wp2_with fail
    refine hK.out _ _ _ (fun u hu => hu) (⟨k0, k1⟩) ?_
    clear hK K
    refine mv_step (fun K hK => ?_)
    go_simp
    refine (RF.out _ (hb5)).mono ?_
    rintro e w6 ⟨rfl, hb6⟩
    have hm6 := hm5.trans (hb6.mono (by have := hm5.size; have := hs3.out.2; omega))
    have hb6 := hb5.trans (hb6.mono (by have := hb5.size; have := hz.out; omega))
    clear hb5 hm5
    obtain ⟨k0, k1⟩ := hcs.out _ hb6
    obtain ⟨j0, j1⟩ := hcs1.out _ hm6
    go_wp2_with fail
    refine hK.out _ _ _ (fun u hu => hu) (⟨k0, k1⟩) ?_
    clear hK K
    iterate 3
      first
        | (refine mv_free ?_ (Or.inl ⟨by rfl, ?_⟩) (⟨k0, k1⟩) ?_
           rotate_left 1
           · intro u
             go_simp
             try simp only [d1]
             try simp only [d2]
             try simp only [d3]
             try simp only [d4]
             try with_reducible rfl
           simp only [Act.put, List.setIfInBounds_toArray, List.set_cons_zero, List.set_cons_succ])
        | (refine mv_free _ (Or.inr ⟨by rfl, rfl⟩) (⟨k0, k1⟩) ?_
           simp only [Act.put, List.setIfInBounds_toArray, List.set_cons_zero, List.set_cons_succ])
    iterate 1
      first
        | (refine mv_take ?_ (Or.inl ⟨by rfl, ?_⟩) (⟨k0, k1⟩) ?_
           rotate_left 1
           · intro u hu
             (try dsimp only at hu)
             go_simp
             try with_reducible rfl
           simp only [Act.put, List.setIfInBounds_toArray, List.set_cons_zero, List.set_cons_succ])
        | (refine mv_take _ (Or.inr ⟨by rfl, rfl⟩) (⟨k0, k1⟩) ?_
           simp only [Act.put, List.setIfInBounds_toArray, List.set_cons_zero, List.set_cons_succ])
    refine mv_step (fun K hK => ?_)
    go_simp
    refine (RT.out _ (hb6)).mono ?_
    rintro e w7 ⟨rfl, hb7⟩
    have hm7 := hm6.trans (hb7.mono (by have := hm6.size; have := hs3.out.2; omega))
    have hb7 := hb6.trans (hb7.mono (by have := hb6.size; have := hz.out; omega))
    clear hb6 hm6
    obtain ⟨k0, k1⟩ := hcs.out _ hb7
    obtain ⟨j0, j1⟩ := hcs1.out _ hm7
    go_wp2_with fail
    refine hK.out _ _ _ (fun u hu => hu) (⟨k0, k1⟩) ?_
    clear hK K
    iterate 4
      first
        | (refine mv_free ?_ (Or.inl ⟨by rfl, ?_⟩) (⟨k0, k1⟩) ?_
           rotate_left 1
           · intro u
             go_simp
             try simp only [d1]
             try simp only [d2]
             try simp only [d3]
             try simp only [d4]
             try with_reducible rfl
           simp only [Act.put, List.setIfInBounds_toArray, List.set_cons_zero, List.set_cons_succ])
        | (refine mv_free _ (Or.inr ⟨by rfl, rfl⟩) (⟨k0, k1⟩) ?_
           simp only [Act.put, List.setIfInBounds_toArray, List.set_cons_zero, List.set_cons_succ])
    iterate 1
      first
        | (refine mv_take ?_ (Or.inl ⟨by rfl, ?_⟩) (⟨k0, k1⟩) ?_
           rotate_left 1
           · intro u hu
             (try dsimp only at hu)
             go_simp
             try with_reducible rfl
           simp only [Act.put, List.setIfInBounds_toArray, List.set_cons_zero, List.set_cons_succ])
        | (refine mv_take _ (Or.inr ⟨by rfl, rfl⟩) (⟨k0, k1⟩) ?_
           simp only [Act.put, List.setIfInBounds_toArray, List.set_cons_zero, List.set_cons_succ])
    refine mv_step (fun K hK => ?_)
    go_simp
    refine (RG.out _ (hb7)).mono ?_
    rintro e w8 ⟨rfl, hb8⟩
    have hm8 := hm7.trans (hb8.mono (by have := hm7.size; have := hs3.out.2; omega))
    have hb8 := hb7.trans (hb8.mono (by have := hb7.size; have := hz.out; omega))
    clear hb7 hm7
    obtain ⟨k0, k1⟩ := hcs.out _ hb8
    obtain ⟨j0, j1⟩ := hcs1.out _ hm8
    go_wp2_with fail
    refine hK.out _ _ _ (fun u hu => hu) (⟨k0, k1⟩) ?_
    clear hK K
    iterate 2
      first
        | (refine mv_free ?_ (Or.inl ⟨by rfl, ?_⟩) (⟨k0, k1⟩) ?_
           rotate_left 1
           · intro u
             go_simp
             try simp only [d1]
             try simp only [d2]
             try simp only [d3]
             try simp only [d4]
             try with_reducible rfl
           simp only [Act.put, List.setIfInBounds_toArray, List.set_cons_zero, List.set_cons_succ])
        | (refine mv_free _ (Or.inr ⟨by rfl, rfl⟩) (⟨k0, k1⟩) ?_
           simp only [Act.put, List.setIfInBounds_toArray, List.set_cons_zero, List.set_cons_succ])
    refine mv_done ?_
    have j0 : w8.cell? ⟨w2.heap.size, 0, none⟩ = some (.slice none 0 0) := j0
    have j1 : w8.cell? ⟨w2.heap.size, 1, none⟩ = some (.slice none 0 0) := j1
    go_wp2_with fail
    refine (LV.out _).mono ?_
    rintro e w20 ⟨rfl, hb20⟩
    have hb20 := hb8.trans (hb20.mono (by have := hb8.size; have := hz.out; omega))
    go_wp2
    go_ret
    exact ⟨rfl, hb0.out.trans (hb20.mono (by omega))⟩
  obtain ⟨m1, m2, m3, g1, g2, g3⟩ := rgtB_at hg
  obtain ⟨b2, o2, rfl, RY⟩ := row_cell hy (show 0 < Y.length by omega)
  obtain ⟨V, eV, hb0, hz, hcs⟩ := crv_box w ax (some ⟨b2, o2, none⟩) cx cy X Y
  have W := fun u (h : Below (w.heap.size + 1) V u) => show Below w.heap.size w u from hb0.trans (h.mono (by omega))
  have CR := fun u (h : Below (w.heap.size + 1) V u) => crises_any ax (some ⟨b2, o2, none⟩) cx cy X Y u (hx.below (W u h)) (hy.below (W u h)) hX hY
  have BD := fun u (h : Below (w.heap.size + 1) V u) => cbounds_any ax (some ⟨b2, o2, none⟩) cx cy X Y u (hx.below (W u h)) (hy.below (W u h)) hX hY
  have RF := fun u (h : Below (w.heap.size + 1) V u) => rrises5_any ax (some ⟨b2, o2, none⟩) cx cy X Y false u (hx.below (W u h)) (hy.below (W u h)) hX hY
  have RT := fun u (h : Below (w.heap.size + 1) V u) => rrises5_any ax (some ⟨b2, o2, none⟩) cx cy X Y true u (hx.below (W u h)) (hy.below (W u h)) hX hY
  have RG := fun u (h : Below (w.heap.size + 1) V u) => rright5_any ax (some ⟨b2, o2, none⟩) cx cy X Y u (hx.below (W u h)) (hy.below (W u h)) hX hY
  have GY := Lib.hid (fun u (h : Below (w.heap.size + 1) V u) => RY u (W u h))
  have n0 := Lib.hid (show 0 < Y.length by omega)
  have n1 := Lib.hid (show (0 : Int) < Y.length by omega)
  have n2 := Lib.hid (show (2 : Int) ≤ Y.length by omega)
  have n3 := Lib.hid (show Y.length ≤ 300 by omega)
  rw [hg] at CR BD RF RG
  rw [Bool.and_true] at CR RF
  simp only [if_true] at BD
  replace RF : ∀ u (h : Below (w.heap.size + 1) V u), Calls Try.prog 25 #[.agg #[.slice ax X.length cx, .slice (some ⟨b2, o2, none⟩) Y.length cy], .bool false] u fun e w' => e = .returned (.bool (ndB Y)) ∧ Below u.heap.size u w' := RF
  replace RT : ∀ u (h : Below (w.heap.size + 1) V u), Calls Try.prog 25 #[.agg #[.slice ax X.length cx, .slice (some ⟨b2, o2, none⟩) Y.length cy], .bool true] u fun e w' => e = .returned (.bool (risB Y && rgtB X Y)) ∧ Below u.heap.size u w' := RT
  generalize ndB Y = r at *
  have d3 : (r != r) = false := by simp
  obtain ⟨mn, hmn⟩ : ∃ mn, mn = mnP Y Y.length := ⟨_, rfl⟩
  obtain ⟨mx, hmx⟩ : ∃ mx, mx = mxP Y Y.length := ⟨_, rfl⟩
  rw [← hmn, ← hmx] at BD
  replace hmn := Lib.hid hmn
  replace hmx := Lib.hid hmx
  cases hrs : (risB Y && rgtB X Y)
  case false =>
    rw [hrs] at RT
    have BK := Lib.hid (fun u (h : Below (w.heap.size + 1) V u) => cback_no ax (some ⟨b2, o2, none⟩) cx cy X Y u (hx.below (W u h)) (hy.below (W u h)) hX hY hrs)
    replace CR := Lib.hid CR
    replace BD := Lib.hid BD
    replace RF := Lib.hid RF
    replace RT := Lib.hid RT
    replace RG := Lib.hid RG
    clear hX hY W hx hy hg hrs g1 g2 g3 m1 m2 m3 RY
    replace hb0 := Lib.hid hb0
    replace hz := Lib.hid hz
    replace hcs := Lib.hid hcs
    replace eV := Lib.hid eV
    go_enter Try.func4, Try.ntmps4
    go_wp2_with fail
    rw [← eV.out]
    obtain ⟨k0, k1⟩ := hcs.out _ (Below.refl _ _)
    go_wp2_with fail
    refine (GR.out _).mono ?_
    rintro e w1 ⟨rfl, hb1⟩
    have hb1 := (Below.refl (w.heap.size + 1) V).trans (hb1.mono (Nat.le_of_eq hz.out.symm))
    obtain ⟨k0, k1⟩ := hcs.out _ hb1
    go_wp2_with fail
    refine (BK.out _ hb1).mono ?_
    rintro e w2 ⟨rfl, hb2⟩
    have hb2 := hb1.trans (hb2.mono (by have := hb1.size; have := hz.out; omega))
    obtain ⟨k0, k1⟩ := hcs.out _ hb2
    go_upto_region 4 with (fail)
    obtain ⟨V1, eV1, hm0, hz1, hcs1⟩ := crv_box w2 none none 0 0 [] []
    replace eV1 : V1 = (w2.alloc (.cells #[.slice none 0 0, .slice none 0 0] 24)) := eV1
    replace hcs1 : ∀ u, Below (w2.heap.size + 1) V1 u → u.cell? ⟨w2.heap.size, 0, none⟩ = some (.slice none 0 0) ∧ u.cell? ⟨w2.heap.size, 1, none⟩ = some (.slice none 0 0) := hcs1
    have hb3 := hb2.trans (hm0.mono (by have := hb2.size; have := hz.out; omega))
    replace eV1 := Lib.hid eV1
    rw [← eV1.out]
    obtain ⟨k0, k1⟩ := hcs.out _ hb3
    obtain ⟨j0, j1⟩ := hcs1 _ (Below.refl _ _)
    clear hb2
    have hmv := Lib.hid hm0
    clear hm0
    have hm3 := Below.refl (w2.heap.size + 1) V1
    have hs3 := Lib.hid (show w.heap.size + 1 ≤ w2.heap.size + 1 ∧ V1.heap.size = w2.heap.size + 1 from ⟨by have := hb3.size; have := hz.out; omega, hz1⟩)
    clear hz1
    replace hcs1 := Lib.hid hcs1
    go_wp2_with fail
    refine (BD.out _ (hb3)).mono ?_
    rintro e w4 ⟨rfl, hb4⟩
    have hm4 := hm3.trans (hb4.mono (by have := hm3.size; have := hs3.out.2; omega))
    have hb4 := hb3.trans (hb4.mono (by have := hb3.size; have := hz.out; omega))
    clear hb3 hm3
    obtain ⟨k0, k1⟩ := hcs.out _ hb4
    obtain ⟨j0, j1⟩ := hcs1.out _ hm4
    go_wp2_with fail
    refine region_moves (fun u => u.cell? ⟨w.heap.size, 0, none⟩ = some (.slice ax X.length cx) ∧ u.cell? ⟨w.heap.size, 1, none⟩ = some (.slice (some ⟨b2, o2, none⟩) Y.length cy)) [] [(.take, 0), (.take, 2), (.step, 1), (.step, 3), (.free, 4), (.free, 5), (.free, 6), (.take, 7), (.step, 8), (.free, 9), (.free, 10), (.free, 11), (.free, 12), (.take, 13), (.step, 14), (.free, 15), (.free, 16)] _ (by kernel_rfl) (by kernel_rfl) (by kernel_rfl) (by kernel_rfl) (by decide) rfl (fun _ _ _ _ _ h => h) ?_
    simp only [List.filterMap_cons, List.filterMap_nil, List.getElem?_toArray, List.getElem?_cons_zero, List.getElem?_cons_succ, Option.map_some]
    iterate 2
      first
        | (refine mv_take ?_ (Or.inl ⟨by rfl, ?_⟩) (⟨k0, k1⟩) ?_
           rotate_left 1
           · intro u hu
             (try dsimp only at hu)
             go_simp
             try with_reducible rfl
           simp only [Act.put, List.setIfInBounds_toArray, List.set_cons_zero, List.set_cons_succ])
        | (refine mv_take _ (Or.inr ⟨by rfl, rfl⟩) (⟨k0, k1⟩) ?_
           simp only [Act.put, List.setIfInBounds_toArray, List.set_cons_zero, List.set_cons_succ])
    refine mv_step (fun K hK => ?_)
    go_simp
    refine (CR.out _ (hb4.drew)).mono ?_
    rintro e w5 ⟨rfl, hb5⟩
    have hm5 := hm4.drew.trans (hb5.mono (by have := hm4.size; have := hs3.out.2; show _ ≤ w4.heap.size; omega))
    have hb5 := hb4.drew.trans (hb5.mono (by have := hb4.size; have := hz.out; show _ ≤ w4.heap.size; omega))
    clear hb4 hm4
    obtain ⟨k0, k1⟩ := hcs.out _ hb5
    obtain ⟨j0, j1⟩ := hcs1.out _ hm5
    go_wp2_with fail
    refine hK.out _ _ _ (fun u hu => hu) (⟨k0, k1⟩) ?_
    clear hK K
    refine mv_step (fun K hK => ?_)
    go_simp
    refine (RF.out _ (hb5)).mono ?_
    rintro e w6 ⟨rfl, hb6⟩
    have hm6 := hm5.trans (hb6.mono (by have := hm5.size; have := hs3.out.2; omega))
    have hb6 := hb5.trans (hb6.mono (by have := hb5.size; have := hz.out; omega))
    clear hb5 hm5
    obtain ⟨k0, k1⟩ := hcs.out _ hb6
    obtain ⟨j0, j1⟩ := hcs1.out _ hm6
    go_wp2_with fail
    refine hK.out _ _ _ (fun u hu => hu) (⟨k0, k1⟩) ?_
    clear hK K
    iterate 3
      first
        | (refine mv_free ?_ (Or.inl ⟨by rfl, ?_⟩) (⟨k0, k1⟩) ?_
           rotate_left 1
           · intro u
             go_simp
             try simp only [d1]
             try simp only [d2]
             try simp only [d3]
             try simp only [d4]
             try with_reducible rfl
           simp only [Act.put, List.setIfInBounds_toArray, List.set_cons_zero, List.set_cons_succ])
        | (refine mv_free _ (Or.inr ⟨by rfl, rfl⟩) (⟨k0, k1⟩) ?_
           simp only [Act.put, List.setIfInBounds_toArray, List.set_cons_zero, List.set_cons_succ])
    iterate 1
      first
        | (refine mv_take ?_ (Or.inl ⟨by rfl, ?_⟩) (⟨k0, k1⟩) ?_
           rotate_left 1
           · intro u hu
             (try dsimp only at hu)
             go_simp
             try with_reducible rfl
           simp only [Act.put, List.setIfInBounds_toArray, List.set_cons_zero, List.set_cons_succ])
        | (refine mv_take _ (Or.inr ⟨by rfl, rfl⟩) (⟨k0, k1⟩) ?_
           simp only [Act.put, List.setIfInBounds_toArray, List.set_cons_zero, List.set_cons_succ])
    refine mv_step (fun K hK => ?_)
    go_simp
    refine (RT.out _ (hb6)).mono ?_
    rintro e w7 ⟨rfl, hb7⟩
    have hm7 := hm6.trans (hb7.mono (by have := hm6.size; have := hs3.out.2; omega))
    have hb7 := hb6.trans (hb7.mono (by have := hb6.size; have := hz.out; omega))
    clear hb6 hm6
    obtain ⟨k0, k1⟩ := hcs.out _ hb7
    obtain ⟨j0, j1⟩ := hcs1.out _ hm7
    go_wp2_with fail
    refine hK.out _ _ _ (fun u hu => hu) (⟨k0, k1⟩) ?_
    clear hK K
    iterate 4
      first
        | (refine mv_free ?_ (Or.inl ⟨by rfl, ?_⟩) (⟨k0, k1⟩) ?_
           rotate_left 1
           · intro u
             go_simp
             try simp only [d1]
             try simp only [d2]
             try simp only [d3]
             try simp only [d4]
             try with_reducible rfl
           simp only [Act.put, List.setIfInBounds_toArray, List.set_cons_zero, List.set_cons_succ])
        | (refine mv_free _ (Or.inr ⟨by rfl, rfl⟩) (⟨k0, k1⟩) ?_
           simp only [Act.put, List.setIfInBounds_toArray, List.set_cons_zero, List.set_cons_succ])
    iterate 1
      first
        | (refine mv_take ?_ (Or.inl ⟨by rfl, ?_⟩) (⟨k0, k1⟩) ?_
           rotate_left 1
           · intro u hu
             (try dsimp only at hu)
             go_simp
             try with_reducible rfl
           simp only [Act.put, List.setIfInBounds_toArray, List.set_cons_zero, List.set_cons_succ])
        | (refine mv_take _ (Or.inr ⟨by rfl, rfl⟩) (⟨k0, k1⟩) ?_
           simp only [Act.put, List.setIfInBounds_toArray, List.set_cons_zero, List.set_cons_succ])
    refine mv_step (fun K hK => ?_)
    go_simp
    refine (RG.out _ (hb7)).mono ?_
    rintro e w8 ⟨rfl, hb8⟩
    have hm8 := hm7.trans (hb8.mono (by have := hm7.size; have := hs3.out.2; omega))
    have hb8 := hb7.trans (hb8.mono (by have := hb7.size; have := hz.out; omega))
    clear hb7 hm7
    obtain ⟨k0, k1⟩ := hcs.out _ hb8
    obtain ⟨j0, j1⟩ := hcs1.out _ hm8
    go_wp2_with fail
    refine hK.out _ _ _ (fun u hu => hu) (⟨k0, k1⟩) ?_
    clear hK K
    iterate 2
      first
        | (refine mv_free ?_ (Or.inl ⟨by rfl, ?_⟩) (⟨k0, k1⟩) ?_
           rotate_left 1
           · intro u
             go_simp
             try simp only [d1]
             try simp only [d2]
             try simp only [d3]
             try simp only [d4]
             try with_reducible rfl
           simp only [Act.put, List.setIfInBounds_toArray, List.set_cons_zero, List.set_cons_succ])
        | (refine mv_free _ (Or.inr ⟨by rfl, rfl⟩) (⟨k0, k1⟩) ?_
           simp only [Act.put, List.setIfInBounds_toArray, List.set_cons_zero, List.set_cons_succ])
    refine mv_done ?_
    have j0 : w8.cell? ⟨w2.heap.size, 0, none⟩ = some (.slice none 0 0) := j0
    have j1 : w8.cell? ⟨w2.heap.size, 1, none⟩ = some (.slice none 0 0) := j1
    go_wp2_with fail
    have c0 := GY.out _ hb8 0 n0.out
    rw [Nat.add_zero] at c0
    have z0 : (0 : Int) < (Y.length : Int) := n1.out
    have z1 : 0 < Y.length := n0.out
    have z2 : Y ≠ [] := List.ne_nil_of_length_pos n0.out
    have z3 : (2 : Int) ≤ (Y.length : Int) := n2.out
    have hmn0 := Lib.hid (show mnP Y 0 = Y.getD 0 0 from rfl)
    have hmx0 := Lib.hid (show mxP Y 0 = Y.getD 0 0 from rfl)
    generalize Y.getD 0 0 = p0 at *
    refine region_still [] [(.free, 0), (.take, 1), (.free, 2), (.take, 3), (.free, 4), (.take, 5), (.free, 6), (.take, 7), (.free, 8), (.free, 9)] _ (by kernel_rfl) (by kernel_rfl) (by kernel_rfl) (by kernel_rfl) (by decide) rfl (fun _ _ _ _ _ h => h) ?_
    simp only [List.filterMap_cons, List.filterMap_nil, List.getElem?_toArray, List.getElem?_cons_zero, List.getElem?_cons_succ, Option.map_some]
    iterate 1
      first
        | (refine mv_free ?_ (Or.inl ⟨by rfl, ?_⟩) (rfl) ?_
           rotate_left 1
           · intro u
             go_simp
             try simp only [d1]
             try simp only [d2]
             try simp only [d3]
             try simp only [d4]
             try with_reducible rfl
           simp only [Act.put, List.setIfInBounds_toArray, List.set_cons_zero, List.set_cons_succ])
        | (refine mv_free _ (Or.inr ⟨by rfl, rfl⟩) (rfl) ?_
           simp only [Act.put, List.setIfInBounds_toArray, List.set_cons_zero, List.set_cons_succ])
    iterate 1
      first
        | (refine mv_take ?_ (Or.inl ⟨by rfl, ?_⟩) (rfl) ?_
           rotate_left 1
           · intro u hu
             (try dsimp only at hu)
             go_simp
             try with_reducible rfl
           simp only [Act.put, List.setIfInBounds_toArray, List.set_cons_zero, List.set_cons_succ])
        | (refine mv_take _ (Or.inr ⟨by rfl, rfl⟩) (rfl) ?_
           simp only [Act.put, List.setIfInBounds_toArray, List.set_cons_zero, List.set_cons_succ])
    iterate 1
      first
        | (refine mv_free ?_ (Or.inl ⟨by rfl, ?_⟩) (rfl) ?_
           rotate_left 1
           · intro u
             go_simp
             try simp only [d1]
             try simp only [d2]
             try simp only [d3]
             try simp only [d4]
             try with_reducible rfl
           simp only [Act.put, List.setIfInBounds_toArray, List.set_cons_zero, List.set_cons_succ])
        | (refine mv_free _ (Or.inr ⟨by rfl, rfl⟩) (rfl) ?_
           simp only [Act.put, List.setIfInBounds_toArray, List.set_cons_zero, List.set_cons_succ])
    iterate 1
      first
        | (refine mv_take ?_ (Or.inl ⟨by rfl, ?_⟩) (rfl) ?_
           rotate_left 1
           · intro u hu
             (try dsimp only at hu)
             go_simp
             try with_reducible rfl
           simp only [Act.put, List.setIfInBounds_toArray, List.set_cons_zero, List.set_cons_succ])
        | (refine mv_take _ (Or.inr ⟨by rfl, rfl⟩) (rfl) ?_
           simp only [Act.put, List.setIfInBounds_toArray, List.set_cons_zero, List.set_cons_succ])
    iterate 1
      first
        | (refine mv_free ?_ (Or.inl ⟨by rfl, ?_⟩) (rfl) ?_
           rotate_left 1
           · intro u
             go_simp
             try simp only [d1]
             try simp only [d2]
             try simp only [d3]
             try simp only [d4]
             try with_reducible rfl
           simp only [Act.put, List.setIfInBounds_toArray, List.set_cons_zero, List.set_cons_succ])
        | (refine mv_free _ (Or.inr ⟨by rfl, rfl⟩) (rfl) ?_
           simp only [Act.put, List.setIfInBounds_toArray, List.set_cons_zero, List.set_cons_succ])
    iterate 1
      first
        | (refine mv_take ?_ (Or.inl ⟨by rfl, ?_⟩) (rfl) ?_
           rotate_left 1
           · intro u hu
             (try dsimp only at hu)
             go_simp
             try with_reducible rfl
           simp only [Act.put, List.setIfInBounds_toArray, List.set_cons_zero, List.set_cons_succ])
        | (refine mv_take _ (Or.inr ⟨by rfl, rfl⟩) (rfl) ?_
           simp only [Act.put, List.setIfInBounds_toArray, List.set_cons_zero, List.set_cons_succ])
    iterate 1
      first
        | (refine mv_free ?_ (Or.inl ⟨by rfl, ?_⟩) (rfl) ?_
           rotate_left 1
           · intro u
             go_simp
             try simp only [d1]
             try simp only [d2]
             try simp only [d3]
             try simp only [d4]
             try with_reducible rfl
           simp only [Act.put, List.setIfInBounds_toArray, List.set_cons_zero, List.set_cons_succ])
        | (refine mv_free _ (Or.inr ⟨by rfl, rfl⟩) (rfl) ?_
           simp only [Act.put, List.setIfInBounds_toArray, List.set_cons_zero, List.set_cons_succ])
    iterate 1
      first
        | (refine mv_take ?_ (Or.inl ⟨by rfl, ?_⟩) (rfl) ?_
           rotate_left 1
           · intro u hu
             (try dsimp only at hu)
             go_simp
             try with_reducible rfl
           simp only [Act.put, List.setIfInBounds_toArray, List.set_cons_zero, List.set_cons_succ])
        | (refine mv_take _ (Or.inr ⟨by rfl, rfl⟩) (rfl) ?_
           simp only [Act.put, List.setIfInBounds_toArray, List.set_cons_zero, List.set_cons_succ])
    iterate 2
      first
        | (refine mv_free ?_ (Or.inl ⟨by rfl, ?_⟩) (rfl) ?_
           rotate_left 1
           · intro u
             go_simp
             try simp only [d1]
             try simp only [d2]
             try simp only [d3]
             try simp only [d4]
             try with_reducible rfl
           simp only [Act.put, List.setIfInBounds_toArray, List.set_cons_zero, List.set_cons_succ])
        | (refine mv_free _ (Or.inr ⟨by rfl, rfl⟩) (rfl) ?_
           simp only [Act.put, List.setIfInBounds_toArray, List.set_cons_zero, List.set_cons_succ])
    refine mv_done ?_
    go_wp2
    go_loopw [8, 9, 10] (fun m n i v => ∃ j : Nat, j ≤ Y.length ∧ m = .int .i64 (mnP Y j) ∧ n = .int .i64 (mxP Y j) ∧ i = .int .i64 (j : Int) ∧ Below (w.heap.size + 1) V v) (fun m n i _ => Y.length - (intOf i).toNat)
    case atStart => exact ⟨0, by omega, by rw [hmn0.out], by rw [hmx0.out], rfl, hb8.drew⟩
    case round =>
      clear c0 z0 z1 z2 z3 k0 k1 j0 j1 hm8 hb8
      obtain ⟨j, hj, rfl, rfl, rfl, hb⟩ := hrel
      obtain ⟨k0, k1⟩ := hcs.out _ hb
      by_cases hlt : j < Y.length
      · have c1 := GY.out _ hb j hlt
        have hlt1 : (j : Int) < (Y.length : Int) := by omega
        have hlt0 : 0 ≤ (j : Int) := by omega
        have hjb := n3.out
        generalize hp : mnP Y j = p at *
        generalize hq : mxP Y j = q at *
        generalize hr : Y.getD j 0 = r at *
        replace hp := Lib.hid hp
        replace hq := Lib.hid hq
        replace hr := Lib.hid hr
        go_wp2
        go_roundw
        case rel => exact ⟨j + 1, by omega, by show Value.int _ _ = Value.int _ (min (mnP Y j) (Y.getD j 0)); rw [hp.out, hr.out], by show Value.int _ _ = Value.int _ (max (mxP Y j) (Y.getD j 0)); rw [hq.out, hr.out], by go_num, hb⟩
        case measure => simp [intOf]; omega
      · have hge : (Y.length : Int) ≤ (j : Int) := by omega
        have e : j = Y.length := by omega
        rw [e, ← hmn.out, ← hmx.out]
        replace e := 0
        have d1 : (mn == mn) = true := by simp
        have d2 : (mx == mx) = true := by simp
        go_wp2_with fail
        refine (LV.out _).mono ?_
        rintro e w20 ⟨rfl, hb20⟩
        have hb20 := hb.trans (hb20.mono (by have := hb.size; have := hz.out; omega))
        go_wp2
        go_ret
        exact ⟨rfl, hb0.out.trans (hb20.mono (by omega))⟩
  case true =>
    rw [hrs] at RT
    have hrs' : risB Y = true := by rw [hg, Bool.and_true] at hrs; exact hrs
    have BK := Lib.hid (fun u (h : Below (w.heap.size + 1) V u) => cback_ok ax (some ⟨b2, o2, none⟩) cx cy X Y u (hx.below (W u h)) (hy.below (W u h)) hX hY hrs' hg)
    have SM := Lib.hid (fun a b c d u (h : Below (w.heap.size + 1) V u) ha hb => rsame5_any a b (some ⟨b2, o2, none⟩) ax c d cy cx Y X u ha hb (hy.below (W u h)) (hx.below (W u h)) (by omega) (by omega) hY hX)
    replace CR := Lib.hid CR
    replace BD := Lib.hid BD
    replace RF := Lib.hid RF
    replace RT := Lib.hid RT
    replace RG := Lib.hid RG
    clear hX hY W hx hy hg hrs hrs' g1 g2 g3 m1 m2 m3 RY
    replace hb0 := Lib.hid hb0
    replace hz := Lib.hid hz
    replace hcs := Lib.hid hcs
    replace eV := Lib.hid eV
    go_enter Try.func4, Try.ntmps4
    go_wp2_with fail
    rw [← eV.out]
    obtain ⟨k0, k1⟩ := hcs.out _ (Below.refl _ _)
    go_wp2_with fail
    refine (GR.out _).mono ?_
    rintro e w1 ⟨rfl, hb1⟩
    have hb1 := (Below.refl (w.heap.size + 1) V).trans (hb1.mono (Nat.le_of_eq hz.out.symm))
    obtain ⟨k0, k1⟩ := hcs.out _ hb1
    go_wp2_with fail
    refine (BK.out _ hb1).mono ?_
    rintro e w2 ⟨p1, s1, p2, s2, rfl, r1, r2, hb2⟩
    have hb2 := hb1.trans (hb2.mono (by have := hb1.size; have := hz.out; omega))
    obtain ⟨k0, k1⟩ := hcs.out _ hb2
    replace r1 := Lib.hid r1
    replace r2 := Lib.hid r2
    go_upto_region 4 with (fail)
    obtain ⟨V1, eV1, hm0, hz1, hcs1⟩ := crv_box w2 (some ⟨p1, 0, none⟩) (some ⟨p2, 0, none⟩) s1 s2 Y X
    have hb3 := hb2.trans (hm0.mono (by have := hb2.size; have := hz.out; omega))
    replace eV1 := Lib.hid eV1
    rw [← eV1.out]
    obtain ⟨k0, k1⟩ := hcs.out _ hb3
    obtain ⟨j0, j1⟩ := hcs1 _ (Below.refl _ _)
    have r3 := r1.out.below hm0
    have r4 := r2.out.below hm0
    replace r1 := Lib.hid (fun u (h : Below (w2.heap.size + 1) V1 u) => r3.below (h.mono (by rw [hz1]; exact Nat.le_refl _)))
    replace r2 := Lib.hid (fun u (h : Below (w2.heap.size + 1) V1 u) => r4.below (h.mono (by rw [hz1]; exact Nat.le_refl _)))
    clear r3 r4
    clear hb2
    have hmv := Lib.hid hm0
    clear hm0
    have hm3 := Below.refl (w2.heap.size + 1) V1
    have hs3 := Lib.hid (show w.heap.size + 1 ≤ w2.heap.size + 1 ∧ V1.heap.size = w2.heap.size + 1 from ⟨by have := hb3.size; have := hz.out; omega, hz1⟩)
    clear hz1
    replace hcs1 := Lib.hid hcs1
    go_wp2_with fail
    refine (BD.out _ (hb3)).mono ?_
    rintro e w4 ⟨rfl, hb4⟩
    have hm4 := hm3.trans (hb4.mono (by have := hm3.size; have := hs3.out.2; omega))
    have hb4 := hb3.trans (hb4.mono (by have := hb3.size; have := hz.out; omega))
    clear hb3 hm3
    obtain ⟨k0, k1⟩ := hcs.out _ hb4
    obtain ⟨j0, j1⟩ := hcs1.out _ hm4
    go_wp2_with fail
    refine region_moves (fun u => u.cell? ⟨w.heap.size, 0, none⟩ = some (.slice ax X.length cx) ∧ u.cell? ⟨w.heap.size, 1, none⟩ = some (.slice (some ⟨b2, o2, none⟩) Y.length cy)) [] [(.take, 0), (.take, 2), (.step, 1), (.step, 3), (.free, 4), (.free, 5), (.free, 6), (.take, 7), (.step, 8), (.free, 9), (.free, 10), (.free, 11), (.free, 12), (.take, 13), (.step, 14), (.free, 15), (.free, 16)] _ (by kernel_rfl) (by kernel_rfl) (by kernel_rfl) (by kernel_rfl) (by decide) rfl (fun _ _ _ _ _ h => h) ?_
    simp only [List.filterMap_cons, List.filterMap_nil, List.getElem?_toArray, List.getElem?_cons_zero, List.getElem?_cons_succ, Option.map_some]
    iterate 2
      first
        | (refine mv_take ?_ (Or.inl ⟨by rfl, ?_⟩) (⟨k0, k1⟩) ?_
           rotate_left 1
           · intro u hu
             (try dsimp only at hu)
             go_simp
             try with_reducible rfl
           simp only [Act.put, List.setIfInBounds_toArray, List.set_cons_zero, List.set_cons_succ])
        | (refine mv_take _ (Or.inr ⟨by rfl, rfl⟩) (⟨k0, k1⟩) ?_
           simp only [Act.put, List.setIfInBounds_toArray, List.set_cons_zero, List.set_cons_succ])
    refine mv_step (fun K hK => ?_)
    go_simp
    refine (CR.out _ (hb4.drew)).mono ?_
    rintro e w5 ⟨rfl, hb5⟩
    have hm5 := hm4.drew.trans (hb5.mono (by have := hm4.size; have := hs3.out.2; show _ ≤ w4.heap.size; omega))
    have hb5 := hb4.drew.trans (hb5.mono (by have := hb4.size; have := hz.out; show _ ≤ w4.heap.size; omega))
    clear hb4 hm4
    obtain ⟨k0, k1⟩ := hcs.out _ hb5
    obtain ⟨j0, j1⟩ := hcs1.out _ hm5
    go_wp2_with fail
    refine hK.out _ _ _ (fun u hu => hu) (⟨k0, k1⟩) ?_
    clear hK K
    refine mv_step (fun K hK => ?_)
    go_simp
    refine (RF.out _ (hb5)).mono ?_
    rintro e w6 ⟨rfl, hb6⟩
    have hm6 := hm5.trans (hb6.mono (by have := hm5.size; have := hs3.out.2; omega))
    have hb6 := hb5.trans (hb6.mono (by have := hb5.size; have := hz.out; omega))
    clear hb5 hm5
    obtain ⟨k0, k1⟩ := hcs.out _ hb6
    obtain ⟨j0, j1⟩ := hcs1.out _ hm6
    go_wp2_with fail
    refine hK.out _ _ _ (fun u hu => hu) (⟨k0, k1⟩) ?_
    clear hK K
    iterate 3
      first
        | (refine mv_free ?_ (Or.inl ⟨by rfl, ?_⟩) (⟨k0, k1⟩) ?_
           rotate_left 1
           · intro u
             go_simp
             try simp only [d1]
             try simp only [d2]
             try simp only [d3]
             try simp only [d4]
             try with_reducible rfl
           simp only [Act.put, List.setIfInBounds_toArray, List.set_cons_zero, List.set_cons_succ])
        | (refine mv_free _ (Or.inr ⟨by rfl, rfl⟩) (⟨k0, k1⟩) ?_
           simp only [Act.put, List.setIfInBounds_toArray, List.set_cons_zero, List.set_cons_succ])
    iterate 1
      first
        | (refine mv_take ?_ (Or.inl ⟨by rfl, ?_⟩) (⟨k0, k1⟩) ?_
           rotate_left 1
           · intro u hu
             (try dsimp only at hu)
             go_simp
             try with_reducible rfl
           simp only [Act.put, List.setIfInBounds_toArray, List.set_cons_zero, List.set_cons_succ])
        | (refine mv_take _ (Or.inr ⟨by rfl, rfl⟩) (⟨k0, k1⟩) ?_
           simp only [Act.put, List.setIfInBounds_toArray, List.set_cons_zero, List.set_cons_succ])
    refine mv_step (fun K hK => ?_)
    go_simp
    refine (RT.out _ (hb6)).mono ?_
    rintro e w7 ⟨rfl, hb7⟩
    have hm7 := hm6.trans (hb7.mono (by have := hm6.size; have := hs3.out.2; omega))
    have hb7 := hb6.trans (hb7.mono (by have := hb6.size; have := hz.out; omega))
    clear hb6 hm6
    obtain ⟨k0, k1⟩ := hcs.out _ hb7
    obtain ⟨j0, j1⟩ := hcs1.out _ hm7
    go_wp2_with fail
    refine hK.out _ _ _ (fun u hu => hu) (⟨k0, k1⟩) ?_
    clear hK K
    iterate 4
      first
        | (refine mv_free ?_ (Or.inl ⟨by rfl, ?_⟩) (⟨k0, k1⟩) ?_
           rotate_left 1
           · intro u
             go_simp
             try simp only [d1]
             try simp only [d2]
             try simp only [d3]
             try simp only [d4]
             try with_reducible rfl
           simp only [Act.put, List.setIfInBounds_toArray, List.set_cons_zero, List.set_cons_succ])
        | (refine mv_free _ (Or.inr ⟨by rfl, rfl⟩) (⟨k0, k1⟩) ?_
           simp only [Act.put, List.setIfInBounds_toArray, List.set_cons_zero, List.set_cons_succ])
    iterate 1
      first
        | (refine mv_take ?_ (Or.inl ⟨by rfl, ?_⟩) (⟨k0, k1⟩) ?_
           rotate_left 1
           · intro u hu
             (try dsimp only at hu)
             go_simp
             try with_reducible rfl
           simp only [Act.put, List.setIfInBounds_toArray, List.set_cons_zero, List.set_cons_succ])
        | (refine mv_take _ (Or.inr ⟨by rfl, rfl⟩) (⟨k0, k1⟩) ?_
           simp only [Act.put, List.setIfInBounds_toArray, List.set_cons_zero, List.set_cons_succ])
    refine mv_step (fun K hK => ?_)
    go_simp
    refine (RG.out _ (hb7)).mono ?_
    rintro e w8 ⟨rfl, hb8⟩
    have hm8 := hm7.trans (hb8.mono (by have := hm7.size; have := hs3.out.2; omega))
    have hb8 := hb7.trans (hb8.mono (by have := hb7.size; have := hz.out; omega))
    clear hb7 hm7
    obtain ⟨k0, k1⟩ := hcs.out _ hb8
    obtain ⟨j0, j1⟩ := hcs1.out _ hm8
    go_wp2_with fail
    refine hK.out _ _ _ (fun u hu => hu) (⟨k0, k1⟩) ?_
    clear hK K
    iterate 2
      first
        | (refine mv_free ?_ (Or.inl ⟨by rfl, ?_⟩) (⟨k0, k1⟩) ?_
           rotate_left 1
           · intro u
             go_simp
             try simp only [d1]
             try simp only [d2]
             try simp only [d3]
             try simp only [d4]
             try with_reducible rfl
           simp only [Act.put, List.setIfInBounds_toArray, List.set_cons_zero, List.set_cons_succ])
        | (refine mv_free _ (Or.inr ⟨by rfl, rfl⟩) (⟨k0, k1⟩) ?_
           simp only [Act.put, List.setIfInBounds_toArray, List.set_cons_zero, List.set_cons_succ])
    refine mv_done ?_
    go_wp2_with fail
    refine (SM.out _ _ _ _ _ (hb8) (r1.out _ hm8) (r2.out _ hm8)).mono ?_
    rintro e w9 ⟨rfl, hb9⟩
    have hm9 := hm8.trans (hb9.mono (by have := hm8.size; have := hs3.out.2; omega))
    have hb9 := hb8.trans (hb9.mono (by have := hb8.size; have := hz.out; omega))
    clear hb8 hm8
    obtain ⟨k0, k1⟩ := hcs.out _ hb9
    obtain ⟨j0, j1⟩ := hcs1.out _ hm9
    go_wp2_with fail
    have c0 := GY.out _ hb9 0 n0.out
    rw [Nat.add_zero] at c0
    have z0 : (0 : Int) < (Y.length : Int) := n1.out
    have z1 : 0 < Y.length := n0.out
    have z2 : Y ≠ [] := List.ne_nil_of_length_pos n0.out
    have z3 : (2 : Int) ≤ (Y.length : Int) := n2.out
    have hmn0 := Lib.hid (show mnP Y 0 = Y.getD 0 0 from rfl)
    have hmx0 := Lib.hid (show mxP Y 0 = Y.getD 0 0 from rfl)
    generalize Y.getD 0 0 = p0 at *
    refine region_still [] [(.free, 0), (.take, 1), (.free, 2), (.take, 3), (.free, 4), (.take, 5), (.free, 6), (.take, 7), (.free, 8), (.free, 9)] _ (by kernel_rfl) (by kernel_rfl) (by kernel_rfl) (by kernel_rfl) (by decide) rfl (fun _ _ _ _ _ h => h) ?_
    simp only [List.filterMap_cons, List.filterMap_nil, List.getElem?_toArray, List.getElem?_cons_zero, List.getElem?_cons_succ, Option.map_some]
    iterate 1
      first
        | (refine mv_free ?_ (Or.inl ⟨by rfl, ?_⟩) (rfl) ?_
           rotate_left 1
           · intro u
             go_simp
             try simp only [d1]
             try simp only [d2]
             try simp only [d3]
             try simp only [d4]
             try with_reducible rfl
           simp only [Act.put, List.setIfInBounds_toArray, List.set_cons_zero, List.set_cons_succ])
        | (refine mv_free _ (Or.inr ⟨by rfl, rfl⟩) (rfl) ?_
           simp only [Act.put, List.setIfInBounds_toArray, List.set_cons_zero, List.set_cons_succ])
    iterate 1
      first
        | (refine mv_take ?_ (Or.inl ⟨by rfl, ?_⟩) (rfl) ?_
           rotate_left 1
           · intro u hu
             (try dsimp only at hu)
             go_simp
             try with_reducible rfl
           simp only [Act.put, List.setIfInBounds_toArray, List.set_cons_zero, List.set_cons_succ])
        | (refine mv_take _ (Or.inr ⟨by rfl, rfl⟩) (rfl) ?_
           simp only [Act.put, List.setIfInBounds_toArray, List.set_cons_zero, List.set_cons_succ])
    iterate 1
      first
        | (refine mv_free ?_ (Or.inl ⟨by rfl, ?_⟩) (rfl) ?_
           rotate_left 1
           · intro u
             go_simp
             try simp only [d1]
             try simp only [d2]
             try simp only [d3]
             try simp only [d4]
             try with_reducible rfl
           simp only [Act.put, List.setIfInBounds_toArray, List.set_cons_zero, List.set_cons_succ])
        | (refine mv_free _ (Or.inr ⟨by rfl, rfl⟩) (rfl) ?_
           simp only [Act.put, List.setIfInBounds_toArray, List.set_cons_zero, List.set_cons_succ])
    iterate 1
      first
        | (refine mv_take ?_ (Or.inl ⟨by rfl, ?_⟩) (rfl) ?_
           rotate_left 1
           · intro u hu
             (try dsimp only at hu)
             go_simp
             try with_reducible rfl
           simp only [Act.put, List.setIfInBounds_toArray, List.set_cons_zero, List.set_cons_succ])
        | (refine mv_take _ (Or.inr ⟨by rfl, rfl⟩) (rfl) ?_
           simp only [Act.put, List.setIfInBounds_toArray, List.set_cons_zero, List.set_cons_succ])
    iterate 1
      first
        | (refine mv_free ?_ (Or.inl ⟨by rfl, ?_⟩) (rfl) ?_
           rotate_left 1
           · intro u
             go_simp
             try simp only [d1]
             try simp only [d2]
             try simp only [d3]
             try simp only [d4]
             try with_reducible rfl
           simp only [Act.put, List.setIfInBounds_toArray, List.set_cons_zero, List.set_cons_succ])
        | (refine mv_free _ (Or.inr ⟨by rfl, rfl⟩) (rfl) ?_
           simp only [Act.put, List.setIfInBounds_toArray, List.set_cons_zero, List.set_cons_succ])
    iterate 1
      first
        | (refine mv_take ?_ (Or.inl ⟨by rfl, ?_⟩) (rfl) ?_
           rotate_left 1
           · intro u hu
             (try dsimp only at hu)
             go_simp
             try with_reducible rfl
           simp only [Act.put, List.setIfInBounds_toArray, List.set_cons_zero, List.set_cons_succ])
        | (refine mv_take _ (Or.inr ⟨by rfl, rfl⟩) (rfl) ?_
           simp only [Act.put, List.setIfInBounds_toArray, List.set_cons_zero, List.set_cons_succ])
    iterate 1
      first
        | (refine mv_free ?_ (Or.inl ⟨by rfl, ?_⟩) (rfl) ?_
           rotate_left 1
           · intro u
             go_simp
             try simp only [d1]
             try simp only [d2]
             try simp only [d3]
             try simp only [d4]
             try with_reducible rfl
           simp only [Act.put, List.setIfInBounds_toArray, List.set_cons_zero, List.set_cons_succ])
        | (refine mv_free _ (Or.inr ⟨by rfl, rfl⟩) (rfl) ?_
           simp only [Act.put, List.setIfInBounds_toArray, List.set_cons_zero, List.set_cons_succ])
    iterate 1
      first
        | (refine mv_take ?_ (Or.inl ⟨by rfl, ?_⟩) (rfl) ?_
           rotate_left 1
           · intro u hu
             (try dsimp only at hu)
             go_simp
             try with_reducible rfl
           simp only [Act.put, List.setIfInBounds_toArray, List.set_cons_zero, List.set_cons_succ])
        | (refine mv_take _ (Or.inr ⟨by rfl, rfl⟩) (rfl) ?_
           simp only [Act.put, List.setIfInBounds_toArray, List.set_cons_zero, List.set_cons_succ])
    iterate 2
      first
        | (refine mv_free ?_ (Or.inl ⟨by rfl, ?_⟩) (rfl) ?_
           rotate_left 1
           · intro u
             go_simp
             try simp only [d1]
             try simp only [d2]
             try simp only [d3]
             try simp only [d4]
             try with_reducible rfl
           simp only [Act.put, List.setIfInBounds_toArray, List.set_cons_zero, List.set_cons_succ])
        | (refine mv_free _ (Or.inr ⟨by rfl, rfl⟩) (rfl) ?_
           simp only [Act.put, List.setIfInBounds_toArray, List.set_cons_zero, List.set_cons_succ])
    refine mv_done ?_
    go_wp2
    go_loopw [8, 9, 10] (fun m n i v => ∃ j : Nat, j ≤ Y.length ∧ m = .int .i64 (mnP Y j) ∧ n = .int .i64 (mxP Y j) ∧ i = .int .i64 (j : Int) ∧ Below (w.heap.size + 1) V v) (fun m n i _ => Y.length - (intOf i).toNat)
    case atStart => exact ⟨0, by omega, by rw [hmn0.out], by rw [hmx0.out], rfl, hb9.drew⟩
    case round =>
      clear c0 z0 z1 z2 z3 k0 k1 j0 j1 hm9 hb9
      obtain ⟨j, hj, rfl, rfl, rfl, hb⟩ := hrel
      obtain ⟨k0, k1⟩ := hcs.out _ hb
      by_cases hlt : j < Y.length
      · have c1 := GY.out _ hb j hlt
        have hlt1 : (j : Int) < (Y.length : Int) := by omega
        have hlt0 : 0 ≤ (j : Int) := by omega
        have hjb := n3.out
        generalize hp : mnP Y j = p at *
        generalize hq : mxP Y j = q at *
        generalize hr : Y.getD j 0 = r at *
        replace hp := Lib.hid hp
        replace hq := Lib.hid hq
        replace hr := Lib.hid hr
        go_wp2
        go_roundw
        case rel => exact ⟨j + 1, by omega, by show Value.int _ _ = Value.int _ (min (mnP Y j) (Y.getD j 0)); rw [hp.out, hr.out], by show Value.int _ _ = Value.int _ (max (mxP Y j) (Y.getD j 0)); rw [hq.out, hr.out], by go_num, hb⟩
        case measure => simp [intOf]; omega
      · have hge : (Y.length : Int) ≤ (j : Int) := by omega
        have e : j = Y.length := by omega
        rw [e, ← hmn.out, ← hmx.out]
        replace e := 0
        have d1 : (mn == mn) = true := by simp
        have d2 : (mx == mx) = true := by simp
        go_wp2_with fail
        refine (LV.out _).mono ?_
        rintro e w20 ⟨rfl, hb20⟩
        have hb20 := hb.trans (hb20.mono (by have := hb.size; have := hz.out; omega))
        go_wp2
        go_ret
        exact ⟨rfl, hb0.out.trans (hb20.mono (by omega))⟩
end Go.Proofs.Ytmmenpaodofahaa
