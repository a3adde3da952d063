/- The law LiftImpacts, walked. -/
import Derived.Test.YtmmenpaodofahaaLift3
import Derived.Deep.Cut
namespace Go.Proofs.Ytmmenpaodofahaa
open Go.ChangeShapes Go.WideShapes Go.ChangeAt Go.RowKit
set_option linter.unusedVariables false
set_option linter.unusedSimpArgs false
theorem lim_box (w : World) (ax ay : Option Addr) (cx cy : Nat) (X Y : List Int) (a l : Int) (x0 x1 x2 y0 y1 : Int) : ∃ V, V = (((w.alloc (.cells #[.slice ax X.length cx, .slice ay Y.length cy, .int .i64 a, .int .i64 l] 43)).alloc (.cells #[.int .i64 x0, .int .i64 x1, .int .i64 x2] 44)).alloc (.cells #[.int .i64 y0, .int .i64 y1] 39)) ∧ Below w.heap.size w V ∧ V.heap.size = w.heap.size + 3 ∧ ∀ u, Below (w.heap.size + 3) V u → u.cell? ⟨w.heap.size, 0, none⟩ = some (.slice ax X.length cx) ∧ u.cell? ⟨w.heap.size, 1, none⟩ = some (.slice ay Y.length cy) ∧ u.cell? ⟨w.heap.size, 2, none⟩ = some (.int .i64 a) ∧ u.cell? ⟨w.heap.size, 3, none⟩ = some (.int .i64 l) ∧ u.cell? ⟨w.heap.size + 1, 0, none⟩ = some (.int .i64 x0) ∧ u.cell? ⟨w.heap.size + 1, 1, none⟩ = some (.int .i64 x1) ∧ u.cell? ⟨w.heap.size + 1, 2, none⟩ = some (.int .i64 x2) ∧ u.cell? ⟨w.heap.size + 2, 0, none⟩ = some (.int .i64 y0) ∧ u.cell? ⟨w.heap.size + 2, 1, none⟩ = some (.int .i64 y1) :=
  ⟨_, rfl, (by repeat (first | exact Below.refl _ _ | assumption | apply Below.drew | apply below_drewN | (refine Below.alloc ?_ (by first | exact Nat.le_refl _ | omega | (simp <;> omega)) _) | (refine Below.setCell ?_ (by first | exact Nat.le_refl _ | omega | (simp <;> omega)) _))), by simp, fun u hu => ⟨(bc hu (by omega)).trans (by go_simp), (bc hu (by omega)).trans (by go_simp), (bc hu (by omega)).trans (by go_simp), (bc hu (by omega)).trans (by go_simp), (bc hu (by omega)).trans (by go_simp), (bc hu (by omega)).trans (by go_simp), (bc hu (by omega)).trans (by go_simp), (bc hu (by omega)).trans (by go_simp), (bc hu (by omega)).trans (by go_simp)⟩⟩
set_option maxRecDepth 100000 in
set_option maxHeartbeats 8000000 in
theorem law_LiftImpacts (ax ay : Option Addr) (cx cy : Nat) (X Y : List Int) (a l : Int) (x0 x1 x2 y0 y1 : Int) (w : World) (hx : RowIs .i64 w ax X) (hy : RowIs .i64 w ay Y) :
    Calls Try.prog 8 #[.agg #[.slice ax X.length cx, .slice ay Y.length cy, .int .i64 a, .int .i64 l], .agg #[.int .i64 x0, .int .i64 x1, .int .i64 x2], .agg #[.int .i64 y0, .int .i64 y1]] w fun e w' => e = .returned (.bool true) ∧ Below w.heap.size w w' := by
  have LV := Lib.hid (fun u => lives18 u)
  have GR := fun u => lgreat_any ax ay cx cy X Y u
  obtain ⟨V, eV, hb0, hz, hcs⟩ := lim_box w ax ay cx cy X Y a l x0 x1 x2 y0 y1
  have W := fun u (h : Below (w.heap.size + 3) V u) => show Below w.heap.size w u from hb0.trans (h.mono (by omega))
  cases hgr : (decide (300 < X.length) || decide (300 < Y.length))
  case true =>
    rw [hgr] at GR
    replace GR := Lib.hid GR
    clear hgr hx hy
    replace hb0 := Lib.hid hb0
    replace hz := Lib.hid hz
    replace hcs := Lib.hid hcs
    replace eV := Lib.hid eV
    go_enter Try.func8, Try.ntmps8
    go_wp2_with fail
    rw [← eV.out]
    obtain ⟨k0, k1, k2, k3, k4, k5, k6, k7, k8⟩ := hcs.out _ (Below.refl _ _)
    go_wp2_with fail
    refine (GR.out _).mono ?_
    rintro e w1 ⟨rfl, hb1⟩
    have hb1 := (Below.refl (w.heap.size + 3) V).trans (hb1.mono (Nat.le_of_eq hz.out.symm))
    obtain ⟨k0, k1, k2, k3, k4, k5, k6, k7, k8⟩ := hcs.out _ hb1
    go_wp2_with fail
    refine (LV.out _).mono ?_
    rintro e w2 ⟨rfl, hb2⟩
    have hb2 := hb1.trans (hb2.mono (by have := hb1.size; have := hz.out; omega))
    clear hb1
    go_wp2
    go_ret
    exact ⟨rfl, hb0.out.trans (hb2.mono (by omega))⟩
  rw [hgr] at GR
  replace GR := Lib.hid GR
  have hX : X.length ≤ 300 := by simp at hgr; omega
  have hY : Y.length ≤ 300 := by simp at hgr; omega
  clear hgr
  have LI := Lib.hid (fun u => limp2 y0 y1 u)
  have RI := Lib.hid (fun u => rimp18 y0 y1 u)
  have SY := fun u (h : Below (w.heap.size + 3) V u) => lsyn2 ax ay cx cy X Y a l x0 x1 x2 y1 u (hx.below (W u h)) (hy.below (W u h)) hX hY
  have RD := fun u (h : Below (w.heap.size + 3) V u) => rdynamic18 ax ay cx cy X Y a l x0 x1 x2 u (hx.below (W u h)) (hy.below (W u h)) hX hY
  unfold sQ sE at SY
  have RJ := Lib.hid (fun u => rimp18 (lQ X Y a l x0 x1 x2) y1 u)
  generalize lQ X Y a l x0 x1 x2 = Q at *
  generalize lE X Y a l x0 x1 x2 = E at *
  generalize limV y0 y1 = R0 at *
  generalize limV Q y1 = R at *
  have d1 : (R0 != R0) = false := by simp
  clear hx hy hX hY W
  by_cases hE : E = 0
  · subst hE
    by_cases hp : y1 < 1
    · rw [if_pos rfl, if_pos rfl, if_pos hp, if_pos hp] at SY
      replace SY := Lib.hid SY
      replace RD := Lib.hid RD
      clear RJ
      replace hb0 := Lib.hid hb0
      replace hz := Lib.hid hz
      replace hcs := Lib.hid hcs
      replace eV := Lib.hid eV
      go_enter Try.func8, Try.ntmps8
      go_wp2_with fail
      rw [← eV.out]
      obtain ⟨k0, k1, k2, k3, k4, k5, k6, k7, k8⟩ := hcs.out _ (Below.refl _ _)
      go_wp2_with fail
      refine (GR.out _).mono ?_
      rintro e w1 ⟨rfl, hb1⟩
      have hb1 := (Below.refl (w.heap.size + 3) V).trans (hb1.mono (Nat.le_of_eq hz.out.symm))
      obtain ⟨k0, k1, k2, k3, k4, k5, k6, k7, k8⟩ := hcs.out _ hb1
      go_wp2_with fail
      refine region_moves (fun u => u.cell? ⟨w.heap.size, 0, none⟩ = some (.slice ax X.length cx) ∧ u.cell? ⟨w.heap.size, 1, none⟩ = some (.slice ay Y.length cy) ∧ u.cell? ⟨w.heap.size, 2, none⟩ = some (.int .i64 a) ∧ u.cell? ⟨w.heap.size, 3, none⟩ = some (.int .i64 l) ∧ u.cell? ⟨w.heap.size + 1, 0, none⟩ = some (.int .i64 x0) ∧ u.cell? ⟨w.heap.size + 1, 1, none⟩ = some (.int .i64 x1) ∧ u.cell? ⟨w.heap.size + 1, 2, none⟩ = some (.int .i64 x2) ∧ u.cell? ⟨w.heap.size + 2, 0, none⟩ = some (.int .i64 y0) ∧ u.cell? ⟨w.heap.size + 2, 1, none⟩ = some (.int .i64 y1)) [] [(.free, 0), (.take, 1), (.free, 2), (.take, 3), (.free, 5), (.take, 6), (.free, 7), (.take, 8), (.step, 4), (.step, 9), (.free, 10)] _ (by kernel_rfl) (by kernel_rfl) (by kernel_rfl) (by kernel_rfl) (by decide) rfl (fun _ _ _ _ _ h => h) ?_
      simp only [List.filterMap_cons, List.filterMap_nil, List.getElem?_toArray, List.getElem?_cons_zero, List.getElem?_cons_succ, Option.map_some]
      iterate 1
        first
          | (refine mv_free ?_ (Or.inl ⟨by rfl, ?_⟩) (⟨k0, k1, k2, k3, k4, k5, k6, k7, k8⟩) ?_
             rotate_left 1
             · intro u
               go_simp
               try simp only [d1]
               try simp only [d2]
               try simp only [d3]
               try simp only [d4]
               try with_reducible rfl
             simp only [Act.put, List.setIfInBounds_toArray, List.set_cons_zero, List.set_cons_succ])
          | (refine mv_free _ (Or.inr ⟨by rfl, rfl⟩) (⟨k0, k1, k2, k3, k4, k5, k6, k7, k8⟩) ?_
             simp only [Act.put, List.setIfInBounds_toArray, List.set_cons_zero, List.set_cons_succ])
      iterate 1
        first
          | (refine mv_take ?_ (Or.inl ⟨by rfl, ?_⟩) (⟨k0, k1, k2, k3, k4, k5, k6, k7, k8⟩) ?_
             rotate_left 1
             · intro u hu
               (try dsimp only at hu)
               go_simp
               try with_reducible rfl
             simp only [Act.put, List.setIfInBounds_toArray, List.set_cons_zero, List.set_cons_succ])
          | (refine mv_take _ (Or.inr ⟨by rfl, rfl⟩) (⟨k0, k1, k2, k3, k4, k5, k6, k7, k8⟩) ?_
             simp only [Act.put, List.setIfInBounds_toArray, List.set_cons_zero, List.set_cons_succ])
      iterate 1
        first
          | (refine mv_free ?_ (Or.inl ⟨by rfl, ?_⟩) (⟨k0, k1, k2, k3, k4, k5, k6, k7, k8⟩) ?_
             rotate_left 1
             · intro u
               go_simp
               try simp only [d1]
               try simp only [d2]
               try simp only [d3]
               try simp only [d4]
               try with_reducible rfl
             simp only [Act.put, List.setIfInBounds_toArray, List.set_cons_zero, List.set_cons_succ])
          | (refine mv_free _ (Or.inr ⟨by rfl, rfl⟩) (⟨k0, k1, k2, k3, k4, k5, k6, k7, k8⟩) ?_
             simp only [Act.put, List.setIfInBounds_toArray, List.set_cons_zero, List.set_cons_succ])
      iterate 1
        first
          | (refine mv_take ?_ (Or.inl ⟨by rfl, ?_⟩) (⟨k0, k1, k2, k3, k4, k5, k6, k7, k8⟩) ?_
             rotate_left 1
             · intro u hu
               (try dsimp only at hu)
               go_simp
               try with_reducible rfl
             simp only [Act.put, List.setIfInBounds_toArray, List.set_cons_zero, List.set_cons_succ])
          | (refine mv_take _ (Or.inr ⟨by rfl, rfl⟩) (⟨k0, k1, k2, k3, k4, k5, k6, k7, k8⟩) ?_
             simp only [Act.put, List.setIfInBounds_toArray, List.set_cons_zero, List.set_cons_succ])
      iterate 1
        first
          | (refine mv_free ?_ (Or.inl ⟨by rfl, ?_⟩) (⟨k0, k1, k2, k3, k4, k5, k6, k7, k8⟩) ?_
             rotate_left 1
             · intro u
               go_simp
               try simp only [d1]
               try simp only [d2]
               try simp only [d3]
               try simp only [d4]
               try with_reducible rfl
             simp only [Act.put, List.setIfInBounds_toArray, List.set_cons_zero, List.set_cons_succ])
          | (refine mv_free _ (Or.inr ⟨by rfl, rfl⟩) (⟨k0, k1, k2, k3, k4, k5, k6, k7, k8⟩) ?_
             simp only [Act.put, List.setIfInBounds_toArray, List.set_cons_zero, List.set_cons_succ])
      iterate 1
        first
          | (refine mv_take ?_ (Or.inl ⟨by rfl, ?_⟩) (⟨k0, k1, k2, k3, k4, k5, k6, k7, k8⟩) ?_
             rotate_left 1
             · intro u hu
               (try dsimp only at hu)
               go_simp
               try with_reducible rfl
             simp only [Act.put, List.setIfInBounds_toArray, List.set_cons_zero, List.set_cons_succ])
          | (refine mv_take _ (Or.inr ⟨by rfl, rfl⟩) (⟨k0, k1, k2, k3, k4, k5, k6, k7, k8⟩) ?_
             simp only [Act.put, List.setIfInBounds_toArray, List.set_cons_zero, List.set_cons_succ])
      iterate 1
        first
          | (refine mv_free ?_ (Or.inl ⟨by rfl, ?_⟩) (⟨k0, k1, k2, k3, k4, k5, k6, k7, k8⟩) ?_
             rotate_left 1
             · intro u
               go_simp
               try simp only [d1]
               try simp only [d2]
               try simp only [d3]
               try simp only [d4]
               try with_reducible rfl
             simp only [Act.put, List.setIfInBounds_toArray, List.set_cons_zero, List.set_cons_succ])
          | (refine mv_free _ (Or.inr ⟨by rfl, rfl⟩) (⟨k0, k1, k2, k3, k4, k5, k6, k7, k8⟩) ?_
             simp only [Act.put, List.setIfInBounds_toArray, List.set_cons_zero, List.set_cons_succ])
      iterate 1
        first
          | (refine mv_take ?_ (Or.inl ⟨by rfl, ?_⟩) (⟨k0, k1, k2, k3, k4, k5, k6, k7, k8⟩) ?_
             rotate_left 1
             · intro u hu
               (try dsimp only at hu)
               go_simp
               try with_reducible rfl
             simp only [Act.put, List.setIfInBounds_toArray, List.set_cons_zero, List.set_cons_succ])
          | (refine mv_take _ (Or.inr ⟨by rfl, rfl⟩) (⟨k0, k1, k2, k3, k4, k5, k6, k7, k8⟩) ?_
             simp only [Act.put, List.setIfInBounds_toArray, List.set_cons_zero, List.set_cons_succ])
      refine mv_step (fun K hK => ?_)
      go_simp
      refine (LI.out _).mono ?_
      rintro e w2 ⟨rfl, hb2⟩
      have hb2 := (hb1.drew).trans (hb2.mono (by have := hb1.size; have := hz.out; show _ ≤ w1.heap.size; omega))
      clear hb1
      obtain ⟨k0, k1, k2, k3, k4, k5, k6, k7, k8⟩ := hcs.out _ hb2
      go_wp2_with fail
      refine hK.out _ _ _ (fun u hu => hu) (⟨k0, k1, k2, k3, k4, k5, k6, k7, k8⟩) ?_
      clear hK K
      refine mv_step (fun K hK => ?_)
      go_simp
      refine (RI.out _).mono ?_
      rintro e w3 ⟨rfl, hb3⟩
      have hb3 := (hb2).trans (hb3.mono (by have := hb2.size; have := hz.out; show _ ≤ w2.heap.size; omega))
      clear hb2
      obtain ⟨k0, k1, k2, k3, k4, k5, k6, k7, k8⟩ := hcs.out _ hb3
      go_wp2_with fail
      refine hK.out _ _ _ (fun u hu => hu) (⟨k0, k1, k2, k3, k4, k5, k6, k7, k8⟩) ?_
      clear hK K
      iterate 1
        first
          | (refine mv_free ?_ (Or.inl ⟨by rfl, ?_⟩) (⟨k0, k1, k2, k3, k4, k5, k6, k7, k8⟩) ?_
             rotate_left 1
             · intro u
               go_simp
               try simp only [d1]
               try simp only [d2]
               try simp only [d3]
               try simp only [d4]
               try with_reducible rfl
             simp only [Act.put, List.setIfInBounds_toArray, List.set_cons_zero, List.set_cons_succ])
          | (refine mv_free _ (Or.inr ⟨by rfl, rfl⟩) (⟨k0, k1, k2, k3, k4, k5, k6, k7, k8⟩) ?_
             simp only [Act.put, List.setIfInBounds_toArray, List.set_cons_zero, List.set_cons_succ])
      refine mv_done ?_
      go_wp2_with fail
      refine (SY.out _ hb3).mono ?_
      rintro e w4 ⟨rfl, hb4⟩
      have hb4 := hb3.trans (hb4.mono (by have := hb3.size; have := hz.out; omega))
      clear hb3
      obtain ⟨k0, k1, k2, k3, k4, k5, k6, k7, k8⟩ := hcs.out _ hb4
      go_wp2_with fail
      refine (RD.out _ hb4).mono ?_
      rintro e w5 ⟨rfl, hb5⟩
      have hb5 := hb4.trans (hb5.mono (by have := hb4.size; have := hz.out; omega))
      clear hb4
      obtain ⟨k0, k1, k2, k3, k4, k5, k6, k7, k8⟩ := hcs.out _ hb5
      go_wp2_with fail
      refine (LV.out _).mono ?_
      rintro e w6 ⟨rfl, hb6⟩
      have hb6 := hb5.trans (hb6.mono (by have := hb5.size; have := hz.out; omega))
      clear hb5
      go_wp2
      go_ret
      exact ⟨rfl, hb0.out.trans (hb6.mono (by omega))⟩
    · rw [if_pos rfl, if_pos rfl, if_neg hp, if_neg hp] at SY
      have hp' : 1 ≤ y1 := by omega
      have d2 : (R == R) = true := by simp
      replace SY := Lib.hid SY
      replace RD := Lib.hid RD
      clear hp
      replace hb0 := Lib.hid hb0
      replace hz := Lib.hid hz
      replace hcs := Lib.hid hcs
      replace eV := Lib.hid eV
      go_enter Try.func8, Try.ntmps8
      go_wp2_with fail
      rw [← eV.out]
      obtain ⟨k0, k1, k2, k3, k4, k5, k6, k7, k8⟩ := hcs.out _ (Below.refl _ _)
      go_wp2_with fail
      refine (GR.out _).mono ?_
      rintro e w1 ⟨rfl, hb1⟩
      have hb1 := (Below.refl (w.heap.size + 3) V).trans (hb1.mono (Nat.le_of_eq hz.out.symm))
      obtain ⟨k0, k1, k2, k3, k4, k5, k6, k7, k8⟩ := hcs.out _ hb1
      go_wp2_with fail
      refine region_moves (fun u => u.cell? ⟨w.heap.size, 0, none⟩ = some (.slice ax X.length cx) ∧ u.cell? ⟨w.heap.size, 1, none⟩ = some (.slice ay Y.length cy) ∧ u.cell? ⟨w.heap.size, 2, none⟩ = some (.int .i64 a) ∧ u.cell? ⟨w.heap.size, 3, none⟩ = some (.int .i64 l) ∧ u.cell? ⟨w.heap.size + 1, 0, none⟩ = some (.int .i64 x0) ∧ u.cell? ⟨w.heap.size + 1, 1, none⟩ = some (.int .i64 x1) ∧ u.cell? ⟨w.heap.size + 1, 2, none⟩ = some (.int .i64 x2) ∧ u.cell? ⟨w.heap.size + 2, 0, none⟩ = some (.int .i64 y0) ∧ u.cell? ⟨w.heap.size + 2, 1, none⟩ = some (.int .i64 y1)) [] [(.free, 0), (.take, 1), (.free, 2), (.take, 3), (.free, 5), (.take, 6), (.free, 7), (.take, 8), (.step, 4), (.step, 9), (.free, 10)] _ (by kernel_rfl) (by kernel_rfl) (by kernel_rfl) (by kernel_rfl) (by decide) rfl (fun _ _ _ _ _ h => h) ?_
      simp only [List.filterMap_cons, List.filterMap_nil, List.getElem?_toArray, List.getElem?_cons_zero, List.getElem?_cons_succ, Option.map_some]
      iterate 1
        first
          | (refine mv_free ?_ (Or.inl ⟨by rfl, ?_⟩) (⟨k0, k1, k2, k3, k4, k5, k6, k7, k8⟩) ?_
             rotate_left 1
             · intro u
               go_simp
               try simp only [d1]
               try simp only [d2]
               try simp only [d3]
               try simp only [d4]
               try with_reducible rfl
             simp only [Act.put, List.setIfInBounds_toArray, List.set_cons_zero, List.set_cons_succ])
          | (refine mv_free _ (Or.inr ⟨by rfl, rfl⟩) (⟨k0, k1, k2, k3, k4, k5, k6, k7, k8⟩) ?_
             simp only [Act.put, List.setIfInBounds_toArray, List.set_cons_zero, List.set_cons_succ])
      iterate 1
        first
          | (refine mv_take ?_ (Or.inl ⟨by rfl, ?_⟩) (⟨k0, k1, k2, k3, k4, k5, k6, k7, k8⟩) ?_
             rotate_left 1
             · intro u hu
               (try dsimp only at hu)
               go_simp
               try with_reducible rfl
             simp only [Act.put, List.setIfInBounds_toArray, List.set_cons_zero, List.set_cons_succ])
          | (refine mv_take _ (Or.inr ⟨by rfl, rfl⟩) (⟨k0, k1, k2, k3, k4, k5, k6, k7, k8⟩) ?_
             simp only [Act.put, List.setIfInBounds_toArray, List.set_cons_zero, List.set_cons_succ])
      iterate 1
        first
          | (refine mv_free ?_ (Or.inl ⟨by rfl, ?_⟩) (⟨k0, k1, k2, k3, k4, k5, k6, k7, k8⟩) ?_
             rotate_left 1
             · intro u
               go_simp
               try simp only [d1]
               try simp only [d2]
               try simp only [d3]
               try simp only [d4]
               try with_reducible rfl
             simp only [Act.put, List.setIfInBounds_toArray, List.set_cons_zero, List.set_cons_succ])
          | (refine mv_free _ (Or.inr ⟨by rfl, rfl⟩) (⟨k0, k1, k2, k3, k4, k5, k6, k7, k8⟩) ?_
             simp only [Act.put, List.setIfInBounds_toArray, List.set_cons_zero, List.set_cons_succ])
      iterate 1
        first
          | (refine mv_take ?_ (Or.inl ⟨by rfl, ?_⟩) (⟨k0, k1, k2, k3, k4, k5, k6, k7, k8⟩) ?_
             rotate_left 1
             · intro u hu
               (try dsimp only at hu)
               go_simp
               try with_reducible rfl
             simp only [Act.put, List.setIfInBounds_toArray, List.set_cons_zero, List.set_cons_succ])
          | (refine mv_take _ (Or.inr ⟨by rfl, rfl⟩) (⟨k0, k1, k2, k3, k4, k5, k6, k7, k8⟩) ?_
             simp only [Act.put, List.setIfInBounds_toArray, List.set_cons_zero, List.set_cons_succ])
      iterate 1
        first
          | (refine mv_free ?_ (Or.inl ⟨by rfl, ?_⟩) (⟨k0, k1, k2, k3, k4, k5, k6, k7, k8⟩) ?_
             rotate_left 1
             · intro u
               go_simp
               try simp only [d1]
               try simp only [d2]
               try simp only [d3]
               try simp only [d4]
               try with_reducible rfl
             simp only [Act.put, List.setIfInBounds_toArray, List.set_cons_zero, List.set_cons_succ])
          | (refine mv_free _ (Or.inr ⟨by rfl, rfl⟩) (⟨k0, k1, k2, k3, k4, k5, k6, k7, k8⟩) ?_
             simp only [Act.put, List.setIfInBounds_toArray, List.set_cons_zero, List.set_cons_succ])
      iterate 1
        first
          | (refine mv_take ?_ (Or.inl ⟨by rfl, ?_⟩) (⟨k0, k1, k2, k3, k4, k5, k6, k7, k8⟩) ?_
             rotate_left 1
             · intro u hu
               (try dsimp only at hu)
               go_simp
               try with_reducible rfl
             simp only [Act.put, List.setIfInBounds_toArray, List.set_cons_zero, List.set_cons_succ])
          | (refine mv_take _ (Or.inr ⟨by rfl, rfl⟩) (⟨k0, k1, k2, k3, k4, k5, k6, k7, k8⟩) ?_
             simp only [Act.put, List.setIfInBounds_toArray, List.set_cons_zero, List.set_cons_succ])
      iterate 1
        first
          | (refine mv_free ?_ (Or.inl ⟨by rfl, ?_⟩) (⟨k0, k1, k2, k3, k4, k5, k6, k7, k8⟩) ?_
             rotate_left 1
             · intro u
               go_simp
               try simp only [d1]
               try simp only [d2]
               try simp only [d3]
               try simp only [d4]
               try with_reducible rfl
             simp only [Act.put, List.setIfInBounds_toArray, List.set_cons_zero, List.set_cons_succ])
          | (refine mv_free _ (Or.inr ⟨by rfl, rfl⟩) (⟨k0, k1, k2, k3, k4, k5, k6, k7, k8⟩) ?_
             simp only [Act.put, List.setIfInBounds_toArray, List.set_cons_zero, List.set_cons_succ])
      iterate 1
        first
          | (refine mv_take ?_ (Or.inl ⟨by rfl, ?_⟩) (⟨k0, k1, k2, k3, k4, k5, k6, k7, k8⟩) ?_
             rotate_left 1
             · intro u hu
               (try dsimp only at hu)
               go_simp
               try with_reducible rfl
             simp only [Act.put, List.setIfInBounds_toArray, List.set_cons_zero, List.set_cons_succ])
          | (refine mv_take _ (Or.inr ⟨by rfl, rfl⟩) (⟨k0, k1, k2, k3, k4, k5, k6, k7, k8⟩) ?_
             simp only [Act.put, List.setIfInBounds_toArray, List.set_cons_zero, List.set_cons_succ])
      refine mv_step (fun K hK => ?_)
      go_simp
      refine (LI.out _).mono ?_
      rintro e w2 ⟨rfl, hb2⟩
      have hb2 := (hb1.drew).trans (hb2.mono (by have := hb1.size; have := hz.out; show _ ≤ w1.heap.size; omega))
      clear hb1
      obtain ⟨k0, k1, k2, k3, k4, k5, k6, k7, k8⟩ := hcs.out _ hb2
      go_wp2_with fail
      refine hK.out _ _ _ (fun u hu => hu) (⟨k0, k1, k2, k3, k4, k5, k6, k7, k8⟩) ?_
      clear hK K
      refine mv_step (fun K hK => ?_)
      go_simp
      refine (RI.out _).mono ?_
      rintro e w3 ⟨rfl, hb3⟩
      have hb3 := (hb2).trans (hb3.mono (by have := hb2.size; have := hz.out; show _ ≤ w2.heap.size; omega))
      clear hb2
      obtain ⟨k0, k1, k2, k3, k4, k5, k6, k7, k8⟩ := hcs.out _ hb3
      go_wp2_with fail
      refine hK.out _ _ _ (fun u hu => hu) (⟨k0, k1, k2, k3, k4, k5, k6, k7, k8⟩) ?_
      clear hK K
      iterate 1
        first
          | (refine mv_free ?_ (Or.inl ⟨by rfl, ?_⟩) (⟨k0, k1, k2, k3, k4, k5, k6, k7, k8⟩) ?_
             rotate_left 1
             · intro u
               go_simp
               try simp only [d1]
               try simp only [d2]
               try simp only [d3]
               try simp only [d4]
               try with_reducible rfl
             simp only [Act.put, List.setIfInBounds_toArray, List.set_cons_zero, List.set_cons_succ])
          | (refine mv_free _ (Or.inr ⟨by rfl, rfl⟩) (⟨k0, k1, k2, k3, k4, k5, k6, k7, k8⟩) ?_
             simp only [Act.put, List.setIfInBounds_toArray, List.set_cons_zero, List.set_cons_succ])
      refine mv_done ?_
      go_wp2_with fail
      refine (SY.out _ hb3).mono ?_
      rintro e w4 ⟨rfl, hb4⟩
      have hb4 := hb3.trans (hb4.mono (by have := hb3.size; have := hz.out; omega))
      clear hb3
      obtain ⟨k0, k1, k2, k3, k4, k5, k6, k7, k8⟩ := hcs.out _ hb4
      go_wp2_with fail
      refine (RD.out _ hb4).mono ?_
      rintro e w5 ⟨rfl, hb5⟩
      have hb5 := hb4.trans (hb5.mono (by have := hb4.size; have := hz.out; omega))
      clear hb4
      obtain ⟨k0, k1, k2, k3, k4, k5, k6, k7, k8⟩ := hcs.out _ hb5
      go_wp2_with fail
      refine (RJ.out _).mono ?_
      rintro e w6 ⟨rfl, hb6⟩
      have hb6 := hb5.trans (hb6.mono (by have := hb5.size; have := hz.out; omega))
      clear hb5
      obtain ⟨k0, k1, k2, k3, k4, k5, k6, k7, k8⟩ := hcs.out _ hb6
      go_wp2_with fail
      refine (LV.out _).mono ?_
      rintro e w7 ⟨rfl, hb7⟩
      have hb7 := hb6.trans (hb7.mono (by have := hb6.size; have := hz.out; omega))
      clear hb6
      go_wp2
      go_ret
      exact ⟨rfl, hb0.out.trans (hb7.mono (by omega))⟩
  · rw [if_neg hE, if_neg hE] at SY
    have d2 : (E != 0) = true := by simp [hE]
    have d3 : (E == 0) = false := by simp [hE]
    have d4 : (E == E) = true := by simp
    replace SY := Lib.hid SY
    replace RD := Lib.hid RD
    clear hE RJ
    replace hb0 := Lib.hid hb0
    replace hz := Lib.hid hz
    replace hcs := Lib.hid hcs
    replace eV := Lib.hid eV
    go_enter Try.func8, Try.ntmps8
    go_wp2_with fail
    rw [← eV.out]
    obtain ⟨k0, k1, k2, k3, k4, k5, k6, k7, k8⟩ := hcs.out _ (Below.refl _ _)
    go_wp2_with fail
    refine (GR.out _).mono ?_
    rintro e w1 ⟨rfl, hb1⟩
    have hb1 := (Below.refl (w.heap.size + 3) V).trans (hb1.mono (Nat.le_of_eq hz.out.symm))
    obtain ⟨k0, k1, k2, k3, k4, k5, k6, k7, k8⟩ := hcs.out _ hb1
    go_wp2_with fail
    refine region_moves (fun u => u.cell? ⟨w.heap.size, 0, none⟩ = some (.slice ax X.length cx) ∧ u.cell? ⟨w.heap.size, 1, none⟩ = some (.slice ay Y.length cy) ∧ u.cell? ⟨w.heap.size, 2, none⟩ = some (.int .i64 a) ∧ u.cell? ⟨w.heap.size, 3, none⟩ = some (.int .i64 l) ∧ u.cell? ⟨w.heap.size + 1, 0, none⟩ = some (.int .i64 x0) ∧ u.cell? ⟨w.heap.size + 1, 1, none⟩ = some (.int .i64 x1) ∧ u.cell? ⟨w.heap.size + 1, 2, none⟩ = some (.int .i64 x2) ∧ u.cell? ⟨w.heap.size + 2, 0, none⟩ = some (.int .i64 y0) ∧ u.cell? ⟨w.heap.size + 2, 1, none⟩ = some (.int .i64 y1)) [] [(.free, 0), (.take, 1), (.free, 2), (.take, 3), (.free, 5), (.take, 6), (.free, 7), (.take, 8), (.step, 4), (.step, 9), (.free, 10)] _ (by kernel_rfl) (by kernel_rfl) (by kernel_rfl) (by kernel_rfl) (by decide) rfl (fun _ _ _ _ _ h => h) ?_
    simp only [List.filterMap_cons, List.filterMap_nil, List.getElem?_toArray, List.getElem?_cons_zero, List.getElem?_cons_succ, Option.map_some]
    iterate 1
      first
        | (refine mv_free ?_ (Or.inl ⟨by rfl, ?_⟩) (⟨k0, k1, k2, k3, k4, k5, k6, k7, k8⟩) ?_
           rotate_left 1
           · intro u
             go_simp
             try simp only [d1]
             try simp only [d2]
             try simp only [d3]
             try simp only [d4]
             try with_reducible rfl
           simp only [Act.put, List.setIfInBounds_toArray, List.set_cons_zero, List.set_cons_succ])
        | (refine mv_free _ (Or.inr ⟨by rfl, rfl⟩) (⟨k0, k1, k2, k3, k4, k5, k6, k7, k8⟩) ?_
           simp only [Act.put, List.setIfInBounds_toArray, List.set_cons_zero, List.set_cons_succ])
    iterate 1
      first
        | (refine mv_take ?_ (Or.inl ⟨by rfl, ?_⟩) (⟨k0, k1, k2, k3, k4, k5, k6, k7, k8⟩) ?_
           rotate_left 1
           · intro u hu
             (try dsimp only at hu)
             go_simp
             try with_reducible rfl
           simp only [Act.put, List.setIfInBounds_toArray, List.set_cons_zero, List.set_cons_succ])
        | (refine mv_take _ (Or.inr ⟨by rfl, rfl⟩) (⟨k0, k1, k2, k3, k4, k5, k6, k7, k8⟩) ?_
           simp only [Act.put, List.setIfInBounds_toArray, List.set_cons_zero, List.set_cons_succ])
    iterate 1
      first
        | (refine mv_free ?_ (Or.inl ⟨by rfl, ?_⟩) (⟨k0, k1, k2, k3, k4, k5, k6, k7, k8⟩) ?_
           rotate_left 1
           · intro u
             go_simp
             try simp only [d1]
             try simp only [d2]
             try simp only [d3]
             try simp only [d4]
             try with_reducible rfl
           simp only [Act.put, List.setIfInBounds_toArray, List.set_cons_zero, List.set_cons_succ])
        | (refine mv_free _ (Or.inr ⟨by rfl, rfl⟩) (⟨k0, k1, k2, k3, k4, k5, k6, k7, k8⟩) ?_
           simp only [Act.put, List.setIfInBounds_toArray, List.set_cons_zero, List.set_cons_succ])
    iterate 1
      first
        | (refine mv_take ?_ (Or.inl ⟨by rfl, ?_⟩) (⟨k0, k1, k2, k3, k4, k5, k6, k7, k8⟩) ?_
           rotate_left 1
           · intro u hu
             (try dsimp only at hu)
             go_simp
             try with_reducible rfl
           simp only [Act.put, List.setIfInBounds_toArray, List.set_cons_zero, List.set_cons_succ])
        | (refine mv_take _ (Or.inr ⟨by rfl, rfl⟩) (⟨k0, k1, k2, k3, k4, k5, k6, k7, k8⟩) ?_
           simp only [Act.put, List.setIfInBounds_toArray, List.set_cons_zero, List.set_cons_succ])
    iterate 1
      first
        | (refine mv_free ?_ (Or.inl ⟨by rfl, ?_⟩) (⟨k0, k1, k2, k3, k4, k5, k6, k7, k8⟩) ?_
           rotate_left 1
           · intro u
             go_simp
             try simp only [d1]
             try simp only [d2]
             try simp only [d3]
             try simp only [d4]
             try with_reducible rfl
           simp only [Act.put, List.setIfInBounds_toArray, List.set_cons_zero, List.set_cons_succ])
        | (refine mv_free _ (Or.inr ⟨by rfl, rfl⟩) (⟨k0, k1, k2, k3, k4, k5, k6, k7, k8⟩) ?_
           simp only [Act.put, List.setIfInBounds_toArray, List.set_cons_zero, List.set_cons_succ])
    iterate 1
      first
        | (refine mv_take ?_ (Or.inl ⟨by rfl, ?_⟩) (⟨k0, k1, k2, k3, k4, k5, k6, k7, k8⟩) ?_
           rotate_left 1
           · intro u hu
             (try dsimp only at hu)
             go_simp
             try with_reducible rfl
           simp only [Act.put, List.setIfInBounds_toArray, List.set_cons_zero, List.set_cons_succ])
        | (refine mv_take _ (Or.inr ⟨by rfl, rfl⟩) (⟨k0, k1, k2, k3, k4, k5, k6, k7, k8⟩) ?_
           simp only [Act.put, List.setIfInBounds_toArray, List.set_cons_zero, List.set_cons_succ])
    iterate 1
      first
        | (refine mv_free ?_ (Or.inl ⟨by rfl, ?_⟩) (⟨k0, k1, k2, k3, k4, k5, k6, k7, k8⟩) ?_
           rotate_left 1
           · intro u
             go_simp
             try simp only [d1]
             try simp only [d2]
             try simp only [d3]
             try simp only [d4]
             try with_reducible rfl
           simp only [Act.put, List.setIfInBounds_toArray, List.set_cons_zero, List.set_cons_succ])
        | (refine mv_free _ (Or.inr ⟨by rfl, rfl⟩) (⟨k0, k1, k2, k3, k4, k5, k6, k7, k8⟩) ?_
           simp only [Act.put, List.setIfInBounds_toArray, List.set_cons_zero, List.set_cons_succ])
    iterate 1
      first
        | (refine mv_take ?_ (Or.inl ⟨by rfl, ?_⟩) (⟨k0, k1, k2, k3, k4, k5, k6, k7, k8⟩) ?_
           rotate_left 1
           · intro u hu
             (try dsimp only at hu)
             go_simp
             try with_reducible rfl
           simp only [Act.put, List.setIfInBounds_toArray, List.set_cons_zero, List.set_cons_succ])
        | (refine mv_take _ (Or.inr ⟨by rfl, rfl⟩) (⟨k0, k1, k2, k3, k4, k5, k6, k7, k8⟩) ?_
           simp only [Act.put, List.setIfInBounds_toArray, List.set_cons_zero, List.set_cons_succ])
    refine mv_step (fun K hK => ?_)
    go_simp
    refine (LI.out _).mono ?_
    rintro e w2 ⟨rfl, hb2⟩
    have hb2 := (hb1.drew).trans (hb2.mono (by have := hb1.size; have := hz.out; show _ ≤ w1.heap.size; omega))
    clear hb1
    obtain ⟨k0, k1, k2, k3, k4, k5, k6, k7, k8⟩ := hcs.out _ hb2
    go_wp2_with fail
    refine hK.out _ _ _ (fun u hu => hu) (⟨k0, k1, k2, k3, k4, k5, k6, k7, k8⟩) ?_
    clear hK K
    refine mv_step (fun K hK => ?_)
    go_simp
    refine (RI.out _).mono ?_
    rintro e w3 ⟨rfl, hb3⟩
    have hb3 := (hb2).trans (hb3.mono (by have := hb2.size; have := hz.out; show _ ≤ w2.heap.size; omega))
    clear hb2
    obtain ⟨k0, k1, k2, k3, k4, k5, k6, k7, k8⟩ := hcs.out _ hb3
    go_wp2_with fail
    refine hK.out _ _ _ (fun u hu => hu) (⟨k0, k1, k2, k3, k4, k5, k6, k7, k8⟩) ?_
    clear hK K
    iterate 1
      first
        | (refine mv_free ?_ (Or.inl ⟨by rfl, ?_⟩) (⟨k0, k1, k2, k3, k4, k5, k6, k7, k8⟩) ?_
           rotate_left 1
           · intro u
             go_simp
             try simp only [d1]
             try simp only [d2]
             try simp only [d3]
             try simp only [d4]
             try with_reducible rfl
           simp only [Act.put, List.setIfInBounds_toArray, List.set_cons_zero, List.set_cons_succ])
        | (refine mv_free _ (Or.inr ⟨by rfl, rfl⟩) (⟨k0, k1, k2, k3, k4, k5, k6, k7, k8⟩) ?_
           simp only [Act.put, List.setIfInBounds_toArray, List.set_cons_zero, List.set_cons_succ])
    refine mv_done ?_
    go_wp2_with fail
    refine (SY.out _ hb3).mono ?_
    rintro e w4 ⟨rfl, hb4⟩
    have hb4 := hb3.trans (hb4.mono (by have := hb3.size; have := hz.out; omega))
    clear hb3
    obtain ⟨k0, k1, k2, k3, k4, k5, k6, k7, k8⟩ := hcs.out _ hb4
    go_wp2_with fail
    refine (RD.out _ hb4).mono ?_
    rintro e w5 ⟨rfl, hb5⟩
    have hb5 := hb4.trans (hb5.mono (by have := hb4.size; have := hz.out; omega))
    clear hb4
    obtain ⟨k0, k1, k2, k3, k4, k5, k6, k7, k8⟩ := hcs.out _ hb5
    go_wp2_with fail
    refine (LV.out _).mono ?_
    rintro e w6 ⟨rfl, hb6⟩
    have hb6 := hb5.trans (hb6.mono (by have := hb5.size; have := hz.out; omega))
    clear hb5
    go_wp2
    go_ret
    exact ⟨rfl, hb0.out.trans (hb6.mono (by omega))⟩
end Go.Proofs.Ytmmenpaodofahaa
