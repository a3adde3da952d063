/- The laws AoaTrues, AoaNew, walked. -/
import Derived.Test.YtmmenpaodofahaaAoa3
import Derived.Deep.Cut
namespace Go.Proofs.Ytmmenpaodofahaa
open Go.ChangeShapes Go.WideShapes Go.ChangeAt Go.RowKit
set_option linter.unusedVariables false
set_option linter.unusedSimpArgs false
theorem floor2b (a : Int) (w : World) (h1 : -4611686018427387904 ≤ a) (h2 : a ≤ 4611686018427387904) : Calls Try.prog 44 #[.int .i64 a, .int .i64 2] w fun e w' => e = .returned (.int .i64 (a / 2)) ∧ Below w.heap.size w w' :=
  (floor01_any a 2 w (by omega) h1 h2).mono (by rintro e w1 ⟨h, rfl⟩; exact ⟨h, Below.refl _ _⟩)
theorem gr39_box (w : World) (ax ay : Option Addr) (cx cy : Nat) (X Y : List Int) : ∃ V, V = (w.alloc (.cells #[.slice ax X.length cx, .slice ay Y.length cy] 24)) ∧ Below w.heap.size w V ∧ V.heap.size = w.heap.size + 1 ∧ ∀ u, Below (w.heap.size + 1) V u → u.cell? ⟨w.heap.size, 0, none⟩ = some (.slice ax X.length cx) ∧ u.cell? ⟨w.heap.size, 1, none⟩ = some (.slice ay Y.length cy) :=
  ⟨_, rfl, (by repeat (first | exact Below.refl _ _ | assumption | apply Below.drew | apply below_drewN | (refine Below.alloc ?_ (by first | exact Nat.le_refl _ | omega | (simp <;> omega)) _) | (refine Below.setCell ?_ (by first | exact Nat.le_refl _ | omega | (simp <;> omega)) _))), by simp, fun u hu => ⟨(bc hu (by omega)).trans (by go_simp), (bc hu (by omega)).trans (by go_simp)⟩⟩
set_option maxRecDepth 100000 in
set_option maxHeartbeats 8000000 in
theorem agreat_any (ax ay : Option Addr) (cx cy : Nat) (X Y : List Int) (w : World) : Calls Try.prog 37 #[.agg #[.slice ax X.length cx, .slice ay Y.length cy]] w fun e w' => e = .returned (.bool (decide (300 < X.length) || decide (300 < Y.length))) ∧ Below w.heap.size w w' := by
  have dx : decide ((300 : Int) < (X.length : Int)) = decide (300 < X.length) := by simp; omega
  have dy : decide ((300 : Int) < (Y.length : Int)) = decide (300 < Y.length) := by simp; omega
  obtain ⟨p, hp⟩ : ∃ p, p = decide (300 < X.length) := ⟨_, rfl⟩
  obtain ⟨q, hq⟩ : ∃ q, q = decide (300 < Y.length) := ⟨_, rfl⟩
  rw [← hp] at dx ⊢
  rw [← hq] at dy ⊢
  clear hp hq
  obtain ⟨V, eV, hb0, hz, hcs⟩ := gr39_box w ax ay cx cy X Y
  replace hb0 := Lib.hid hb0
  replace hz := Lib.hid hz
  replace hcs := Lib.hid hcs
  replace eV := Lib.hid eV
  cases p
  · rw [Bool.false_or]
    go_enter Try.func37, Try.ntmps37
    go_wp2_with fail
    rw [← eV.out]
    obtain ⟨k0, k1⟩ := hcs.out _ (Below.refl _ _)
    go_wp2
    go_ret
    exact ⟨by first | rfl | (simp [dx, dy]; done) | (rw [dx, dy]; rfl), hb0.out⟩
  · rw [Bool.true_or]
    go_enter Try.func37, Try.ntmps37
    go_wp2_with fail
    rw [← eV.out]
    obtain ⟨k0, k1⟩ := hcs.out _ (Below.refl _ _)
    go_wp2
    go_ret
    exact ⟨by first | rfl | (simp [dx, dy]; done) | (rw [dx, dy]; rfl), hb0.out⟩
theorem atr_box (w : World) (ax ay : Option Addr) (cx cy : Nat) (X Y : List Int) (tau arm sh : Int) (x0 x1 x2 : Int) : ∃ V, V = ((w.alloc (.cells #[.slice ax X.length cx, .slice ay Y.length cy, .int .i64 tau, .int .i64 arm, .int .i64 sh] 59)).alloc (.cells #[.int .i64 x0, .int .i64 x1, .int .i64 x2] 44)) ∧ Below w.heap.size w V ∧ V.heap.size = w.heap.size + 2 ∧ ∀ u, Below (w.heap.size + 2) V u → u.cell? ⟨w.heap.size, 0, none⟩ = some (.slice ax X.length cx) ∧ u.cell? ⟨w.heap.size, 1, none⟩ = some (.slice ay Y.length cy) ∧ u.cell? ⟨w.heap.size, 2, none⟩ = some (.int .i64 tau) ∧ u.cell? ⟨w.heap.size, 3, none⟩ = some (.int .i64 arm) ∧ u.cell? ⟨w.heap.size, 4, none⟩ = some (.int .i64 sh) ∧ u.cell? ⟨w.heap.size + 1, 0, none⟩ = some (.int .i64 x0) ∧ u.cell? ⟨w.heap.size + 1, 1, none⟩ = some (.int .i64 x1) ∧ u.cell? ⟨w.heap.size + 1, 2, none⟩ = some (.int .i64 x2) :=
  ⟨_, rfl, (by repeat (first | exact Below.refl _ _ | assumption | apply Below.drew | apply below_drewN | (refine Below.alloc ?_ (by first | exact Nat.le_refl _ | omega | (simp <;> omega)) _) | (refine Below.setCell ?_ (by first | exact Nat.le_refl _ | omega | (simp <;> omega)) _))), by simp, fun u hu => ⟨(bc hu (by omega)).trans (by go_simp), (bc hu (by omega)).trans (by go_simp), (bc hu (by omega)).trans (by go_simp), (bc hu (by omega)).trans (by go_simp), (bc hu (by omega)).trans (by go_simp), (bc hu (by omega)).trans (by go_simp), (bc hu (by omega)).trans (by go_simp), (bc hu (by omega)).trans (by go_simp)⟩⟩
set_option maxRecDepth 100000 in
set_option maxHeartbeats 8000000 in
theorem law_AoaTrues (ax ay : Option Addr) (cx cy : Nat) (X Y : List Int) (tau arm sh : Int) (x0 x1 x2 other : Int) (w : World) (hx : RowIs .i64 w ax X) (hy : RowIs .i64 w ay Y) (hs : x2 ≤ 9223372036854775807) :
    Calls Try.prog 10 #[.agg #[.slice ax X.length cx, .slice ay Y.length cy, .int .i64 tau, .int .i64 arm, .int .i64 sh], .agg #[.int .i64 x0, .int .i64 x1, .int .i64 x2], .int .i64 other] w fun e w' => e = .returned (.bool true) ∧ Below w.heap.size w w' := by
  have LV := Lib.hid (fun u => lives39 u)
  have GR := fun u => agreat_any ax ay cx cy X Y u
  obtain ⟨V, eV, hb0, hz, hcs⟩ := atr_box w ax ay cx cy X Y tau arm sh x0 x1 x2
  have W := fun u (h : Below (w.heap.size + 2) V u) => show Below w.heap.size w u from hb0.trans (h.mono (by omega))
  cases hgr : (decide (300 < X.length) || decide (300 < Y.length))
  case true =>
    rw [hgr] at GR
    replace GR := Lib.hid GR
    clear hgr hx hy W hs
    replace hb0 := Lib.hid hb0
    replace hz := Lib.hid hz
    replace hcs := Lib.hid hcs
    replace eV := Lib.hid eV
    go_enter Try.func10, Try.ntmps10
    go_wp2_with fail
    rw [← eV.out]
    obtain ⟨k0, k1, k2, k3, k4, k5, k6, k7⟩ := hcs.out _ (Below.refl _ _)
    go_wp2_with fail
    refine (GR.out _).mono ?_
    rintro e w1 ⟨rfl, hb1⟩
    have hb1 := (Below.refl (w.heap.size + 2) V).trans (hb1.mono (Nat.le_of_eq hz.out.symm))
    obtain ⟨k0, k1, k2, k3, k4, k5, k6, k7⟩ := hcs.out _ hb1
    go_wp2_with fail
    refine (LV.out _).mono ?_
    rintro e w2 ⟨rfl, hb2⟩
    have hb2 := hb1.trans (hb2.mono (by have := hb1.size; have := hz.out; omega))
    clear hb1
    go_wp2
    go_ret
    exact ⟨rfl, hb0.out.trans (hb2.mono (by omega))⟩
  rw [hgr] at GR
  replace GR := Lib.hid GR
  have hX : X.length ≤ 300 := by simp at hgr; omega
  have hY : Y.length ≤ 300 := by simp at hgr; omega
  clear hgr
  have R39 := fun u (h : Below (w.heap.size + 2) V u) => rright39 ax ay cx cy X Y tau arm sh u (hx.below (W u h)) (hy.below (W u h)) hX hY
  have TU := fun u (h : Below (w.heap.size + 2) V u) => aturn_any ax ay cx cy X Y tau arm sh x1 x2 u (hx.below (W u h)) (hy.below (W u h)) hX hY hs
  have TR := fun u (h : Below (w.heap.size + 2) V u) => atrue_any ax ay cx cy X Y tau arm sh x0 x1 x2 u (hx.below (W u h)) (hy.below (W u h)) hX hY hs
  have RA := fun u (h : Below (w.heap.size + 2) V u) => aright_any ax ay cx cy X Y tau arm sh u (hx.below (W u h)) (hy.below (W u h)) hX hY
  have SL := Lib.hid (fun u => aslip_any x0 other u)
  have C0 := Lib.hid (fun u => rclip39 x0 u)
  have CO := Lib.hid (fun u => rclip39 other u)
  have h1 := clA_bd x0
  have h2 := clA_bd other
  have FL := Lib.hid (fun u => floor2b (clA x0 - clA other) u (by omega) (by omega))
  generalize clA x0 = p at *
  generalize clA other = q at *
  have hwd : IntKind.i64.wrap (p - q) = p - q := IntWalk.i64_in _ ⟨by omega, by omega⟩
  generalize (p - q) / 2 = s at *
  have d1 : (s != s) = false := by simp
  clear h1 h2
  cases hw : agB X Y tau arm sh
  case false =>
    rw [hw] at R39 TU TR RA
    simp only [Bool.false_eq_true, if_false] at TU TR
    replace R39 := Lib.hid R39
    replace TU := Lib.hid TU
    replace TR := Lib.hid TR
    replace RA := Lib.hid RA
    clear hw hx hy hX hY W hs
    replace hb0 := Lib.hid hb0
    replace hz := Lib.hid hz
    replace hcs := Lib.hid hcs
    replace eV := Lib.hid eV
    go_enter Try.func10, Try.ntmps10
    go_wp2_with fail
    rw [← eV.out]
    obtain ⟨k0, k1, k2, k3, k4, k5, k6, k7⟩ := hcs.out _ (Below.refl _ _)
    go_wp2_with fail
    refine (GR.out _).mono ?_
    rintro e w1 ⟨rfl, hb1⟩
    have hb1 := (Below.refl (w.heap.size + 2) V).trans (hb1.mono (Nat.le_of_eq hz.out.symm))
    obtain ⟨k0, k1, k2, k3, k4, k5, k6, k7⟩ := hcs.out _ hb1
    go_upto_region 4 with (fail)
    obtain ⟨V1, eV1, hm2, hz1, hcs1⟩ := vnr_box w1 ax ay cx cy X Y tau arm sh
    have hb2 := hb1.trans (hm2.mono (by have := hb1.size; have := hz.out; omega))
    replace eV1 := Lib.hid eV1
    rw [← eV1.out]
    obtain ⟨k0, k1, k2, k3, k4, k5, k6, k7⟩ := hcs.out _ hb2
    obtain ⟨j0, j1, j2, j3, j4⟩ := hcs1 _ (Below.refl _ _)
    clear hb1
    have hmv := Lib.hid hm2
    replace hm2 := Below.refl (w1.heap.size + 1) V1
    have hs3 := Lib.hid (show w.heap.size + 2 ≤ w1.heap.size + 1 ∧ V1.heap.size = w1.heap.size + 1 from ⟨by have := hb2.size; have := hz.out; omega, hz1⟩)
    clear hz1
    replace hcs1 := Lib.hid hcs1
    go_wp2_with fail
    refine (R39.out _ (hb2)).mono ?_
    rintro e w3 ⟨rfl, hb3⟩
    have hm3 := hm2.trans (hb3.mono (by have := hm2.size; have := hs3.out.2; omega))
    have hb3 := hb2.trans (hb3.mono (by have := hb2.size; have := hz.out; omega))
    clear hb2 hm2
    obtain ⟨k0, k1, k2, k3, k4, k5, k6, k7⟩ := hcs.out _ hb3
    obtain ⟨j0, j1, j2, j3, j4⟩ := hcs1.out _ hm3
    go_wp2_with fail
    refine (TU.out _ (hb3)).mono ?_
    rintro e w4 ⟨rfl, hb4⟩
    have hm4 := hm3.trans (hb4.mono (by have := hm3.size; have := hs3.out.2; omega))
    have hb4 := hb3.trans (hb4.mono (by have := hb3.size; have := hz.out; omega))
    clear hb3 hm3
    obtain ⟨k0, k1, k2, k3, k4, k5, k6, k7⟩ := hcs.out _ hb4
    obtain ⟨j0, j1, j2, j3, j4⟩ := hcs1.out _ hm4
    go_wp2_with fail
    refine (TR.out _ (hb4)).mono ?_
    rintro e w5 ⟨rfl, hb5⟩
    have hm5 := hm4.trans (hb5.mono (by have := hm4.size; have := hs3.out.2; omega))
    have hb5 := hb4.trans (hb5.mono (by have := hb4.size; have := hz.out; omega))
    clear hb4 hm4
    obtain ⟨k0, k1, k2, k3, k4, k5, k6, k7⟩ := hcs.out _ hb5
    obtain ⟨j0, j1, j2, j3, j4⟩ := hcs1.out _ hm5
    go_wp2_with fail
    refine region_moves (fun u => u.cell? ⟨w.heap.size, 0, none⟩ = some (.slice ax X.length cx) ∧ u.cell? ⟨w.heap.size, 1, none⟩ = some (.slice ay Y.length cy) ∧ u.cell? ⟨w.heap.size, 2, none⟩ = some (.int .i64 tau) ∧ u.cell? ⟨w.heap.size, 3, none⟩ = some (.int .i64 arm) ∧ u.cell? ⟨w.heap.size, 4, none⟩ = some (.int .i64 sh) ∧ u.cell? ⟨w.heap.size + 1, 0, none⟩ = some (.int .i64 x0) ∧ u.cell? ⟨w.heap.size + 1, 1, none⟩ = some (.int .i64 x1) ∧ u.cell? ⟨w.heap.size + 1, 2, none⟩ = some (.int .i64 x2)) [] [(.take, 0), (.free, 2), (.step, 1), (.free, 3), (.free, 4), (.free, 5), (.free, 6), (.free, 7), (.free, 8), (.free, 9), (.free, 10), (.free, 11), (.free, 12), (.free, 13), (.free, 14), (.free, 15), (.take, 16), (.free, 17), (.free, 19), (.take, 20), (.free, 22), (.step, 18), (.step, 21), (.step, 23), (.free, 24), (.step, 25), (.free, 26), (.free, 27)] _ (by kernel_rfl) (by kernel_rfl) (by kernel_rfl) (by kernel_rfl) (by decide) rfl (fun _ _ _ _ _ h => h) ?_
    simp only [List.filterMap_cons, List.filterMap_nil, List.getElem?_toArray, List.getElem?_cons_zero, List.getElem?_cons_succ, Option.map_some]
    iterate 1
      first
        | (refine mv_take ?_ (Or.inl ⟨by rfl, ?_⟩) (⟨k0, k1, k2, k3, k4, k5, k6, k7⟩) ?_
           rotate_left 1
           · intro u hu
             (try dsimp only at hu)
             go_simp
             try with_reducible rfl
           simp only [Act.put, List.setIfInBounds_toArray, List.set_cons_zero, List.set_cons_succ])
        | (refine mv_take _ (Or.inr ⟨by rfl, rfl⟩) (⟨k0, k1, k2, k3, k4, k5, k6, k7⟩) ?_
           simp only [Act.put, List.setIfInBounds_toArray, List.set_cons_zero, List.set_cons_succ])
    iterate 1
      first
        | (refine mv_free ?_ (Or.inl ⟨by rfl, ?_⟩) (⟨k0, k1, k2, k3, k4, k5, k6, k7⟩) ?_
           rotate_left 1
           · intro u
             go_simp
             try simp only [d1]
             try simp only [d2]
             try simp only [d3]
             try with_reducible rfl
           simp only [Act.put, List.setIfInBounds_toArray, List.set_cons_zero, List.set_cons_succ])
        | (refine mv_free _ (Or.inr ⟨by rfl, rfl⟩) (⟨k0, k1, k2, k3, k4, k5, k6, k7⟩) ?_
           simp only [Act.put, List.setIfInBounds_toArray, List.set_cons_zero, List.set_cons_succ])
    refine mv_step (fun K hK => ?_)
    go_simp
    refine (RA.out _ (hb5.drew)).mono ?_
    rintro e w6 ⟨rfl, hb6⟩
    have hm6 := hm5.drew.trans (hb6.mono (by have := hm5.size; have := hs3.out.2; show _ ≤ w5.heap.size; omega))
    have hb6 := hb5.drew.trans (hb6.mono (by have := hb5.size; have := hz.out; show _ ≤ w5.heap.size; omega))
    clear hb5 hm5
    obtain ⟨k0, k1, k2, k3, k4, k5, k6, k7⟩ := hcs.out _ hb6
    obtain ⟨j0, j1, j2, j3, j4⟩ := hcs1.out _ hm6
    go_wp2_with fail
    refine hK.out _ _ _ (fun u hu => hu) (⟨k0, k1, k2, k3, k4, k5, k6, k7⟩) ?_
    clear hK K
    iterate 13
      first
        | (refine mv_free ?_ (Or.inl ⟨by rfl, ?_⟩) (⟨k0, k1, k2, k3, k4, k5, k6, k7⟩) ?_
           rotate_left 1
           · intro u
             go_simp
             try simp only [d1]
             try simp only [d2]
             try simp only [d3]
             try with_reducible rfl
           simp only [Act.put, List.setIfInBounds_toArray, List.set_cons_zero, List.set_cons_succ])
        | (refine mv_free _ (Or.inr ⟨by rfl, rfl⟩) (⟨k0, k1, k2, k3, k4, k5, k6, k7⟩) ?_
           simp only [Act.put, List.setIfInBounds_toArray, List.set_cons_zero, List.set_cons_succ])
    iterate 1
      first
        | (refine mv_take ?_ (Or.inl ⟨by rfl, ?_⟩) (⟨k0, k1, k2, k3, k4, k5, k6, k7⟩) ?_
           rotate_left 1
           · intro u hu
             (try dsimp only at hu)
             go_simp
             try with_reducible rfl
           simp only [Act.put, List.setIfInBounds_toArray, List.set_cons_zero, List.set_cons_succ])
        | (refine mv_take _ (Or.inr ⟨by rfl, rfl⟩) (⟨k0, k1, k2, k3, k4, k5, k6, k7⟩) ?_
           simp only [Act.put, List.setIfInBounds_toArray, List.set_cons_zero, List.set_cons_succ])
    iterate 2
      first
        | (refine mv_free ?_ (Or.inl ⟨by rfl, ?_⟩) (⟨k0, k1, k2, k3, k4, k5, k6, k7⟩) ?_
           rotate_left 1
           · intro u
             go_simp
             try simp only [d1]
             try simp only [d2]
             try simp only [d3]
             try with_reducible rfl
           simp only [Act.put, List.setIfInBounds_toArray, List.set_cons_zero, List.set_cons_succ])
        | (refine mv_free _ (Or.inr ⟨by rfl, rfl⟩) (⟨k0, k1, k2, k3, k4, k5, k6, k7⟩) ?_
           simp only [Act.put, List.setIfInBounds_toArray, List.set_cons_zero, List.set_cons_succ])
    iterate 1
      first
        | (refine mv_take ?_ (Or.inl ⟨by rfl, ?_⟩) (⟨k0, k1, k2, k3, k4, k5, k6, k7⟩) ?_
           rotate_left 1
           · intro u hu
             (try dsimp only at hu)
             go_simp
             try with_reducible rfl
           simp only [Act.put, List.setIfInBounds_toArray, List.set_cons_zero, List.set_cons_succ])
        | (refine mv_take _ (Or.inr ⟨by rfl, rfl⟩) (⟨k0, k1, k2, k3, k4, k5, k6, k7⟩) ?_
           simp only [Act.put, List.setIfInBounds_toArray, List.set_cons_zero, List.set_cons_succ])
    iterate 1
      first
        | (refine mv_free ?_ (Or.inl ⟨by rfl, ?_⟩) (⟨k0, k1, k2, k3, k4, k5, k6, k7⟩) ?_
           rotate_left 1
           · intro u
             go_simp
             try simp only [d1]
             try simp only [d2]
             try simp only [d3]
             try with_reducible rfl
           simp only [Act.put, List.setIfInBounds_toArray, List.set_cons_zero, List.set_cons_succ])
        | (refine mv_free _ (Or.inr ⟨by rfl, rfl⟩) (⟨k0, k1, k2, k3, k4, k5, k6, k7⟩) ?_
           simp only [Act.put, List.setIfInBounds_toArray, List.set_cons_zero, List.set_cons_succ])
    refine mv_step (fun K hK => ?_)
    go_simp
    refine (SL.out _).mono ?_
    rintro e w7 ⟨rfl, hb7⟩
    have hm7 := hm6.trans (hb7.mono (by have := hm6.size; have := hs3.out.2; omega))
    have hb7 := hb6.trans (hb7.mono (by have := hb6.size; have := hz.out; omega))
    clear hb6 hm6
    obtain ⟨k0, k1, k2, k3, k4, k5, k6, k7⟩ := hcs.out _ hb7
    obtain ⟨j0, j1, j2, j3, j4⟩ := hcs1.out _ hm7
    go_wp2_with fail
    refine hK.out _ _ _ (fun u hu => hu) (⟨k0, k1, k2, k3, k4, k5, k6, k7⟩) ?_
    clear hK K
    refine mv_step (fun K hK => ?_)
    go_simp
    refine (C0.out _).mono ?_
    rintro e w8 ⟨rfl, hb8⟩
    have hm8 := hm7.trans (hb8.mono (by have := hm7.size; have := hs3.out.2; omega))
    have hb8 := hb7.trans (hb8.mono (by have := hb7.size; have := hz.out; omega))
    clear hb7 hm7
    obtain ⟨k0, k1, k2, k3, k4, k5, k6, k7⟩ := hcs.out _ hb8
    obtain ⟨j0, j1, j2, j3, j4⟩ := hcs1.out _ hm8
    go_wp2_with fail
    refine hK.out _ _ _ (fun u hu => hu) (⟨k0, k1, k2, k3, k4, k5, k6, k7⟩) ?_
    clear hK K
    refine mv_step (fun K hK => ?_)
    go_simp
    refine (CO.out _).mono ?_
    rintro e w9 ⟨rfl, hb9⟩
    have hm9 := hm8.trans (hb9.mono (by have := hm8.size; have := hs3.out.2; omega))
    have hb9 := hb8.trans (hb9.mono (by have := hb8.size; have := hz.out; omega))
    clear hb8 hm8
    obtain ⟨k0, k1, k2, k3, k4, k5, k6, k7⟩ := hcs.out _ hb9
    obtain ⟨j0, j1, j2, j3, j4⟩ := hcs1.out _ hm9
    go_wp2_with fail
    refine hK.out _ _ _ (fun u hu => hu) (⟨k0, k1, k2, k3, k4, k5, k6, k7⟩) ?_
    clear hK K
    iterate 1
      first
        | (refine mv_free ?_ (Or.inl ⟨by rfl, ?_⟩) (⟨k0, k1, k2, k3, k4, k5, k6, k7⟩) ?_
           rotate_left 1
           · intro u
             go_simp
             try simp only [d1]
             try simp only [d2]
             try simp only [d3]
             try with_reducible rfl
           simp only [Act.put, List.setIfInBounds_toArray, List.set_cons_zero, List.set_cons_succ])
        | (refine mv_free _ (Or.inr ⟨by rfl, rfl⟩) (⟨k0, k1, k2, k3, k4, k5, k6, k7⟩) ?_
           simp only [Act.put, List.setIfInBounds_toArray, List.set_cons_zero, List.set_cons_succ])
    refine mv_step (fun K hK => ?_)
    go_simp
    refine (FL.out _).mono ?_
    rintro e w10 ⟨rfl, hb10⟩
    have hm10 := hm9.trans (hb10.mono (by have := hm9.size; have := hs3.out.2; omega))
    have hb10 := hb9.trans (hb10.mono (by have := hb9.size; have := hz.out; omega))
    clear hb9 hm9
    obtain ⟨k0, k1, k2, k3, k4, k5, k6, k7⟩ := hcs.out _ hb10
    obtain ⟨j0, j1, j2, j3, j4⟩ := hcs1.out _ hm10
    go_wp2_with fail
    refine hK.out _ _ _ (fun u hu => hu) (⟨k0, k1, k2, k3, k4, k5, k6, k7⟩) ?_
    clear hK K
    iterate 2
      first
        | (refine mv_free ?_ (Or.inl ⟨by rfl, ?_⟩) (⟨k0, k1, k2, k3, k4, k5, k6, k7⟩) ?_
           rotate_left 1
           · intro u
             go_simp
             try simp only [d1]
             try simp only [d2]
             try simp only [d3]
             try with_reducible rfl
           simp only [Act.put, List.setIfInBounds_toArray, List.set_cons_zero, List.set_cons_succ])
        | (refine mv_free _ (Or.inr ⟨by rfl, rfl⟩) (⟨k0, k1, k2, k3, k4, k5, k6, k7⟩) ?_
           simp only [Act.put, List.setIfInBounds_toArray, List.set_cons_zero, List.set_cons_succ])
    refine mv_done ?_
    go_wp2_with fail
    refine (LV.out _).mono ?_
    rintro e w20 ⟨rfl, hb20⟩
    have hb20 := hb10.trans (hb20.mono (by have := hb10.size; have := hz.out; omega))
    go_wp2
    go_ret
    exact ⟨rfl, hb0.out.trans (hb20.mono (by omega))⟩
  case true =>
    rw [hw] at R39 TU TR RA
    simp only [if_true] at TU TR
    obtain ⟨hg, -, ⟨a1, a2⟩, -⟩ := agB_at hw
    have T39 := Lib.hid (fun u => rturn39 ax ay cx cy X Y tau arm sh x1 x2 u a1 a2 hs)
    have R40 := Lib.hid (fun u (h : Below (w.heap.size + 2) V u) => rtrue39 ax ay cx cy X Y tau arm sh x0 x1 x2 u (hx.below (W u h)) (hy.below (W u h)) hg a1 a2 hs)
    generalize tuV x1 x2 arm = F at *
    generalize trV X Y arm x0 x1 x2 = G at *
    have d2 : (F == F) = true := by simp
    have d3 : (G == G) = true := by simp
    replace R39 := Lib.hid R39
    replace TU := Lib.hid TU
    replace TR := Lib.hid TR
    replace RA := Lib.hid RA
    clear hw hx hy hX hY W hs hg a1 a2
    replace hb0 := Lib.hid hb0
    replace hz := Lib.hid hz
    replace hcs := Lib.hid hcs
    replace eV := Lib.hid eV
    go_enter Try.func10, Try.ntmps10
    go_wp2_with fail
    rw [← eV.out]
    obtain ⟨k0, k1, k2, k3, k4, k5, k6, k7⟩ := hcs.out _ (Below.refl _ _)
    go_wp2_with fail
    refine (GR.out _).mono ?_
    rintro e w1 ⟨rfl, hb1⟩
    have hb1 := (Below.refl (w.heap.size + 2) V).trans (hb1.mono (Nat.le_of_eq hz.out.symm))
    obtain ⟨k0, k1, k2, k3, k4, k5, k6, k7⟩ := hcs.out _ hb1
    go_upto_region 4 with (fail)
    obtain ⟨V1, eV1, hm2, hz1, hcs1⟩ := vnr_box w1 ax ay cx cy X Y tau arm sh
    have hb2 := hb1.trans (hm2.mono (by have := hb1.size; have := hz.out; omega))
    replace eV1 := Lib.hid eV1
    rw [← eV1.out]
    obtain ⟨k0, k1, k2, k3, k4, k5, k6, k7⟩ := hcs.out _ hb2
    obtain ⟨j0, j1, j2, j3, j4⟩ := hcs1 _ (Below.refl _ _)
    clear hb1
    have hmv := Lib.hid hm2
    replace hm2 := Below.refl (w1.heap.size + 1) V1
    have hs3 := Lib.hid (show w.heap.size + 2 ≤ w1.heap.size + 1 ∧ V1.heap.size = w1.heap.size + 1 from ⟨by have := hb2.size; have := hz.out; omega, hz1⟩)
    clear hz1
    replace hcs1 := Lib.hid hcs1
    go_wp2_with fail
    refine (R39.out _ (hb2)).mono ?_
    rintro e w3 ⟨rfl, hb3⟩
    have hm3 := hm2.trans (hb3.mono (by have := hm2.size; have := hs3.out.2; omega))
    have hb3 := hb2.trans (hb3.mono (by have := hb2.size; have := hz.out; omega))
    clear hb2 hm2
    obtain ⟨k0, k1, k2, k3, k4, k5, k6, k7⟩ := hcs.out _ hb3
    obtain ⟨j0, j1, j2, j3, j4⟩ := hcs1.out _ hm3
    go_wp2_with fail
    refine (TU.out _ (hb3)).mono ?_
    rintro e w4 ⟨rfl, hb4⟩
    have hm4 := hm3.trans (hb4.mono (by have := hm3.size; have := hs3.out.2; omega))
    have hb4 := hb3.trans (hb4.mono (by have := hb3.size; have := hz.out; omega))
    clear hb3 hm3
    obtain ⟨k0, k1, k2, k3, k4, k5, k6, k7⟩ := hcs.out _ hb4
    obtain ⟨j0, j1, j2, j3, j4⟩ := hcs1.out _ hm4
    go_wp2_with fail
    refine (TR.out _ (hb4)).mono ?_
    rintro e w5 ⟨rfl, hb5⟩
    have hm5 := hm4.trans (hb5.mono (by have := hm4.size; have := hs3.out.2; omega))
    have hb5 := hb4.trans (hb5.mono (by have := hb4.size; have := hz.out; omega))
    clear hb4 hm4
    obtain ⟨k0, k1, k2, k3, k4, k5, k6, k7⟩ := hcs.out _ hb5
    obtain ⟨j0, j1, j2, j3, j4⟩ := hcs1.out _ hm5
    go_wp2_with fail
    refine region_moves (fun u => u.cell? ⟨w.heap.size, 0, none⟩ = some (.slice ax X.length cx) ∧ u.cell? ⟨w.heap.size, 1, none⟩ = some (.slice ay Y.length cy) ∧ u.cell? ⟨w.heap.size, 2, none⟩ = some (.int .i64 tau) ∧ u.cell? ⟨w.heap.size, 3, none⟩ = some (.int .i64 arm) ∧ u.cell? ⟨w.heap.size, 4, none⟩ = some (.int .i64 sh) ∧ u.cell? ⟨w.heap.size + 1, 0, none⟩ = some (.int .i64 x0) ∧ u.cell? ⟨w.heap.size + 1, 1, none⟩ = some (.int .i64 x1) ∧ u.cell? ⟨w.heap.size + 1, 2, none⟩ = some (.int .i64 x2)) [] [(.take, 0), (.free, 2), (.step, 1), (.free, 3), (.free, 4), (.free, 5), (.free, 6), (.free, 7), (.free, 8), (.free, 9), (.free, 10), (.free, 11), (.free, 12), (.free, 13), (.free, 14), (.free, 15), (.take, 16), (.free, 17), (.free, 19), (.take, 20), (.free, 22), (.step, 18), (.step, 21), (.step, 23), (.free, 24), (.step, 25), (.free, 26), (.free, 27)] _ (by kernel_rfl) (by kernel_rfl) (by kernel_rfl) (by kernel_rfl) (by decide) rfl (fun _ _ _ _ _ h => h) ?_
    simp only [List.filterMap_cons, List.filterMap_nil, List.getElem?_toArray, List.getElem?_cons_zero, List.getElem?_cons_succ, Option.map_some]
    iterate 1
      first
        | (refine mv_take ?_ (Or.inl ⟨by rfl, ?_⟩) (⟨k0, k1, k2, k3, k4, k5, k6, k7⟩) ?_
           rotate_left 1
           · intro u hu
             (try dsimp only at hu)
             go_simp
             try with_reducible rfl
           simp only [Act.put, List.setIfInBounds_toArray, List.set_cons_zero, List.set_cons_succ])
        | (refine mv_take _ (Or.inr ⟨by rfl, rfl⟩) (⟨k0, k1, k2, k3, k4, k5, k6, k7⟩) ?_
           simp only [Act.put, List.setIfInBounds_toArray, List.set_cons_zero, List.set_cons_succ])
    iterate 1
      first
        | (refine mv_free ?_ (Or.inl ⟨by rfl, ?_⟩) (⟨k0, k1, k2, k3, k4, k5, k6, k7⟩) ?_
           rotate_left 1
           · intro u
             go_simp
             try simp only [d1]
             try simp only [d2]
             try simp only [d3]
             try with_reducible rfl
           simp only [Act.put, List.setIfInBounds_toArray, List.set_cons_zero, List.set_cons_succ])
        | (refine mv_free _ (Or.inr ⟨by rfl, rfl⟩) (⟨k0, k1, k2, k3, k4, k5, k6, k7⟩) ?_
           simp only [Act.put, List.setIfInBounds_toArray, List.set_cons_zero, List.set_cons_succ])
    refine mv_step (fun K hK => ?_)
    go_simp
    refine (RA.out _ (hb5.drew)).mono ?_
    rintro e w6 ⟨rfl, hb6⟩
    have hm6 := hm5.drew.trans (hb6.mono (by have := hm5.size; have := hs3.out.2; show _ ≤ w5.heap.size; omega))
    have hb6 := hb5.drew.trans (hb6.mono (by have := hb5.size; have := hz.out; show _ ≤ w5.heap.size; omega))
    clear hb5 hm5
    obtain ⟨k0, k1, k2, k3, k4, k5, k6, k7⟩ := hcs.out _ hb6
    obtain ⟨j0, j1, j2, j3, j4⟩ := hcs1.out _ hm6
    go_wp2_with fail
    refine hK.out _ _ _ (fun u hu => hu) (⟨k0, k1, k2, k3, k4, k5, k6, k7⟩) ?_
    clear hK K
    iterate 13
      first
        | (refine mv_free ?_ (Or.inl ⟨by rfl, ?_⟩) (⟨k0, k1, k2, k3, k4, k5, k6, k7⟩) ?_
           rotate_left 1
           · intro u
             go_simp
             try simp only [d1]
             try simp only [d2]
             try simp only [d3]
             try with_reducible rfl
           simp only [Act.put, List.setIfInBounds_toArray, List.set_cons_zero, List.set_cons_succ])
        | (refine mv_free _ (Or.inr ⟨by rfl, rfl⟩) (⟨k0, k1, k2, k3, k4, k5, k6, k7⟩) ?_
           simp only [Act.put, List.setIfInBounds_toArray, List.set_cons_zero, List.set_cons_succ])
    iterate 1
      first
        | (refine mv_take ?_ (Or.inl ⟨by rfl, ?_⟩) (⟨k0, k1, k2, k3, k4, k5, k6, k7⟩) ?_
           rotate_left 1
           · intro u hu
             (try dsimp only at hu)
             go_simp
             try with_reducible rfl
           simp only [Act.put, List.setIfInBounds_toArray, List.set_cons_zero, List.set_cons_succ])
        | (refine mv_take _ (Or.inr ⟨by rfl, rfl⟩) (⟨k0, k1, k2, k3, k4, k5, k6, k7⟩) ?_
           simp only [Act.put, List.setIfInBounds_toArray, List.set_cons_zero, List.set_cons_succ])
    iterate 2
      first
        | (refine mv_free ?_ (Or.inl ⟨by rfl, ?_⟩) (⟨k0, k1, k2, k3, k4, k5, k6, k7⟩) ?_
           rotate_left 1
           · intro u
             go_simp
             try simp only [d1]
             try simp only [d2]
             try simp only [d3]
             try with_reducible rfl
           simp only [Act.put, List.setIfInBounds_toArray, List.set_cons_zero, List.set_cons_succ])
        | (refine mv_free _ (Or.inr ⟨by rfl, rfl⟩) (⟨k0, k1, k2, k3, k4, k5, k6, k7⟩) ?_
           simp only [Act.put, List.setIfInBounds_toArray, List.set_cons_zero, List.set_cons_succ])
    iterate 1
      first
        | (refine mv_take ?_ (Or.inl ⟨by rfl, ?_⟩) (⟨k0, k1, k2, k3, k4, k5, k6, k7⟩) ?_
           rotate_left 1
           · intro u hu
             (try dsimp only at hu)
             go_simp
             try with_reducible rfl
           simp only [Act.put, List.setIfInBounds_toArray, List.set_cons_zero, List.set_cons_succ])
        | (refine mv_take _ (Or.inr ⟨by rfl, rfl⟩) (⟨k0, k1, k2, k3, k4, k5, k6, k7⟩) ?_
           simp only [Act.put, List.setIfInBounds_toArray, List.set_cons_zero, List.set_cons_succ])
    iterate 1
      first
        | (refine mv_free ?_ (Or.inl ⟨by rfl, ?_⟩) (⟨k0, k1, k2, k3, k4, k5, k6, k7⟩) ?_
           rotate_left 1
           · intro u
             go_simp
             try simp only [d1]
             try simp only [d2]
             try simp only [d3]
             try with_reducible rfl
           simp only [Act.put, List.setIfInBounds_toArray, List.set_cons_zero, List.set_cons_succ])
        | (refine mv_free _ (Or.inr ⟨by rfl, rfl⟩) (⟨k0, k1, k2, k3, k4, k5, k6, k7⟩) ?_
           simp only [Act.put, List.setIfInBounds_toArray, List.set_cons_zero, List.set_cons_succ])
    refine mv_step (fun K hK => ?_)
    go_simp
    refine (SL.out _).mono ?_
    rintro e w7 ⟨rfl, hb7⟩
    have hm7 := hm6.trans (hb7.mono (by have := hm6.size; have := hs3.out.2; omega))
    have hb7 := hb6.trans (hb7.mono (by have := hb6.size; have := hz.out; omega))
    clear hb6 hm6
    obtain ⟨k0, k1, k2, k3, k4, k5, k6, k7⟩ := hcs.out _ hb7
    obtain ⟨j0, j1, j2, j3, j4⟩ := hcs1.out _ hm7
    go_wp2_with fail
    refine hK.out _ _ _ (fun u hu => hu) (⟨k0, k1, k2, k3, k4, k5, k6, k7⟩) ?_
    clear hK K
    refine mv_step (fun K hK => ?_)
    go_simp
    refine (C0.out _).mono ?_
    rintro e w8 ⟨rfl, hb8⟩
    have hm8 := hm7.trans (hb8.mono (by have := hm7.size; have := hs3.out.2; omega))
    have hb8 := hb7.trans (hb8.mono (by have := hb7.size; have := hz.out; omega))
    clear hb7 hm7
    obtain ⟨k0, k1, k2, k3, k4, k5, k6, k7⟩ := hcs.out _ hb8
    obtain ⟨j0, j1, j2, j3, j4⟩ := hcs1.out _ hm8
    go_wp2_with fail
    refine hK.out _ _ _ (fun u hu => hu) (⟨k0, k1, k2, k3, k4, k5, k6, k7⟩) ?_
    clear hK K
    refine mv_step (fun K hK => ?_)
    go_simp
    refine (CO.out _).mono ?_
    rintro e w9 ⟨rfl, hb9⟩
    have hm9 := hm8.trans (hb9.mono (by have := hm8.size; have := hs3.out.2; omega))
    have hb9 := hb8.trans (hb9.mono (by have := hb8.size; have := hz.out; omega))
    clear hb8 hm8
    obtain ⟨k0, k1, k2, k3, k4, k5, k6, k7⟩ := hcs.out _ hb9
    obtain ⟨j0, j1, j2, j3, j4⟩ := hcs1.out _ hm9
    go_wp2_with fail
    refine hK.out _ _ _ (fun u hu => hu) (⟨k0, k1, k2, k3, k4, k5, k6, k7⟩) ?_
    clear hK K
    iterate 1
      first
        | (refine mv_free ?_ (Or.inl ⟨by rfl, ?_⟩) (⟨k0, k1, k2, k3, k4, k5, k6, k7⟩) ?_
           rotate_left 1
           · intro u
             go_simp
             try simp only [d1]
             try simp only [d2]
             try simp only [d3]
             try with_reducible rfl
           simp only [Act.put, List.setIfInBounds_toArray, List.set_cons_zero, List.set_cons_succ])
        | (refine mv_free _ (Or.inr ⟨by rfl, rfl⟩) (⟨k0, k1, k2, k3, k4, k5, k6, k7⟩) ?_
           simp only [Act.put, List.setIfInBounds_toArray, List.set_cons_zero, List.set_cons_succ])
    refine mv_step (fun K hK => ?_)
    go_simp
    refine (FL.out _).mono ?_
    rintro e w10 ⟨rfl, hb10⟩
    have hm10 := hm9.trans (hb10.mono (by have := hm9.size; have := hs3.out.2; omega))
    have hb10 := hb9.trans (hb10.mono (by have := hb9.size; have := hz.out; omega))
    clear hb9 hm9
    obtain ⟨k0, k1, k2, k3, k4, k5, k6, k7⟩ := hcs.out _ hb10
    obtain ⟨j0, j1, j2, j3, j4⟩ := hcs1.out _ hm10
    go_wp2_with fail
    refine hK.out _ _ _ (fun u hu => hu) (⟨k0, k1, k2, k3, k4, k5, k6, k7⟩) ?_
    clear hK K
    iterate 2
      first
        | (refine mv_free ?_ (Or.inl ⟨by rfl, ?_⟩) (⟨k0, k1, k2, k3, k4, k5, k6, k7⟩) ?_
           rotate_left 1
           · intro u
             go_simp
             try simp only [d1]
             try simp only [d2]
             try simp only [d3]
             try with_reducible rfl
           simp only [Act.put, List.setIfInBounds_toArray, List.set_cons_zero, List.set_cons_succ])
        | (refine mv_free _ (Or.inr ⟨by rfl, rfl⟩) (⟨k0, k1, k2, k3, k4, k5, k6, k7⟩) ?_
           simp only [Act.put, List.setIfInBounds_toArray, List.set_cons_zero, List.set_cons_succ])
    refine mv_done ?_
    go_wp2_with fail
    refine (T39.out _).mono ?_
    rintro e w11 ⟨rfl, hb11⟩
    have hm11 := hm10.trans (hb11.mono (by have := hm10.size; have := hs3.out.2; omega))
    have hb11 := hb10.trans (hb11.mono (by have := hb10.size; have := hz.out; omega))
    clear hb10 hm10
    obtain ⟨k0, k1, k2, k3, k4, k5, k6, k7⟩ := hcs.out _ hb11
    obtain ⟨j0, j1, j2, j3, j4⟩ := hcs1.out _ hm11
    go_wp2_with fail
    refine (R40.out _ (hb11)).mono ?_
    rintro e w12 ⟨rfl, hb12⟩
    have hm12 := hm11.trans (hb12.mono (by have := hm11.size; have := hs3.out.2; omega))
    have hb12 := hb11.trans (hb12.mono (by have := hb11.size; have := hz.out; omega))
    clear hb11 hm11
    obtain ⟨k0, k1, k2, k3, k4, k5, k6, k7⟩ := hcs.out _ hb12
    obtain ⟨j0, j1, j2, j3, j4⟩ := hcs1.out _ hm12
    go_wp2_with fail
    refine (LV.out _).mono ?_
    rintro e w20 ⟨rfl, hb20⟩
    have hb20 := hb12.trans (hb20.mono (by have := hb12.size; have := hz.out; omega))
    go_wp2
    go_ret
    exact ⟨rfl, hb0.out.trans (hb20.mono (by omega))⟩
theorem anw_box (w : World) (ax ay : Option Addr) (cx cy : Nat) (X Y : List Int) (tau arm sh : Int) (x0 x1 y0 y1 : Int) : ∃ V, V = (((w.alloc (.cells #[.slice ax X.length cx, .slice ay Y.length cy, .int .i64 tau, .int .i64 arm, .int .i64 sh] 59)).alloc (.cells #[.int .i64 x0, .int .i64 x1] 70)).alloc (.cells #[.int .i64 y0, .int .i64 y1] 70)) ∧ Below w.heap.size w V ∧ V.heap.size = w.heap.size + 3 ∧ ∀ u, Below (w.heap.size + 3) V u → u.cell? ⟨w.heap.size, 0, none⟩ = some (.slice ax X.length cx) ∧ u.cell? ⟨w.heap.size, 1, none⟩ = some (.slice ay Y.length cy) ∧ u.cell? ⟨w.heap.size, 2, none⟩ = some (.int .i64 tau) ∧ u.cell? ⟨w.heap.size, 3, none⟩ = some (.int .i64 arm) ∧ u.cell? ⟨w.heap.size, 4, none⟩ = some (.int .i64 sh) ∧ u.cell? ⟨w.heap.size + 1, 0, none⟩ = some (.int .i64 x0) ∧ u.cell? ⟨w.heap.size + 1, 1, none⟩ = some (.int .i64 x1) ∧ u.cell? ⟨w.heap.size + 2, 0, none⟩ = some (.int .i64 y0) ∧ u.cell? ⟨w.heap.size + 2, 1, none⟩ = some (.int .i64 y1) :=
  ⟨_, rfl, (by repeat (first | exact Below.refl _ _ | assumption | apply Below.drew | apply below_drewN | (refine Below.alloc ?_ (by first | exact Nat.le_refl _ | omega | (simp <;> omega)) _) | (refine Below.setCell ?_ (by first | exact Nat.le_refl _ | omega | (simp <;> omega)) _))), by simp, fun u hu => ⟨(bc hu (by omega)).trans (by go_simp), (bc hu (by omega)).trans (by go_simp), (bc hu (by omega)).trans (by go_simp), (bc hu (by omega)).trans (by go_simp), (bc hu (by omega)).trans (by go_simp), (bc hu (by omega)).trans (by go_simp), (bc hu (by omega)).trans (by go_simp), (bc hu (by omega)).trans (by go_simp), (bc hu (by omega)).trans (by go_simp)⟩⟩
set_option maxRecDepth 100000 in
set_option maxHeartbeats 8000000 in
theorem law_AoaNew (ax ay : Option Addr) (cx cy : Nat) (X Y : List Int) (tau arm sh : Int) (x0 x1 y0 y1 : Int) (w : World) (hx : RowIs .i64 w ax X) (hy : RowIs .i64 w ay Y) :
    Calls Try.prog 11 #[.agg #[.slice ax X.length cx, .slice ay Y.length cy, .int .i64 tau, .int .i64 arm, .int .i64 sh], .agg #[.int .i64 x0, .int .i64 x1], .agg #[.int .i64 y0, .int .i64 y1]] w fun e w' => e = .returned (.bool true) ∧ Below w.heap.size w w' := by
  have LV := Lib.hid (fun u => lives39 u)
  have GR := fun u => agreat_any ax ay cx cy X Y u
  obtain ⟨V, eV, hb0, hz, hcs⟩ := anw_box w ax ay cx cy X Y tau arm sh x0 x1 y0 y1
  have W := fun u (h : Below (w.heap.size + 3) V u) => show Below w.heap.size w u from hb0.trans (h.mono (by omega))
  cases hgr : (decide (300 < X.length) || decide (300 < Y.length))
  case true =>
    rw [hgr] at GR
    replace GR := Lib.hid GR
    clear hgr hx hy W
    replace hb0 := Lib.hid hb0
    replace hz := Lib.hid hz
    replace hcs := Lib.hid hcs
    replace eV := Lib.hid eV
    go_enter Try.func11, Try.ntmps11
    go_wp2_with fail
    rw [← eV.out]
    obtain ⟨k0, k1, k2, k3, k4, k5, k6, k7, k8⟩ := hcs.out _ (Below.refl _ _)
    go_wp2_with fail
    refine (GR.out _).mono ?_
    rintro e w1 ⟨rfl, hb1⟩
    have hb1 := (Below.refl (w.heap.size + 3) V).trans (hb1.mono (Nat.le_of_eq hz.out.symm))
    obtain ⟨k0, k1, k2, k3, k4, k5, k6, k7, k8⟩ := hcs.out _ hb1
    go_wp2_with fail
    refine (LV.out _).mono ?_
    rintro e w2 ⟨rfl, hb2⟩
    have hb2 := hb1.trans (hb2.mono (by have := hb1.size; have := hz.out; omega))
    clear hb1
    go_wp2
    go_ret
    exact ⟨rfl, hb0.out.trans (hb2.mono (by omega))⟩
  rw [hgr] at GR
  replace GR := Lib.hid GR
  have hX : X.length ≤ 300 := by simp at hgr; omega
  have hY : Y.length ≤ 300 := by simp at hgr; omega
  clear hgr
  have RR := fun u (h : Below (w.heap.size + 3) V u) => rright39 ax ay cx cy X Y tau arm sh u (hx.below (W u h)) (hy.below (W u h)) hX hY
  have SN := Lib.hid (fun u => astep_nil x0 x1 y0 y1 0 0 u)
  have AN := Lib.hid (fun u => aalpha_nil u)
  have RN := Lib.hid (fun u => areset_nil u)
  have AM := Lib.hid (fun b f g1 c1 g2 c2 u h => aalpha_any b f g1 c1 g2 c2 X Y tau arm sh 0 false u h)
  cases hw : agB X Y tau arm sh
  case false =>
    rw [hw] at RR
    have NW := Lib.hid (fun u (h : Below (w.heap.size + 3) V u) => aonew_no ax ay cx cy X Y tau arm sh u (hx.below (W u h)) (hy.below (W u h)) hX hY hw)
    replace RR := Lib.hid RR
    clear hw hx hy hX hY W AM
    replace hb0 := Lib.hid hb0
    replace hz := Lib.hid hz
    replace hcs := Lib.hid hcs
    replace eV := Lib.hid eV
    go_enter Try.func11, Try.ntmps11
    go_wp2_with fail
    rw [← eV.out]
    obtain ⟨k0, k1, k2, k3, k4, k5, k6, k7, k8⟩ := hcs.out _ (Below.refl _ _)
    go_wp2_with fail
    refine (GR.out _).mono ?_
    rintro e w1 ⟨rfl, hb1⟩
    have hb1 := (Below.refl (w.heap.size + 3) V).trans (hb1.mono (Nat.le_of_eq hz.out.symm))
    obtain ⟨k0, k1, k2, k3, k4, k5, k6, k7, k8⟩ := hcs.out _ hb1
    go_wp2_with fail
    refine (NW.out _ hb1).mono ?_
    rintro e w2 ⟨rfl, hb2⟩
    have hb2 := hb1.trans (hb2.mono (by have := hb1.size; have := hz.out; omega))
    clear hb1
    obtain ⟨k0, k1, k2, k3, k4, k5, k6, k7, k8⟩ := hcs.out _ hb2
    go_wp2_with fail
    refine (RN.out _).mono ?_
    rintro e w3 ⟨rfl, rfl⟩
    go_wp2_with fail
    refine (SN.out _).mono ?_
    rintro e w4 ⟨rfl, hb4⟩
    have hb4 := hb2.trans (hb4.mono (by have := hb2.size; have := hz.out; omega))
    clear hb2
    obtain ⟨k0, k1, k2, k3, k4, k5, k6, k7, k8⟩ := hcs.out _ hb4
    go_wp2_with fail
    refine (AN.out _).mono ?_
    rintro e w5 ⟨rfl, rfl⟩
    go_wp2_with fail
    refine (RR.out _ hb4).mono ?_
    rintro e w6 ⟨rfl, hb6⟩
    have hb6 := hb4.trans (hb6.mono (by have := hb4.size; have := hz.out; omega))
    clear hb4
    obtain ⟨k0, k1, k2, k3, k4, k5, k6, k7, k8⟩ := hcs.out _ hb6
    go_wp2_with fail
    refine (LV.out _).mono ?_
    rintro e w7 ⟨rfl, hb7⟩
    have hb7 := hb6.trans (hb7.mono (by have := hb6.size; have := hz.out; omega))
    clear hb6
    go_wp2
    go_ret
    exact ⟨rfl, hb0.out.trans (hb7.mono (by omega))⟩
  case true =>
    rw [hw] at RR
    have NW := Lib.hid (fun u (h : Below (w.heap.size + 3) V u) => aonew_ok ax ay cx cy X Y tau arm sh u (hx.below (W u h)) (hy.below (W u h)) hX hY hw)
    replace RR := Lib.hid RR
    clear hw hx hy hX hY W
    replace hb0 := Lib.hid hb0
    replace hz := Lib.hid hz
    replace hcs := Lib.hid hcs
    replace eV := Lib.hid eV
    go_enter Try.func11, Try.ntmps11
    go_wp2_with fail
    rw [← eV.out]
    obtain ⟨k0, k1, k2, k3, k4, k5, k6, k7, k8⟩ := hcs.out _ (Below.refl _ _)
    go_wp2_with fail
    refine (GR.out _).mono ?_
    rintro e w1 ⟨rfl, hb1⟩
    have hb1 := (Below.refl (w.heap.size + 3) V).trans (hb1.mono (Nat.le_of_eq hz.out.symm))
    obtain ⟨k0, k1, k2, k3, k4, k5, k6, k7, k8⟩ := hcs.out _ hb1
    go_wp2_with fail
    refine (NW.out _ hb1).mono ?_
    rintro e w2 ⟨b, f, h1, c1, h2, c2, rfl, hM, -, -, hb2⟩
    have hb2 := hb1.trans (hb2.mono (by have := hb1.size; have := hz.out; omega))
    replace hM := Lib.hid hM
    clear hb1
    have hm2 := Below.refl w2.heap.size w2
    obtain ⟨k0, k1, k2, k3, k4, k5, k6, k7, k8⟩ := hcs.out _ hb2
    go_wp2_with fail
    refine (RN.out _).mono ?_
    rintro e w3 ⟨rfl, rfl⟩
    go_wp2_with fail
    refine (SN.out _).mono ?_
    rintro e w4 ⟨rfl, hb4⟩
    have hm4 := hm2.trans (hb4.mono hm2.size)
    have hb4 := hb2.trans (hb4.mono (by have := hb2.size; have := hz.out; omega))
    clear hb2
    obtain ⟨k0, k1, k2, k3, k4, k5, k6, k7, k8⟩ := hcs.out _ hb4
    go_wp2_with fail
    refine (AN.out _).mono ?_
    rintro e w5 ⟨rfl, rfl⟩
    go_wp2_with fail
    refine (RR.out _ hb4).mono ?_
    rintro e w6 ⟨rfl, hb6⟩
    have hm6 := hm4.trans (hb6.mono hm4.size)
    have hb6 := hb4.trans (hb6.mono (by have := hb4.size; have := hz.out; omega))
    clear hb4
    obtain ⟨k0, k1, k2, k3, k4, k5, k6, k7, k8⟩ := hcs.out _ hb6
    go_wp2_with fail
    refine (AM.out _ _ _ _ _ _ _ (hM.out.bel hm6)).mono ?_
    rintro e w7 ⟨rfl, hb7⟩
    have hb7 := hb6.trans (hb7.mono (by have := hb6.size; have := hz.out; omega))
    clear hb6 hm6
    go_wp2_with fail
    refine (LV.out _).mono ?_
    rintro e w8 ⟨rfl, hb8⟩
    have hb8 := hb7.trans (hb8.mono (by have := hb7.size; have := hz.out; omega))
    clear hb7
    go_wp2
    go_ret
    exact ⟨rfl, hb0.out.trans (hb8.mono (by omega))⟩
end Go.Proofs.Ytmmenpaodofahaa
