/- The law SsecFlat; walked. -/
import Derived.Test.YticecjjlafmclaaSsec9
import Derived.Deep.Cut
namespace Go.Proofs.Yticecjjlafmclaa
open Go.ChangeShapes Go.WideShapes Go.ChangeAt Go.RowKit
set_option linter.unusedVariables false
set_option linter.unusedSimpArgs false

theorem flN_row (n : Int) (i : Nat) (hi : i < (flN n).length) : (flN n).getD i [] = [n, n] := by
  have h2 : i < 2 := hi
  rcases (show i = 0 ∨ i = 1 by omega) with rfl | rfl <;> rfl
/-- A flat sheet's rows lie there. -/
structure FlR (n : Int) (g1 g2 g3 g4 g5 : Nat) (v : World) : Prop where
  x : RowIs .i64 v (some ⟨g1, 0, none⟩) flX
  y : RowIs .i64 v (some ⟨g2, 0, none⟩) flY
  z : GridIs .i64 v (some ⟨g3, 0, none⟩) (two (some ⟨g4, 0, none⟩) (some ⟨g5, 0, none⟩)) (fun _ => 2) (flN n)
theorem FlR.bel {n : Int} {g1 g2 g3 g4 g5 : Nat} {v v' : World} (h : FlR n g1 g2 g3 g4 g5 v) (k : Below v.heap.size v v') : FlR n g1 g2 g3 g4 g5 v' := ⟨h.x.below k, h.y.below k, h.z.below k⟩
theorem stF_const {n : Int} {r : Int} (hs : scB r flX flY (flN n) = true) (q al p : Int) (hp : 1 ≤ p - n) : ∀ k, stF flX flY (flN n) q p al (k + 1) = p - n := by
  intro k
  show max (p - erF flX flY (flN n) q p al (stF flX flY (flN n) q p al k)) 1 = p - n
  rw [erF_const (scB_sh hs) (flN_all n)]
  omega
theorem flN_abs {n r : Int} (hs : scB r flX flY (flN n) = true) : -100000 ≤ n ∧ n ≤ 100000 := by
  have := erF_bd hs 0 1 0 1
  rw [erF_const (scB_sh hs) (flN_all n)] at this
  exact this
theorem sf_box (w : World) (q p al : Int) : ∃ V, V = (w.alloc (.cells #[.int .i64 q, .int .i64 p, .int .i64 al] 22)) ∧ Below w.heap.size w V ∧ V.heap.size = w.heap.size + 1 ∧ ∀ u, Below (w.heap.size + 1) V u → u.cell? ⟨w.heap.size, 0, none⟩ = some (.int .i64 q) ∧ u.cell? ⟨w.heap.size, 1, none⟩ = some (.int .i64 p) ∧ u.cell? ⟨w.heap.size, 2, none⟩ = some (.int .i64 al) :=
  ⟨_, rfl, (by repeat (first | exact Below.refl _ _ | assumption | apply Below.drew | apply below_drewN | (refine Below.alloc ?_ (by first | exact Nat.le_refl _ | omega | (simp <;> omega)) _) | (refine Below.setCell ?_ (by first | exact Nat.le_refl _ | omega | (simp <;> omega)) _))), by simp, fun u hu => ⟨(bc hu (by omega)).trans (by go_simp), (bc hu (by omega)).trans (by go_simp), (bc hu (by omega)).trans (by go_simp)⟩⟩
theorem sg_box (w : World) (g1 g2 g3 : Nat) (r : Int) : ∃ V, V = (w.alloc (.cells #[.slice (some ⟨g1, 0, none⟩) 2 2, .slice (some ⟨g2, 0, none⟩) 2 2, .slice (some ⟨g3, 0, none⟩) 2 2, .int .i64 r] 29)) ∧ Below w.heap.size w V ∧ V.heap.size = w.heap.size + 1 ∧ ∀ u, Below (w.heap.size + 1) V u → u.cell? ⟨w.heap.size, 0, none⟩ = some (.slice (some ⟨g1, 0, none⟩) 2 2) ∧ u.cell? ⟨w.heap.size, 1, none⟩ = some (.slice (some ⟨g2, 0, none⟩) 2 2) ∧ u.cell? ⟨w.heap.size, 2, none⟩ = some (.slice (some ⟨g3, 0, none⟩) 2 2) ∧ u.cell? ⟨w.heap.size, 3, none⟩ = some (.int .i64 r) :=
  ⟨_, rfl, (by repeat (first | exact Below.refl _ _ | assumption | apply Below.drew | apply below_drewN | (refine Below.alloc ?_ (by first | exact Nat.le_refl _ | omega | (simp <;> omega)) _) | (refine Below.setCell ?_ (by first | exact Nat.le_refl _ | omega | (simp <;> omega)) _))), by simp, fun u hu => ⟨(bc hu (by omega)).trans (by go_simp), (bc hu (by omega)).trans (by go_simp), (bc hu (by omega)).trans (by go_simp), (bc hu (by omega)).trans (by go_simp)⟩⟩
set_option maxRecDepth 100000 in
set_option maxHeartbeats 8000000 in
theorem law_SsecFlat (n r q p al : Int) (w : World) : Calls Try.prog 3 #[.int .i64 n, .int .i64 r, .agg #[.int .i64 q, .int .i64 p, .int .i64 al]] w fun e w' => e = .returned (.bool true) ∧ Below w.heap.size w w' := by
  obtain ⟨V, eV, hb0, hz, hcs⟩ := sf_box w q p al
  have LV := Lib.hid (fun u => lives38 u)
  have FL := Lib.hid (fun u => sscflat n u)
  have RS := fun g1 g2 g3 g4 g5 u (z : FlR n g1 g2 g3 g4 g5 u) => show Calls Try.prog 10 #[.agg #[.slice (some ⟨g1, 0, none⟩) 2 2, .slice (some ⟨g2, 0, none⟩) 2 2, .slice (some ⟨g3, 0, none⟩) 2 2, .int .i64 r]] u fun e w' => e = .returned (.bool (scB r flX flY (flN n))) ∧ Below u.heap.size u w' from sscright (some ⟨g1, 0, none⟩) (some ⟨g2, 0, none⟩) (some ⟨g3, 0, none⟩) (two (some ⟨g4, 0, none⟩) (some ⟨g5, 0, none⟩)) (fun _ => 2) 2 2 2 flX flY (flN n) r u z.x z.y z.z (by decide) (by decide) (by show 2 ≤ 50; omega) (fun i hi => by rw [flN_row n i hi]; show 2 ≤ 50; omega)
  cases hs : scB r flX flY (flN n)
  · have RD := fun g1 g2 g3 g4 g5 u (z : FlR n g1 g2 g3 g4 g5 u) => show Calls Try.prog 11 #[.agg #[.slice (some ⟨g1, 0, none⟩) 2 2, .slice (some ⟨g2, 0, none⟩) 2 2, .slice (some ⟨g3, 0, none⟩) 2 2], .int .i64 r] u fun e w' => e = .returned (.bool (scB r flX flY (flN n))) ∧ Below u.heap.size u w' from rsc38 (some ⟨g1, 0, none⟩) (some ⟨g2, 0, none⟩) (some ⟨g3, 0, none⟩) (two (some ⟨g4, 0, none⟩) (some ⟨g5, 0, none⟩)) (fun _ => 2) 2 2 2 flX flY (flN n) r u z.x z.y z.z (by decide) (by decide) (by show 2 ≤ 50; omega) (fun i hi => by rw [flN_row n i hi]; show 2 ≤ 50; omega)
    rw [hs] at RS RD
    replace RS := Lib.hid RS
    replace RD := Lib.hid RD
    clear hs
    replace hb0 := Lib.hid hb0
    replace hz := Lib.hid hz
    replace hcs := Lib.hid hcs
    replace eV := Lib.hid eV
    go_enter Try.func3, Try.ntmps3
    go_upto_region 1 with (fail)
    rw [← eV.out]
    obtain ⟨k0, k1, k2⟩ := hcs.out _ (Below.refl _ _)
    go_wp2_with fail
    refine (FL.out _).mono ?_
    rintro e w1 ⟨g1, g2, g3, g4, g5, rfl, h1, h2, h3, hb1⟩
    have hb1 := (Below.refl (w.heap.size + 1) V).trans (hb1.mono (Nat.le_of_eq hz.out.symm))
    have hR := Lib.hid (show FlR n g1 g2 g3 g4 g5 w1 from ⟨h1, h2, h3⟩)
    clear h1 h2 h3 k0 k1 k2
    go_upto_region 2 with (fail)
    obtain ⟨V1, eV1, hm0, hz9, hcs1⟩ := sg_box w1 g1 g2 g3 r
    rw [← eV1]
    have hR1 := Lib.hid (hR.out.bel hm0)
    have hb2 := hb1.trans (hm0.mono (by have := hb1.size; have := hz.out; omega))
    have hj2 := Below.refl (w1.heap.size + 1) V1
    replace eV1 := Lib.hid eV1
    replace hcs1 := Lib.hid hcs1
    replace hz9 := Lib.hid hz9
    clear hR hb1 hm0
    obtain ⟨j0, j1, j2, j3⟩ := hcs1.out _ hj2
    go_wp2_with fail
    refine (RS.out _ _ _ _ _ _ hR1.out).mono ?_
    rintro e w3 ⟨rfl, hb3⟩
    have hR3 := Lib.hid (hR1.out.bel hb3)
    have hj3 := hj2.trans (hb3.mono (by have := hj2.size; have := hz9.out; omega))
    have hb3 := hb2.trans (hb3.mono (by have := hb2.size; have := hz.out; omega))
    clear hb2 hj2 hR1
    obtain ⟨j0, j1, j2, j3⟩ := hcs1.out _ hj3
    obtain ⟨k0, k1, k2⟩ := hcs.out _ hb3
    go_wp2_with fail
    refine (RD.out _ _ _ _ _ _ hR3.out).mono ?_
    rintro e w4 ⟨rfl, hb4⟩
    have hR4 := Lib.hid (hR3.out.bel hb4)
    have hj4 := hj3.trans (hb4.mono (by have := hj3.size; have := hz9.out; omega))
    have hb4 := hb3.trans (hb4.mono (by have := hb3.size; have := hz.out; omega))
    clear hb3 hj3 hR3
    obtain ⟨j0, j1, j2, j3⟩ := hcs1.out _ hj4
    obtain ⟨k0, k1, k2⟩ := hcs.out _ hb4
    go_wp2_with fail
    refine (LV.out _).mono ?_
    rintro e w20 ⟨rfl, hb20⟩
    have hb20 := hb4.trans (hb20.mono (by have := hb4.size; have := hz.out; omega))
    go_wp2
    go_ret
    exact ⟨rfl, hb0.out.trans (hb20.mono (by omega))⟩
  · rw [hs] at RS
    replace RS := Lib.hid RS
    have nb := flN_abs hs
    have hr := scB_ws hs
    obtain ⟨Q, eQ⟩ : ∃ Q, Q = c09 q 200000 1000000000 := ⟨_, rfl⟩
    obtain ⟨P, eP⟩ : ∃ P, P = c09 p 200000 1000000000 := ⟨_, rfl⟩
    have bQ : 200000 ≤ Q ∧ Q ≤ 1000000000 := by rw [eQ]; exact c09_bd _ _ _ (by omega)
    have bP : 200000 ≤ P ∧ P ≤ 1000000000 := by rw [eP]; exact c09_bd _ _ _ (by omega)
    have C1 := fun u => c09_any q 200000 1000000000 (by omega) u
    have C2 := fun u => c09_any p 200000 1000000000 (by omega) u
    rw [← eQ] at C1
    rw [← eP] at C2
    replace C1 := Lib.hid C1
    replace C2 := Lib.hid C2
    have cQ : clQ Q = Q := by unfold clQ; omega
    have cP : clP P = P := by unfold clP; omega
    have cA : clQ (Q - n) = Q - n := by unfold clQ; omega
    have cB : clP (P + n) = P + n := by unfold clP; omega
    have MM := fun g1 g2 g3 g4 g5 u (z : FlR n g1 g2 g3 g4 g5 u) => sscmea (some ⟨g1, 0, none⟩) (some ⟨g2, 0, none⟩) (some ⟨g3, 0, none⟩) (two (some ⟨g4, 0, none⟩) (some ⟨g5, 0, none⟩)) (fun _ => 2) 2 2 2 flX flY (flN n) r Q P al u z.x z.y z.z (by decide) (by decide) (by show 2 ≤ 50; omega) (fun i hi => by rw [flN_row n i hi]; show 2 ≤ 50; omega)
    have II := fun g1 g2 g3 g4 g5 u (z : FlR n g1 g2 g3 g4 g5 u) => sscimp (some ⟨g1, 0, none⟩) (some ⟨g2, 0, none⟩) (some ⟨g3, 0, none⟩) (two (some ⟨g4, 0, none⟩) (some ⟨g5, 0, none⟩)) (fun _ => 2) 2 2 2 flX flY (flN n) r (Q - n) (P + n) al u z.x z.y z.z (by decide) (by decide) (by show 2 ≤ 50; omega) (fun i hi => by rw [flN_row n i hi]; show 2 ≤ 50; omega)
    obtain ⟨k, ek⟩ : ∃ k, r.toNat = k + 1 := ⟨r.toNat - 1, by omega⟩
    simp only [hs, if_true, cQ, cP, erF_const (scB_sh hs) (flN_all n)] at MM
    simp only [hs, if_true, cA, cB, ek, stF_const hs (Q - n) al (P + n) (by omega)] at II
    rw [show max (P + n) 1 = P + n by omega, show max (Q + P - (P + n)) 0 = Q - n by omega] at MM
    rw [show P + n - n = P by omega, show max (Q - n + (P + n) - P) 0 = Q by omega] at II
    replace MM : ∀ g1 g2 g3 g4 g5 u, FlR n g1 g2 g3 g4 g5 u → Calls Try.prog 14 #[.agg #[.slice (some ⟨g1, 0, none⟩) 2 2, .slice (some ⟨g2, 0, none⟩) 2 2, .slice (some ⟨g3, 0, none⟩) 2 2, .int .i64 r], .int .i64 Q, .int .i64 P, .int .i64 al] u fun e w' => e = .returned (.tuple #[.int .i64 (Q - n), .int .i64 (P + n), .bool true]) ∧ Below u.heap.size u w' := MM
    replace II : ∀ g1 g2 g3 g4 g5 u, FlR n g1 g2 g3 g4 g5 u → Calls Try.prog 15 #[.agg #[.slice (some ⟨g1, 0, none⟩) 2 2, .slice (some ⟨g2, 0, none⟩) 2 2, .slice (some ⟨g3, 0, none⟩) 2 2, .int .i64 r], .int .i64 (Q - n), .int .i64 (P + n), .int .i64 al] u fun e w' => e = .returned (.tuple #[.int .i64 Q, .int .i64 P, .bool true]) ∧ Below u.heap.size u w' := II
    have n1 : IntKind.i64.wrap (P + n) = P + n := by rw [IntKind.wrap_i64]; omega
    obtain ⟨A, eA⟩ : ∃ A, A = Q - n := ⟨_, rfl⟩
    obtain ⟨D, eD⟩ : ∃ D, D = P + n := ⟨_, rfl⟩
    rw [← eA, ← eD] at MM II
    rw [← eD] at n1
    replace n1 : IntKind.i64.wrap (P + n) = D := by rw [eD, IntKind.wrap_i64]; omega
    replace MM := Lib.hid MM
    replace II := Lib.hid II
    clear hs nb hr eQ eP bQ bP cQ cP cA cB ek eA eD
    replace hb0 := Lib.hid hb0
    replace hz := Lib.hid hz
    replace hcs := Lib.hid hcs
    replace eV := Lib.hid eV
    go_enter Try.func3, Try.ntmps3
    go_upto_region 1 with (fail)
    rw [← eV.out]
    obtain ⟨k0, k1, k2⟩ := hcs.out _ (Below.refl _ _)
    go_wp2_with fail
    refine (FL.out _).mono ?_
    rintro e w1 ⟨g1, g2, g3, g4, g5, rfl, h1, h2, h3, hb1⟩
    have hb1 := (Below.refl (w.heap.size + 1) V).trans (hb1.mono (Nat.le_of_eq hz.out.symm))
    have hR := Lib.hid (show FlR n g1 g2 g3 g4 g5 w1 from ⟨h1, h2, h3⟩)
    clear h1 h2 h3 k0 k1 k2
    go_upto_region 2 with (fail)
    obtain ⟨V1, eV1, hm0, hz9, hcs1⟩ := sg_box w1 g1 g2 g3 r
    rw [← eV1]
    have hR1 := Lib.hid (hR.out.bel hm0)
    have hb2 := hb1.trans (hm0.mono (by have := hb1.size; have := hz.out; omega))
    have hj2 := Below.refl (w1.heap.size + 1) V1
    replace eV1 := Lib.hid eV1
    replace hcs1 := Lib.hid hcs1
    replace hz9 := Lib.hid hz9
    clear hR hb1 hm0
    obtain ⟨j0, j1, j2, j3⟩ := hcs1.out _ hj2
    go_wp2_with fail
    refine (RS.out _ _ _ _ _ _ hR1.out).mono ?_
    rintro e w3 ⟨rfl, hb3⟩
    have hR3 := Lib.hid (hR1.out.bel hb3)
    have hj3 := hj2.trans (hb3.mono (by have := hj2.size; have := hz9.out; omega))
    have hb3 := hb2.trans (hb3.mono (by have := hb2.size; have := hz.out; omega))
    clear hb2 hj2 hR1
    obtain ⟨j0, j1, j2, j3⟩ := hcs1.out _ hj3
    obtain ⟨k0, k1, k2⟩ := hcs.out _ hb3
    go_wp2_with fail
    refine region_moves (fun u => u.cell? ⟨w.heap.size, 0, none⟩ = some (.int .i64 q) ∧ u.cell? ⟨w.heap.size, 1, none⟩ = some (.int .i64 p) ∧ u.cell? ⟨w.heap.size, 2, none⟩ = some (.int .i64 al)) [] [(.free, 0), (.take, 1), (.free, 3), (.take, 4), (.step, 2), (.step, 5), (.free, 6), (.free, 7)] _ (by kernel_rfl) (by kernel_rfl) (by kernel_rfl) (by kernel_rfl) (by decide) rfl (fun _ _ _ _ _ h => h) ?_
    simp only [List.filterMap_cons, List.filterMap_nil, List.getElem?_toArray, List.getElem?_cons_zero, List.getElem?_cons_succ, Option.map_some]
    iterate 1
      first
        | (refine mv_free ?_ (Or.inl ⟨by rfl, ?_⟩) (⟨k0, k1, k2⟩) ?_
           rotate_left 1
           · intro u
             go_simp
             try simp only [d1]
             try simp only [d2]
             try simp only [d3]
             try with_reducible rfl
           simp only [Act.put, List.setIfInBounds_toArray, List.set_cons_zero, List.set_cons_succ])
        | (refine mv_free _ (Or.inr ⟨by rfl, rfl⟩) (⟨k0, k1, k2⟩) ?_
           simp only [Act.put, List.setIfInBounds_toArray, List.set_cons_zero, List.set_cons_succ])
    iterate 1
      first
        | (refine mv_take ?_ (Or.inl ⟨by rfl, ?_⟩) (⟨k0, k1, k2⟩) ?_
           rotate_left 1
           · intro u hu
             (try dsimp only at hu)
             go_simp
             try with_reducible rfl
           simp only [Act.put, List.setIfInBounds_toArray, List.set_cons_zero, List.set_cons_succ])
        | (refine mv_take _ (Or.inr ⟨by rfl, rfl⟩) (⟨k0, k1, k2⟩) ?_
           simp only [Act.put, List.setIfInBounds_toArray, List.set_cons_zero, List.set_cons_succ])
    iterate 1
      first
        | (refine mv_free ?_ (Or.inl ⟨by rfl, ?_⟩) (⟨k0, k1, k2⟩) ?_
           rotate_left 1
           · intro u
             go_simp
             try simp only [d1]
             try simp only [d2]
             try simp only [d3]
             try with_reducible rfl
           simp only [Act.put, List.setIfInBounds_toArray, List.set_cons_zero, List.set_cons_succ])
        | (refine mv_free _ (Or.inr ⟨by rfl, rfl⟩) (⟨k0, k1, k2⟩) ?_
           simp only [Act.put, List.setIfInBounds_toArray, List.set_cons_zero, List.set_cons_succ])
    iterate 1
      first
        | (refine mv_take ?_ (Or.inl ⟨by rfl, ?_⟩) (⟨k0, k1, k2⟩) ?_
           rotate_left 1
           · intro u hu
             (try dsimp only at hu)
             go_simp
             try with_reducible rfl
           simp only [Act.put, List.setIfInBounds_toArray, List.set_cons_zero, List.set_cons_succ])
        | (refine mv_take _ (Or.inr ⟨by rfl, rfl⟩) (⟨k0, k1, k2⟩) ?_
           simp only [Act.put, List.setIfInBounds_toArray, List.set_cons_zero, List.set_cons_succ])
    refine mv_step (fun K hK => ?_)
    go_simp
    refine (C1.out _).mono ?_
    rintro e w9 ⟨rfl, rfl⟩
    go_wp2_with fail
    refine hK.out _ _ _ (fun u hu => hu) (⟨k0, k1, k2⟩) ?_
    clear hK K
    refine mv_step (fun K hK => ?_)
    go_simp
    refine (C2.out _).mono ?_
    rintro e w9 ⟨rfl, rfl⟩
    go_wp2_with fail
    refine hK.out _ _ _ (fun u hu => hu) (⟨k0, k1, k2⟩) ?_
    clear hK K
    iterate 2
      first
        | (refine mv_free ?_ (Or.inl ⟨by rfl, ?_⟩) (⟨k0, k1, k2⟩) ?_
           rotate_left 1
           · intro u
             go_simp
             try simp only [d1]
             try simp only [d2]
             try simp only [d3]
             try with_reducible rfl
           simp only [Act.put, List.setIfInBounds_toArray, List.set_cons_zero, List.set_cons_succ])
        | (refine mv_free _ (Or.inr ⟨by rfl, rfl⟩) (⟨k0, k1, k2⟩) ?_
           simp only [Act.put, List.setIfInBounds_toArray, List.set_cons_zero, List.set_cons_succ])
    refine mv_done ?_
    have hR4 := Lib.hid (show FlR n g1 g2 g3 g4 g5 w3.drew from ⟨hR3.out.x, hR3.out.y, ⟨hR3.out.z.cells, hR3.out.z.rows⟩⟩)
    replace hb3 := hb3.drew
    replace hj3 := hj3.drew
    clear hR3
    go_wp2_with fail
    refine (MM.out _ _ _ _ _ _ hR4.out).mono ?_
    rintro e w4 ⟨rfl, hb4⟩
    have hR5 := Lib.hid (hR4.out.bel hb4)
    have hj4 := hj3.trans (hb4.mono (by have := (show _ ≤ w3.heap.size from hj3.size); have := hz9.out; first | omega | (show _ ≤ w3.heap.size; omega)))
    have hb4 := hb3.trans (hb4.mono (by have := (show _ ≤ w3.heap.size from hb3.size); have := hz.out; first | omega | (show _ ≤ w3.heap.size; omega)))
    clear hb3 hj3 hR4
    obtain ⟨j0, j1, j2, j3⟩ := hcs1.out _ hj4
    obtain ⟨k0, k1, k2⟩ := hcs.out _ hb4
    go_wp2_with fail
    refine (II.out _ _ _ _ _ _ hR5.out).mono ?_
    rintro e w5 ⟨rfl, hb5⟩
    have hR6 := Lib.hid (hR5.out.bel hb5)
    have hj5 := hj4.trans (hb5.mono (by have := hj4.size; have := hz9.out; omega))
    have hb5 := hb4.trans (hb5.mono (by have := hb4.size; have := hz.out; omega))
    clear hb4 hj4 hR5
    obtain ⟨j0, j1, j2, j3⟩ := hcs1.out _ hj5
    obtain ⟨k0, k1, k2⟩ := hcs.out _ hb5
    go_wp2_with fail
    refine (LV.out _).mono ?_
    rintro e w20 ⟨rfl, hb20⟩
    have hb20 := hb5.trans (hb20.mono (by have := hb5.size; have := hz.out; omega))
    go_wp2
    go_ret
    exact ⟨rfl, hb0.out.trans (hb20.mono (by omega))⟩
end Go.Proofs.Yticecjjlafmclaa
