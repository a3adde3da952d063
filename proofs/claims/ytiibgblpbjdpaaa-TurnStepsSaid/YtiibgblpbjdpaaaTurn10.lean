/- The document's angle of a point; walked. -/
import Derived.Test.YtiibgblpbjdpaaaTurn9
import Derived.Deep.Cut
namespace Go.Proofs.Ytiibgblpbjdpaaa
open Go.ChangeShapes Go.WideShapes Go.ChangeAt Go.RowKit
set_option linter.unusedVariables false
set_option linter.unusedSimpArgs false
/-- The steps, and a point in a block of its own. -/
structure PtA (q g1 o1 g2 o2 : Nat) (x y : Int) (w v : World) : Prop where
  st : StT g1 o1 g2 o2 v
  p : Held q [.int .i64 x, .int .i64 y] v
  b : Below w.heap.size w v
  qn : w.heap.size ≤ q
  h1 : g1 < w.heap.size
  h2 : g2 < w.heap.size
theorem PtA.bel {q g1 o1 g2 o2 : Nat} {x y : Int} {w v v' : World} (h : PtA q g1 o1 g2 o2 x y w v) (k : Below v.heap.size v v') : PtA q g1 o1 g2 o2 x y w v' := ⟨h.st.bel k, h.p.bel k, h.b.trans (k.mono h.b.size), h.qn, h.h1, h.h2⟩
theorem PtA.set {q g1 o1 g2 o2 : Nat} {x y : Int} {w v : World} (h : PtA q g1 o1 g2 o2 x y w v) (x' y' : Int) : PtA q g1 o1 g2 o2 x' y' w ((v.setCell ⟨q, 0, none⟩ (.int .i64 x')).setCell ⟨q, 1, none⟩ (.int .i64 y')) :=
  have k : Only q v ((v.setCell ⟨q, 0, none⟩ (.int .i64 x')).setCell ⟨q, 1, none⟩ (.int .i64 y')) := ((Only.refl q v).setCell (p := ⟨q, 0, none⟩) _).setCell (p := ⟨q, 1, none⟩) _
  ⟨h.st.beside (.of_only k) (by have := h.qn; have := h.h1; omega) (by have := h.qn; have := h.h2; omega), (h.p.set 0 _ (by simp)).set 1 _ (by simp), h.b.trans (k.below h.qn), h.qn, h.h1, h.h2⟩
theorem PtA.c {q g1 o1 g2 o2 : Nat} {x y : Int} {w v : World} (h : PtA q g1 o1 g2 o2 x y w v) : v.cell? ⟨q, 0, none⟩ = some (.int .i64 x) ∧ v.cell? ⟨q, 1, none⟩ = some (.int .i64 y) ∧ v.frozen? ⟨q, 0, none⟩ = false ∧ v.frozen? ⟨q, 1, none⟩ = false :=
  ⟨h.p.c 0 _ rfl, h.p.c 1 _ rfl, h.p.f 0 (by simp), h.p.f 1 (by simp)⟩
set_option maxRecDepth 100000 in
set_option maxHeartbeats 8000000 in
theorem ran00 (g1 o1 c1 g2 o2 c2 : Nat) (x y : Int) (w : World) (hT : StT g1 o1 g2 o2 w) (hnz : ¬ (tcl x = 0 ∧ tcl y = 0)) (hy : ¬ tcl y < 0) (hx : ¬ tcl x < 0) : Calls Try.prog 21 #[.slice (some ⟨g1, o1, none⟩) 14 c1, .slice (some ⟨g2, o2, none⟩) 14 c2, .int .i64 x, .int .i64 y] w fun e w' => e = .returned (.int .i64 (anV x y : Int)) ∧ Below w.heap.size w w' := by
  have CX := Lib.hid (fun u => rtclip_any x u)
  have CY := Lib.hid (fun u => rtclip_any y u)
  have bx := tcl_bd x
  have by1 := tcl_bd y
  have eV0 : anV x y = anC (tcl x, tcl y) := by unfold anV; exact if_neg hnz
  generalize tcl x = x0 at *
  generalize tcl y = y0 at *
  have e1 : anS (x0, y0) = ((x0, y0), 0) := by unfold anS; exact if_neg hy
  have e2 : anC (x0, y0) = anF 14 (x0, y0) 0 := by
    unfold anC anQ
    rw [e1, if_neg (by show ¬ x0 < 0; omega)]
  rw [eV0, e2]
  clear eV0 e1 e2
  obtain ⟨R, hR⟩ : ∃ R, anF 14 (x0, y0) 0 = R := ⟨_, rfl⟩
  have eR := Lib.hid hR
  replace hR := Lib.hid hR
  rw [eR.out]
  have nA := Lib.hid (show Nm x0 y0 2305843009213693952 from by
    have a1 : x0 * x0 ≤ 1152921504606846976 := by have := tsq_le (a := x0) (b := if 0 ≤ x0 then 1073741824 else -1073741824) ⟨fun q => by split at q <;> split <;> omega, fun q => by split at q <;> split <;> omega⟩; split at this <;> omega
    have a2 : y0 * y0 ≤ 1152921504606846976 := by have := tsq_le (a := y0) (b := if 0 ≤ y0 then 1073741824 else -1073741824) ⟨fun q => by split at q <;> split <;> omega, fun q => by split at q <;> split <;> omega⟩; split at this <;> omega
    unfold Nm
    try simp only [Int.neg_mul_neg]
    omega)
  have dx : decide (x0 < 0) = false := by simp; omega
  have dy : decide (y0 < 0) = false := by simp; omega
  have gx : ¬ x0 < 0 := by omega
  clear bx by1
  obtain ⟨V, eV, HV⟩ : ∃ V, V = w.alloc (.cells #[.int .i64 x0, .int .i64 y0] 48) ∧ PtA w.heap.size g1 o1 g2 o2 x0 y0 w V := ⟨_, rfl, hT.bel (by repeat (first | exact Below.refl _ _ | assumption | apply Below.drew | apply below_drewN | (refine Below.alloc ?_ (by first | exact Nat.le_refl _ | omega | (simp <;> omega)) _) | (refine Below.setCell ?_ (by first | exact Nat.le_refl _ | omega | (simp <;> omega)) _))), Held.new w [.int .i64 x0, .int .i64 y0] _, (by repeat (first | exact Below.refl _ _ | assumption | apply Below.drew | apply below_drewN | (refine Below.alloc ?_ (by first | exact Nat.le_refl _ | omega | (simp <;> omega)) _) | (refine Below.setCell ?_ (by first | exact Nat.le_refl _ | omega | (simp <;> omega)) _))), Nat.le_refl _, hT.l1, hT.l2⟩
  clear hT
  go_enter Try.func21, Try.ntmps21
  go_wp2_with fail
  refine (CX.out _).mono ?_
  rintro e w1 ⟨rfl, rfl⟩
  go_wp2_with fail
  refine (CY.out _).mono ?_
  rintro e w2 ⟨rfl, rfl⟩
  go_upto_region 2 with (fail)
  rw [← eV]
  clear eV
  obtain ⟨q, eq⟩ : ∃ q, q = w.heap.size := ⟨_, rfl⟩
  rw [← eq] at HV ⊢
  replace eq := Lib.hid eq
  obtain ⟨k0, k1, k2, k3⟩ := HV.c
  replace HV := Lib.hid HV
  go_upto_region 5 with (fail)
  all_goals ((try (rename x0 = 0 => q1; clear q1)); (try (rename ¬ x0 = 0 => q1; clear q1)); (try (rename (x0 == 0) = false => q1; clear q1)); (try (rename (x0 == 0) = true => q1; clear q1)); (try (rename (y0 == 0) = false => q1; clear q1)); (try (rename ¬ y0 = 0 => q1; clear q1)))
  all_goals
    have HV := HV.out
    replace HV := Lib.hid HV
    go_upto_region 11 with (fail)
    clear k0 k1 k2 k3
    clear gx dx dy CX CY hnz hy hx
    go_wp2_with fail
    go_loopw [10, 11, 12] (fun an bt i v => ∃ (k : Nat) (x y : Int) (G : Nat), k ≤ 14 ∧ bt = .int .i64 (btV k) ∧ i = .int .i64 ((k : Int) - 1) ∧ an = .int .i64 (G : Int) ∧ G + 2 ^ k ≤ 65536 ∧ Hid (anF k (x, y) G = R) ∧ Hid (Nm x y 2305843009213693952) ∧ Hid (PtA q g1 o1 g2 o2 x y w v)) (fun _ _ i _ => (intOf i + 1).toNat)
    case atStart => exact ⟨14, _, _, 0, by omega, rfl, rfl, rfl, by decide, hR, nA, HV⟩
    case round =>
      clear HV hR nA
      obtain ⟨k, x, y, G, hk, rfl, rfl, rfl, hA, hR, nA, HV⟩ := hrel
      generalize wr = v0 at *
      cases k with
      | zero =>
        have hR2 : G = R := hR.out
        clear hR
        go_wp2
        go_ret
        exact ⟨by rw [← hR2]; rfl, HV.out.b⟩
      | succ j =>
        rw [show ((j + 1 : Nat) : Int) - 1 = (j : Int) by omega]
        rw [show btV (j + 1) = 2 ^ j from rfl]
        have hj : j < 14 := by omega
        have pb := bt_bd j hj
        have ph := bt_half j
        have i1 : (j : Int) < 14 := by omega
        have i0 : 0 ≤ (j : Int) := by omega
        have i7 : IntKind.i64.wrap ((j : Int) - 1) = (j : Int) - 1 := by rw [IntKind.wrap_i64]; omega
        have bv : 0 ≤ btV j ∧ btV j ≤ 8192 := by rw [← ph]; rw [Int.tdiv_eq_ediv_of_nonneg (by omega)]; omega
        have w0 : IntKind.i64.wrap (btV j) = btV j := by rw [IntKind.wrap_i64]; omega
        generalize hBt : btV j = Bt at *
        replace hBt := Lib.hid hBt
        obtain ⟨N, hN⟩ : ∃ N : Nat, N = 2 ^ j := ⟨_, rfl⟩
        have hN2 : (2 : Int) ^ j = (N : Int) := by rw [hN]; simp
        rw [hN2] at pb ph ⊢
        rw [Nat.pow_succ, ← hN] at hA
        have e4 : IntKind.i64.wrap ((G : Int) + (N : Int)) = (G : Int) + (N : Int) := by rw [IntKind.wrap_i64]; omega
        have hR2 : (if 0 ≤ bY j x y then anF j (bX j x y, bY j x y) (G + 2 ^ j) else anF j (x, y) G) = R := hR.out
        rw [← hN] at hR2
        clear hR bv pb
        replace hN := Lib.hid hN
        replace hN2 := Lib.hid hN2
        have nf := Lib.hid (b_le hj nA.out)
        have nn := nA.out
        have cc := HV.out.st.c j hj
        have cs := HV.out.st.s j hj
        have mb := tmul2_bd nn hj
        have n2 := (b_le hj nn).bd
        have eX2 : bX j x y = (x * tC j + y * tS j).tdiv 1073741824 := rfl
        have eY2 : bY j x y = (y * tC j - x * tS j).tdiv 1073741824 := rfl
        obtain ⟨A, eA⟩ : ∃ A, A = x * tC j := ⟨_, rfl⟩
        obtain ⟨B, eB⟩ : ∃ B, B = y * tS j := ⟨_, rfl⟩
        obtain ⟨C, eC⟩ : ∃ C, C = x * tS j := ⟨_, rfl⟩
        obtain ⟨D, eD⟩ : ∃ D, D = y * tC j := ⟨_, rfl⟩
        rw [← eA, ← eB, ← eC, ← eD] at mb
        have vA : IntKind.i64.wrap (x * tC j) = A := by rw [← eA, IntKind.wrap_i64]; omega
        have vB : IntKind.i64.wrap (y * tS j) = B := by rw [← eB, IntKind.wrap_i64]; omega
        have vC : IntKind.i64.wrap (x * tS j) = C := by rw [← eC, IntKind.wrap_i64]; omega
        have vD : IntKind.i64.wrap (y * tC j) = D := by rw [← eD, IntKind.wrap_i64]; omega
        rw [← eA, ← eB] at eX2
        rw [← eD, ← eC] at eY2
        generalize bX j x y = x2 at *
        generalize bY j x y = y2 at *
        have u1 : IntKind.i64.wrap (A + B) = A + B := by rw [IntKind.wrap_i64]; omega
        have u2 : IntKind.i64.wrap (D - C) = D - C := by rw [IntKind.wrap_i64]; omega
        have u3 : (A + B).tdiv 1073741824 = x2 := eX2.symm
        have u4 : (D - C).tdiv 1073741824 = y2 := eY2.symm
        have u5 : IntKind.i64.wrap x2 = x2 := by rw [IntKind.wrap_i64]; omega
        have u6 : IntKind.i64.wrap y2 = y2 := by rw [IntKind.wrap_i64]; omega
        clear eX2 eY2 mb nn
        generalize tC j = tc0 at *
        generalize tS j = ts0 at *
        clear eA eB eC eD
        obtain ⟨k0, k1, k2, k3⟩ := HV.out.c
        replace hj := Lib.hid hj
        replace n2 := Lib.hid n2
        obtain ⟨V3, eV3, hb3, p3⟩ : ∃ V3, V3 = (v0.alloc (.cells #[.int .i64 x2, .int .i64 y2] 48)).drew ∧ Below v0.heap.size v0 V3 ∧ Held v0.heap.size [.int .i64 x2, .int .i64 y2] V3 := ⟨_, rfl, (by repeat (first | exact Below.refl _ _ | assumption | apply Below.drew | apply below_drewN | (refine Below.alloc ?_ (by first | exact Nat.le_refl _ | omega | (simp <;> omega)) _) | (refine Below.setCell ?_ (by first | exact Nat.le_refl _ | omega | (simp <;> omega)) _))), (Held.new v0 [.int .i64 x2, .int .i64 y2] _).drew⟩
        have HV3 := HV.out.bel hb3
        have hA : Below v0.heap.size v0 (v0.drew.alloc (.cells #[.int .i64 0, .int .i64 0] 48)) := (by repeat (first | exact Below.refl _ _ | assumption | apply Below.drew | apply below_drewN | (refine Below.alloc ?_ (by first | exact Nat.le_refl _ | omega | (simp <;> omega)) _) | (refine Below.setCell ?_ (by first | exact Nat.le_refl _ | omega | (simp <;> omega)) _)))
        have lq := HV.out.p.lt
        have lg1 := HV.out.st.l1
        have lg2 := HV.out.st.l2
        go_wp2_with fail
        refine region_moves (fun u => u.cell? ⟨q, 0, none⟩ = some (.int .i64 x) ∧ u.cell? ⟨q, 1, none⟩ = some (.int .i64 y) ∧ u.cell? ⟨g1, o1 + j, none⟩ = some (.int .i64 tc0) ∧ u.cell? ⟨g2, o2 + j, none⟩ = some (.int .i64 ts0)) [(34, [(33, 34), (32, 34), (0, 34), (1, 34), (2, 34), (3, 34), (4, 34), (5, 34), (6, 34), (7, 34), (8, 34), (9, 34), (10, 34), (11, 34), (12, 34), (13, 34), (14, 34), (15, 34), (16, 34), (17, 34), (18, 34), (19, 34), (20, 34), (21, 34), (22, 34), (23, 34), (24, 34), (25, 34), (26, 34), (27, 34), (28, 34), (29, 34), (30, 34), (31, 34)])] [(.free, 0), (.take, 1), (.free, 2), (.free, 3), (.free, 4), (.take, 5), (.free, 6), (.free, 7), (.take, 8), (.free, 9), (.free, 10), (.free, 11), (.take, 12), (.free, 13), (.free, 14), (.free, 15), (.free, 16), (.take, 17), (.free, 18), (.free, 19), (.free, 20), (.take, 21), (.free, 22), (.free, 23), (.take, 24), (.free, 25), (.free, 26), (.free, 27), (.take, 28), (.free, 29), (.free, 30), (.free, 31), (.free, 32), (.step, 33), (.late, 34)] _ (by kernel_rfl) (by kernel_rfl) (by kernel_rfl) (by kernel_rfl) (by decide) rfl (fun _ _ _ _ _ h => h) ?_
        simp only [List.filterMap_cons, List.filterMap_nil, List.getElem?_toArray, List.getElem?_cons_zero, List.getElem?_cons_succ, Option.map_some]
        iterate 1
          first
            | (refine mv_free ?_ (Or.inl ⟨by rfl, ?_⟩) (⟨k0, k1, cc, cs⟩) ?_
               rotate_left 1
               · intro u
                 go_simp
                 try simp only [d1]
                 try simp only [d2]
                 try simp only [d3]
                 try with_reducible rfl
               simp only [Act.put, List.setIfInBounds_toArray, List.set_cons_zero, List.set_cons_succ])
            | (refine mv_free _ (Or.inr ⟨by rfl, rfl⟩) (⟨k0, k1, cc, cs⟩) ?_
               simp only [Act.put, List.setIfInBounds_toArray, List.set_cons_zero, List.set_cons_succ])
        iterate 1
          first
            | (refine mv_take ?_ (Or.inl ⟨by rfl, ?_⟩) (⟨k0, k1, cc, cs⟩) ?_
               rotate_left 1
               · intro u hu
                 (try dsimp only at hu)
                 go_simp
                 try with_reducible rfl
               simp only [Act.put, List.setIfInBounds_toArray, List.set_cons_zero, List.set_cons_succ])
            | (refine mv_take _ (Or.inr ⟨by rfl, rfl⟩) (⟨k0, k1, cc, cs⟩) ?_
               simp only [Act.put, List.setIfInBounds_toArray, List.set_cons_zero, List.set_cons_succ])
        iterate 3
          first
            | (refine mv_free ?_ (Or.inl ⟨by rfl, ?_⟩) (⟨k0, k1, cc, cs⟩) ?_
               rotate_left 1
               · intro u
                 go_simp
                 try simp only [d1]
                 try simp only [d2]
                 try simp only [d3]
                 try with_reducible rfl
               simp only [Act.put, List.setIfInBounds_toArray, List.set_cons_zero, List.set_cons_succ])
            | (refine mv_free _ (Or.inr ⟨by rfl, rfl⟩) (⟨k0, k1, cc, cs⟩) ?_
               simp only [Act.put, List.setIfInBounds_toArray, List.set_cons_zero, List.set_cons_succ])
        iterate 1
          first
            | (refine mv_take ?_ (Or.inl ⟨by rfl, ?_⟩) (⟨k0, k1, cc, cs⟩) ?_
               rotate_left 1
               · intro u hu
                 (try dsimp only at hu)
                 go_simp
                 try with_reducible rfl
               simp only [Act.put, List.setIfInBounds_toArray, List.set_cons_zero, List.set_cons_succ])
            | (refine mv_take _ (Or.inr ⟨by rfl, rfl⟩) (⟨k0, k1, cc, cs⟩) ?_
               simp only [Act.put, List.setIfInBounds_toArray, List.set_cons_zero, List.set_cons_succ])
        iterate 2
          first
            | (refine mv_free ?_ (Or.inl ⟨by rfl, ?_⟩) (⟨k0, k1, cc, cs⟩) ?_
               rotate_left 1
               · intro u
                 go_simp
                 try simp only [d1]
                 try simp only [d2]
                 try simp only [d3]
                 try with_reducible rfl
               simp only [Act.put, List.setIfInBounds_toArray, List.set_cons_zero, List.set_cons_succ])
            | (refine mv_free _ (Or.inr ⟨by rfl, rfl⟩) (⟨k0, k1, cc, cs⟩) ?_
               simp only [Act.put, List.setIfInBounds_toArray, List.set_cons_zero, List.set_cons_succ])
        iterate 1
          first
            | (refine mv_take ?_ (Or.inl ⟨by rfl, ?_⟩) (⟨k0, k1, cc, cs⟩) ?_
               rotate_left 1
               · intro u hu
                 (try dsimp only at hu)
                 go_simp
                 try with_reducible rfl
               simp only [Act.put, List.setIfInBounds_toArray, List.set_cons_zero, List.set_cons_succ])
            | (refine mv_take _ (Or.inr ⟨by rfl, rfl⟩) (⟨k0, k1, cc, cs⟩) ?_
               simp only [Act.put, List.setIfInBounds_toArray, List.set_cons_zero, List.set_cons_succ])
        iterate 3
          first
            | (refine mv_free ?_ (Or.inl ⟨by rfl, ?_⟩) (⟨k0, k1, cc, cs⟩) ?_
               rotate_left 1
               · intro u
                 go_simp
                 try simp only [d1]
                 try simp only [d2]
                 try simp only [d3]
                 try with_reducible rfl
               simp only [Act.put, List.setIfInBounds_toArray, List.set_cons_zero, List.set_cons_succ])
            | (refine mv_free _ (Or.inr ⟨by rfl, rfl⟩) (⟨k0, k1, cc, cs⟩) ?_
               simp only [Act.put, List.setIfInBounds_toArray, List.set_cons_zero, List.set_cons_succ])
        iterate 1
          first
            | (refine mv_take ?_ (Or.inl ⟨by rfl, ?_⟩) (⟨k0, k1, cc, cs⟩) ?_
               rotate_left 1
               · intro u hu
                 (try dsimp only at hu)
                 go_simp
                 try with_reducible rfl
               simp only [Act.put, List.setIfInBounds_toArray, List.set_cons_zero, List.set_cons_succ])
            | (refine mv_take _ (Or.inr ⟨by rfl, rfl⟩) (⟨k0, k1, cc, cs⟩) ?_
               simp only [Act.put, List.setIfInBounds_toArray, List.set_cons_zero, List.set_cons_succ])
        iterate 4
          first
            | (refine mv_free ?_ (Or.inl ⟨by rfl, ?_⟩) (⟨k0, k1, cc, cs⟩) ?_
               rotate_left 1
               · intro u
                 go_simp
                 try simp only [d1]
                 try simp only [d2]
                 try simp only [d3]
                 try with_reducible rfl
               simp only [Act.put, List.setIfInBounds_toArray, List.set_cons_zero, List.set_cons_succ])
            | (refine mv_free _ (Or.inr ⟨by rfl, rfl⟩) (⟨k0, k1, cc, cs⟩) ?_
               simp only [Act.put, List.setIfInBounds_toArray, List.set_cons_zero, List.set_cons_succ])
        iterate 1
          first
            | (refine mv_take ?_ (Or.inl ⟨by rfl, ?_⟩) (⟨k0, k1, cc, cs⟩) ?_
               rotate_left 1
               · intro u hu
                 (try dsimp only at hu)
                 go_simp
                 try with_reducible rfl
               simp only [Act.put, List.setIfInBounds_toArray, List.set_cons_zero, List.set_cons_succ])
            | (refine mv_take _ (Or.inr ⟨by rfl, rfl⟩) (⟨k0, k1, cc, cs⟩) ?_
               simp only [Act.put, List.setIfInBounds_toArray, List.set_cons_zero, List.set_cons_succ])
        iterate 3
          first
            | (refine mv_free ?_ (Or.inl ⟨by rfl, ?_⟩) (⟨k0, k1, cc, cs⟩) ?_
               rotate_left 1
               · intro u
                 go_simp
                 try simp only [d1]
                 try simp only [d2]
                 try simp only [d3]
                 try with_reducible rfl
               simp only [Act.put, List.setIfInBounds_toArray, List.set_cons_zero, List.set_cons_succ])
            | (refine mv_free _ (Or.inr ⟨by rfl, rfl⟩) (⟨k0, k1, cc, cs⟩) ?_
               simp only [Act.put, List.setIfInBounds_toArray, List.set_cons_zero, List.set_cons_succ])
        iterate 1
          first
            | (refine mv_take ?_ (Or.inl ⟨by rfl, ?_⟩) (⟨k0, k1, cc, cs⟩) ?_
               rotate_left 1
               · intro u hu
                 (try dsimp only at hu)
                 go_simp
                 try with_reducible rfl
               simp only [Act.put, List.setIfInBounds_toArray, List.set_cons_zero, List.set_cons_succ])
            | (refine mv_take _ (Or.inr ⟨by rfl, rfl⟩) (⟨k0, k1, cc, cs⟩) ?_
               simp only [Act.put, List.setIfInBounds_toArray, List.set_cons_zero, List.set_cons_succ])
        iterate 2
          first
            | (refine mv_free ?_ (Or.inl ⟨by rfl, ?_⟩) (⟨k0, k1, cc, cs⟩) ?_
               rotate_left 1
               · intro u
                 go_simp
                 try simp only [d1]
                 try simp only [d2]
                 try simp only [d3]
                 try with_reducible rfl
               simp only [Act.put, List.setIfInBounds_toArray, List.set_cons_zero, List.set_cons_succ])
            | (refine mv_free _ (Or.inr ⟨by rfl, rfl⟩) (⟨k0, k1, cc, cs⟩) ?_
               simp only [Act.put, List.setIfInBounds_toArray, List.set_cons_zero, List.set_cons_succ])
        iterate 1
          first
            | (refine mv_take ?_ (Or.inl ⟨by rfl, ?_⟩) (⟨k0, k1, cc, cs⟩) ?_
               rotate_left 1
               · intro u hu
                 (try dsimp only at hu)
                 go_simp
                 try with_reducible rfl
               simp only [Act.put, List.setIfInBounds_toArray, List.set_cons_zero, List.set_cons_succ])
            | (refine mv_take _ (Or.inr ⟨by rfl, rfl⟩) (⟨k0, k1, cc, cs⟩) ?_
               simp only [Act.put, List.setIfInBounds_toArray, List.set_cons_zero, List.set_cons_succ])
        iterate 3
          first
            | (refine mv_free ?_ (Or.inl ⟨by rfl, ?_⟩) (⟨k0, k1, cc, cs⟩) ?_
               rotate_left 1
               · intro u
                 go_simp
                 try simp only [d1]
                 try simp only [d2]
                 try simp only [d3]
                 try with_reducible rfl
               simp only [Act.put, List.setIfInBounds_toArray, List.set_cons_zero, List.set_cons_succ])
            | (refine mv_free _ (Or.inr ⟨by rfl, rfl⟩) (⟨k0, k1, cc, cs⟩) ?_
               simp only [Act.put, List.setIfInBounds_toArray, List.set_cons_zero, List.set_cons_succ])
        iterate 1
          first
            | (refine mv_take ?_ (Or.inl ⟨by rfl, ?_⟩) (⟨k0, k1, cc, cs⟩) ?_
               rotate_left 1
               · intro u hu
                 (try dsimp only at hu)
                 go_simp
                 try with_reducible rfl
               simp only [Act.put, List.setIfInBounds_toArray, List.set_cons_zero, List.set_cons_succ])
            | (refine mv_take _ (Or.inr ⟨by rfl, rfl⟩) (⟨k0, k1, cc, cs⟩) ?_
               simp only [Act.put, List.setIfInBounds_toArray, List.set_cons_zero, List.set_cons_succ])
        iterate 4
          first
            | (refine mv_free ?_ (Or.inl ⟨by rfl, ?_⟩) (⟨k0, k1, cc, cs⟩) ?_
               rotate_left 1
               · intro u
                 go_simp
                 try simp only [d1]
                 try simp only [d2]
                 try simp only [d3]
                 try with_reducible rfl
               simp only [Act.put, List.setIfInBounds_toArray, List.set_cons_zero, List.set_cons_succ])
            | (refine mv_free _ (Or.inr ⟨by rfl, rfl⟩) (⟨k0, k1, cc, cs⟩) ?_
               simp only [Act.put, List.setIfInBounds_toArray, List.set_cons_zero, List.set_cons_succ])
        refine mv_step (fun K hK => ?_)
        go_simp
        refine hK.out _ _ _ (fun u hu => hu) (⟨(bc hA lq).trans k0, (bc hA lq).trans k1, (bc hA lg1).trans cc, (bc hA lg2).trans cs⟩) ?_
        clear hK K
        refine mv_late (fun K hK => ?_)
        go_simp
        refine hK.out (fun _ => True) _ _ ?_
        clear hK K
        refine mv_done ?_
        rw [← eV3]
        clear eV3 hb3 hA lq lg1 lg2 k0 k1 k2 k3 cc cs HV
        obtain ⟨k0, k1, k2, k3⟩ := HV3.c
        obtain ⟨d0, _⟩ := p3.one 0 rfl
        obtain ⟨d1, _⟩ := p3.one 1 rfl
        clear p3
        generalize v0.heap.size = q3 at *
        clear v0
        by_cases hb : 0 ≤ y2
        · rw [if_pos hb] at hR2
          replace hR2 := Lib.hid hR2
          have HV := Lib.hid (HV3.set x2 y2)
          clear HV3
          go_wp2
          go_roundw
          case rel => exact ⟨j, x2, y2, G + N, by omega, by rw [hBt.out], rfl, by simp, by have := hN.out; omega, hR2, nf, HV⟩
          case measure => simp [intOf] <;> omega
        · rw [if_neg hb] at hR2
          replace hR2 := Lib.hid hR2
          have HV := Lib.hid HV3
          clear HV3
          have hb2 : y2 < 0 := by omega
          go_wp2
          go_roundw
          case rel => exact ⟨j, x, y, G, by omega, by rw [hBt.out], rfl, rfl, by have := hN.out; omega, hR2, nA, HV⟩
          case measure => simp [intOf] <;> omega
set_option maxRecDepth 100000 in
set_option maxHeartbeats 8000000 in
theorem ran01 (g1 o1 c1 g2 o2 c2 : Nat) (x y : Int) (w : World) (hT : StT g1 o1 g2 o2 w) (hnz : ¬ (tcl x = 0 ∧ tcl y = 0)) (hy : ¬ tcl y < 0) (hx : tcl x < 0) : Calls Try.prog 21 #[.slice (some ⟨g1, o1, none⟩) 14 c1, .slice (some ⟨g2, o2, none⟩) 14 c2, .int .i64 x, .int .i64 y] w fun e w' => e = .returned (.int .i64 (anV x y : Int)) ∧ Below w.heap.size w w' := by
  have CX := Lib.hid (fun u => rtclip_any x u)
  have CY := Lib.hid (fun u => rtclip_any y u)
  have bx := tcl_bd x
  have by1 := tcl_bd y
  have eV0 : anV x y = anC (tcl x, tcl y) := by unfold anV; exact if_neg hnz
  generalize tcl x = x0 at *
  generalize tcl y = y0 at *
  have e1 : anS (x0, y0) = ((x0, y0), 0) := by unfold anS; exact if_neg hy
  have e2 : anC (x0, y0) = anF 14 (y0, (-x0)) 16384 := by
    unfold anC anQ
    rw [e1, if_pos (by show x0 < 0; omega)]
  rw [eV0, e2]
  clear eV0 e1 e2
  obtain ⟨R, hR⟩ : ∃ R, anF 14 (y0, (-x0)) 16384 = R := ⟨_, rfl⟩
  have eR := Lib.hid hR
  replace hR := Lib.hid hR
  rw [eR.out]
  have nA := Lib.hid (show Nm y0 (-x0) 2305843009213693952 from by
    have a1 : x0 * x0 ≤ 1152921504606846976 := by have := tsq_le (a := x0) (b := if 0 ≤ x0 then 1073741824 else -1073741824) ⟨fun q => by split at q <;> split <;> omega, fun q => by split at q <;> split <;> omega⟩; split at this <;> omega
    have a2 : y0 * y0 ≤ 1152921504606846976 := by have := tsq_le (a := y0) (b := if 0 ≤ y0 then 1073741824 else -1073741824) ⟨fun q => by split at q <;> split <;> omega, fun q => by split at q <;> split <;> omega⟩; split at this <;> omega
    unfold Nm
    try simp only [Int.neg_mul_neg]
    omega)
  obtain ⟨z, ez⟩ : ∃ z, z = -x0 := ⟨_, rfl⟩
  rw [← ez] at hR nA
  have wz : IntKind.i64.wrap (-x0) = z := by rw [ez, IntKind.wrap_i64]; omega
  have dx : decide (x0 < 0) = true := by simp; omega
  have dy : decide (y0 < 0) = false := by simp; omega
  have gx : x0 < 0 := by omega
  clear bx by1
  replace ez := Lib.hid ez
  obtain ⟨V, eV, HV⟩ : ∃ V, V = w.alloc (.cells #[.int .i64 x0, .int .i64 y0] 48) ∧ PtA w.heap.size g1 o1 g2 o2 x0 y0 w V := ⟨_, rfl, hT.bel (by repeat (first | exact Below.refl _ _ | assumption | apply Below.drew | apply below_drewN | (refine Below.alloc ?_ (by first | exact Nat.le_refl _ | omega | (simp <;> omega)) _) | (refine Below.setCell ?_ (by first | exact Nat.le_refl _ | omega | (simp <;> omega)) _))), Held.new w [.int .i64 x0, .int .i64 y0] _, (by repeat (first | exact Below.refl _ _ | assumption | apply Below.drew | apply below_drewN | (refine Below.alloc ?_ (by first | exact Nat.le_refl _ | omega | (simp <;> omega)) _) | (refine Below.setCell ?_ (by first | exact Nat.le_refl _ | omega | (simp <;> omega)) _))), Nat.le_refl _, hT.l1, hT.l2⟩
  clear hT
  go_enter Try.func21, Try.ntmps21
  go_wp2_with fail
  refine (CX.out _).mono ?_
  rintro e w1 ⟨rfl, rfl⟩
  go_wp2_with fail
  refine (CY.out _).mono ?_
  rintro e w2 ⟨rfl, rfl⟩
  go_upto_region 2 with (fail)
  rw [← eV]
  clear eV
  obtain ⟨q, eq⟩ : ∃ q, q = w.heap.size := ⟨_, rfl⟩
  rw [← eq] at HV ⊢
  replace eq := Lib.hid eq
  obtain ⟨k0, k1, k2, k3⟩ := HV.c
  replace HV := Lib.hid HV
  go_upto_region 5 with (fail)
  have HV := HV.out
  replace HV := Lib.hid (HV.set y0 z)
  go_upto_region 11 with (fail)
  generalize (V.setCell ⟨q, 0, none⟩ (.int .i64 y0)).setCell ⟨q, 1, none⟩ (.int .i64 z) = V2 at *
  clear k0 k1 k2 k3
  clear gx dx dy CX CY hnz hy hx wz
  go_wp2_with fail
  go_loopw [10, 11, 12] (fun an bt i v => ∃ (k : Nat) (x y : Int) (G : Nat), k ≤ 14 ∧ bt = .int .i64 (btV k) ∧ i = .int .i64 ((k : Int) - 1) ∧ an = .int .i64 (G : Int) ∧ G + 2 ^ k ≤ 65536 ∧ Hid (anF k (x, y) G = R) ∧ Hid (Nm x y 2305843009213693952) ∧ Hid (PtA q g1 o1 g2 o2 x y w v)) (fun _ _ i _ => (intOf i + 1).toNat)
  case atStart => exact ⟨14, _, _, 16384, by omega, rfl, rfl, rfl, by decide, hR, nA, HV⟩
  case round =>
    clear HV hR nA
    obtain ⟨k, x, y, G, hk, rfl, rfl, rfl, hA, hR, nA, HV⟩ := hrel
    generalize wr = v0 at *
    cases k with
    | zero =>
      have hR2 : G = R := hR.out
      clear hR
      go_wp2
      go_ret
      exact ⟨by rw [← hR2]; rfl, HV.out.b⟩
    | succ j =>
      rw [show ((j + 1 : Nat) : Int) - 1 = (j : Int) by omega]
      rw [show btV (j + 1) = 2 ^ j from rfl]
      have hj : j < 14 := by omega
      have pb := bt_bd j hj
      have ph := bt_half j
      have i1 : (j : Int) < 14 := by omega
      have i0 : 0 ≤ (j : Int) := by omega
      have i7 : IntKind.i64.wrap ((j : Int) - 1) = (j : Int) - 1 := by rw [IntKind.wrap_i64]; omega
      have bv : 0 ≤ btV j ∧ btV j ≤ 8192 := by rw [← ph]; rw [Int.tdiv_eq_ediv_of_nonneg (by omega)]; omega
      have w0 : IntKind.i64.wrap (btV j) = btV j := by rw [IntKind.wrap_i64]; omega
      generalize hBt : btV j = Bt at *
      replace hBt := Lib.hid hBt
      obtain ⟨N, hN⟩ : ∃ N : Nat, N = 2 ^ j := ⟨_, rfl⟩
      have hN2 : (2 : Int) ^ j = (N : Int) := by rw [hN]; simp
      rw [hN2] at pb ph ⊢
      rw [Nat.pow_succ, ← hN] at hA
      have e4 : IntKind.i64.wrap ((G : Int) + (N : Int)) = (G : Int) + (N : Int) := by rw [IntKind.wrap_i64]; omega
      have hR2 : (if 0 ≤ bY j x y then anF j (bX j x y, bY j x y) (G + 2 ^ j) else anF j (x, y) G) = R := hR.out
      rw [← hN] at hR2
      clear hR bv pb
      replace hN := Lib.hid hN
      replace hN2 := Lib.hid hN2
      have nf := Lib.hid (b_le hj nA.out)
      have nn := nA.out
      have cc := HV.out.st.c j hj
      have cs := HV.out.st.s j hj
      have mb := tmul2_bd nn hj
      have n2 := (b_le hj nn).bd
      have eX2 : bX j x y = (x * tC j + y * tS j).tdiv 1073741824 := rfl
      have eY2 : bY j x y = (y * tC j - x * tS j).tdiv 1073741824 := rfl
      obtain ⟨A, eA⟩ : ∃ A, A = x * tC j := ⟨_, rfl⟩
      obtain ⟨B, eB⟩ : ∃ B, B = y * tS j := ⟨_, rfl⟩
      obtain ⟨C, eC⟩ : ∃ C, C = x * tS j := ⟨_, rfl⟩
      obtain ⟨D, eD⟩ : ∃ D, D = y * tC j := ⟨_, rfl⟩
      rw [← eA, ← eB, ← eC, ← eD] at mb
      have vA : IntKind.i64.wrap (x * tC j) = A := by rw [← eA, IntKind.wrap_i64]; omega
      have vB : IntKind.i64.wrap (y * tS j) = B := by rw [← eB, IntKind.wrap_i64]; omega
      have vC : IntKind.i64.wrap (x * tS j) = C := by rw [← eC, IntKind.wrap_i64]; omega
      have vD : IntKind.i64.wrap (y * tC j) = D := by rw [← eD, IntKind.wrap_i64]; omega
      rw [← eA, ← eB] at eX2
      rw [← eD, ← eC] at eY2
      generalize bX j x y = x2 at *
      generalize bY j x y = y2 at *
      have u1 : IntKind.i64.wrap (A + B) = A + B := by rw [IntKind.wrap_i64]; omega
      have u2 : IntKind.i64.wrap (D - C) = D - C := by rw [IntKind.wrap_i64]; omega
      have u3 : (A + B).tdiv 1073741824 = x2 := eX2.symm
      have u4 : (D - C).tdiv 1073741824 = y2 := eY2.symm
      have u5 : IntKind.i64.wrap x2 = x2 := by rw [IntKind.wrap_i64]; omega
      have u6 : IntKind.i64.wrap y2 = y2 := by rw [IntKind.wrap_i64]; omega
      clear eX2 eY2 mb nn
      generalize tC j = tc0 at *
      generalize tS j = ts0 at *
      clear eA eB eC eD
      obtain ⟨k0, k1, k2, k3⟩ := HV.out.c
      replace hj := Lib.hid hj
      replace n2 := Lib.hid n2
      obtain ⟨V3, eV3, hb3, p3⟩ : ∃ V3, V3 = (v0.alloc (.cells #[.int .i64 x2, .int .i64 y2] 48)).drew ∧ Below v0.heap.size v0 V3 ∧ Held v0.heap.size [.int .i64 x2, .int .i64 y2] V3 := ⟨_, rfl, (by repeat (first | exact Below.refl _ _ | assumption | apply Below.drew | apply below_drewN | (refine Below.alloc ?_ (by first | exact Nat.le_refl _ | omega | (simp <;> omega)) _) | (refine Below.setCell ?_ (by first | exact Nat.le_refl _ | omega | (simp <;> omega)) _))), (Held.new v0 [.int .i64 x2, .int .i64 y2] _).drew⟩
      have HV3 := HV.out.bel hb3
      have hA : Below v0.heap.size v0 (v0.drew.alloc (.cells #[.int .i64 0, .int .i64 0] 48)) := (by repeat (first | exact Below.refl _ _ | assumption | apply Below.drew | apply below_drewN | (refine Below.alloc ?_ (by first | exact Nat.le_refl _ | omega | (simp <;> omega)) _) | (refine Below.setCell ?_ (by first | exact Nat.le_refl _ | omega | (simp <;> omega)) _)))
      have lq := HV.out.p.lt
      have lg1 := HV.out.st.l1
      have lg2 := HV.out.st.l2
      go_wp2_with fail
      refine region_moves (fun u => u.cell? ⟨q, 0, none⟩ = some (.int .i64 x) ∧ u.cell? ⟨q, 1, none⟩ = some (.int .i64 y) ∧ u.cell? ⟨g1, o1 + j, none⟩ = some (.int .i64 tc0) ∧ u.cell? ⟨g2, o2 + j, none⟩ = some (.int .i64 ts0)) [(34, [(33, 34), (32, 34), (0, 34), (1, 34), (2, 34), (3, 34), (4, 34), (5, 34), (6, 34), (7, 34), (8, 34), (9, 34), (10, 34), (11, 34), (12, 34), (13, 34), (14, 34), (15, 34), (16, 34), (17, 34), (18, 34), (19, 34), (20, 34), (21, 34), (22, 34), (23, 34), (24, 34), (25, 34), (26, 34), (27, 34), (28, 34), (29, 34), (30, 34), (31, 34)])] [(.free, 0), (.take, 1), (.free, 2), (.free, 3), (.free, 4), (.take, 5), (.free, 6), (.free, 7), (.take, 8), (.free, 9), (.free, 10), (.free, 11), (.take, 12), (.free, 13), (.free, 14), (.free, 15), (.free, 16), (.take, 17), (.free, 18), (.free, 19), (.free, 20), (.take, 21), (.free, 22), (.free, 23), (.take, 24), (.free, 25), (.free, 26), (.free, 27), (.take, 28), (.free, 29), (.free, 30), (.free, 31), (.free, 32), (.step, 33), (.late, 34)] _ (by kernel_rfl) (by kernel_rfl) (by kernel_rfl) (by kernel_rfl) (by decide) rfl (fun _ _ _ _ _ h => h) ?_
      simp only [List.filterMap_cons, List.filterMap_nil, List.getElem?_toArray, List.getElem?_cons_zero, List.getElem?_cons_succ, Option.map_some]
      iterate 1
        first
          | (refine mv_free ?_ (Or.inl ⟨by rfl, ?_⟩) (⟨k0, k1, cc, cs⟩) ?_
             rotate_left 1
             · intro u
               go_simp
               try simp only [d1]
               try simp only [d2]
               try simp only [d3]
               try with_reducible rfl
             simp only [Act.put, List.setIfInBounds_toArray, List.set_cons_zero, List.set_cons_succ])
          | (refine mv_free _ (Or.inr ⟨by rfl, rfl⟩) (⟨k0, k1, cc, cs⟩) ?_
             simp only [Act.put, List.setIfInBounds_toArray, List.set_cons_zero, List.set_cons_succ])
      iterate 1
        first
          | (refine mv_take ?_ (Or.inl ⟨by rfl, ?_⟩) (⟨k0, k1, cc, cs⟩) ?_
             rotate_left 1
             · intro u hu
               (try dsimp only at hu)
               go_simp
               try with_reducible rfl
             simp only [Act.put, List.setIfInBounds_toArray, List.set_cons_zero, List.set_cons_succ])
          | (refine mv_take _ (Or.inr ⟨by rfl, rfl⟩) (⟨k0, k1, cc, cs⟩) ?_
             simp only [Act.put, List.setIfInBounds_toArray, List.set_cons_zero, List.set_cons_succ])
      iterate 3
        first
          | (refine mv_free ?_ (Or.inl ⟨by rfl, ?_⟩) (⟨k0, k1, cc, cs⟩) ?_
             rotate_left 1
             · intro u
               go_simp
               try simp only [d1]
               try simp only [d2]
               try simp only [d3]
               try with_reducible rfl
             simp only [Act.put, List.setIfInBounds_toArray, List.set_cons_zero, List.set_cons_succ])
          | (refine mv_free _ (Or.inr ⟨by rfl, rfl⟩) (⟨k0, k1, cc, cs⟩) ?_
             simp only [Act.put, List.setIfInBounds_toArray, List.set_cons_zero, List.set_cons_succ])
      iterate 1
        first
          | (refine mv_take ?_ (Or.inl ⟨by rfl, ?_⟩) (⟨k0, k1, cc, cs⟩) ?_
             rotate_left 1
             · intro u hu
               (try dsimp only at hu)
               go_simp
               try with_reducible rfl
             simp only [Act.put, List.setIfInBounds_toArray, List.set_cons_zero, List.set_cons_succ])
          | (refine mv_take _ (Or.inr ⟨by rfl, rfl⟩) (⟨k0, k1, cc, cs⟩) ?_
             simp only [Act.put, List.setIfInBounds_toArray, List.set_cons_zero, List.set_cons_succ])
      iterate 2
        first
          | (refine mv_free ?_ (Or.inl ⟨by rfl, ?_⟩) (⟨k0, k1, cc, cs⟩) ?_
             rotate_left 1
             · intro u
               go_simp
               try simp only [d1]
               try simp only [d2]
               try simp only [d3]
               try with_reducible rfl
             simp only [Act.put, List.setIfInBounds_toArray, List.set_cons_zero, List.set_cons_succ])
          | (refine mv_free _ (Or.inr ⟨by rfl, rfl⟩) (⟨k0, k1, cc, cs⟩) ?_
             simp only [Act.put, List.setIfInBounds_toArray, List.set_cons_zero, List.set_cons_succ])
      iterate 1
        first
          | (refine mv_take ?_ (Or.inl ⟨by rfl, ?_⟩) (⟨k0, k1, cc, cs⟩) ?_
             rotate_left 1
             · intro u hu
               (try dsimp only at hu)
               go_simp
               try with_reducible rfl
             simp only [Act.put, List.setIfInBounds_toArray, List.set_cons_zero, List.set_cons_succ])
          | (refine mv_take _ (Or.inr ⟨by rfl, rfl⟩) (⟨k0, k1, cc, cs⟩) ?_
             simp only [Act.put, List.setIfInBounds_toArray, List.set_cons_zero, List.set_cons_succ])
      iterate 3
        first
          | (refine mv_free ?_ (Or.inl ⟨by rfl, ?_⟩) (⟨k0, k1, cc, cs⟩) ?_
             rotate_left 1
             · intro u
               go_simp
               try simp only [d1]
               try simp only [d2]
               try simp only [d3]
               try with_reducible rfl
             simp only [Act.put, List.setIfInBounds_toArray, List.set_cons_zero, List.set_cons_succ])
          | (refine mv_free _ (Or.inr ⟨by rfl, rfl⟩) (⟨k0, k1, cc, cs⟩) ?_
             simp only [Act.put, List.setIfInBounds_toArray, List.set_cons_zero, List.set_cons_succ])
      iterate 1
        first
          | (refine mv_take ?_ (Or.inl ⟨by rfl, ?_⟩) (⟨k0, k1, cc, cs⟩) ?_
             rotate_left 1
             · intro u hu
               (try dsimp only at hu)
               go_simp
               try with_reducible rfl
             simp only [Act.put, List.setIfInBounds_toArray, List.set_cons_zero, List.set_cons_succ])
          | (refine mv_take _ (Or.inr ⟨by rfl, rfl⟩) (⟨k0, k1, cc, cs⟩) ?_
             simp only [Act.put, List.setIfInBounds_toArray, List.set_cons_zero, List.set_cons_succ])
      iterate 4
        first
          | (refine mv_free ?_ (Or.inl ⟨by rfl, ?_⟩) (⟨k0, k1, cc, cs⟩) ?_
             rotate_left 1
             · intro u
               go_simp
               try simp only [d1]
               try simp only [d2]
               try simp only [d3]
               try with_reducible rfl
             simp only [Act.put, List.setIfInBounds_toArray, List.set_cons_zero, List.set_cons_succ])
          | (refine mv_free _ (Or.inr ⟨by rfl, rfl⟩) (⟨k0, k1, cc, cs⟩) ?_
             simp only [Act.put, List.setIfInBounds_toArray, List.set_cons_zero, List.set_cons_succ])
      iterate 1
        first
          | (refine mv_take ?_ (Or.inl ⟨by rfl, ?_⟩) (⟨k0, k1, cc, cs⟩) ?_
             rotate_left 1
             · intro u hu
               (try dsimp only at hu)
               go_simp
               try with_reducible rfl
             simp only [Act.put, List.setIfInBounds_toArray, List.set_cons_zero, List.set_cons_succ])
          | (refine mv_take _ (Or.inr ⟨by rfl, rfl⟩) (⟨k0, k1, cc, cs⟩) ?_
             simp only [Act.put, List.setIfInBounds_toArray, List.set_cons_zero, List.set_cons_succ])
      iterate 3
        first
          | (refine mv_free ?_ (Or.inl ⟨by rfl, ?_⟩) (⟨k0, k1, cc, cs⟩) ?_
             rotate_left 1
             · intro u
               go_simp
               try simp only [d1]
               try simp only [d2]
               try simp only [d3]
               try with_reducible rfl
             simp only [Act.put, List.setIfInBounds_toArray, List.set_cons_zero, List.set_cons_succ])
          | (refine mv_free _ (Or.inr ⟨by rfl, rfl⟩) (⟨k0, k1, cc, cs⟩) ?_
             simp only [Act.put, List.setIfInBounds_toArray, List.set_cons_zero, List.set_cons_succ])
      iterate 1
        first
          | (refine mv_take ?_ (Or.inl ⟨by rfl, ?_⟩) (⟨k0, k1, cc, cs⟩) ?_
             rotate_left 1
             · intro u hu
               (try dsimp only at hu)
               go_simp
               try with_reducible rfl
             simp only [Act.put, List.setIfInBounds_toArray, List.set_cons_zero, List.set_cons_succ])
          | (refine mv_take _ (Or.inr ⟨by rfl, rfl⟩) (⟨k0, k1, cc, cs⟩) ?_
             simp only [Act.put, List.setIfInBounds_toArray, List.set_cons_zero, List.set_cons_succ])
      iterate 2
        first
          | (refine mv_free ?_ (Or.inl ⟨by rfl, ?_⟩) (⟨k0, k1, cc, cs⟩) ?_
             rotate_left 1
             · intro u
               go_simp
               try simp only [d1]
               try simp only [d2]
               try simp only [d3]
               try with_reducible rfl
             simp only [Act.put, List.setIfInBounds_toArray, List.set_cons_zero, List.set_cons_succ])
          | (refine mv_free _ (Or.inr ⟨by rfl, rfl⟩) (⟨k0, k1, cc, cs⟩) ?_
             simp only [Act.put, List.setIfInBounds_toArray, List.set_cons_zero, List.set_cons_succ])
      iterate 1
        first
          | (refine mv_take ?_ (Or.inl ⟨by rfl, ?_⟩) (⟨k0, k1, cc, cs⟩) ?_
             rotate_left 1
             · intro u hu
               (try dsimp only at hu)
               go_simp
               try with_reducible rfl
             simp only [Act.put, List.setIfInBounds_toArray, List.set_cons_zero, List.set_cons_succ])
          | (refine mv_take _ (Or.inr ⟨by rfl, rfl⟩) (⟨k0, k1, cc, cs⟩) ?_
             simp only [Act.put, List.setIfInBounds_toArray, List.set_cons_zero, List.set_cons_succ])
      iterate 3
        first
          | (refine mv_free ?_ (Or.inl ⟨by rfl, ?_⟩) (⟨k0, k1, cc, cs⟩) ?_
             rotate_left 1
             · intro u
               go_simp
               try simp only [d1]
               try simp only [d2]
               try simp only [d3]
               try with_reducible rfl
             simp only [Act.put, List.setIfInBounds_toArray, List.set_cons_zero, List.set_cons_succ])
          | (refine mv_free _ (Or.inr ⟨by rfl, rfl⟩) (⟨k0, k1, cc, cs⟩) ?_
             simp only [Act.put, List.setIfInBounds_toArray, List.set_cons_zero, List.set_cons_succ])
      iterate 1
        first
          | (refine mv_take ?_ (Or.inl ⟨by rfl, ?_⟩) (⟨k0, k1, cc, cs⟩) ?_
             rotate_left 1
             · intro u hu
               (try dsimp only at hu)
               go_simp
               try with_reducible rfl
             simp only [Act.put, List.setIfInBounds_toArray, List.set_cons_zero, List.set_cons_succ])
          | (refine mv_take _ (Or.inr ⟨by rfl, rfl⟩) (⟨k0, k1, cc, cs⟩) ?_
             simp only [Act.put, List.setIfInBounds_toArray, List.set_cons_zero, List.set_cons_succ])
      iterate 4
        first
          | (refine mv_free ?_ (Or.inl ⟨by rfl, ?_⟩) (⟨k0, k1, cc, cs⟩) ?_
             rotate_left 1
             · intro u
               go_simp
               try simp only [d1]
               try simp only [d2]
               try simp only [d3]
               try with_reducible rfl
             simp only [Act.put, List.setIfInBounds_toArray, List.set_cons_zero, List.set_cons_succ])
          | (refine mv_free _ (Or.inr ⟨by rfl, rfl⟩) (⟨k0, k1, cc, cs⟩) ?_
             simp only [Act.put, List.setIfInBounds_toArray, List.set_cons_zero, List.set_cons_succ])
      refine mv_step (fun K hK => ?_)
      go_simp
      refine hK.out _ _ _ (fun u hu => hu) (⟨(bc hA lq).trans k0, (bc hA lq).trans k1, (bc hA lg1).trans cc, (bc hA lg2).trans cs⟩) ?_
      clear hK K
      refine mv_late (fun K hK => ?_)
      go_simp
      refine hK.out (fun _ => True) _ _ ?_
      clear hK K
      refine mv_done ?_
      rw [← eV3]
      clear eV3 hb3 hA lq lg1 lg2 k0 k1 k2 k3 cc cs HV
      obtain ⟨k0, k1, k2, k3⟩ := HV3.c
      obtain ⟨d0, _⟩ := p3.one 0 rfl
      obtain ⟨d1, _⟩ := p3.one 1 rfl
      clear p3
      generalize v0.heap.size = q3 at *
      clear v0
      by_cases hb : 0 ≤ y2
      · rw [if_pos hb] at hR2
        replace hR2 := Lib.hid hR2
        have HV := Lib.hid (HV3.set x2 y2)
        clear HV3
        go_wp2
        go_roundw
        case rel => exact ⟨j, x2, y2, G + N, by omega, by rw [hBt.out], rfl, by simp, by have := hN.out; omega, hR2, nf, HV⟩
        case measure => simp [intOf] <;> omega
      · rw [if_neg hb] at hR2
        replace hR2 := Lib.hid hR2
        have HV := Lib.hid HV3
        clear HV3
        have hb2 : y2 < 0 := by omega
        go_wp2
        go_roundw
        case rel => exact ⟨j, x, y, G, by omega, by rw [hBt.out], rfl, rfl, by have := hN.out; omega, hR2, nA, HV⟩
        case measure => simp [intOf] <;> omega
set_option maxRecDepth 100000 in
set_option maxHeartbeats 8000000 in
theorem ran10 (g1 o1 c1 g2 o2 c2 : Nat) (x y : Int) (w : World) (hT : StT g1 o1 g2 o2 w) (hnz : ¬ (tcl x = 0 ∧ tcl y = 0)) (hy : tcl y < 0) (hx : ¬ -(tcl x) < 0) : Calls Try.prog 21 #[.slice (some ⟨g1, o1, none⟩) 14 c1, .slice (some ⟨g2, o2, none⟩) 14 c2, .int .i64 x, .int .i64 y] w fun e w' => e = .returned (.int .i64 (anV x y : Int)) ∧ Below w.heap.size w w' := by
  have CX := Lib.hid (fun u => rtclip_any x u)
  have CY := Lib.hid (fun u => rtclip_any y u)
  have bx := tcl_bd x
  have by1 := tcl_bd y
  have eV0 : anV x y = anC (tcl x, tcl y) := by unfold anV; exact if_neg hnz
  generalize tcl x = x0 at *
  generalize tcl y = y0 at *
  have e1 : anS (x0, y0) = (((-x0), (-y0)), 32768) := by unfold anS; exact if_pos hy
  have e2 : anC (x0, y0) = anF 14 ((-x0), (-y0)) 32768 := by
    unfold anC anQ
    rw [e1, if_neg (by show ¬ (-x0) < 0; omega)]
  rw [eV0, e2]
  clear eV0 e1 e2
  obtain ⟨R, hR⟩ : ∃ R, anF 14 ((-x0), (-y0)) 32768 = R := ⟨_, rfl⟩
  have eR := Lib.hid hR
  replace hR := Lib.hid hR
  rw [eR.out]
  have nA := Lib.hid (show Nm (-x0) (-y0) 2305843009213693952 from by
    have a1 : x0 * x0 ≤ 1152921504606846976 := by have := tsq_le (a := x0) (b := if 0 ≤ x0 then 1073741824 else -1073741824) ⟨fun q => by split at q <;> split <;> omega, fun q => by split at q <;> split <;> omega⟩; split at this <;> omega
    have a2 : y0 * y0 ≤ 1152921504606846976 := by have := tsq_le (a := y0) (b := if 0 ≤ y0 then 1073741824 else -1073741824) ⟨fun q => by split at q <;> split <;> omega, fun q => by split at q <;> split <;> omega⟩; split at this <;> omega
    unfold Nm
    try simp only [Int.neg_mul_neg]
    omega)
  obtain ⟨x1, ex1⟩ : ∃ x1, x1 = -x0 := ⟨_, rfl⟩
  obtain ⟨y1, ey1⟩ : ∃ y1, y1 = -y0 := ⟨_, rfl⟩
  rw [← ex1, ← ey1] at hR nA
  have wx : IntKind.i64.wrap (-x0) = x1 := by rw [ex1, IntKind.wrap_i64]; omega
  have wy : IntKind.i64.wrap (-y0) = y1 := by rw [ey1, IntKind.wrap_i64]; omega
  have dx : decide (x1 < 0) = false := by simp; omega
  have dy : decide (y0 < 0) = true := by simp; omega
  have gx : ¬ x1 < 0 := by omega
  clear bx by1
  replace ex1 := Lib.hid ex1
  replace ey1 := Lib.hid ey1
  obtain ⟨V, eV, HV⟩ : ∃ V, V = w.alloc (.cells #[.int .i64 x0, .int .i64 y0] 48) ∧ PtA w.heap.size g1 o1 g2 o2 x0 y0 w V := ⟨_, rfl, hT.bel (by repeat (first | exact Below.refl _ _ | assumption | apply Below.drew | apply below_drewN | (refine Below.alloc ?_ (by first | exact Nat.le_refl _ | omega | (simp <;> omega)) _) | (refine Below.setCell ?_ (by first | exact Nat.le_refl _ | omega | (simp <;> omega)) _))), Held.new w [.int .i64 x0, .int .i64 y0] _, (by repeat (first | exact Below.refl _ _ | assumption | apply Below.drew | apply below_drewN | (refine Below.alloc ?_ (by first | exact Nat.le_refl _ | omega | (simp <;> omega)) _) | (refine Below.setCell ?_ (by first | exact Nat.le_refl _ | omega | (simp <;> omega)) _))), Nat.le_refl _, hT.l1, hT.l2⟩
  clear hT
  go_enter Try.func21, Try.ntmps21
  go_wp2_with fail
  refine (CX.out _).mono ?_
  rintro e w1 ⟨rfl, rfl⟩
  go_wp2_with fail
  refine (CY.out _).mono ?_
  rintro e w2 ⟨rfl, rfl⟩
  go_upto_region 2 with (fail)
  rw [← eV]
  clear eV
  obtain ⟨q, eq⟩ : ∃ q, q = w.heap.size := ⟨_, rfl⟩
  rw [← eq] at HV ⊢
  replace eq := Lib.hid eq
  obtain ⟨k0, k1, k2, k3⟩ := HV.c
  replace HV := Lib.hid HV
  go_upto_region 5 with (fail)
  all_goals ((try (rename x0 = 0 => q1; clear q1)); (try (rename ¬ x0 = 0 => q1; clear q1)); (try (rename (x0 == 0) = false => q1; clear q1)); (try (rename (x0 == 0) = true => q1; clear q1)); (try (rename (y0 == 0) = false => q1; clear q1)); (try (rename ¬ y0 = 0 => q1; clear q1)))
  all_goals
    have HV := HV.out
    replace HV := Lib.hid (HV.set x1 y1)
    go_upto_region 8 with (fail)
    generalize (V.setCell ⟨q, 0, none⟩ (.int .i64 x1)).setCell ⟨q, 1, none⟩ (.int .i64 y1) = V1 at *
    clear k0 k1 k2 k3
    have HV := HV.out
    obtain ⟨k0, k1, k2, k3⟩ := HV.c
    replace HV := Lib.hid HV
    go_upto_region 11 with (fail)
    clear k0 k1 k2 k3
    clear gx dx dy CX CY hnz hy hx wx wy
    go_wp2_with fail
    go_loopw [10, 11, 12] (fun an bt i v => ∃ (k : Nat) (x y : Int) (G : Nat), k ≤ 14 ∧ bt = .int .i64 (btV k) ∧ i = .int .i64 ((k : Int) - 1) ∧ an = .int .i64 (G : Int) ∧ G + 2 ^ k ≤ 65536 ∧ Hid (anF k (x, y) G = R) ∧ Hid (Nm x y 2305843009213693952) ∧ Hid (PtA q g1 o1 g2 o2 x y w v)) (fun _ _ i _ => (intOf i + 1).toNat)
    case atStart => exact ⟨14, _, _, 32768, by omega, rfl, rfl, rfl, by decide, hR, nA, HV⟩
    case round =>
      clear HV hR nA
      obtain ⟨k, x, y, G, hk, rfl, rfl, rfl, hA, hR, nA, HV⟩ := hrel
      generalize wr = v0 at *
      cases k with
      | zero =>
        have hR2 : G = R := hR.out
        clear hR
        go_wp2
        go_ret
        exact ⟨by rw [← hR2]; rfl, HV.out.b⟩
      | succ j =>
        rw [show ((j + 1 : Nat) : Int) - 1 = (j : Int) by omega]
        rw [show btV (j + 1) = 2 ^ j from rfl]
        have hj : j < 14 := by omega
        have pb := bt_bd j hj
        have ph := bt_half j
        have i1 : (j : Int) < 14 := by omega
        have i0 : 0 ≤ (j : Int) := by omega
        have i7 : IntKind.i64.wrap ((j : Int) - 1) = (j : Int) - 1 := by rw [IntKind.wrap_i64]; omega
        have bv : 0 ≤ btV j ∧ btV j ≤ 8192 := by rw [← ph]; rw [Int.tdiv_eq_ediv_of_nonneg (by omega)]; omega
        have w0 : IntKind.i64.wrap (btV j) = btV j := by rw [IntKind.wrap_i64]; omega
        generalize hBt : btV j = Bt at *
        replace hBt := Lib.hid hBt
        obtain ⟨N, hN⟩ : ∃ N : Nat, N = 2 ^ j := ⟨_, rfl⟩
        have hN2 : (2 : Int) ^ j = (N : Int) := by rw [hN]; simp
        rw [hN2] at pb ph ⊢
        rw [Nat.pow_succ, ← hN] at hA
        have e4 : IntKind.i64.wrap ((G : Int) + (N : Int)) = (G : Int) + (N : Int) := by rw [IntKind.wrap_i64]; omega
        have hR2 : (if 0 ≤ bY j x y then anF j (bX j x y, bY j x y) (G + 2 ^ j) else anF j (x, y) G) = R := hR.out
        rw [← hN] at hR2
        clear hR bv pb
        replace hN := Lib.hid hN
        replace hN2 := Lib.hid hN2
        have nf := Lib.hid (b_le hj nA.out)
        have nn := nA.out
        have cc := HV.out.st.c j hj
        have cs := HV.out.st.s j hj
        have mb := tmul2_bd nn hj
        have n2 := (b_le hj nn).bd
        have eX2 : bX j x y = (x * tC j + y * tS j).tdiv 1073741824 := rfl
        have eY2 : bY j x y = (y * tC j - x * tS j).tdiv 1073741824 := rfl
        obtain ⟨A, eA⟩ : ∃ A, A = x * tC j := ⟨_, rfl⟩
        obtain ⟨B, eB⟩ : ∃ B, B = y * tS j := ⟨_, rfl⟩
        obtain ⟨C, eC⟩ : ∃ C, C = x * tS j := ⟨_, rfl⟩
        obtain ⟨D, eD⟩ : ∃ D, D = y * tC j := ⟨_, rfl⟩
        rw [← eA, ← eB, ← eC, ← eD] at mb
        have vA : IntKind.i64.wrap (x * tC j) = A := by rw [← eA, IntKind.wrap_i64]; omega
        have vB : IntKind.i64.wrap (y * tS j) = B := by rw [← eB, IntKind.wrap_i64]; omega
        have vC : IntKind.i64.wrap (x * tS j) = C := by rw [← eC, IntKind.wrap_i64]; omega
        have vD : IntKind.i64.wrap (y * tC j) = D := by rw [← eD, IntKind.wrap_i64]; omega
        rw [← eA, ← eB] at eX2
        rw [← eD, ← eC] at eY2
        generalize bX j x y = x2 at *
        generalize bY j x y = y2 at *
        have u1 : IntKind.i64.wrap (A + B) = A + B := by rw [IntKind.wrap_i64]; omega
        have u2 : IntKind.i64.wrap (D - C) = D - C := by rw [IntKind.wrap_i64]; omega
        have u3 : (A + B).tdiv 1073741824 = x2 := eX2.symm
        have u4 : (D - C).tdiv 1073741824 = y2 := eY2.symm
        have u5 : IntKind.i64.wrap x2 = x2 := by rw [IntKind.wrap_i64]; omega
        have u6 : IntKind.i64.wrap y2 = y2 := by rw [IntKind.wrap_i64]; omega
        clear eX2 eY2 mb nn
        generalize tC j = tc0 at *
        generalize tS j = ts0 at *
        clear eA eB eC eD
        obtain ⟨k0, k1, k2, k3⟩ := HV.out.c
        replace hj := Lib.hid hj
        replace n2 := Lib.hid n2
        obtain ⟨V3, eV3, hb3, p3⟩ : ∃ V3, V3 = (v0.alloc (.cells #[.int .i64 x2, .int .i64 y2] 48)).drew ∧ Below v0.heap.size v0 V3 ∧ Held v0.heap.size [.int .i64 x2, .int .i64 y2] V3 := ⟨_, rfl, (by repeat (first | exact Below.refl _ _ | assumption | apply Below.drew | apply below_drewN | (refine Below.alloc ?_ (by first | exact Nat.le_refl _ | omega | (simp <;> omega)) _) | (refine Below.setCell ?_ (by first | exact Nat.le_refl _ | omega | (simp <;> omega)) _))), (Held.new v0 [.int .i64 x2, .int .i64 y2] _).drew⟩
        have HV3 := HV.out.bel hb3
        have hA : Below v0.heap.size v0 (v0.drew.alloc (.cells #[.int .i64 0, .int .i64 0] 48)) := (by repeat (first | exact Below.refl _ _ | assumption | apply Below.drew | apply below_drewN | (refine Below.alloc ?_ (by first | exact Nat.le_refl _ | omega | (simp <;> omega)) _) | (refine Below.setCell ?_ (by first | exact Nat.le_refl _ | omega | (simp <;> omega)) _)))
        have lq := HV.out.p.lt
        have lg1 := HV.out.st.l1
        have lg2 := HV.out.st.l2
        go_wp2_with fail
        refine region_moves (fun u => u.cell? ⟨q, 0, none⟩ = some (.int .i64 x) ∧ u.cell? ⟨q, 1, none⟩ = some (.int .i64 y) ∧ u.cell? ⟨g1, o1 + j, none⟩ = some (.int .i64 tc0) ∧ u.cell? ⟨g2, o2 + j, none⟩ = some (.int .i64 ts0)) [(34, [(33, 34), (32, 34), (0, 34), (1, 34), (2, 34), (3, 34), (4, 34), (5, 34), (6, 34), (7, 34), (8, 34), (9, 34), (10, 34), (11, 34), (12, 34), (13, 34), (14, 34), (15, 34), (16, 34), (17, 34), (18, 34), (19, 34), (20, 34), (21, 34), (22, 34), (23, 34), (24, 34), (25, 34), (26, 34), (27, 34), (28, 34), (29, 34), (30, 34), (31, 34)])] [(.free, 0), (.take, 1), (.free, 2), (.free, 3), (.free, 4), (.take, 5), (.free, 6), (.free, 7), (.take, 8), (.free, 9), (.free, 10), (.free, 11), (.take, 12), (.free, 13), (.free, 14), (.free, 15), (.free, 16), (.take, 17), (.free, 18), (.free, 19), (.free, 20), (.take, 21), (.free, 22), (.free, 23), (.take, 24), (.free, 25), (.free, 26), (.free, 27), (.take, 28), (.free, 29), (.free, 30), (.free, 31), (.free, 32), (.step, 33), (.late, 34)] _ (by kernel_rfl) (by kernel_rfl) (by kernel_rfl) (by kernel_rfl) (by decide) rfl (fun _ _ _ _ _ h => h) ?_
        simp only [List.filterMap_cons, List.filterMap_nil, List.getElem?_toArray, List.getElem?_cons_zero, List.getElem?_cons_succ, Option.map_some]
        iterate 1
          first
            | (refine mv_free ?_ (Or.inl ⟨by rfl, ?_⟩) (⟨k0, k1, cc, cs⟩) ?_
               rotate_left 1
               · intro u
                 go_simp
                 try simp only [d1]
                 try simp only [d2]
                 try simp only [d3]
                 try with_reducible rfl
               simp only [Act.put, List.setIfInBounds_toArray, List.set_cons_zero, List.set_cons_succ])
            | (refine mv_free _ (Or.inr ⟨by rfl, rfl⟩) (⟨k0, k1, cc, cs⟩) ?_
               simp only [Act.put, List.setIfInBounds_toArray, List.set_cons_zero, List.set_cons_succ])
        iterate 1
          first
            | (refine mv_take ?_ (Or.inl ⟨by rfl, ?_⟩) (⟨k0, k1, cc, cs⟩) ?_
               rotate_left 1
               · intro u hu
                 (try dsimp only at hu)
                 go_simp
                 try with_reducible rfl
               simp only [Act.put, List.setIfInBounds_toArray, List.set_cons_zero, List.set_cons_succ])
            | (refine mv_take _ (Or.inr ⟨by rfl, rfl⟩) (⟨k0, k1, cc, cs⟩) ?_
               simp only [Act.put, List.setIfInBounds_toArray, List.set_cons_zero, List.set_cons_succ])
        iterate 3
          first
            | (refine mv_free ?_ (Or.inl ⟨by rfl, ?_⟩) (⟨k0, k1, cc, cs⟩) ?_
               rotate_left 1
               · intro u
                 go_simp
                 try simp only [d1]
                 try simp only [d2]
                 try simp only [d3]
                 try with_reducible rfl
               simp only [Act.put, List.setIfInBounds_toArray, List.set_cons_zero, List.set_cons_succ])
            | (refine mv_free _ (Or.inr ⟨by rfl, rfl⟩) (⟨k0, k1, cc, cs⟩) ?_
               simp only [Act.put, List.setIfInBounds_toArray, List.set_cons_zero, List.set_cons_succ])
        iterate 1
          first
            | (refine mv_take ?_ (Or.inl ⟨by rfl, ?_⟩) (⟨k0, k1, cc, cs⟩) ?_
               rotate_left 1
               · intro u hu
                 (try dsimp only at hu)
                 go_simp
                 try with_reducible rfl
               simp only [Act.put, List.setIfInBounds_toArray, List.set_cons_zero, List.set_cons_succ])
            | (refine mv_take _ (Or.inr ⟨by rfl, rfl⟩) (⟨k0, k1, cc, cs⟩) ?_
               simp only [Act.put, List.setIfInBounds_toArray, List.set_cons_zero, List.set_cons_succ])
        iterate 2
          first
            | (refine mv_free ?_ (Or.inl ⟨by rfl, ?_⟩) (⟨k0, k1, cc, cs⟩) ?_
               rotate_left 1
               · intro u
                 go_simp
                 try simp only [d1]
                 try simp only [d2]
                 try simp only [d3]
                 try with_reducible rfl
               simp only [Act.put, List.setIfInBounds_toArray, List.set_cons_zero, List.set_cons_succ])
            | (refine mv_free _ (Or.inr ⟨by rfl, rfl⟩) (⟨k0, k1, cc, cs⟩) ?_
               simp only [Act.put, List.setIfInBounds_toArray, List.set_cons_zero, List.set_cons_succ])
        iterate 1
          first
            | (refine mv_take ?_ (Or.inl ⟨by rfl, ?_⟩) (⟨k0, k1, cc, cs⟩) ?_
               rotate_left 1
               · intro u hu
                 (try dsimp only at hu)
                 go_simp
                 try with_reducible rfl
               simp only [Act.put, List.setIfInBounds_toArray, List.set_cons_zero, List.set_cons_succ])
            | (refine mv_take _ (Or.inr ⟨by rfl, rfl⟩) (⟨k0, k1, cc, cs⟩) ?_
               simp only [Act.put, List.setIfInBounds_toArray, List.set_cons_zero, List.set_cons_succ])
        iterate 3
          first
            | (refine mv_free ?_ (Or.inl ⟨by rfl, ?_⟩) (⟨k0, k1, cc, cs⟩) ?_
               rotate_left 1
               · intro u
                 go_simp
                 try simp only [d1]
                 try simp only [d2]
                 try simp only [d3]
                 try with_reducible rfl
               simp only [Act.put, List.setIfInBounds_toArray, List.set_cons_zero, List.set_cons_succ])
            | (refine mv_free _ (Or.inr ⟨by rfl, rfl⟩) (⟨k0, k1, cc, cs⟩) ?_
               simp only [Act.put, List.setIfInBounds_toArray, List.set_cons_zero, List.set_cons_succ])
        iterate 1
          first
            | (refine mv_take ?_ (Or.inl ⟨by rfl, ?_⟩) (⟨k0, k1, cc, cs⟩) ?_
               rotate_left 1
               · intro u hu
                 (try dsimp only at hu)
                 go_simp
                 try with_reducible rfl
               simp only [Act.put, List.setIfInBounds_toArray, List.set_cons_zero, List.set_cons_succ])
            | (refine mv_take _ (Or.inr ⟨by rfl, rfl⟩) (⟨k0, k1, cc, cs⟩) ?_
               simp only [Act.put, List.setIfInBounds_toArray, List.set_cons_zero, List.set_cons_succ])
        iterate 4
          first
            | (refine mv_free ?_ (Or.inl ⟨by rfl, ?_⟩) (⟨k0, k1, cc, cs⟩) ?_
               rotate_left 1
               · intro u
                 go_simp
                 try simp only [d1]
                 try simp only [d2]
                 try simp only [d3]
                 try with_reducible rfl
               simp only [Act.put, List.setIfInBounds_toArray, List.set_cons_zero, List.set_cons_succ])
            | (refine mv_free _ (Or.inr ⟨by rfl, rfl⟩) (⟨k0, k1, cc, cs⟩) ?_
               simp only [Act.put, List.setIfInBounds_toArray, List.set_cons_zero, List.set_cons_succ])
        iterate 1
          first
            | (refine mv_take ?_ (Or.inl ⟨by rfl, ?_⟩) (⟨k0, k1, cc, cs⟩) ?_
               rotate_left 1
               · intro u hu
                 (try dsimp only at hu)
                 go_simp
                 try with_reducible rfl
               simp only [Act.put, List.setIfInBounds_toArray, List.set_cons_zero, List.set_cons_succ])
            | (refine mv_take _ (Or.inr ⟨by rfl, rfl⟩) (⟨k0, k1, cc, cs⟩) ?_
               simp only [Act.put, List.setIfInBounds_toArray, List.set_cons_zero, List.set_cons_succ])
        iterate 3
          first
            | (refine mv_free ?_ (Or.inl ⟨by rfl, ?_⟩) (⟨k0, k1, cc, cs⟩) ?_
               rotate_left 1
               · intro u
                 go_simp
                 try simp only [d1]
                 try simp only [d2]
                 try simp only [d3]
                 try with_reducible rfl
               simp only [Act.put, List.setIfInBounds_toArray, List.set_cons_zero, List.set_cons_succ])
            | (refine mv_free _ (Or.inr ⟨by rfl, rfl⟩) (⟨k0, k1, cc, cs⟩) ?_
               simp only [Act.put, List.setIfInBounds_toArray, List.set_cons_zero, List.set_cons_succ])
        iterate 1
          first
            | (refine mv_take ?_ (Or.inl ⟨by rfl, ?_⟩) (⟨k0, k1, cc, cs⟩) ?_
               rotate_left 1
               · intro u hu
                 (try dsimp only at hu)
                 go_simp
                 try with_reducible rfl
               simp only [Act.put, List.setIfInBounds_toArray, List.set_cons_zero, List.set_cons_succ])
            | (refine mv_take _ (Or.inr ⟨by rfl, rfl⟩) (⟨k0, k1, cc, cs⟩) ?_
               simp only [Act.put, List.setIfInBounds_toArray, List.set_cons_zero, List.set_cons_succ])
        iterate 2
          first
            | (refine mv_free ?_ (Or.inl ⟨by rfl, ?_⟩) (⟨k0, k1, cc, cs⟩) ?_
               rotate_left 1
               · intro u
                 go_simp
                 try simp only [d1]
                 try simp only [d2]
                 try simp only [d3]
                 try with_reducible rfl
               simp only [Act.put, List.setIfInBounds_toArray, List.set_cons_zero, List.set_cons_succ])
            | (refine mv_free _ (Or.inr ⟨by rfl, rfl⟩) (⟨k0, k1, cc, cs⟩) ?_
               simp only [Act.put, List.setIfInBounds_toArray, List.set_cons_zero, List.set_cons_succ])
        iterate 1
          first
            | (refine mv_take ?_ (Or.inl ⟨by rfl, ?_⟩) (⟨k0, k1, cc, cs⟩) ?_
               rotate_left 1
               · intro u hu
                 (try dsimp only at hu)
                 go_simp
                 try with_reducible rfl
               simp only [Act.put, List.setIfInBounds_toArray, List.set_cons_zero, List.set_cons_succ])
            | (refine mv_take _ (Or.inr ⟨by rfl, rfl⟩) (⟨k0, k1, cc, cs⟩) ?_
               simp only [Act.put, List.setIfInBounds_toArray, List.set_cons_zero, List.set_cons_succ])
        iterate 3
          first
            | (refine mv_free ?_ (Or.inl ⟨by rfl, ?_⟩) (⟨k0, k1, cc, cs⟩) ?_
               rotate_left 1
               · intro u
                 go_simp
                 try simp only [d1]
                 try simp only [d2]
                 try simp only [d3]
                 try with_reducible rfl
               simp only [Act.put, List.setIfInBounds_toArray, List.set_cons_zero, List.set_cons_succ])
            | (refine mv_free _ (Or.inr ⟨by rfl, rfl⟩) (⟨k0, k1, cc, cs⟩) ?_
               simp only [Act.put, List.setIfInBounds_toArray, List.set_cons_zero, List.set_cons_succ])
        iterate 1
          first
            | (refine mv_take ?_ (Or.inl ⟨by rfl, ?_⟩) (⟨k0, k1, cc, cs⟩) ?_
               rotate_left 1
               · intro u hu
                 (try dsimp only at hu)
                 go_simp
                 try with_reducible rfl
               simp only [Act.put, List.setIfInBounds_toArray, List.set_cons_zero, List.set_cons_succ])
            | (refine mv_take _ (Or.inr ⟨by rfl, rfl⟩) (⟨k0, k1, cc, cs⟩) ?_
               simp only [Act.put, List.setIfInBounds_toArray, List.set_cons_zero, List.set_cons_succ])
        iterate 4
          first
            | (refine mv_free ?_ (Or.inl ⟨by rfl, ?_⟩) (⟨k0, k1, cc, cs⟩) ?_
               rotate_left 1
               · intro u
                 go_simp
                 try simp only [d1]
                 try simp only [d2]
                 try simp only [d3]
                 try with_reducible rfl
               simp only [Act.put, List.setIfInBounds_toArray, List.set_cons_zero, List.set_cons_succ])
            | (refine mv_free _ (Or.inr ⟨by rfl, rfl⟩) (⟨k0, k1, cc, cs⟩) ?_
               simp only [Act.put, List.setIfInBounds_toArray, List.set_cons_zero, List.set_cons_succ])
        refine mv_step (fun K hK => ?_)
        go_simp
        refine hK.out _ _ _ (fun u hu => hu) (⟨(bc hA lq).trans k0, (bc hA lq).trans k1, (bc hA lg1).trans cc, (bc hA lg2).trans cs⟩) ?_
        clear hK K
        refine mv_late (fun K hK => ?_)
        go_simp
        refine hK.out (fun _ => True) _ _ ?_
        clear hK K
        refine mv_done ?_
        rw [← eV3]
        clear eV3 hb3 hA lq lg1 lg2 k0 k1 k2 k3 cc cs HV
        obtain ⟨k0, k1, k2, k3⟩ := HV3.c
        obtain ⟨d0, _⟩ := p3.one 0 rfl
        obtain ⟨d1, _⟩ := p3.one 1 rfl
        clear p3
        generalize v0.heap.size = q3 at *
        clear v0
        by_cases hb : 0 ≤ y2
        · rw [if_pos hb] at hR2
          replace hR2 := Lib.hid hR2
          have HV := Lib.hid (HV3.set x2 y2)
          clear HV3
          go_wp2
          go_roundw
          case rel => exact ⟨j, x2, y2, G + N, by omega, by rw [hBt.out], rfl, by simp, by have := hN.out; omega, hR2, nf, HV⟩
          case measure => simp [intOf] <;> omega
        · rw [if_neg hb] at hR2
          replace hR2 := Lib.hid hR2
          have HV := Lib.hid HV3
          clear HV3
          have hb2 : y2 < 0 := by omega
          go_wp2
          go_roundw
          case rel => exact ⟨j, x, y, G, by omega, by rw [hBt.out], rfl, rfl, by have := hN.out; omega, hR2, nA, HV⟩
          case measure => simp [intOf] <;> omega
set_option maxRecDepth 100000 in
set_option maxHeartbeats 8000000 in
theorem ran11 (g1 o1 c1 g2 o2 c2 : Nat) (x y : Int) (w : World) (hT : StT g1 o1 g2 o2 w) (hnz : ¬ (tcl x = 0 ∧ tcl y = 0)) (hy : tcl y < 0) (hx : -(tcl x) < 0) : Calls Try.prog 21 #[.slice (some ⟨g1, o1, none⟩) 14 c1, .slice (some ⟨g2, o2, none⟩) 14 c2, .int .i64 x, .int .i64 y] w fun e w' => e = .returned (.int .i64 (anV x y : Int)) ∧ Below w.heap.size w w' := by
  have CX := Lib.hid (fun u => rtclip_any x u)
  have CY := Lib.hid (fun u => rtclip_any y u)
  have bx := tcl_bd x
  have by1 := tcl_bd y
  have eV0 : anV x y = anC (tcl x, tcl y) := by unfold anV; exact if_neg hnz
  generalize tcl x = x0 at *
  generalize tcl y = y0 at *
  have e1 : anS (x0, y0) = (((-x0), (-y0)), 32768) := by unfold anS; exact if_pos hy
  have e2 : anC (x0, y0) = anF 14 ((-y0), (-(-x0))) 49152 := by
    unfold anC anQ
    rw [e1, if_pos (by show (-x0) < 0; omega)]
  rw [eV0, e2]
  clear eV0 e1 e2
  obtain ⟨R, hR⟩ : ∃ R, anF 14 ((-y0), (-(-x0))) 49152 = R := ⟨_, rfl⟩
  have eR := Lib.hid hR
  replace hR := Lib.hid hR
  rw [eR.out]
  have nA := Lib.hid (show Nm (-y0) (-(-x0)) 2305843009213693952 from by
    have a1 : x0 * x0 ≤ 1152921504606846976 := by have := tsq_le (a := x0) (b := if 0 ≤ x0 then 1073741824 else -1073741824) ⟨fun q => by split at q <;> split <;> omega, fun q => by split at q <;> split <;> omega⟩; split at this <;> omega
    have a2 : y0 * y0 ≤ 1152921504606846976 := by have := tsq_le (a := y0) (b := if 0 ≤ y0 then 1073741824 else -1073741824) ⟨fun q => by split at q <;> split <;> omega, fun q => by split at q <;> split <;> omega⟩; split at this <;> omega
    unfold Nm
    try simp only [Int.neg_mul_neg]
    omega)
  obtain ⟨x1, ex1⟩ : ∃ x1, x1 = -x0 := ⟨_, rfl⟩
  obtain ⟨y1, ey1⟩ : ∃ y1, y1 = -y0 := ⟨_, rfl⟩
  rw [← ex1, ← ey1] at hR nA
  have wx : IntKind.i64.wrap (-x0) = x1 := by rw [ex1, IntKind.wrap_i64]; omega
  have wy : IntKind.i64.wrap (-y0) = y1 := by rw [ey1, IntKind.wrap_i64]; omega
  obtain ⟨z, ez⟩ : ∃ z, z = -x1 := ⟨_, rfl⟩
  rw [← ez] at hR nA
  have wz : IntKind.i64.wrap (-x1) = z := by rw [ez, IntKind.wrap_i64]; omega
  have dx : decide (x1 < 0) = true := by simp; omega
  have dy : decide (y0 < 0) = true := by simp; omega
  have gx : x1 < 0 := by omega
  clear bx by1
  replace ex1 := Lib.hid ex1
  replace ey1 := Lib.hid ey1
  replace ez := Lib.hid ez
  obtain ⟨V, eV, HV⟩ : ∃ V, V = w.alloc (.cells #[.int .i64 x0, .int .i64 y0] 48) ∧ PtA w.heap.size g1 o1 g2 o2 x0 y0 w V := ⟨_, rfl, hT.bel (by repeat (first | exact Below.refl _ _ | assumption | apply Below.drew | apply below_drewN | (refine Below.alloc ?_ (by first | exact Nat.le_refl _ | omega | (simp <;> omega)) _) | (refine Below.setCell ?_ (by first | exact Nat.le_refl _ | omega | (simp <;> omega)) _))), Held.new w [.int .i64 x0, .int .i64 y0] _, (by repeat (first | exact Below.refl _ _ | assumption | apply Below.drew | apply below_drewN | (refine Below.alloc ?_ (by first | exact Nat.le_refl _ | omega | (simp <;> omega)) _) | (refine Below.setCell ?_ (by first | exact Nat.le_refl _ | omega | (simp <;> omega)) _))), Nat.le_refl _, hT.l1, hT.l2⟩
  clear hT
  go_enter Try.func21, Try.ntmps21
  go_wp2_with fail
  refine (CX.out _).mono ?_
  rintro e w1 ⟨rfl, rfl⟩
  go_wp2_with fail
  refine (CY.out _).mono ?_
  rintro e w2 ⟨rfl, rfl⟩
  go_upto_region 2 with (fail)
  rw [← eV]
  clear eV
  obtain ⟨q, eq⟩ : ∃ q, q = w.heap.size := ⟨_, rfl⟩
  rw [← eq] at HV ⊢
  replace eq := Lib.hid eq
  obtain ⟨k0, k1, k2, k3⟩ := HV.c
  replace HV := Lib.hid HV
  go_upto_region 5 with (fail)
  have HV := HV.out
  replace HV := Lib.hid (HV.set x1 y1)
  go_upto_region 8 with (fail)
  generalize (V.setCell ⟨q, 0, none⟩ (.int .i64 x1)).setCell ⟨q, 1, none⟩ (.int .i64 y1) = V1 at *
  clear k0 k1 k2 k3
  have HV := HV.out
  obtain ⟨k0, k1, k2, k3⟩ := HV.c
  replace HV := Lib.hid (HV.set y1 z)
  go_upto_region 11 with (fail)
  generalize (V1.setCell ⟨q, 0, none⟩ (.int .i64 y1)).setCell ⟨q, 1, none⟩ (.int .i64 z) = V2 at *
  clear k0 k1 k2 k3
  clear gx dx dy CX CY hnz hy hx wx wy wz
  go_wp2_with fail
  go_loopw [10, 11, 12] (fun an bt i v => ∃ (k : Nat) (x y : Int) (G : Nat), k ≤ 14 ∧ bt = .int .i64 (btV k) ∧ i = .int .i64 ((k : Int) - 1) ∧ an = .int .i64 (G : Int) ∧ G + 2 ^ k ≤ 65536 ∧ Hid (anF k (x, y) G = R) ∧ Hid (Nm x y 2305843009213693952) ∧ Hid (PtA q g1 o1 g2 o2 x y w v)) (fun _ _ i _ => (intOf i + 1).toNat)
  case atStart => exact ⟨14, _, _, 49152, by omega, rfl, rfl, rfl, by decide, hR, nA, HV⟩
  case round =>
    clear HV hR nA
    obtain ⟨k, x, y, G, hk, rfl, rfl, rfl, hA, hR, nA, HV⟩ := hrel
    generalize wr = v0 at *
    cases k with
    | zero =>
      have hR2 : G = R := hR.out
      clear hR
      go_wp2
      go_ret
      exact ⟨by rw [← hR2]; rfl, HV.out.b⟩
    | succ j =>
      rw [show ((j + 1 : Nat) : Int) - 1 = (j : Int) by omega]
      rw [show btV (j + 1) = 2 ^ j from rfl]
      have hj : j < 14 := by omega
      have pb := bt_bd j hj
      have ph := bt_half j
      have i1 : (j : Int) < 14 := by omega
      have i0 : 0 ≤ (j : Int) := by omega
      have i7 : IntKind.i64.wrap ((j : Int) - 1) = (j : Int) - 1 := by rw [IntKind.wrap_i64]; omega
      have bv : 0 ≤ btV j ∧ btV j ≤ 8192 := by rw [← ph]; rw [Int.tdiv_eq_ediv_of_nonneg (by omega)]; omega
      have w0 : IntKind.i64.wrap (btV j) = btV j := by rw [IntKind.wrap_i64]; omega
      generalize hBt : btV j = Bt at *
      replace hBt := Lib.hid hBt
      obtain ⟨N, hN⟩ : ∃ N : Nat, N = 2 ^ j := ⟨_, rfl⟩
      have hN2 : (2 : Int) ^ j = (N : Int) := by rw [hN]; simp
      rw [hN2] at pb ph ⊢
      rw [Nat.pow_succ, ← hN] at hA
      have e4 : IntKind.i64.wrap ((G : Int) + (N : Int)) = (G : Int) + (N : Int) := by rw [IntKind.wrap_i64]; omega
      have hR2 : (if 0 ≤ bY j x y then anF j (bX j x y, bY j x y) (G + 2 ^ j) else anF j (x, y) G) = R := hR.out
      rw [← hN] at hR2
      clear hR bv pb
      replace hN := Lib.hid hN
      replace hN2 := Lib.hid hN2
      have nf := Lib.hid (b_le hj nA.out)
      have nn := nA.out
      have cc := HV.out.st.c j hj
      have cs := HV.out.st.s j hj
      have mb := tmul2_bd nn hj
      have n2 := (b_le hj nn).bd
      have eX2 : bX j x y = (x * tC j + y * tS j).tdiv 1073741824 := rfl
      have eY2 : bY j x y = (y * tC j - x * tS j).tdiv 1073741824 := rfl
      obtain ⟨A, eA⟩ : ∃ A, A = x * tC j := ⟨_, rfl⟩
      obtain ⟨B, eB⟩ : ∃ B, B = y * tS j := ⟨_, rfl⟩
      obtain ⟨C, eC⟩ : ∃ C, C = x * tS j := ⟨_, rfl⟩
      obtain ⟨D, eD⟩ : ∃ D, D = y * tC j := ⟨_, rfl⟩
      rw [← eA, ← eB, ← eC, ← eD] at mb
      have vA : IntKind.i64.wrap (x * tC j) = A := by rw [← eA, IntKind.wrap_i64]; omega
      have vB : IntKind.i64.wrap (y * tS j) = B := by rw [← eB, IntKind.wrap_i64]; omega
      have vC : IntKind.i64.wrap (x * tS j) = C := by rw [← eC, IntKind.wrap_i64]; omega
      have vD : IntKind.i64.wrap (y * tC j) = D := by rw [← eD, IntKind.wrap_i64]; omega
      rw [← eA, ← eB] at eX2
      rw [← eD, ← eC] at eY2
      generalize bX j x y = x2 at *
      generalize bY j x y = y2 at *
      have u1 : IntKind.i64.wrap (A + B) = A + B := by rw [IntKind.wrap_i64]; omega
      have u2 : IntKind.i64.wrap (D - C) = D - C := by rw [IntKind.wrap_i64]; omega
      have u3 : (A + B).tdiv 1073741824 = x2 := eX2.symm
      have u4 : (D - C).tdiv 1073741824 = y2 := eY2.symm
      have u5 : IntKind.i64.wrap x2 = x2 := by rw [IntKind.wrap_i64]; omega
      have u6 : IntKind.i64.wrap y2 = y2 := by rw [IntKind.wrap_i64]; omega
      clear eX2 eY2 mb nn
      generalize tC j = tc0 at *
      generalize tS j = ts0 at *
      clear eA eB eC eD
      obtain ⟨k0, k1, k2, k3⟩ := HV.out.c
      replace hj := Lib.hid hj
      replace n2 := Lib.hid n2
      obtain ⟨V3, eV3, hb3, p3⟩ : ∃ V3, V3 = (v0.alloc (.cells #[.int .i64 x2, .int .i64 y2] 48)).drew ∧ Below v0.heap.size v0 V3 ∧ Held v0.heap.size [.int .i64 x2, .int .i64 y2] V3 := ⟨_, rfl, (by repeat (first | exact Below.refl _ _ | assumption | apply Below.drew | apply below_drewN | (refine Below.alloc ?_ (by first | exact Nat.le_refl _ | omega | (simp <;> omega)) _) | (refine Below.setCell ?_ (by first | exact Nat.le_refl _ | omega | (simp <;> omega)) _))), (Held.new v0 [.int .i64 x2, .int .i64 y2] _).drew⟩
      have HV3 := HV.out.bel hb3
      have hA : Below v0.heap.size v0 (v0.drew.alloc (.cells #[.int .i64 0, .int .i64 0] 48)) := (by repeat (first | exact Below.refl _ _ | assumption | apply Below.drew | apply below_drewN | (refine Below.alloc ?_ (by first | exact Nat.le_refl _ | omega | (simp <;> omega)) _) | (refine Below.setCell ?_ (by first | exact Nat.le_refl _ | omega | (simp <;> omega)) _)))
      have lq := HV.out.p.lt
      have lg1 := HV.out.st.l1
      have lg2 := HV.out.st.l2
      go_wp2_with fail
      refine region_moves (fun u => u.cell? ⟨q, 0, none⟩ = some (.int .i64 x) ∧ u.cell? ⟨q, 1, none⟩ = some (.int .i64 y) ∧ u.cell? ⟨g1, o1 + j, none⟩ = some (.int .i64 tc0) ∧ u.cell? ⟨g2, o2 + j, none⟩ = some (.int .i64 ts0)) [(34, [(33, 34), (32, 34), (0, 34), (1, 34), (2, 34), (3, 34), (4, 34), (5, 34), (6, 34), (7, 34), (8, 34), (9, 34), (10, 34), (11, 34), (12, 34), (13, 34), (14, 34), (15, 34), (16, 34), (17, 34), (18, 34), (19, 34), (20, 34), (21, 34), (22, 34), (23, 34), (24, 34), (25, 34), (26, 34), (27, 34), (28, 34), (29, 34), (30, 34), (31, 34)])] [(.free, 0), (.take, 1), (.free, 2), (.free, 3), (.free, 4), (.take, 5), (.free, 6), (.free, 7), (.take, 8), (.free, 9), (.free, 10), (.free, 11), (.take, 12), (.free, 13), (.free, 14), (.free, 15), (.free, 16), (.take, 17), (.free, 18), (.free, 19), (.free, 20), (.take, 21), (.free, 22), (.free, 23), (.take, 24), (.free, 25), (.free, 26), (.free, 27), (.take, 28), (.free, 29), (.free, 30), (.free, 31), (.free, 32), (.step, 33), (.late, 34)] _ (by kernel_rfl) (by kernel_rfl) (by kernel_rfl) (by kernel_rfl) (by decide) rfl (fun _ _ _ _ _ h => h) ?_
      simp only [List.filterMap_cons, List.filterMap_nil, List.getElem?_toArray, List.getElem?_cons_zero, List.getElem?_cons_succ, Option.map_some]
      iterate 1
        first
          | (refine mv_free ?_ (Or.inl ⟨by rfl, ?_⟩) (⟨k0, k1, cc, cs⟩) ?_
             rotate_left 1
             · intro u
               go_simp
               try simp only [d1]
               try simp only [d2]
               try simp only [d3]
               try with_reducible rfl
             simp only [Act.put, List.setIfInBounds_toArray, List.set_cons_zero, List.set_cons_succ])
          | (refine mv_free _ (Or.inr ⟨by rfl, rfl⟩) (⟨k0, k1, cc, cs⟩) ?_
             simp only [Act.put, List.setIfInBounds_toArray, List.set_cons_zero, List.set_cons_succ])
      iterate 1
        first
          | (refine mv_take ?_ (Or.inl ⟨by rfl, ?_⟩) (⟨k0, k1, cc, cs⟩) ?_
             rotate_left 1
             · intro u hu
               (try dsimp only at hu)
               go_simp
               try with_reducible rfl
             simp only [Act.put, List.setIfInBounds_toArray, List.set_cons_zero, List.set_cons_succ])
          | (refine mv_take _ (Or.inr ⟨by rfl, rfl⟩) (⟨k0, k1, cc, cs⟩) ?_
             simp only [Act.put, List.setIfInBounds_toArray, List.set_cons_zero, List.set_cons_succ])
      iterate 3
        first
          | (refine mv_free ?_ (Or.inl ⟨by rfl, ?_⟩) (⟨k0, k1, cc, cs⟩) ?_
             rotate_left 1
             · intro u
               go_simp
               try simp only [d1]
               try simp only [d2]
               try simp only [d3]
               try with_reducible rfl
             simp only [Act.put, List.setIfInBounds_toArray, List.set_cons_zero, List.set_cons_succ])
          | (refine mv_free _ (Or.inr ⟨by rfl, rfl⟩) (⟨k0, k1, cc, cs⟩) ?_
             simp only [Act.put, List.setIfInBounds_toArray, List.set_cons_zero, List.set_cons_succ])
      iterate 1
        first
          | (refine mv_take ?_ (Or.inl ⟨by rfl, ?_⟩) (⟨k0, k1, cc, cs⟩) ?_
             rotate_left 1
             · intro u hu
               (try dsimp only at hu)
               go_simp
               try with_reducible rfl
             simp only [Act.put, List.setIfInBounds_toArray, List.set_cons_zero, List.set_cons_succ])
          | (refine mv_take _ (Or.inr ⟨by rfl, rfl⟩) (⟨k0, k1, cc, cs⟩) ?_
             simp only [Act.put, List.setIfInBounds_toArray, List.set_cons_zero, List.set_cons_succ])
      iterate 2
        first
          | (refine mv_free ?_ (Or.inl ⟨by rfl, ?_⟩) (⟨k0, k1, cc, cs⟩) ?_
             rotate_left 1
             · intro u
               go_simp
               try simp only [d1]
               try simp only [d2]
               try simp only [d3]
               try with_reducible rfl
             simp only [Act.put, List.setIfInBounds_toArray, List.set_cons_zero, List.set_cons_succ])
          | (refine mv_free _ (Or.inr ⟨by rfl, rfl⟩) (⟨k0, k1, cc, cs⟩) ?_
             simp only [Act.put, List.setIfInBounds_toArray, List.set_cons_zero, List.set_cons_succ])
      iterate 1
        first
          | (refine mv_take ?_ (Or.inl ⟨by rfl, ?_⟩) (⟨k0, k1, cc, cs⟩) ?_
             rotate_left 1
             · intro u hu
               (try dsimp only at hu)
               go_simp
               try with_reducible rfl
             simp only [Act.put, List.setIfInBounds_toArray, List.set_cons_zero, List.set_cons_succ])
          | (refine mv_take _ (Or.inr ⟨by rfl, rfl⟩) (⟨k0, k1, cc, cs⟩) ?_
             simp only [Act.put, List.setIfInBounds_toArray, List.set_cons_zero, List.set_cons_succ])
      iterate 3
        first
          | (refine mv_free ?_ (Or.inl ⟨by rfl, ?_⟩) (⟨k0, k1, cc, cs⟩) ?_
             rotate_left 1
             · intro u
               go_simp
               try simp only [d1]
               try simp only [d2]
               try simp only [d3]
               try with_reducible rfl
             simp only [Act.put, List.setIfInBounds_toArray, List.set_cons_zero, List.set_cons_succ])
          | (refine mv_free _ (Or.inr ⟨by rfl, rfl⟩) (⟨k0, k1, cc, cs⟩) ?_
             simp only [Act.put, List.setIfInBounds_toArray, List.set_cons_zero, List.set_cons_succ])
      iterate 1
        first
          | (refine mv_take ?_ (Or.inl ⟨by rfl, ?_⟩) (⟨k0, k1, cc, cs⟩) ?_
             rotate_left 1
             · intro u hu
               (try dsimp only at hu)
               go_simp
               try with_reducible rfl
             simp only [Act.put, List.setIfInBounds_toArray, List.set_cons_zero, List.set_cons_succ])
          | (refine mv_take _ (Or.inr ⟨by rfl, rfl⟩) (⟨k0, k1, cc, cs⟩) ?_
             simp only [Act.put, List.setIfInBounds_toArray, List.set_cons_zero, List.set_cons_succ])
      iterate 4
        first
          | (refine mv_free ?_ (Or.inl ⟨by rfl, ?_⟩) (⟨k0, k1, cc, cs⟩) ?_
             rotate_left 1
             · intro u
               go_simp
               try simp only [d1]
               try simp only [d2]
               try simp only [d3]
               try with_reducible rfl
             simp only [Act.put, List.setIfInBounds_toArray, List.set_cons_zero, List.set_cons_succ])
          | (refine mv_free _ (Or.inr ⟨by rfl, rfl⟩) (⟨k0, k1, cc, cs⟩) ?_
             simp only [Act.put, List.setIfInBounds_toArray, List.set_cons_zero, List.set_cons_succ])
      iterate 1
        first
          | (refine mv_take ?_ (Or.inl ⟨by rfl, ?_⟩) (⟨k0, k1, cc, cs⟩) ?_
             rotate_left 1
             · intro u hu
               (try dsimp only at hu)
               go_simp
               try with_reducible rfl
             simp only [Act.put, List.setIfInBounds_toArray, List.set_cons_zero, List.set_cons_succ])
          | (refine mv_take _ (Or.inr ⟨by rfl, rfl⟩) (⟨k0, k1, cc, cs⟩) ?_
             simp only [Act.put, List.setIfInBounds_toArray, List.set_cons_zero, List.set_cons_succ])
      iterate 3
        first
          | (refine mv_free ?_ (Or.inl ⟨by rfl, ?_⟩) (⟨k0, k1, cc, cs⟩) ?_
             rotate_left 1
             · intro u
               go_simp
               try simp only [d1]
               try simp only [d2]
               try simp only [d3]
               try with_reducible rfl
             simp only [Act.put, List.setIfInBounds_toArray, List.set_cons_zero, List.set_cons_succ])
          | (refine mv_free _ (Or.inr ⟨by rfl, rfl⟩) (⟨k0, k1, cc, cs⟩) ?_
             simp only [Act.put, List.setIfInBounds_toArray, List.set_cons_zero, List.set_cons_succ])
      iterate 1
        first
          | (refine mv_take ?_ (Or.inl ⟨by rfl, ?_⟩) (⟨k0, k1, cc, cs⟩) ?_
             rotate_left 1
             · intro u hu
               (try dsimp only at hu)
               go_simp
               try with_reducible rfl
             simp only [Act.put, List.setIfInBounds_toArray, List.set_cons_zero, List.set_cons_succ])
          | (refine mv_take _ (Or.inr ⟨by rfl, rfl⟩) (⟨k0, k1, cc, cs⟩) ?_
             simp only [Act.put, List.setIfInBounds_toArray, List.set_cons_zero, List.set_cons_succ])
      iterate 2
        first
          | (refine mv_free ?_ (Or.inl ⟨by rfl, ?_⟩) (⟨k0, k1, cc, cs⟩) ?_
             rotate_left 1
             · intro u
               go_simp
               try simp only [d1]
               try simp only [d2]
               try simp only [d3]
               try with_reducible rfl
             simp only [Act.put, List.setIfInBounds_toArray, List.set_cons_zero, List.set_cons_succ])
          | (refine mv_free _ (Or.inr ⟨by rfl, rfl⟩) (⟨k0, k1, cc, cs⟩) ?_
             simp only [Act.put, List.setIfInBounds_toArray, List.set_cons_zero, List.set_cons_succ])
      iterate 1
        first
          | (refine mv_take ?_ (Or.inl ⟨by rfl, ?_⟩) (⟨k0, k1, cc, cs⟩) ?_
             rotate_left 1
             · intro u hu
               (try dsimp only at hu)
               go_simp
               try with_reducible rfl
             simp only [Act.put, List.setIfInBounds_toArray, List.set_cons_zero, List.set_cons_succ])
          | (refine mv_take _ (Or.inr ⟨by rfl, rfl⟩) (⟨k0, k1, cc, cs⟩) ?_
             simp only [Act.put, List.setIfInBounds_toArray, List.set_cons_zero, List.set_cons_succ])
      iterate 3
        first
          | (refine mv_free ?_ (Or.inl ⟨by rfl, ?_⟩) (⟨k0, k1, cc, cs⟩) ?_
             rotate_left 1
             · intro u
               go_simp
               try simp only [d1]
               try simp only [d2]
               try simp only [d3]
               try with_reducible rfl
             simp only [Act.put, List.setIfInBounds_toArray, List.set_cons_zero, List.set_cons_succ])
          | (refine mv_free _ (Or.inr ⟨by rfl, rfl⟩) (⟨k0, k1, cc, cs⟩) ?_
             simp only [Act.put, List.setIfInBounds_toArray, List.set_cons_zero, List.set_cons_succ])
      iterate 1
        first
          | (refine mv_take ?_ (Or.inl ⟨by rfl, ?_⟩) (⟨k0, k1, cc, cs⟩) ?_
             rotate_left 1
             · intro u hu
               (try dsimp only at hu)
               go_simp
               try with_reducible rfl
             simp only [Act.put, List.setIfInBounds_toArray, List.set_cons_zero, List.set_cons_succ])
          | (refine mv_take _ (Or.inr ⟨by rfl, rfl⟩) (⟨k0, k1, cc, cs⟩) ?_
             simp only [Act.put, List.setIfInBounds_toArray, List.set_cons_zero, List.set_cons_succ])
      iterate 4
        first
          | (refine mv_free ?_ (Or.inl ⟨by rfl, ?_⟩) (⟨k0, k1, cc, cs⟩) ?_
             rotate_left 1
             · intro u
               go_simp
               try simp only [d1]
               try simp only [d2]
               try simp only [d3]
               try with_reducible rfl
             simp only [Act.put, List.setIfInBounds_toArray, List.set_cons_zero, List.set_cons_succ])
          | (refine mv_free _ (Or.inr ⟨by rfl, rfl⟩) (⟨k0, k1, cc, cs⟩) ?_
             simp only [Act.put, List.setIfInBounds_toArray, List.set_cons_zero, List.set_cons_succ])
      refine mv_step (fun K hK => ?_)
      go_simp
      refine hK.out _ _ _ (fun u hu => hu) (⟨(bc hA lq).trans k0, (bc hA lq).trans k1, (bc hA lg1).trans cc, (bc hA lg2).trans cs⟩) ?_
      clear hK K
      refine mv_late (fun K hK => ?_)
      go_simp
      refine hK.out (fun _ => True) _ _ ?_
      clear hK K
      refine mv_done ?_
      rw [← eV3]
      clear eV3 hb3 hA lq lg1 lg2 k0 k1 k2 k3 cc cs HV
      obtain ⟨k0, k1, k2, k3⟩ := HV3.c
      obtain ⟨d0, _⟩ := p3.one 0 rfl
      obtain ⟨d1, _⟩ := p3.one 1 rfl
      clear p3
      generalize v0.heap.size = q3 at *
      clear v0
      by_cases hb : 0 ≤ y2
      · rw [if_pos hb] at hR2
        replace hR2 := Lib.hid hR2
        have HV := Lib.hid (HV3.set x2 y2)
        clear HV3
        go_wp2
        go_roundw
        case rel => exact ⟨j, x2, y2, G + N, by omega, by rw [hBt.out], rfl, by simp, by have := hN.out; omega, hR2, nf, HV⟩
        case measure => simp [intOf] <;> omega
      · rw [if_neg hb] at hR2
        replace hR2 := Lib.hid hR2
        have HV := Lib.hid HV3
        clear HV3
        have hb2 : y2 < 0 := by omega
        go_wp2
        go_roundw
        case rel => exact ⟨j, x, y, G, by omega, by rw [hBt.out], rfl, rfl, by have := hN.out; omega, hR2, nA, HV⟩
        case measure => simp [intOf] <;> omega
set_option maxRecDepth 100000 in
set_option maxHeartbeats 8000000 in
theorem ran_zero (g1 o1 c1 g2 o2 c2 : Nat) (x y : Int) (w : World) (hx : tcl x = 0) (hy : tcl y = 0) : Calls Try.prog 21 #[.slice (some ⟨g1, o1, none⟩) 14 c1, .slice (some ⟨g2, o2, none⟩) 14 c2, .int .i64 x, .int .i64 y] w fun e w' => e = .returned (.int .i64 0) ∧ Below w.heap.size w w' := by
  have CX := Lib.hid (fun u => rtclip_any x u)
  have CY := Lib.hid (fun u => rtclip_any y u)
  rw [hx] at CX
  rw [hy] at CY
  go_enter Try.func21, Try.ntmps21
  go_wp2_with fail
  refine (CX.out _).mono ?_
  rintro e w1 ⟨rfl, rfl⟩
  go_wp2_with fail
  refine (CY.out _).mono ?_
  rintro e w2 ⟨rfl, rfl⟩
  go_wp2
  go_ret
  exact ⟨rfl, (by repeat (first | exact Below.refl _ _ | assumption | apply Below.drew | apply below_drewN | (refine Below.alloc ?_ (by first | exact Nat.le_refl _ | omega | (simp <;> omega)) _) | (refine Below.setCell ?_ (by first | exact Nat.le_refl _ | omega | (simp <;> omega)) _)))⟩
theorem rangle04 (g1 o1 c1 g2 o2 c2 : Nat) (x y : Int) (w : World) (hT : StT g1 o1 g2 o2 w) : Calls Try.prog 21 #[.slice (some ⟨g1, o1, none⟩) 14 c1, .slice (some ⟨g2, o2, none⟩) 14 c2, .int .i64 x, .int .i64 y] w fun e w' => e = .returned (.int .i64 (anV x y : Int)) ∧ Below w.heap.size w w' := by
  by_cases hz : tcl x = 0 ∧ tcl y = 0
  · refine (ran_zero g1 o1 c1 g2 o2 c2 x y w hz.1 hz.2).mono ?_
    rintro e w' ⟨rfl, hb⟩
    exact ⟨by rw [show anV x y = 0 by unfold anV; exact if_pos hz]; rfl, hb⟩
  · by_cases hy : tcl y < 0
    · by_cases hx : -(tcl x) < 0
      · exact ran11 g1 o1 c1 g2 o2 c2 x y w hT hz hy hx
      · exact ran10 g1 o1 c1 g2 o2 c2 x y w hT hz hy hx
    · by_cases hx : tcl x < 0
      · exact ran01 g1 o1 c1 g2 o2 c2 x y w hT hz hy hx
      · exact ran00 g1 o1 c1 g2 o2 c2 x y w hT hz hy hx
end Go.Proofs.Ytiibgblpbjdpaaa
