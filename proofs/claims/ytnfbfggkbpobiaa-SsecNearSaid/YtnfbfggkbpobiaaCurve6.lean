/- The document on curves: what one tells, whether it rises, whether two are the same; walked. -/
import Derived.Test.YtnfbfggkbpobiaaCurve4
import Derived.Test.YtnfbfggkbpobiaaCurve5
import Derived.Test.YtnfbfggkbpobiaaDig8
import Derived.Deep.Cut
namespace Go.Proofs.Ytnfbfggkbpobiaa
open Go.ChangeShapes Go.WideShapes Go.ChangeAt Go.RowKit
set_option linter.unusedVariables false
set_option linter.unusedSimpArgs false

theorem crV_low {X Y : List Int} {x : Int} {k : Nat} (hg : rgtB X Y = true) (hk : CrK X x k) (h : x ≤ X.getD 0 0) : crV X Y x k = Y.getD 0 0 := by
  obtain ⟨n1, n2, n3, g1, g2, g3⟩ := rgtB_at hg
  by_cases e : x = X.getD 0 0
  · subst e; exact crV_at hg (by omega) hk
  · obtain ⟨a1, a2⟩ := hk.at
    have : k = 0 := by
      rcases Nat.eq_zero_or_pos k with h | h
      · exact h
      · have := a1 0 h; omega
    subst this; rfl

set_option maxRecDepth 100000 in
set_option maxHeartbeats 8000000 in
theorem rat5_any (ax ay : Option Addr) (cx cy : Nat) (X Y : List Int) (x : Int) (k : Nat) (w : World) (hx : RowIs .i64 w ax X) (hy : RowIs .i64 w ay Y) (hg : rgtB X Y = true) (hk : CrK X x k) :
    Calls Try.prog 58 #[.agg #[.slice ax X.length cx, .slice ay Y.length cy], .int .i64 x] w fun e w' => e = .returned (.int .i64 (crV X Y x k)) ∧ Below w.heap.size w w' := by
  obtain ⟨n1, n2, n3, g1, g2, g3⟩ := rgtB_at hg
  obtain ⟨V, eV, hb0, hz, hcs⟩ := crv_box w ax ay cx cy X Y
  obtain ⟨bx, ox, rfl, RX⟩ := row_cell hx (by omega)
  obtain ⟨b2, o2, rfl, RY⟩ := row_cell hy (by omega)
  have GX := Lib.hid (fun u (h : Below (w.heap.size + 1) V u) => RX u (hb0.trans (h.mono (by omega))))
  have GY := Lib.hid (fun u (h : Below (w.heap.size + 1) V u) => RY u (hb0.trans (h.mono (by omega))))
  clear RX RY hx hy
  have m0 : (0 : Int) < (X.length : Int) := by omega
  have m1 : (0 : Int) < (Y.length : Int) := by omega
  have m2 : 0 < X.length := by omega
  have m3 : 0 < Y.length := by omega
  have m4 : X ≠ [] := fun e => by rw [e] at m2; simp at m2
  have m5 : Y ≠ [] := fun e => by rw [e] at m3; simp at m3
  have x0 := GX.out V (Below.refl _ _) 0 (by omega)
  have y0 := GY.out V (Below.refl _ _) 0 (by omega)
  rw [Nat.add_zero] at x0 y0
  by_cases hlow : x ≤ X.getD 0 0
  · rw [crV_low hg hk hlow]
    generalize X.getD 0 0 = p at *
    generalize Y.getD 0 0 = q at *
    clear hg hk GX GY n1 n2 n3 g1 g2 g3
    replace hb0 := Lib.hid hb0
    replace hz := Lib.hid hz
    replace hcs := Lib.hid hcs
    replace eV := Lib.hid eV
    go_enter Try.func58, Try.ntmps58
    go_upto_region 1 with (fail)
    rw [← eV.out]
    obtain ⟨k0, k1⟩ := hcs.out _ (Below.refl _ _)
    go_wp2
    go_ret
    exact ⟨rfl, hb0.out⟩
  · obtain ⟨a1, a2⟩ := hk.at
    have hkl := hk.le
    have hk1 : 1 ≤ k := by
      rcases Nat.eq_zero_or_pos k with h | h
      · subst h; have := a2 (by omega); omega
      · exact h
    have hgt : X.getD 0 0 < x := by omega
    have HV := Lib.hid (fun j (hj : k = j + 1) (hl : j + 1 < X.length) => show crV X Y x k = Y.getD j 0 + flV (Y.getD (j + 1) 0 - Y.getD j 0) (x - X.getD j 0) (X.getD (j + 1) 0 - X.getD j 0) by subst hj; unfold crV; rw [if_neg (by omega), if_neg (by omega)]; rfl)
    have HE := Lib.hid (fun (hl : k = X.length) => show crV X Y x k = Y.getD (X.length - 1) 0 by unfold crV; rw [if_neg (by omega), if_pos hl])
    have HX1 := Lib.hid (fun i (hi : i < X.length) => insB_at g2 hi)
    have HY1 := Lib.hid (fun i (hi : i < X.length) => insB_at g3 (show i < Y.length by omega))
    have A1 := Lib.hid a1
    have A2 := Lib.hid a2
    generalize crV X Y x k = R at *
    generalize X.getD 0 0 = p at *
    have nl := Lib.hid (show (Y.length : Int) = (X.length : Int) by omega)
    replace n3 := Lib.hid n3
    have hX := Lib.hid n2
    have hK := Lib.hid (show 1 ≤ k ∧ k ≤ X.length from ⟨hk1, hkl⟩)
    clear hg hk a1 a2 y0 n1 n2 g1 g2 g3 hkl hk1 hlow
    replace hb0 := Lib.hid hb0
    replace hz := Lib.hid hz
    replace hcs := Lib.hid hcs
    replace eV := Lib.hid eV
    go_enter Try.func58, Try.ntmps58
    go_upto_region 1 with (fail)
    rw [← eV.out]
    obtain ⟨k0, k1⟩ := hcs.out _ (Below.refl _ _)
    go_wp2_with fail
    go_loopw [5] (fun i v => ∃ j : Nat, j + 1 ≤ k ∧ i = .int .i64 ((j : Int) + 1) ∧ Below (w.heap.size + 1) V v) (fun i _ => X.length + 1 - (intOf i).toNat)
    case atStart => exact ⟨0, hK.out.1, rfl, Below.refl _ _⟩
    case round =>
      obtain ⟨j, hj, rfl, hb⟩ := hrel
      obtain ⟨k0, k1⟩ := hcs.out _ hb
      have l9 := hK.out.2
      have l8 := hX.out
      have et : ((j : Int) + 1).toNat = j + 1 := by omega
      have e0 : 0 ≤ (j : Int) + 1 := by omega
      have e00 : 0 ≤ (j : Int) := by omega
      have hw4 : IntKind.i64.wrap (j : Int) = (j : Int) := IntWalk.i64_in _ ⟨by omega, by omega⟩
      by_cases hlt : j + 1 < X.length
      · have l1 : (j : Int) + 1 < (X.length : Int) := by omega
        have l2 : (j : Int) + 1 < (Y.length : Int) := by rw [nl.out]; exact l1
        have l3 : (j : Int) < (X.length : Int) := by omega
        have l4 : (j : Int) < (Y.length : Int) := by rw [nl.out]; exact l3
        have c1 := GX.out _ hb (j + 1) hlt
        by_cases hc : k = j + 1
        · have hv := HV.out j hc hlt
          have b1 := HX1.out j (by omega)
          have b2' := HX1.out (j + 1) hlt
          have b3 := HY1.out j (by omega)
          have b4 := HY1.out (j + 1) hlt
          have b5 := A1.out j (by omega)
          have b6 := A2.out (by omega)
          rw [hc] at b6
          have C0 := Lib.hid (fun u (h : Below (w.heap.size + 1) V u) => GX.out u h j (by omega))
          have C1 := Lib.hid (fun u (h : Below (w.heap.size + 1) V u) => GX.out u h (j + 1) hlt)
          have C2 := Lib.hid (fun u (h : Below (w.heap.size + 1) V u) => GY.out u h j (by rw [n3.out]; omega))
          have C3 := Lib.hid (fun u (h : Below (w.heap.size + 1) V u) => GY.out u h (j + 1) (by rw [n3.out]; omega))
          clear c1
          generalize X.getD j 0 = p0 at *
          generalize X.getD (j + 1) 0 = p1 at *
          generalize Y.getD j 0 = q0 at *
          generalize Y.getD (j + 1) 0 = q1 at *
          have FL := Lib.hid (fun u => rfloor_any (q1 - q0) (x - p0) (p1 - p0) u (by omega) (by omega) (by omega) (by omega) (by omega) (by omega))
          have bF := flV_bd (q1 - q0) (x - p0) (p1 - p0)
          generalize flV (q1 - q0) (x - p0) (p1 - p0) = F at *
          generalize flB (q1 - q0) (x - p0) (p1 - p0) = FB at *
          have hw1 : IntKind.i64.wrap (q1 - q0) = q1 - q0 := IntWalk.i64_in _ ⟨by omega, by omega⟩
          have hw2 : IntKind.i64.wrap (x - p0) = x - p0 := IntWalk.i64_in _ ⟨by omega, by omega⟩
          have hw3 : IntKind.i64.wrap (p1 - p0) = p1 - p0 := IntWalk.i64_in _ ⟨by omega, by omega⟩
          replace hv := Lib.hid hv
          have c1 := C0.out _ hb
          have c2 := C1.out _ hb
          have c3 := C2.out _ hb
          have c4 := C3.out _ hb
          clear hc hj A1 A2 HV HE HX1 HY1 GX GY x0
          go_wp2_with fail
          refine region_moves (fun u => u.cell? ⟨w.heap.size, 0, none⟩ = some (.slice (some ⟨bx, ox, none⟩) X.length cx) ∧ u.cell? ⟨w.heap.size, 1, none⟩ = some (.slice (some ⟨b2, o2, none⟩) Y.length cy) ∧ u.cell? ⟨bx, ox + j, none⟩ = some (.int .i64 p0) ∧ u.cell? ⟨bx, ox + (j + 1), none⟩ = some (.int .i64 p1) ∧ u.cell? ⟨b2, o2 + j, none⟩ = some (.int .i64 q0) ∧ u.cell? ⟨b2, o2 + (j + 1), none⟩ = some (.int .i64 q1)) [] [(.free, 0), (.take, 1), (.free, 2), (.free, 3), (.take, 4), (.free, 5), (.take, 6), (.free, 7), (.free, 8), (.free, 9), (.take, 10), (.free, 11), (.free, 12), (.free, 13), (.take, 14), (.free, 15), (.free, 16), (.free, 17), (.take, 18), (.free, 19), (.free, 20), (.take, 21), (.free, 22), (.free, 23), (.take, 24), (.free, 25), (.take, 26), (.free, 27), (.free, 28), (.free, 29), (.take, 30), (.free, 31), (.step, 32), (.free, 33), (.free, 34), (.free, 35), (.free, 36), (.free, 37)] _ (by kernel_rfl) (by kernel_rfl) (by kernel_rfl) (by kernel_rfl) (by decide) rfl (fun _ _ _ _ _ h => h) ?_
          simp only [List.filterMap_cons, List.filterMap_nil, List.getElem?_toArray, List.getElem?_cons_zero, List.getElem?_cons_succ, Option.map_some]
          iterate 1
            first
              | (refine mv_free ?_ (Or.inl ⟨by rfl, ?_⟩) (⟨k0, k1, c1, c2, c3, c4⟩) ?_
                 rotate_left 1
                 · intro u
                   go_simp
                   try simp only [e1]
                   try simp only [e2]
                   try simp only [d1]
                   try simp only [d2]
                   try simp only [d3]
                   try with_reducible rfl
                 simp only [Act.put, List.setIfInBounds_toArray, List.set_cons_zero, List.set_cons_succ])
              | (refine mv_free _ (Or.inr ⟨by rfl, rfl⟩) (⟨k0, k1, c1, c2, c3, c4⟩) ?_
                 simp only [Act.put, List.setIfInBounds_toArray, List.set_cons_zero, List.set_cons_succ])
          iterate 1
            first
              | (refine mv_take ?_ (Or.inl ⟨by rfl, ?_⟩) (⟨k0, k1, c1, c2, c3, c4⟩) ?_
                 rotate_left 1
                 · intro u hu
                   (try dsimp only at hu)
                   go_simp
                   try with_reducible rfl
                 simp only [Act.put, List.setIfInBounds_toArray, List.set_cons_zero, List.set_cons_succ])
              | (refine mv_take _ (Or.inr ⟨by rfl, rfl⟩) (⟨k0, k1, c1, c2, c3, c4⟩) ?_
                 simp only [Act.put, List.setIfInBounds_toArray, List.set_cons_zero, List.set_cons_succ])
          iterate 2
            first
              | (refine mv_free ?_ (Or.inl ⟨by rfl, ?_⟩) (⟨k0, k1, c1, c2, c3, c4⟩) ?_
                 rotate_left 1
                 · intro u
                   go_simp
                   try simp only [e1]
                   try simp only [e2]
                   try simp only [d1]
                   try simp only [d2]
                   try simp only [d3]
                   try with_reducible rfl
                 simp only [Act.put, List.setIfInBounds_toArray, List.set_cons_zero, List.set_cons_succ])
              | (refine mv_free _ (Or.inr ⟨by rfl, rfl⟩) (⟨k0, k1, c1, c2, c3, c4⟩) ?_
                 simp only [Act.put, List.setIfInBounds_toArray, List.set_cons_zero, List.set_cons_succ])
          iterate 1
            first
              | (refine mv_take ?_ (Or.inl ⟨by rfl, ?_⟩) (⟨k0, k1, c1, c2, c3, c4⟩) ?_
                 rotate_left 1
                 · intro u hu
                   (try dsimp only at hu)
                   go_simp
                   try with_reducible rfl
                 simp only [Act.put, List.setIfInBounds_toArray, List.set_cons_zero, List.set_cons_succ])
              | (refine mv_take _ (Or.inr ⟨by rfl, rfl⟩) (⟨k0, k1, c1, c2, c3, c4⟩) ?_
                 simp only [Act.put, List.setIfInBounds_toArray, List.set_cons_zero, List.set_cons_succ])
          iterate 1
            first
              | (refine mv_free ?_ (Or.inl ⟨by rfl, ?_⟩) (⟨k0, k1, c1, c2, c3, c4⟩) ?_
                 rotate_left 1
                 · intro u
                   go_simp
                   try simp only [e1]
                   try simp only [e2]
                   try simp only [d1]
                   try simp only [d2]
                   try simp only [d3]
                   try with_reducible rfl
                 simp only [Act.put, List.setIfInBounds_toArray, List.set_cons_zero, List.set_cons_succ])
              | (refine mv_free _ (Or.inr ⟨by rfl, rfl⟩) (⟨k0, k1, c1, c2, c3, c4⟩) ?_
                 simp only [Act.put, List.setIfInBounds_toArray, List.set_cons_zero, List.set_cons_succ])
          iterate 1
            first
              | (refine mv_take ?_ (Or.inl ⟨by rfl, ?_⟩) (⟨k0, k1, c1, c2, c3, c4⟩) ?_
                 rotate_left 1
                 · intro u hu
                   (try dsimp only at hu)
                   go_simp
                   try with_reducible rfl
                 simp only [Act.put, List.setIfInBounds_toArray, List.set_cons_zero, List.set_cons_succ])
              | (refine mv_take _ (Or.inr ⟨by rfl, rfl⟩) (⟨k0, k1, c1, c2, c3, c4⟩) ?_
                 simp only [Act.put, List.setIfInBounds_toArray, List.set_cons_zero, List.set_cons_succ])
          iterate 3
            first
              | (refine mv_free ?_ (Or.inl ⟨by rfl, ?_⟩) (⟨k0, k1, c1, c2, c3, c4⟩) ?_
                 rotate_left 1
                 · intro u
                   go_simp
                   try simp only [e1]
                   try simp only [e2]
                   try simp only [d1]
                   try simp only [d2]
                   try simp only [d3]
                   try with_reducible rfl
                 simp only [Act.put, List.setIfInBounds_toArray, List.set_cons_zero, List.set_cons_succ])
              | (refine mv_free _ (Or.inr ⟨by rfl, rfl⟩) (⟨k0, k1, c1, c2, c3, c4⟩) ?_
                 simp only [Act.put, List.setIfInBounds_toArray, List.set_cons_zero, List.set_cons_succ])
          iterate 1
            first
              | (refine mv_take ?_ (Or.inl ⟨by rfl, ?_⟩) (⟨k0, k1, c1, c2, c3, c4⟩) ?_
                 rotate_left 1
                 · intro u hu
                   (try dsimp only at hu)
                   go_simp
                   try with_reducible rfl
                 simp only [Act.put, List.setIfInBounds_toArray, List.set_cons_zero, List.set_cons_succ])
              | (refine mv_take _ (Or.inr ⟨by rfl, rfl⟩) (⟨k0, k1, c1, c2, c3, c4⟩) ?_
                 simp only [Act.put, List.setIfInBounds_toArray, List.set_cons_zero, List.set_cons_succ])
          iterate 3
            first
              | (refine mv_free ?_ (Or.inl ⟨by rfl, ?_⟩) (⟨k0, k1, c1, c2, c3, c4⟩) ?_
                 rotate_left 1
                 · intro u
                   go_simp
                   try simp only [e1]
                   try simp only [e2]
                   try simp only [d1]
                   try simp only [d2]
                   try simp only [d3]
                   try with_reducible rfl
                 simp only [Act.put, List.setIfInBounds_toArray, List.set_cons_zero, List.set_cons_succ])
              | (refine mv_free _ (Or.inr ⟨by rfl, rfl⟩) (⟨k0, k1, c1, c2, c3, c4⟩) ?_
                 simp only [Act.put, List.setIfInBounds_toArray, List.set_cons_zero, List.set_cons_succ])
          iterate 1
            first
              | (refine mv_take ?_ (Or.inl ⟨by rfl, ?_⟩) (⟨k0, k1, c1, c2, c3, c4⟩) ?_
                 rotate_left 1
                 · intro u hu
                   (try dsimp only at hu)
                   go_simp
                   try with_reducible rfl
                 simp only [Act.put, List.setIfInBounds_toArray, List.set_cons_zero, List.set_cons_succ])
              | (refine mv_take _ (Or.inr ⟨by rfl, rfl⟩) (⟨k0, k1, c1, c2, c3, c4⟩) ?_
                 simp only [Act.put, List.setIfInBounds_toArray, List.set_cons_zero, List.set_cons_succ])
          iterate 3
            first
              | (refine mv_free ?_ (Or.inl ⟨by rfl, ?_⟩) (⟨k0, k1, c1, c2, c3, c4⟩) ?_
                 rotate_left 1
                 · intro u
                   go_simp
                   try simp only [e1]
                   try simp only [e2]
                   try simp only [d1]
                   try simp only [d2]
                   try simp only [d3]
                   try with_reducible rfl
                 simp only [Act.put, List.setIfInBounds_toArray, List.set_cons_zero, List.set_cons_succ])
              | (refine mv_free _ (Or.inr ⟨by rfl, rfl⟩) (⟨k0, k1, c1, c2, c3, c4⟩) ?_
                 simp only [Act.put, List.setIfInBounds_toArray, List.set_cons_zero, List.set_cons_succ])
          iterate 1
            first
              | (refine mv_take ?_ (Or.inl ⟨by rfl, ?_⟩) (⟨k0, k1, c1, c2, c3, c4⟩) ?_
                 rotate_left 1
                 · intro u hu
                   (try dsimp only at hu)
                   go_simp
                   try with_reducible rfl
                 simp only [Act.put, List.setIfInBounds_toArray, List.set_cons_zero, List.set_cons_succ])
              | (refine mv_take _ (Or.inr ⟨by rfl, rfl⟩) (⟨k0, k1, c1, c2, c3, c4⟩) ?_
                 simp only [Act.put, List.setIfInBounds_toArray, List.set_cons_zero, List.set_cons_succ])
          iterate 2
            first
              | (refine mv_free ?_ (Or.inl ⟨by rfl, ?_⟩) (⟨k0, k1, c1, c2, c3, c4⟩) ?_
                 rotate_left 1
                 · intro u
                   go_simp
                   try simp only [e1]
                   try simp only [e2]
                   try simp only [d1]
                   try simp only [d2]
                   try simp only [d3]
                   try with_reducible rfl
                 simp only [Act.put, List.setIfInBounds_toArray, List.set_cons_zero, List.set_cons_succ])
              | (refine mv_free _ (Or.inr ⟨by rfl, rfl⟩) (⟨k0, k1, c1, c2, c3, c4⟩) ?_
                 simp only [Act.put, List.setIfInBounds_toArray, List.set_cons_zero, List.set_cons_succ])
          iterate 1
            first
              | (refine mv_take ?_ (Or.inl ⟨by rfl, ?_⟩) (⟨k0, k1, c1, c2, c3, c4⟩) ?_
                 rotate_left 1
                 · intro u hu
                   (try dsimp only at hu)
                   go_simp
                   try with_reducible rfl
                 simp only [Act.put, List.setIfInBounds_toArray, List.set_cons_zero, List.set_cons_succ])
              | (refine mv_take _ (Or.inr ⟨by rfl, rfl⟩) (⟨k0, k1, c1, c2, c3, c4⟩) ?_
                 simp only [Act.put, List.setIfInBounds_toArray, List.set_cons_zero, List.set_cons_succ])
          iterate 2
            first
              | (refine mv_free ?_ (Or.inl ⟨by rfl, ?_⟩) (⟨k0, k1, c1, c2, c3, c4⟩) ?_
                 rotate_left 1
                 · intro u
                   go_simp
                   try simp only [e1]
                   try simp only [e2]
                   try simp only [d1]
                   try simp only [d2]
                   try simp only [d3]
                   try with_reducible rfl
                 simp only [Act.put, List.setIfInBounds_toArray, List.set_cons_zero, List.set_cons_succ])
              | (refine mv_free _ (Or.inr ⟨by rfl, rfl⟩) (⟨k0, k1, c1, c2, c3, c4⟩) ?_
                 simp only [Act.put, List.setIfInBounds_toArray, List.set_cons_zero, List.set_cons_succ])
          iterate 1
            first
              | (refine mv_take ?_ (Or.inl ⟨by rfl, ?_⟩) (⟨k0, k1, c1, c2, c3, c4⟩) ?_
                 rotate_left 1
                 · intro u hu
                   (try dsimp only at hu)
                   go_simp
                   try with_reducible rfl
                 simp only [Act.put, List.setIfInBounds_toArray, List.set_cons_zero, List.set_cons_succ])
              | (refine mv_take _ (Or.inr ⟨by rfl, rfl⟩) (⟨k0, k1, c1, c2, c3, c4⟩) ?_
                 simp only [Act.put, List.setIfInBounds_toArray, List.set_cons_zero, List.set_cons_succ])
          iterate 1
            first
              | (refine mv_free ?_ (Or.inl ⟨by rfl, ?_⟩) (⟨k0, k1, c1, c2, c3, c4⟩) ?_
                 rotate_left 1
                 · intro u
                   go_simp
                   try simp only [e1]
                   try simp only [e2]
                   try simp only [d1]
                   try simp only [d2]
                   try simp only [d3]
                   try with_reducible rfl
                 simp only [Act.put, List.setIfInBounds_toArray, List.set_cons_zero, List.set_cons_succ])
              | (refine mv_free _ (Or.inr ⟨by rfl, rfl⟩) (⟨k0, k1, c1, c2, c3, c4⟩) ?_
                 simp only [Act.put, List.setIfInBounds_toArray, List.set_cons_zero, List.set_cons_succ])
          iterate 1
            first
              | (refine mv_take ?_ (Or.inl ⟨by rfl, ?_⟩) (⟨k0, k1, c1, c2, c3, c4⟩) ?_
                 rotate_left 1
                 · intro u hu
                   (try dsimp only at hu)
                   go_simp
                   try with_reducible rfl
                 simp only [Act.put, List.setIfInBounds_toArray, List.set_cons_zero, List.set_cons_succ])
              | (refine mv_take _ (Or.inr ⟨by rfl, rfl⟩) (⟨k0, k1, c1, c2, c3, c4⟩) ?_
                 simp only [Act.put, List.setIfInBounds_toArray, List.set_cons_zero, List.set_cons_succ])
          iterate 3
            first
              | (refine mv_free ?_ (Or.inl ⟨by rfl, ?_⟩) (⟨k0, k1, c1, c2, c3, c4⟩) ?_
                 rotate_left 1
                 · intro u
                   go_simp
                   try simp only [e1]
                   try simp only [e2]
                   try simp only [d1]
                   try simp only [d2]
                   try simp only [d3]
                   try with_reducible rfl
                 simp only [Act.put, List.setIfInBounds_toArray, List.set_cons_zero, List.set_cons_succ])
              | (refine mv_free _ (Or.inr ⟨by rfl, rfl⟩) (⟨k0, k1, c1, c2, c3, c4⟩) ?_
                 simp only [Act.put, List.setIfInBounds_toArray, List.set_cons_zero, List.set_cons_succ])
          iterate 1
            first
              | (refine mv_take ?_ (Or.inl ⟨by rfl, ?_⟩) (⟨k0, k1, c1, c2, c3, c4⟩) ?_
                 rotate_left 1
                 · intro u hu
                   (try dsimp only at hu)
                   go_simp
                   try with_reducible rfl
                 simp only [Act.put, List.setIfInBounds_toArray, List.set_cons_zero, List.set_cons_succ])
              | (refine mv_take _ (Or.inr ⟨by rfl, rfl⟩) (⟨k0, k1, c1, c2, c3, c4⟩) ?_
                 simp only [Act.put, List.setIfInBounds_toArray, List.set_cons_zero, List.set_cons_succ])
          iterate 1
            first
              | (refine mv_free ?_ (Or.inl ⟨by rfl, ?_⟩) (⟨k0, k1, c1, c2, c3, c4⟩) ?_
                 rotate_left 1
                 · intro u
                   go_simp
                   try simp only [e1]
                   try simp only [e2]
                   try simp only [d1]
                   try simp only [d2]
                   try simp only [d3]
                   try with_reducible rfl
                 simp only [Act.put, List.setIfInBounds_toArray, List.set_cons_zero, List.set_cons_succ])
              | (refine mv_free _ (Or.inr ⟨by rfl, rfl⟩) (⟨k0, k1, c1, c2, c3, c4⟩) ?_
                 simp only [Act.put, List.setIfInBounds_toArray, List.set_cons_zero, List.set_cons_succ])
          refine mv_step (fun K hK => ?_)
          go_simp
          refine (FL.out _).mono ?_
          rintro e w2 ⟨rfl, hb2⟩
          have hb2 := hb.drew.trans (hb2.mono (by have := hb.size; have := hz.out; show _ ≤ wr.heap.size; omega))
          obtain ⟨k0, k1⟩ := hcs.out _ hb2
          have c1 := C0.out _ hb2
          have c2 := C1.out _ hb2
          have c3 := C2.out _ hb2
          have c4 := C3.out _ hb2
          go_wp2_with fail
          refine hK.out _ _ _ (fun u hu => hu) (⟨k0, k1, c1, c2, c3, c4⟩) ?_
          clear hK K
          iterate 5
            first
              | (refine mv_free ?_ (Or.inl ⟨by rfl, ?_⟩) (⟨k0, k1, c1, c2, c3, c4⟩) ?_
                 rotate_left 1
                 · intro u
                   go_simp
                   try simp only [e1]
                   try simp only [e2]
                   try simp only [d1]
                   try simp only [d2]
                   try simp only [d3]
                   try with_reducible rfl
                 simp only [Act.put, List.setIfInBounds_toArray, List.set_cons_zero, List.set_cons_succ])
              | (refine mv_free _ (Or.inr ⟨by rfl, rfl⟩) (⟨k0, k1, c1, c2, c3, c4⟩) ?_
                 simp only [Act.put, List.setIfInBounds_toArray, List.set_cons_zero, List.set_cons_succ])
          refine mv_done ?_
          go_wp2
          go_ret
          exact ⟨ret_int hv.out.symm, hb0.out.trans (hb2.mono (by omega))⟩
        · have hk2 : j + 1 + 1 ≤ k := by omega
          have b6 := A1.out (j + 1) hk2
          generalize X.getD (j + 1) 0 = p1 at *
          go_wp2
          go_roundw
          case rel => exact ⟨j + 1, by omega, by go_num, hb⟩
          case measure => simp [intOf]; omega
      · obtain rfl : k = j + 1 := by omega
        have e2 : X.length = j + 1 := by omega
        have hv := HE.out e2.symm
        have c1 := GY.out _ hb j (by rw [n3.out]; omega)
        rw [show X.length - 1 = j by omega] at hv
        have l5 : (X.length : Int) ≤ (j : Int) + 1 := by omega
        have l6 : (Y.length : Int) = (j : Int) + 1 := by rw [nl.out]; omega
        have l7 : (j : Int) < (Y.length : Int) := by omega
        have l61 : (Y.length : Int) - 1 = (j : Int) := by omega
        generalize Y.getD j 0 = q0 at *
        replace hv := Lib.hid hv
        replace nl := 0
        clear A1 A2 HV HE HX1 HY1 GX GY x0 hj
        go_wp2
        go_ret
        exact ⟨ret_int hv.out.symm, hb0.out.trans (hb.mono (by omega))⟩
end Go.Proofs.Ytnfbfggkbpobiaa
