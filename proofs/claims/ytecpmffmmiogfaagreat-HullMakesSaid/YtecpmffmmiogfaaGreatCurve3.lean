/- Package curve: what a right curve tells, or that none is told; walked. -/
import Derived.Test.YtecpmffmmiogfaaGreatCurve2
namespace Go.Proofs.YtecpmffmmiogfaaGreat
open Go.ChangeShapes Go.WideShapes Go.ChangeAt Go.RowKit
set_option linter.unusedVariables false
set_option linter.unusedSimpArgs false

theorem crv2_box (w : World) (ax ay : Option Addr) (cx cy : Nat) (X Y : List Int) (x : Int) : ∃ V, V = (w.alloc (.cells #[.slice ax X.length cx, .slice ay Y.length cy] 75)).alloc (.cells #[.int .i64 x] 2) ∧ Below w.heap.size w V ∧ V.heap.size = w.heap.size + 2 ∧ ∀ u, Below (w.heap.size + 2) V u → u.cell? ⟨w.heap.size, 0, none⟩ = some (.slice ax X.length cx) ∧ u.cell? ⟨w.heap.size, 1, none⟩ = some (.slice ay Y.length cy) ∧ u.cell? ⟨w.heap.size + 1, 0, none⟩ = some (.int .i64 x) :=
  ⟨_, rfl, (by repeat (first | exact Below.refl _ _ | assumption | apply Below.drew | apply below_drewN | (refine Below.alloc ?_ (by first | exact Nat.le_refl _ | omega | (simp <;> omega)) _) | (refine Below.setCell ?_ (by first | exact Nat.le_refl _ | omega | (simp <;> omega)) _))), by simp, fun u hu => ⟨(bc hu (by omega)).trans (by go_simp), (bc hu (by omega)).trans (by go_simp), (bc hu (by omega)).trans (by go_simp)⟩⟩

/-- The first point above a place. -/
structure CrK (X : List Int) (x : Int) (k : Nat) : Prop where
  le : k ≤ X.length
  lo : ∀ t, t < k → crP X x t = false
  hi : ∀ t, k ≤ t → t < X.length → crP X x t = true
theorem CrK.at {X : List Int} {x : Int} {k : Nat} (h : CrK X x k) : (∀ t, t < k → X.getD t 0 ≤ x) ∧ (k < X.length → x < X.getD k 0) :=
  ⟨fun t ht => by have := h.lo t ht; unfold crP at this; simp at this; simpa using this, fun hk => by have := h.hi k (Nat.le_refl _) hk; unfold crP at this; simp at this; simpa using this⟩
theorem insB_at {l : List Int} (h : insB l = true) {i : Nat} (hi : i < l.length) : -549755813887 ≤ l.getD i 0 ∧ l.getD i 0 ≤ 549755813887 := of_decide_eq_true h i hi
theorem risB_at {l : List Int} (h : risB l = true) {i : Nat} (hi : i + 1 < l.length) : l.getD i 0 < l.getD (i + 1) 0 := by
  have := of_decide_eq_true h (i + 1) hi (by omega)
  rwa [show i + 1 - 1 = i by omega] at this
theorem risB_lt {l : List Int} (h : risB l = true) : ∀ (i d : Nat), i + d + 1 < l.length → l.getD i 0 < l.getD (i + d + 1) 0
  | i, 0, hi => risB_at h hi
  | i, d + 1, hi => by
    have a := risB_lt h i d (by omega)
    have b := risB_at h (i := i + d + 1) (by omega)
    rw [show i + (d + 1) + 1 = i + d + 1 + 1 by omega]
    omega
/-- A curve that rises has a first point above any place. -/
theorem crK_ex {X : List Int} (h : risB X = true) (x : Int) : ∃ k, CrK X x k := by
  obtain ⟨r, h1, h2, h3⟩ := least_place (crP X x) X.length (fun a b ab hb hp => by
    unfold crP at *
    simp only [decide_eq_true_eq] at *
    rcases Nat.lt_or_ge a b with hlt | hge
    · obtain ⟨d, rfl⟩ : ∃ d, b = a + d + 1 := ⟨b - a - 1, by omega⟩
      have := risB_lt h a d hb
      omega
    · obtain rfl : a = b := by omega
      exact hp)
  exact ⟨r, h1, h2, h3⟩
theorem rgtB_at {X Y : List Int} (h : rgtB X Y = true) : 2 ≤ X.length ∧ X.length ≤ 64 ∧ Y.length = X.length ∧ risB X = true ∧ insB X = true ∧ insB Y = true := by
  unfold rgtB at h
  simp at h
  obtain ⟨⟨⟨⟨⟨a, b⟩, c⟩, d⟩, e⟩, f⟩ := h
  exact ⟨a, b, c, d, e, f⟩

set_option maxRecDepth 100000 in
set_option maxHeartbeats 8000000 in
theorem cvalue5_any (ax ay : Option Addr) (cx cy : Nat) (X Y : List Int) (x : Int) (k : Nat) (w : World) (hx : RowIs .i64 w ax X) (hy : RowIs .i64 w ay Y) (hg : rgtB X Y = true) (hk : CrK X x k) :
    Calls Tryz.prog 122 #[.agg #[.slice ax X.length cx, .slice ay Y.length cy], .int .i64 x] w fun e w' => e = .returned (.int .i64 (crV X Y x k)) ∧ Below w.heap.size w w' := by
  obtain ⟨n1, n2, n3, g1, g2, g3⟩ := rgtB_at hg
  obtain ⟨V, eV, hb0, hz, hcs⟩ := crv2_box w ax ay cx cy X Y x
  have SR := fun u (h : Below (w.heap.size + 2) V u) => search_any 132 #[.pointer (some ⟨w.heap.size, 0, none⟩), .pointer (some ⟨w.heap.size + 1, 0, none⟩)] X.length k (crP X x) u (enters_of Tryz.func132 (by kernel_rfl) rfl) (by omega) hk.le hk.lo hk.hi
    (fun u' i hi hb => by
      have h2 := h.trans (hb.mono (by have := h.size; omega))
      exact cval1_any w.heap.size ax cx X x i hi (by omega) u' (hx.below ((hb0.trans (h.mono (by omega))).trans (hb.mono (by have := h.size; omega)))) (hcs u' h2).1 (hcs u' h2).2.2)
  have HX := Lib.hid (fun u (h : Below w.heap.size w u) => hx.below h)
  have HY := Lib.hid (fun u (h : Below w.heap.size w u) => hy.below h)
  obtain ⟨a1, a2⟩ := hk.at
  have hkl := hk.le
  have nl : (X.length : Int) = (Y.length : Int) := by omega
  replace hb0 := Lib.hid hb0
  replace hz := Lib.hid hz
  replace hcs := Lib.hid hcs
  replace eV := Lib.hid eV
  have m1 : (2 : Int) ≤ (X.length : Int) := by omega
  have m2 : (X.length : Int) ≤ 64 := by omega
  have m3 : (2 : Int) ≤ (Y.length : Int) := by omega
  rcases (show k = 0 ∨ k = X.length ∨ (∃ j, k = j + 1 ∧ j + 1 < X.length) by
    rcases Nat.eq_zero_or_pos k with h | h
    · exact .inl h
    · by_cases e : k = X.length
      · exact .inr (.inl e)
      · exact .inr (.inr ⟨k - 1, by omega, by omega⟩)) with rfl | ek | ⟨j, rfl, hj⟩
  · rw [show crV X Y x 0 = Y.getD 0 0 from rfl]
    rw [show ((0 : Nat) : Int) = 0 from rfl] at SR
    have e9 : (0 : Int) < (Y.length : Int) := by omega
    replace SR := Lib.hid SR
    have HY0 := Lib.hid (fun u (h : Below w.heap.size w u) => ((hy.below h).at (show 0 < Y.length by omega)))
    generalize Y.getD 0 0 = y0 at *
    replace nl := Lib.hid nl
    replace n3 := Lib.hid n3
    clear hx hy hg hk a1 a2 g1 g2 g3
    go_enter Tryz.func122, Tryz.ntmps122
    go_wp2_with fail
    rw [← eV.out]
    obtain ⟨k0, k1, k2⟩ := hcs.out _ (Below.refl _ _)
    go_wp2_with fail
    refine (SR.out V (Below.refl _ _)).mono ?_
    rintro e w1 ⟨rfl, hb1⟩
    have hb1 := (Below.refl (w.heap.size + 2) V).trans (hb1.mono (Nat.le_of_eq hz.out.symm))
    obtain ⟨k0, k1, k2⟩ := hcs.out _ hb1
    have hW := Lib.hid (hb0.out.trans (hb1.mono (by omega)))
    obtain ⟨by', oy, ea, hblk, hc⟩ := HY0.out _ hW.out
    subst ea
    rw [Nat.add_zero] at hc
    go_wp2
    go_ret
    exact ⟨rfl, hW.out⟩
  · rw [show crV X Y x k = Y.getD (X.length - 1) 0 by unfold crV; rw [if_neg (by omega), if_pos ek]]
    subst ek
    replace SR := Lib.hid SR
    have HY0 := Lib.hid (fun u (h : Below w.heap.size w u) => ((hy.below h).at (show X.length - 1 < Y.length by omega)))
    generalize Y.getD (X.length - 1) 0 = y0 at *
    have et : ((X.length : Int) - 1).toNat = X.length - 1 := by omega
    have e0 : 0 ≤ (X.length : Int) - 1 := by omega
    have e1 : (X.length : Int) - 1 < (Y.length : Int) := by omega
    have e2 : (X.length : Int) - 1 < (X.length : Int) := by omega
    have e3 : ((X.length : Int) == 0) = false := beq_eq_false_iff_ne.2 (by omega)
    replace nl := Lib.hid nl
    replace n3 := Lib.hid n3
    clear hx hy hg hk a1 a2 g1 g2 g3
    go_enter Tryz.func122, Tryz.ntmps122
    go_wp2_with fail
    rw [← eV.out]
    obtain ⟨k0, k1, k2⟩ := hcs.out _ (Below.refl _ _)
    go_wp2_with fail
    refine (SR.out V (Below.refl _ _)).mono ?_
    rintro e w1 ⟨rfl, hb1⟩
    have hb1 := (Below.refl (w.heap.size + 2) V).trans (hb1.mono (Nat.le_of_eq hz.out.symm))
    obtain ⟨k0, k1, k2⟩ := hcs.out _ hb1
    have hW := Lib.hid (hb0.out.trans (hb1.mono (by omega)))
    obtain ⟨by', oy, ea, hblk, hc⟩ := HY0.out _ hW.out
    subst ea
    go_wp2
    go_ret
    exact ⟨rfl, hW.out⟩
  · rw [show crV X Y x (j + 1) = Y.getD j 0 + flV (Y.getD (j + 1) 0 - Y.getD j 0) (x - X.getD j 0) (X.getD (j + 1) 0 - X.getD j 0) by unfold crV; rw [if_neg (by omega), if_neg (by omega)]; rfl]
    have b1 := insB_at g2 (show j < X.length by omega)
    have b2 := insB_at g2 hj
    have b3 := insB_at g3 (show j < Y.length by omega)
    have b4 := insB_at g3 (show j + 1 < Y.length by omega)
    have b5 := a1 j (by omega)
    have b6 := a2 hj
    have HX0 := Lib.hid (fun u (h : Below w.heap.size w u) => ((hx.below h).at (show j < X.length by omega)))
    have HX1 := Lib.hid (fun u (h : Below w.heap.size w u) => ((hx.below h).at (show j + 1 < X.length by omega)))
    have HY0 := Lib.hid (fun u (h : Below w.heap.size w u) => ((hy.below h).at (show j < Y.length by omega)))
    have HY1 := Lib.hid (fun u (h : Below w.heap.size w u) => ((hy.below h).at (show j + 1 < Y.length by omega)))
    generalize X.getD j 0 = p0 at *
    generalize X.getD (j + 1) 0 = p1 at *
    generalize Y.getD j 0 = q0 at *
    generalize Y.getD (j + 1) 0 = q1 at *
    have FL := Lib.hid (fun u => floor_any (q1 - q0) (x - p0) (p1 - p0) u (by omega) (by omega) (by omega) (by omega) (by omega) (by omega))
    have bF := flV_bd (q1 - q0) (x - p0) (p1 - p0)
    generalize flV (q1 - q0) (x - p0) (p1 - p0) = F at *
    generalize flB (q1 - q0) (x - p0) (p1 - p0) = FB at *
    have hw1 : IntKind.i64.wrap (q1 - q0) = q1 - q0 := IntWalk.i64_in _ ⟨by omega, by omega⟩
    have hw2 : IntKind.i64.wrap (x - p0) = x - p0 := IntWalk.i64_in _ ⟨by omega, by omega⟩
    have hw3 : IntKind.i64.wrap (p1 - p0) = p1 - p0 := IntWalk.i64_in _ ⟨by omega, by omega⟩
    have hw4 : IntKind.i64.wrap ((j : Int) + 1) = (j : Int) + 1 := IntWalk.i64_in _ ⟨by omega, by omega⟩
    have et : ((j : Int) + 1).toNat = j + 1 := by omega
    have e0 : 0 ≤ (j : Int) + 1 := by omega
    have e1 : (j : Int) + 1 < (X.length : Int) := by omega
    have e2 : (j : Int) + 1 < (Y.length : Int) := by omega
    have e3 : (j : Int) < (X.length : Int) := by omega
    have e4 : (j : Int) < (Y.length : Int) := by omega
    have e5 : ((j : Int) + 1 == 0) = false := beq_eq_false_iff_ne.2 (by omega)
    have e6 : (j : Int) + 1 ≤ (X.length : Int) - 1 := by omega
    rw [show ((j + 1 : Nat) : Int) = (j : Int) + 1 by omega] at SR
    replace SR := Lib.hid SR
    replace nl := Lib.hid nl
    replace n3 := Lib.hid n3
    have hx0 := HX0.out w (Below.refl _ _)
    obtain ⟨bx, ox, eax, -, -⟩ := hx0
    have hy0 := HY0.out w (Below.refl _ _)
    obtain ⟨by', oy, eay, -, -⟩ := hy0
    have GX0 := Lib.hid (fun u (h : Below w.heap.size w u) => show u.cell? ⟨bx, ox + j, none⟩ = some (.int .i64 p0) from by
      obtain ⟨b, o, ea, _, hc⟩ := HX0.out u h
      rw [eax] at ea; injection ea with ea; injection ea with i1 i2; subst i1 i2; exact hc)
    have GX1 := Lib.hid (fun u (h : Below w.heap.size w u) => show u.cell? ⟨bx, ox + (j + 1), none⟩ = some (.int .i64 p1) from by
      obtain ⟨b, o, ea, _, hc⟩ := HX1.out u h
      rw [eax] at ea; injection ea with ea; injection ea with i1 i2; subst i1 i2; exact hc)
    have GY0 := Lib.hid (fun u (h : Below w.heap.size w u) => show u.cell? ⟨by', oy + j, none⟩ = some (.int .i64 q0) from by
      obtain ⟨b, o, ea, _, hc⟩ := HY0.out u h
      rw [eay] at ea; injection ea with ea; injection ea with i1 i2; subst i1 i2; exact hc)
    have GY1 := Lib.hid (fun u (h : Below w.heap.size w u) => show u.cell? ⟨by', oy + (j + 1), none⟩ = some (.int .i64 q1) from by
      obtain ⟨b, o, ea, _, hc⟩ := HY1.out u h
      rw [eay] at ea; injection ea with ea; injection ea with i1 i2; subst i1 i2; exact hc)
    clear HX0 HX1 HY0 HY1 hx hy hg hk a1 a2 g1 g2 g3 HX HY
    subst eax eay
    go_enter Tryz.func122, Tryz.ntmps122
    go_wp2_with fail
    rw [← eV.out]
    obtain ⟨k0, k1, k2⟩ := hcs.out _ (Below.refl _ _)
    go_wp2_with fail
    refine (SR.out V (Below.refl _ _)).mono ?_
    rintro e w1 ⟨rfl, hb1⟩
    have hb1 := (Below.refl (w.heap.size + 2) V).trans (hb1.mono (Nat.le_of_eq hz.out.symm))
    obtain ⟨k0, k1, k2⟩ := hcs.out _ hb1
    have hW := Lib.hid (hb0.out.trans (hb1.mono (by omega)))
    have c1 := GX0.out _ hW.out
    have c2 := GX1.out _ hW.out
    have c3 := GY0.out _ hW.out
    have c4 := GY1.out _ hW.out
    go_wp2_with fail
    refine region_moves (fun u => u.cell? ⟨w.heap.size, 0, none⟩ = some (.slice (some ⟨bx, ox, none⟩) X.length cx) ∧ u.cell? ⟨w.heap.size, 1, none⟩ = some (.slice (some ⟨by', oy, none⟩) Y.length cy) ∧ u.cell? ⟨w.heap.size + 1, 0, none⟩ = some (.int .i64 x) ∧ u.cell? ⟨bx, ox + j, none⟩ = some (.int .i64 p0) ∧ u.cell? ⟨bx, ox + (j + 1), none⟩ = some (.int .i64 p1) ∧ u.cell? ⟨by', oy + j, none⟩ = some (.int .i64 q0) ∧ u.cell? ⟨by', oy + (j + 1), none⟩ = some (.int .i64 q1)) [] [(.free, 0), (.take, 1), (.free, 2), (.free, 3), (.free, 4), (.take, 5), (.free, 6), (.take, 7), (.free, 8), (.free, 9), (.take, 10), (.free, 11), (.take, 12), (.free, 13), (.take, 14), (.free, 15), (.free, 16), (.take, 17), (.free, 18), (.free, 19), (.take, 20), (.free, 21), (.free, 22), (.free, 23), (.take, 24), (.free, 25), (.take, 26), (.free, 27), (.free, 28), (.take, 29), (.free, 30), (.step, 31), (.free, 32), (.free, 33), (.free, 34), (.free, 35), (.free, 36)] _ (by kernel_rfl) (by kernel_rfl) (by kernel_rfl) (by kernel_rfl) (by decide) rfl (fun _ _ _ _ _ h => h) ?_
    simp only [List.filterMap_cons, List.filterMap_nil, List.getElem?_toArray, List.getElem?_cons_zero, List.getElem?_cons_succ, Option.map_some]
    iterate 1
      first
        | (refine mv_free ?_ (Or.inl ⟨by rfl, ?_⟩) (⟨k0, k1, k2, c1, c2, c3, c4⟩) ?_
           rotate_left 1
           · intro u
             go_simp
             try with_reducible rfl
           simp only [Act.put, List.setIfInBounds_toArray, List.set_cons_zero, List.set_cons_succ])
        | (refine mv_free _ (Or.inr ⟨by rfl, rfl⟩) (⟨k0, k1, k2, c1, c2, c3, c4⟩) ?_
           simp only [Act.put, List.setIfInBounds_toArray, List.set_cons_zero, List.set_cons_succ])
    iterate 1
      first
        | (refine mv_take ?_ (Or.inl ⟨by rfl, ?_⟩) (⟨k0, k1, k2, c1, c2, c3, c4⟩) ?_
           rotate_left 1
           · intro u hu
             (try dsimp only at hu)
             go_simp
             try with_reducible rfl
           simp only [Act.put, List.setIfInBounds_toArray, List.set_cons_zero, List.set_cons_succ])
        | (refine mv_take _ (Or.inr ⟨by rfl, rfl⟩) (⟨k0, k1, k2, c1, c2, c3, c4⟩) ?_
           simp only [Act.put, List.setIfInBounds_toArray, List.set_cons_zero, List.set_cons_succ])
    iterate 3
      first
        | (refine mv_free ?_ (Or.inl ⟨by rfl, ?_⟩) (⟨k0, k1, k2, c1, c2, c3, c4⟩) ?_
           rotate_left 1
           · intro u
             go_simp
             try with_reducible rfl
           simp only [Act.put, List.setIfInBounds_toArray, List.set_cons_zero, List.set_cons_succ])
        | (refine mv_free _ (Or.inr ⟨by rfl, rfl⟩) (⟨k0, k1, k2, c1, c2, c3, c4⟩) ?_
           simp only [Act.put, List.setIfInBounds_toArray, List.set_cons_zero, List.set_cons_succ])
    iterate 1
      first
        | (refine mv_take ?_ (Or.inl ⟨by rfl, ?_⟩) (⟨k0, k1, k2, c1, c2, c3, c4⟩) ?_
           rotate_left 1
           · intro u hu
             (try dsimp only at hu)
             go_simp
             try with_reducible rfl
           simp only [Act.put, List.setIfInBounds_toArray, List.set_cons_zero, List.set_cons_succ])
        | (refine mv_take _ (Or.inr ⟨by rfl, rfl⟩) (⟨k0, k1, k2, c1, c2, c3, c4⟩) ?_
           simp only [Act.put, List.setIfInBounds_toArray, List.set_cons_zero, List.set_cons_succ])
    iterate 1
      first
        | (refine mv_free ?_ (Or.inl ⟨by rfl, ?_⟩) (⟨k0, k1, k2, c1, c2, c3, c4⟩) ?_
           rotate_left 1
           · intro u
             go_simp
             try with_reducible rfl
           simp only [Act.put, List.setIfInBounds_toArray, List.set_cons_zero, List.set_cons_succ])
        | (refine mv_free _ (Or.inr ⟨by rfl, rfl⟩) (⟨k0, k1, k2, c1, c2, c3, c4⟩) ?_
           simp only [Act.put, List.setIfInBounds_toArray, List.set_cons_zero, List.set_cons_succ])
    iterate 1
      first
        | (refine mv_take ?_ (Or.inl ⟨by rfl, ?_⟩) (⟨k0, k1, k2, c1, c2, c3, c4⟩) ?_
           rotate_left 1
           · intro u hu
             (try dsimp only at hu)
             go_simp
             try with_reducible rfl
           simp only [Act.put, List.setIfInBounds_toArray, List.set_cons_zero, List.set_cons_succ])
        | (refine mv_take _ (Or.inr ⟨by rfl, rfl⟩) (⟨k0, k1, k2, c1, c2, c3, c4⟩) ?_
           simp only [Act.put, List.setIfInBounds_toArray, List.set_cons_zero, List.set_cons_succ])
    iterate 2
      first
        | (refine mv_free ?_ (Or.inl ⟨by rfl, ?_⟩) (⟨k0, k1, k2, c1, c2, c3, c4⟩) ?_
           rotate_left 1
           · intro u
             go_simp
             try with_reducible rfl
           simp only [Act.put, List.setIfInBounds_toArray, List.set_cons_zero, List.set_cons_succ])
        | (refine mv_free _ (Or.inr ⟨by rfl, rfl⟩) (⟨k0, k1, k2, c1, c2, c3, c4⟩) ?_
           simp only [Act.put, List.setIfInBounds_toArray, List.set_cons_zero, List.set_cons_succ])
    iterate 1
      first
        | (refine mv_take ?_ (Or.inl ⟨by rfl, ?_⟩) (⟨k0, k1, k2, c1, c2, c3, c4⟩) ?_
           rotate_left 1
           · intro u hu
             (try dsimp only at hu)
             go_simp
             try with_reducible rfl
           simp only [Act.put, List.setIfInBounds_toArray, List.set_cons_zero, List.set_cons_succ])
        | (refine mv_take _ (Or.inr ⟨by rfl, rfl⟩) (⟨k0, k1, k2, c1, c2, c3, c4⟩) ?_
           simp only [Act.put, List.setIfInBounds_toArray, List.set_cons_zero, List.set_cons_succ])
    iterate 1
      first
        | (refine mv_free ?_ (Or.inl ⟨by rfl, ?_⟩) (⟨k0, k1, k2, c1, c2, c3, c4⟩) ?_
           rotate_left 1
           · intro u
             go_simp
             try with_reducible rfl
           simp only [Act.put, List.setIfInBounds_toArray, List.set_cons_zero, List.set_cons_succ])
        | (refine mv_free _ (Or.inr ⟨by rfl, rfl⟩) (⟨k0, k1, k2, c1, c2, c3, c4⟩) ?_
           simp only [Act.put, List.setIfInBounds_toArray, List.set_cons_zero, List.set_cons_succ])
    iterate 1
      first
        | (refine mv_take ?_ (Or.inl ⟨by rfl, ?_⟩) (⟨k0, k1, k2, c1, c2, c3, c4⟩) ?_
           rotate_left 1
           · intro u hu
             (try dsimp only at hu)
             go_simp
             try with_reducible rfl
           simp only [Act.put, List.setIfInBounds_toArray, List.set_cons_zero, List.set_cons_succ])
        | (refine mv_take _ (Or.inr ⟨by rfl, rfl⟩) (⟨k0, k1, k2, c1, c2, c3, c4⟩) ?_
           simp only [Act.put, List.setIfInBounds_toArray, List.set_cons_zero, List.set_cons_succ])
    iterate 1
      first
        | (refine mv_free ?_ (Or.inl ⟨by rfl, ?_⟩) (⟨k0, k1, k2, c1, c2, c3, c4⟩) ?_
           rotate_left 1
           · intro u
             go_simp
             try with_reducible rfl
           simp only [Act.put, List.setIfInBounds_toArray, List.set_cons_zero, List.set_cons_succ])
        | (refine mv_free _ (Or.inr ⟨by rfl, rfl⟩) (⟨k0, k1, k2, c1, c2, c3, c4⟩) ?_
           simp only [Act.put, List.setIfInBounds_toArray, List.set_cons_zero, List.set_cons_succ])
    iterate 1
      first
        | (refine mv_take ?_ (Or.inl ⟨by rfl, ?_⟩) (⟨k0, k1, k2, c1, c2, c3, c4⟩) ?_
           rotate_left 1
           · intro u hu
             (try dsimp only at hu)
             go_simp
             try with_reducible rfl
           simp only [Act.put, List.setIfInBounds_toArray, List.set_cons_zero, List.set_cons_succ])
        | (refine mv_take _ (Or.inr ⟨by rfl, rfl⟩) (⟨k0, k1, k2, c1, c2, c3, c4⟩) ?_
           simp only [Act.put, List.setIfInBounds_toArray, List.set_cons_zero, List.set_cons_succ])
    iterate 2
      first
        | (refine mv_free ?_ (Or.inl ⟨by rfl, ?_⟩) (⟨k0, k1, k2, c1, c2, c3, c4⟩) ?_
           rotate_left 1
           · intro u
             go_simp
             try with_reducible rfl
           simp only [Act.put, List.setIfInBounds_toArray, List.set_cons_zero, List.set_cons_succ])
        | (refine mv_free _ (Or.inr ⟨by rfl, rfl⟩) (⟨k0, k1, k2, c1, c2, c3, c4⟩) ?_
           simp only [Act.put, List.setIfInBounds_toArray, List.set_cons_zero, List.set_cons_succ])
    iterate 1
      first
        | (refine mv_take ?_ (Or.inl ⟨by rfl, ?_⟩) (⟨k0, k1, k2, c1, c2, c3, c4⟩) ?_
           rotate_left 1
           · intro u hu
             (try dsimp only at hu)
             go_simp
             try with_reducible rfl
           simp only [Act.put, List.setIfInBounds_toArray, List.set_cons_zero, List.set_cons_succ])
        | (refine mv_take _ (Or.inr ⟨by rfl, rfl⟩) (⟨k0, k1, k2, c1, c2, c3, c4⟩) ?_
           simp only [Act.put, List.setIfInBounds_toArray, List.set_cons_zero, List.set_cons_succ])
    iterate 2
      first
        | (refine mv_free ?_ (Or.inl ⟨by rfl, ?_⟩) (⟨k0, k1, k2, c1, c2, c3, c4⟩) ?_
           rotate_left 1
           · intro u
             go_simp
             try with_reducible rfl
           simp only [Act.put, List.setIfInBounds_toArray, List.set_cons_zero, List.set_cons_succ])
        | (refine mv_free _ (Or.inr ⟨by rfl, rfl⟩) (⟨k0, k1, k2, c1, c2, c3, c4⟩) ?_
           simp only [Act.put, List.setIfInBounds_toArray, List.set_cons_zero, List.set_cons_succ])
    iterate 1
      first
        | (refine mv_take ?_ (Or.inl ⟨by rfl, ?_⟩) (⟨k0, k1, k2, c1, c2, c3, c4⟩) ?_
           rotate_left 1
           · intro u hu
             (try dsimp only at hu)
             go_simp
             try with_reducible rfl
           simp only [Act.put, List.setIfInBounds_toArray, List.set_cons_zero, List.set_cons_succ])
        | (refine mv_take _ (Or.inr ⟨by rfl, rfl⟩) (⟨k0, k1, k2, c1, c2, c3, c4⟩) ?_
           simp only [Act.put, List.setIfInBounds_toArray, List.set_cons_zero, List.set_cons_succ])
    iterate 3
      first
        | (refine mv_free ?_ (Or.inl ⟨by rfl, ?_⟩) (⟨k0, k1, k2, c1, c2, c3, c4⟩) ?_
           rotate_left 1
           · intro u
             go_simp
             try with_reducible rfl
           simp only [Act.put, List.setIfInBounds_toArray, List.set_cons_zero, List.set_cons_succ])
        | (refine mv_free _ (Or.inr ⟨by rfl, rfl⟩) (⟨k0, k1, k2, c1, c2, c3, c4⟩) ?_
           simp only [Act.put, List.setIfInBounds_toArray, List.set_cons_zero, List.set_cons_succ])
    iterate 1
      first
        | (refine mv_take ?_ (Or.inl ⟨by rfl, ?_⟩) (⟨k0, k1, k2, c1, c2, c3, c4⟩) ?_
           rotate_left 1
           · intro u hu
             (try dsimp only at hu)
             go_simp
             try with_reducible rfl
           simp only [Act.put, List.setIfInBounds_toArray, List.set_cons_zero, List.set_cons_succ])
        | (refine mv_take _ (Or.inr ⟨by rfl, rfl⟩) (⟨k0, k1, k2, c1, c2, c3, c4⟩) ?_
           simp only [Act.put, List.setIfInBounds_toArray, List.set_cons_zero, List.set_cons_succ])
    iterate 1
      first
        | (refine mv_free ?_ (Or.inl ⟨by rfl, ?_⟩) (⟨k0, k1, k2, c1, c2, c3, c4⟩) ?_
           rotate_left 1
           · intro u
             go_simp
             try with_reducible rfl
           simp only [Act.put, List.setIfInBounds_toArray, List.set_cons_zero, List.set_cons_succ])
        | (refine mv_free _ (Or.inr ⟨by rfl, rfl⟩) (⟨k0, k1, k2, c1, c2, c3, c4⟩) ?_
           simp only [Act.put, List.setIfInBounds_toArray, List.set_cons_zero, List.set_cons_succ])
    iterate 1
      first
        | (refine mv_take ?_ (Or.inl ⟨by rfl, ?_⟩) (⟨k0, k1, k2, c1, c2, c3, c4⟩) ?_
           rotate_left 1
           · intro u hu
             (try dsimp only at hu)
             go_simp
             try with_reducible rfl
           simp only [Act.put, List.setIfInBounds_toArray, List.set_cons_zero, List.set_cons_succ])
        | (refine mv_take _ (Or.inr ⟨by rfl, rfl⟩) (⟨k0, k1, k2, c1, c2, c3, c4⟩) ?_
           simp only [Act.put, List.setIfInBounds_toArray, List.set_cons_zero, List.set_cons_succ])
    iterate 2
      first
        | (refine mv_free ?_ (Or.inl ⟨by rfl, ?_⟩) (⟨k0, k1, k2, c1, c2, c3, c4⟩) ?_
           rotate_left 1
           · intro u
             go_simp
             try with_reducible rfl
           simp only [Act.put, List.setIfInBounds_toArray, List.set_cons_zero, List.set_cons_succ])
        | (refine mv_free _ (Or.inr ⟨by rfl, rfl⟩) (⟨k0, k1, k2, c1, c2, c3, c4⟩) ?_
           simp only [Act.put, List.setIfInBounds_toArray, List.set_cons_zero, List.set_cons_succ])
    iterate 1
      first
        | (refine mv_take ?_ (Or.inl ⟨by rfl, ?_⟩) (⟨k0, k1, k2, c1, c2, c3, c4⟩) ?_
           rotate_left 1
           · intro u hu
             (try dsimp only at hu)
             go_simp
             try with_reducible rfl
           simp only [Act.put, List.setIfInBounds_toArray, List.set_cons_zero, List.set_cons_succ])
        | (refine mv_take _ (Or.inr ⟨by rfl, rfl⟩) (⟨k0, k1, k2, c1, c2, c3, c4⟩) ?_
           simp only [Act.put, List.setIfInBounds_toArray, List.set_cons_zero, List.set_cons_succ])
    iterate 1
      first
        | (refine mv_free ?_ (Or.inl ⟨by rfl, ?_⟩) (⟨k0, k1, k2, c1, c2, c3, c4⟩) ?_
           rotate_left 1
           · intro u
             go_simp
             try with_reducible rfl
           simp only [Act.put, List.setIfInBounds_toArray, List.set_cons_zero, List.set_cons_succ])
        | (refine mv_free _ (Or.inr ⟨by rfl, rfl⟩) (⟨k0, k1, k2, c1, c2, c3, c4⟩) ?_
           simp only [Act.put, List.setIfInBounds_toArray, List.set_cons_zero, List.set_cons_succ])
    refine mv_step (fun K hK => ?_)
    go_simp
    refine (FL.out _).mono ?_
    rintro e w2 ⟨rfl, hb2⟩
    have hb2 := hb1.drew.trans (hb2.mono (by have := hb1.size; have := hz.out; show _ ≤ w1.heap.size; omega))
    obtain ⟨k0, k1, k2⟩ := hcs.out _ hb2
    have hW2 := Lib.hid (hb0.out.trans (hb2.mono (by omega)))
    have c1 := GX0.out _ hW2.out
    have c2 := GX1.out _ hW2.out
    have c3 := GY0.out _ hW2.out
    have c4 := GY1.out _ hW2.out
    go_wp2_with fail
    refine hK.out _ _ _ (fun u hu => hu) (⟨k0, k1, k2, c1, c2, c3, c4⟩) ?_
    clear hK K
    iterate 5
      first
        | (refine mv_free ?_ (Or.inl ⟨by rfl, ?_⟩) (⟨k0, k1, k2, c1, c2, c3, c4⟩) ?_
           rotate_left 1
           · intro u
             go_simp
             try with_reducible rfl
           simp only [Act.put, List.setIfInBounds_toArray, List.set_cons_zero, List.set_cons_succ])
        | (refine mv_free _ (Or.inr ⟨by rfl, rfl⟩) (⟨k0, k1, k2, c1, c2, c3, c4⟩) ?_
           simp only [Act.put, List.setIfInBounds_toArray, List.set_cons_zero, List.set_cons_succ])
    refine mv_done ?_
    go_wp2
    go_ret
    exact ⟨rfl, hW2.out⟩

set_option maxRecDepth 100000 in
set_option maxHeartbeats 4000000 in
theorem cat5_any (ax ay : Option Addr) (cx cy : Nat) (X Y : List Int) (x : Int) (k : Nat) (w : World) (hx : RowIs .i64 w ax X) (hy : RowIs .i64 w ay Y) (hX : X.length ≤ 300) (hY : Y.length ≤ 300) (hk : rgtB X Y = true → CrK X x k) :
    Calls Tryz.prog 114 #[.agg #[.slice ax X.length cx, .slice ay Y.length cy], .int .i64 x] w fun e w' => e = .returned (.tuple #[.int .i64 (if rgtB X Y then crV X Y x k else 0), .bool (rgtB X Y)]) ∧ Below w.heap.size w w' := by
  have RT := fun u (h : Below w.heap.size w u) => cright_any ax ay cx cy X Y u (hx.below h) (hy.below h) hX hY
  obtain ⟨V, eV, hb0, hz, hcs⟩ := crv_box w ax ay cx cy X Y
  have VL := fun u (h : Below w.heap.size w u) (hg : rgtB X Y = true) => cvalue5_any ax ay cx cy X Y x k u (hx.below h) (hy.below h) hg (hk hg)
  cases hg : rgtB X Y
  · rw [hg] at RT
    replace RT := Lib.hid RT
    rw [if_neg (by simp)]
    replace hb0 := Lib.hid hb0
    replace hz := Lib.hid hz
    replace hcs := Lib.hid hcs
    replace eV := Lib.hid eV
    clear hg VL hk
    go_enter Tryz.func114, Tryz.ntmps114
    go_wp2_with fail
    rw [← eV.out]
    obtain ⟨k0, k1⟩ := hcs.out _ (Below.refl _ _)
    go_wp2_with fail
    refine (RT.out _ hb0.out).mono ?_
    rintro e w1 ⟨rfl, hb1⟩
    go_wp2
    go_ret2
    exact ⟨rfl, hb0.out.trans (hb1.mono hb0.out.size)⟩
  · rw [hg] at RT
    replace RT := Lib.hid RT
    have VL := Lib.hid (fun u (h : Below w.heap.size w u) => VL u h hg)
    rw [if_pos rfl]
    generalize crV X Y x k = R at *
    replace hb0 := Lib.hid hb0
    replace hz := Lib.hid hz
    replace hcs := Lib.hid hcs
    replace eV := Lib.hid eV
    clear hg hk
    go_enter Tryz.func114, Tryz.ntmps114
    go_wp2_with fail
    rw [← eV.out]
    obtain ⟨k0, k1⟩ := hcs.out _ (Below.refl _ _)
    go_wp2_with fail
    refine (RT.out _ hb0.out).mono ?_
    rintro e w1 ⟨rfl, hb1⟩
    have hW := Lib.hid (hb0.out.trans (hb1.mono hb0.out.size))
    have hb1 := (Below.refl (w.heap.size + 1) V).trans (hb1.mono (Nat.le_of_eq hz.out.symm))
    obtain ⟨k0, k1⟩ := hcs.out _ hb1
    go_wp2_with fail
    refine (VL.out _ hW.out).mono ?_
    rintro e w2 ⟨rfl, hb2⟩
    go_wp2
    go_ret2
    exact ⟨rfl, hW.out.trans (hb2.mono hW.out.size)⟩
end Go.Proofs.YtecpmffmmiogfaaGreat
