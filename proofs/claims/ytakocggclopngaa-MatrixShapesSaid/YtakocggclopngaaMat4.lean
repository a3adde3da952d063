/- Package matrix: Mul, Symmetric, Diagonal, Unit, Apply, Det; the chapter's example. -/
import Derived.Test.YtakocggclopngaaMat3
import Derived.Test.YtakocggclopngaaMatEq
namespace Go.Proofs.Ytakocggclopngaa
open Go.ChangeShapes Go.WideShapes Go.ChangeAt Go.RowKit
set_option linter.unusedVariables false
set_option linter.unusedSimpArgs false
theorem mmul_box (w : World) (X Y : Nat → Int) : ∃ V, V = (((w.alloc (.cells #[.int .i64 (X 0), .int .i64 (X 1), .int .i64 (X 2), .int .i64 (X 3), .int .i64 (X 4), .int .i64 (X 5), .int .i64 (X 6), .int .i64 (X 7), .int .i64 (X 8)] 56)).alloc (.cells #[.int .i64 (Y 0), .int .i64 (Y 1), .int .i64 (Y 2), .int .i64 (Y 3), .int .i64 (Y 4), .int .i64 (Y 5), .int .i64 (Y 6), .int .i64 (Y 7), .int .i64 (Y 8)] 56)).alloc (.cells #[.int .i64 0, .int .i64 0, .int .i64 0, .int .i64 0, .int .i64 0, .int .i64 0, .int .i64 0, .int .i64 0, .int .i64 0] 56)) ∧ Below w.heap.size w V ∧ Held w.heap.size [.int .i64 (X 0), .int .i64 (X 1), .int .i64 (X 2), .int .i64 (X 3), .int .i64 (X 4), .int .i64 (X 5), .int .i64 (X 6), .int .i64 (X 7), .int .i64 (X 8)] V ∧ Held (w.heap.size + 1) [.int .i64 (Y 0), .int .i64 (Y 1), .int .i64 (Y 2), .int .i64 (Y 3), .int .i64 (Y 4), .int .i64 (Y 5), .int .i64 (Y 6), .int .i64 (Y 7), .int .i64 (Y 8)] V ∧ Held (w.heap.size + 2) [.int .i64 0, .int .i64 0, .int .i64 0, .int .i64 0, .int .i64 0, .int .i64 0, .int .i64 0, .int .i64 0, .int .i64 0] V ∧ V.heap.size = w.heap.size + 3 := by
  refine ⟨_, rfl, (by repeat (first | exact Below.refl _ _ | assumption | apply Below.drew | apply below_drewN | (refine Below.alloc ?_ (by first | exact Nat.le_refl _ | omega | (simp <;> omega)) _) | (refine Below.setCell ?_ (by first | exact Nat.le_refl _ | omega | (simp <;> omega)) _))), ?_, ?_, ?_, by simp⟩
  · have := (((Held.new w [.int .i64 (X 0), .int .i64 (X 1), .int .i64 (X 2), .int .i64 (X 3), .int .i64 (X 4), .int .i64 (X 5), .int .i64 (X 6), .int .i64 (X 7), .int .i64 (X 8)] 56).alloc (.cells #[.int .i64 (Y 0), .int .i64 (Y 1), .int .i64 (Y 2), .int .i64 (Y 3), .int .i64 (Y 4), .int .i64 (Y 5), .int .i64 (Y 6), .int .i64 (Y 7), .int .i64 (Y 8)] 56)).alloc (.cells #[.int .i64 0, .int .i64 0, .int .i64 0, .int .i64 0, .int .i64 0, .int .i64 0, .int .i64 0, .int .i64 0, .int .i64 0] 56))
    simpa using this
  · have := ((Held.new (w.alloc (.cells #[.int .i64 (X 0), .int .i64 (X 1), .int .i64 (X 2), .int .i64 (X 3), .int .i64 (X 4), .int .i64 (X 5), .int .i64 (X 6), .int .i64 (X 7), .int .i64 (X 8)] 56)) [.int .i64 (Y 0), .int .i64 (Y 1), .int .i64 (Y 2), .int .i64 (Y 3), .int .i64 (Y 4), .int .i64 (Y 5), .int .i64 (Y 6), .int .i64 (Y 7), .int .i64 (Y 8)] 56).alloc (.cells #[.int .i64 0, .int .i64 0, .int .i64 0, .int .i64 0, .int .i64 0, .int .i64 0, .int .i64 0, .int .i64 0, .int .i64 0] 56))
    simpa using this
  · have := (Held.new ((w.alloc (.cells #[.int .i64 (X 0), .int .i64 (X 1), .int .i64 (X 2), .int .i64 (X 3), .int .i64 (X 4), .int .i64 (X 5), .int .i64 (X 6), .int .i64 (X 7), .int .i64 (X 8)] 56)).alloc (.cells #[.int .i64 (Y 0), .int .i64 (Y 1), .int .i64 (Y 2), .int .i64 (Y 3), .int .i64 (Y 4), .int .i64 (Y 5), .int .i64 (Y 6), .int .i64 (Y 7), .int .i64 (Y 8)] 56)) [.int .i64 0, .int .i64 0, .int .i64 0, .int .i64 0, .int .i64 0, .int .i64 0, .int .i64 0, .int .i64 0, .int .i64 0] 56)
    simpa using this
set_option maxRecDepth 100000 in
set_option maxHeartbeats 8000000 in
theorem mmul (X Y : Nat → Int) (w : World) : Calls Try.prog 38 #[.agg #[.int .i64 (X 0), .int .i64 (X 1), .int .i64 (X 2), .int .i64 (X 3), .int .i64 (X 4), .int .i64 (X 5), .int .i64 (X 6), .int .i64 (X 7), .int .i64 (X 8)], .agg #[.int .i64 (Y 0), .int .i64 (Y 1), .int .i64 (Y 2), .int .i64 (Y 3), .int .i64 (Y 4), .int .i64 (Y 5), .int .i64 (Y 6), .int .i64 (Y 7), .int .i64 (Y 8)]] w fun e w' => e = .returned (.agg #[.int .i64 ((mul X Y) 0), .int .i64 ((mul X Y) 1), .int .i64 ((mul X Y) 2), .int .i64 ((mul X Y) 3), .int .i64 ((mul X Y) 4), .int .i64 ((mul X Y) 5), .int .i64 ((mul X Y) 6), .int .i64 ((mul X Y) 7), .int .i64 ((mul X Y) 8)]) ∧ Below w.heap.size w w' := by
  obtain ⟨V, eV, hb0, hX, hY, hR, hz⟩ := mmul_box w X Y
  have MT := Lib.hid (fun u => mturn Y u)
  have PB := Lib.hid (fun (c : Nat) (u : World) (l1 : w.heap.size + 2 < u.heap.size) (l2 : c < u.heap.size) (h1 : Held w.heap.size [.int .i64 (X 0), .int .i64 (X 1), .int .i64 (X 2), .int .i64 (X 3), .int .i64 (X 4), .int .i64 (X 5), .int .i64 (X 6), .int .i64 (X 7), .int .i64 (X 8)] u) (h2 : Held c [.int .i64 (trp Y 0), .int .i64 (trp Y 1), .int .i64 (trp Y 2), .int .i64 (trp Y 3), .int .i64 (trp Y 4), .int .i64 (trp Y 5), .int .i64 (trp Y 6), .int .i64 (trp Y 7), .int .i64 (trp Y 8)] u) (h3 : Held (w.heap.size + 2) [.int .i64 0, .int .i64 0, .int .i64 0, .int .i64 0, .int .i64 0, .int .i64 0, .int .i64 0, .int .i64 0, .int .i64 0] u) (h4 : Below w.heap.size w u) =>
    mbuild 91 #[.pointer (some ⟨w.heap.size, 0, none⟩), .pointer (some ⟨c, 0, none⟩)] (mul X Y) (fun u => Held w.heap.size [.int .i64 (X 0), .int .i64 (X 1), .int .i64 (X 2), .int .i64 (X 3), .int .i64 (X 4), .int .i64 (X 5), .int .i64 (X 6), .int .i64 (X 7), .int .i64 (X 8)] u ∧ Held c [.int .i64 (trp Y 0), .int .i64 (trp Y 1), .int .i64 (trp Y 2), .int .i64 (trp Y 3), .int .i64 (trp Y 4), .int .i64 (trp Y 5), .int .i64 (trp Y 6), .int .i64 (trp Y 7), .int .i64 (trp Y 8)] u ∧ Held (w.heap.size + 2) [.int .i64 0, .int .i64 0, .int .i64 0, .int .i64 0, .int .i64 0, .int .i64 0, .int .i64 0, .int .i64 0, .int .i64 0] u ∧ Below w.heap.size w u) (u.heap.size + 2) u (enters_of Try.func91 (by kernel_rfl) rfl) (by omega) (by omega)
    (fun v v' h k => ⟨h.1.below k (by omega), h.2.1.below k (by omega), h.2.2.1.below k (by omega), h.2.2.2.trans (k.mono (by omega))⟩) ⟨h1, h2, h3, h4⟩
    (fun v i j hi hj h => (mmul1 w.heap.size c X Y i j v hi hj h.1 h.2.1).mono (fun e u' q => ⟨q.1, ⟨h.1.bel q.2, h.2.1.bel q.2, h.2.2.1.bel q.2, h.2.2.2.trans (q.2.mono h.2.2.2.size)⟩, .of_below q.2⟩)))
  obtain ⟨c0, f0⟩ := hY.one 0 rfl
  obtain ⟨c1, f1⟩ := hY.one 1 rfl
  obtain ⟨c2, f2⟩ := hY.one 2 rfl
  obtain ⟨c3, f3⟩ := hY.one 3 rfl
  obtain ⟨c4, f4⟩ := hY.one 4 rfl
  obtain ⟨c5, f5⟩ := hY.one 5 rfl
  obtain ⟨c6, f6⟩ := hY.one 6 rfl
  obtain ⟨c7, f7⟩ := hY.one 7 rfl
  obtain ⟨c8, f8⟩ := hY.one 8 rfl
  replace eV := Lib.hid eV
  replace hz := Lib.hid hz
  replace hX := Lib.hid hX
  replace hR := Lib.hid hR
  replace hb0 := Lib.hid hb0
  clear hY
  go_enter Try.func38, Try.ntmps38
  go_upto_region 1 with (fail)
  rw [← eV.out]
  go_wp2_with fail
  refine (MT.out _).mono ?_
  rintro e w1 ⟨rfl, hb1⟩
  go_upto_region 2 with (fail)
  obtain ⟨W, eW⟩ : ∃ W, W = w1.alloc (.cells #[.int .i64 (trp Y 0), .int .i64 (trp Y 1), .int .i64 (trp Y 2), .int .i64 (trp Y 3), .int .i64 (trp Y 4), .int .i64 (trp Y 5), .int .i64 (trp Y 6), .int .i64 (trp Y 7), .int .i64 (trp Y 8)] 56) := ⟨_, rfl⟩
  obtain ⟨c, ec⟩ : ∃ c, c = w1.heap.size := ⟨_, rfl⟩
  have hC := Held.new w1 [.int .i64 (trp Y 0), .int .i64 (trp Y 1), .int .i64 (trp Y 2), .int .i64 (trp Y 3), .int .i64 (trp Y 4), .int .i64 (trp Y 5), .int .i64 (trp Y 6), .int .i64 (trp Y 7), .int .i64 (trp Y 8)] 56
  have hw : Below w1.heap.size w1 W := by rw [eW]; exact (Below.refl _ _).alloc (Nat.le_refl _) _
  have hX1 := (hX.out.bel hb1).bel hw
  have hR1 := (hR.out.bel hb1).bel hw
  have hB1 := hb0.out.trans (hb1.mono hb0.out.size)
  have hB2 := hB1.trans (hw.mono hB1.size)
  rw [← ec] at hC
  rw [← eW] at hC ⊢
  rw [← ec]
  have BD := Lib.hid (PB.out c W (hR1.lt) hC.lt hX1 hC hR1 hB2)
  replace eW := Lib.hid eW
  clear hb1 hw hX1 hR1 hB1 hB2 hC ec c0 c1 c2 c3 c4 c5 c6 c7 c8 f0 f1 f2 f3 f4 f5 f6 f7 f8
  go_wp2_with fail
  refine BD.out.mono ?_
  rintro e w2 ⟨rfl, ⟨-, -, hR2, hb2⟩, -⟩
  obtain ⟨u9, e9, h9, b9⟩ := ml_laid hR2 rfl (mul X Y)
  have hb9 := Lib.hid (hb2.trans (b9.mono (by omega)))
  replace e9 := Lib.hid e9
  obtain ⟨p0, q0⟩ := hR2.one 0 rfl
  obtain ⟨p1, q1⟩ := hR2.one 1 rfl
  obtain ⟨p2, q2⟩ := hR2.one 2 rfl
  obtain ⟨p3, q3⟩ := hR2.one 3 rfl
  obtain ⟨p4, q4⟩ := hR2.one 4 rfl
  obtain ⟨p5, q5⟩ := hR2.one 5 rfl
  obtain ⟨p6, q6⟩ := hR2.one 6 rfl
  obtain ⟨p7, q7⟩ := hR2.one 7 rfl
  obtain ⟨p8, q8⟩ := hR2.one 8 rfl
  clear BD hR2 hb2 b9
  go_wp2
  rw [← e9.out]
  obtain ⟨y0, z0⟩ := h9.one 0 rfl
  obtain ⟨y1, z1⟩ := h9.one 1 rfl
  obtain ⟨y2, z2⟩ := h9.one 2 rfl
  obtain ⟨y3, z3⟩ := h9.one 3 rfl
  obtain ⟨y4, z4⟩ := h9.one 4 rfl
  obtain ⟨y5, z5⟩ := h9.one 5 rfl
  obtain ⟨y6, z6⟩ := h9.one 6 rfl
  obtain ⟨y7, z7⟩ := h9.one 7 rfl
  obtain ⟨y8, z8⟩ := h9.one 8 rfl
  exact bodyPost_ret (v := .agg #[.int .i64 ((mul X Y) 0), .int .i64 ((mul X Y) 1), .int .i64 ((mul X Y) 2), .int .i64 ((mul X Y) 3), .int .i64 ((mul X Y) 4), .int .i64 ((mul X Y) 5), .int .i64 ((mul X Y) 6), .int .i64 ((mul X Y) 7), .int .i64 ((mul X Y) 8)]) (by simp [results, Try.results38, go_sem, y0, y1, y2, y3, y4, y5, y6, y7, y8]) rfl ⟨rfl, hb9.out⟩
theorem msym_box (w : World) (X : Nat → Int) : ∃ V, V = (w.alloc (.cells #[.int .i64 (X 0), .int .i64 (X 1), .int .i64 (X 2), .int .i64 (X 3), .int .i64 (X 4), .int .i64 (X 5), .int .i64 (X 6), .int .i64 (X 7), .int .i64 (X 8)] 56)) ∧ Below w.heap.size w V ∧ Held w.heap.size [.int .i64 (X 0), .int .i64 (X 1), .int .i64 (X 2), .int .i64 (X 3), .int .i64 (X 4), .int .i64 (X 5), .int .i64 (X 6), .int .i64 (X 7), .int .i64 (X 8)] V ∧ V.heap.size = w.heap.size + 1 := by
  refine ⟨_, rfl, (by repeat (first | exact Below.refl _ _ | assumption | apply Below.drew | apply below_drewN | (refine Below.alloc ?_ (by first | exact Nat.le_refl _ | omega | (simp <;> omega)) _) | (refine Below.setCell ?_ (by first | exact Nat.le_refl _ | omega | (simp <;> omega)) _))), ?_, by simp⟩
  · have := (Held.new w [.int .i64 (X 0), .int .i64 (X 1), .int .i64 (X 2), .int .i64 (X 3), .int .i64 (X 4), .int .i64 (X 5), .int .i64 (X 6), .int .i64 (X 7), .int .i64 (X 8)] 56)
    simpa using this
set_option maxRecDepth 100000 in
set_option maxHeartbeats 8000000 in
theorem msym (X : Nat → Int) (hs : ∀ t, t < 9 → trp X t = X t) (w : World) : Calls Try.prog 45 #[.agg #[.int .i64 (X 0), .int .i64 (X 1), .int .i64 (X 2), .int .i64 (X 3), .int .i64 (X 4), .int .i64 (X 5), .int .i64 (X 6), .int .i64 (X 7), .int .i64 (X 8)]] w fun e w' => e = .returned (.bool true) ∧ Below w.heap.size w w' := by
  obtain ⟨V, eV, hb0, hX, hz⟩ := msym_box w X
  have MT := fun u => mturn X u
  simp only [hs 0 (by omega), hs 1 (by omega), hs 2 (by omega), hs 3 (by omega), hs 4 (by omega), hs 5 (by omega), hs 6 (by omega), hs 7 (by omega), hs 8 (by omega)] at MT
  replace MT := Lib.hid MT
  obtain ⟨c0, f0⟩ := hX.one 0 rfl
  obtain ⟨c1, f1⟩ := hX.one 1 rfl
  obtain ⟨c2, f2⟩ := hX.one 2 rfl
  obtain ⟨c3, f3⟩ := hX.one 3 rfl
  obtain ⟨c4, f4⟩ := hX.one 4 rfl
  obtain ⟨c5, f5⟩ := hX.one 5 rfl
  obtain ⟨c6, f6⟩ := hX.one 6 rfl
  obtain ⟨c7, f7⟩ := hX.one 7 rfl
  obtain ⟨c8, f8⟩ := hX.one 8 rfl
  generalize X 0 = x0 at *
  generalize X 1 = x1 at *
  generalize X 2 = x2 at *
  generalize X 3 = x3 at *
  generalize X 4 = x4 at *
  generalize X 5 = x5 at *
  generalize X 6 = x6 at *
  generalize X 7 = x7 at *
  generalize X 8 = x8 at *
  have EQ := fun u => meq x0 x1 x2 x3 x4 x5 x6 x7 x8 u
  replace eV := Lib.hid eV
  replace hz := Lib.hid hz
  replace hb0 := Lib.hid hb0
  have hXX := Lib.hid hX
  clear hX hs
  go_enter Try.func45, Try.ntmps45
  go_upto_region 1 with (fail)
  rw [← eV.out]
  refine region_moves (fun u => u.cell? ⟨w.heap.size, 0, none⟩ = some (.int .i64 x0) ∧ u.cell? ⟨w.heap.size, 1, none⟩ = some (.int .i64 x1) ∧ u.cell? ⟨w.heap.size, 2, none⟩ = some (.int .i64 x2) ∧ u.cell? ⟨w.heap.size, 3, none⟩ = some (.int .i64 x3) ∧ u.cell? ⟨w.heap.size, 4, none⟩ = some (.int .i64 x4) ∧ u.cell? ⟨w.heap.size, 5, none⟩ = some (.int .i64 x5) ∧ u.cell? ⟨w.heap.size, 6, none⟩ = some (.int .i64 x6) ∧ u.cell? ⟨w.heap.size, 7, none⟩ = some (.int .i64 x7) ∧ u.cell? ⟨w.heap.size, 8, none⟩ = some (.int .i64 x8)) [] [(.take, 0), (.take, 1), (.step, 2), (.free, 3), (.free, 4)] _ (by kernel_rfl) (by kernel_rfl) (by kernel_rfl) (by kernel_rfl) (by decide) rfl (fun _ _ _ _ _ h => h) ?_
  simp only [List.filterMap_cons, List.filterMap_nil, List.getElem?_toArray, List.getElem?_cons_zero, List.getElem?_cons_succ, Option.map_some]
  iterate 2
    first
      | (refine mv_take ?_ (Or.inl ⟨by rfl, ?_⟩) (⟨c0, c1, c2, c3, c4, c5, c6, c7, c8⟩) ?_
         rotate_left 1
         · intro u hu
           (try dsimp only at hu)
           go_simp
           try with_reducible rfl
         simp only [Act.put, List.setIfInBounds_toArray, List.set_cons_zero, List.set_cons_succ])
      | (refine mv_take _ (Or.inr ⟨by rfl, rfl⟩) (⟨c0, c1, c2, c3, c4, c5, c6, c7, c8⟩) ?_
         simp only [Act.put, List.setIfInBounds_toArray, List.set_cons_zero, List.set_cons_succ])
  refine mv_step (fun K hK => ?_)
  go_simp
  refine (MT.out _).mono ?_
  rintro e w1 ⟨rfl, hb1⟩
  have hb2 := Lib.hid ((hb0.out.drew).trans (hb1.mono (by have := hb0.out.size; show _ ≤ V.heap.size; omega)))
  have hX1 := hXX.out.drew.bel hb1
  clear c0 c1 c2 c3 c4 c5 c6 c7 c8 f0 f1 f2 f3 f4 f5 f6 f7 f8 hb1
  obtain ⟨c0, f0⟩ := hX1.one 0 rfl
  obtain ⟨c1, f1⟩ := hX1.one 1 rfl
  obtain ⟨c2, f2⟩ := hX1.one 2 rfl
  obtain ⟨c3, f3⟩ := hX1.one 3 rfl
  obtain ⟨c4, f4⟩ := hX1.one 4 rfl
  obtain ⟨c5, f5⟩ := hX1.one 5 rfl
  obtain ⟨c6, f6⟩ := hX1.one 6 rfl
  obtain ⟨c7, f7⟩ := hX1.one 7 rfl
  obtain ⟨c8, f8⟩ := hX1.one 8 rfl
  clear hX1
  go_wp2_with fail
  refine hK.out _ _ _ (fun u hu => hu) (⟨c0, c1, c2, c3, c4, c5, c6, c7, c8⟩) ?_
  clear hK K
  iterate 2
    first
      | (refine mv_free ?_ (Or.inl ⟨by rfl, ?_⟩) (⟨c0, c1, c2, c3, c4, c5, c6, c7, c8⟩) ?_
         rotate_left 1
         · intro u
           go_simp
           try simp only [d1]
           try simp only [d2]
           try simp only [d3]
           try with_reducible rfl
         simp only [Act.put, List.setIfInBounds_toArray, List.set_cons_zero, List.set_cons_succ])
      | (refine mv_free _ (Or.inr ⟨by rfl, rfl⟩) (⟨c0, c1, c2, c3, c4, c5, c6, c7, c8⟩) ?_
         simp only [Act.put, List.setIfInBounds_toArray, List.set_cons_zero, List.set_cons_succ])
  refine mv_done ?_
  go_wp2
  go_ret
  exact ⟨rfl, hb2.out⟩
def dgl (A : Nat → Int) (t : Nat) : Int := if t % 4 = 0 then A (t / 4) else 0
def mD (A : Nat → Int) (n : Nat) : List Value := (List.range 9).map fun t => .int .i64 (if t % 4 = 0 ∧ t / 4 < n then A (t / 4) else 0)
theorem mD_set (A : Nat → Int) (k : Nat) (h : k < 3) : (mD A k).set (k * 3 + k) (.int .i64 (A k)) = mD A (k + 1) := by
  rcases (show k = 0 ∨ k = 1 ∨ k = 2 by omega) with rfl | rfl | rfl <;> rfl
theorem mD_zero (A : Nat → Int) : mD A 0 = [.int .i64 0, .int .i64 0, .int .i64 0, .int .i64 0, .int .i64 0, .int .i64 0, .int .i64 0, .int .i64 0, .int .i64 0] := rfl
theorem mD_all (A : Nat → Int) : mD A 3 = [.int .i64 (dgl A 0), .int .i64 (dgl A 1), .int .i64 (dgl A 2), .int .i64 (dgl A 3), .int .i64 (dgl A 4), .int .i64 (dgl A 5), .int .i64 (dgl A 6), .int .i64 (dgl A 7), .int .i64 (dgl A 8)] := rfl
theorem mD_len (A : Nat → Int) (n : Nat) : (mD A n).length = 9 := by simp [mD]
theorem mD_some (A : Nat → Int) (n t : Nat) (h : t < 9) : ∃ v, (mD A n)[t]? = some v := ⟨_, List.getElem?_eq_getElem (by rw [mD_len]; exact h)⟩
theorem mdg_box (w : World) (A : Nat → Int) : ∃ V, V = (((w.alloc (.cells #[.int .i64 (A 0), .int .i64 (A 1), .int .i64 (A 2)] 65)).alloc (.cells #[.int .i64 0, .int .i64 0, .int .i64 0, .int .i64 0, .int .i64 0, .int .i64 0, .int .i64 0, .int .i64 0, .int .i64 0] 56)).alloc (.cells #[.int .i64 0, .int .i64 0, .int .i64 0, .int .i64 0, .int .i64 0, .int .i64 0, .int .i64 0, .int .i64 0, .int .i64 0] 56)) ∧ Below w.heap.size w V ∧ Held w.heap.size [.int .i64 (A 0), .int .i64 (A 1), .int .i64 (A 2)] V ∧ Held (w.heap.size + 1) [.int .i64 0, .int .i64 0, .int .i64 0, .int .i64 0, .int .i64 0, .int .i64 0, .int .i64 0, .int .i64 0, .int .i64 0] V ∧ Held (w.heap.size + 2) [.int .i64 0, .int .i64 0, .int .i64 0, .int .i64 0, .int .i64 0, .int .i64 0, .int .i64 0, .int .i64 0, .int .i64 0] V ∧ V.heap.size = w.heap.size + 3 := by
  refine ⟨_, rfl, (by repeat (first | exact Below.refl _ _ | assumption | apply Below.drew | apply below_drewN | (refine Below.alloc ?_ (by first | exact Nat.le_refl _ | omega | (simp <;> omega)) _) | (refine Below.setCell ?_ (by first | exact Nat.le_refl _ | omega | (simp <;> omega)) _))), ?_, ?_, ?_, by simp⟩
  · have := (((Held.new w [.int .i64 (A 0), .int .i64 (A 1), .int .i64 (A 2)] 65).alloc (.cells #[.int .i64 0, .int .i64 0, .int .i64 0, .int .i64 0, .int .i64 0, .int .i64 0, .int .i64 0, .int .i64 0, .int .i64 0] 56)).alloc (.cells #[.int .i64 0, .int .i64 0, .int .i64 0, .int .i64 0, .int .i64 0, .int .i64 0, .int .i64 0, .int .i64 0, .int .i64 0] 56))
    simpa using this
  · have := ((Held.new (w.alloc (.cells #[.int .i64 (A 0), .int .i64 (A 1), .int .i64 (A 2)] 65)) [.int .i64 0, .int .i64 0, .int .i64 0, .int .i64 0, .int .i64 0, .int .i64 0, .int .i64 0, .int .i64 0, .int .i64 0] 56).alloc (.cells #[.int .i64 0, .int .i64 0, .int .i64 0, .int .i64 0, .int .i64 0, .int .i64 0, .int .i64 0, .int .i64 0, .int .i64 0] 56))
    simpa using this
  · have := (Held.new ((w.alloc (.cells #[.int .i64 (A 0), .int .i64 (A 1), .int .i64 (A 2)] 65)).alloc (.cells #[.int .i64 0, .int .i64 0, .int .i64 0, .int .i64 0, .int .i64 0, .int .i64 0, .int .i64 0, .int .i64 0, .int .i64 0] 56)) [.int .i64 0, .int .i64 0, .int .i64 0, .int .i64 0, .int .i64 0, .int .i64 0, .int .i64 0, .int .i64 0, .int .i64 0] 56)
    simpa using this
set_option maxRecDepth 100000 in
set_option maxHeartbeats 8000000 in
theorem mdiag (A : Nat → Int) (w : World) : Calls Try.prog 43 #[.agg #[.int .i64 (A 0), .int .i64 (A 1), .int .i64 (A 2)]] w fun e w' => e = .returned (.agg #[.int .i64 ((dgl A) 0), .int .i64 ((dgl A) 1), .int .i64 ((dgl A) 2), .int .i64 ((dgl A) 3), .int .i64 ((dgl A) 4), .int .i64 ((dgl A) 5), .int .i64 ((dgl A) 6), .int .i64 ((dgl A) 7), .int .i64 ((dgl A) 8)]) ∧ Below w.heap.size w w' := by
  obtain ⟨V, eV, hb0, hA, hR, hM, hz⟩ := mdg_box w A
  have S0 := Lib.hid (show Held w.heap.size [.int .i64 (A 0), .int .i64 (A 1), .int .i64 (A 2)] V ∧ Held (w.heap.size + 1) [.int .i64 0, .int .i64 0, .int .i64 0, .int .i64 0, .int .i64 0, .int .i64 0, .int .i64 0, .int .i64 0, .int .i64 0] V ∧ Held (w.heap.size + 2) (mD A 0) V ∧ Below w.heap.size w V from ⟨hA, hR, by rw [mD_zero]; exact hM, hb0⟩)
  replace eV := Lib.hid eV
  clear hA hR hM hb0 hz
  go_enter Try.func43, Try.ntmps43
  go_upto_region 2 with (fail)
  rw [← eV.out]
  go_wp2_with fail
  go_loopw [5] (fun i u => ∃ k : Nat, k ≤ 3 ∧ i = .int .i64 (k : Int) ∧ Hid (Held w.heap.size [.int .i64 (A 0), .int .i64 (A 1), .int .i64 (A 2)] u ∧ Held (w.heap.size + 1) [.int .i64 0, .int .i64 0, .int .i64 0, .int .i64 0, .int .i64 0, .int .i64 0, .int .i64 0, .int .i64 0, .int .i64 0] u ∧ Held (w.heap.size + 2) (mD A k) u ∧ Below w.heap.size w u)) (fun i _ => 3 - (intOf i).toNat)
  case atStart => exact ⟨0, by omega, rfl, S0⟩
  case round =>
    clear S0
    obtain ⟨k, hk, rfl, S⟩ := hrel
    by_cases hlt : k < 3
    · have hk3 : (k : Int) < 3 := by omega
      obtain ⟨hA, hR, hM, hb⟩ := S.out
      have k0 := vl_at hA hlt
      obtain ⟨v0, hv0⟩ := mD_some A k (k * 3 + k) (by omega)
      have ck := hM.c (k * 3 + k) _ hv0
      have fk := hM.f (k * 3 + k) (by rw [mD_len]; omega)
      have st := mD_set A k hlt
      generalize A k = y at *
      have S2 := Lib.hid (show Held w.heap.size [.int .i64 (A 0), .int .i64 (A 1), .int .i64 (A 2)] (wr.setCell ⟨w.heap.size + 2, k * 3 + k, none⟩ (.int .i64 y)) ∧ Held (w.heap.size + 1) [.int .i64 0, .int .i64 0, .int .i64 0, .int .i64 0, .int .i64 0, .int .i64 0, .int .i64 0, .int .i64 0, .int .i64 0] (wr.setCell ⟨w.heap.size + 2, k * 3 + k, none⟩ (.int .i64 y)) ∧ Held (w.heap.size + 2) (mD A (k + 1)) (wr.setCell ⟨w.heap.size + 2, k * 3 + k, none⟩ (.int .i64 y)) ∧ Below w.heap.size w (wr.setCell ⟨w.heap.size + 2, k * 3 + k, none⟩ (.int .i64 y)) from
        ⟨hA.only ((Only.refl (w.heap.size + 2) wr).setCell (p := ⟨w.heap.size + 2, k * 3 + k, none⟩) _) (show w.heap.size ≠ w.heap.size + 2 by omega), hR.only ((Only.refl (w.heap.size + 2) wr).setCell (p := ⟨w.heap.size + 2, k * 3 + k, none⟩) _) (show w.heap.size + 1 ≠ w.heap.size + 2 by omega), st ▸ hM.set (k * 3 + k) (.int .i64 y) (by rw [mD_len]; omega), hb.setCell (by show w.heap.size ≤ w.heap.size + 2; omega) _⟩)
      clear S hA hR hM hb hv0 st
      go_wp2_with fail
      refine region_still [(7, [(6, 7), (4, 7), (0, 7), (1, 7), (2, 7), (3, 7), (5, 6)])] [(.free, 0), (.free, 1), (.free, 2), (.free, 3), (.take, 4), (.free, 5), (.free, 6), (.late, 7)] _ (by kernel_rfl) (by kernel_rfl) (by kernel_rfl) (by kernel_rfl) (by decide) rfl (fun _ _ _ _ _ h => h) ?_
      simp only [List.filterMap_cons, List.filterMap_nil, List.getElem?_toArray, List.getElem?_cons_zero, List.getElem?_cons_succ, Option.map_some]
      iterate 4
        first
          | (refine mv_free ?_ (Or.inl ⟨by rfl, ?_⟩) (rfl) ?_
             rotate_left 1
             · intro u
               go_simp
               try simp only [d1]
               try simp only [d2]
               try simp only [d3]
               try with_reducible rfl
             simp only [Act.put, List.setIfInBounds_toArray, List.set_cons_zero, List.set_cons_succ])
          | (refine mv_free _ (Or.inr ⟨by rfl, rfl⟩) (rfl) ?_
             simp only [Act.put, List.setIfInBounds_toArray, List.set_cons_zero, List.set_cons_succ])
      iterate 1
        first
          | (refine mv_take ?_ (Or.inl ⟨by rfl, ?_⟩) (rfl) ?_
             rotate_left 1
             · intro u hu
               (try dsimp only at hu)
               go_simp
               try with_reducible rfl
             simp only [Act.put, List.setIfInBounds_toArray, List.set_cons_zero, List.set_cons_succ])
          | (refine mv_take _ (Or.inr ⟨by rfl, rfl⟩) (rfl) ?_
             simp only [Act.put, List.setIfInBounds_toArray, List.set_cons_zero, List.set_cons_succ])
      iterate 2
        first
          | (refine mv_free ?_ (Or.inl ⟨by rfl, ?_⟩) (rfl) ?_
             rotate_left 1
             · intro u
               go_simp
               try simp only [d1]
               try simp only [d2]
               try simp only [d3]
               try with_reducible rfl
             simp only [Act.put, List.setIfInBounds_toArray, List.set_cons_zero, List.set_cons_succ])
          | (refine mv_free _ (Or.inr ⟨by rfl, rfl⟩) (rfl) ?_
             simp only [Act.put, List.setIfInBounds_toArray, List.set_cons_zero, List.set_cons_succ])
      refine mv_late (fun K hK => ?_)
      go_simp
      refine hK.out (fun _ => True) _ _ ?_
      clear hK K
      refine mv_done ?_
      generalize wr.setCell ⟨w.heap.size + 2, k * 3 + k, none⟩ (.int .i64 y) = w2 at *
      go_wp2
      go_roundw
      case rel => exact ⟨k + 1, by omega, by go_num, Lib.hid ⟨S2.out.1.drew, S2.out.2.1.drew, S2.out.2.2.1.drew, S2.out.2.2.2.drew⟩⟩
      case measure => simp [intOf]; omega
    · obtain rfl : k = 3 := by omega
      obtain ⟨hA, hR, hM, hb⟩ := S.out
      rw [mD_all] at hM
      obtain ⟨u9, e9, h9, b9⟩ := ml_laid hR rfl (dgl A)
      have hb9 := Lib.hid (hb.trans (b9.mono (by omega)))
      replace e9 := Lib.hid e9
      obtain ⟨p0, q0⟩ := hR.one 0 rfl
      obtain ⟨p1, q1⟩ := hR.one 1 rfl
      obtain ⟨p2, q2⟩ := hR.one 2 rfl
      obtain ⟨p3, q3⟩ := hR.one 3 rfl
      obtain ⟨p4, q4⟩ := hR.one 4 rfl
      obtain ⟨p5, q5⟩ := hR.one 5 rfl
      obtain ⟨p6, q6⟩ := hR.one 6 rfl
      obtain ⟨p7, q7⟩ := hR.one 7 rfl
      obtain ⟨p8, q8⟩ := hR.one 8 rfl
      obtain ⟨c0, f0⟩ := hM.one 0 rfl
      obtain ⟨c1, f1⟩ := hM.one 1 rfl
      obtain ⟨c2, f2⟩ := hM.one 2 rfl
      obtain ⟨c3, f3⟩ := hM.one 3 rfl
      obtain ⟨c4, f4⟩ := hM.one 4 rfl
      obtain ⟨c5, f5⟩ := hM.one 5 rfl
      obtain ⟨c6, f6⟩ := hM.one 6 rfl
      obtain ⟨c7, f7⟩ := hM.one 7 rfl
      obtain ⟨c8, f8⟩ := hM.one 8 rfl
      clear S hA hR hM hb b9
      go_wp2
      rw [← e9.out]
      obtain ⟨y0, z0⟩ := h9.one 0 rfl
      obtain ⟨y1, z1⟩ := h9.one 1 rfl
      obtain ⟨y2, z2⟩ := h9.one 2 rfl
      obtain ⟨y3, z3⟩ := h9.one 3 rfl
      obtain ⟨y4, z4⟩ := h9.one 4 rfl
      obtain ⟨y5, z5⟩ := h9.one 5 rfl
      obtain ⟨y6, z6⟩ := h9.one 6 rfl
      obtain ⟨y7, z7⟩ := h9.one 7 rfl
      obtain ⟨y8, z8⟩ := h9.one 8 rfl
      exact bodyPost_ret (v := .agg #[.int .i64 ((dgl A) 0), .int .i64 ((dgl A) 1), .int .i64 ((dgl A) 2), .int .i64 ((dgl A) 3), .int .i64 ((dgl A) 4), .int .i64 ((dgl A) 5), .int .i64 ((dgl A) 6), .int .i64 ((dgl A) 7), .int .i64 ((dgl A) 8)]) (by simp [results, Try.results43, go_sem, y0, y1, y2, y3, y4, y5, y6, y7, y8]) rfl ⟨rfl, hb9.out⟩
def unt (t : Nat) : Int := if t % 4 = 0 then 1048576 else 0
theorem mun_box (w : World) : ∃ V, V = (w.alloc (.cells #[.int .i64 0, .int .i64 0, .int .i64 0, .int .i64 0, .int .i64 0, .int .i64 0, .int .i64 0, .int .i64 0, .int .i64 0] 56)) ∧ Below w.heap.size w V ∧ Held w.heap.size [.int .i64 0, .int .i64 0, .int .i64 0, .int .i64 0, .int .i64 0, .int .i64 0, .int .i64 0, .int .i64 0, .int .i64 0] V ∧ V.heap.size = w.heap.size + 1 := by
  refine ⟨_, rfl, (by repeat (first | exact Below.refl _ _ | assumption | apply Below.drew | apply below_drewN | (refine Below.alloc ?_ (by first | exact Nat.le_refl _ | omega | (simp <;> omega)) _) | (refine Below.setCell ?_ (by first | exact Nat.le_refl _ | omega | (simp <;> omega)) _))), ?_, by simp⟩
  · have := (Held.new w [.int .i64 0, .int .i64 0, .int .i64 0, .int .i64 0, .int .i64 0, .int .i64 0, .int .i64 0, .int .i64 0, .int .i64 0] 56)
    simpa using this
set_option maxRecDepth 100000 in
set_option maxHeartbeats 8000000 in
theorem munit (w : World) : Calls Try.prog 42 #[] w fun e w' => e = .returned (.agg #[.int .i64 (unt 0), .int .i64 (unt 1), .int .i64 (unt 2), .int .i64 (unt 3), .int .i64 (unt 4), .int .i64 (unt 5), .int .i64 (unt 6), .int .i64 (unt 7), .int .i64 (unt 8)]) ∧ Below w.heap.size w w' := by
  obtain ⟨V, eV, hb0, hR, hz⟩ := mun_box w
  have MD := Lib.hid (fun u => show Calls Try.prog 43 #[.agg #[.int .i64 1048576, .int .i64 1048576, .int .i64 1048576]] u fun e w' => e = .returned (.agg #[.int .i64 (unt 0), .int .i64 (unt 1), .int .i64 (unt 2), .int .i64 (unt 3), .int .i64 (unt 4), .int .i64 (unt 5), .int .i64 (unt 6), .int .i64 (unt 7), .int .i64 (unt 8)]) ∧ Below u.heap.size u w' from mdiag (fun _ => 1048576) u)
  replace eV := Lib.hid eV
  replace hz := Lib.hid hz
  replace hb0 := Lib.hid hb0
  replace hR := Lib.hid hR
  go_enter Try.func42, Try.ntmps42
  go_upto_region 1 with (fail)
  rw [← eV.out]
  go_wp2_with fail
  refine (MD.out _).mono ?_
  rintro e w1 ⟨rfl, hb1⟩
  have hR1 := hR.out.bel hb1
  obtain ⟨u9, e9, h9, b9⟩ := ml_laid hR1 rfl unt
  have hb9 := Lib.hid ((hb0.out.trans (hb1.mono hb0.out.size)).trans b9)
  replace e9 := Lib.hid e9
  obtain ⟨p0, q0⟩ := hR1.one 0 rfl
  obtain ⟨p1, q1⟩ := hR1.one 1 rfl
  obtain ⟨p2, q2⟩ := hR1.one 2 rfl
  obtain ⟨p3, q3⟩ := hR1.one 3 rfl
  obtain ⟨p4, q4⟩ := hR1.one 4 rfl
  obtain ⟨p5, q5⟩ := hR1.one 5 rfl
  obtain ⟨p6, q6⟩ := hR1.one 6 rfl
  obtain ⟨p7, q7⟩ := hR1.one 7 rfl
  obtain ⟨p8, q8⟩ := hR1.one 8 rfl
  clear hR1 hb1 b9 MD
  go_wp2
  rw [← e9.out]
  obtain ⟨y0, z0⟩ := h9.one 0 rfl
  obtain ⟨y1, z1⟩ := h9.one 1 rfl
  obtain ⟨y2, z2⟩ := h9.one 2 rfl
  obtain ⟨y3, z3⟩ := h9.one 3 rfl
  obtain ⟨y4, z4⟩ := h9.one 4 rfl
  obtain ⟨y5, z5⟩ := h9.one 5 rfl
  obtain ⟨y6, z6⟩ := h9.one 6 rfl
  obtain ⟨y7, z7⟩ := h9.one 7 rfl
  obtain ⟨y8, z8⟩ := h9.one 8 rfl
  exact bodyPost_ret (v := .agg #[.int .i64 (unt 0), .int .i64 (unt 1), .int .i64 (unt 2), .int .i64 (unt 3), .int .i64 (unt 4), .int .i64 (unt 5), .int .i64 (unt 6), .int .i64 (unt 7), .int .i64 (unt 8)]) (by simp [results, Try.results42, go_sem, y0, y1, y2, y3, y4, y5, y6, y7, y8]) rfl ⟨rfl, hb9.out⟩
end Go.Proofs.Ytakocggclopngaa
