/- Package matrix: Scale. -/
import Derived.Test.YtaijkngdelolgaaMat7
namespace Go.Proofs.Ytaijkngdelolgaa
open Go.ChangeShapes Go.WideShapes Go.ChangeAt Go.RowKit
set_option linter.unusedVariables false
set_option linter.unusedSimpArgs false
def scl (X : Nat → Int) (n : Int) (t : Nat) : Int := prd (X t) n
set_option maxRecDepth 100000 in
set_option maxHeartbeats 8000000 in
theorem mscale1 (p q : Nat) (X : Nat → Int) (n : Int) (i j : Nat) (u : World) (hi : i < 3) (hj : j < 3) (h : Held p [.int .i64 (X 0), .int .i64 (X 1), .int .i64 (X 2), .int .i64 (X 3), .int .i64 (X 4), .int .i64 (X 5), .int .i64 (X 6), .int .i64 (X 7), .int .i64 (X 8)] u) (g : Held q [.int .i64 n] u) : Calls Try.prog 56 #[.int .i64 (i : Int), .int .i64 (j : Int), .pointer (some ⟨p, 0, none⟩), .pointer (some ⟨q, 0, none⟩)] u fun e u' => e = .returned (.int .i64 (scl X n (i * 3 + j))) ∧ Below u.heap.size u u' := by
  have k0 := ml_at h (k := i * 3 + j) (by omega)
  have k1 := g.c 0 _ rfl
  have hi3 : (i : Int) < 3 := by omega
  have hj3 : (j : Int) < 3 := by omega
  have MP := fun v => mproduct (X (i * 3 + j)) n v
  rw [show scl X n (i * 3 + j) = prd (X (i * 3 + j)) n from rfl]
  generalize prd (X (i * 3 + j)) n = P at *
  generalize X (i * 3 + j) = x at *
  replace MP := Lib.hid MP
  clear h g
  go_enter Try.func56, Try.ntmps56
  go_wp2_with fail
  refine region_moves (fun v => v.cell? ⟨p, i * 3 + j, none⟩ = some (.int .i64 x) ∧ v.cell? ⟨q, 0, none⟩ = some (.int .i64 n)) [(6, [(4, 6), (5, 6), (3, 4), (2, 3), (1, 3), (0, 2)])] [(.free, 0), (.free, 1), (.free, 2), (.free, 3), (.take, 4), (.take, 5), (.late, 6), (.free, 7)] _ (by kernel_rfl) (by kernel_rfl) (by kernel_rfl) (by kernel_rfl) (by decide) rfl (fun _ _ _ _ _ h => h) ?_
  simp only [List.filterMap_cons, List.filterMap_nil, List.getElem?_toArray, List.getElem?_cons_zero, List.getElem?_cons_succ, Option.map_some]
  iterate 4
    first
      | (refine mv_free ?_ (Or.inl ⟨by rfl, ?_⟩) (⟨k0, k1⟩) ?_
         rotate_left 1
         · intro u
           go_simp
           try simp only [d1]
           try simp only [d2]
           try simp only [d3]
           try with_reducible rfl
         simp only [Act.put, List.setIfInBounds_toArray, List.set_cons_zero, List.set_cons_succ])
      | (refine mv_free _ (Or.inr ⟨by rfl, rfl⟩) (⟨k0, k1⟩) ?_
         simp only [Act.put, List.setIfInBounds_toArray, List.set_cons_zero, List.set_cons_succ])
  iterate 2
    first
      | (refine mv_take ?_ (Or.inl ⟨by rfl, ?_⟩) (⟨k0, k1⟩) ?_
         rotate_left 1
         · intro u hu
           (try dsimp only at hu)
           go_simp
           try with_reducible rfl
         simp only [Act.put, List.setIfInBounds_toArray, List.set_cons_zero, List.set_cons_succ])
      | (refine mv_take _ (Or.inr ⟨by rfl, rfl⟩) (⟨k0, k1⟩) ?_
         simp only [Act.put, List.setIfInBounds_toArray, List.set_cons_zero, List.set_cons_succ])
  refine mv_late (fun K hK => ?_)
  go_simp
  refine (MP.out _).mono ?_
  rintro e w1 ⟨rfl, hb1⟩
  have hb2 := (Below.refl u.heap.size u).drew.trans hb1
  clear k0 k1 hb1
  go_wp2_with fail
  refine hK.out (fun _ => True) _ _ ?_
  clear hK K
  iterate 1
    first
      | (refine mv_free ?_ (Or.inl ⟨by rfl, ?_⟩) (trivial) ?_
         rotate_left 1
         · intro u
           go_simp
           try simp only [d1]
           try simp only [d2]
           try simp only [d3]
           try with_reducible rfl
         simp only [Act.put, List.setIfInBounds_toArray, List.set_cons_zero, List.set_cons_succ])
      | (refine mv_free _ (Or.inr ⟨by rfl, rfl⟩) (trivial) ?_
         simp only [Act.put, List.setIfInBounds_toArray, List.set_cons_zero, List.set_cons_succ])
  refine mv_done ?_
  go_wp2
  go_ret
  exact ⟨rfl, hb2⟩
theorem mscale_box (w : World) (X : Nat → Int) (n : Int) : ∃ V, V = (((w.alloc (.cells #[.int .i64 (X 0), .int .i64 (X 1), .int .i64 (X 2), .int .i64 (X 3), .int .i64 (X 4), .int .i64 (X 5), .int .i64 (X 6), .int .i64 (X 7), .int .i64 (X 8)] 72)).alloc (.cells #[.int .i64 n] 2)).alloc (.cells #[.int .i64 0, .int .i64 0, .int .i64 0, .int .i64 0, .int .i64 0, .int .i64 0, .int .i64 0, .int .i64 0, .int .i64 0] 72)) ∧ Below w.heap.size w V ∧ Held w.heap.size [.int .i64 (X 0), .int .i64 (X 1), .int .i64 (X 2), .int .i64 (X 3), .int .i64 (X 4), .int .i64 (X 5), .int .i64 (X 6), .int .i64 (X 7), .int .i64 (X 8)] V ∧ Held (w.heap.size + 1) [.int .i64 n] V ∧ Held (w.heap.size + 2) [.int .i64 0, .int .i64 0, .int .i64 0, .int .i64 0, .int .i64 0, .int .i64 0, .int .i64 0, .int .i64 0, .int .i64 0] V ∧ V.heap.size = w.heap.size + 3 := by
  refine ⟨_, rfl, (by repeat (first | exact Below.refl _ _ | assumption | apply Below.drew | apply below_drewN | (refine Below.alloc ?_ (by first | exact Nat.le_refl _ | omega | (simp <;> omega)) _) | (refine Below.setCell ?_ (by first | exact Nat.le_refl _ | omega | (simp <;> omega)) _))), ?_, ?_, ?_, by simp⟩
  · have := (((Held.new w [.int .i64 (X 0), .int .i64 (X 1), .int .i64 (X 2), .int .i64 (X 3), .int .i64 (X 4), .int .i64 (X 5), .int .i64 (X 6), .int .i64 (X 7), .int .i64 (X 8)] 72).alloc (.cells #[.int .i64 n] 2)).alloc (.cells #[.int .i64 0, .int .i64 0, .int .i64 0, .int .i64 0, .int .i64 0, .int .i64 0, .int .i64 0, .int .i64 0, .int .i64 0] 72))
    simpa using this
  · have := ((Held.new (w.alloc (.cells #[.int .i64 (X 0), .int .i64 (X 1), .int .i64 (X 2), .int .i64 (X 3), .int .i64 (X 4), .int .i64 (X 5), .int .i64 (X 6), .int .i64 (X 7), .int .i64 (X 8)] 72)) [.int .i64 n] 2).alloc (.cells #[.int .i64 0, .int .i64 0, .int .i64 0, .int .i64 0, .int .i64 0, .int .i64 0, .int .i64 0, .int .i64 0, .int .i64 0] 72))
    simpa using this
  · have := (Held.new ((w.alloc (.cells #[.int .i64 (X 0), .int .i64 (X 1), .int .i64 (X 2), .int .i64 (X 3), .int .i64 (X 4), .int .i64 (X 5), .int .i64 (X 6), .int .i64 (X 7), .int .i64 (X 8)] 72)).alloc (.cells #[.int .i64 n] 2)) [.int .i64 0, .int .i64 0, .int .i64 0, .int .i64 0, .int .i64 0, .int .i64 0, .int .i64 0, .int .i64 0, .int .i64 0] 72)
    simpa using this
set_option maxRecDepth 100000 in
set_option maxHeartbeats 8000000 in
theorem mscale (X : Nat → Int) (n : Int) (w : World) : Calls Try.prog 33 #[.agg #[.int .i64 (X 0), .int .i64 (X 1), .int .i64 (X 2), .int .i64 (X 3), .int .i64 (X 4), .int .i64 (X 5), .int .i64 (X 6), .int .i64 (X 7), .int .i64 (X 8)], .int .i64 n] w fun e w' => e = .returned (.agg #[.int .i64 (scl X n 0), .int .i64 (scl X n 1), .int .i64 (scl X n 2), .int .i64 (scl X n 3), .int .i64 (scl X n 4), .int .i64 (scl X n 5), .int .i64 (scl X n 6), .int .i64 (scl X n 7), .int .i64 (scl X n 8)]) ∧ Below w.heap.size w w' := by
  obtain ⟨V, eV, hb0, hX, hY, hR, hz⟩ := mscale_box w X n
  have BD := Lib.hid (mbuild 56 #[.pointer (some ⟨w.heap.size, 0, none⟩), .pointer (some ⟨w.heap.size + 1, 0, none⟩)] (scl X n) (fun u => Held w.heap.size [.int .i64 (X 0), .int .i64 (X 1), .int .i64 (X 2), .int .i64 (X 3), .int .i64 (X 4), .int .i64 (X 5), .int .i64 (X 6), .int .i64 (X 7), .int .i64 (X 8)] u ∧ Held (w.heap.size + 1) [.int .i64 n] u ∧ Held (w.heap.size + 2) [.int .i64 0, .int .i64 0, .int .i64 0, .int .i64 0, .int .i64 0, .int .i64 0, .int .i64 0, .int .i64 0, .int .i64 0] u ∧ Below w.heap.size w u) (V.heap.size + 3) V (enters_of Try.func56 (by kernel_rfl) rfl) (by omega) (by omega)
    (fun u u' h k => ⟨h.1.below k (by omega), h.2.1.below k (by omega), h.2.2.1.below k (by omega), h.2.2.2.trans (k.mono (by omega))⟩) ⟨hX, hY, hR, hb0⟩
    (fun u i j hi hj h => (mscale1 w.heap.size (w.heap.size + 1) X n i j u hi hj h.1 h.2.1).mono (fun e u' q => by
      obtain ⟨q1, q2⟩ := q
      exact ⟨q1, ⟨h.1.bel q2, h.2.1.bel q2, h.2.2.1.bel q2, h.2.2.2.trans (q2.mono h.2.2.2.size)⟩, .of_below q2⟩)))
  replace eV := Lib.hid eV
  replace hz := Lib.hid hz
  clear hX hY hR hb0
  go_enter Try.func33, Try.ntmps33
  go_upto_region 1 with (fail)
  rw [← eV.out]
  go_wp2_with fail
  refine BD.out.mono ?_
  rintro e w1 ⟨rfl, ⟨-, -, hR1, hb1⟩, -⟩
  obtain ⟨u9, e9, h9, b9⟩ := ml_laid hR1 rfl (scl X n)
  have hb9 := Lib.hid (hb1.trans (b9.mono (by omega)))
  replace e9 := Lib.hid e9
  obtain ⟨p0, q0⟩ := hR1.one 0 rfl
  obtain ⟨p1, q1⟩ := hR1.one 1 rfl
  obtain ⟨p2, q2⟩ := hR1.one 2 rfl
  obtain ⟨p3, q3⟩ := hR1.one 3 rfl
  obtain ⟨p4, q4⟩ := hR1.one 4 rfl
  obtain ⟨p5, q5⟩ := hR1.one 5 rfl
  obtain ⟨p6, q6⟩ := hR1.one 6 rfl
  obtain ⟨p7, q7⟩ := hR1.one 7 rfl
  obtain ⟨p8, q8⟩ := hR1.one 8 rfl
  clear BD hR1 hb1 b9
  go_wp2
  rw [← e9.out]
  obtain ⟨y0, z0⟩ := h9.one 0 rfl
  obtain ⟨y1, z1⟩ := h9.one 1 rfl
  obtain ⟨y2, z2⟩ := h9.one 2 rfl
  obtain ⟨y3, z3⟩ := h9.one 3 rfl
  obtain ⟨y4, z4⟩ := h9.one 4 rfl
  obtain ⟨y5, z5⟩ := h9.one 5 rfl
  obtain ⟨y6, z6⟩ := h9.one 6 rfl
  obtain ⟨y7, z7⟩ := h9.one 7 rfl
  obtain ⟨y8, z8⟩ := h9.one 8 rfl
  exact bodyPost_ret (v := .agg #[.int .i64 (scl X n 0), .int .i64 (scl X n 1), .int .i64 (scl X n 2), .int .i64 (scl X n 3), .int .i64 (scl X n 4), .int .i64 (scl X n 5), .int .i64 (scl X n 6), .int .i64 (scl X n 7), .int .i64 (scl X n 8)]) (by simp [results, Try.results33, go_sem, y0, y1, y2, y3, y4, y5, y6, y7, y8]) rfl ⟨rfl, hb9.out⟩
end Go.Proofs.Ytaijkngdelolgaa
