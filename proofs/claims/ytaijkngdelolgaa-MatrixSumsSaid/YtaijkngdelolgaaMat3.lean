/- Package matrix: Turn, Mirror, Symmetric, Outer, Mul. -/
import Derived.Test.YtaijkngdelolgaaMat2
namespace Go.Proofs.Ytaijkngdelolgaa
open Go.ChangeShapes Go.WideShapes Go.ChangeAt Go.RowKit
set_option linter.unusedVariables false
set_option linter.unusedSimpArgs false
def trp (X : Nat → Int) (t : Nat) : Int := X (t % 3 * 3 + t / 3)
def mir (X : Nat → Int) (t : Nat) : Int := X (min (t / 3) (t % 3) * 3 + max (t / 3) (t % 3))
def out (A B : Nat → Int) (t : Nat) : Int := prd (A (t / 3)) (B (t % 3))
def mul (X Y : Nat → Int) (t : Nat) : Int := dtI (fun k => X (t / 3 * 3 + k)) (fun k => Y (k * 3 + t % 3))
theorem dm3 {i j : Nat} (hj : j < 3) : (i * 3 + j) / 3 = i ∧ (i * 3 + j) % 3 = j := by omega
theorem prd_eq {a b c d : Int} (h : a = c) (k : b = d) : prd a b = prd c d := by rw [h, k]
theorem dtI_eq {A B C D : Nat → Int} (h : ∀ k, k < 3 → A k = C k) (k : ∀ k, k < 3 → B k = D k) : dtI A B = dtI C D := by
  unfold dtI
  rw [h 0 (by omega), h 1 (by omega), h 2 (by omega), k 0 (by omega), k 1 (by omega), k 2 (by omega)]
set_option maxRecDepth 100000 in
set_option maxHeartbeats 8000000 in
theorem mturn1 (p : Nat) (X : Nat → Int) (i j : Nat) (u : World) (hi : i < 3) (hj : j < 3) (h : Held p [.int .i64 (X 0), .int .i64 (X 1), .int .i64 (X 2), .int .i64 (X 3), .int .i64 (X 4), .int .i64 (X 5), .int .i64 (X 6), .int .i64 (X 7), .int .i64 (X 8)] u) : Calls Try.prog 58 #[.int .i64 (i : Int), .int .i64 (j : Int), .pointer (some ⟨p, 0, none⟩)] u fun e u' => e = .returned (.int .i64 (trp X (i * 3 + j))) ∧ u = u' := by
  have k0 := ml_at h (k := j * 3 + i) (by omega)
  rw [show trp X (i * 3 + j) = X (j * 3 + i) by unfold trp; rw [(dm3 hj).1, (dm3 hj).2]]
  have hi3 : (i : Int) < 3 := by omega
  have hj3 : (j : Int) < 3 := by omega
  generalize X (j * 3 + i) = x at *
  clear h
  go_enter Try.func58, Try.ntmps58
  go_wp2
  go_ret
  exact ⟨rfl, rfl⟩
theorem mturn_box (w : World) (X : Nat → Int) : ∃ V, V = ((w.alloc (.cells #[.int .i64 (X 0), .int .i64 (X 1), .int .i64 (X 2), .int .i64 (X 3), .int .i64 (X 4), .int .i64 (X 5), .int .i64 (X 6), .int .i64 (X 7), .int .i64 (X 8)] 72)).alloc (.cells #[.int .i64 0, .int .i64 0, .int .i64 0, .int .i64 0, .int .i64 0, .int .i64 0, .int .i64 0, .int .i64 0, .int .i64 0] 72)) ∧ Below w.heap.size w V ∧ Held w.heap.size [.int .i64 (X 0), .int .i64 (X 1), .int .i64 (X 2), .int .i64 (X 3), .int .i64 (X 4), .int .i64 (X 5), .int .i64 (X 6), .int .i64 (X 7), .int .i64 (X 8)] V ∧ Held (w.heap.size + 1) [.int .i64 0, .int .i64 0, .int .i64 0, .int .i64 0, .int .i64 0, .int .i64 0, .int .i64 0, .int .i64 0, .int .i64 0] V ∧ V.heap.size = w.heap.size + 2 := by
  refine ⟨_, rfl, (by repeat (first | exact Below.refl _ _ | assumption | apply Below.drew | apply below_drewN | (refine Below.alloc ?_ (by first | exact Nat.le_refl _ | omega | (simp <;> omega)) _) | (refine Below.setCell ?_ (by first | exact Nat.le_refl _ | omega | (simp <;> omega)) _))), ?_, ?_, by simp⟩
  · have := ((Held.new w [.int .i64 (X 0), .int .i64 (X 1), .int .i64 (X 2), .int .i64 (X 3), .int .i64 (X 4), .int .i64 (X 5), .int .i64 (X 6), .int .i64 (X 7), .int .i64 (X 8)] 72).alloc (.cells #[.int .i64 0, .int .i64 0, .int .i64 0, .int .i64 0, .int .i64 0, .int .i64 0, .int .i64 0, .int .i64 0, .int .i64 0] 72))
    simpa using this
  · have := Held.new (w.alloc (.cells #[.int .i64 (X 0), .int .i64 (X 1), .int .i64 (X 2), .int .i64 (X 3), .int .i64 (X 4), .int .i64 (X 5), .int .i64 (X 6), .int .i64 (X 7), .int .i64 (X 8)] 72)) [.int .i64 0, .int .i64 0, .int .i64 0, .int .i64 0, .int .i64 0, .int .i64 0, .int .i64 0, .int .i64 0, .int .i64 0] 72
    simpa using this
set_option maxRecDepth 100000 in
set_option maxHeartbeats 8000000 in
theorem mturn (X : Nat → Int) (w : World) : Calls Try.prog 34 #[.agg #[.int .i64 (X 0), .int .i64 (X 1), .int .i64 (X 2), .int .i64 (X 3), .int .i64 (X 4), .int .i64 (X 5), .int .i64 (X 6), .int .i64 (X 7), .int .i64 (X 8)]] w fun e w' => e = .returned (.agg #[.int .i64 ((trp X) 0), .int .i64 ((trp X) 1), .int .i64 ((trp X) 2), .int .i64 ((trp X) 3), .int .i64 ((trp X) 4), .int .i64 ((trp X) 5), .int .i64 ((trp X) 6), .int .i64 ((trp X) 7), .int .i64 ((trp X) 8)]) ∧ Below w.heap.size w w' := by
  obtain ⟨V, eV, hb0, hX0, hR, hz⟩ := mturn_box w X
  have BD := Lib.hid (mbuild 58 #[.pointer (some ⟨w.heap.size, 0, none⟩)] (trp X) (fun u => Held w.heap.size [.int .i64 (X 0), .int .i64 (X 1), .int .i64 (X 2), .int .i64 (X 3), .int .i64 (X 4), .int .i64 (X 5), .int .i64 (X 6), .int .i64 (X 7), .int .i64 (X 8)] u ∧ Held (w.heap.size + 1) [.int .i64 0, .int .i64 0, .int .i64 0, .int .i64 0, .int .i64 0, .int .i64 0, .int .i64 0, .int .i64 0, .int .i64 0] u ∧ Below w.heap.size w u) (V.heap.size + 2) V (enters_of Try.func58 (by kernel_rfl) rfl) (by omega) (by omega)
    (fun u u' h k => ⟨h.1.below k (by omega), h.2.1.below k (by omega), h.2.2.trans (k.mono (by omega))⟩) ⟨hX0, hR, hb0⟩
    (fun u i j hi hj h => (mturn1 w.heap.size X i j u hi hj h.1).mono (fun e u' q => by obtain ⟨rfl, rfl⟩ := q; exact ⟨rfl, h, .of_below (Below.refl _ _)⟩)))
  replace eV := Lib.hid eV
  replace hz := Lib.hid hz
  clear hX0 hR hb0
  go_enter Try.func34, Try.ntmps34
  go_upto_region 1 with (fail)
  rw [← eV.out]
  go_wp2_with fail
  refine BD.out.mono ?_
  rintro e w1 ⟨rfl, ⟨-, hR1, hb1⟩, -⟩
  obtain ⟨u9, e9, h9, b9⟩ := ml_laid hR1 rfl (trp X)
  have hb9 := Lib.hid (hb1.trans (b9.mono (by omega)))
  replace e9 := Lib.hid e9
  obtain ⟨p0, q0⟩ := hR1.one 0 rfl
  obtain ⟨p1, q1⟩ := hR1.one 1 rfl
  obtain ⟨p2, q2⟩ := hR1.one 2 rfl
  obtain ⟨p3, q3⟩ := hR1.one 3 rfl
  obtain ⟨p4, q4⟩ := hR1.one 4 rfl
  obtain ⟨p5, q5⟩ := hR1.one 5 rfl
  obtain ⟨p6, q6⟩ := hR1.one 6 rfl
  obtain ⟨p7, q7⟩ := hR1.one 7 rfl
  obtain ⟨p8, q8⟩ := hR1.one 8 rfl
  clear BD hR1 hb1 b9
  go_wp2
  rw [← e9.out]
  obtain ⟨y0, z0⟩ := h9.one 0 rfl
  obtain ⟨y1, z1⟩ := h9.one 1 rfl
  obtain ⟨y2, z2⟩ := h9.one 2 rfl
  obtain ⟨y3, z3⟩ := h9.one 3 rfl
  obtain ⟨y4, z4⟩ := h9.one 4 rfl
  obtain ⟨y5, z5⟩ := h9.one 5 rfl
  obtain ⟨y6, z6⟩ := h9.one 6 rfl
  obtain ⟨y7, z7⟩ := h9.one 7 rfl
  obtain ⟨y8, z8⟩ := h9.one 8 rfl
  exact bodyPost_ret (v := .agg #[.int .i64 ((trp X) 0), .int .i64 ((trp X) 1), .int .i64 ((trp X) 2), .int .i64 ((trp X) 3), .int .i64 ((trp X) 4), .int .i64 ((trp X) 5), .int .i64 ((trp X) 6), .int .i64 ((trp X) 7), .int .i64 ((trp X) 8)]) (by simp [results, Try.results34, go_sem, y0, y1, y2, y3, y4, y5, y6, y7, y8]) rfl ⟨rfl, hb9.out⟩
theorem mmirror_box (w : World) (X : Nat → Int) : ∃ V, V = ((w.alloc (.cells #[.int .i64 (X 0), .int .i64 (X 1), .int .i64 (X 2), .int .i64 (X 3), .int .i64 (X 4), .int .i64 (X 5), .int .i64 (X 6), .int .i64 (X 7), .int .i64 (X 8)] 72)).alloc (.cells #[.int .i64 0, .int .i64 0, .int .i64 0, .int .i64 0, .int .i64 0, .int .i64 0, .int .i64 0, .int .i64 0, .int .i64 0] 72)) ∧ Below w.heap.size w V ∧ Held w.heap.size [.int .i64 (X 0), .int .i64 (X 1), .int .i64 (X 2), .int .i64 (X 3), .int .i64 (X 4), .int .i64 (X 5), .int .i64 (X 6), .int .i64 (X 7), .int .i64 (X 8)] V ∧ Held (w.heap.size + 1) [.int .i64 0, .int .i64 0, .int .i64 0, .int .i64 0, .int .i64 0, .int .i64 0, .int .i64 0, .int .i64 0, .int .i64 0] V ∧ V.heap.size = w.heap.size + 2 := by
  refine ⟨_, rfl, (by repeat (first | exact Below.refl _ _ | assumption | apply Below.drew | apply below_drewN | (refine Below.alloc ?_ (by first | exact Nat.le_refl _ | omega | (simp <;> omega)) _) | (refine Below.setCell ?_ (by first | exact Nat.le_refl _ | omega | (simp <;> omega)) _))), ?_, ?_, by simp⟩
  · have := ((Held.new w [.int .i64 (X 0), .int .i64 (X 1), .int .i64 (X 2), .int .i64 (X 3), .int .i64 (X 4), .int .i64 (X 5), .int .i64 (X 6), .int .i64 (X 7), .int .i64 (X 8)] 72).alloc (.cells #[.int .i64 0, .int .i64 0, .int .i64 0, .int .i64 0, .int .i64 0, .int .i64 0, .int .i64 0, .int .i64 0, .int .i64 0] 72))
    simpa using this
  · have := Held.new (w.alloc (.cells #[.int .i64 (X 0), .int .i64 (X 1), .int .i64 (X 2), .int .i64 (X 3), .int .i64 (X 4), .int .i64 (X 5), .int .i64 (X 6), .int .i64 (X 7), .int .i64 (X 8)] 72)) [.int .i64 0, .int .i64 0, .int .i64 0, .int .i64 0, .int .i64 0, .int .i64 0, .int .i64 0, .int .i64 0, .int .i64 0] 72
    simpa using this
theorem mouter_box (w : World) (A B : Nat → Int) : ∃ V, V = (((w.alloc (.cells #[.int .i64 (A 0), .int .i64 (A 1), .int .i64 (A 2)] 80)).alloc (.cells #[.int .i64 (B 0), .int .i64 (B 1), .int .i64 (B 2)] 80)).alloc (.cells #[.int .i64 0, .int .i64 0, .int .i64 0, .int .i64 0, .int .i64 0, .int .i64 0, .int .i64 0, .int .i64 0, .int .i64 0] 72)) ∧ Below w.heap.size w V ∧ Held w.heap.size [.int .i64 (A 0), .int .i64 (A 1), .int .i64 (A 2)] V ∧ Held (w.heap.size + 1) [.int .i64 (B 0), .int .i64 (B 1), .int .i64 (B 2)] V ∧ Held (w.heap.size + 2) [.int .i64 0, .int .i64 0, .int .i64 0, .int .i64 0, .int .i64 0, .int .i64 0, .int .i64 0, .int .i64 0, .int .i64 0] V ∧ V.heap.size = w.heap.size + 3 := by
  refine ⟨_, rfl, (by repeat (first | exact Below.refl _ _ | assumption | apply Below.drew | apply below_drewN | (refine Below.alloc ?_ (by first | exact Nat.le_refl _ | omega | (simp <;> omega)) _) | (refine Below.setCell ?_ (by first | exact Nat.le_refl _ | omega | (simp <;> omega)) _))), ?_, ?_, ?_, by simp⟩
  · have := (((Held.new w [.int .i64 (A 0), .int .i64 (A 1), .int .i64 (A 2)] 80).alloc (.cells #[.int .i64 (B 0), .int .i64 (B 1), .int .i64 (B 2)] 80)).alloc (.cells #[.int .i64 0, .int .i64 0, .int .i64 0, .int .i64 0, .int .i64 0, .int .i64 0, .int .i64 0, .int .i64 0, .int .i64 0] 72))
    simpa using this
  · have := ((Held.new (w.alloc (.cells #[.int .i64 (A 0), .int .i64 (A 1), .int .i64 (A 2)] 80)) [.int .i64 (B 0), .int .i64 (B 1), .int .i64 (B 2)] 80).alloc (.cells #[.int .i64 0, .int .i64 0, .int .i64 0, .int .i64 0, .int .i64 0, .int .i64 0, .int .i64 0, .int .i64 0, .int .i64 0] 72))
    simpa using this
  · have := Held.new ((w.alloc (.cells #[.int .i64 (A 0), .int .i64 (A 1), .int .i64 (A 2)] 80)).alloc (.cells #[.int .i64 (B 0), .int .i64 (B 1), .int .i64 (B 2)] 80)) [.int .i64 0, .int .i64 0, .int .i64 0, .int .i64 0, .int .i64 0, .int .i64 0, .int .i64 0, .int .i64 0, .int .i64 0] 72
    simpa using this
end Go.Proofs.Ytaijkngdelolgaa
