/- The law's nine; the document's Outer, Mul, minus, Det. -/
import Derived.Test.YtaijkngdelolgaaMat9
namespace Go.Proofs.Ytaijkngdelolgaa
open Go.ChangeShapes Go.WideShapes Go.ChangeAt Go.RowKit
set_option linter.unusedVariables false
set_option linter.unusedSimpArgs false
theorem nin_box (w : World) (X : Nat → Int) : ∃ V, V = (((w.alloc (.cells #[.int .i64 (X 0), .int .i64 (X 1), .int .i64 (X 2), .int .i64 (X 3), .int .i64 (X 4), .int .i64 (X 5), .int .i64 (X 6), .int .i64 (X 7), .int .i64 (X 8)] 72)).alloc (.cells #[.int .i64 0, .int .i64 0, .int .i64 0, .int .i64 0, .int .i64 0, .int .i64 0, .int .i64 0, .int .i64 0, .int .i64 0] 74)).alloc (.cells #[.int .i64 0, .int .i64 0, .int .i64 0, .int .i64 0, .int .i64 0, .int .i64 0, .int .i64 0, .int .i64 0, .int .i64 0] 74)) ∧ Below w.heap.size w V ∧ Held w.heap.size [.int .i64 (X 0), .int .i64 (X 1), .int .i64 (X 2), .int .i64 (X 3), .int .i64 (X 4), .int .i64 (X 5), .int .i64 (X 6), .int .i64 (X 7), .int .i64 (X 8)] V ∧ Held (w.heap.size + 1) [.int .i64 0, .int .i64 0, .int .i64 0, .int .i64 0, .int .i64 0, .int .i64 0, .int .i64 0, .int .i64 0, .int .i64 0] V ∧ Held (w.heap.size + 2) [.int .i64 0, .int .i64 0, .int .i64 0, .int .i64 0, .int .i64 0, .int .i64 0, .int .i64 0, .int .i64 0, .int .i64 0] V ∧ V.heap.size = w.heap.size + 3 := by
  refine ⟨_, rfl, (by repeat (first | exact Below.refl _ _ | assumption | apply Below.drew | apply below_drewN | (refine Below.alloc ?_ (by first | exact Nat.le_refl _ | omega | (simp <;> omega)) _) | (refine Below.setCell ?_ (by first | exact Nat.le_refl _ | omega | (simp <;> omega)) _))), ?_, ?_, ?_, by simp⟩
  · have := (((Held.new w [.int .i64 (X 0), .int .i64 (X 1), .int .i64 (X 2), .int .i64 (X 3), .int .i64 (X 4), .int .i64 (X 5), .int .i64 (X 6), .int .i64 (X 7), .int .i64 (X 8)] 72).alloc (.cells #[.int .i64 0, .int .i64 0, .int .i64 0, .int .i64 0, .int .i64 0, .int .i64 0, .int .i64 0, .int .i64 0, .int .i64 0] 74)).alloc (.cells #[.int .i64 0, .int .i64 0, .int .i64 0, .int .i64 0, .int .i64 0, .int .i64 0, .int .i64 0, .int .i64 0, .int .i64 0] 74))
    simpa using this
  · have := ((Held.new (w.alloc (.cells #[.int .i64 (X 0), .int .i64 (X 1), .int .i64 (X 2), .int .i64 (X 3), .int .i64 (X 4), .int .i64 (X 5), .int .i64 (X 6), .int .i64 (X 7), .int .i64 (X 8)] 72)) [.int .i64 0, .int .i64 0, .int .i64 0, .int .i64 0, .int .i64 0, .int .i64 0, .int .i64 0, .int .i64 0, .int .i64 0] 74).alloc (.cells #[.int .i64 0, .int .i64 0, .int .i64 0, .int .i64 0, .int .i64 0, .int .i64 0, .int .i64 0, .int .i64 0, .int .i64 0] 74))
    simpa using this
  · have := (Held.new ((w.alloc (.cells #[.int .i64 (X 0), .int .i64 (X 1), .int .i64 (X 2), .int .i64 (X 3), .int .i64 (X 4), .int .i64 (X 5), .int .i64 (X 6), .int .i64 (X 7), .int .i64 (X 8)] 72)).alloc (.cells #[.int .i64 0, .int .i64 0, .int .i64 0, .int .i64 0, .int .i64 0, .int .i64 0, .int .i64 0, .int .i64 0, .int .i64 0] 74)) [.int .i64 0, .int .i64 0, .int .i64 0, .int .i64 0, .int .i64 0, .int .i64 0, .int .i64 0, .int .i64 0, .int .i64 0] 74)
    simpa using this
def NinI (X : Nat → Int) (w : World) (k : Nat) (u : World) : Prop := Held w.heap.size [.int .i64 (X 0), .int .i64 (X 1), .int .i64 (X 2), .int .i64 (X 3), .int .i64 (X 4), .int .i64 (X 5), .int .i64 (X 6), .int .i64 (X 7), .int .i64 (X 8)] u ∧ Held (w.heap.size + 1) [.int .i64 0, .int .i64 0, .int .i64 0, .int .i64 0, .int .i64 0, .int .i64 0, .int .i64 0, .int .i64 0, .int .i64 0] u ∧ Held (w.heap.size + 2) (mC X k) u ∧ Below w.heap.size w u
theorem NinI.step {X : Nat → Int} {w u : World} {k : Nat} (h : NinI X w k u) (hk : k < 9) : NinI X w (k + 1) (u.setCell ⟨w.heap.size + 2, k, none⟩ (.int .i64 (X k))) := by
  obtain ⟨h1, h2, h3, h4⟩ := h
  have O : Only (w.heap.size + 2) u (u.setCell ⟨w.heap.size + 2, k, none⟩ (.int .i64 (X k))) := (Only.refl (w.heap.size + 2) u).setCell (p := ⟨w.heap.size + 2, k, none⟩) (.int .i64 (X k))
  exact ⟨h1.only O (by omega), h2.only O (by omega), mC_set X k hk ▸ h3.set k _ (by rw [mC_len]; exact hk), h4.trans (O.below (by omega))⟩
set_option maxRecDepth 100000 in
set_option maxHeartbeats 8000000 in
theorem mnine (X : Nat → Int) (w : World) : Calls Try.prog 30 #[.agg #[.int .i64 (X 0), .int .i64 (X 1), .int .i64 (X 2), .int .i64 (X 3), .int .i64 (X 4), .int .i64 (X 5), .int .i64 (X 6), .int .i64 (X 7), .int .i64 (X 8)]] w fun e w' => e = .returned (.agg #[.int .i64 (X 0), .int .i64 (X 1), .int .i64 (X 2), .int .i64 (X 3), .int .i64 (X 4), .int .i64 (X 5), .int .i64 (X 6), .int .i64 (X 7), .int .i64 (X 8)]) ∧ Below w.heap.size w w' := by
  obtain ⟨V, eV, hb0, hX, hR, hM, hz⟩ := nin_box w X
  have S0 := Lib.hid (show NinI X w 0 V from ⟨hX, hR, by rw [mC_zero]; exact hM, hb0⟩)
  replace eV := Lib.hid eV
  clear hX hR hM hb0 hz
  go_enter Try.func30, Try.ntmps30
  go_upto_region 2 with (fail)
  rw [← eV.out]
  go_wp2_with fail
  go_loopw [4] (fun i u => ∃ k : Nat, k ≤ 9 ∧ i = .int .i64 (k : Int) ∧ Hid (NinI X w k u)) (fun i _ => 9 - (intOf i).toNat)
  case atStart => exact ⟨0, by omega, rfl, S0⟩
  case round =>
    clear S0
    obtain ⟨k, hk, rfl, S⟩ := hrel
    rcases (show k = 0 ∨ k = 1 ∨ k = 2 ∨ k = 3 ∨ k = 4 ∨ k = 5 ∨ k = 6 ∨ k = 7 ∨ k = 8 ∨ k = 9 by omega) with rfl | rfl | rfl | rfl | rfl | rfl | rfl | rfl | rfl | rfl
    · have kx := S.out.1.c 0 _ rfl
      have ck := S.out.2.2.1.c 0 _ (mC_at X _ _ (by omega))
      have fk := S.out.2.2.1.f 0 (by rw [mC_len]; omega)
      have S2 := Lib.hid (S.out.step (by omega))
      generalize X 0 = x at kx S2
      clear S
      go_wp2
      generalize wr.setCell ⟨w.heap.size + 2, 0, none⟩ (.int .i64 x) = w2 at *
      go_roundw
      case rel => exact ⟨0 + 1, by omega, by first | rfl | go_num, S2⟩
      case measure => simp [intOf]
    · have kx := S.out.1.c 1 _ rfl
      have ck := S.out.2.2.1.c 1 _ (mC_at X _ _ (by omega))
      have fk := S.out.2.2.1.f 1 (by rw [mC_len]; omega)
      have S2 := Lib.hid (S.out.step (by omega))
      generalize X 1 = x at kx S2
      clear S
      go_wp2
      generalize wr.setCell ⟨w.heap.size + 2, 1, none⟩ (.int .i64 x) = w2 at *
      go_roundw
      case rel => exact ⟨1 + 1, by omega, by first | rfl | go_num, S2⟩
      case measure => simp [intOf]
    · have kx := S.out.1.c 2 _ rfl
      have ck := S.out.2.2.1.c 2 _ (mC_at X _ _ (by omega))
      have fk := S.out.2.2.1.f 2 (by rw [mC_len]; omega)
      have S2 := Lib.hid (S.out.step (by omega))
      generalize X 2 = x at kx S2
      clear S
      go_wp2
      generalize wr.setCell ⟨w.heap.size + 2, 2, none⟩ (.int .i64 x) = w2 at *
      go_roundw
      case rel => exact ⟨2 + 1, by omega, by first | rfl | go_num, S2⟩
      case measure => simp [intOf]
    · have kx := S.out.1.c 3 _ rfl
      have ck := S.out.2.2.1.c 3 _ (mC_at X _ _ (by omega))
      have fk := S.out.2.2.1.f 3 (by rw [mC_len]; omega)
      have S2 := Lib.hid (S.out.step (by omega))
      generalize X 3 = x at kx S2
      clear S
      go_wp2
      generalize wr.setCell ⟨w.heap.size + 2, 3, none⟩ (.int .i64 x) = w2 at *
      go_roundw
      case rel => exact ⟨3 + 1, by omega, by first | rfl | go_num, S2⟩
      case measure => simp [intOf]
    · have kx := S.out.1.c 4 _ rfl
      have ck := S.out.2.2.1.c 4 _ (mC_at X _ _ (by omega))
      have fk := S.out.2.2.1.f 4 (by rw [mC_len]; omega)
      have S2 := Lib.hid (S.out.step (by omega))
      generalize X 4 = x at kx S2
      clear S
      go_wp2
      generalize wr.setCell ⟨w.heap.size + 2, 4, none⟩ (.int .i64 x) = w2 at *
      go_roundw
      case rel => exact ⟨4 + 1, by omega, by first | rfl | go_num, S2⟩
      case measure => simp [intOf]
    · have kx := S.out.1.c 5 _ rfl
      have ck := S.out.2.2.1.c 5 _ (mC_at X _ _ (by omega))
      have fk := S.out.2.2.1.f 5 (by rw [mC_len]; omega)
      have S2 := Lib.hid (S.out.step (by omega))
      generalize X 5 = x at kx S2
      clear S
      go_wp2
      generalize wr.setCell ⟨w.heap.size + 2, 5, none⟩ (.int .i64 x) = w2 at *
      go_roundw
      case rel => exact ⟨5 + 1, by omega, by first | rfl | go_num, S2⟩
      case measure => simp [intOf]
    · have kx := S.out.1.c 6 _ rfl
      have ck := S.out.2.2.1.c 6 _ (mC_at X _ _ (by omega))
      have fk := S.out.2.2.1.f 6 (by rw [mC_len]; omega)
      have S2 := Lib.hid (S.out.step (by omega))
      generalize X 6 = x at kx S2
      clear S
      go_wp2
      generalize wr.setCell ⟨w.heap.size + 2, 6, none⟩ (.int .i64 x) = w2 at *
      go_roundw
      case rel => exact ⟨6 + 1, by omega, by first | rfl | go_num, S2⟩
      case measure => simp [intOf]
    · have kx := S.out.1.c 7 _ rfl
      have ck := S.out.2.2.1.c 7 _ (mC_at X _ _ (by omega))
      have fk := S.out.2.2.1.f 7 (by rw [mC_len]; omega)
      have S2 := Lib.hid (S.out.step (by omega))
      generalize X 7 = x at kx S2
      clear S
      go_wp2
      generalize wr.setCell ⟨w.heap.size + 2, 7, none⟩ (.int .i64 x) = w2 at *
      go_roundw
      case rel => exact ⟨7 + 1, by omega, by first | rfl | go_num, S2⟩
      case measure => simp [intOf]
    · have kx := S.out.1.c 8 _ rfl
      have ck := S.out.2.2.1.c 8 _ (mC_at X _ _ (by omega))
      have fk := S.out.2.2.1.f 8 (by rw [mC_len]; omega)
      have S2 := Lib.hid (S.out.step (by omega))
      generalize X 8 = x at kx S2
      clear S
      go_wp2
      generalize wr.setCell ⟨w.heap.size + 2, 8, none⟩ (.int .i64 x) = w2 at *
      go_roundw
      case rel => exact ⟨8 + 1, by omega, by first | rfl | go_num, S2⟩
      case measure => simp [intOf]
    · obtain ⟨hX, hR, hM, hb⟩ := S.out
      rw [mC_all] at hM
      obtain ⟨u9, e9, h9, b9⟩ := ml_laid hR rfl X
      have hb9 := Lib.hid (hb.trans (b9.mono (by omega)))
      replace e9 := Lib.hid e9
      obtain ⟨p0, q0⟩ := hR.one 0 rfl
      obtain ⟨p1, q1⟩ := hR.one 1 rfl
      obtain ⟨p2, q2⟩ := hR.one 2 rfl
      obtain ⟨p3, q3⟩ := hR.one 3 rfl
      obtain ⟨p4, q4⟩ := hR.one 4 rfl
      obtain ⟨p5, q5⟩ := hR.one 5 rfl
      obtain ⟨p6, q6⟩ := hR.one 6 rfl
      obtain ⟨p7, q7⟩ := hR.one 7 rfl
      obtain ⟨p8, q8⟩ := hR.one 8 rfl
      obtain ⟨c0, f0⟩ := hM.one 0 rfl
      obtain ⟨c1, f1⟩ := hM.one 1 rfl
      obtain ⟨c2, f2⟩ := hM.one 2 rfl
      obtain ⟨c3, f3⟩ := hM.one 3 rfl
      obtain ⟨c4, f4⟩ := hM.one 4 rfl
      obtain ⟨c5, f5⟩ := hM.one 5 rfl
      obtain ⟨c6, f6⟩ := hM.one 6 rfl
      obtain ⟨c7, f7⟩ := hM.one 7 rfl
      obtain ⟨c8, f8⟩ := hM.one 8 rfl
      clear S hX hR hM hb b9
      go_wp2
      rw [← e9.out]
      obtain ⟨y0, z0⟩ := h9.one 0 rfl
      obtain ⟨y1, z1⟩ := h9.one 1 rfl
      obtain ⟨y2, z2⟩ := h9.one 2 rfl
      obtain ⟨y3, z3⟩ := h9.one 3 rfl
      obtain ⟨y4, z4⟩ := h9.one 4 rfl
      obtain ⟨y5, z5⟩ := h9.one 5 rfl
      obtain ⟨y6, z6⟩ := h9.one 6 rfl
      obtain ⟨y7, z7⟩ := h9.one 7 rfl
      obtain ⟨y8, z8⟩ := h9.one 8 rfl
      exact bodyPost_ret (v := .agg #[.int .i64 (X 0), .int .i64 (X 1), .int .i64 (X 2), .int .i64 (X 3), .int .i64 (X 4), .int .i64 (X 5), .int .i64 (X 6), .int .i64 (X 7), .int .i64 (X 8)]) (by simp [results, Try.results30, go_sem, y0, y1, y2, y3, y4, y5, y6, y7, y8]) rfl ⟨rfl, hb9.out⟩
theorem rou_box (w : World) (A B : Nat → Int) : ∃ V, V = ((((w.alloc (.cells #[.int .i64 (A 0), .int .i64 (A 1), .int .i64 (A 2)] 70)).alloc (.cells #[.int .i64 (B 0), .int .i64 (B 1), .int .i64 (B 2)] 70)).alloc (.cells #[.int .i64 0, .int .i64 0, .int .i64 0, .int .i64 0, .int .i64 0, .int .i64 0, .int .i64 0, .int .i64 0, .int .i64 0] 74)).alloc (.cells #[.int .i64 0, .int .i64 0, .int .i64 0, .int .i64 0, .int .i64 0, .int .i64 0, .int .i64 0, .int .i64 0, .int .i64 0] 74)) ∧ Below w.heap.size w V ∧ Held w.heap.size [.int .i64 (A 0), .int .i64 (A 1), .int .i64 (A 2)] V ∧ Held (w.heap.size + 1) [.int .i64 (B 0), .int .i64 (B 1), .int .i64 (B 2)] V ∧ Held (w.heap.size + 2) [.int .i64 0, .int .i64 0, .int .i64 0, .int .i64 0, .int .i64 0, .int .i64 0, .int .i64 0, .int .i64 0, .int .i64 0] V ∧ Held (w.heap.size + 3) [.int .i64 0, .int .i64 0, .int .i64 0, .int .i64 0, .int .i64 0, .int .i64 0, .int .i64 0, .int .i64 0, .int .i64 0] V ∧ V.heap.size = w.heap.size + 4 := by
  refine ⟨_, rfl, (by repeat (first | exact Below.refl _ _ | assumption | apply Below.drew | apply below_drewN | (refine Below.alloc ?_ (by first | exact Nat.le_refl _ | omega | (simp <;> omega)) _) | (refine Below.setCell ?_ (by first | exact Nat.le_refl _ | omega | (simp <;> omega)) _))), ?_, ?_, ?_, ?_, by simp⟩
  · have := ((((Held.new w [.int .i64 (A 0), .int .i64 (A 1), .int .i64 (A 2)] 70).alloc (.cells #[.int .i64 (B 0), .int .i64 (B 1), .int .i64 (B 2)] 70)).alloc (.cells #[.int .i64 0, .int .i64 0, .int .i64 0, .int .i64 0, .int .i64 0, .int .i64 0, .int .i64 0, .int .i64 0, .int .i64 0] 74)).alloc (.cells #[.int .i64 0, .int .i64 0, .int .i64 0, .int .i64 0, .int .i64 0, .int .i64 0, .int .i64 0, .int .i64 0, .int .i64 0] 74))
    simpa using this
  · have := (((Held.new (w.alloc (.cells #[.int .i64 (A 0), .int .i64 (A 1), .int .i64 (A 2)] 70)) [.int .i64 (B 0), .int .i64 (B 1), .int .i64 (B 2)] 70).alloc (.cells #[.int .i64 0, .int .i64 0, .int .i64 0, .int .i64 0, .int .i64 0, .int .i64 0, .int .i64 0, .int .i64 0, .int .i64 0] 74)).alloc (.cells #[.int .i64 0, .int .i64 0, .int .i64 0, .int .i64 0, .int .i64 0, .int .i64 0, .int .i64 0, .int .i64 0, .int .i64 0] 74))
    simpa using this
  · have := ((Held.new ((w.alloc (.cells #[.int .i64 (A 0), .int .i64 (A 1), .int .i64 (A 2)] 70)).alloc (.cells #[.int .i64 (B 0), .int .i64 (B 1), .int .i64 (B 2)] 70)) [.int .i64 0, .int .i64 0, .int .i64 0, .int .i64 0, .int .i64 0, .int .i64 0, .int .i64 0, .int .i64 0, .int .i64 0] 74).alloc (.cells #[.int .i64 0, .int .i64 0, .int .i64 0, .int .i64 0, .int .i64 0, .int .i64 0, .int .i64 0, .int .i64 0, .int .i64 0] 74))
    simpa using this
  · have := (Held.new (((w.alloc (.cells #[.int .i64 (A 0), .int .i64 (A 1), .int .i64 (A 2)] 70)).alloc (.cells #[.int .i64 (B 0), .int .i64 (B 1), .int .i64 (B 2)] 70)).alloc (.cells #[.int .i64 0, .int .i64 0, .int .i64 0, .int .i64 0, .int .i64 0, .int .i64 0, .int .i64 0, .int .i64 0, .int .i64 0] 74)) [.int .i64 0, .int .i64 0, .int .i64 0, .int .i64 0, .int .i64 0, .int .i64 0, .int .i64 0, .int .i64 0, .int .i64 0] 74)
    simpa using this
def RouI (A B : Nat → Int) (w : World) (k : Nat) (u : World) : Prop := Held w.heap.size [.int .i64 (A 0), .int .i64 (A 1), .int .i64 (A 2)] u ∧ Held (w.heap.size + 1) [.int .i64 (B 0), .int .i64 (B 1), .int .i64 (B 2)] u ∧ Held (w.heap.size + 2) [.int .i64 0, .int .i64 0, .int .i64 0, .int .i64 0, .int .i64 0, .int .i64 0, .int .i64 0, .int .i64 0, .int .i64 0] u ∧ Held (w.heap.size + 3) (mC (out A B) k) u ∧ Below w.heap.size w u
theorem RouI.step {A B : Nat → Int} {w u : World} {k : Nat} (h : RouI A B w k u) (hk : k < 9) : RouI A B w (k + 1) (u.setCell ⟨w.heap.size + 3, k, none⟩ (.int .i64 (out A B k))) := by
  obtain ⟨h1, h2, h3, h4, h5⟩ := h
  have O : Only (w.heap.size + 3) u (u.setCell ⟨w.heap.size + 3, k, none⟩ (.int .i64 (out A B k))) := (Only.refl (w.heap.size + 3) u).setCell (p := ⟨w.heap.size + 3, k, none⟩) (.int .i64 (out A B k))
  exact ⟨h1.only O (by omega), h2.only O (by omega), h3.only O (by omega), mC_set (out A B) k hk ▸ h4.set k _ (by rw [mC_len]; exact hk), h5.trans (O.below (by omega))⟩
theorem RouI.bel {A B : Nat → Int} {w u u' : World} {k : Nat} (h : RouI A B w k u) (q : Below u.heap.size u u') : RouI A B w k u' := ⟨h.1.bel q, h.2.1.bel q, h.2.2.1.bel q, h.2.2.2.1.bel q, h.2.2.2.2.trans (q.mono h.2.2.2.2.size)⟩
theorem rde_box (w : World) (X : Nat → Int) : ∃ V, V = (w.alloc (.cells #[.int .i64 (X 0), .int .i64 (X 1), .int .i64 (X 2), .int .i64 (X 3), .int .i64 (X 4), .int .i64 (X 5), .int .i64 (X 6), .int .i64 (X 7), .int .i64 (X 8)] 74)) ∧ Below w.heap.size w V ∧ Held w.heap.size [.int .i64 (X 0), .int .i64 (X 1), .int .i64 (X 2), .int .i64 (X 3), .int .i64 (X 4), .int .i64 (X 5), .int .i64 (X 6), .int .i64 (X 7), .int .i64 (X 8)] V ∧ V.heap.size = w.heap.size + 1 := by
  refine ⟨_, rfl, (by repeat (first | exact Below.refl _ _ | assumption | apply Below.drew | apply below_drewN | (refine Below.alloc ?_ (by first | exact Nat.le_refl _ | omega | (simp <;> omega)) _) | (refine Below.setCell ?_ (by first | exact Nat.le_refl _ | omega | (simp <;> omega)) _))), ?_, by simp⟩
  · have := (Held.new w [.int .i64 (X 0), .int .i64 (X 1), .int .i64 (X 2), .int .i64 (X 3), .int .i64 (X 4), .int .i64 (X 5), .int .i64 (X 6), .int .i64 (X 7), .int .i64 (X 8)] 74)
    simpa using this
end Go.Proofs.Ytaijkngdelolgaa
