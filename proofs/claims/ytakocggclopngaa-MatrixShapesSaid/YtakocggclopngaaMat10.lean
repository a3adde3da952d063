/- The law's nine; the document's Outer, Mul, minus, Det. -/
import Derived.Test.YtakocggclopngaaMat9
namespace Go.Proofs.Ytakocggclopngaa
open Go.ChangeShapes Go.WideShapes Go.ChangeAt Go.RowKit
set_option linter.unusedVariables false
set_option linter.unusedSimpArgs false
theorem nin_box (w : World) (X : Nat → Int) : ∃ V, V = (((w.alloc (.cells #[.int .i64 (X 0), .int .i64 (X 1), .int .i64 (X 2), .int .i64 (X 3), .int .i64 (X 4), .int .i64 (X 5), .int .i64 (X 6), .int .i64 (X 7), .int .i64 (X 8)] 56)).alloc (.cells #[.int .i64 0, .int .i64 0, .int .i64 0, .int .i64 0, .int .i64 0, .int .i64 0, .int .i64 0, .int .i64 0, .int .i64 0] 58)).alloc (.cells #[.int .i64 0, .int .i64 0, .int .i64 0, .int .i64 0, .int .i64 0, .int .i64 0, .int .i64 0, .int .i64 0, .int .i64 0] 58)) ∧ Below w.heap.size w V ∧ Held w.heap.size [.int .i64 (X 0), .int .i64 (X 1), .int .i64 (X 2), .int .i64 (X 3), .int .i64 (X 4), .int .i64 (X 5), .int .i64 (X 6), .int .i64 (X 7), .int .i64 (X 8)] V ∧ Held (w.heap.size + 1) [.int .i64 0, .int .i64 0, .int .i64 0, .int .i64 0, .int .i64 0, .int .i64 0, .int .i64 0, .int .i64 0, .int .i64 0] V ∧ Held (w.heap.size + 2) [.int .i64 0, .int .i64 0, .int .i64 0, .int .i64 0, .int .i64 0, .int .i64 0, .int .i64 0, .int .i64 0, .int .i64 0] V ∧ V.heap.size = w.heap.size + 3 := by
  refine ⟨_, rfl, (by repeat (first | exact Below.refl _ _ | assumption | apply Below.drew | apply below_drewN | (refine Below.alloc ?_ (by first | exact Nat.le_refl _ | omega | (simp <;> omega)) _) | (refine Below.setCell ?_ (by first | exact Nat.le_refl _ | omega | (simp <;> omega)) _))), ?_, ?_, ?_, by simp⟩
  · have := (((Held.new w [.int .i64 (X 0), .int .i64 (X 1), .int .i64 (X 2), .int .i64 (X 3), .int .i64 (X 4), .int .i64 (X 5), .int .i64 (X 6), .int .i64 (X 7), .int .i64 (X 8)] 56).alloc (.cells #[.int .i64 0, .int .i64 0, .int .i64 0, .int .i64 0, .int .i64 0, .int .i64 0, .int .i64 0, .int .i64 0, .int .i64 0] 58)).alloc (.cells #[.int .i64 0, .int .i64 0, .int .i64 0, .int .i64 0, .int .i64 0, .int .i64 0, .int .i64 0, .int .i64 0, .int .i64 0] 58))
    simpa using this
  · have := ((Held.new (w.alloc (.cells #[.int .i64 (X 0), .int .i64 (X 1), .int .i64 (X 2), .int .i64 (X 3), .int .i64 (X 4), .int .i64 (X 5), .int .i64 (X 6), .int .i64 (X 7), .int .i64 (X 8)] 56)) [.int .i64 0, .int .i64 0, .int .i64 0, .int .i64 0, .int .i64 0, .int .i64 0, .int .i64 0, .int .i64 0, .int .i64 0] 58).alloc (.cells #[.int .i64 0, .int .i64 0, .int .i64 0, .int .i64 0, .int .i64 0, .int .i64 0, .int .i64 0, .int .i64 0, .int .i64 0] 58))
    simpa using this
  · have := (Held.new ((w.alloc (.cells #[.int .i64 (X 0), .int .i64 (X 1), .int .i64 (X 2), .int .i64 (X 3), .int .i64 (X 4), .int .i64 (X 5), .int .i64 (X 6), .int .i64 (X 7), .int .i64 (X 8)] 56)).alloc (.cells #[.int .i64 0, .int .i64 0, .int .i64 0, .int .i64 0, .int .i64 0, .int .i64 0, .int .i64 0, .int .i64 0, .int .i64 0] 58)) [.int .i64 0, .int .i64 0, .int .i64 0, .int .i64 0, .int .i64 0, .int .i64 0, .int .i64 0, .int .i64 0, .int .i64 0] 58)
    simpa using this
def NinI (X : Nat → Int) (w : World) (k : Nat) (u : World) : Prop := Held w.heap.size [.int .i64 (X 0), .int .i64 (X 1), .int .i64 (X 2), .int .i64 (X 3), .int .i64 (X 4), .int .i64 (X 5), .int .i64 (X 6), .int .i64 (X 7), .int .i64 (X 8)] u ∧ Held (w.heap.size + 1) [.int .i64 0, .int .i64 0, .int .i64 0, .int .i64 0, .int .i64 0, .int .i64 0, .int .i64 0, .int .i64 0, .int .i64 0] u ∧ Held (w.heap.size + 2) (mC X k) u ∧ Below w.heap.size w u
theorem NinI.step {X : Nat → Int} {w u : World} {k : Nat} (h : NinI X w k u) (hk : k < 9) : NinI X w (k + 1) (u.setCell ⟨w.heap.size + 2, k, none⟩ (.int .i64 (X k))) := by
  obtain ⟨h1, h2, h3, h4⟩ := h
  have O : Only (w.heap.size + 2) u (u.setCell ⟨w.heap.size + 2, k, none⟩ (.int .i64 (X k))) := (Only.refl (w.heap.size + 2) u).setCell (p := ⟨w.heap.size + 2, k, none⟩) (.int .i64 (X k))
  exact ⟨h1.only O (by omega), h2.only O (by omega), mC_set X k hk ▸ h3.set k _ (by rw [mC_len]; exact hk), h4.trans (O.below (by omega))⟩
set_option maxRecDepth 100000 in
set_option maxHeartbeats 8000000 in
theorem mnine (X : Nat → Int) (w : World) : Calls Try.prog 21 #[.agg #[.int .i64 (X 0), .int .i64 (X 1), .int .i64 (X 2), .int .i64 (X 3), .int .i64 (X 4), .int .i64 (X 5), .int .i64 (X 6), .int .i64 (X 7), .int .i64 (X 8)]] w fun e w' => e = .returned (.agg #[.int .i64 (X 0), .int .i64 (X 1), .int .i64 (X 2), .int .i64 (X 3), .int .i64 (X 4), .int .i64 (X 5), .int .i64 (X 6), .int .i64 (X 7), .int .i64 (X 8)]) ∧ Below w.heap.size w w' := by
  obtain ⟨V, eV, hb0, hX, hR, hM, hz⟩ := nin_box w X
  have S0 := Lib.hid (show NinI X w 0 V from ⟨hX, hR, by rw [mC_zero]; exact hM, hb0⟩)
  replace eV := Lib.hid eV
  clear hX hR hM hb0 hz
  go_enter Try.func21, Try.ntmps21
  go_upto_region 2 with (fail)
  rw [← eV.out]
  go_wp2_with fail
  go_loopw [4] (fun i u => ∃ k : Nat, k ≤ 9 ∧ i = .int .i64 (k : Int) ∧ Hid (NinI X w k u)) (fun i _ => 9 - (intOf i).toNat)
  case atStart => exact ⟨0, by omega, rfl, S0⟩
  case round =>
    clear S0
    obtain ⟨k, hk, rfl, S⟩ := hrel
    rcases (show k = 0 ∨ k = 1 ∨ k = 2 ∨ k = 3 ∨ k = 4 ∨ k = 5 ∨ k = 6 ∨ k = 7 ∨ k = 8 ∨ k = 9 by omega) with rfl | rfl | rfl | rfl | rfl | rfl | rfl | rfl | rfl | rfl
    · have kx := S.out.1.c 0 _ rfl
      have ck := S.out.2.2.1.c 0 _ (mC_at X _ _ (by omega))
      have fk := S.out.2.2.1.f 0 (by rw [mC_len]; omega)
      have S2 := Lib.hid (S.out.step (by omega))
      generalize X 0 = x at kx S2
      clear S
      go_wp2
      generalize wr.setCell ⟨w.heap.size + 2, 0, none⟩ (.int .i64 x) = w2 at *
      go_roundw
      case rel => exact ⟨0 + 1, by omega, by first | rfl | go_num, S2⟩
      case measure => simp [intOf]
    · have kx := S.out.1.c 1 _ rfl
      have ck := S.out.2.2.1.c 1 _ (mC_at X _ _ (by omega))
      have fk := S.out.2.2.1.f 1 (by rw [mC_len]; omega)
      have S2 := Lib.hid (S.out.step (by omega))
      generalize X 1 = x at kx S2
      clear S
      go_wp2
      generalize wr.setCell ⟨w.heap.size + 2, 1, none⟩ (.int .i64 x) = w2 at *
      go_roundw
      case rel => exact ⟨1 + 1, by omega, by first | rfl | go_num, S2⟩
      case measure => simp [intOf]
    · have kx := S.out.1.c 2 _ rfl
      have ck := S.out.2.2.1.c 2 _ (mC_at X _ _ (by omega))
      have fk := S.out.2.2.1.f 2 (by rw [mC_len]; omega)
      have S2 := Lib.hid (S.out.step (by omega))
      generalize X 2 = x at kx S2
      clear S
      go_wp2
      generalize wr.setCell ⟨w.heap.size + 2, 2, none⟩ (.int .i64 x) = w2 at *
      go_roundw
      case rel => exact ⟨2 + 1, by omega, by first | rfl | go_num, S2⟩
      case measure => simp [intOf]
    · have kx := S.out.1.c 3 _ rfl
      have ck := S.out.2.2.1.c 3 _ (mC_at X _ _ (by omega))
      have fk := S.out.2.2.1.f 3 (by rw [mC_len]; omega)
      have S2 := Lib.hid (S.out.step (by omega))
      generalize X 3 = x at kx S2
      clear S
      go_wp2
      generalize wr.setCell ⟨w.heap.size + 2, 3, none⟩ (.int .i64 x) = w2 at *
      go_roundw
      case rel => exact ⟨3 + 1, by omega, by first | rfl | go_num, S2⟩
      case measure => simp [intOf]
    · have kx := S.out.1.c 4 _ rfl
      have ck := S.out.2.2.1.c 4 _ (mC_at X _ _ (by omega))
      have fk := S.out.2.2.1.f 4 (by rw [mC_len]; omega)
      have S2 := Lib.hid (S.out.step (by omega))
      generalize X 4 = x at kx S2
      clear S
      go_wp2
      generalize wr.setCell ⟨w.heap.size + 2, 4, none⟩ (.int .i64 x) = w2 at *
      go_roundw
      case rel => exact ⟨4 + 1, by omega, by first | rfl | go_num, S2⟩
      case measure => simp [intOf]
    · have kx := S.out.1.c 5 _ rfl
      have ck := S.out.2.2.1.c 5 _ (mC_at X _ _ (by omega))
      have fk := S.out.2.2.1.f 5 (by rw [mC_len]; omega)
      have S2 := Lib.hid (S.out.step (by omega))
      generalize X 5 = x at kx S2
      clear S
      go_wp2
      generalize wr.setCell ⟨w.heap.size + 2, 5, none⟩ (.int .i64 x) = w2 at *
      go_roundw
      case rel => exact ⟨5 + 1, by omega, by first | rfl | go_num, S2⟩
      case measure => simp [intOf]
    · have kx := S.out.1.c 6 _ rfl
      have ck := S.out.2.2.1.c 6 _ (mC_at X _ _ (by omega))
      have fk := S.out.2.2.1.f 6 (by rw [mC_len]; omega)
      have S2 := Lib.hid (S.out.step (by omega))
      generalize X 6 = x at kx S2
      clear S
      go_wp2
      generalize wr.setCell ⟨w.heap.size + 2, 6, none⟩ (.int .i64 x) = w2 at *
      go_roundw
      case rel => exact ⟨6 + 1, by omega, by first | rfl | go_num, S2⟩
      case measure => simp [intOf]
    · have kx := S.out.1.c 7 _ rfl
      have ck := S.out.2.2.1.c 7 _ (mC_at X _ _ (by omega))
      have fk := S.out.2.2.1.f 7 (by rw [mC_len]; omega)
      have S2 := Lib.hid (S.out.step (by omega))
      generalize X 7 = x at kx S2
      clear S
      go_wp2
      generalize wr.setCell ⟨w.heap.size + 2, 7, none⟩ (.int .i64 x) = w2 at *
      go_roundw
      case rel => exact ⟨7 + 1, by omega, by first | rfl | go_num, S2⟩
      case measure => simp [intOf]
    · have kx := S.out.1.c 8 _ rfl
      have ck := S.out.2.2.1.c 8 _ (mC_at X _ _ (by omega))
      have fk := S.out.2.2.1.f 8 (by rw [mC_len]; omega)
      have S2 := Lib.hid (S.out.step (by omega))
      generalize X 8 = x at kx S2
      clear S
      go_wp2
      generalize wr.setCell ⟨w.heap.size + 2, 8, none⟩ (.int .i64 x) = w2 at *
      go_roundw
      case rel => exact ⟨8 + 1, by omega, by first | rfl | go_num, S2⟩
      case measure => simp [intOf]
    · obtain ⟨hX, hR, hM, hb⟩ := S.out
      rw [mC_all] at hM
      obtain ⟨u9, e9, h9, b9⟩ := ml_laid hR rfl X
      have hb9 := Lib.hid (hb.trans (b9.mono (by omega)))
      replace e9 := Lib.hid e9
      obtain ⟨p0, q0⟩ := hR.one 0 rfl
      obtain ⟨p1, q1⟩ := hR.one 1 rfl
      obtain ⟨p2, q2⟩ := hR.one 2 rfl
      obtain ⟨p3, q3⟩ := hR.one 3 rfl
      obtain ⟨p4, q4⟩ := hR.one 4 rfl
      obtain ⟨p5, q5⟩ := hR.one 5 rfl
      obtain ⟨p6, q6⟩ := hR.one 6 rfl
      obtain ⟨p7, q7⟩ := hR.one 7 rfl
      obtain ⟨p8, q8⟩ := hR.one 8 rfl
      obtain ⟨c0, f0⟩ := hM.one 0 rfl
      obtain ⟨c1, f1⟩ := hM.one 1 rfl
      obtain ⟨c2, f2⟩ := hM.one 2 rfl
      obtain ⟨c3, f3⟩ := hM.one 3 rfl
      obtain ⟨c4, f4⟩ := hM.one 4 rfl
      obtain ⟨c5, f5⟩ := hM.one 5 rfl
      obtain ⟨c6, f6⟩ := hM.one 6 rfl
      obtain ⟨c7, f7⟩ := hM.one 7 rfl
      obtain ⟨c8, f8⟩ := hM.one 8 rfl
      clear S hX hR hM hb b9
      go_wp2
      rw [← e9.out]
      obtain ⟨y0, z0⟩ := h9.one 0 rfl
      obtain ⟨y1, z1⟩ := h9.one 1 rfl
      obtain ⟨y2, z2⟩ := h9.one 2 rfl
      obtain ⟨y3, z3⟩ := h9.one 3 rfl
      obtain ⟨y4, z4⟩ := h9.one 4 rfl
      obtain ⟨y5, z5⟩ := h9.one 5 rfl
      obtain ⟨y6, z6⟩ := h9.one 6 rfl
      obtain ⟨y7, z7⟩ := h9.one 7 rfl
      obtain ⟨y8, z8⟩ := h9.one 8 rfl
      exact bodyPost_ret (v := .agg #[.int .i64 (X 0), .int .i64 (X 1), .int .i64 (X 2), .int .i64 (X 3), .int .i64 (X 4), .int .i64 (X 5), .int .i64 (X 6), .int .i64 (X 7), .int .i64 (X 8)]) (by simp [results, Try.results21, go_sem, y0, y1, y2, y3, y4, y5, y6, y7, y8]) rfl ⟨rfl, hb9.out⟩
theorem rou_box (w : World) (A B : Nat → Int) : ∃ V, V = ((((w.alloc (.cells #[.int .i64 (A 0), .int .i64 (A 1), .int .i64 (A 2)] 54)).alloc (.cells #[.int .i64 (B 0), .int .i64 (B 1), .int .i64 (B 2)] 54)).alloc (.cells #[.int .i64 0, .int .i64 0, .int .i64 0, .int .i64 0, .int .i64 0, .int .i64 0, .int .i64 0, .int .i64 0, .int .i64 0] 58)).alloc (.cells #[.int .i64 0, .int .i64 0, .int .i64 0, .int .i64 0, .int .i64 0, .int .i64 0, .int .i64 0, .int .i64 0, .int .i64 0] 58)) ∧ Below w.heap.size w V ∧ Held w.heap.size [.int .i64 (A 0), .int .i64 (A 1), .int .i64 (A 2)] V ∧ Held (w.heap.size + 1) [.int .i64 (B 0), .int .i64 (B 1), .int .i64 (B 2)] V ∧ Held (w.heap.size + 2) [.int .i64 0, .int .i64 0, .int .i64 0, .int .i64 0, .int .i64 0, .int .i64 0, .int .i64 0, .int .i64 0, .int .i64 0] V ∧ Held (w.heap.size + 3) [.int .i64 0, .int .i64 0, .int .i64 0, .int .i64 0, .int .i64 0, .int .i64 0, .int .i64 0, .int .i64 0, .int .i64 0] V ∧ V.heap.size = w.heap.size + 4 := by
  refine ⟨_, rfl, (by repeat (first | exact Below.refl _ _ | assumption | apply Below.drew | apply below_drewN | (refine Below.alloc ?_ (by first | exact Nat.le_refl _ | omega | (simp <;> omega)) _) | (refine Below.setCell ?_ (by first | exact Nat.le_refl _ | omega | (simp <;> omega)) _))), ?_, ?_, ?_, ?_, by simp⟩
  · have := ((((Held.new w [.int .i64 (A 0), .int .i64 (A 1), .int .i64 (A 2)] 54).alloc (.cells #[.int .i64 (B 0), .int .i64 (B 1), .int .i64 (B 2)] 54)).alloc (.cells #[.int .i64 0, .int .i64 0, .int .i64 0, .int .i64 0, .int .i64 0, .int .i64 0, .int .i64 0, .int .i64 0, .int .i64 0] 58)).alloc (.cells #[.int .i64 0, .int .i64 0, .int .i64 0, .int .i64 0, .int .i64 0, .int .i64 0, .int .i64 0, .int .i64 0, .int .i64 0] 58))
    simpa using this
  · have := (((Held.new (w.alloc (.cells #[.int .i64 (A 0), .int .i64 (A 1), .int .i64 (A 2)] 54)) [.int .i64 (B 0), .int .i64 (B 1), .int .i64 (B 2)] 54).alloc (.cells #[.int .i64 0, .int .i64 0, .int .i64 0, .int .i64 0, .int .i64 0, .int .i64 0, .int .i64 0, .int .i64 0, .int .i64 0] 58)).alloc (.cells #[.int .i64 0, .int .i64 0, .int .i64 0, .int .i64 0, .int .i64 0, .int .i64 0, .int .i64 0, .int .i64 0, .int .i64 0] 58))
    simpa using this
  · have := ((Held.new ((w.alloc (.cells #[.int .i64 (A 0), .int .i64 (A 1), .int .i64 (A 2)] 54)).alloc (.cells #[.int .i64 (B 0), .int .i64 (B 1), .int .i64 (B 2)] 54)) [.int .i64 0, .int .i64 0, .int .i64 0, .int .i64 0, .int .i64 0, .int .i64 0, .int .i64 0, .int .i64 0, .int .i64 0] 58).alloc (.cells #[.int .i64 0, .int .i64 0, .int .i64 0, .int .i64 0, .int .i64 0, .int .i64 0, .int .i64 0, .int .i64 0, .int .i64 0] 58))
    simpa using this
  · have := (Held.new (((w.alloc (.cells #[.int .i64 (A 0), .int .i64 (A 1), .int .i64 (A 2)] 54)).alloc (.cells #[.int .i64 (B 0), .int .i64 (B 1), .int .i64 (B 2)] 54)).alloc (.cells #[.int .i64 0, .int .i64 0, .int .i64 0, .int .i64 0, .int .i64 0, .int .i64 0, .int .i64 0, .int .i64 0, .int .i64 0] 58)) [.int .i64 0, .int .i64 0, .int .i64 0, .int .i64 0, .int .i64 0, .int .i64 0, .int .i64 0, .int .i64 0, .int .i64 0] 58)
    simpa using this
def RouI (A B : Nat → Int) (w : World) (k : Nat) (u : World) : Prop := Held w.heap.size [.int .i64 (A 0), .int .i64 (A 1), .int .i64 (A 2)] u ∧ Held (w.heap.size + 1) [.int .i64 (B 0), .int .i64 (B 1), .int .i64 (B 2)] u ∧ Held (w.heap.size + 2) [.int .i64 0, .int .i64 0, .int .i64 0, .int .i64 0, .int .i64 0, .int .i64 0, .int .i64 0, .int .i64 0, .int .i64 0] u ∧ Held (w.heap.size + 3) (mC (out A B) k) u ∧ Below w.heap.size w u
theorem RouI.step {A B : Nat → Int} {w u : World} {k : Nat} (h : RouI A B w k u) (hk : k < 9) : RouI A B w (k + 1) (u.setCell ⟨w.heap.size + 3, k, none⟩ (.int .i64 (out A B k))) := by
  obtain ⟨h1, h2, h3, h4, h5⟩ := h
  have O : Only (w.heap.size + 3) u (u.setCell ⟨w.heap.size + 3, k, none⟩ (.int .i64 (out A B k))) := (Only.refl (w.heap.size + 3) u).setCell (p := ⟨w.heap.size + 3, k, none⟩) (.int .i64 (out A B k))
  exact ⟨h1.only O (by omega), h2.only O (by omega), h3.only O (by omega), mC_set (out A B) k hk ▸ h4.set k _ (by rw [mC_len]; exact hk), h5.trans (O.below (by omega))⟩
theorem RouI.bel {A B : Nat → Int} {w u u' : World} {k : Nat} (h : RouI A B w k u) (q : Below u.heap.size u u') : RouI A B w k u' := ⟨h.1.bel q, h.2.1.bel q, h.2.2.1.bel q, h.2.2.2.1.bel q, h.2.2.2.2.trans (q.mono h.2.2.2.2.size)⟩
set_option maxRecDepth 100000 in
set_option maxHeartbeats 8000000 in
theorem router (A B : Nat → Int) (w : World) : Calls Try.prog 36 #[.agg #[.int .i64 (A 0), .int .i64 (A 1), .int .i64 (A 2)], .agg #[.int .i64 (B 0), .int .i64 (B 1), .int .i64 (B 2)]] w fun e w' => e = .returned (.agg #[.int .i64 ((out A B) 0), .int .i64 ((out A B) 1), .int .i64 ((out A B) 2), .int .i64 ((out A B) 3), .int .i64 ((out A B) 4), .int .i64 ((out A B) 5), .int .i64 ((out A B) 6), .int .i64 ((out A B) 7), .int .i64 ((out A B) 8)]) ∧ Below w.heap.size w w' := by
  obtain ⟨V, eV, hb0, hA, hB, hR, hM, hz⟩ := rou_box w A B
  have S0 := Lib.hid (show RouI A B w 0 V from ⟨hA, hB, hR, by rw [mC_zero]; exact hM, hb0⟩)
  replace eV := Lib.hid eV
  clear hA hB hR hM hb0 hz
  go_enter Try.func36, Try.ntmps36
  go_upto_region 2 with (fail)
  rw [← eV.out]
  go_wp2_with fail
  go_loopw [6] (fun i u => ∃ k : Nat, k ≤ 9 ∧ i = .int .i64 (k : Int) ∧ Hid (RouI A B w k u)) (fun i _ => 9 - (intOf i).toNat)
  case atStart => exact ⟨0, by omega, rfl, S0⟩
  case round =>
    clear S0
    obtain ⟨k, hk, rfl, S⟩ := hrel
    rcases (show k = 0 ∨ k = 1 ∨ k = 2 ∨ k = 3 ∨ k = 4 ∨ k = 5 ∨ k = 6 ∨ k = 7 ∨ k = 8 ∨ k = 9 by omega) with rfl | rfl | rfl | rfl | rfl | rfl | rfl | rfl | rfl | rfl
    · have k0 : IntKind.i64.wrap 0 = 0 := by decide
      have c0 := S.out.1.c 0 _ rfl
      have c1 := S.out.2.1.c 0 _ rfl
      have TT := Lib.hid (fun u => show Calls Try.prog 28 #[.int .i64 (A 0), .int .i64 (B 0)] u fun e w' => e = .returned (.int .i64 (out A B 0)) ∧ Below u.heap.size u w' from rtimes (A 0) (B 0) u)
      go_wp2_with fail
      refine region_moves (fun u => u.cell? ⟨w.heap.size, 0, none⟩ = some (.int .i64 (A 0)) ∧ u.cell? ⟨w.heap.size + 1, 0, none⟩ = some (.int .i64 (B 0))) [(11, [(10, 11), (9, 11), (0, 11), (1, 11), (2, 11), (3, 11), (4, 11), (5, 11), (6, 11), (7, 11), (8, 11)])] [(.free, 0), (.free, 1), (.free, 2), (.free, 3), (.take, 4), (.free, 5), (.free, 6), (.free, 7), (.take, 8), (.step, 9), (.free, 10), (.late, 11)] _ (by kernel_rfl) (by kernel_rfl) (by kernel_rfl) (by kernel_rfl) (by decide) rfl (fun _ _ _ _ _ h => h) ?_
      simp only [List.filterMap_cons, List.filterMap_nil, List.getElem?_toArray, List.getElem?_cons_zero, List.getElem?_cons_succ, Option.map_some]
      iterate 4
        first
          | (refine mv_free ?_ (Or.inl ⟨by rfl, ?_⟩) (⟨c0, c1⟩) ?_
             rotate_left 1
             · intro u
               go_simp
               try simp only [d1]
               try simp only [d2]
               try simp only [d3]
               try with_reducible rfl
             simp only [Act.put, List.setIfInBounds_toArray, List.set_cons_zero, List.set_cons_succ])
          | (refine mv_free _ (Or.inr ⟨by rfl, rfl⟩) (⟨c0, c1⟩) ?_
             simp only [Act.put, List.setIfInBounds_toArray, List.set_cons_zero, List.set_cons_succ])
      iterate 1
        first
          | (refine mv_take ?_ (Or.inl ⟨by rfl, ?_⟩) (⟨c0, c1⟩) ?_
             rotate_left 1
             · intro u hu
               (try dsimp only at hu)
               go_simp
               try with_reducible rfl
             simp only [Act.put, List.setIfInBounds_toArray, List.set_cons_zero, List.set_cons_succ])
          | (refine mv_take _ (Or.inr ⟨by rfl, rfl⟩) (⟨c0, c1⟩) ?_
             simp only [Act.put, List.setIfInBounds_toArray, List.set_cons_zero, List.set_cons_succ])
      iterate 3
        first
          | (refine mv_free ?_ (Or.inl ⟨by rfl, ?_⟩) (⟨c0, c1⟩) ?_
             rotate_left 1
             · intro u
               go_simp
               try simp only [d1]
               try simp only [d2]
               try simp only [d3]
               try with_reducible rfl
             simp only [Act.put, List.setIfInBounds_toArray, List.set_cons_zero, List.set_cons_succ])
          | (refine mv_free _ (Or.inr ⟨by rfl, rfl⟩) (⟨c0, c1⟩) ?_
             simp only [Act.put, List.setIfInBounds_toArray, List.set_cons_zero, List.set_cons_succ])
      iterate 1
        first
          | (refine mv_take ?_ (Or.inl ⟨by rfl, ?_⟩) (⟨c0, c1⟩) ?_
             rotate_left 1
             · intro u hu
               (try dsimp only at hu)
               go_simp
               try with_reducible rfl
             simp only [Act.put, List.setIfInBounds_toArray, List.set_cons_zero, List.set_cons_succ])
          | (refine mv_take _ (Or.inr ⟨by rfl, rfl⟩) (⟨c0, c1⟩) ?_
             simp only [Act.put, List.setIfInBounds_toArray, List.set_cons_zero, List.set_cons_succ])
      refine mv_step (fun K hK => ?_)
      go_simp
      refine (TT.out _).mono ?_
      rintro e w1 ⟨rfl, hb1⟩
      have S1 := S.out.bel ((Below.refl _ _).drew.trans hb1)
      replace c0 := S1.1.c 0 _ rfl
      replace c1 := S1.2.1.c 0 _ rfl
      have ck := S1.2.2.2.1.c 0 _ (mC_at (out A B) _ _ (by omega))
      have fk := S1.2.2.2.1.f 0 (by rw [mC_len]; omega)
      have S2 := Lib.hid (S1.step (by omega))
      generalize out A B 0 = x at *
      clear S S1 hb1 TT
      go_wp2_with fail
      refine hK.out _ _ _ (fun u hu => hu) (⟨c0, c1⟩) ?_
      clear hK K
      iterate 1
        first
          | (refine mv_free ?_ (Or.inl ⟨by rfl, ?_⟩) (⟨c0, c1⟩) ?_
             rotate_left 1
             · intro u
               go_simp
               try simp only [d1]
               try simp only [d2]
               try simp only [d3]
               try with_reducible rfl
             simp only [Act.put, List.setIfInBounds_toArray, List.set_cons_zero, List.set_cons_succ])
          | (refine mv_free _ (Or.inr ⟨by rfl, rfl⟩) (⟨c0, c1⟩) ?_
             simp only [Act.put, List.setIfInBounds_toArray, List.set_cons_zero, List.set_cons_succ])
      refine mv_late (fun K hK => ?_)
      go_simp
      refine hK.out (fun _ => True) _ _ ?_
      clear hK K
      refine mv_done ?_
      generalize w1.setCell ⟨w.heap.size + 3, 0, none⟩ (.int .i64 x) = w2 at *
      go_wp2
      go_roundw
      case rel => exact ⟨0 + 1, by omega, by first | rfl | go_num, S2⟩
      case measure => simp [intOf]
    · have k0 : IntKind.i64.wrap 0 = 0 := by decide
      have k1 : IntKind.i64.wrap 1 = 1 := by decide
      have c0 := S.out.1.c 0 _ rfl
      have c1 := S.out.2.1.c 1 _ rfl
      have TT := Lib.hid (fun u => show Calls Try.prog 28 #[.int .i64 (A 0), .int .i64 (B 1)] u fun e w' => e = .returned (.int .i64 (out A B 1)) ∧ Below u.heap.size u w' from rtimes (A 0) (B 1) u)
      go_wp2_with fail
      refine region_moves (fun u => u.cell? ⟨w.heap.size, 0, none⟩ = some (.int .i64 (A 0)) ∧ u.cell? ⟨w.heap.size + 1, 1, none⟩ = some (.int .i64 (B 1))) [(11, [(10, 11), (9, 11), (0, 11), (1, 11), (2, 11), (3, 11), (4, 11), (5, 11), (6, 11), (7, 11), (8, 11)])] [(.free, 0), (.free, 1), (.free, 2), (.free, 3), (.take, 4), (.free, 5), (.free, 6), (.free, 7), (.take, 8), (.step, 9), (.free, 10), (.late, 11)] _ (by kernel_rfl) (by kernel_rfl) (by kernel_rfl) (by kernel_rfl) (by decide) rfl (fun _ _ _ _ _ h => h) ?_
      simp only [List.filterMap_cons, List.filterMap_nil, List.getElem?_toArray, List.getElem?_cons_zero, List.getElem?_cons_succ, Option.map_some]
      iterate 4
        first
          | (refine mv_free ?_ (Or.inl ⟨by rfl, ?_⟩) (⟨c0, c1⟩) ?_
             rotate_left 1
             · intro u
               go_simp
               try simp only [d1]
               try simp only [d2]
               try simp only [d3]
               try with_reducible rfl
             simp only [Act.put, List.setIfInBounds_toArray, List.set_cons_zero, List.set_cons_succ])
          | (refine mv_free _ (Or.inr ⟨by rfl, rfl⟩) (⟨c0, c1⟩) ?_
             simp only [Act.put, List.setIfInBounds_toArray, List.set_cons_zero, List.set_cons_succ])
      iterate 1
        first
          | (refine mv_take ?_ (Or.inl ⟨by rfl, ?_⟩) (⟨c0, c1⟩) ?_
             rotate_left 1
             · intro u hu
               (try dsimp only at hu)
               go_simp
               try with_reducible rfl
             simp only [Act.put, List.setIfInBounds_toArray, List.set_cons_zero, List.set_cons_succ])
          | (refine mv_take _ (Or.inr ⟨by rfl, rfl⟩) (⟨c0, c1⟩) ?_
             simp only [Act.put, List.setIfInBounds_toArray, List.set_cons_zero, List.set_cons_succ])
      iterate 3
        first
          | (refine mv_free ?_ (Or.inl ⟨by rfl, ?_⟩) (⟨c0, c1⟩) ?_
             rotate_left 1
             · intro u
               go_simp
               try simp only [d1]
               try simp only [d2]
               try simp only [d3]
               try with_reducible rfl
             simp only [Act.put, List.setIfInBounds_toArray, List.set_cons_zero, List.set_cons_succ])
          | (refine mv_free _ (Or.inr ⟨by rfl, rfl⟩) (⟨c0, c1⟩) ?_
             simp only [Act.put, List.setIfInBounds_toArray, List.set_cons_zero, List.set_cons_succ])
      iterate 1
        first
          | (refine mv_take ?_ (Or.inl ⟨by rfl, ?_⟩) (⟨c0, c1⟩) ?_
             rotate_left 1
             · intro u hu
               (try dsimp only at hu)
               go_simp
               try with_reducible rfl
             simp only [Act.put, List.setIfInBounds_toArray, List.set_cons_zero, List.set_cons_succ])
          | (refine mv_take _ (Or.inr ⟨by rfl, rfl⟩) (⟨c0, c1⟩) ?_
             simp only [Act.put, List.setIfInBounds_toArray, List.set_cons_zero, List.set_cons_succ])
      refine mv_step (fun K hK => ?_)
      go_simp
      refine (TT.out _).mono ?_
      rintro e w1 ⟨rfl, hb1⟩
      have S1 := S.out.bel ((Below.refl _ _).drew.trans hb1)
      replace c0 := S1.1.c 0 _ rfl
      replace c1 := S1.2.1.c 1 _ rfl
      have ck := S1.2.2.2.1.c 1 _ (mC_at (out A B) _ _ (by omega))
      have fk := S1.2.2.2.1.f 1 (by rw [mC_len]; omega)
      have S2 := Lib.hid (S1.step (by omega))
      generalize out A B 1 = x at *
      clear S S1 hb1 TT
      go_wp2_with fail
      refine hK.out _ _ _ (fun u hu => hu) (⟨c0, c1⟩) ?_
      clear hK K
      iterate 1
        first
          | (refine mv_free ?_ (Or.inl ⟨by rfl, ?_⟩) (⟨c0, c1⟩) ?_
             rotate_left 1
             · intro u
               go_simp
               try simp only [d1]
               try simp only [d2]
               try simp only [d3]
               try with_reducible rfl
             simp only [Act.put, List.setIfInBounds_toArray, List.set_cons_zero, List.set_cons_succ])
          | (refine mv_free _ (Or.inr ⟨by rfl, rfl⟩) (⟨c0, c1⟩) ?_
             simp only [Act.put, List.setIfInBounds_toArray, List.set_cons_zero, List.set_cons_succ])
      refine mv_late (fun K hK => ?_)
      go_simp
      refine hK.out (fun _ => True) _ _ ?_
      clear hK K
      refine mv_done ?_
      generalize w1.setCell ⟨w.heap.size + 3, 1, none⟩ (.int .i64 x) = w2 at *
      go_wp2
      go_roundw
      case rel => exact ⟨1 + 1, by omega, by first | rfl | go_num, S2⟩
      case measure => simp [intOf]
    · have k0 : IntKind.i64.wrap 0 = 0 := by decide
      have k2 : IntKind.i64.wrap 2 = 2 := by decide
      have c0 := S.out.1.c 0 _ rfl
      have c1 := S.out.2.1.c 2 _ rfl
      have TT := Lib.hid (fun u => show Calls Try.prog 28 #[.int .i64 (A 0), .int .i64 (B 2)] u fun e w' => e = .returned (.int .i64 (out A B 2)) ∧ Below u.heap.size u w' from rtimes (A 0) (B 2) u)
      go_wp2_with fail
      refine region_moves (fun u => u.cell? ⟨w.heap.size, 0, none⟩ = some (.int .i64 (A 0)) ∧ u.cell? ⟨w.heap.size + 1, 2, none⟩ = some (.int .i64 (B 2))) [(11, [(10, 11), (9, 11), (0, 11), (1, 11), (2, 11), (3, 11), (4, 11), (5, 11), (6, 11), (7, 11), (8, 11)])] [(.free, 0), (.free, 1), (.free, 2), (.free, 3), (.take, 4), (.free, 5), (.free, 6), (.free, 7), (.take, 8), (.step, 9), (.free, 10), (.late, 11)] _ (by kernel_rfl) (by kernel_rfl) (by kernel_rfl) (by kernel_rfl) (by decide) rfl (fun _ _ _ _ _ h => h) ?_
      simp only [List.filterMap_cons, List.filterMap_nil, List.getElem?_toArray, List.getElem?_cons_zero, List.getElem?_cons_succ, Option.map_some]
      iterate 4
        first
          | (refine mv_free ?_ (Or.inl ⟨by rfl, ?_⟩) (⟨c0, c1⟩) ?_
             rotate_left 1
             · intro u
               go_simp
               try simp only [d1]
               try simp only [d2]
               try simp only [d3]
               try with_reducible rfl
             simp only [Act.put, List.setIfInBounds_toArray, List.set_cons_zero, List.set_cons_succ])
          | (refine mv_free _ (Or.inr ⟨by rfl, rfl⟩) (⟨c0, c1⟩) ?_
             simp only [Act.put, List.setIfInBounds_toArray, List.set_cons_zero, List.set_cons_succ])
      iterate 1
        first
          | (refine mv_take ?_ (Or.inl ⟨by rfl, ?_⟩) (⟨c0, c1⟩) ?_
             rotate_left 1
             · intro u hu
               (try dsimp only at hu)
               go_simp
               try with_reducible rfl
             simp only [Act.put, List.setIfInBounds_toArray, List.set_cons_zero, List.set_cons_succ])
          | (refine mv_take _ (Or.inr ⟨by rfl, rfl⟩) (⟨c0, c1⟩) ?_
             simp only [Act.put, List.setIfInBounds_toArray, List.set_cons_zero, List.set_cons_succ])
      iterate 3
        first
          | (refine mv_free ?_ (Or.inl ⟨by rfl, ?_⟩) (⟨c0, c1⟩) ?_
             rotate_left 1
             · intro u
               go_simp
               try simp only [d1]
               try simp only [d2]
               try simp only [d3]
               try with_reducible rfl
             simp only [Act.put, List.setIfInBounds_toArray, List.set_cons_zero, List.set_cons_succ])
          | (refine mv_free _ (Or.inr ⟨by rfl, rfl⟩) (⟨c0, c1⟩) ?_
             simp only [Act.put, List.setIfInBounds_toArray, List.set_cons_zero, List.set_cons_succ])
      iterate 1
        first
          | (refine mv_take ?_ (Or.inl ⟨by rfl, ?_⟩) (⟨c0, c1⟩) ?_
             rotate_left 1
             · intro u hu
               (try dsimp only at hu)
               go_simp
               try with_reducible rfl
             simp only [Act.put, List.setIfInBounds_toArray, List.set_cons_zero, List.set_cons_succ])
          | (refine mv_take _ (Or.inr ⟨by rfl, rfl⟩) (⟨c0, c1⟩) ?_
             simp only [Act.put, List.setIfInBounds_toArray, List.set_cons_zero, List.set_cons_succ])
      refine mv_step (fun K hK => ?_)
      go_simp
      refine (TT.out _).mono ?_
      rintro e w1 ⟨rfl, hb1⟩
      have S1 := S.out.bel ((Below.refl _ _).drew.trans hb1)
      replace c0 := S1.1.c 0 _ rfl
      replace c1 := S1.2.1.c 2 _ rfl
      have ck := S1.2.2.2.1.c 2 _ (mC_at (out A B) _ _ (by omega))
      have fk := S1.2.2.2.1.f 2 (by rw [mC_len]; omega)
      have S2 := Lib.hid (S1.step (by omega))
      generalize out A B 2 = x at *
      clear S S1 hb1 TT
      go_wp2_with fail
      refine hK.out _ _ _ (fun u hu => hu) (⟨c0, c1⟩) ?_
      clear hK K
      iterate 1
        first
          | (refine mv_free ?_ (Or.inl ⟨by rfl, ?_⟩) (⟨c0, c1⟩) ?_
             rotate_left 1
             · intro u
               go_simp
               try simp only [d1]
               try simp only [d2]
               try simp only [d3]
               try with_reducible rfl
             simp only [Act.put, List.setIfInBounds_toArray, List.set_cons_zero, List.set_cons_succ])
          | (refine mv_free _ (Or.inr ⟨by rfl, rfl⟩) (⟨c0, c1⟩) ?_
             simp only [Act.put, List.setIfInBounds_toArray, List.set_cons_zero, List.set_cons_succ])
      refine mv_late (fun K hK => ?_)
      go_simp
      refine hK.out (fun _ => True) _ _ ?_
      clear hK K
      refine mv_done ?_
      generalize w1.setCell ⟨w.heap.size + 3, 2, none⟩ (.int .i64 x) = w2 at *
      go_wp2
      go_roundw
      case rel => exact ⟨2 + 1, by omega, by first | rfl | go_num, S2⟩
      case measure => simp [intOf]
    · have k0 : IntKind.i64.wrap 0 = 0 := by decide
      have k1 : IntKind.i64.wrap 1 = 1 := by decide
      have k3 : IntKind.i64.wrap 3 = 3 := by decide
      have c0 := S.out.1.c 1 _ rfl
      have c1 := S.out.2.1.c 0 _ rfl
      have TT := Lib.hid (fun u => show Calls Try.prog 28 #[.int .i64 (A 1), .int .i64 (B 0)] u fun e w' => e = .returned (.int .i64 (out A B 3)) ∧ Below u.heap.size u w' from rtimes (A 1) (B 0) u)
      go_wp2_with fail
      refine region_moves (fun u => u.cell? ⟨w.heap.size, 1, none⟩ = some (.int .i64 (A 1)) ∧ u.cell? ⟨w.heap.size + 1, 0, none⟩ = some (.int .i64 (B 0))) [(11, [(10, 11), (9, 11), (0, 11), (1, 11), (2, 11), (3, 11), (4, 11), (5, 11), (6, 11), (7, 11), (8, 11)])] [(.free, 0), (.free, 1), (.free, 2), (.free, 3), (.take, 4), (.free, 5), (.free, 6), (.free, 7), (.take, 8), (.step, 9), (.free, 10), (.late, 11)] _ (by kernel_rfl) (by kernel_rfl) (by kernel_rfl) (by kernel_rfl) (by decide) rfl (fun _ _ _ _ _ h => h) ?_
      simp only [List.filterMap_cons, List.filterMap_nil, List.getElem?_toArray, List.getElem?_cons_zero, List.getElem?_cons_succ, Option.map_some]
      iterate 4
        first
          | (refine mv_free ?_ (Or.inl ⟨by rfl, ?_⟩) (⟨c0, c1⟩) ?_
             rotate_left 1
             · intro u
               go_simp
               try simp only [d1]
               try simp only [d2]
               try simp only [d3]
               try with_reducible rfl
             simp only [Act.put, List.setIfInBounds_toArray, List.set_cons_zero, List.set_cons_succ])
          | (refine mv_free _ (Or.inr ⟨by rfl, rfl⟩) (⟨c0, c1⟩) ?_
             simp only [Act.put, List.setIfInBounds_toArray, List.set_cons_zero, List.set_cons_succ])
      iterate 1
        first
          | (refine mv_take ?_ (Or.inl ⟨by rfl, ?_⟩) (⟨c0, c1⟩) ?_
             rotate_left 1
             · intro u hu
               (try dsimp only at hu)
               go_simp
               try with_reducible rfl
             simp only [Act.put, List.setIfInBounds_toArray, List.set_cons_zero, List.set_cons_succ])
          | (refine mv_take _ (Or.inr ⟨by rfl, rfl⟩) (⟨c0, c1⟩) ?_
             simp only [Act.put, List.setIfInBounds_toArray, List.set_cons_zero, List.set_cons_succ])
      iterate 3
        first
          | (refine mv_free ?_ (Or.inl ⟨by rfl, ?_⟩) (⟨c0, c1⟩) ?_
             rotate_left 1
             · intro u
               go_simp
               try simp only [d1]
               try simp only [d2]
               try simp only [d3]
               try with_reducible rfl
             simp only [Act.put, List.setIfInBounds_toArray, List.set_cons_zero, List.set_cons_succ])
          | (refine mv_free _ (Or.inr ⟨by rfl, rfl⟩) (⟨c0, c1⟩) ?_
             simp only [Act.put, List.setIfInBounds_toArray, List.set_cons_zero, List.set_cons_succ])
      iterate 1
        first
          | (refine mv_take ?_ (Or.inl ⟨by rfl, ?_⟩) (⟨c0, c1⟩) ?_
             rotate_left 1
             · intro u hu
               (try dsimp only at hu)
               go_simp
               try with_reducible rfl
             simp only [Act.put, List.setIfInBounds_toArray, List.set_cons_zero, List.set_cons_succ])
          | (refine mv_take _ (Or.inr ⟨by rfl, rfl⟩) (⟨c0, c1⟩) ?_
             simp only [Act.put, List.setIfInBounds_toArray, List.set_cons_zero, List.set_cons_succ])
      refine mv_step (fun K hK => ?_)
      go_simp
      refine (TT.out _).mono ?_
      rintro e w1 ⟨rfl, hb1⟩
      have S1 := S.out.bel ((Below.refl _ _).drew.trans hb1)
      replace c0 := S1.1.c 1 _ rfl
      replace c1 := S1.2.1.c 0 _ rfl
      have ck := S1.2.2.2.1.c 3 _ (mC_at (out A B) _ _ (by omega))
      have fk := S1.2.2.2.1.f 3 (by rw [mC_len]; omega)
      have S2 := Lib.hid (S1.step (by omega))
      generalize out A B 3 = x at *
      clear S S1 hb1 TT
      go_wp2_with fail
      refine hK.out _ _ _ (fun u hu => hu) (⟨c0, c1⟩) ?_
      clear hK K
      iterate 1
        first
          | (refine mv_free ?_ (Or.inl ⟨by rfl, ?_⟩) (⟨c0, c1⟩) ?_
             rotate_left 1
             · intro u
               go_simp
               try simp only [d1]
               try simp only [d2]
               try simp only [d3]
               try with_reducible rfl
             simp only [Act.put, List.setIfInBounds_toArray, List.set_cons_zero, List.set_cons_succ])
          | (refine mv_free _ (Or.inr ⟨by rfl, rfl⟩) (⟨c0, c1⟩) ?_
             simp only [Act.put, List.setIfInBounds_toArray, List.set_cons_zero, List.set_cons_succ])
      refine mv_late (fun K hK => ?_)
      go_simp
      refine hK.out (fun _ => True) _ _ ?_
      clear hK K
      refine mv_done ?_
      generalize w1.setCell ⟨w.heap.size + 3, 3, none⟩ (.int .i64 x) = w2 at *
      go_wp2
      go_roundw
      case rel => exact ⟨3 + 1, by omega, by first | rfl | go_num, S2⟩
      case measure => simp [intOf]
    · have k1 : IntKind.i64.wrap 1 = 1 := by decide
      have k4 : IntKind.i64.wrap 4 = 4 := by decide
      have c0 := S.out.1.c 1 _ rfl
      have c1 := S.out.2.1.c 1 _ rfl
      have TT := Lib.hid (fun u => show Calls Try.prog 28 #[.int .i64 (A 1), .int .i64 (B 1)] u fun e w' => e = .returned (.int .i64 (out A B 4)) ∧ Below u.heap.size u w' from rtimes (A 1) (B 1) u)
      go_wp2_with fail
      refine region_moves (fun u => u.cell? ⟨w.heap.size, 1, none⟩ = some (.int .i64 (A 1)) ∧ u.cell? ⟨w.heap.size + 1, 1, none⟩ = some (.int .i64 (B 1))) [(11, [(10, 11), (9, 11), (0, 11), (1, 11), (2, 11), (3, 11), (4, 11), (5, 11), (6, 11), (7, 11), (8, 11)])] [(.free, 0), (.free, 1), (.free, 2), (.free, 3), (.take, 4), (.free, 5), (.free, 6), (.free, 7), (.take, 8), (.step, 9), (.free, 10), (.late, 11)] _ (by kernel_rfl) (by kernel_rfl) (by kernel_rfl) (by kernel_rfl) (by decide) rfl (fun _ _ _ _ _ h => h) ?_
      simp only [List.filterMap_cons, List.filterMap_nil, List.getElem?_toArray, List.getElem?_cons_zero, List.getElem?_cons_succ, Option.map_some]
      iterate 4
        first
          | (refine mv_free ?_ (Or.inl ⟨by rfl, ?_⟩) (⟨c0, c1⟩) ?_
             rotate_left 1
             · intro u
               go_simp
               try simp only [d1]
               try simp only [d2]
               try simp only [d3]
               try with_reducible rfl
             simp only [Act.put, List.setIfInBounds_toArray, List.set_cons_zero, List.set_cons_succ])
          | (refine mv_free _ (Or.inr ⟨by rfl, rfl⟩) (⟨c0, c1⟩) ?_
             simp only [Act.put, List.setIfInBounds_toArray, List.set_cons_zero, List.set_cons_succ])
      iterate 1
        first
          | (refine mv_take ?_ (Or.inl ⟨by rfl, ?_⟩) (⟨c0, c1⟩) ?_
             rotate_left 1
             · intro u hu
               (try dsimp only at hu)
               go_simp
               try with_reducible rfl
             simp only [Act.put, List.setIfInBounds_toArray, List.set_cons_zero, List.set_cons_succ])
          | (refine mv_take _ (Or.inr ⟨by rfl, rfl⟩) (⟨c0, c1⟩) ?_
             simp only [Act.put, List.setIfInBounds_toArray, List.set_cons_zero, List.set_cons_succ])
      iterate 3
        first
          | (refine mv_free ?_ (Or.inl ⟨by rfl, ?_⟩) (⟨c0, c1⟩) ?_
             rotate_left 1
             · intro u
               go_simp
               try simp only [d1]
               try simp only [d2]
               try simp only [d3]
               try with_reducible rfl
             simp only [Act.put, List.setIfInBounds_toArray, List.set_cons_zero, List.set_cons_succ])
          | (refine mv_free _ (Or.inr ⟨by rfl, rfl⟩) (⟨c0, c1⟩) ?_
             simp only [Act.put, List.setIfInBounds_toArray, List.set_cons_zero, List.set_cons_succ])
      iterate 1
        first
          | (refine mv_take ?_ (Or.inl ⟨by rfl, ?_⟩) (⟨c0, c1⟩) ?_
             rotate_left 1
             · intro u hu
               (try dsimp only at hu)
               go_simp
               try with_reducible rfl
             simp only [Act.put, List.setIfInBounds_toArray, List.set_cons_zero, List.set_cons_succ])
          | (refine mv_take _ (Or.inr ⟨by rfl, rfl⟩) (⟨c0, c1⟩) ?_
             simp only [Act.put, List.setIfInBounds_toArray, List.set_cons_zero, List.set_cons_succ])
      refine mv_step (fun K hK => ?_)
      go_simp
      refine (TT.out _).mono ?_
      rintro e w1 ⟨rfl, hb1⟩
      have S1 := S.out.bel ((Below.refl _ _).drew.trans hb1)
      replace c0 := S1.1.c 1 _ rfl
      replace c1 := S1.2.1.c 1 _ rfl
      have ck := S1.2.2.2.1.c 4 _ (mC_at (out A B) _ _ (by omega))
      have fk := S1.2.2.2.1.f 4 (by rw [mC_len]; omega)
      have S2 := Lib.hid (S1.step (by omega))
      generalize out A B 4 = x at *
      clear S S1 hb1 TT
      go_wp2_with fail
      refine hK.out _ _ _ (fun u hu => hu) (⟨c0, c1⟩) ?_
      clear hK K
      iterate 1
        first
          | (refine mv_free ?_ (Or.inl ⟨by rfl, ?_⟩) (⟨c0, c1⟩) ?_
             rotate_left 1
             · intro u
               go_simp
               try simp only [d1]
               try simp only [d2]
               try simp only [d3]
               try with_reducible rfl
             simp only [Act.put, List.setIfInBounds_toArray, List.set_cons_zero, List.set_cons_succ])
          | (refine mv_free _ (Or.inr ⟨by rfl, rfl⟩) (⟨c0, c1⟩) ?_
             simp only [Act.put, List.setIfInBounds_toArray, List.set_cons_zero, List.set_cons_succ])
      refine mv_late (fun K hK => ?_)
      go_simp
      refine hK.out (fun _ => True) _ _ ?_
      clear hK K
      refine mv_done ?_
      generalize w1.setCell ⟨w.heap.size + 3, 4, none⟩ (.int .i64 x) = w2 at *
      go_wp2
      go_roundw
      case rel => exact ⟨4 + 1, by omega, by first | rfl | go_num, S2⟩
      case measure => simp [intOf]
    · have k1 : IntKind.i64.wrap 1 = 1 := by decide
      have k2 : IntKind.i64.wrap 2 = 2 := by decide
      have k5 : IntKind.i64.wrap 5 = 5 := by decide
      have c0 := S.out.1.c 1 _ rfl
      have c1 := S.out.2.1.c 2 _ rfl
      have TT := Lib.hid (fun u => show Calls Try.prog 28 #[.int .i64 (A 1), .int .i64 (B 2)] u fun e w' => e = .returned (.int .i64 (out A B 5)) ∧ Below u.heap.size u w' from rtimes (A 1) (B 2) u)
      go_wp2_with fail
      refine region_moves (fun u => u.cell? ⟨w.heap.size, 1, none⟩ = some (.int .i64 (A 1)) ∧ u.cell? ⟨w.heap.size + 1, 2, none⟩ = some (.int .i64 (B 2))) [(11, [(10, 11), (9, 11), (0, 11), (1, 11), (2, 11), (3, 11), (4, 11), (5, 11), (6, 11), (7, 11), (8, 11)])] [(.free, 0), (.free, 1), (.free, 2), (.free, 3), (.take, 4), (.free, 5), (.free, 6), (.free, 7), (.take, 8), (.step, 9), (.free, 10), (.late, 11)] _ (by kernel_rfl) (by kernel_rfl) (by kernel_rfl) (by kernel_rfl) (by decide) rfl (fun _ _ _ _ _ h => h) ?_
      simp only [List.filterMap_cons, List.filterMap_nil, List.getElem?_toArray, List.getElem?_cons_zero, List.getElem?_cons_succ, Option.map_some]
      iterate 4
        first
          | (refine mv_free ?_ (Or.inl ⟨by rfl, ?_⟩) (⟨c0, c1⟩) ?_
             rotate_left 1
             · intro u
               go_simp
               try simp only [d1]
               try simp only [d2]
               try simp only [d3]
               try with_reducible rfl
             simp only [Act.put, List.setIfInBounds_toArray, List.set_cons_zero, List.set_cons_succ])
          | (refine mv_free _ (Or.inr ⟨by rfl, rfl⟩) (⟨c0, c1⟩) ?_
             simp only [Act.put, List.setIfInBounds_toArray, List.set_cons_zero, List.set_cons_succ])
      iterate 1
        first
          | (refine mv_take ?_ (Or.inl ⟨by rfl, ?_⟩) (⟨c0, c1⟩) ?_
             rotate_left 1
             · intro u hu
               (try dsimp only at hu)
               go_simp
               try with_reducible rfl
             simp only [Act.put, List.setIfInBounds_toArray, List.set_cons_zero, List.set_cons_succ])
          | (refine mv_take _ (Or.inr ⟨by rfl, rfl⟩) (⟨c0, c1⟩) ?_
             simp only [Act.put, List.setIfInBounds_toArray, List.set_cons_zero, List.set_cons_succ])
      iterate 3
        first
          | (refine mv_free ?_ (Or.inl ⟨by rfl, ?_⟩) (⟨c0, c1⟩) ?_
             rotate_left 1
             · intro u
               go_simp
               try simp only [d1]
               try simp only [d2]
               try simp only [d3]
               try with_reducible rfl
             simp only [Act.put, List.setIfInBounds_toArray, List.set_cons_zero, List.set_cons_succ])
          | (refine mv_free _ (Or.inr ⟨by rfl, rfl⟩) (⟨c0, c1⟩) ?_
             simp only [Act.put, List.setIfInBounds_toArray, List.set_cons_zero, List.set_cons_succ])
      iterate 1
        first
          | (refine mv_take ?_ (Or.inl ⟨by rfl, ?_⟩) (⟨c0, c1⟩) ?_
             rotate_left 1
             · intro u hu
               (try dsimp only at hu)
               go_simp
               try with_reducible rfl
             simp only [Act.put, List.setIfInBounds_toArray, List.set_cons_zero, List.set_cons_succ])
          | (refine mv_take _ (Or.inr ⟨by rfl, rfl⟩) (⟨c0, c1⟩) ?_
             simp only [Act.put, List.setIfInBounds_toArray, List.set_cons_zero, List.set_cons_succ])
      refine mv_step (fun K hK => ?_)
      go_simp
      refine (TT.out _).mono ?_
      rintro e w1 ⟨rfl, hb1⟩
      have S1 := S.out.bel ((Below.refl _ _).drew.trans hb1)
      replace c0 := S1.1.c 1 _ rfl
      replace c1 := S1.2.1.c 2 _ rfl
      have ck := S1.2.2.2.1.c 5 _ (mC_at (out A B) _ _ (by omega))
      have fk := S1.2.2.2.1.f 5 (by rw [mC_len]; omega)
      have S2 := Lib.hid (S1.step (by omega))
      generalize out A B 5 = x at *
      clear S S1 hb1 TT
      go_wp2_with fail
      refine hK.out _ _ _ (fun u hu => hu) (⟨c0, c1⟩) ?_
      clear hK K
      iterate 1
        first
          | (refine mv_free ?_ (Or.inl ⟨by rfl, ?_⟩) (⟨c0, c1⟩) ?_
             rotate_left 1
             · intro u
               go_simp
               try simp only [d1]
               try simp only [d2]
               try simp only [d3]
               try with_reducible rfl
             simp only [Act.put, List.setIfInBounds_toArray, List.set_cons_zero, List.set_cons_succ])
          | (refine mv_free _ (Or.inr ⟨by rfl, rfl⟩) (⟨c0, c1⟩) ?_
             simp only [Act.put, List.setIfInBounds_toArray, List.set_cons_zero, List.set_cons_succ])
      refine mv_late (fun K hK => ?_)
      go_simp
      refine hK.out (fun _ => True) _ _ ?_
      clear hK K
      refine mv_done ?_
      generalize w1.setCell ⟨w.heap.size + 3, 5, none⟩ (.int .i64 x) = w2 at *
      go_wp2
      go_roundw
      case rel => exact ⟨5 + 1, by omega, by first | rfl | go_num, S2⟩
      case measure => simp [intOf]
    · have k0 : IntKind.i64.wrap 0 = 0 := by decide
      have k2 : IntKind.i64.wrap 2 = 2 := by decide
      have k6 : IntKind.i64.wrap 6 = 6 := by decide
      have c0 := S.out.1.c 2 _ rfl
      have c1 := S.out.2.1.c 0 _ rfl
      have TT := Lib.hid (fun u => show Calls Try.prog 28 #[.int .i64 (A 2), .int .i64 (B 0)] u fun e w' => e = .returned (.int .i64 (out A B 6)) ∧ Below u.heap.size u w' from rtimes (A 2) (B 0) u)
      go_wp2_with fail
      refine region_moves (fun u => u.cell? ⟨w.heap.size, 2, none⟩ = some (.int .i64 (A 2)) ∧ u.cell? ⟨w.heap.size + 1, 0, none⟩ = some (.int .i64 (B 0))) [(11, [(10, 11), (9, 11), (0, 11), (1, 11), (2, 11), (3, 11), (4, 11), (5, 11), (6, 11), (7, 11), (8, 11)])] [(.free, 0), (.free, 1), (.free, 2), (.free, 3), (.take, 4), (.free, 5), (.free, 6), (.free, 7), (.take, 8), (.step, 9), (.free, 10), (.late, 11)] _ (by kernel_rfl) (by kernel_rfl) (by kernel_rfl) (by kernel_rfl) (by decide) rfl (fun _ _ _ _ _ h => h) ?_
      simp only [List.filterMap_cons, List.filterMap_nil, List.getElem?_toArray, List.getElem?_cons_zero, List.getElem?_cons_succ, Option.map_some]
      iterate 4
        first
          | (refine mv_free ?_ (Or.inl ⟨by rfl, ?_⟩) (⟨c0, c1⟩) ?_
             rotate_left 1
             · intro u
               go_simp
               try simp only [d1]
               try simp only [d2]
               try simp only [d3]
               try with_reducible rfl
             simp only [Act.put, List.setIfInBounds_toArray, List.set_cons_zero, List.set_cons_succ])
          | (refine mv_free _ (Or.inr ⟨by rfl, rfl⟩) (⟨c0, c1⟩) ?_
             simp only [Act.put, List.setIfInBounds_toArray, List.set_cons_zero, List.set_cons_succ])
      iterate 1
        first
          | (refine mv_take ?_ (Or.inl ⟨by rfl, ?_⟩) (⟨c0, c1⟩) ?_
             rotate_left 1
             · intro u hu
               (try dsimp only at hu)
               go_simp
               try with_reducible rfl
             simp only [Act.put, List.setIfInBounds_toArray, List.set_cons_zero, List.set_cons_succ])
          | (refine mv_take _ (Or.inr ⟨by rfl, rfl⟩) (⟨c0, c1⟩) ?_
             simp only [Act.put, List.setIfInBounds_toArray, List.set_cons_zero, List.set_cons_succ])
      iterate 3
        first
          | (refine mv_free ?_ (Or.inl ⟨by rfl, ?_⟩) (⟨c0, c1⟩) ?_
             rotate_left 1
             · intro u
               go_simp
               try simp only [d1]
               try simp only [d2]
               try simp only [d3]
               try with_reducible rfl
             simp only [Act.put, List.setIfInBounds_toArray, List.set_cons_zero, List.set_cons_succ])
          | (refine mv_free _ (Or.inr ⟨by rfl, rfl⟩) (⟨c0, c1⟩) ?_
             simp only [Act.put, List.setIfInBounds_toArray, List.set_cons_zero, List.set_cons_succ])
      iterate 1
        first
          | (refine mv_take ?_ (Or.inl ⟨by rfl, ?_⟩) (⟨c0, c1⟩) ?_
             rotate_left 1
             · intro u hu
               (try dsimp only at hu)
               go_simp
               try with_reducible rfl
             simp only [Act.put, List.setIfInBounds_toArray, List.set_cons_zero, List.set_cons_succ])
          | (refine mv_take _ (Or.inr ⟨by rfl, rfl⟩) (⟨c0, c1⟩) ?_
             simp only [Act.put, List.setIfInBounds_toArray, List.set_cons_zero, List.set_cons_succ])
      refine mv_step (fun K hK => ?_)
      go_simp
      refine (TT.out _).mono ?_
      rintro e w1 ⟨rfl, hb1⟩
      have S1 := S.out.bel ((Below.refl _ _).drew.trans hb1)
      replace c0 := S1.1.c 2 _ rfl
      replace c1 := S1.2.1.c 0 _ rfl
      have ck := S1.2.2.2.1.c 6 _ (mC_at (out A B) _ _ (by omega))
      have fk := S1.2.2.2.1.f 6 (by rw [mC_len]; omega)
      have S2 := Lib.hid (S1.step (by omega))
      generalize out A B 6 = x at *
      clear S S1 hb1 TT
      go_wp2_with fail
      refine hK.out _ _ _ (fun u hu => hu) (⟨c0, c1⟩) ?_
      clear hK K
      iterate 1
        first
          | (refine mv_free ?_ (Or.inl ⟨by rfl, ?_⟩) (⟨c0, c1⟩) ?_
             rotate_left 1
             · intro u
               go_simp
               try simp only [d1]
               try simp only [d2]
               try simp only [d3]
               try with_reducible rfl
             simp only [Act.put, List.setIfInBounds_toArray, List.set_cons_zero, List.set_cons_succ])
          | (refine mv_free _ (Or.inr ⟨by rfl, rfl⟩) (⟨c0, c1⟩) ?_
             simp only [Act.put, List.setIfInBounds_toArray, List.set_cons_zero, List.set_cons_succ])
      refine mv_late (fun K hK => ?_)
      go_simp
      refine hK.out (fun _ => True) _ _ ?_
      clear hK K
      refine mv_done ?_
      generalize w1.setCell ⟨w.heap.size + 3, 6, none⟩ (.int .i64 x) = w2 at *
      go_wp2
      go_roundw
      case rel => exact ⟨6 + 1, by omega, by first | rfl | go_num, S2⟩
      case measure => simp [intOf]
    · have k1 : IntKind.i64.wrap 1 = 1 := by decide
      have k2 : IntKind.i64.wrap 2 = 2 := by decide
      have k7 : IntKind.i64.wrap 7 = 7 := by decide
      have c0 := S.out.1.c 2 _ rfl
      have c1 := S.out.2.1.c 1 _ rfl
      have TT := Lib.hid (fun u => show Calls Try.prog 28 #[.int .i64 (A 2), .int .i64 (B 1)] u fun e w' => e = .returned (.int .i64 (out A B 7)) ∧ Below u.heap.size u w' from rtimes (A 2) (B 1) u)
      go_wp2_with fail
      refine region_moves (fun u => u.cell? ⟨w.heap.size, 2, none⟩ = some (.int .i64 (A 2)) ∧ u.cell? ⟨w.heap.size + 1, 1, none⟩ = some (.int .i64 (B 1))) [(11, [(10, 11), (9, 11), (0, 11), (1, 11), (2, 11), (3, 11), (4, 11), (5, 11), (6, 11), (7, 11), (8, 11)])] [(.free, 0), (.free, 1), (.free, 2), (.free, 3), (.take, 4), (.free, 5), (.free, 6), (.free, 7), (.take, 8), (.step, 9), (.free, 10), (.late, 11)] _ (by kernel_rfl) (by kernel_rfl) (by kernel_rfl) (by kernel_rfl) (by decide) rfl (fun _ _ _ _ _ h => h) ?_
      simp only [List.filterMap_cons, List.filterMap_nil, List.getElem?_toArray, List.getElem?_cons_zero, List.getElem?_cons_succ, Option.map_some]
      iterate 4
        first
          | (refine mv_free ?_ (Or.inl ⟨by rfl, ?_⟩) (⟨c0, c1⟩) ?_
             rotate_left 1
             · intro u
               go_simp
               try simp only [d1]
               try simp only [d2]
               try simp only [d3]
               try with_reducible rfl
             simp only [Act.put, List.setIfInBounds_toArray, List.set_cons_zero, List.set_cons_succ])
          | (refine mv_free _ (Or.inr ⟨by rfl, rfl⟩) (⟨c0, c1⟩) ?_
             simp only [Act.put, List.setIfInBounds_toArray, List.set_cons_zero, List.set_cons_succ])
      iterate 1
        first
          | (refine mv_take ?_ (Or.inl ⟨by rfl, ?_⟩) (⟨c0, c1⟩) ?_
             rotate_left 1
             · intro u hu
               (try dsimp only at hu)
               go_simp
               try with_reducible rfl
             simp only [Act.put, List.setIfInBounds_toArray, List.set_cons_zero, List.set_cons_succ])
          | (refine mv_take _ (Or.inr ⟨by rfl, rfl⟩) (⟨c0, c1⟩) ?_
             simp only [Act.put, List.setIfInBounds_toArray, List.set_cons_zero, List.set_cons_succ])
      iterate 3
        first
          | (refine mv_free ?_ (Or.inl ⟨by rfl, ?_⟩) (⟨c0, c1⟩) ?_
             rotate_left 1
             · intro u
               go_simp
               try simp only [d1]
               try simp only [d2]
               try simp only [d3]
               try with_reducible rfl
             simp only [Act.put, List.setIfInBounds_toArray, List.set_cons_zero, List.set_cons_succ])
          | (refine mv_free _ (Or.inr ⟨by rfl, rfl⟩) (⟨c0, c1⟩) ?_
             simp only [Act.put, List.setIfInBounds_toArray, List.set_cons_zero, List.set_cons_succ])
      iterate 1
        first
          | (refine mv_take ?_ (Or.inl ⟨by rfl, ?_⟩) (⟨c0, c1⟩) ?_
             rotate_left 1
             · intro u hu
               (try dsimp only at hu)
               go_simp
               try with_reducible rfl
             simp only [Act.put, List.setIfInBounds_toArray, List.set_cons_zero, List.set_cons_succ])
          | (refine mv_take _ (Or.inr ⟨by rfl, rfl⟩) (⟨c0, c1⟩) ?_
             simp only [Act.put, List.setIfInBounds_toArray, List.set_cons_zero, List.set_cons_succ])
      refine mv_step (fun K hK => ?_)
      go_simp
      refine (TT.out _).mono ?_
      rintro e w1 ⟨rfl, hb1⟩
      have S1 := S.out.bel ((Below.refl _ _).drew.trans hb1)
      replace c0 := S1.1.c 2 _ rfl
      replace c1 := S1.2.1.c 1 _ rfl
      have ck := S1.2.2.2.1.c 7 _ (mC_at (out A B) _ _ (by omega))
      have fk := S1.2.2.2.1.f 7 (by rw [mC_len]; omega)
      have S2 := Lib.hid (S1.step (by omega))
      generalize out A B 7 = x at *
      clear S S1 hb1 TT
      go_wp2_with fail
      refine hK.out _ _ _ (fun u hu => hu) (⟨c0, c1⟩) ?_
      clear hK K
      iterate 1
        first
          | (refine mv_free ?_ (Or.inl ⟨by rfl, ?_⟩) (⟨c0, c1⟩) ?_
             rotate_left 1
             · intro u
               go_simp
               try simp only [d1]
               try simp only [d2]
               try simp only [d3]
               try with_reducible rfl
             simp only [Act.put, List.setIfInBounds_toArray, List.set_cons_zero, List.set_cons_succ])
          | (refine mv_free _ (Or.inr ⟨by rfl, rfl⟩) (⟨c0, c1⟩) ?_
             simp only [Act.put, List.setIfInBounds_toArray, List.set_cons_zero, List.set_cons_succ])
      refine mv_late (fun K hK => ?_)
      go_simp
      refine hK.out (fun _ => True) _ _ ?_
      clear hK K
      refine mv_done ?_
      generalize w1.setCell ⟨w.heap.size + 3, 7, none⟩ (.int .i64 x) = w2 at *
      go_wp2
      go_roundw
      case rel => exact ⟨7 + 1, by omega, by first | rfl | go_num, S2⟩
      case measure => simp [intOf]
    · have k2 : IntKind.i64.wrap 2 = 2 := by decide
      have k8 : IntKind.i64.wrap 8 = 8 := by decide
      have c0 := S.out.1.c 2 _ rfl
      have c1 := S.out.2.1.c 2 _ rfl
      have TT := Lib.hid (fun u => show Calls Try.prog 28 #[.int .i64 (A 2), .int .i64 (B 2)] u fun e w' => e = .returned (.int .i64 (out A B 8)) ∧ Below u.heap.size u w' from rtimes (A 2) (B 2) u)
      go_wp2_with fail
      refine region_moves (fun u => u.cell? ⟨w.heap.size, 2, none⟩ = some (.int .i64 (A 2)) ∧ u.cell? ⟨w.heap.size + 1, 2, none⟩ = some (.int .i64 (B 2))) [(11, [(10, 11), (9, 11), (0, 11), (1, 11), (2, 11), (3, 11), (4, 11), (5, 11), (6, 11), (7, 11), (8, 11)])] [(.free, 0), (.free, 1), (.free, 2), (.free, 3), (.take, 4), (.free, 5), (.free, 6), (.free, 7), (.take, 8), (.step, 9), (.free, 10), (.late, 11)] _ (by kernel_rfl) (by kernel_rfl) (by kernel_rfl) (by kernel_rfl) (by decide) rfl (fun _ _ _ _ _ h => h) ?_
      simp only [List.filterMap_cons, List.filterMap_nil, List.getElem?_toArray, List.getElem?_cons_zero, List.getElem?_cons_succ, Option.map_some]
      iterate 4
        first
          | (refine mv_free ?_ (Or.inl ⟨by rfl, ?_⟩) (⟨c0, c1⟩) ?_
             rotate_left 1
             · intro u
               go_simp
               try simp only [d1]
               try simp only [d2]
               try simp only [d3]
               try with_reducible rfl
             simp only [Act.put, List.setIfInBounds_toArray, List.set_cons_zero, List.set_cons_succ])
          | (refine mv_free _ (Or.inr ⟨by rfl, rfl⟩) (⟨c0, c1⟩) ?_
             simp only [Act.put, List.setIfInBounds_toArray, List.set_cons_zero, List.set_cons_succ])
      iterate 1
        first
          | (refine mv_take ?_ (Or.inl ⟨by rfl, ?_⟩) (⟨c0, c1⟩) ?_
             rotate_left 1
             · intro u hu
               (try dsimp only at hu)
               go_simp
               try with_reducible rfl
             simp only [Act.put, List.setIfInBounds_toArray, List.set_cons_zero, List.set_cons_succ])
          | (refine mv_take _ (Or.inr ⟨by rfl, rfl⟩) (⟨c0, c1⟩) ?_
             simp only [Act.put, List.setIfInBounds_toArray, List.set_cons_zero, List.set_cons_succ])
      iterate 3
        first
          | (refine mv_free ?_ (Or.inl ⟨by rfl, ?_⟩) (⟨c0, c1⟩) ?_
             rotate_left 1
             · intro u
               go_simp
               try simp only [d1]
               try simp only [d2]
               try simp only [d3]
               try with_reducible rfl
             simp only [Act.put, List.setIfInBounds_toArray, List.set_cons_zero, List.set_cons_succ])
          | (refine mv_free _ (Or.inr ⟨by rfl, rfl⟩) (⟨c0, c1⟩) ?_
             simp only [Act.put, List.setIfInBounds_toArray, List.set_cons_zero, List.set_cons_succ])
      iterate 1
        first
          | (refine mv_take ?_ (Or.inl ⟨by rfl, ?_⟩) (⟨c0, c1⟩) ?_
             rotate_left 1
             · intro u hu
               (try dsimp only at hu)
               go_simp
               try with_reducible rfl
             simp only [Act.put, List.setIfInBounds_toArray, List.set_cons_zero, List.set_cons_succ])
          | (refine mv_take _ (Or.inr ⟨by rfl, rfl⟩) (⟨c0, c1⟩) ?_
             simp only [Act.put, List.setIfInBounds_toArray, List.set_cons_zero, List.set_cons_succ])
      refine mv_step (fun K hK => ?_)
      go_simp
      refine (TT.out _).mono ?_
      rintro e w1 ⟨rfl, hb1⟩
      have S1 := S.out.bel ((Below.refl _ _).drew.trans hb1)
      replace c0 := S1.1.c 2 _ rfl
      replace c1 := S1.2.1.c 2 _ rfl
      have ck := S1.2.2.2.1.c 8 _ (mC_at (out A B) _ _ (by omega))
      have fk := S1.2.2.2.1.f 8 (by rw [mC_len]; omega)
      have S2 := Lib.hid (S1.step (by omega))
      generalize out A B 8 = x at *
      clear S S1 hb1 TT
      go_wp2_with fail
      refine hK.out _ _ _ (fun u hu => hu) (⟨c0, c1⟩) ?_
      clear hK K
      iterate 1
        first
          | (refine mv_free ?_ (Or.inl ⟨by rfl, ?_⟩) (⟨c0, c1⟩) ?_
             rotate_left 1
             · intro u
               go_simp
               try simp only [d1]
               try simp only [d2]
               try simp only [d3]
               try with_reducible rfl
             simp only [Act.put, List.setIfInBounds_toArray, List.set_cons_zero, List.set_cons_succ])
          | (refine mv_free _ (Or.inr ⟨by rfl, rfl⟩) (⟨c0, c1⟩) ?_
             simp only [Act.put, List.setIfInBounds_toArray, List.set_cons_zero, List.set_cons_succ])
      refine mv_late (fun K hK => ?_)
      go_simp
      refine hK.out (fun _ => True) _ _ ?_
      clear hK K
      refine mv_done ?_
      generalize w1.setCell ⟨w.heap.size + 3, 8, none⟩ (.int .i64 x) = w2 at *
      go_wp2
      go_roundw
      case rel => exact ⟨8 + 1, by omega, by first | rfl | go_num, S2⟩
      case measure => simp [intOf]
    · obtain ⟨hA, hB, hR, hM, hb⟩ := S.out
      rw [mC_all] at hM
      obtain ⟨u9, e9, h9, b9⟩ := ml_laid hR rfl (out A B)
      have hb9 := Lib.hid (hb.trans (b9.mono (by omega)))
      replace e9 := Lib.hid e9
      obtain ⟨p0, q0⟩ := hR.one 0 rfl
      obtain ⟨p1, q1⟩ := hR.one 1 rfl
      obtain ⟨p2, q2⟩ := hR.one 2 rfl
      obtain ⟨p3, q3⟩ := hR.one 3 rfl
      obtain ⟨p4, q4⟩ := hR.one 4 rfl
      obtain ⟨p5, q5⟩ := hR.one 5 rfl
      obtain ⟨p6, q6⟩ := hR.one 6 rfl
      obtain ⟨p7, q7⟩ := hR.one 7 rfl
      obtain ⟨p8, q8⟩ := hR.one 8 rfl
      obtain ⟨c0, f0⟩ := hM.one 0 rfl
      obtain ⟨c1, f1⟩ := hM.one 1 rfl
      obtain ⟨c2, f2⟩ := hM.one 2 rfl
      obtain ⟨c3, f3⟩ := hM.one 3 rfl
      obtain ⟨c4, f4⟩ := hM.one 4 rfl
      obtain ⟨c5, f5⟩ := hM.one 5 rfl
      obtain ⟨c6, f6⟩ := hM.one 6 rfl
      obtain ⟨c7, f7⟩ := hM.one 7 rfl
      obtain ⟨c8, f8⟩ := hM.one 8 rfl
      clear S hA hB hR hM hb b9
      go_wp2
      rw [← e9.out]
      obtain ⟨y0, z0⟩ := h9.one 0 rfl
      obtain ⟨y1, z1⟩ := h9.one 1 rfl
      obtain ⟨y2, z2⟩ := h9.one 2 rfl
      obtain ⟨y3, z3⟩ := h9.one 3 rfl
      obtain ⟨y4, z4⟩ := h9.one 4 rfl
      obtain ⟨y5, z5⟩ := h9.one 5 rfl
      obtain ⟨y6, z6⟩ := h9.one 6 rfl
      obtain ⟨y7, z7⟩ := h9.one 7 rfl
      obtain ⟨y8, z8⟩ := h9.one 8 rfl
      exact bodyPost_ret (v := .agg #[.int .i64 ((out A B) 0), .int .i64 ((out A B) 1), .int .i64 ((out A B) 2), .int .i64 ((out A B) 3), .int .i64 ((out A B) 4), .int .i64 ((out A B) 5), .int .i64 ((out A B) 6), .int .i64 ((out A B) 7), .int .i64 ((out A B) 8)]) (by simp [results, Try.results36, go_sem, y0, y1, y2, y3, y4, y5, y6, y7, y8]) rfl ⟨rfl, hb9.out⟩
theorem rdot' (a0 a1 a2 b0 b1 b2 : Int) (w : World) : Calls Try.prog 33 #[.agg #[.int .i64 a0, .int .i64 a1, .int .i64 a2], .agg #[.int .i64 b0, .int .i64 b1, .int .i64 b2]] w fun e w' => e = .returned (.int .i64 (clp (prd a0 b0 + prd a1 b1 + prd a2 b2))) ∧ Below w.heap.size w w' :=
  rdot (fun t => match t with | 0 => a0 | 1 => a1 | _ => a2) (fun t => match t with | 0 => b0 | 1 => b1 | _ => b2) w
set_option maxRecDepth 100000 in
set_option maxHeartbeats 8000000 in
theorem rminus (a b c d : Int) (w : World) : Calls Try.prog 94 #[.int .i64 a, .int .i64 b, .int .i64 c, .int .i64 d] w fun e w' => e = .returned (.int .i64 (clp (prd a b - prd c d))) ∧ Below w.heap.size w w' := by
  have b1 := prd_bd a b
  have b2 := prd_bd c d
  have T1 := Lib.hid (fun u => rtimes a b u)
  have T2 := Lib.hid (fun u => rtimes c d u)
  have CC := Lib.hid (fun u => rclip_any (prd a b - prd c d) u)
  generalize prd a b = x at *
  generalize prd c d = y at *
  have z1 : IntKind.i64.wrap (x - y) = x - y := by rw [IntKind.wrap_i64]; omega
  generalize clp (x - y) = r at *
  go_enter Try.func94, Try.ntmps94
  go_wp2_with fail
  refine (T1.out _).mono ?_
  rintro e w1 ⟨rfl, hb1⟩
  go_wp2_with fail
  refine (T2.out _).mono ?_
  rintro e w2 ⟨rfl, hb2⟩
  go_wp2_with fail
  refine (CC.out _).mono ?_
  rintro e w' ⟨rfl, rfl⟩
  go_wp2
  go_ret
  exact ⟨rfl, hb1.trans (hb2.mono hb1.size)⟩
theorem rde_box (w : World) (X : Nat → Int) : ∃ V, V = (w.alloc (.cells #[.int .i64 (X 0), .int .i64 (X 1), .int .i64 (X 2), .int .i64 (X 3), .int .i64 (X 4), .int .i64 (X 5), .int .i64 (X 6), .int .i64 (X 7), .int .i64 (X 8)] 58)) ∧ Below w.heap.size w V ∧ Held w.heap.size [.int .i64 (X 0), .int .i64 (X 1), .int .i64 (X 2), .int .i64 (X 3), .int .i64 (X 4), .int .i64 (X 5), .int .i64 (X 6), .int .i64 (X 7), .int .i64 (X 8)] V ∧ V.heap.size = w.heap.size + 1 := by
  refine ⟨_, rfl, (by repeat (first | exact Below.refl _ _ | assumption | apply Below.drew | apply below_drewN | (refine Below.alloc ?_ (by first | exact Nat.le_refl _ | omega | (simp <;> omega)) _) | (refine Below.setCell ?_ (by first | exact Nat.le_refl _ | omega | (simp <;> omega)) _))), ?_, by simp⟩
  · have := (Held.new w [.int .i64 (X 0), .int .i64 (X 1), .int .i64 (X 2), .int .i64 (X 3), .int .i64 (X 4), .int .i64 (X 5), .int .i64 (X 6), .int .i64 (X 7), .int .i64 (X 8)] 58)
    simpa using this
set_option maxRecDepth 100000 in
set_option maxHeartbeats 8000000 in
theorem rdet (X : Nat → Int) (w : World) : Calls Try.prog 41 #[.agg #[.int .i64 (X 0), .int .i64 (X 1), .int .i64 (X 2), .int .i64 (X 3), .int .i64 (X 4), .int .i64 (X 5), .int .i64 (X 6), .int .i64 (X 7), .int .i64 (X 8)]] w fun e w' => e = .returned (.int .i64 (det X)) ∧ Below w.heap.size w w' := by
  obtain ⟨V, eV, hb0, hX, hz⟩ := rde_box w X
  have R0 := Lib.hid (fun u => rrow0 X u)
  have M1 := Lib.hid (fun u => rminus (X 4) (X 8) (X 5) (X 7) u)
  have M2 := Lib.hid (fun u => rminus (X 5) (X 6) (X 3) (X 8) u)
  have M3 := Lib.hid (fun u => rminus (X 3) (X 7) (X 4) (X 6) u)
  have RD := fun u => rdot' (X 0) (X 1) (X 2) (clp (prd (X 4) (X 8) - prd (X 5) (X 7))) (clp (prd (X 5) (X 6) - prd (X 3) (X 8))) (clp (prd (X 3) (X 7) - prd (X 4) (X 6))) u
  have ed : det X = clp (prd (X 0) (clp (prd (X 4) (X 8) - prd (X 5) (X 7))) + prd (X 1) (clp (prd (X 5) (X 6) - prd (X 3) (X 8))) + prd (X 2) (clp (prd (X 3) (X 7) - prd (X 4) (X 6)))) := by
    unfold det dtI
    rw [mnv0, mnv1, mnv2]
    rfl
  rw [← ed] at RD
  clear ed
  generalize clp (prd (X 4) (X 8) - prd (X 5) (X 7)) = m0 at *
  generalize clp (prd (X 5) (X 6) - prd (X 3) (X 8)) = m1 at *
  generalize clp (prd (X 3) (X 7) - prd (X 4) (X 6)) = m2 at *
  generalize det X = d at *
  replace RD := Lib.hid RD
  have HX := Lib.hid (fun u (h : Below (w.heap.size + 1) V u) => hX.below h (by omega))
  obtain ⟨c0, f0⟩ := hX.one 0 rfl
  obtain ⟨c1, f1⟩ := hX.one 1 rfl
  obtain ⟨c2, f2⟩ := hX.one 2 rfl
  obtain ⟨c3, f3⟩ := hX.one 3 rfl
  obtain ⟨c4, f4⟩ := hX.one 4 rfl
  obtain ⟨c5, f5⟩ := hX.one 5 rfl
  obtain ⟨c6, f6⟩ := hX.one 6 rfl
  obtain ⟨c7, f7⟩ := hX.one 7 rfl
  obtain ⟨c8, f8⟩ := hX.one 8 rfl
  replace eV := Lib.hid eV
  replace hz := Lib.hid hz
  replace hb0 := Lib.hid hb0
  clear hX
  go_enter Try.func41, Try.ntmps41
  go_upto_region 1 with (fail)
  rw [← eV.out]
  refine region_moves (fun u => u.cell? ⟨w.heap.size, 0, none⟩ = some (.int .i64 (X 0)) ∧ u.cell? ⟨w.heap.size, 1, none⟩ = some (.int .i64 (X 1)) ∧ u.cell? ⟨w.heap.size, 2, none⟩ = some (.int .i64 (X 2)) ∧ u.cell? ⟨w.heap.size, 3, none⟩ = some (.int .i64 (X 3)) ∧ u.cell? ⟨w.heap.size, 4, none⟩ = some (.int .i64 (X 4)) ∧ u.cell? ⟨w.heap.size, 5, none⟩ = some (.int .i64 (X 5)) ∧ u.cell? ⟨w.heap.size, 6, none⟩ = some (.int .i64 (X 6)) ∧ u.cell? ⟨w.heap.size, 7, none⟩ = some (.int .i64 (X 7)) ∧ u.cell? ⟨w.heap.size, 8, none⟩ = some (.int .i64 (X 8))) [] [(.take, 0), (.free, 2), (.take, 3), (.free, 4), (.take, 5), (.free, 6), (.take, 7), (.free, 8), (.take, 9), (.free, 11), (.take, 12), (.free, 13), (.take, 14), (.free, 15), (.take, 16), (.free, 17), (.take, 18), (.free, 20), (.take, 21), (.free, 22), (.take, 23), (.free, 24), (.take, 25), (.free, 26), (.take, 27), (.step, 1), (.step, 10), (.step, 19), (.step, 28), (.free, 29), (.step, 30), (.free, 31)] _ (by kernel_rfl) (by kernel_rfl) (by kernel_rfl) (by kernel_rfl) (by decide) rfl (fun _ _ _ _ _ h => h) ?_
  simp only [List.filterMap_cons, List.filterMap_nil, List.getElem?_toArray, List.getElem?_cons_zero, List.getElem?_cons_succ, Option.map_some]
  iterate 1
    first
      | (refine mv_take ?_ (Or.inl ⟨by rfl, ?_⟩) (⟨c0, c1, c2, c3, c4, c5, c6, c7, c8⟩) ?_
         rotate_left 1
         · intro u hu
           (try dsimp only at hu)
           go_simp
           try with_reducible rfl
         simp only [Act.put, List.setIfInBounds_toArray, List.set_cons_zero, List.set_cons_succ])
      | (refine mv_take _ (Or.inr ⟨by rfl, rfl⟩) (⟨c0, c1, c2, c3, c4, c5, c6, c7, c8⟩) ?_
         simp only [Act.put, List.setIfInBounds_toArray, List.set_cons_zero, List.set_cons_succ])
  iterate 1
    first
      | (refine mv_free ?_ (Or.inl ⟨by rfl, ?_⟩) (⟨c0, c1, c2, c3, c4, c5, c6, c7, c8⟩) ?_
         rotate_left 1
         · intro u
           go_simp
           try simp only [d1]
           try simp only [d2]
           try simp only [d3]
           try with_reducible rfl
         simp only [Act.put, List.setIfInBounds_toArray, List.set_cons_zero, List.set_cons_succ])
      | (refine mv_free _ (Or.inr ⟨by rfl, rfl⟩) (⟨c0, c1, c2, c3, c4, c5, c6, c7, c8⟩) ?_
         simp only [Act.put, List.setIfInBounds_toArray, List.set_cons_zero, List.set_cons_succ])
  iterate 1
    first
      | (refine mv_take ?_ (Or.inl ⟨by rfl, ?_⟩) (⟨c0, c1, c2, c3, c4, c5, c6, c7, c8⟩) ?_
         rotate_left 1
         · intro u hu
           (try dsimp only at hu)
           go_simp
           try with_reducible rfl
         simp only [Act.put, List.setIfInBounds_toArray, List.set_cons_zero, List.set_cons_succ])
      | (refine mv_take _ (Or.inr ⟨by rfl, rfl⟩) (⟨c0, c1, c2, c3, c4, c5, c6, c7, c8⟩) ?_
         simp only [Act.put, List.setIfInBounds_toArray, List.set_cons_zero, List.set_cons_succ])
  iterate 1
    first
      | (refine mv_free ?_ (Or.inl ⟨by rfl, ?_⟩) (⟨c0, c1, c2, c3, c4, c5, c6, c7, c8⟩) ?_
         rotate_left 1
         · intro u
           go_simp
           try simp only [d1]
           try simp only [d2]
           try simp only [d3]
           try with_reducible rfl
         simp only [Act.put, List.setIfInBounds_toArray, List.set_cons_zero, List.set_cons_succ])
      | (refine mv_free _ (Or.inr ⟨by rfl, rfl⟩) (⟨c0, c1, c2, c3, c4, c5, c6, c7, c8⟩) ?_
         simp only [Act.put, List.setIfInBounds_toArray, List.set_cons_zero, List.set_cons_succ])
  iterate 1
    first
      | (refine mv_take ?_ (Or.inl ⟨by rfl, ?_⟩) (⟨c0, c1, c2, c3, c4, c5, c6, c7, c8⟩) ?_
         rotate_left 1
         · intro u hu
           (try dsimp only at hu)
           go_simp
           try with_reducible rfl
         simp only [Act.put, List.setIfInBounds_toArray, List.set_cons_zero, List.set_cons_succ])
      | (refine mv_take _ (Or.inr ⟨by rfl, rfl⟩) (⟨c0, c1, c2, c3, c4, c5, c6, c7, c8⟩) ?_
         simp only [Act.put, List.setIfInBounds_toArray, List.set_cons_zero, List.set_cons_succ])
  iterate 1
    first
      | (refine mv_free ?_ (Or.inl ⟨by rfl, ?_⟩) (⟨c0, c1, c2, c3, c4, c5, c6, c7, c8⟩) ?_
         rotate_left 1
         · intro u
           go_simp
           try simp only [d1]
           try simp only [d2]
           try simp only [d3]
           try with_reducible rfl
         simp only [Act.put, List.setIfInBounds_toArray, List.set_cons_zero, List.set_cons_succ])
      | (refine mv_free _ (Or.inr ⟨by rfl, rfl⟩) (⟨c0, c1, c2, c3, c4, c5, c6, c7, c8⟩) ?_
         simp only [Act.put, List.setIfInBounds_toArray, List.set_cons_zero, List.set_cons_succ])
  iterate 1
    first
      | (refine mv_take ?_ (Or.inl ⟨by rfl, ?_⟩) (⟨c0, c1, c2, c3, c4, c5, c6, c7, c8⟩) ?_
         rotate_left 1
         · intro u hu
           (try dsimp only at hu)
           go_simp
           try with_reducible rfl
         simp only [Act.put, List.setIfInBounds_toArray, List.set_cons_zero, List.set_cons_succ])
      | (refine mv_take _ (Or.inr ⟨by rfl, rfl⟩) (⟨c0, c1, c2, c3, c4, c5, c6, c7, c8⟩) ?_
         simp only [Act.put, List.setIfInBounds_toArray, List.set_cons_zero, List.set_cons_succ])
  iterate 1
    first
      | (refine mv_free ?_ (Or.inl ⟨by rfl, ?_⟩) (⟨c0, c1, c2, c3, c4, c5, c6, c7, c8⟩) ?_
         rotate_left 1
         · intro u
           go_simp
           try simp only [d1]
           try simp only [d2]
           try simp only [d3]
           try with_reducible rfl
         simp only [Act.put, List.setIfInBounds_toArray, List.set_cons_zero, List.set_cons_succ])
      | (refine mv_free _ (Or.inr ⟨by rfl, rfl⟩) (⟨c0, c1, c2, c3, c4, c5, c6, c7, c8⟩) ?_
         simp only [Act.put, List.setIfInBounds_toArray, List.set_cons_zero, List.set_cons_succ])
  iterate 1
    first
      | (refine mv_take ?_ (Or.inl ⟨by rfl, ?_⟩) (⟨c0, c1, c2, c3, c4, c5, c6, c7, c8⟩) ?_
         rotate_left 1
         · intro u hu
           (try dsimp only at hu)
           go_simp
           try with_reducible rfl
         simp only [Act.put, List.setIfInBounds_toArray, List.set_cons_zero, List.set_cons_succ])
      | (refine mv_take _ (Or.inr ⟨by rfl, rfl⟩) (⟨c0, c1, c2, c3, c4, c5, c6, c7, c8⟩) ?_
         simp only [Act.put, List.setIfInBounds_toArray, List.set_cons_zero, List.set_cons_succ])
  iterate 1
    first
      | (refine mv_free ?_ (Or.inl ⟨by rfl, ?_⟩) (⟨c0, c1, c2, c3, c4, c5, c6, c7, c8⟩) ?_
         rotate_left 1
         · intro u
           go_simp
           try simp only [d1]
           try simp only [d2]
           try simp only [d3]
           try with_reducible rfl
         simp only [Act.put, List.setIfInBounds_toArray, List.set_cons_zero, List.set_cons_succ])
      | (refine mv_free _ (Or.inr ⟨by rfl, rfl⟩) (⟨c0, c1, c2, c3, c4, c5, c6, c7, c8⟩) ?_
         simp only [Act.put, List.setIfInBounds_toArray, List.set_cons_zero, List.set_cons_succ])
  iterate 1
    first
      | (refine mv_take ?_ (Or.inl ⟨by rfl, ?_⟩) (⟨c0, c1, c2, c3, c4, c5, c6, c7, c8⟩) ?_
         rotate_left 1
         · intro u hu
           (try dsimp only at hu)
           go_simp
           try with_reducible rfl
         simp only [Act.put, List.setIfInBounds_toArray, List.set_cons_zero, List.set_cons_succ])
      | (refine mv_take _ (Or.inr ⟨by rfl, rfl⟩) (⟨c0, c1, c2, c3, c4, c5, c6, c7, c8⟩) ?_
         simp only [Act.put, List.setIfInBounds_toArray, List.set_cons_zero, List.set_cons_succ])
  iterate 1
    first
      | (refine mv_free ?_ (Or.inl ⟨by rfl, ?_⟩) (⟨c0, c1, c2, c3, c4, c5, c6, c7, c8⟩) ?_
         rotate_left 1
         · intro u
           go_simp
           try simp only [d1]
           try simp only [d2]
           try simp only [d3]
           try with_reducible rfl
         simp only [Act.put, List.setIfInBounds_toArray, List.set_cons_zero, List.set_cons_succ])
      | (refine mv_free _ (Or.inr ⟨by rfl, rfl⟩) (⟨c0, c1, c2, c3, c4, c5, c6, c7, c8⟩) ?_
         simp only [Act.put, List.setIfInBounds_toArray, List.set_cons_zero, List.set_cons_succ])
  iterate 1
    first
      | (refine mv_take ?_ (Or.inl ⟨by rfl, ?_⟩) (⟨c0, c1, c2, c3, c4, c5, c6, c7, c8⟩) ?_
         rotate_left 1
         · intro u hu
           (try dsimp only at hu)
           go_simp
           try with_reducible rfl
         simp only [Act.put, List.setIfInBounds_toArray, List.set_cons_zero, List.set_cons_succ])
      | (refine mv_take _ (Or.inr ⟨by rfl, rfl⟩) (⟨c0, c1, c2, c3, c4, c5, c6, c7, c8⟩) ?_
         simp only [Act.put, List.setIfInBounds_toArray, List.set_cons_zero, List.set_cons_succ])
  iterate 1
    first
      | (refine mv_free ?_ (Or.inl ⟨by rfl, ?_⟩) (⟨c0, c1, c2, c3, c4, c5, c6, c7, c8⟩) ?_
         rotate_left 1
         · intro u
           go_simp
           try simp only [d1]
           try simp only [d2]
           try simp only [d3]
           try with_reducible rfl
         simp only [Act.put, List.setIfInBounds_toArray, List.set_cons_zero, List.set_cons_succ])
      | (refine mv_free _ (Or.inr ⟨by rfl, rfl⟩) (⟨c0, c1, c2, c3, c4, c5, c6, c7, c8⟩) ?_
         simp only [Act.put, List.setIfInBounds_toArray, List.set_cons_zero, List.set_cons_succ])
  iterate 1
    first
      | (refine mv_take ?_ (Or.inl ⟨by rfl, ?_⟩) (⟨c0, c1, c2, c3, c4, c5, c6, c7, c8⟩) ?_
         rotate_left 1
         · intro u hu
           (try dsimp only at hu)
           go_simp
           try with_reducible rfl
         simp only [Act.put, List.setIfInBounds_toArray, List.set_cons_zero, List.set_cons_succ])
      | (refine mv_take _ (Or.inr ⟨by rfl, rfl⟩) (⟨c0, c1, c2, c3, c4, c5, c6, c7, c8⟩) ?_
         simp only [Act.put, List.setIfInBounds_toArray, List.set_cons_zero, List.set_cons_succ])
  iterate 1
    first
      | (refine mv_free ?_ (Or.inl ⟨by rfl, ?_⟩) (⟨c0, c1, c2, c3, c4, c5, c6, c7, c8⟩) ?_
         rotate_left 1
         · intro u
           go_simp
           try simp only [d1]
           try simp only [d2]
           try simp only [d3]
           try with_reducible rfl
         simp only [Act.put, List.setIfInBounds_toArray, List.set_cons_zero, List.set_cons_succ])
      | (refine mv_free _ (Or.inr ⟨by rfl, rfl⟩) (⟨c0, c1, c2, c3, c4, c5, c6, c7, c8⟩) ?_
         simp only [Act.put, List.setIfInBounds_toArray, List.set_cons_zero, List.set_cons_succ])
  iterate 1
    first
      | (refine mv_take ?_ (Or.inl ⟨by rfl, ?_⟩) (⟨c0, c1, c2, c3, c4, c5, c6, c7, c8⟩) ?_
         rotate_left 1
         · intro u hu
           (try dsimp only at hu)
           go_simp
           try with_reducible rfl
         simp only [Act.put, List.setIfInBounds_toArray, List.set_cons_zero, List.set_cons_succ])
      | (refine mv_take _ (Or.inr ⟨by rfl, rfl⟩) (⟨c0, c1, c2, c3, c4, c5, c6, c7, c8⟩) ?_
         simp only [Act.put, List.setIfInBounds_toArray, List.set_cons_zero, List.set_cons_succ])
  iterate 1
    first
      | (refine mv_free ?_ (Or.inl ⟨by rfl, ?_⟩) (⟨c0, c1, c2, c3, c4, c5, c6, c7, c8⟩) ?_
         rotate_left 1
         · intro u
           go_simp
           try simp only [d1]
           try simp only [d2]
           try simp only [d3]
           try with_reducible rfl
         simp only [Act.put, List.setIfInBounds_toArray, List.set_cons_zero, List.set_cons_succ])
      | (refine mv_free _ (Or.inr ⟨by rfl, rfl⟩) (⟨c0, c1, c2, c3, c4, c5, c6, c7, c8⟩) ?_
         simp only [Act.put, List.setIfInBounds_toArray, List.set_cons_zero, List.set_cons_succ])
  iterate 1
    first
      | (refine mv_take ?_ (Or.inl ⟨by rfl, ?_⟩) (⟨c0, c1, c2, c3, c4, c5, c6, c7, c8⟩) ?_
         rotate_left 1
         · intro u hu
           (try dsimp only at hu)
           go_simp
           try with_reducible rfl
         simp only [Act.put, List.setIfInBounds_toArray, List.set_cons_zero, List.set_cons_succ])
      | (refine mv_take _ (Or.inr ⟨by rfl, rfl⟩) (⟨c0, c1, c2, c3, c4, c5, c6, c7, c8⟩) ?_
         simp only [Act.put, List.setIfInBounds_toArray, List.set_cons_zero, List.set_cons_succ])
  iterate 1
    first
      | (refine mv_free ?_ (Or.inl ⟨by rfl, ?_⟩) (⟨c0, c1, c2, c3, c4, c5, c6, c7, c8⟩) ?_
         rotate_left 1
         · intro u
           go_simp
           try simp only [d1]
           try simp only [d2]
           try simp only [d3]
           try with_reducible rfl
         simp only [Act.put, List.setIfInBounds_toArray, List.set_cons_zero, List.set_cons_succ])
      | (refine mv_free _ (Or.inr ⟨by rfl, rfl⟩) (⟨c0, c1, c2, c3, c4, c5, c6, c7, c8⟩) ?_
         simp only [Act.put, List.setIfInBounds_toArray, List.set_cons_zero, List.set_cons_succ])
  iterate 1
    first
      | (refine mv_take ?_ (Or.inl ⟨by rfl, ?_⟩) (⟨c0, c1, c2, c3, c4, c5, c6, c7, c8⟩) ?_
         rotate_left 1
         · intro u hu
           (try dsimp only at hu)
           go_simp
           try with_reducible rfl
         simp only [Act.put, List.setIfInBounds_toArray, List.set_cons_zero, List.set_cons_succ])
      | (refine mv_take _ (Or.inr ⟨by rfl, rfl⟩) (⟨c0, c1, c2, c3, c4, c5, c6, c7, c8⟩) ?_
         simp only [Act.put, List.setIfInBounds_toArray, List.set_cons_zero, List.set_cons_succ])
  iterate 1
    first
      | (refine mv_free ?_ (Or.inl ⟨by rfl, ?_⟩) (⟨c0, c1, c2, c3, c4, c5, c6, c7, c8⟩) ?_
         rotate_left 1
         · intro u
           go_simp
           try simp only [d1]
           try simp only [d2]
           try simp only [d3]
           try with_reducible rfl
         simp only [Act.put, List.setIfInBounds_toArray, List.set_cons_zero, List.set_cons_succ])
      | (refine mv_free _ (Or.inr ⟨by rfl, rfl⟩) (⟨c0, c1, c2, c3, c4, c5, c6, c7, c8⟩) ?_
         simp only [Act.put, List.setIfInBounds_toArray, List.set_cons_zero, List.set_cons_succ])
  iterate 1
    first
      | (refine mv_take ?_ (Or.inl ⟨by rfl, ?_⟩) (⟨c0, c1, c2, c3, c4, c5, c6, c7, c8⟩) ?_
         rotate_left 1
         · intro u hu
           (try dsimp only at hu)
           go_simp
           try with_reducible rfl
         simp only [Act.put, List.setIfInBounds_toArray, List.set_cons_zero, List.set_cons_succ])
      | (refine mv_take _ (Or.inr ⟨by rfl, rfl⟩) (⟨c0, c1, c2, c3, c4, c5, c6, c7, c8⟩) ?_
         simp only [Act.put, List.setIfInBounds_toArray, List.set_cons_zero, List.set_cons_succ])
  iterate 1
    first
      | (refine mv_free ?_ (Or.inl ⟨by rfl, ?_⟩) (⟨c0, c1, c2, c3, c4, c5, c6, c7, c8⟩) ?_
         rotate_left 1
         · intro u
           go_simp
           try simp only [d1]
           try simp only [d2]
           try simp only [d3]
           try with_reducible rfl
         simp only [Act.put, List.setIfInBounds_toArray, List.set_cons_zero, List.set_cons_succ])
      | (refine mv_free _ (Or.inr ⟨by rfl, rfl⟩) (⟨c0, c1, c2, c3, c4, c5, c6, c7, c8⟩) ?_
         simp only [Act.put, List.setIfInBounds_toArray, List.set_cons_zero, List.set_cons_succ])
  iterate 1
    first
      | (refine mv_take ?_ (Or.inl ⟨by rfl, ?_⟩) (⟨c0, c1, c2, c3, c4, c5, c6, c7, c8⟩) ?_
         rotate_left 1
         · intro u hu
           (try dsimp only at hu)
           go_simp
           try with_reducible rfl
         simp only [Act.put, List.setIfInBounds_toArray, List.set_cons_zero, List.set_cons_succ])
      | (refine mv_take _ (Or.inr ⟨by rfl, rfl⟩) (⟨c0, c1, c2, c3, c4, c5, c6, c7, c8⟩) ?_
         simp only [Act.put, List.setIfInBounds_toArray, List.set_cons_zero, List.set_cons_succ])
  refine mv_step (fun K hK => ?_)
  go_simp
  refine (R0.out _).mono ?_
  rintro e w1 ⟨rfl, hb1⟩
  have hL1 := Lib.hid ((Below.refl (w.heap.size + 1) V).drew.trans (hb1.mono (by exact Nat.le_of_eq hz.out.symm)))
  clear hb1
  clear c0 f0 c1 f1 c2 f2 c3 f3 c4 f4 c5 f5 c6 f6 c7 f7 c8 f8
  have hA := HX.out _ hL1.out
  obtain ⟨c0, f0⟩ := hA.one 0 rfl
  obtain ⟨c1, f1⟩ := hA.one 1 rfl
  obtain ⟨c2, f2⟩ := hA.one 2 rfl
  obtain ⟨c3, f3⟩ := hA.one 3 rfl
  obtain ⟨c4, f4⟩ := hA.one 4 rfl
  obtain ⟨c5, f5⟩ := hA.one 5 rfl
  obtain ⟨c6, f6⟩ := hA.one 6 rfl
  obtain ⟨c7, f7⟩ := hA.one 7 rfl
  obtain ⟨c8, f8⟩ := hA.one 8 rfl
  clear hA
  go_wp2_with fail
  refine hK.out _ _ _ (fun u hu => hu) (⟨c0, c1, c2, c3, c4, c5, c6, c7, c8⟩) ?_
  clear hK K
  refine mv_step (fun K hK => ?_)
  go_simp
  refine (M1.out _).mono ?_
  rintro e w2 ⟨rfl, hb2⟩
  have hL2 := Lib.hid (hL1.out.trans (hb2.mono (by have := hL1.out.size; have := hz.out; omega)))
  clear hb2
  clear c0 f0 c1 f1 c2 f2 c3 f3 c4 f4 c5 f5 c6 f6 c7 f7 c8 f8
  have hA := HX.out _ hL2.out
  obtain ⟨c0, f0⟩ := hA.one 0 rfl
  obtain ⟨c1, f1⟩ := hA.one 1 rfl
  obtain ⟨c2, f2⟩ := hA.one 2 rfl
  obtain ⟨c3, f3⟩ := hA.one 3 rfl
  obtain ⟨c4, f4⟩ := hA.one 4 rfl
  obtain ⟨c5, f5⟩ := hA.one 5 rfl
  obtain ⟨c6, f6⟩ := hA.one 6 rfl
  obtain ⟨c7, f7⟩ := hA.one 7 rfl
  obtain ⟨c8, f8⟩ := hA.one 8 rfl
  clear hA
  go_wp2_with fail
  refine hK.out _ _ _ (fun u hu => hu) (⟨c0, c1, c2, c3, c4, c5, c6, c7, c8⟩) ?_
  clear hK K
  refine mv_step (fun K hK => ?_)
  go_simp
  refine (M2.out _).mono ?_
  rintro e w3 ⟨rfl, hb3⟩
  have hL3 := Lib.hid (hL2.out.trans (hb3.mono (by have := hL2.out.size; have := hz.out; omega)))
  clear hb3
  clear c0 f0 c1 f1 c2 f2 c3 f3 c4 f4 c5 f5 c6 f6 c7 f7 c8 f8
  have hA := HX.out _ hL3.out
  obtain ⟨c0, f0⟩ := hA.one 0 rfl
  obtain ⟨c1, f1⟩ := hA.one 1 rfl
  obtain ⟨c2, f2⟩ := hA.one 2 rfl
  obtain ⟨c3, f3⟩ := hA.one 3 rfl
  obtain ⟨c4, f4⟩ := hA.one 4 rfl
  obtain ⟨c5, f5⟩ := hA.one 5 rfl
  obtain ⟨c6, f6⟩ := hA.one 6 rfl
  obtain ⟨c7, f7⟩ := hA.one 7 rfl
  obtain ⟨c8, f8⟩ := hA.one 8 rfl
  clear hA
  go_wp2_with fail
  refine hK.out _ _ _ (fun u hu => hu) (⟨c0, c1, c2, c3, c4, c5, c6, c7, c8⟩) ?_
  clear hK K
  refine mv_step (fun K hK => ?_)
  go_simp
  refine (M3.out _).mono ?_
  rintro e w4 ⟨rfl, hb4⟩
  have hL4 := Lib.hid (hL3.out.trans (hb4.mono (by have := hL3.out.size; have := hz.out; omega)))
  clear hb4
  clear c0 f0 c1 f1 c2 f2 c3 f3 c4 f4 c5 f5 c6 f6 c7 f7 c8 f8
  have hA := HX.out _ hL4.out
  obtain ⟨c0, f0⟩ := hA.one 0 rfl
  obtain ⟨c1, f1⟩ := hA.one 1 rfl
  obtain ⟨c2, f2⟩ := hA.one 2 rfl
  obtain ⟨c3, f3⟩ := hA.one 3 rfl
  obtain ⟨c4, f4⟩ := hA.one 4 rfl
  obtain ⟨c5, f5⟩ := hA.one 5 rfl
  obtain ⟨c6, f6⟩ := hA.one 6 rfl
  obtain ⟨c7, f7⟩ := hA.one 7 rfl
  obtain ⟨c8, f8⟩ := hA.one 8 rfl
  clear hA
  go_wp2_with fail
  refine hK.out _ _ _ (fun u hu => hu) (⟨c0, c1, c2, c3, c4, c5, c6, c7, c8⟩) ?_
  clear hK K
  iterate 1
    first
      | (refine mv_free ?_ (Or.inl ⟨by rfl, ?_⟩) (⟨c0, c1, c2, c3, c4, c5, c6, c7, c8⟩) ?_
         rotate_left 1
         · intro u
           go_simp
           try simp only [d1]
           try simp only [d2]
           try simp only [d3]
           try with_reducible rfl
         simp only [Act.put, List.setIfInBounds_toArray, List.set_cons_zero, List.set_cons_succ])
      | (refine mv_free _ (Or.inr ⟨by rfl, rfl⟩) (⟨c0, c1, c2, c3, c4, c5, c6, c7, c8⟩) ?_
         simp only [Act.put, List.setIfInBounds_toArray, List.set_cons_zero, List.set_cons_succ])
  refine mv_step (fun K hK => ?_)
  go_simp
  refine (RD.out _).mono ?_
  rintro e w5 ⟨rfl, hb5⟩
  have hL5 := Lib.hid (hL4.out.trans (hb5.mono (by have := hL4.out.size; have := hz.out; omega)))
  clear hb5
  clear c0 f0 c1 f1 c2 f2 c3 f3 c4 f4 c5 f5 c6 f6 c7 f7 c8 f8
  have hA := HX.out _ hL5.out
  obtain ⟨c0, f0⟩ := hA.one 0 rfl
  obtain ⟨c1, f1⟩ := hA.one 1 rfl
  obtain ⟨c2, f2⟩ := hA.one 2 rfl
  obtain ⟨c3, f3⟩ := hA.one 3 rfl
  obtain ⟨c4, f4⟩ := hA.one 4 rfl
  obtain ⟨c5, f5⟩ := hA.one 5 rfl
  obtain ⟨c6, f6⟩ := hA.one 6 rfl
  obtain ⟨c7, f7⟩ := hA.one 7 rfl
  obtain ⟨c8, f8⟩ := hA.one 8 rfl
  clear hA
  go_wp2_with fail
  refine hK.out _ _ _ (fun u hu => hu) (⟨c0, c1, c2, c3, c4, c5, c6, c7, c8⟩) ?_
  clear hK K
  iterate 1
    first
      | (refine mv_free ?_ (Or.inl ⟨by rfl, ?_⟩) (⟨c0, c1, c2, c3, c4, c5, c6, c7, c8⟩) ?_
         rotate_left 1
         · intro u
           go_simp
           try simp only [d1]
           try simp only [d2]
           try simp only [d3]
           try with_reducible rfl
         simp only [Act.put, List.setIfInBounds_toArray, List.set_cons_zero, List.set_cons_succ])
      | (refine mv_free _ (Or.inr ⟨by rfl, rfl⟩) (⟨c0, c1, c2, c3, c4, c5, c6, c7, c8⟩) ?_
         simp only [Act.put, List.setIfInBounds_toArray, List.set_cons_zero, List.set_cons_succ])
  refine mv_done ?_
  go_wp2
  go_ret
  exact ⟨rfl, hb0.out.trans (hL5.out.mono (by omega))⟩
end Go.Proofs.Ytakocggclopngaa
