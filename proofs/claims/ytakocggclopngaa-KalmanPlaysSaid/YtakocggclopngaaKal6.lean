/- The document's estimator at its begin; the chapter's example; the law KalmanNew. -/
import Derived.Test.YtakocggclopngaaKal5
namespace Go.Proofs.Ytakocggclopngaa
open Go.ChangeShapes Go.WideShapes Go.ChangeAt Go.RowKit
set_option linter.unusedVariables false
set_option linter.unusedSimpArgs false
theorem rwi_box (w : World) (A : Nat → Int) : ∃ V, V = (w.alloc (.cells #[.int .i64 (A 0), .int .i64 (A 1), .int .i64 (A 2)] 54)) ∧ Below w.heap.size w V ∧ Held w.heap.size [.int .i64 (A 0), .int .i64 (A 1), .int .i64 (A 2)] V ∧ V.heap.size = w.heap.size + 1 := by
  refine ⟨_, rfl, (by repeat (first | exact Below.refl _ _ | assumption | apply Below.drew | apply below_drewN | (refine Below.alloc ?_ (by first | exact Nat.le_refl _ | omega | (simp <;> omega)) _) | (refine Below.setCell ?_ (by first | exact Nat.le_refl _ | omega | (simp <;> omega)) _))), ?_, by simp⟩
  · have := (Held.new w [.int .i64 (A 0), .int .i64 (A 1), .int .i64 (A 2)] 54)
    simpa using this
set_option maxRecDepth 100000 in
set_option maxHeartbeats 8000000 in
theorem rwith0 (A : Nat → Int) (lo hi : Int)  (g0 : ¬ (lo ≤ A 0 ∧ A 0 ≤ hi)) (w : World) : Calls Try.prog 59 #[.agg #[.int .i64 (A 0), .int .i64 (A 1), .int .i64 (A 2)], .int .i64 lo, .int .i64 hi] w fun e w' => e = .returned (.bool false) ∧ Below w.heap.size w w' := by
  obtain ⟨V, eV, hb0, hA, hz⟩ := rwi_box w A
  have KA := Lib.hid hA
  replace eV := Lib.hid eV
  replace hz := Lib.hid hz
  have hB := Lib.hid hb0
  clear hA hb0
  go_enter Try.func59, Try.ntmps59
  go_wp2_with fail
  rw [← eV.out]
  go_wp2_with fail
  go_loopw [7] (fun i u => ∃ k : Nat, k ≤ 0 ∧ i = .int .i64 (k : Int) ∧ u = V) (fun i _ => 3 - (intOf i).toNat)
  case atStart => exact ⟨0, by omega, rfl, rfl⟩
  case round =>
    obtain ⟨k, hk, rfl, rfl⟩ := hrel
    rcases (show k = 0 by omega) with rfl
    · have kk : ((0 : Nat) : Int) = 0 := rfl
      have c0 := KA.out.c 0 _ rfl
      rcases (show A 0 < lo ∨ (lo ≤ A 0 ∧ hi < A 0) by omega) with e1 | ⟨e1, e2⟩
      all_goals
        go_wp2
        go_ret
        exact ⟨rfl, hB.out⟩
set_option maxRecDepth 100000 in
set_option maxHeartbeats 8000000 in
theorem rwith1 (A : Nat → Int) (lo hi : Int) (g0 : lo ≤ A 0 ∧ A 0 ≤ hi) (g1 : ¬ (lo ≤ A 1 ∧ A 1 ≤ hi)) (w : World) : Calls Try.prog 59 #[.agg #[.int .i64 (A 0), .int .i64 (A 1), .int .i64 (A 2)], .int .i64 lo, .int .i64 hi] w fun e w' => e = .returned (.bool false) ∧ Below w.heap.size w w' := by
  obtain ⟨V, eV, hb0, hA, hz⟩ := rwi_box w A
  have KA := Lib.hid hA
  replace eV := Lib.hid eV
  replace hz := Lib.hid hz
  have hB := Lib.hid hb0
  clear hA hb0
  obtain ⟨g0a, g0b⟩ := g0
  go_enter Try.func59, Try.ntmps59
  go_wp2_with fail
  rw [← eV.out]
  go_wp2_with fail
  go_loopw [7] (fun i u => ∃ k : Nat, k ≤ 1 ∧ i = .int .i64 (k : Int) ∧ u = V) (fun i _ => 3 - (intOf i).toNat)
  case atStart => exact ⟨0, by omega, rfl, rfl⟩
  case round =>
    obtain ⟨k, hk, rfl, rfl⟩ := hrel
    rcases (show k = 0 ∨ k = 1 by omega) with rfl | rfl
    · have kk : ((0 : Nat) : Int) = 0 := rfl
      have c0 := KA.out.c 0 _ rfl
      go_wp2
      go_roundw
      case rel => exact ⟨0 + 1, by omega, by first | rfl | go_num, by first | rfl | trivial⟩
      case measure => simp [intOf]
    · have kk : ((1 : Nat) : Int) = 1 := rfl
      have c0 := KA.out.c 1 _ rfl
      rcases (show A 1 < lo ∨ (lo ≤ A 1 ∧ hi < A 1) by omega) with e1 | ⟨e1, e2⟩
      all_goals
        go_wp2
        go_ret
        exact ⟨rfl, hB.out⟩
set_option maxRecDepth 100000 in
set_option maxHeartbeats 8000000 in
theorem rwith2 (A : Nat → Int) (lo hi : Int) (g0 : lo ≤ A 0 ∧ A 0 ≤ hi) (g1 : lo ≤ A 1 ∧ A 1 ≤ hi) (g2 : ¬ (lo ≤ A 2 ∧ A 2 ≤ hi)) (w : World) : Calls Try.prog 59 #[.agg #[.int .i64 (A 0), .int .i64 (A 1), .int .i64 (A 2)], .int .i64 lo, .int .i64 hi] w fun e w' => e = .returned (.bool false) ∧ Below w.heap.size w w' := by
  obtain ⟨V, eV, hb0, hA, hz⟩ := rwi_box w A
  have KA := Lib.hid hA
  replace eV := Lib.hid eV
  replace hz := Lib.hid hz
  have hB := Lib.hid hb0
  clear hA hb0
  obtain ⟨g0a, g0b⟩ := g0
  obtain ⟨g1a, g1b⟩ := g1
  go_enter Try.func59, Try.ntmps59
  go_wp2_with fail
  rw [← eV.out]
  go_wp2_with fail
  go_loopw [7] (fun i u => ∃ k : Nat, k ≤ 2 ∧ i = .int .i64 (k : Int) ∧ u = V) (fun i _ => 3 - (intOf i).toNat)
  case atStart => exact ⟨0, by omega, rfl, rfl⟩
  case round =>
    obtain ⟨k, hk, rfl, rfl⟩ := hrel
    rcases (show k = 0 ∨ k = 1 ∨ k = 2 by omega) with rfl | rfl | rfl
    · have kk : ((0 : Nat) : Int) = 0 := rfl
      have c0 := KA.out.c 0 _ rfl
      go_wp2
      go_roundw
      case rel => exact ⟨0 + 1, by omega, by first | rfl | go_num, by first | rfl | trivial⟩
      case measure => simp [intOf]
    · have kk : ((1 : Nat) : Int) = 1 := rfl
      have c0 := KA.out.c 1 _ rfl
      go_wp2
      go_roundw
      case rel => exact ⟨1 + 1, by omega, by first | rfl | go_num, by first | rfl | trivial⟩
      case measure => simp [intOf]
    · have kk : ((2 : Nat) : Int) = 2 := rfl
      have c0 := KA.out.c 2 _ rfl
      rcases (show A 2 < lo ∨ (lo ≤ A 2 ∧ hi < A 2) by omega) with e1 | ⟨e1, e2⟩
      all_goals
        go_wp2
        go_ret
        exact ⟨rfl, hB.out⟩
set_option maxRecDepth 100000 in
set_option maxHeartbeats 8000000 in
theorem rwith3 (A : Nat → Int) (lo hi : Int) (g0 : lo ≤ A 0 ∧ A 0 ≤ hi) (g1 : lo ≤ A 1 ∧ A 1 ≤ hi) (g2 : lo ≤ A 2 ∧ A 2 ≤ hi) (w : World) : Calls Try.prog 59 #[.agg #[.int .i64 (A 0), .int .i64 (A 1), .int .i64 (A 2)], .int .i64 lo, .int .i64 hi] w fun e w' => e = .returned (.bool true) ∧ Below w.heap.size w w' := by
  obtain ⟨V, eV, hb0, hA, hz⟩ := rwi_box w A
  have KA := Lib.hid hA
  replace eV := Lib.hid eV
  replace hz := Lib.hid hz
  have hB := Lib.hid hb0
  clear hA hb0
  obtain ⟨g0a, g0b⟩ := g0
  obtain ⟨g1a, g1b⟩ := g1
  obtain ⟨g2a, g2b⟩ := g2
  go_enter Try.func59, Try.ntmps59
  go_wp2_with fail
  rw [← eV.out]
  go_wp2_with fail
  go_loopw [7] (fun i u => ∃ k : Nat, k ≤ 3 ∧ i = .int .i64 (k : Int) ∧ u = V) (fun i _ => 3 - (intOf i).toNat)
  case atStart => exact ⟨0, by omega, rfl, rfl⟩
  case round =>
    obtain ⟨k, hk, rfl, rfl⟩ := hrel
    rcases (show k = 0 ∨ k = 1 ∨ k = 2 ∨ k = 3 by omega) with rfl | rfl | rfl | rfl
    · have kk : ((0 : Nat) : Int) = 0 := rfl
      have c0 := KA.out.c 0 _ rfl
      go_wp2
      go_roundw
      case rel => exact ⟨0 + 1, by omega, by first | rfl | go_num, by first | rfl | trivial⟩
      case measure => simp [intOf]
    · have kk : ((1 : Nat) : Int) = 1 := rfl
      have c0 := KA.out.c 1 _ rfl
      go_wp2
      go_roundw
      case rel => exact ⟨1 + 1, by omega, by first | rfl | go_num, by first | rfl | trivial⟩
      case measure => simp [intOf]
    · have kk : ((2 : Nat) : Int) = 2 := rfl
      have c0 := KA.out.c 2 _ rfl
      go_wp2
      go_roundw
      case rel => exact ⟨2 + 1, by omega, by first | rfl | go_num, by first | rfl | trivial⟩
      case measure => simp [intOf]
    · have kk : ((3 : Nat) : Int) = 3 := rfl
      go_wp2
      go_ret
      exact ⟨rfl, hB.out⟩
theorem rwithin (A : Nat → Int) (lo hi : Int) (w : World) : Calls Try.prog 59 #[.agg #[.int .i64 (A 0), .int .i64 (A 1), .int .i64 (A 2)], .int .i64 lo, .int .i64 hi] w fun e w' => e = .returned (.bool (kIn A lo hi)) ∧ Below w.heap.size w w' := by
  by_cases g0 : lo ≤ A 0 ∧ A 0 ≤ hi
  · by_cases g1 : lo ≤ A 1 ∧ A 1 ≤ hi
    · by_cases g2 : lo ≤ A 2 ∧ A 2 ≤ hi
      · rw [show kIn A lo hi = true from decide_eq_true ⟨g0, g1, g2⟩]; exact rwith3 A lo hi g0 g1 g2 w
      · rw [show kIn A lo hi = false from decide_eq_false (fun q => g2 q.2.2)]; exact rwith2 A lo hi g0 g1 g2 w
    · rw [show kIn A lo hi = false from decide_eq_false (fun q => g1 q.2.1)]; exact rwith1 A lo hi g0 g1 w
  · rw [show kIn A lo hi = false from decide_eq_false (fun q => g0 q.1)]; exact rwith0 A lo hi g0 w
theorem rri_box (w : World) (A D : Nat → Int) : ∃ V, V = ((w.alloc (.cells #[.int .i64 (A 0), .int .i64 (A 1), .int .i64 (A 2)] 54)).alloc (.cells #[.int .i64 (D 0), .int .i64 (D 1), .int .i64 (D 2)] 54)) ∧ Below w.heap.size w V ∧ Held w.heap.size [.int .i64 (A 0), .int .i64 (A 1), .int .i64 (A 2)] V ∧ Held (w.heap.size + 1) [.int .i64 (D 0), .int .i64 (D 1), .int .i64 (D 2)] V ∧ V.heap.size = w.heap.size + 2 := by
  refine ⟨_, rfl, (by repeat (first | exact Below.refl _ _ | assumption | apply Below.drew | apply below_drewN | (refine Below.alloc ?_ (by first | exact Nat.le_refl _ | omega | (simp <;> omega)) _) | (refine Below.setCell ?_ (by first | exact Nat.le_refl _ | omega | (simp <;> omega)) _))), ?_, ?_, by simp⟩
  · have := ((Held.new w [.int .i64 (A 0), .int .i64 (A 1), .int .i64 (A 2)] 54).alloc (.cells #[.int .i64 (D 0), .int .i64 (D 1), .int .i64 (D 2)] 54))
    simpa using this
  · have := (Held.new (w.alloc (.cells #[.int .i64 (A 0), .int .i64 (A 1), .int .i64 (A 2)] 54)) [.int .i64 (D 0), .int .i64 (D 1), .int .i64 (D 2)] 54)
    simpa using this
set_option maxRecDepth 100000 in
set_option maxHeartbeats 8000000 in
theorem rri0 (A D : Nat → Int) (g : Int) (hg : g < 1) (w : World) : Calls Try.prog 53 #[.agg #[.int .i64 (A 0), .int .i64 (A 1), .int .i64 (A 2)], .agg #[.int .i64 (D 0), .int .i64 (D 1), .int .i64 (D 2)], .int .i64 g] w fun e w' => e = .returned (.bool false) ∧ Below w.heap.size w w' := by
  obtain ⟨V, eV, hb0, hA, hD, hz⟩ := rri_box w A D
  have KA := Lib.hid hA
  have KD := Lib.hid hD
  have hh_ := KA.out
  obtain ⟨c0, f0⟩ := hh_.one 0 rfl
  obtain ⟨c1, f1⟩ := hh_.one 1 rfl
  obtain ⟨c2, f2⟩ := hh_.one 2 rfl
  clear hh_
  have hh_ := KD.out
  obtain ⟨d0, l0⟩ := hh_.one 0 rfl
  obtain ⟨d1, l1⟩ := hh_.one 1 rfl
  obtain ⟨d2, l2⟩ := hh_.one 2 rfl
  clear hh_
  replace eV := Lib.hid eV
  replace hz := Lib.hid hz
  replace hb0 := Lib.hid hb0
  clear hA hD
  go_enter Try.func53, Try.ntmps53
  go_wp2_with fail
  rw [← eV.out]
  go_wp2
  go_ret
  exact ⟨rfl, hb0.out⟩
set_option maxRecDepth 100000 in
set_option maxHeartbeats 8000000 in
theorem rri1 (A D : Nat → Int) (g : Int) (hg : 1 ≤ g) (hg2 : 68719476736 < g) (w : World) : Calls Try.prog 53 #[.agg #[.int .i64 (A 0), .int .i64 (A 1), .int .i64 (A 2)], .agg #[.int .i64 (D 0), .int .i64 (D 1), .int .i64 (D 2)], .int .i64 g] w fun e w' => e = .returned (.bool false) ∧ Below w.heap.size w w' := by
  obtain ⟨V, eV, hb0, hA, hD, hz⟩ := rri_box w A D
  have KA := Lib.hid hA
  have KD := Lib.hid hD
  have hh_ := KA.out
  obtain ⟨c0, f0⟩ := hh_.one 0 rfl
  obtain ⟨c1, f1⟩ := hh_.one 1 rfl
  obtain ⟨c2, f2⟩ := hh_.one 2 rfl
  clear hh_
  have hh_ := KD.out
  obtain ⟨d0, l0⟩ := hh_.one 0 rfl
  obtain ⟨d1, l1⟩ := hh_.one 1 rfl
  obtain ⟨d2, l2⟩ := hh_.one 2 rfl
  clear hh_
  replace eV := Lib.hid eV
  replace hz := Lib.hid hz
  replace hb0 := Lib.hid hb0
  clear hA hD
  go_enter Try.func53, Try.ntmps53
  go_wp2_with fail
  rw [← eV.out]
  go_wp2
  go_ret
  exact ⟨rfl, hb0.out⟩
set_option maxRecDepth 100000 in
set_option maxHeartbeats 8000000 in
theorem rri2 (A D : Nat → Int) (g : Int) (hg : 1 ≤ g) (hg2 : g ≤ 68719476736) (hd : kIn D 0 68719476736 = false) (w : World) : Calls Try.prog 53 #[.agg #[.int .i64 (A 0), .int .i64 (A 1), .int .i64 (A 2)], .agg #[.int .i64 (D 0), .int .i64 (D 1), .int .i64 (D 2)], .int .i64 g] w fun e w' => e = .returned (.bool false) ∧ Below w.heap.size w w' := by
  obtain ⟨V, eV, hb0, hA, hD, hz⟩ := rri_box w A D
  have KA := Lib.hid hA
  have KD := Lib.hid hD
  have hh_ := KA.out
  obtain ⟨c0, f0⟩ := hh_.one 0 rfl
  obtain ⟨c1, f1⟩ := hh_.one 1 rfl
  obtain ⟨c2, f2⟩ := hh_.one 2 rfl
  clear hh_
  have hh_ := KD.out
  obtain ⟨d0, l0⟩ := hh_.one 0 rfl
  obtain ⟨d1, l1⟩ := hh_.one 1 rfl
  obtain ⟨d2, l2⟩ := hh_.one 2 rfl
  clear hh_
  have B1 := fun u => rwithin D 0 68719476736 u
  rw [hd] at B1
  replace B1 := Lib.hid B1
  clear hd
  replace eV := Lib.hid eV
  replace hz := Lib.hid hz
  replace hb0 := Lib.hid hb0
  clear hA hD
  go_enter Try.func53, Try.ntmps53
  go_wp2_with fail
  rw [← eV.out]
  go_wp2_with fail
  refine (B1.out _).mono ?_
  rintro e w1 ⟨rfl, hq⟩
  have hb1 := Lib.hid (hb0.out.trans (hq.mono hb0.out.size))
  go_wp2
  go_ret
  exact ⟨rfl, hb1.out⟩
set_option maxRecDepth 100000 in
set_option maxHeartbeats 8000000 in
theorem rri3 (A D : Nat → Int) (g : Int) (hg : 1 ≤ g) (hg2 : g ≤ 68719476736) (hd : kIn D 0 68719476736 = true) (w : World) : Calls Try.prog 53 #[.agg #[.int .i64 (A 0), .int .i64 (A 1), .int .i64 (A 2)], .agg #[.int .i64 (D 0), .int .i64 (D 1), .int .i64 (D 2)], .int .i64 g] w fun e w' => e = .returned (.bool (kIn A (-68719476736) 68719476736)) ∧ Below w.heap.size w w' := by
  obtain ⟨V, eV, hb0, hA, hD, hz⟩ := rri_box w A D
  have KA := Lib.hid hA
  have KD := Lib.hid hD
  have hh_ := KA.out
  obtain ⟨c0, f0⟩ := hh_.one 0 rfl
  obtain ⟨c1, f1⟩ := hh_.one 1 rfl
  obtain ⟨c2, f2⟩ := hh_.one 2 rfl
  clear hh_
  have hh_ := KD.out
  obtain ⟨d0, l0⟩ := hh_.one 0 rfl
  obtain ⟨d1, l1⟩ := hh_.one 1 rfl
  obtain ⟨d2, l2⟩ := hh_.one 2 rfl
  clear hh_
  have B1 := fun u => rwithin D 0 68719476736 u
  rw [hd] at B1
  replace B1 := Lib.hid B1
  clear hd
  have B2 := fun u => rwithin A (-68719476736) 68719476736 u
  generalize kIn A (-68719476736) 68719476736 = r at *
  replace B2 := Lib.hid B2
  replace eV := Lib.hid eV
  replace hz := Lib.hid hz
  replace hb0 := Lib.hid hb0
  clear hA hD
  go_enter Try.func53, Try.ntmps53
  go_wp2_with fail
  rw [← eV.out]
  go_wp2_with fail
  refine (B1.out _).mono ?_
  rintro e w1 ⟨rfl, hq⟩
  have hb1 := Lib.hid (hb0.out.trans (hq.mono hb0.out.size))
  replace KA := Lib.hid (KA.out.bel hq)
  clear hq c0 f0 d0 l0 c1 f1 d1 l1 c2 f2 d2 l2
  have hh_ := KA.out
  obtain ⟨c0, f0⟩ := hh_.one 0 rfl
  obtain ⟨c1, f1⟩ := hh_.one 1 rfl
  obtain ⟨c2, f2⟩ := hh_.one 2 rfl
  clear hh_
  go_wp2_with fail
  refine (B2.out _).mono ?_
  rintro e w2 ⟨rfl, hq⟩
  have hb2 := Lib.hid (hb1.out.trans (hq.mono hb1.out.size))
  clear hq
  go_wp2
  go_ret
  exact ⟨rfl, hb2.out⟩
theorem rright (A D : Nat → Int) (g : Int) (w : World) : Calls Try.prog 53 #[.agg #[.int .i64 (A 0), .int .i64 (A 1), .int .i64 (A 2)], .agg #[.int .i64 (D 0), .int .i64 (D 1), .int .i64 (D 2)], .int .i64 g] w fun e w' => e = .returned (.bool (knR A D g)) ∧ Below w.heap.size w w' := by
  by_cases h1 : 1 ≤ g
  · by_cases h2 : g ≤ 68719476736
    · cases hd : kIn D 0 68719476736
      · rw [show knR A D g = false by unfold knR; rw [hd]; simp]; exact rri2 A D g h1 h2 hd w
      · rw [show knR A D g = kIn A (-68719476736) 68719476736 by unfold knR; rw [hd, decide_eq_true (show 1 ≤ g ∧ g ≤ 68719476736 from ⟨h1, h2⟩)]; rfl]; exact rri3 A D g h1 h2 hd w
    · rw [show knR A D g = false by unfold knR; rw [decide_eq_false (show ¬ (1 ≤ g ∧ g ≤ 68719476736) by omega)]; rfl]; exact rri1 A D g h1 (by omega) w
  · rw [show knR A D g = false by unfold knR; rw [decide_eq_false (show ¬ (1 ≤ g ∧ g ≤ 68719476736) by omega)]; rfl]; exact rri0 A D g (by omega) w
theorem knew_no (A D : Nat → Int) (g : Int) (h : knR A D g = false) (w : World) : Calls Try.prog 46 #[.agg #[.int .i64 (A 0), .int .i64 (A 1), .int .i64 (A 2)], .agg #[.int .i64 (D 0), .int .i64 (D 1), .int .i64 (D 2)], .int .i64 g] w fun e w' => e = .returned (.tuple #[.pointer none, .int .i64 2]) ∧ Below w.heap.size w w' := by
  cases hg : decide (1 ≤ g ∧ g ≤ 68719476736)
  · exact knew0 A D g hg w
  · cases hd : kIn D 0 68719476736
    · exact knew1 A D g hg hd w
    · cases ha : kIn A (-68719476736) 68719476736
      · exact knew2 A D g hg hd ha w
      · unfold knR at h
        rw [hg, hd, ha] at h
        cases h
theorem knR_true {A D : Nat → Int} {g : Int} (h : knR A D g = true) : (1 ≤ g ∧ g ≤ 68719476736) ∧ kIn D 0 68719476736 = true ∧ kIn A (-68719476736) 68719476736 = true := by
  unfold knR at h
  simp only [Bool.and_eq_true, decide_eq_true_eq] at h
  exact ⟨h.1.1, h.1.2, h.2⟩
theorem knew_ok (A D : Nat → Int) (g : Int) (h : knR A D g = true) (w : World) : Calls Try.prog 46 #[.agg #[.int .i64 (A 0), .int .i64 (A 1), .int .i64 (A 2)], .agg #[.int .i64 (D 0), .int .i64 (D 1), .int .i64 (D 2)], .int .i64 g] w fun e w' => ∃ b, w.heap.size ≤ b ∧ e = .returned (.tuple #[.pointer (some ⟨b, 0, none⟩), .int .i64 0]) ∧ Held b (KeC A (dgl D) g 0 0) w' ∧ Below w.heap.size w w' := by
  obtain ⟨h1, h2, h3⟩ := knR_true h
  exact knew3 A D g (decide_eq_true h1) h2 h3 w
theorem rnw_box (w : World) (A D : Nat → Int) (g : Int) : ∃ V, V = (((w.alloc (.cells #[.int .i64 (A 0), .int .i64 (A 1), .int .i64 (A 2)] 54)).alloc (.cells #[.int .i64 (D 0), .int .i64 (D 1), .int .i64 (D 2)] 54)).alloc (.cells #[.int .i64 (A 0), .int .i64 (A 1), .int .i64 (A 2), .int .i64 0, .int .i64 0, .int .i64 0, .int .i64 0, .int .i64 0, .int .i64 0, .int .i64 0, .int .i64 0, .int .i64 0, .int .i64 g, .int .i64 0, .int .i64 0] 99)) ∧ Below w.heap.size w V ∧ Held w.heap.size [.int .i64 (A 0), .int .i64 (A 1), .int .i64 (A 2)] V ∧ Held (w.heap.size + 1) [.int .i64 (D 0), .int .i64 (D 1), .int .i64 (D 2)] V ∧ Held (w.heap.size + 2) [.int .i64 (A 0), .int .i64 (A 1), .int .i64 (A 2), .int .i64 0, .int .i64 0, .int .i64 0, .int .i64 0, .int .i64 0, .int .i64 0, .int .i64 0, .int .i64 0, .int .i64 0, .int .i64 g, .int .i64 0, .int .i64 0] V ∧ V.heap.size = w.heap.size + 3 := by
  refine ⟨_, rfl, (by repeat (first | exact Below.refl _ _ | assumption | apply Below.drew | apply below_drewN | (refine Below.alloc ?_ (by first | exact Nat.le_refl _ | omega | (simp <;> omega)) _) | (refine Below.setCell ?_ (by first | exact Nat.le_refl _ | omega | (simp <;> omega)) _))), ?_, ?_, ?_, by simp⟩
  · have := (((Held.new w [.int .i64 (A 0), .int .i64 (A 1), .int .i64 (A 2)] 54).alloc (.cells #[.int .i64 (D 0), .int .i64 (D 1), .int .i64 (D 2)] 54)).alloc (.cells #[.int .i64 (A 0), .int .i64 (A 1), .int .i64 (A 2), .int .i64 0, .int .i64 0, .int .i64 0, .int .i64 0, .int .i64 0, .int .i64 0, .int .i64 0, .int .i64 0, .int .i64 0, .int .i64 g, .int .i64 0, .int .i64 0] 99))
    simpa using this
  · have := ((Held.new (w.alloc (.cells #[.int .i64 (A 0), .int .i64 (A 1), .int .i64 (A 2)] 54)) [.int .i64 (D 0), .int .i64 (D 1), .int .i64 (D 2)] 54).alloc (.cells #[.int .i64 (A 0), .int .i64 (A 1), .int .i64 (A 2), .int .i64 0, .int .i64 0, .int .i64 0, .int .i64 0, .int .i64 0, .int .i64 0, .int .i64 0, .int .i64 0, .int .i64 0, .int .i64 g, .int .i64 0, .int .i64 0] 99))
    simpa using this
  · have := (Held.new ((w.alloc (.cells #[.int .i64 (A 0), .int .i64 (A 1), .int .i64 (A 2)] 54)).alloc (.cells #[.int .i64 (D 0), .int .i64 (D 1), .int .i64 (D 2)] 54)) [.int .i64 (A 0), .int .i64 (A 1), .int .i64 (A 2), .int .i64 0, .int .i64 0, .int .i64 0, .int .i64 0, .int .i64 0, .int .i64 0, .int .i64 0, .int .i64 0, .int .i64 0, .int .i64 g, .int .i64 0, .int .i64 0] 99)
    simpa using this
/-- The first k of the diagonal are laid. -/
def kDg (D : Nat → Int) (k t : Nat) : Int := if t % 4 = 0 ∧ t / 4 < k then D (t / 4) else 0
theorem kDg_all (D : Nat → Int) (t : Nat) (ht : t < 9) : kDg D 3 t = dgl D t := by
  unfold kDg dgl
  by_cases hd : t % 4 = 0
  · rw [if_pos ⟨hd, by omega⟩, if_pos hd]
  · rw [if_neg (fun q => hd q.1), if_neg hd]
theorem kDg_zero (A D : Nat → Int) (g : Int) : KeC A (kDg D 0) g 0 0 = [.int .i64 (A 0), .int .i64 (A 1), .int .i64 (A 2), .int .i64 0, .int .i64 0, .int .i64 0, .int .i64 0, .int .i64 0, .int .i64 0, .int .i64 0, .int .i64 0, .int .i64 0, .int .i64 g, .int .i64 0, .int .i64 0] := by simp [KeC, kDg]
theorem kDg_set0 (A D : Nat → Int) (g : Int) : (KeC A (kDg D 0) g 0 0).set 3 (.int .i64 (D 0)) = KeC A (kDg D 1) g 0 0 := by simp [KeC, kDg]
theorem kDg_set1 (A D : Nat → Int) (g : Int) : (KeC A (kDg D 1) g 0 0).set 7 (.int .i64 (D 1)) = KeC A (kDg D 2) g 0 0 := by simp [KeC, kDg]
theorem kDg_set2 (A D : Nat → Int) (g : Int) : (KeC A (kDg D 2) g 0 0).set 11 (.int .i64 (D 2)) = KeC A (kDg D 3) g 0 0 := by simp [KeC, kDg]
set_option maxRecDepth 100000 in
set_option maxHeartbeats 8000000 in
theorem rknew (A D : Nat → Int) (g : Int) (w : World) : Calls Try.prog 56 #[.agg #[.int .i64 (A 0), .int .i64 (A 1), .int .i64 (A 2)], .agg #[.int .i64 (D 0), .int .i64 (D 1), .int .i64 (D 2)], .int .i64 g] w fun e w' => ∃ b, w.heap.size ≤ b ∧ e = .returned (.pointer (some ⟨b, 0, none⟩)) ∧ Held b (KeC A (dgl D) g 0 0) w' ∧ Below w.heap.size w w' := by
  obtain ⟨V, eV, hb0, hA, hD, hK, hz⟩ := rnw_box w A D g
  rw [← kDg_zero A D g] at hK
  have FE := Lib.hid (KeC_eq (X := A) g 0 0 (fun _ _ => rfl) (kDg_all D))
  have KD := Lib.hid hD
  have KK := Lib.hid hK
  have BS := Lib.hid hb0
  replace eV := Lib.hid eV
  replace hz := Lib.hid hz
  clear hA hD hK hb0
  go_enter Try.func56, Try.ntmps56
  go_upto_region 2 with (fail)
  rw [← eV.out]
  go_wp2_with fail
  go_loopw [8] (fun i u => ∃ k : Nat, k ≤ 3 ∧ i = .int .i64 (k : Int) ∧ Hid (Held (w.heap.size + 1) [.int .i64 (D 0), .int .i64 (D 1), .int .i64 (D 2)] u) ∧ Hid (Held (w.heap.size + 2) (KeC A (kDg D k) g 0 0) u) ∧ Hid (Below w.heap.size w u)) (fun i _ => 3 - (intOf i).toNat)
  case atStart => exact ⟨0, by omega, rfl, KD, KK, BS⟩
  case round =>
    clear KD KK BS
    obtain ⟨k, hk, rfl, KD, KK, BS⟩ := hrel
    rcases (show k = 0 ∨ k = 1 ∨ k = 2 ∨ k = 3 by omega) with rfl | rfl | rfl | rfl
    · have kk : ((0 : Nat) : Int) = 0 := rfl
      have c0 := KD.out.c 0 _ rfl
      have d0 := KK.out.c 3 _ rfl
      have f0 := KK.out.f 3 (by simp [KeC])
      have e4 : IntKind.i64.wrap 0 = 0 := by decide
      go_wp2_with fail
      refine region_moves (fun u => u.cell? ⟨w.heap.size + 1, 0, none⟩ = some (.int .i64 (D 0))) [(9, [(8, 9), (5, 9), (0, 9), (1, 9), (2, 9), (3, 9), (4, 9), (7, 8), (6, 7)])] [(.free, 0), (.free, 1), (.free, 2), (.free, 3), (.free, 4), (.take, 5), (.free, 6), (.free, 7), (.free, 8), (.late, 9)] _ (by kernel_rfl) (by kernel_rfl) (by kernel_rfl) (by kernel_rfl) (by decide) rfl (fun _ _ _ _ _ h => h) ?_
      simp only [List.filterMap_cons, List.filterMap_nil, List.getElem?_toArray, List.getElem?_cons_zero, List.getElem?_cons_succ, Option.map_some]
      iterate 5
        first
          | (refine mv_free ?_ (Or.inl ⟨by rfl, ?_⟩) (c0) ?_
             rotate_left 1
             · intro u
               go_simp
               try simp only [d1]
               try simp only [d2]
               try simp only [d3]
               try with_reducible rfl
             simp only [Act.put, List.setIfInBounds_toArray, List.set_cons_zero, List.set_cons_succ])
          | (refine mv_free _ (Or.inr ⟨by rfl, rfl⟩) (c0) ?_
             simp only [Act.put, List.setIfInBounds_toArray, List.set_cons_zero, List.set_cons_succ])
      iterate 1
        first
          | (refine mv_take ?_ (Or.inl ⟨by rfl, ?_⟩) (c0) ?_
             rotate_left 1
             · intro u hu
               (try dsimp only at hu)
               go_simp
               try with_reducible rfl
             simp only [Act.put, List.setIfInBounds_toArray, List.set_cons_zero, List.set_cons_succ])
          | (refine mv_take _ (Or.inr ⟨by rfl, rfl⟩) (c0) ?_
             simp only [Act.put, List.setIfInBounds_toArray, List.set_cons_zero, List.set_cons_succ])
      iterate 3
        first
          | (refine mv_free ?_ (Or.inl ⟨by rfl, ?_⟩) (c0) ?_
             rotate_left 1
             · intro u
               go_simp
               try simp only [d1]
               try simp only [d2]
               try simp only [d3]
               try with_reducible rfl
             simp only [Act.put, List.setIfInBounds_toArray, List.set_cons_zero, List.set_cons_succ])
          | (refine mv_free _ (Or.inr ⟨by rfl, rfl⟩) (c0) ?_
             simp only [Act.put, List.setIfInBounds_toArray, List.set_cons_zero, List.set_cons_succ])
      refine mv_late (fun K hK => ?_)
      go_simp
      refine hK.out (fun _ => True) _ _ ?_
      clear hK K
      refine mv_done ?_
      obtain ⟨w6, ew6⟩ : ∃ w6, w6 = (wr.setCell ⟨w.heap.size + 2, 3, none⟩ (.int .i64 (D 0))).drew := ⟨_, rfl⟩
      obtain ⟨k6, b6⟩ := (((HB.start KK.out).set 3 (.int .i64 (D 0)) (by simp [KeC])).is (kDg_set0 A D g)).fin (v' := w6) (by rw [ew6]; rfl) (by rw [ew6]; rfl) (by rw [ew6]; rfl) (by rw [ew6]; rfl)
      rw [← ew6]
      replace ew6 := Lib.hid ew6
      replace KD := Lib.hid (KD.out.beside b6 (by omega))
      replace KK := Lib.hid k6
      replace BS := Lib.hid (Below.beside BS.out b6 (by omega))
      clear k6 b6 c0 d0 f0
      go_wp2
      go_roundw
      case rel => exact ⟨0 + 1, by omega, by first | rfl | go_num, KD, KK, BS⟩
      case measure => simp [intOf]
    · have kk : ((1 : Nat) : Int) = 1 := rfl
      have c0 := KD.out.c 1 _ rfl
      have d0 := KK.out.c 7 _ rfl
      have f0 := KK.out.f 7 (by simp [KeC])
      have e4 : IntKind.i64.wrap 4 = 4 := by decide
      go_wp2_with fail
      refine region_moves (fun u => u.cell? ⟨w.heap.size + 1, 1, none⟩ = some (.int .i64 (D 1))) [(9, [(8, 9), (5, 9), (0, 9), (1, 9), (2, 9), (3, 9), (4, 9), (7, 8), (6, 7)])] [(.free, 0), (.free, 1), (.free, 2), (.free, 3), (.free, 4), (.take, 5), (.free, 6), (.free, 7), (.free, 8), (.late, 9)] _ (by kernel_rfl) (by kernel_rfl) (by kernel_rfl) (by kernel_rfl) (by decide) rfl (fun _ _ _ _ _ h => h) ?_
      simp only [List.filterMap_cons, List.filterMap_nil, List.getElem?_toArray, List.getElem?_cons_zero, List.getElem?_cons_succ, Option.map_some]
      iterate 5
        first
          | (refine mv_free ?_ (Or.inl ⟨by rfl, ?_⟩) (c0) ?_
             rotate_left 1
             · intro u
               go_simp
               try simp only [d1]
               try simp only [d2]
               try simp only [d3]
               try with_reducible rfl
             simp only [Act.put, List.setIfInBounds_toArray, List.set_cons_zero, List.set_cons_succ])
          | (refine mv_free _ (Or.inr ⟨by rfl, rfl⟩) (c0) ?_
             simp only [Act.put, List.setIfInBounds_toArray, List.set_cons_zero, List.set_cons_succ])
      iterate 1
        first
          | (refine mv_take ?_ (Or.inl ⟨by rfl, ?_⟩) (c0) ?_
             rotate_left 1
             · intro u hu
               (try dsimp only at hu)
               go_simp
               try with_reducible rfl
             simp only [Act.put, List.setIfInBounds_toArray, List.set_cons_zero, List.set_cons_succ])
          | (refine mv_take _ (Or.inr ⟨by rfl, rfl⟩) (c0) ?_
             simp only [Act.put, List.setIfInBounds_toArray, List.set_cons_zero, List.set_cons_succ])
      iterate 3
        first
          | (refine mv_free ?_ (Or.inl ⟨by rfl, ?_⟩) (c0) ?_
             rotate_left 1
             · intro u
               go_simp
               try simp only [d1]
               try simp only [d2]
               try simp only [d3]
               try with_reducible rfl
             simp only [Act.put, List.setIfInBounds_toArray, List.set_cons_zero, List.set_cons_succ])
          | (refine mv_free _ (Or.inr ⟨by rfl, rfl⟩) (c0) ?_
             simp only [Act.put, List.setIfInBounds_toArray, List.set_cons_zero, List.set_cons_succ])
      refine mv_late (fun K hK => ?_)
      go_simp
      refine hK.out (fun _ => True) _ _ ?_
      clear hK K
      refine mv_done ?_
      obtain ⟨w6, ew6⟩ : ∃ w6, w6 = (wr.setCell ⟨w.heap.size + 2, 7, none⟩ (.int .i64 (D 1))).drew := ⟨_, rfl⟩
      obtain ⟨k6, b6⟩ := (((HB.start KK.out).set 7 (.int .i64 (D 1)) (by simp [KeC])).is (kDg_set1 A D g)).fin (v' := w6) (by rw [ew6]; rfl) (by rw [ew6]; rfl) (by rw [ew6]; rfl) (by rw [ew6]; rfl)
      rw [← ew6]
      replace ew6 := Lib.hid ew6
      replace KD := Lib.hid (KD.out.beside b6 (by omega))
      replace KK := Lib.hid k6
      replace BS := Lib.hid (Below.beside BS.out b6 (by omega))
      clear k6 b6 c0 d0 f0
      go_wp2
      go_roundw
      case rel => exact ⟨1 + 1, by omega, by first | rfl | go_num, KD, KK, BS⟩
      case measure => simp [intOf]
    · have kk : ((2 : Nat) : Int) = 2 := rfl
      have c0 := KD.out.c 2 _ rfl
      have d0 := KK.out.c 11 _ rfl
      have f0 := KK.out.f 11 (by simp [KeC])
      have e4 : IntKind.i64.wrap 8 = 8 := by decide
      go_wp2_with fail
      refine region_moves (fun u => u.cell? ⟨w.heap.size + 1, 2, none⟩ = some (.int .i64 (D 2))) [(9, [(8, 9), (5, 9), (0, 9), (1, 9), (2, 9), (3, 9), (4, 9), (7, 8), (6, 7)])] [(.free, 0), (.free, 1), (.free, 2), (.free, 3), (.free, 4), (.take, 5), (.free, 6), (.free, 7), (.free, 8), (.late, 9)] _ (by kernel_rfl) (by kernel_rfl) (by kernel_rfl) (by kernel_rfl) (by decide) rfl (fun _ _ _ _ _ h => h) ?_
      simp only [List.filterMap_cons, List.filterMap_nil, List.getElem?_toArray, List.getElem?_cons_zero, List.getElem?_cons_succ, Option.map_some]
      iterate 5
        first
          | (refine mv_free ?_ (Or.inl ⟨by rfl, ?_⟩) (c0) ?_
             rotate_left 1
             · intro u
               go_simp
               try simp only [d1]
               try simp only [d2]
               try simp only [d3]
               try with_reducible rfl
             simp only [Act.put, List.setIfInBounds_toArray, List.set_cons_zero, List.set_cons_succ])
          | (refine mv_free _ (Or.inr ⟨by rfl, rfl⟩) (c0) ?_
             simp only [Act.put, List.setIfInBounds_toArray, List.set_cons_zero, List.set_cons_succ])
      iterate 1
        first
          | (refine mv_take ?_ (Or.inl ⟨by rfl, ?_⟩) (c0) ?_
             rotate_left 1
             · intro u hu
               (try dsimp only at hu)
               go_simp
               try with_reducible rfl
             simp only [Act.put, List.setIfInBounds_toArray, List.set_cons_zero, List.set_cons_succ])
          | (refine mv_take _ (Or.inr ⟨by rfl, rfl⟩) (c0) ?_
             simp only [Act.put, List.setIfInBounds_toArray, List.set_cons_zero, List.set_cons_succ])
      iterate 3
        first
          | (refine mv_free ?_ (Or.inl ⟨by rfl, ?_⟩) (c0) ?_
             rotate_left 1
             · intro u
               go_simp
               try simp only [d1]
               try simp only [d2]
               try simp only [d3]
               try with_reducible rfl
             simp only [Act.put, List.setIfInBounds_toArray, List.set_cons_zero, List.set_cons_succ])
          | (refine mv_free _ (Or.inr ⟨by rfl, rfl⟩) (c0) ?_
             simp only [Act.put, List.setIfInBounds_toArray, List.set_cons_zero, List.set_cons_succ])
      refine mv_late (fun K hK => ?_)
      go_simp
      refine hK.out (fun _ => True) _ _ ?_
      clear hK K
      refine mv_done ?_
      obtain ⟨w6, ew6⟩ : ∃ w6, w6 = (wr.setCell ⟨w.heap.size + 2, 11, none⟩ (.int .i64 (D 2))).drew := ⟨_, rfl⟩
      obtain ⟨k6, b6⟩ := (((HB.start KK.out).set 11 (.int .i64 (D 2)) (by simp [KeC])).is (kDg_set2 A D g)).fin (v' := w6) (by rw [ew6]; rfl) (by rw [ew6]; rfl) (by rw [ew6]; rfl) (by rw [ew6]; rfl)
      rw [← ew6]
      replace ew6 := Lib.hid ew6
      replace KD := Lib.hid (KD.out.beside b6 (by omega))
      replace KK := Lib.hid k6
      replace BS := Lib.hid (Below.beside BS.out b6 (by omega))
      clear k6 b6 c0 d0 f0
      go_wp2
      go_roundw
      case rel => exact ⟨2 + 1, by omega, by first | rfl | go_num, KD, KK, BS⟩
      case measure => simp [intOf]
    · have kk : ((3 : Nat) : Int) = 3 := rfl
      go_wp2
      go_ret
      exact ⟨w.heap.size + 2, by omega, rfl, FE.out ▸ KK.out, BS.out⟩
theorem ksm_box (w : World) (Q : Nat → Int) : ∃ V, V = ((w.alloc (.cells #[.int .i64 (Q 0), .int .i64 (Q 1), .int .i64 (Q 2), .int .i64 (Q 3), .int .i64 (Q 4), .int .i64 (Q 5), .int .i64 (Q 6), .int .i64 (Q 7), .int .i64 (Q 8)] 56)).alloc (.cells #[.int .i64 (Q 0), .int .i64 (Q 1), .int .i64 (Q 2), .int .i64 (Q 3), .int .i64 (Q 4), .int .i64 (Q 5), .int .i64 (Q 6), .int .i64 (Q 7), .int .i64 (Q 8)] 58)) ∧ Below w.heap.size w V ∧ Held w.heap.size [.int .i64 (Q 0), .int .i64 (Q 1), .int .i64 (Q 2), .int .i64 (Q 3), .int .i64 (Q 4), .int .i64 (Q 5), .int .i64 (Q 6), .int .i64 (Q 7), .int .i64 (Q 8)] V ∧ Held (w.heap.size + 1) [.int .i64 (Q 0), .int .i64 (Q 1), .int .i64 (Q 2), .int .i64 (Q 3), .int .i64 (Q 4), .int .i64 (Q 5), .int .i64 (Q 6), .int .i64 (Q 7), .int .i64 (Q 8)] V ∧ V.heap.size = w.heap.size + 2 := by
  refine ⟨_, rfl, (by repeat (first | exact Below.refl _ _ | assumption | apply Below.drew | apply below_drewN | (refine Below.alloc ?_ (by first | exact Nat.le_refl _ | omega | (simp <;> omega)) _) | (refine Below.setCell ?_ (by first | exact Nat.le_refl _ | omega | (simp <;> omega)) _))), ?_, ?_, by simp⟩
  · have := ((Held.new w [.int .i64 (Q 0), .int .i64 (Q 1), .int .i64 (Q 2), .int .i64 (Q 3), .int .i64 (Q 4), .int .i64 (Q 5), .int .i64 (Q 6), .int .i64 (Q 7), .int .i64 (Q 8)] 56).alloc (.cells #[.int .i64 (Q 0), .int .i64 (Q 1), .int .i64 (Q 2), .int .i64 (Q 3), .int .i64 (Q 4), .int .i64 (Q 5), .int .i64 (Q 6), .int .i64 (Q 7), .int .i64 (Q 8)] 58))
    simpa using this
  · have := (Held.new (w.alloc (.cells #[.int .i64 (Q 0), .int .i64 (Q 1), .int .i64 (Q 2), .int .i64 (Q 3), .int .i64 (Q 4), .int .i64 (Q 5), .int .i64 (Q 6), .int .i64 (Q 7), .int .i64 (Q 8)] 56)) [.int .i64 (Q 0), .int .i64 (Q 1), .int .i64 (Q 2), .int .i64 (Q 3), .int .i64 (Q 4), .int .i64 (Q 5), .int .i64 (Q 6), .int .i64 (Q 7), .int .i64 (Q 8)] 58)
    simpa using this
set_option maxRecDepth 100000 in
set_option maxHeartbeats 8000000 in
theorem ksame (Q : Nat → Int) (w : World) : Calls Try.prog 55 #[.agg #[.int .i64 (Q 0), .int .i64 (Q 1), .int .i64 (Q 2), .int .i64 (Q 3), .int .i64 (Q 4), .int .i64 (Q 5), .int .i64 (Q 6), .int .i64 (Q 7), .int .i64 (Q 8)], .agg #[.int .i64 (Q 0), .int .i64 (Q 1), .int .i64 (Q 2), .int .i64 (Q 3), .int .i64 (Q 4), .int .i64 (Q 5), .int .i64 (Q 6), .int .i64 (Q 7), .int .i64 (Q 8)]] w fun e w' => e = .returned (.bool true) ∧ Below w.heap.size w w' := by
  obtain ⟨V, eV, hb0, hX, hY, hz⟩ := ksm_box w Q
  have KX := Lib.hid hX
  have KY := Lib.hid hY
  have BS := Lib.hid hb0
  replace eV := Lib.hid eV
  replace hz := Lib.hid hz
  clear hX hY hb0
  go_enter Try.func55, Try.ntmps55
  go_wp2_with fail
  rw [← eV.out]
  go_wp2_with fail
  go_loopw [5] (fun i u => ∃ k : Nat, k ≤ 9 ∧ i = .int .i64 (k : Int) ∧ Hid (Held w.heap.size [.int .i64 (Q 0), .int .i64 (Q 1), .int .i64 (Q 2), .int .i64 (Q 3), .int .i64 (Q 4), .int .i64 (Q 5), .int .i64 (Q 6), .int .i64 (Q 7), .int .i64 (Q 8)] u) ∧ Hid (Held (w.heap.size + 1) [.int .i64 (Q 0), .int .i64 (Q 1), .int .i64 (Q 2), .int .i64 (Q 3), .int .i64 (Q 4), .int .i64 (Q 5), .int .i64 (Q 6), .int .i64 (Q 7), .int .i64 (Q 8)] u) ∧ Hid (Below w.heap.size w u)) (fun i _ => 9 - (intOf i).toNat)
  case atStart => exact ⟨0, by omega, rfl, KX, KY, BS⟩
  case round =>
    clear KX KY BS
    obtain ⟨k, hk, rfl, KX, KY, BS⟩ := hrel
    rcases (show k = 0 ∨ k = 1 ∨ k = 2 ∨ k = 3 ∨ k = 4 ∨ k = 5 ∨ k = 6 ∨ k = 7 ∨ k = 8 ∨ k = 9 by omega) with rfl | rfl | rfl | rfl | rfl | rfl | rfl | rfl | rfl | rfl
    · have kk : ((0 : Nat) : Int) = 0 := rfl
      have c0 : wr.cell? ⟨w.heap.size, 0, none⟩ = some (.int .i64 (Q 0)) := KX.out.c 0 _ rfl
      have d0 : wr.cell? ⟨w.heap.size + 1, 0, none⟩ = some (.int .i64 (Q 0)) := KY.out.c 0 _ rfl
      have e1 : IntKind.i64.wrap 0 = 0 := by decide
      go_wp2_with fail
      refine region_moves (fun u => u.cell? ⟨w.heap.size, 0, none⟩ = some (.int .i64 (Q 0)) ∧ u.cell? ⟨w.heap.size + 1, 0, none⟩ = some (.int .i64 (Q 0))) [] [(.free, 0), (.free, 1), (.free, 2), (.free, 3), (.free, 4), (.free, 5), (.take, 6), (.free, 7), (.free, 8), (.take, 9), (.free, 10)] _ (by kernel_rfl) (by kernel_rfl) (by kernel_rfl) (by kernel_rfl) (by decide) rfl (fun _ _ _ _ _ h => h) ?_
      simp only [List.filterMap_cons, List.filterMap_nil, List.getElem?_toArray, List.getElem?_cons_zero, List.getElem?_cons_succ, Option.map_some]
      iterate 6
        first
          | (refine mv_free ?_ (Or.inl ⟨by rfl, ?_⟩) (⟨c0, d0⟩) ?_
             rotate_left 1
             · intro u
               go_simp
               try simp only [d1]
               try simp only [d2]
               try simp only [d3]
               try with_reducible rfl
             simp only [Act.put, List.setIfInBounds_toArray, List.set_cons_zero, List.set_cons_succ])
          | (refine mv_free _ (Or.inr ⟨by rfl, rfl⟩) (⟨c0, d0⟩) ?_
             simp only [Act.put, List.setIfInBounds_toArray, List.set_cons_zero, List.set_cons_succ])
      iterate 1
        first
          | (refine mv_take ?_ (Or.inl ⟨by rfl, ?_⟩) (⟨c0, d0⟩) ?_
             rotate_left 1
             · intro u hu
               (try dsimp only at hu)
               go_simp
               try with_reducible rfl
             simp only [Act.put, List.setIfInBounds_toArray, List.set_cons_zero, List.set_cons_succ])
          | (refine mv_take _ (Or.inr ⟨by rfl, rfl⟩) (⟨c0, d0⟩) ?_
             simp only [Act.put, List.setIfInBounds_toArray, List.set_cons_zero, List.set_cons_succ])
      iterate 2
        first
          | (refine mv_free ?_ (Or.inl ⟨by rfl, ?_⟩) (⟨c0, d0⟩) ?_
             rotate_left 1
             · intro u
               go_simp
               try simp only [d1]
               try simp only [d2]
               try simp only [d3]
               try with_reducible rfl
             simp only [Act.put, List.setIfInBounds_toArray, List.set_cons_zero, List.set_cons_succ])
          | (refine mv_free _ (Or.inr ⟨by rfl, rfl⟩) (⟨c0, d0⟩) ?_
             simp only [Act.put, List.setIfInBounds_toArray, List.set_cons_zero, List.set_cons_succ])
      iterate 1
        first
          | (refine mv_take ?_ (Or.inl ⟨by rfl, ?_⟩) (⟨c0, d0⟩) ?_
             rotate_left 1
             · intro u hu
               (try dsimp only at hu)
               go_simp
               try with_reducible rfl
             simp only [Act.put, List.setIfInBounds_toArray, List.set_cons_zero, List.set_cons_succ])
          | (refine mv_take _ (Or.inr ⟨by rfl, rfl⟩) (⟨c0, d0⟩) ?_
             simp only [Act.put, List.setIfInBounds_toArray, List.set_cons_zero, List.set_cons_succ])
      iterate 1
        first
          | (refine mv_free ?_ (Or.inl ⟨by rfl, ?_⟩) (⟨c0, d0⟩) ?_
             rotate_left 1
             · intro u
               go_simp
               try simp only [d1]
               try simp only [d2]
               try simp only [d3]
               try with_reducible rfl
             simp only [Act.put, List.setIfInBounds_toArray, List.set_cons_zero, List.set_cons_succ])
          | (refine mv_free _ (Or.inr ⟨by rfl, rfl⟩) (⟨c0, d0⟩) ?_
             simp only [Act.put, List.setIfInBounds_toArray, List.set_cons_zero, List.set_cons_succ])
      refine mv_done ?_
      go_wp2
      go_roundw
      case rel => exact ⟨0 + 1, by omega, by first | rfl | go_num, Lib.hid KX.out.drew, Lib.hid KY.out.drew, Lib.hid BS.out.drew⟩
      case measure => simp [intOf]
    · have kk : ((1 : Nat) : Int) = 1 := rfl
      have c0 : wr.cell? ⟨w.heap.size, 1, none⟩ = some (.int .i64 (Q 1)) := KX.out.c 1 _ rfl
      have d0 : wr.cell? ⟨w.heap.size + 1, 1, none⟩ = some (.int .i64 (Q 1)) := KY.out.c 1 _ rfl
      have e1 : IntKind.i64.wrap 0 = 0 := by decide
      have e2 : IntKind.i64.wrap 1 = 1 := by decide
      go_wp2_with fail
      refine region_moves (fun u => u.cell? ⟨w.heap.size, 1, none⟩ = some (.int .i64 (Q 1)) ∧ u.cell? ⟨w.heap.size + 1, 1, none⟩ = some (.int .i64 (Q 1))) [] [(.free, 0), (.free, 1), (.free, 2), (.free, 3), (.free, 4), (.free, 5), (.take, 6), (.free, 7), (.free, 8), (.take, 9), (.free, 10)] _ (by kernel_rfl) (by kernel_rfl) (by kernel_rfl) (by kernel_rfl) (by decide) rfl (fun _ _ _ _ _ h => h) ?_
      simp only [List.filterMap_cons, List.filterMap_nil, List.getElem?_toArray, List.getElem?_cons_zero, List.getElem?_cons_succ, Option.map_some]
      iterate 6
        first
          | (refine mv_free ?_ (Or.inl ⟨by rfl, ?_⟩) (⟨c0, d0⟩) ?_
             rotate_left 1
             · intro u
               go_simp
               try simp only [d1]
               try simp only [d2]
               try simp only [d3]
               try with_reducible rfl
             simp only [Act.put, List.setIfInBounds_toArray, List.set_cons_zero, List.set_cons_succ])
          | (refine mv_free _ (Or.inr ⟨by rfl, rfl⟩) (⟨c0, d0⟩) ?_
             simp only [Act.put, List.setIfInBounds_toArray, List.set_cons_zero, List.set_cons_succ])
      iterate 1
        first
          | (refine mv_take ?_ (Or.inl ⟨by rfl, ?_⟩) (⟨c0, d0⟩) ?_
             rotate_left 1
             · intro u hu
               (try dsimp only at hu)
               go_simp
               try with_reducible rfl
             simp only [Act.put, List.setIfInBounds_toArray, List.set_cons_zero, List.set_cons_succ])
          | (refine mv_take _ (Or.inr ⟨by rfl, rfl⟩) (⟨c0, d0⟩) ?_
             simp only [Act.put, List.setIfInBounds_toArray, List.set_cons_zero, List.set_cons_succ])
      iterate 2
        first
          | (refine mv_free ?_ (Or.inl ⟨by rfl, ?_⟩) (⟨c0, d0⟩) ?_
             rotate_left 1
             · intro u
               go_simp
               try simp only [d1]
               try simp only [d2]
               try simp only [d3]
               try with_reducible rfl
             simp only [Act.put, List.setIfInBounds_toArray, List.set_cons_zero, List.set_cons_succ])
          | (refine mv_free _ (Or.inr ⟨by rfl, rfl⟩) (⟨c0, d0⟩) ?_
             simp only [Act.put, List.setIfInBounds_toArray, List.set_cons_zero, List.set_cons_succ])
      iterate 1
        first
          | (refine mv_take ?_ (Or.inl ⟨by rfl, ?_⟩) (⟨c0, d0⟩) ?_
             rotate_left 1
             · intro u hu
               (try dsimp only at hu)
               go_simp
               try with_reducible rfl
             simp only [Act.put, List.setIfInBounds_toArray, List.set_cons_zero, List.set_cons_succ])
          | (refine mv_take _ (Or.inr ⟨by rfl, rfl⟩) (⟨c0, d0⟩) ?_
             simp only [Act.put, List.setIfInBounds_toArray, List.set_cons_zero, List.set_cons_succ])
      iterate 1
        first
          | (refine mv_free ?_ (Or.inl ⟨by rfl, ?_⟩) (⟨c0, d0⟩) ?_
             rotate_left 1
             · intro u
               go_simp
               try simp only [d1]
               try simp only [d2]
               try simp only [d3]
               try with_reducible rfl
             simp only [Act.put, List.setIfInBounds_toArray, List.set_cons_zero, List.set_cons_succ])
          | (refine mv_free _ (Or.inr ⟨by rfl, rfl⟩) (⟨c0, d0⟩) ?_
             simp only [Act.put, List.setIfInBounds_toArray, List.set_cons_zero, List.set_cons_succ])
      refine mv_done ?_
      go_wp2
      go_roundw
      case rel => exact ⟨1 + 1, by omega, by first | rfl | go_num, Lib.hid KX.out.drew, Lib.hid KY.out.drew, Lib.hid BS.out.drew⟩
      case measure => simp [intOf]
    · have kk : ((2 : Nat) : Int) = 2 := rfl
      have c0 : wr.cell? ⟨w.heap.size, 2, none⟩ = some (.int .i64 (Q 2)) := KX.out.c 2 _ rfl
      have d0 : wr.cell? ⟨w.heap.size + 1, 2, none⟩ = some (.int .i64 (Q 2)) := KY.out.c 2 _ rfl
      have e1 : IntKind.i64.wrap 0 = 0 := by decide
      have e2 : IntKind.i64.wrap 2 = 2 := by decide
      go_wp2_with fail
      refine region_moves (fun u => u.cell? ⟨w.heap.size, 2, none⟩ = some (.int .i64 (Q 2)) ∧ u.cell? ⟨w.heap.size + 1, 2, none⟩ = some (.int .i64 (Q 2))) [] [(.free, 0), (.free, 1), (.free, 2), (.free, 3), (.free, 4), (.free, 5), (.take, 6), (.free, 7), (.free, 8), (.take, 9), (.free, 10)] _ (by kernel_rfl) (by kernel_rfl) (by kernel_rfl) (by kernel_rfl) (by decide) rfl (fun _ _ _ _ _ h => h) ?_
      simp only [List.filterMap_cons, List.filterMap_nil, List.getElem?_toArray, List.getElem?_cons_zero, List.getElem?_cons_succ, Option.map_some]
      iterate 6
        first
          | (refine mv_free ?_ (Or.inl ⟨by rfl, ?_⟩) (⟨c0, d0⟩) ?_
             rotate_left 1
             · intro u
               go_simp
               try simp only [d1]
               try simp only [d2]
               try simp only [d3]
               try with_reducible rfl
             simp only [Act.put, List.setIfInBounds_toArray, List.set_cons_zero, List.set_cons_succ])
          | (refine mv_free _ (Or.inr ⟨by rfl, rfl⟩) (⟨c0, d0⟩) ?_
             simp only [Act.put, List.setIfInBounds_toArray, List.set_cons_zero, List.set_cons_succ])
      iterate 1
        first
          | (refine mv_take ?_ (Or.inl ⟨by rfl, ?_⟩) (⟨c0, d0⟩) ?_
             rotate_left 1
             · intro u hu
               (try dsimp only at hu)
               go_simp
               try with_reducible rfl
             simp only [Act.put, List.setIfInBounds_toArray, List.set_cons_zero, List.set_cons_succ])
          | (refine mv_take _ (Or.inr ⟨by rfl, rfl⟩) (⟨c0, d0⟩) ?_
             simp only [Act.put, List.setIfInBounds_toArray, List.set_cons_zero, List.set_cons_succ])
      iterate 2
        first
          | (refine mv_free ?_ (Or.inl ⟨by rfl, ?_⟩) (⟨c0, d0⟩) ?_
             rotate_left 1
             · intro u
               go_simp
               try simp only [d1]
               try simp only [d2]
               try simp only [d3]
               try with_reducible rfl
             simp only [Act.put, List.setIfInBounds_toArray, List.set_cons_zero, List.set_cons_succ])
          | (refine mv_free _ (Or.inr ⟨by rfl, rfl⟩) (⟨c0, d0⟩) ?_
             simp only [Act.put, List.setIfInBounds_toArray, List.set_cons_zero, List.set_cons_succ])
      iterate 1
        first
          | (refine mv_take ?_ (Or.inl ⟨by rfl, ?_⟩) (⟨c0, d0⟩) ?_
             rotate_left 1
             · intro u hu
               (try dsimp only at hu)
               go_simp
               try with_reducible rfl
             simp only [Act.put, List.setIfInBounds_toArray, List.set_cons_zero, List.set_cons_succ])
          | (refine mv_take _ (Or.inr ⟨by rfl, rfl⟩) (⟨c0, d0⟩) ?_
             simp only [Act.put, List.setIfInBounds_toArray, List.set_cons_zero, List.set_cons_succ])
      iterate 1
        first
          | (refine mv_free ?_ (Or.inl ⟨by rfl, ?_⟩) (⟨c0, d0⟩) ?_
             rotate_left 1
             · intro u
               go_simp
               try simp only [d1]
               try simp only [d2]
               try simp only [d3]
               try with_reducible rfl
             simp only [Act.put, List.setIfInBounds_toArray, List.set_cons_zero, List.set_cons_succ])
          | (refine mv_free _ (Or.inr ⟨by rfl, rfl⟩) (⟨c0, d0⟩) ?_
             simp only [Act.put, List.setIfInBounds_toArray, List.set_cons_zero, List.set_cons_succ])
      refine mv_done ?_
      go_wp2
      go_roundw
      case rel => exact ⟨2 + 1, by omega, by first | rfl | go_num, Lib.hid KX.out.drew, Lib.hid KY.out.drew, Lib.hid BS.out.drew⟩
      case measure => simp [intOf]
    · have kk : ((3 : Nat) : Int) = 3 := rfl
      have c0 : wr.cell? ⟨w.heap.size, 3, none⟩ = some (.int .i64 (Q 3)) := KX.out.c 3 _ rfl
      have d0 : wr.cell? ⟨w.heap.size + 1, 3, none⟩ = some (.int .i64 (Q 3)) := KY.out.c 3 _ rfl
      have e1 : IntKind.i64.wrap 1 = 1 := by decide
      have e2 : IntKind.i64.wrap 0 = 0 := by decide
      go_wp2_with fail
      refine region_moves (fun u => u.cell? ⟨w.heap.size, 3, none⟩ = some (.int .i64 (Q 3)) ∧ u.cell? ⟨w.heap.size + 1, 3, none⟩ = some (.int .i64 (Q 3))) [] [(.free, 0), (.free, 1), (.free, 2), (.free, 3), (.free, 4), (.free, 5), (.take, 6), (.free, 7), (.free, 8), (.take, 9), (.free, 10)] _ (by kernel_rfl) (by kernel_rfl) (by kernel_rfl) (by kernel_rfl) (by decide) rfl (fun _ _ _ _ _ h => h) ?_
      simp only [List.filterMap_cons, List.filterMap_nil, List.getElem?_toArray, List.getElem?_cons_zero, List.getElem?_cons_succ, Option.map_some]
      iterate 6
        first
          | (refine mv_free ?_ (Or.inl ⟨by rfl, ?_⟩) (⟨c0, d0⟩) ?_
             rotate_left 1
             · intro u
               go_simp
               try simp only [d1]
               try simp only [d2]
               try simp only [d3]
               try with_reducible rfl
             simp only [Act.put, List.setIfInBounds_toArray, List.set_cons_zero, List.set_cons_succ])
          | (refine mv_free _ (Or.inr ⟨by rfl, rfl⟩) (⟨c0, d0⟩) ?_
             simp only [Act.put, List.setIfInBounds_toArray, List.set_cons_zero, List.set_cons_succ])
      iterate 1
        first
          | (refine mv_take ?_ (Or.inl ⟨by rfl, ?_⟩) (⟨c0, d0⟩) ?_
             rotate_left 1
             · intro u hu
               (try dsimp only at hu)
               go_simp
               try with_reducible rfl
             simp only [Act.put, List.setIfInBounds_toArray, List.set_cons_zero, List.set_cons_succ])
          | (refine mv_take _ (Or.inr ⟨by rfl, rfl⟩) (⟨c0, d0⟩) ?_
             simp only [Act.put, List.setIfInBounds_toArray, List.set_cons_zero, List.set_cons_succ])
      iterate 2
        first
          | (refine mv_free ?_ (Or.inl ⟨by rfl, ?_⟩) (⟨c0, d0⟩) ?_
             rotate_left 1
             · intro u
               go_simp
               try simp only [d1]
               try simp only [d2]
               try simp only [d3]
               try with_reducible rfl
             simp only [Act.put, List.setIfInBounds_toArray, List.set_cons_zero, List.set_cons_succ])
          | (refine mv_free _ (Or.inr ⟨by rfl, rfl⟩) (⟨c0, d0⟩) ?_
             simp only [Act.put, List.setIfInBounds_toArray, List.set_cons_zero, List.set_cons_succ])
      iterate 1
        first
          | (refine mv_take ?_ (Or.inl ⟨by rfl, ?_⟩) (⟨c0, d0⟩) ?_
             rotate_left 1
             · intro u hu
               (try dsimp only at hu)
               go_simp
               try with_reducible rfl
             simp only [Act.put, List.setIfInBounds_toArray, List.set_cons_zero, List.set_cons_succ])
          | (refine mv_take _ (Or.inr ⟨by rfl, rfl⟩) (⟨c0, d0⟩) ?_
             simp only [Act.put, List.setIfInBounds_toArray, List.set_cons_zero, List.set_cons_succ])
      iterate 1
        first
          | (refine mv_free ?_ (Or.inl ⟨by rfl, ?_⟩) (⟨c0, d0⟩) ?_
             rotate_left 1
             · intro u
               go_simp
               try simp only [d1]
               try simp only [d2]
               try simp only [d3]
               try with_reducible rfl
             simp only [Act.put, List.setIfInBounds_toArray, List.set_cons_zero, List.set_cons_succ])
          | (refine mv_free _ (Or.inr ⟨by rfl, rfl⟩) (⟨c0, d0⟩) ?_
             simp only [Act.put, List.setIfInBounds_toArray, List.set_cons_zero, List.set_cons_succ])
      refine mv_done ?_
      go_wp2
      go_roundw
      case rel => exact ⟨3 + 1, by omega, by first | rfl | go_num, Lib.hid KX.out.drew, Lib.hid KY.out.drew, Lib.hid BS.out.drew⟩
      case measure => simp [intOf]
    · have kk : ((4 : Nat) : Int) = 4 := rfl
      have c0 : wr.cell? ⟨w.heap.size, 4, none⟩ = some (.int .i64 (Q 4)) := KX.out.c 4 _ rfl
      have d0 : wr.cell? ⟨w.heap.size + 1, 4, none⟩ = some (.int .i64 (Q 4)) := KY.out.c 4 _ rfl
      have e1 : IntKind.i64.wrap 1 = 1 := by decide
      go_wp2_with fail
      refine region_moves (fun u => u.cell? ⟨w.heap.size, 4, none⟩ = some (.int .i64 (Q 4)) ∧ u.cell? ⟨w.heap.size + 1, 4, none⟩ = some (.int .i64 (Q 4))) [] [(.free, 0), (.free, 1), (.free, 2), (.free, 3), (.free, 4), (.free, 5), (.take, 6), (.free, 7), (.free, 8), (.take, 9), (.free, 10)] _ (by kernel_rfl) (by kernel_rfl) (by kernel_rfl) (by kernel_rfl) (by decide) rfl (fun _ _ _ _ _ h => h) ?_
      simp only [List.filterMap_cons, List.filterMap_nil, List.getElem?_toArray, List.getElem?_cons_zero, List.getElem?_cons_succ, Option.map_some]
      iterate 6
        first
          | (refine mv_free ?_ (Or.inl ⟨by rfl, ?_⟩) (⟨c0, d0⟩) ?_
             rotate_left 1
             · intro u
               go_simp
               try simp only [d1]
               try simp only [d2]
               try simp only [d3]
               try with_reducible rfl
             simp only [Act.put, List.setIfInBounds_toArray, List.set_cons_zero, List.set_cons_succ])
          | (refine mv_free _ (Or.inr ⟨by rfl, rfl⟩) (⟨c0, d0⟩) ?_
             simp only [Act.put, List.setIfInBounds_toArray, List.set_cons_zero, List.set_cons_succ])
      iterate 1
        first
          | (refine mv_take ?_ (Or.inl ⟨by rfl, ?_⟩) (⟨c0, d0⟩) ?_
             rotate_left 1
             · intro u hu
               (try dsimp only at hu)
               go_simp
               try with_reducible rfl
             simp only [Act.put, List.setIfInBounds_toArray, List.set_cons_zero, List.set_cons_succ])
          | (refine mv_take _ (Or.inr ⟨by rfl, rfl⟩) (⟨c0, d0⟩) ?_
             simp only [Act.put, List.setIfInBounds_toArray, List.set_cons_zero, List.set_cons_succ])
      iterate 2
        first
          | (refine mv_free ?_ (Or.inl ⟨by rfl, ?_⟩) (⟨c0, d0⟩) ?_
             rotate_left 1
             · intro u
               go_simp
               try simp only [d1]
               try simp only [d2]
               try simp only [d3]
               try with_reducible rfl
             simp only [Act.put, List.setIfInBounds_toArray, List.set_cons_zero, List.set_cons_succ])
          | (refine mv_free _ (Or.inr ⟨by rfl, rfl⟩) (⟨c0, d0⟩) ?_
             simp only [Act.put, List.setIfInBounds_toArray, List.set_cons_zero, List.set_cons_succ])
      iterate 1
        first
          | (refine mv_take ?_ (Or.inl ⟨by rfl, ?_⟩) (⟨c0, d0⟩) ?_
             rotate_left 1
             · intro u hu
               (try dsimp only at hu)
               go_simp
               try with_reducible rfl
             simp only [Act.put, List.setIfInBounds_toArray, List.set_cons_zero, List.set_cons_succ])
          | (refine mv_take _ (Or.inr ⟨by rfl, rfl⟩) (⟨c0, d0⟩) ?_
             simp only [Act.put, List.setIfInBounds_toArray, List.set_cons_zero, List.set_cons_succ])
      iterate 1
        first
          | (refine mv_free ?_ (Or.inl ⟨by rfl, ?_⟩) (⟨c0, d0⟩) ?_
             rotate_left 1
             · intro u
               go_simp
               try simp only [d1]
               try simp only [d2]
               try simp only [d3]
               try with_reducible rfl
             simp only [Act.put, List.setIfInBounds_toArray, List.set_cons_zero, List.set_cons_succ])
          | (refine mv_free _ (Or.inr ⟨by rfl, rfl⟩) (⟨c0, d0⟩) ?_
             simp only [Act.put, List.setIfInBounds_toArray, List.set_cons_zero, List.set_cons_succ])
      refine mv_done ?_
      go_wp2
      go_roundw
      case rel => exact ⟨4 + 1, by omega, by first | rfl | go_num, Lib.hid KX.out.drew, Lib.hid KY.out.drew, Lib.hid BS.out.drew⟩
      case measure => simp [intOf]
    · have kk : ((5 : Nat) : Int) = 5 := rfl
      have c0 : wr.cell? ⟨w.heap.size, 5, none⟩ = some (.int .i64 (Q 5)) := KX.out.c 5 _ rfl
      have d0 : wr.cell? ⟨w.heap.size + 1, 5, none⟩ = some (.int .i64 (Q 5)) := KY.out.c 5 _ rfl
      have e1 : IntKind.i64.wrap 1 = 1 := by decide
      have e2 : IntKind.i64.wrap 2 = 2 := by decide
      go_wp2_with fail
      refine region_moves (fun u => u.cell? ⟨w.heap.size, 5, none⟩ = some (.int .i64 (Q 5)) ∧ u.cell? ⟨w.heap.size + 1, 5, none⟩ = some (.int .i64 (Q 5))) [] [(.free, 0), (.free, 1), (.free, 2), (.free, 3), (.free, 4), (.free, 5), (.take, 6), (.free, 7), (.free, 8), (.take, 9), (.free, 10)] _ (by kernel_rfl) (by kernel_rfl) (by kernel_rfl) (by kernel_rfl) (by decide) rfl (fun _ _ _ _ _ h => h) ?_
      simp only [List.filterMap_cons, List.filterMap_nil, List.getElem?_toArray, List.getElem?_cons_zero, List.getElem?_cons_succ, Option.map_some]
      iterate 6
        first
          | (refine mv_free ?_ (Or.inl ⟨by rfl, ?_⟩) (⟨c0, d0⟩) ?_
             rotate_left 1
             · intro u
               go_simp
               try simp only [d1]
               try simp only [d2]
               try simp only [d3]
               try with_reducible rfl
             simp only [Act.put, List.setIfInBounds_toArray, List.set_cons_zero, List.set_cons_succ])
          | (refine mv_free _ (Or.inr ⟨by rfl, rfl⟩) (⟨c0, d0⟩) ?_
             simp only [Act.put, List.setIfInBounds_toArray, List.set_cons_zero, List.set_cons_succ])
      iterate 1
        first
          | (refine mv_take ?_ (Or.inl ⟨by rfl, ?_⟩) (⟨c0, d0⟩) ?_
             rotate_left 1
             · intro u hu
               (try dsimp only at hu)
               go_simp
               try with_reducible rfl
             simp only [Act.put, List.setIfInBounds_toArray, List.set_cons_zero, List.set_cons_succ])
          | (refine mv_take _ (Or.inr ⟨by rfl, rfl⟩) (⟨c0, d0⟩) ?_
             simp only [Act.put, List.setIfInBounds_toArray, List.set_cons_zero, List.set_cons_succ])
      iterate 2
        first
          | (refine mv_free ?_ (Or.inl ⟨by rfl, ?_⟩) (⟨c0, d0⟩) ?_
             rotate_left 1
             · intro u
               go_simp
               try simp only [d1]
               try simp only [d2]
               try simp only [d3]
               try with_reducible rfl
             simp only [Act.put, List.setIfInBounds_toArray, List.set_cons_zero, List.set_cons_succ])
          | (refine mv_free _ (Or.inr ⟨by rfl, rfl⟩) (⟨c0, d0⟩) ?_
             simp only [Act.put, List.setIfInBounds_toArray, List.set_cons_zero, List.set_cons_succ])
      iterate 1
        first
          | (refine mv_take ?_ (Or.inl ⟨by rfl, ?_⟩) (⟨c0, d0⟩) ?_
             rotate_left 1
             · intro u hu
               (try dsimp only at hu)
               go_simp
               try with_reducible rfl
             simp only [Act.put, List.setIfInBounds_toArray, List.set_cons_zero, List.set_cons_succ])
          | (refine mv_take _ (Or.inr ⟨by rfl, rfl⟩) (⟨c0, d0⟩) ?_
             simp only [Act.put, List.setIfInBounds_toArray, List.set_cons_zero, List.set_cons_succ])
      iterate 1
        first
          | (refine mv_free ?_ (Or.inl ⟨by rfl, ?_⟩) (⟨c0, d0⟩) ?_
             rotate_left 1
             · intro u
               go_simp
               try simp only [d1]
               try simp only [d2]
               try simp only [d3]
               try with_reducible rfl
             simp only [Act.put, List.setIfInBounds_toArray, List.set_cons_zero, List.set_cons_succ])
          | (refine mv_free _ (Or.inr ⟨by rfl, rfl⟩) (⟨c0, d0⟩) ?_
             simp only [Act.put, List.setIfInBounds_toArray, List.set_cons_zero, List.set_cons_succ])
      refine mv_done ?_
      go_wp2
      go_roundw
      case rel => exact ⟨5 + 1, by omega, by first | rfl | go_num, Lib.hid KX.out.drew, Lib.hid KY.out.drew, Lib.hid BS.out.drew⟩
      case measure => simp [intOf]
    · have kk : ((6 : Nat) : Int) = 6 := rfl
      have c0 : wr.cell? ⟨w.heap.size, 6, none⟩ = some (.int .i64 (Q 6)) := KX.out.c 6 _ rfl
      have d0 : wr.cell? ⟨w.heap.size + 1, 6, none⟩ = some (.int .i64 (Q 6)) := KY.out.c 6 _ rfl
      have e1 : IntKind.i64.wrap 2 = 2 := by decide
      have e2 : IntKind.i64.wrap 0 = 0 := by decide
      go_wp2_with fail
      refine region_moves (fun u => u.cell? ⟨w.heap.size, 6, none⟩ = some (.int .i64 (Q 6)) ∧ u.cell? ⟨w.heap.size + 1, 6, none⟩ = some (.int .i64 (Q 6))) [] [(.free, 0), (.free, 1), (.free, 2), (.free, 3), (.free, 4), (.free, 5), (.take, 6), (.free, 7), (.free, 8), (.take, 9), (.free, 10)] _ (by kernel_rfl) (by kernel_rfl) (by kernel_rfl) (by kernel_rfl) (by decide) rfl (fun _ _ _ _ _ h => h) ?_
      simp only [List.filterMap_cons, List.filterMap_nil, List.getElem?_toArray, List.getElem?_cons_zero, List.getElem?_cons_succ, Option.map_some]
      iterate 6
        first
          | (refine mv_free ?_ (Or.inl ⟨by rfl, ?_⟩) (⟨c0, d0⟩) ?_
             rotate_left 1
             · intro u
               go_simp
               try simp only [d1]
               try simp only [d2]
               try simp only [d3]
               try with_reducible rfl
             simp only [Act.put, List.setIfInBounds_toArray, List.set_cons_zero, List.set_cons_succ])
          | (refine mv_free _ (Or.inr ⟨by rfl, rfl⟩) (⟨c0, d0⟩) ?_
             simp only [Act.put, List.setIfInBounds_toArray, List.set_cons_zero, List.set_cons_succ])
      iterate 1
        first
          | (refine mv_take ?_ (Or.inl ⟨by rfl, ?_⟩) (⟨c0, d0⟩) ?_
             rotate_left 1
             · intro u hu
               (try dsimp only at hu)
               go_simp
               try with_reducible rfl
             simp only [Act.put, List.setIfInBounds_toArray, List.set_cons_zero, List.set_cons_succ])
          | (refine mv_take _ (Or.inr ⟨by rfl, rfl⟩) (⟨c0, d0⟩) ?_
             simp only [Act.put, List.setIfInBounds_toArray, List.set_cons_zero, List.set_cons_succ])
      iterate 2
        first
          | (refine mv_free ?_ (Or.inl ⟨by rfl, ?_⟩) (⟨c0, d0⟩) ?_
             rotate_left 1
             · intro u
               go_simp
               try simp only [d1]
               try simp only [d2]
               try simp only [d3]
               try with_reducible rfl
             simp only [Act.put, List.setIfInBounds_toArray, List.set_cons_zero, List.set_cons_succ])
          | (refine mv_free _ (Or.inr ⟨by rfl, rfl⟩) (⟨c0, d0⟩) ?_
             simp only [Act.put, List.setIfInBounds_toArray, List.set_cons_zero, List.set_cons_succ])
      iterate 1
        first
          | (refine mv_take ?_ (Or.inl ⟨by rfl, ?_⟩) (⟨c0, d0⟩) ?_
             rotate_left 1
             · intro u hu
               (try dsimp only at hu)
               go_simp
               try with_reducible rfl
             simp only [Act.put, List.setIfInBounds_toArray, List.set_cons_zero, List.set_cons_succ])
          | (refine mv_take _ (Or.inr ⟨by rfl, rfl⟩) (⟨c0, d0⟩) ?_
             simp only [Act.put, List.setIfInBounds_toArray, List.set_cons_zero, List.set_cons_succ])
      iterate 1
        first
          | (refine mv_free ?_ (Or.inl ⟨by rfl, ?_⟩) (⟨c0, d0⟩) ?_
             rotate_left 1
             · intro u
               go_simp
               try simp only [d1]
               try simp only [d2]
               try simp only [d3]
               try with_reducible rfl
             simp only [Act.put, List.setIfInBounds_toArray, List.set_cons_zero, List.set_cons_succ])
          | (refine mv_free _ (Or.inr ⟨by rfl, rfl⟩) (⟨c0, d0⟩) ?_
             simp only [Act.put, List.setIfInBounds_toArray, List.set_cons_zero, List.set_cons_succ])
      refine mv_done ?_
      go_wp2
      go_roundw
      case rel => exact ⟨6 + 1, by omega, by first | rfl | go_num, Lib.hid KX.out.drew, Lib.hid KY.out.drew, Lib.hid BS.out.drew⟩
      case measure => simp [intOf]
    · have kk : ((7 : Nat) : Int) = 7 := rfl
      have c0 : wr.cell? ⟨w.heap.size, 7, none⟩ = some (.int .i64 (Q 7)) := KX.out.c 7 _ rfl
      have d0 : wr.cell? ⟨w.heap.size + 1, 7, none⟩ = some (.int .i64 (Q 7)) := KY.out.c 7 _ rfl
      have e1 : IntKind.i64.wrap 2 = 2 := by decide
      have e2 : IntKind.i64.wrap 1 = 1 := by decide
      go_wp2_with fail
      refine region_moves (fun u => u.cell? ⟨w.heap.size, 7, none⟩ = some (.int .i64 (Q 7)) ∧ u.cell? ⟨w.heap.size + 1, 7, none⟩ = some (.int .i64 (Q 7))) [] [(.free, 0), (.free, 1), (.free, 2), (.free, 3), (.free, 4), (.free, 5), (.take, 6), (.free, 7), (.free, 8), (.take, 9), (.free, 10)] _ (by kernel_rfl) (by kernel_rfl) (by kernel_rfl) (by kernel_rfl) (by decide) rfl (fun _ _ _ _ _ h => h) ?_
      simp only [List.filterMap_cons, List.filterMap_nil, List.getElem?_toArray, List.getElem?_cons_zero, List.getElem?_cons_succ, Option.map_some]
      iterate 6
        first
          | (refine mv_free ?_ (Or.inl ⟨by rfl, ?_⟩) (⟨c0, d0⟩) ?_
             rotate_left 1
             · intro u
               go_simp
               try simp only [d1]
               try simp only [d2]
               try simp only [d3]
               try with_reducible rfl
             simp only [Act.put, List.setIfInBounds_toArray, List.set_cons_zero, List.set_cons_succ])
          | (refine mv_free _ (Or.inr ⟨by rfl, rfl⟩) (⟨c0, d0⟩) ?_
             simp only [Act.put, List.setIfInBounds_toArray, List.set_cons_zero, List.set_cons_succ])
      iterate 1
        first
          | (refine mv_take ?_ (Or.inl ⟨by rfl, ?_⟩) (⟨c0, d0⟩) ?_
             rotate_left 1
             · intro u hu
               (try dsimp only at hu)
               go_simp
               try with_reducible rfl
             simp only [Act.put, List.setIfInBounds_toArray, List.set_cons_zero, List.set_cons_succ])
          | (refine mv_take _ (Or.inr ⟨by rfl, rfl⟩) (⟨c0, d0⟩) ?_
             simp only [Act.put, List.setIfInBounds_toArray, List.set_cons_zero, List.set_cons_succ])
      iterate 2
        first
          | (refine mv_free ?_ (Or.inl ⟨by rfl, ?_⟩) (⟨c0, d0⟩) ?_
             rotate_left 1
             · intro u
               go_simp
               try simp only [d1]
               try simp only [d2]
               try simp only [d3]
               try with_reducible rfl
             simp only [Act.put, List.setIfInBounds_toArray, List.set_cons_zero, List.set_cons_succ])
          | (refine mv_free _ (Or.inr ⟨by rfl, rfl⟩) (⟨c0, d0⟩) ?_
             simp only [Act.put, List.setIfInBounds_toArray, List.set_cons_zero, List.set_cons_succ])
      iterate 1
        first
          | (refine mv_take ?_ (Or.inl ⟨by rfl, ?_⟩) (⟨c0, d0⟩) ?_
             rotate_left 1
             · intro u hu
               (try dsimp only at hu)
               go_simp
               try with_reducible rfl
             simp only [Act.put, List.setIfInBounds_toArray, List.set_cons_zero, List.set_cons_succ])
          | (refine mv_take _ (Or.inr ⟨by rfl, rfl⟩) (⟨c0, d0⟩) ?_
             simp only [Act.put, List.setIfInBounds_toArray, List.set_cons_zero, List.set_cons_succ])
      iterate 1
        first
          | (refine mv_free ?_ (Or.inl ⟨by rfl, ?_⟩) (⟨c0, d0⟩) ?_
             rotate_left 1
             · intro u
               go_simp
               try simp only [d1]
               try simp only [d2]
               try simp only [d3]
               try with_reducible rfl
             simp only [Act.put, List.setIfInBounds_toArray, List.set_cons_zero, List.set_cons_succ])
          | (refine mv_free _ (Or.inr ⟨by rfl, rfl⟩) (⟨c0, d0⟩) ?_
             simp only [Act.put, List.setIfInBounds_toArray, List.set_cons_zero, List.set_cons_succ])
      refine mv_done ?_
      go_wp2
      go_roundw
      case rel => exact ⟨7 + 1, by omega, by first | rfl | go_num, Lib.hid KX.out.drew, Lib.hid KY.out.drew, Lib.hid BS.out.drew⟩
      case measure => simp [intOf]
    · have kk : ((8 : Nat) : Int) = 8 := rfl
      have c0 : wr.cell? ⟨w.heap.size, 8, none⟩ = some (.int .i64 (Q 8)) := KX.out.c 8 _ rfl
      have d0 : wr.cell? ⟨w.heap.size + 1, 8, none⟩ = some (.int .i64 (Q 8)) := KY.out.c 8 _ rfl
      have e1 : IntKind.i64.wrap 2 = 2 := by decide
      go_wp2_with fail
      refine region_moves (fun u => u.cell? ⟨w.heap.size, 8, none⟩ = some (.int .i64 (Q 8)) ∧ u.cell? ⟨w.heap.size + 1, 8, none⟩ = some (.int .i64 (Q 8))) [] [(.free, 0), (.free, 1), (.free, 2), (.free, 3), (.free, 4), (.free, 5), (.take, 6), (.free, 7), (.free, 8), (.take, 9), (.free, 10)] _ (by kernel_rfl) (by kernel_rfl) (by kernel_rfl) (by kernel_rfl) (by decide) rfl (fun _ _ _ _ _ h => h) ?_
      simp only [List.filterMap_cons, List.filterMap_nil, List.getElem?_toArray, List.getElem?_cons_zero, List.getElem?_cons_succ, Option.map_some]
      iterate 6
        first
          | (refine mv_free ?_ (Or.inl ⟨by rfl, ?_⟩) (⟨c0, d0⟩) ?_
             rotate_left 1
             · intro u
               go_simp
               try simp only [d1]
               try simp only [d2]
               try simp only [d3]
               try with_reducible rfl
             simp only [Act.put, List.setIfInBounds_toArray, List.set_cons_zero, List.set_cons_succ])
          | (refine mv_free _ (Or.inr ⟨by rfl, rfl⟩) (⟨c0, d0⟩) ?_
             simp only [Act.put, List.setIfInBounds_toArray, List.set_cons_zero, List.set_cons_succ])
      iterate 1
        first
          | (refine mv_take ?_ (Or.inl ⟨by rfl, ?_⟩) (⟨c0, d0⟩) ?_
             rotate_left 1
             · intro u hu
               (try dsimp only at hu)
               go_simp
               try with_reducible rfl
             simp only [Act.put, List.setIfInBounds_toArray, List.set_cons_zero, List.set_cons_succ])
          | (refine mv_take _ (Or.inr ⟨by rfl, rfl⟩) (⟨c0, d0⟩) ?_
             simp only [Act.put, List.setIfInBounds_toArray, List.set_cons_zero, List.set_cons_succ])
      iterate 2
        first
          | (refine mv_free ?_ (Or.inl ⟨by rfl, ?_⟩) (⟨c0, d0⟩) ?_
             rotate_left 1
             · intro u
               go_simp
               try simp only [d1]
               try simp only [d2]
               try simp only [d3]
               try with_reducible rfl
             simp only [Act.put, List.setIfInBounds_toArray, List.set_cons_zero, List.set_cons_succ])
          | (refine mv_free _ (Or.inr ⟨by rfl, rfl⟩) (⟨c0, d0⟩) ?_
             simp only [Act.put, List.setIfInBounds_toArray, List.set_cons_zero, List.set_cons_succ])
      iterate 1
        first
          | (refine mv_take ?_ (Or.inl ⟨by rfl, ?_⟩) (⟨c0, d0⟩) ?_
             rotate_left 1
             · intro u hu
               (try dsimp only at hu)
               go_simp
               try with_reducible rfl
             simp only [Act.put, List.setIfInBounds_toArray, List.set_cons_zero, List.set_cons_succ])
          | (refine mv_take _ (Or.inr ⟨by rfl, rfl⟩) (⟨c0, d0⟩) ?_
             simp only [Act.put, List.setIfInBounds_toArray, List.set_cons_zero, List.set_cons_succ])
      iterate 1
        first
          | (refine mv_free ?_ (Or.inl ⟨by rfl, ?_⟩) (⟨c0, d0⟩) ?_
             rotate_left 1
             · intro u
               go_simp
               try simp only [d1]
               try simp only [d2]
               try simp only [d3]
               try with_reducible rfl
             simp only [Act.put, List.setIfInBounds_toArray, List.set_cons_zero, List.set_cons_succ])
          | (refine mv_free _ (Or.inr ⟨by rfl, rfl⟩) (⟨c0, d0⟩) ?_
             simp only [Act.put, List.setIfInBounds_toArray, List.set_cons_zero, List.set_cons_succ])
      refine mv_done ?_
      go_wp2
      go_roundw
      case rel => exact ⟨8 + 1, by omega, by first | rfl | go_num, Lib.hid KX.out.drew, Lib.hid KY.out.drew, Lib.hid BS.out.drew⟩
      case measure => simp [intOf]
    · have kk : ((9 : Nat) : Int) = 9 := rfl
      go_wp2
      go_ret
      exact ⟨rfl, BS.out⟩
def lvH : Nat → Int
  | 0 => 1048576
  | _ => 0
set_option maxRecDepth 100000 in
set_option maxHeartbeats 8000000 in
theorem lives41 (w : World) : Calls Try.prog 54 #[] w fun e w' => e = .returned (.bool true) ∧ Below w.heap.size w w' := by
  have NW := Lib.hid (fun u => show Calls Try.prog 46 #[.agg #[.int .i64 0, .int .i64 0, .int .i64 0], .agg #[.int .i64 1048576, .int .i64 1048576, .int .i64 1048576], .int .i64 1073741824] u _ from knew_ok (fun _ => 0) (fun _ => 1048576) 1073741824 (by decide +kernel) u)
  have e1 : kuE ⟨fun _ => 0, dgl (fun _ => 1048576), 0, 0⟩ 1073741824 lvH 2097152 1048576 = 0 := by decide +kernel
  have e2 : (kuS ⟨fun _ => 0, dgl (fun _ => 1048576), 0, 0⟩ 1073741824 lvH 2097152 1048576).X 0 = 1048576 := by decide +kernel
  have UP := fun b u (k : Held b (KeC (fun _ => 0) (dgl (fun _ => 1048576)) 1073741824 0 0) u) => show Calls Try.prog 50 #[.pointer (some ⟨b, 0, none⟩), .agg #[.int .i64 1048576, .int .i64 0, .int .i64 0, .int .i64 2097152, .int .i64 1048576]] u _ from kupdate b ⟨fun _ => 0, dgl (fun _ => 1048576), 0, 0⟩ 1073741824 lvH 2097152 1048576 u k (by omega) (by dsimp only; omega) (by dsimp only; omega)
  rw [e1] at UP
  generalize kuS ⟨fun _ => 0, dgl (fun _ => 1048576), 0, 0⟩ 1073741824 lvH 2097152 1048576 = Z at *
  replace UP := Lib.hid UP
  have i0 : ∀ u, (Instr.index 65 (.agg #[.int .i64 (Z.X 0), .int .i64 (Z.X 1), .int .i64 (Z.X 2)]) (.int .i64 0)).run Try.prog u = .ok (.int .i64 1048576) u := fun u => by
    have h0 : ∀ u, (Instr.index 65 (.agg #[.int .i64 (Z.X 0), .int .i64 (Z.X 1), .int .i64 (Z.X 2)]) (.int .i64 0)).run Try.prog u = .ok (.int .i64 (Z.X 0)) u := fun _ => by kernel_rfl
    rw [h0 u, e2]
  clear e1 e2
  go_enter Try.func54, Try.ntmps54
  go_wp2_with fail
  refine (NW.out _).mono ?_
  rintro e w1 ⟨b, hb, rfl, k1, hb1⟩
  have K1 := Lib.hid k1
  have HB := Lib.hid hb
  have B1 := Lib.hid hb1
  clear k1 hb hb1
  go_wp2_with fail
  refine (UP.out b _ K1.out).mono ?_
  rintro e w2 ⟨rfl, k2, b2⟩
  have K2 := Lib.hid k2
  have B2 := Lib.hid (Below.beside B1.out b2 HB.out)
  clear k2 b2
  go_wp2_with fail
  refine (kstate b _ _ _ _ _ _ K2.out).mono ?_
  rintro e w3 ⟨rfl, hq⟩
  have B3 := Lib.hid (B2.out.trans (hq.mono B2.out.size))
  clear hq
  go_wp2
  go_ret
  exact ⟨rfl, B3.out⟩
theorem kw_box (w : World) (A D : Nat → Int) (g : Int) (H : Nat → Int) (z n : Int) : ∃ V, V = ((w.alloc (.cells #[.int .i64 (A 0), .int .i64 (A 1), .int .i64 (A 2), .int .i64 (D 0), .int .i64 (D 1), .int .i64 (D 2), .int .i64 g] 84)).alloc (.cells #[.int .i64 (H 0), .int .i64 (H 1), .int .i64 (H 2), .int .i64 z, .int .i64 n] 86)) ∧ Below w.heap.size w V ∧ Held w.heap.size [.int .i64 (A 0), .int .i64 (A 1), .int .i64 (A 2), .int .i64 (D 0), .int .i64 (D 1), .int .i64 (D 2), .int .i64 g] V ∧ Held (w.heap.size + 1) [.int .i64 (H 0), .int .i64 (H 1), .int .i64 (H 2), .int .i64 z, .int .i64 n] V ∧ V.heap.size = w.heap.size + 2 := by
  refine ⟨_, rfl, (by repeat (first | exact Below.refl _ _ | assumption | apply Below.drew | apply below_drewN | (refine Below.alloc ?_ (by first | exact Nat.le_refl _ | omega | (simp <;> omega)) _) | (refine Below.setCell ?_ (by first | exact Nat.le_refl _ | omega | (simp <;> omega)) _))), ?_, ?_, by simp⟩
  · have := ((Held.new w [.int .i64 (A 0), .int .i64 (A 1), .int .i64 (A 2), .int .i64 (D 0), .int .i64 (D 1), .int .i64 (D 2), .int .i64 g] 84).alloc (.cells #[.int .i64 (H 0), .int .i64 (H 1), .int .i64 (H 2), .int .i64 z, .int .i64 n] 86))
    simpa using this
  · have := (Held.new (w.alloc (.cells #[.int .i64 (A 0), .int .i64 (A 1), .int .i64 (A 2), .int .i64 (D 0), .int .i64 (D 1), .int .i64 (D 2), .int .i64 g] 84)) [.int .i64 (H 0), .int .i64 (H 1), .int .i64 (H 2), .int .i64 z, .int .i64 n] 86)
    simpa using this
set_option maxRecDepth 100000 in
set_option maxHeartbeats 8000000 in
theorem law_KalmanNew (A D : Nat → Int) (g : Int) (H : Nat → Int) (z n : Int) (w : World) : Calls Try.prog 7 #[.agg #[.int .i64 (A 0), .int .i64 (A 1), .int .i64 (A 2), .int .i64 (D 0), .int .i64 (D 1), .int .i64 (D 2), .int .i64 g], .agg #[.int .i64 (H 0), .int .i64 (H 1), .int .i64 (H 2), .int .i64 z, .int .i64 n]] w fun e w' => e = .returned (.bool true) ∧ Below w.heap.size w w' := by
  obtain ⟨V, eV, hb0, hA, hH, hz⟩ := kw_box w A D g H z n
  have KA := Lib.hid hA
  have KH := Lib.hid hH
  have BS := Lib.hid hb0
  replace eV := Lib.hid eV
  replace hz := Lib.hid hz
  clear hA hH hb0
  have EV := fun u => veq 0 0 0 u
  have EM := fun u => meq 0 0 0 0 0 0 0 0 0 u
  have RR := fun u => rright A D g u
  cases hR : knR A D g
  · rw [hR] at RR
    replace RR := Lib.hid RR
    have NW := Lib.hid (fun u => knew_no A D g hR u)
    clear hR
    have hh_ := KA.out
    obtain ⟨c0, f0⟩ := hh_.one 0 rfl
    obtain ⟨c1, f1⟩ := hh_.one 1 rfl
    obtain ⟨c2, f2⟩ := hh_.one 2 rfl
    obtain ⟨c3, f3⟩ := hh_.one 3 rfl
    obtain ⟨c4, f4⟩ := hh_.one 4 rfl
    obtain ⟨c5, f5⟩ := hh_.one 5 rfl
    obtain ⟨c6, f6⟩ := hh_.one 6 rfl
    clear hh_
    have hh_ := KH.out
    obtain ⟨d0, l0⟩ := hh_.one 0 rfl
    obtain ⟨d1, l1⟩ := hh_.one 1 rfl
    obtain ⟨d2, l2⟩ := hh_.one 2 rfl
    obtain ⟨d3, l3⟩ := hh_.one 3 rfl
    obtain ⟨d4, l4⟩ := hh_.one 4 rfl
    clear hh_
    go_enter Try.func7, Try.ntmps7
    go_wp2_with fail
    rw [← eV.out]
    go_wp2_with fail
    refine (NW.out _).mono ?_
    rintro e w1 ⟨rfl, hq⟩
    replace BS := Lib.hid (BS.out.trans (hq.mono BS.out.size))
    replace KA := Lib.hid (KA.out.bel hq)
    replace KH := Lib.hid (KH.out.bel hq)
    clear hq c0 f0 c1 f1 c2 f2 c3 f3 c4 f4 c5 f5 c6 f6 d0 l0 d1 l1 d2 l2 d3 l3 d4 l4
    have hh_ := KA.out
    obtain ⟨c0, f0⟩ := hh_.one 0 rfl
    obtain ⟨c1, f1⟩ := hh_.one 1 rfl
    obtain ⟨c2, f2⟩ := hh_.one 2 rfl
    obtain ⟨c3, f3⟩ := hh_.one 3 rfl
    obtain ⟨c4, f4⟩ := hh_.one 4 rfl
    obtain ⟨c5, f5⟩ := hh_.one 5 rfl
    obtain ⟨c6, f6⟩ := hh_.one 6 rfl
    clear hh_
    have hh_ := KH.out
    obtain ⟨d0, l0⟩ := hh_.one 0 rfl
    obtain ⟨d1, l1⟩ := hh_.one 1 rfl
    obtain ⟨d2, l2⟩ := hh_.one 2 rfl
    obtain ⟨d3, l3⟩ := hh_.one 3 rfl
    obtain ⟨d4, l4⟩ := hh_.one 4 rfl
    clear hh_
    go_wp2_with fail
    refine (kexpect_nil H z n _).mono ?_
    rintro e w2 ⟨rfl, hq⟩
    replace BS := Lib.hid (BS.out.trans (hq.mono BS.out.size))
    replace KA := Lib.hid (KA.out.bel hq)
    replace KH := Lib.hid (KH.out.bel hq)
    clear hq c0 f0 c1 f1 c2 f2 c3 f3 c4 f4 c5 f5 c6 f6 d0 l0 d1 l1 d2 l2 d3 l3 d4 l4
    have hh_ := KA.out
    obtain ⟨c0, f0⟩ := hh_.one 0 rfl
    obtain ⟨c1, f1⟩ := hh_.one 1 rfl
    obtain ⟨c2, f2⟩ := hh_.one 2 rfl
    obtain ⟨c3, f3⟩ := hh_.one 3 rfl
    obtain ⟨c4, f4⟩ := hh_.one 4 rfl
    obtain ⟨c5, f5⟩ := hh_.one 5 rfl
    obtain ⟨c6, f6⟩ := hh_.one 6 rfl
    clear hh_
    have hh_ := KH.out
    obtain ⟨d0, l0⟩ := hh_.one 0 rfl
    obtain ⟨d1, l1⟩ := hh_.one 1 rfl
    obtain ⟨d2, l2⟩ := hh_.one 2 rfl
    obtain ⟨d3, l3⟩ := hh_.one 3 rfl
    obtain ⟨d4, l4⟩ := hh_.one 4 rfl
    clear hh_
    go_wp2_with fail
    refine (kcounts_nil _).mono ?_
    rintro e w' ⟨rfl, rfl⟩
    go_wp2_with fail
    refine (kpred_nil H _).mono ?_
    rintro e w3 ⟨rfl, hq⟩
    replace BS := Lib.hid (BS.out.trans (hq.mono BS.out.size))
    replace KA := Lib.hid (KA.out.bel hq)
    replace KH := Lib.hid (KH.out.bel hq)
    clear hq c0 f0 c1 f1 c2 f2 c3 f3 c4 f4 c5 f5 c6 f6 d0 l0 d1 l1 d2 l2 d3 l3 d4 l4
    have hh_ := KA.out
    obtain ⟨c0, f0⟩ := hh_.one 0 rfl
    obtain ⟨c1, f1⟩ := hh_.one 1 rfl
    obtain ⟨c2, f2⟩ := hh_.one 2 rfl
    obtain ⟨c3, f3⟩ := hh_.one 3 rfl
    obtain ⟨c4, f4⟩ := hh_.one 4 rfl
    obtain ⟨c5, f5⟩ := hh_.one 5 rfl
    obtain ⟨c6, f6⟩ := hh_.one 6 rfl
    clear hh_
    have hh_ := KH.out
    obtain ⟨d0, l0⟩ := hh_.one 0 rfl
    obtain ⟨d1, l1⟩ := hh_.one 1 rfl
    obtain ⟨d2, l2⟩ := hh_.one 2 rfl
    obtain ⟨d3, l3⟩ := hh_.one 3 rfl
    obtain ⟨d4, l4⟩ := hh_.one 4 rfl
    clear hh_
    go_wp2_with fail
    refine (kupd_nil H z n _).mono ?_
    rintro e w4 ⟨rfl, hq⟩
    replace BS := Lib.hid (BS.out.trans (hq.mono BS.out.size))
    replace KA := Lib.hid (KA.out.bel hq)
    replace KH := Lib.hid (KH.out.bel hq)
    clear hq c0 f0 c1 f1 c2 f2 c3 f3 c4 f4 c5 f5 c6 f6 d0 l0 d1 l1 d2 l2 d3 l3 d4 l4
    have hh_ := KA.out
    obtain ⟨c0, f0⟩ := hh_.one 0 rfl
    obtain ⟨c1, f1⟩ := hh_.one 1 rfl
    obtain ⟨c2, f2⟩ := hh_.one 2 rfl
    obtain ⟨c3, f3⟩ := hh_.one 3 rfl
    obtain ⟨c4, f4⟩ := hh_.one 4 rfl
    obtain ⟨c5, f5⟩ := hh_.one 5 rfl
    obtain ⟨c6, f6⟩ := hh_.one 6 rfl
    clear hh_
    have hh_ := KH.out
    obtain ⟨d0, l0⟩ := hh_.one 0 rfl
    obtain ⟨d1, l1⟩ := hh_.one 1 rfl
    obtain ⟨d2, l2⟩ := hh_.one 2 rfl
    obtain ⟨d3, l3⟩ := hh_.one 3 rfl
    obtain ⟨d4, l4⟩ := hh_.one 4 rfl
    clear hh_
    go_wp2_with fail
    refine (kstate_nil _).mono ?_
    rintro e w5 ⟨rfl, hq⟩
    replace BS := Lib.hid (BS.out.trans (hq.mono BS.out.size))
    replace KA := Lib.hid (KA.out.bel hq)
    replace KH := Lib.hid (KH.out.bel hq)
    clear hq c0 f0 c1 f1 c2 f2 c3 f3 c4 f4 c5 f5 c6 f6 d0 l0 d1 l1 d2 l2 d3 l3 d4 l4
    have hh_ := KA.out
    obtain ⟨c0, f0⟩ := hh_.one 0 rfl
    obtain ⟨c1, f1⟩ := hh_.one 1 rfl
    obtain ⟨c2, f2⟩ := hh_.one 2 rfl
    obtain ⟨c3, f3⟩ := hh_.one 3 rfl
    obtain ⟨c4, f4⟩ := hh_.one 4 rfl
    obtain ⟨c5, f5⟩ := hh_.one 5 rfl
    obtain ⟨c6, f6⟩ := hh_.one 6 rfl
    clear hh_
    have hh_ := KH.out
    obtain ⟨d0, l0⟩ := hh_.one 0 rfl
    obtain ⟨d1, l1⟩ := hh_.one 1 rfl
    obtain ⟨d2, l2⟩ := hh_.one 2 rfl
    obtain ⟨d3, l3⟩ := hh_.one 3 rfl
    obtain ⟨d4, l4⟩ := hh_.one 4 rfl
    clear hh_
    go_wp2_with fail
    refine (kdoubt_nil _).mono ?_
    rintro e w6 ⟨rfl, hq⟩
    replace BS := Lib.hid (BS.out.trans (hq.mono BS.out.size))
    replace KA := Lib.hid (KA.out.bel hq)
    replace KH := Lib.hid (KH.out.bel hq)
    clear hq c0 f0 c1 f1 c2 f2 c3 f3 c4 f4 c5 f5 c6 f6 d0 l0 d1 l1 d2 l2 d3 l3 d4 l4
    have hh_ := KA.out
    obtain ⟨c0, f0⟩ := hh_.one 0 rfl
    obtain ⟨c1, f1⟩ := hh_.one 1 rfl
    obtain ⟨c2, f2⟩ := hh_.one 2 rfl
    obtain ⟨c3, f3⟩ := hh_.one 3 rfl
    obtain ⟨c4, f4⟩ := hh_.one 4 rfl
    obtain ⟨c5, f5⟩ := hh_.one 5 rfl
    obtain ⟨c6, f6⟩ := hh_.one 6 rfl
    clear hh_
    have hh_ := KH.out
    obtain ⟨d0, l0⟩ := hh_.one 0 rfl
    obtain ⟨d1, l1⟩ := hh_.one 1 rfl
    obtain ⟨d2, l2⟩ := hh_.one 2 rfl
    obtain ⟨d3, l3⟩ := hh_.one 3 rfl
    obtain ⟨d4, l4⟩ := hh_.one 4 rfl
    clear hh_
    go_wp2_with fail
    refine (RR.out _).mono ?_
    rintro e w7 ⟨rfl, hq⟩
    replace BS := Lib.hid (BS.out.trans (hq.mono BS.out.size))
    replace KA := Lib.hid (KA.out.bel hq)
    replace KH := Lib.hid (KH.out.bel hq)
    clear hq c0 f0 c1 f1 c2 f2 c3 f3 c4 f4 c5 f5 c6 f6 d0 l0 d1 l1 d2 l2 d3 l3 d4 l4
    have hh_ := KA.out
    obtain ⟨c0, f0⟩ := hh_.one 0 rfl
    obtain ⟨c1, f1⟩ := hh_.one 1 rfl
    obtain ⟨c2, f2⟩ := hh_.one 2 rfl
    obtain ⟨c3, f3⟩ := hh_.one 3 rfl
    obtain ⟨c4, f4⟩ := hh_.one 4 rfl
    obtain ⟨c5, f5⟩ := hh_.one 5 rfl
    obtain ⟨c6, f6⟩ := hh_.one 6 rfl
    clear hh_
    have hh_ := KH.out
    obtain ⟨d0, l0⟩ := hh_.one 0 rfl
    obtain ⟨d1, l1⟩ := hh_.one 1 rfl
    obtain ⟨d2, l2⟩ := hh_.one 2 rfl
    obtain ⟨d3, l3⟩ := hh_.one 3 rfl
    obtain ⟨d4, l4⟩ := hh_.one 4 rfl
    clear hh_
    go_wp2_with fail
    refine (lives41 _).mono ?_
    rintro e w8 ⟨rfl, hq⟩
    replace BS := Lib.hid (BS.out.trans (hq.mono BS.out.size))
    go_wp2
    go_ret
    exact ⟨rfl, BS.out⟩
  · rw [hR] at RR
    replace RR := Lib.hid RR
    have NW := Lib.hid (fun u => knew_ok A D g hR u)
    have EA := fun u => veq (A 0) (A 1) (A 2) u
    have RN := Lib.hid (fun u => rknew A D g u)
    have SM := Lib.hid (fun u => ksame (dgl D) u)
    clear hR
    have hh_ := KA.out
    obtain ⟨c0, f0⟩ := hh_.one 0 rfl
    obtain ⟨c1, f1⟩ := hh_.one 1 rfl
    obtain ⟨c2, f2⟩ := hh_.one 2 rfl
    obtain ⟨c3, f3⟩ := hh_.one 3 rfl
    obtain ⟨c4, f4⟩ := hh_.one 4 rfl
    obtain ⟨c5, f5⟩ := hh_.one 5 rfl
    obtain ⟨c6, f6⟩ := hh_.one 6 rfl
    clear hh_
    have hh_ := KH.out
    obtain ⟨d0, l0⟩ := hh_.one 0 rfl
    obtain ⟨d1, l1⟩ := hh_.one 1 rfl
    obtain ⟨d2, l2⟩ := hh_.one 2 rfl
    obtain ⟨d3, l3⟩ := hh_.one 3 rfl
    obtain ⟨d4, l4⟩ := hh_.one 4 rfl
    clear hh_
    go_enter Try.func7, Try.ntmps7
    go_wp2_with fail
    rw [← eV.out]
    refine (NW.out _).mono ?_
    rintro e w1 ⟨b, hb, rfl, k1, hq⟩
    have HB := Lib.hid (show w.heap.size ≤ b by have := hz.out; omega)
    have KO := Lib.hid k1
    replace BS := Lib.hid (BS.out.trans (hq.mono BS.out.size))
    replace KA := Lib.hid (KA.out.bel hq)
    replace KH := Lib.hid (KH.out.bel hq)
    clear hq k1 hb c0 f0 c1 f1 c2 f2 c3 f3 c4 f4 c5 f5 c6 f6 d0 l0 d1 l1 d2 l2 d3 l3 d4 l4
    have hh_ := KA.out
    obtain ⟨c0, f0⟩ := hh_.one 0 rfl
    obtain ⟨c1, f1⟩ := hh_.one 1 rfl
    obtain ⟨c2, f2⟩ := hh_.one 2 rfl
    obtain ⟨c3, f3⟩ := hh_.one 3 rfl
    obtain ⟨c4, f4⟩ := hh_.one 4 rfl
    obtain ⟨c5, f5⟩ := hh_.one 5 rfl
    obtain ⟨c6, f6⟩ := hh_.one 6 rfl
    clear hh_
    have hh_ := KH.out
    obtain ⟨d0, l0⟩ := hh_.one 0 rfl
    obtain ⟨d1, l1⟩ := hh_.one 1 rfl
    obtain ⟨d2, l2⟩ := hh_.one 2 rfl
    obtain ⟨d3, l3⟩ := hh_.one 3 rfl
    obtain ⟨d4, l4⟩ := hh_.one 4 rfl
    clear hh_
    go_wp2_with fail
    refine (kexpect_nil H z n _).mono ?_
    rintro e w2 ⟨rfl, hq⟩
    replace BS := Lib.hid (BS.out.trans (hq.mono BS.out.size))
    replace KA := Lib.hid (KA.out.bel hq)
    replace KH := Lib.hid (KH.out.bel hq)
    replace KO := Lib.hid (KO.out.bel hq)
    clear hq c0 f0 c1 f1 c2 f2 c3 f3 c4 f4 c5 f5 c6 f6 d0 l0 d1 l1 d2 l2 d3 l3 d4 l4
    have hh_ := KA.out
    obtain ⟨c0, f0⟩ := hh_.one 0 rfl
    obtain ⟨c1, f1⟩ := hh_.one 1 rfl
    obtain ⟨c2, f2⟩ := hh_.one 2 rfl
    obtain ⟨c3, f3⟩ := hh_.one 3 rfl
    obtain ⟨c4, f4⟩ := hh_.one 4 rfl
    obtain ⟨c5, f5⟩ := hh_.one 5 rfl
    obtain ⟨c6, f6⟩ := hh_.one 6 rfl
    clear hh_
    have hh_ := KH.out
    obtain ⟨d0, l0⟩ := hh_.one 0 rfl
    obtain ⟨d1, l1⟩ := hh_.one 1 rfl
    obtain ⟨d2, l2⟩ := hh_.one 2 rfl
    obtain ⟨d3, l3⟩ := hh_.one 3 rfl
    obtain ⟨d4, l4⟩ := hh_.one 4 rfl
    clear hh_
    go_wp2_with fail
    refine (kcounts_nil _).mono ?_
    rintro e w' ⟨rfl, rfl⟩
    go_wp2_with fail
    refine (kpred_nil H _).mono ?_
    rintro e w3 ⟨rfl, hq⟩
    replace BS := Lib.hid (BS.out.trans (hq.mono BS.out.size))
    replace KA := Lib.hid (KA.out.bel hq)
    replace KH := Lib.hid (KH.out.bel hq)
    replace KO := Lib.hid (KO.out.bel hq)
    clear hq c0 f0 c1 f1 c2 f2 c3 f3 c4 f4 c5 f5 c6 f6 d0 l0 d1 l1 d2 l2 d3 l3 d4 l4
    have hh_ := KA.out
    obtain ⟨c0, f0⟩ := hh_.one 0 rfl
    obtain ⟨c1, f1⟩ := hh_.one 1 rfl
    obtain ⟨c2, f2⟩ := hh_.one 2 rfl
    obtain ⟨c3, f3⟩ := hh_.one 3 rfl
    obtain ⟨c4, f4⟩ := hh_.one 4 rfl
    obtain ⟨c5, f5⟩ := hh_.one 5 rfl
    obtain ⟨c6, f6⟩ := hh_.one 6 rfl
    clear hh_
    have hh_ := KH.out
    obtain ⟨d0, l0⟩ := hh_.one 0 rfl
    obtain ⟨d1, l1⟩ := hh_.one 1 rfl
    obtain ⟨d2, l2⟩ := hh_.one 2 rfl
    obtain ⟨d3, l3⟩ := hh_.one 3 rfl
    obtain ⟨d4, l4⟩ := hh_.one 4 rfl
    clear hh_
    go_wp2_with fail
    refine (kupd_nil H z n _).mono ?_
    rintro e w4 ⟨rfl, hq⟩
    replace BS := Lib.hid (BS.out.trans (hq.mono BS.out.size))
    replace KA := Lib.hid (KA.out.bel hq)
    replace KH := Lib.hid (KH.out.bel hq)
    replace KO := Lib.hid (KO.out.bel hq)
    clear hq c0 f0 c1 f1 c2 f2 c3 f3 c4 f4 c5 f5 c6 f6 d0 l0 d1 l1 d2 l2 d3 l3 d4 l4
    have hh_ := KA.out
    obtain ⟨c0, f0⟩ := hh_.one 0 rfl
    obtain ⟨c1, f1⟩ := hh_.one 1 rfl
    obtain ⟨c2, f2⟩ := hh_.one 2 rfl
    obtain ⟨c3, f3⟩ := hh_.one 3 rfl
    obtain ⟨c4, f4⟩ := hh_.one 4 rfl
    obtain ⟨c5, f5⟩ := hh_.one 5 rfl
    obtain ⟨c6, f6⟩ := hh_.one 6 rfl
    clear hh_
    have hh_ := KH.out
    obtain ⟨d0, l0⟩ := hh_.one 0 rfl
    obtain ⟨d1, l1⟩ := hh_.one 1 rfl
    obtain ⟨d2, l2⟩ := hh_.one 2 rfl
    obtain ⟨d3, l3⟩ := hh_.one 3 rfl
    obtain ⟨d4, l4⟩ := hh_.one 4 rfl
    clear hh_
    go_wp2_with fail
    refine (kstate_nil _).mono ?_
    rintro e w5 ⟨rfl, hq⟩
    replace BS := Lib.hid (BS.out.trans (hq.mono BS.out.size))
    replace KA := Lib.hid (KA.out.bel hq)
    replace KH := Lib.hid (KH.out.bel hq)
    replace KO := Lib.hid (KO.out.bel hq)
    clear hq c0 f0 c1 f1 c2 f2 c3 f3 c4 f4 c5 f5 c6 f6 d0 l0 d1 l1 d2 l2 d3 l3 d4 l4
    have hh_ := KA.out
    obtain ⟨c0, f0⟩ := hh_.one 0 rfl
    obtain ⟨c1, f1⟩ := hh_.one 1 rfl
    obtain ⟨c2, f2⟩ := hh_.one 2 rfl
    obtain ⟨c3, f3⟩ := hh_.one 3 rfl
    obtain ⟨c4, f4⟩ := hh_.one 4 rfl
    obtain ⟨c5, f5⟩ := hh_.one 5 rfl
    obtain ⟨c6, f6⟩ := hh_.one 6 rfl
    clear hh_
    have hh_ := KH.out
    obtain ⟨d0, l0⟩ := hh_.one 0 rfl
    obtain ⟨d1, l1⟩ := hh_.one 1 rfl
    obtain ⟨d2, l2⟩ := hh_.one 2 rfl
    obtain ⟨d3, l3⟩ := hh_.one 3 rfl
    obtain ⟨d4, l4⟩ := hh_.one 4 rfl
    clear hh_
    go_wp2_with fail
    refine (kdoubt_nil _).mono ?_
    rintro e w6 ⟨rfl, hq⟩
    replace BS := Lib.hid (BS.out.trans (hq.mono BS.out.size))
    replace KA := Lib.hid (KA.out.bel hq)
    replace KH := Lib.hid (KH.out.bel hq)
    replace KO := Lib.hid (KO.out.bel hq)
    clear hq c0 f0 c1 f1 c2 f2 c3 f3 c4 f4 c5 f5 c6 f6 d0 l0 d1 l1 d2 l2 d3 l3 d4 l4
    have hh_ := KA.out
    obtain ⟨c0, f0⟩ := hh_.one 0 rfl
    obtain ⟨c1, f1⟩ := hh_.one 1 rfl
    obtain ⟨c2, f2⟩ := hh_.one 2 rfl
    obtain ⟨c3, f3⟩ := hh_.one 3 rfl
    obtain ⟨c4, f4⟩ := hh_.one 4 rfl
    obtain ⟨c5, f5⟩ := hh_.one 5 rfl
    obtain ⟨c6, f6⟩ := hh_.one 6 rfl
    clear hh_
    have hh_ := KH.out
    obtain ⟨d0, l0⟩ := hh_.one 0 rfl
    obtain ⟨d1, l1⟩ := hh_.one 1 rfl
    obtain ⟨d2, l2⟩ := hh_.one 2 rfl
    obtain ⟨d3, l3⟩ := hh_.one 3 rfl
    obtain ⟨d4, l4⟩ := hh_.one 4 rfl
    clear hh_
    go_wp2_with fail
    refine (RR.out _).mono ?_
    rintro e w7 ⟨rfl, hq⟩
    replace BS := Lib.hid (BS.out.trans (hq.mono BS.out.size))
    replace KA := Lib.hid (KA.out.bel hq)
    replace KH := Lib.hid (KH.out.bel hq)
    replace KO := Lib.hid (KO.out.bel hq)
    clear hq c0 f0 c1 f1 c2 f2 c3 f3 c4 f4 c5 f5 c6 f6 d0 l0 d1 l1 d2 l2 d3 l3 d4 l4
    have hh_ := KA.out
    obtain ⟨c0, f0⟩ := hh_.one 0 rfl
    obtain ⟨c1, f1⟩ := hh_.one 1 rfl
    obtain ⟨c2, f2⟩ := hh_.one 2 rfl
    obtain ⟨c3, f3⟩ := hh_.one 3 rfl
    obtain ⟨c4, f4⟩ := hh_.one 4 rfl
    obtain ⟨c5, f5⟩ := hh_.one 5 rfl
    obtain ⟨c6, f6⟩ := hh_.one 6 rfl
    clear hh_
    have hh_ := KH.out
    obtain ⟨d0, l0⟩ := hh_.one 0 rfl
    obtain ⟨d1, l1⟩ := hh_.one 1 rfl
    obtain ⟨d2, l2⟩ := hh_.one 2 rfl
    obtain ⟨d3, l3⟩ := hh_.one 3 rfl
    obtain ⟨d4, l4⟩ := hh_.one 4 rfl
    clear hh_
    clear d0 l0 d1 l1 d2 l2 d3 l3 d4 l4
    clear KH EV EM
    go_wp2_with fail
    refine region_moves (fun u => u.cell? ⟨w.heap.size, 0, none⟩ = some (.int .i64 (A 0)) ∧ u.cell? ⟨w.heap.size, 1, none⟩ = some (.int .i64 (A 1)) ∧ u.cell? ⟨w.heap.size, 2, none⟩ = some (.int .i64 (A 2)) ∧ u.cell? ⟨w.heap.size, 3, none⟩ = some (.int .i64 (D 0)) ∧ u.cell? ⟨w.heap.size, 4, none⟩ = some (.int .i64 (D 1)) ∧ u.cell? ⟨w.heap.size, 5, none⟩ = some (.int .i64 (D 2)) ∧ u.cell? ⟨w.heap.size, 6, none⟩ = some (.int .i64 g)) [] [(.free, 0), (.free, 1), (.free, 2), (.free, 3), (.free, 5), (.take, 6), (.step, 4), (.free, 7), (.free, 8), (.free, 9), (.free, 10), (.free, 12), (.take, 13), (.free, 14), (.take, 15), (.free, 16), (.take, 17), (.step, 11), (.step, 18), (.free, 19), (.free, 20), (.take, 21), (.step, 22), (.free, 23), (.free, 24), (.step, 25), (.free, 26), (.free, 27)] _ (by kernel_rfl) (by kernel_rfl) (by kernel_rfl) (by kernel_rfl) (by decide) rfl (fun _ _ _ _ _ h => h) ?_
    simp only [List.filterMap_cons, List.filterMap_nil, List.getElem?_toArray, List.getElem?_cons_zero, List.getElem?_cons_succ, Option.map_some]
    iterate 5
      first
        | (refine mv_free ?_ (Or.inl ⟨by rfl, ?_⟩) (⟨c0, c1, c2, c3, c4, c5, c6⟩) ?_
           rotate_left 1
           · intro u
             go_simp
             try simp only [d1]
             try simp only [d2]
             try simp only [d3]
             try with_reducible rfl
           simp only [Act.put, List.setIfInBounds_toArray, List.set_cons_zero, List.set_cons_succ])
        | (refine mv_free _ (Or.inr ⟨by rfl, rfl⟩) (⟨c0, c1, c2, c3, c4, c5, c6⟩) ?_
           simp only [Act.put, List.setIfInBounds_toArray, List.set_cons_zero, List.set_cons_succ])
    iterate 1
      first
        | (refine mv_take ?_ (Or.inl ⟨by rfl, ?_⟩) (⟨c0, c1, c2, c3, c4, c5, c6⟩) ?_
           rotate_left 1
           · intro u hu
             (try dsimp only at hu)
             go_simp
             try with_reducible rfl
           simp only [Act.put, List.setIfInBounds_toArray, List.set_cons_zero, List.set_cons_succ])
        | (refine mv_take _ (Or.inr ⟨by rfl, rfl⟩) (⟨c0, c1, c2, c3, c4, c5, c6⟩) ?_
           simp only [Act.put, List.setIfInBounds_toArray, List.set_cons_zero, List.set_cons_succ])
    refine mv_step (fun K hK => ?_)
    go_simp
    refine (kstate b _ _ _ _ _ _ KO.out.drew).mono ?_
    rintro e w8 ⟨rfl, hq⟩
    replace BS := Lib.hid ((below_drewN BS.out 1).trans (hq.mono BS.out.size))
    replace KA := Lib.hid (KA.out.drew.bel hq)
    replace KO := Lib.hid (KO.out.drew.bel hq)
    clear hq c0 f0 c1 f1 c2 f2 c3 f3 c4 f4 c5 f5 c6 f6
    have hh_ := KA.out
    obtain ⟨c0, f0⟩ := hh_.one 0 rfl
    obtain ⟨c1, f1⟩ := hh_.one 1 rfl
    obtain ⟨c2, f2⟩ := hh_.one 2 rfl
    obtain ⟨c3, f3⟩ := hh_.one 3 rfl
    obtain ⟨c4, f4⟩ := hh_.one 4 rfl
    obtain ⟨c5, f5⟩ := hh_.one 5 rfl
    obtain ⟨c6, f6⟩ := hh_.one 6 rfl
    clear hh_
    go_wp2_with fail
    refine hK.out _ _ _ (fun u hu => hu) (⟨c0, c1, c2, c3, c4, c5, c6⟩) ?_
    clear hK K
    iterate 5
      first
        | (refine mv_free ?_ (Or.inl ⟨by rfl, ?_⟩) (⟨c0, c1, c2, c3, c4, c5, c6⟩) ?_
           rotate_left 1
           · intro u
             go_simp
             try simp only [d1]
             try simp only [d2]
             try simp only [d3]
             try with_reducible rfl
           simp only [Act.put, List.setIfInBounds_toArray, List.set_cons_zero, List.set_cons_succ])
        | (refine mv_free _ (Or.inr ⟨by rfl, rfl⟩) (⟨c0, c1, c2, c3, c4, c5, c6⟩) ?_
           simp only [Act.put, List.setIfInBounds_toArray, List.set_cons_zero, List.set_cons_succ])
    iterate 1
      first
        | (refine mv_take ?_ (Or.inl ⟨by rfl, ?_⟩) (⟨c0, c1, c2, c3, c4, c5, c6⟩) ?_
           rotate_left 1
           · intro u hu
             (try dsimp only at hu)
             go_simp
             try with_reducible rfl
           simp only [Act.put, List.setIfInBounds_toArray, List.set_cons_zero, List.set_cons_succ])
        | (refine mv_take _ (Or.inr ⟨by rfl, rfl⟩) (⟨c0, c1, c2, c3, c4, c5, c6⟩) ?_
           simp only [Act.put, List.setIfInBounds_toArray, List.set_cons_zero, List.set_cons_succ])
    iterate 1
      first
        | (refine mv_free ?_ (Or.inl ⟨by rfl, ?_⟩) (⟨c0, c1, c2, c3, c4, c5, c6⟩) ?_
           rotate_left 1
           · intro u
             go_simp
             try simp only [d1]
             try simp only [d2]
             try simp only [d3]
             try with_reducible rfl
           simp only [Act.put, List.setIfInBounds_toArray, List.set_cons_zero, List.set_cons_succ])
        | (refine mv_free _ (Or.inr ⟨by rfl, rfl⟩) (⟨c0, c1, c2, c3, c4, c5, c6⟩) ?_
           simp only [Act.put, List.setIfInBounds_toArray, List.set_cons_zero, List.set_cons_succ])
    iterate 1
      first
        | (refine mv_take ?_ (Or.inl ⟨by rfl, ?_⟩) (⟨c0, c1, c2, c3, c4, c5, c6⟩) ?_
           rotate_left 1
           · intro u hu
             (try dsimp only at hu)
             go_simp
             try with_reducible rfl
           simp only [Act.put, List.setIfInBounds_toArray, List.set_cons_zero, List.set_cons_succ])
        | (refine mv_take _ (Or.inr ⟨by rfl, rfl⟩) (⟨c0, c1, c2, c3, c4, c5, c6⟩) ?_
           simp only [Act.put, List.setIfInBounds_toArray, List.set_cons_zero, List.set_cons_succ])
    iterate 1
      first
        | (refine mv_free ?_ (Or.inl ⟨by rfl, ?_⟩) (⟨c0, c1, c2, c3, c4, c5, c6⟩) ?_
           rotate_left 1
           · intro u
             go_simp
             try simp only [d1]
             try simp only [d2]
             try simp only [d3]
             try with_reducible rfl
           simp only [Act.put, List.setIfInBounds_toArray, List.set_cons_zero, List.set_cons_succ])
        | (refine mv_free _ (Or.inr ⟨by rfl, rfl⟩) (⟨c0, c1, c2, c3, c4, c5, c6⟩) ?_
           simp only [Act.put, List.setIfInBounds_toArray, List.set_cons_zero, List.set_cons_succ])
    iterate 1
      first
        | (refine mv_take ?_ (Or.inl ⟨by rfl, ?_⟩) (⟨c0, c1, c2, c3, c4, c5, c6⟩) ?_
           rotate_left 1
           · intro u hu
             (try dsimp only at hu)
             go_simp
             try with_reducible rfl
           simp only [Act.put, List.setIfInBounds_toArray, List.set_cons_zero, List.set_cons_succ])
        | (refine mv_take _ (Or.inr ⟨by rfl, rfl⟩) (⟨c0, c1, c2, c3, c4, c5, c6⟩) ?_
           simp only [Act.put, List.setIfInBounds_toArray, List.set_cons_zero, List.set_cons_succ])
    refine mv_step (fun K hK => ?_)
    go_simp
    refine (kdoubt b _ _ _ _ _ _ KO.out).mono ?_
    rintro e w9 ⟨rfl, hq⟩
    replace BS := Lib.hid (BS.out.trans (hq.mono BS.out.size))
    replace KA := Lib.hid (KA.out.bel hq)
    clear hq c0 f0 c1 f1 c2 f2 c3 f3 c4 f4 c5 f5 c6 f6
    have hh_ := KA.out
    obtain ⟨c0, f0⟩ := hh_.one 0 rfl
    obtain ⟨c1, f1⟩ := hh_.one 1 rfl
    obtain ⟨c2, f2⟩ := hh_.one 2 rfl
    obtain ⟨c3, f3⟩ := hh_.one 3 rfl
    obtain ⟨c4, f4⟩ := hh_.one 4 rfl
    obtain ⟨c5, f5⟩ := hh_.one 5 rfl
    obtain ⟨c6, f6⟩ := hh_.one 6 rfl
    clear hh_
    go_wp2_with fail
    refine hK.out _ _ _ (fun u hu => hu) (⟨c0, c1, c2, c3, c4, c5, c6⟩) ?_
    clear hK K
    refine mv_step (fun K hK => ?_)
    go_simp
    refine (RN.out _).mono ?_
    rintro e w10 ⟨nb, hnb, rfl, kn, hq⟩
    replace BS := Lib.hid (BS.out.trans (hq.mono BS.out.size))
    replace KA := Lib.hid (KA.out.bel hq)
    have KN := Lib.hid kn
    clear hq c0 f0 c1 f1 c2 f2 c3 f3 c4 f4 c5 f5 c6 f6 kn
    have hh_ := KA.out
    obtain ⟨c0, f0⟩ := hh_.one 0 rfl
    obtain ⟨c1, f1⟩ := hh_.one 1 rfl
    obtain ⟨c2, f2⟩ := hh_.one 2 rfl
    obtain ⟨c3, f3⟩ := hh_.one 3 rfl
    obtain ⟨c4, f4⟩ := hh_.one 4 rfl
    obtain ⟨c5, f5⟩ := hh_.one 5 rfl
    obtain ⟨c6, f6⟩ := hh_.one 6 rfl
    clear hh_
    have hh_ := KN.out
    obtain ⟨d0, l0⟩ := hh_.one 0 rfl
    obtain ⟨d1, l1⟩ := hh_.one 1 rfl
    obtain ⟨d2, l2⟩ := hh_.one 2 rfl
    obtain ⟨d3, l3⟩ := hh_.one 3 rfl
    obtain ⟨d4, l4⟩ := hh_.one 4 rfl
    obtain ⟨d5, l5⟩ := hh_.one 5 rfl
    obtain ⟨d6, l6⟩ := hh_.one 6 rfl
    obtain ⟨d7, l7⟩ := hh_.one 7 rfl
    obtain ⟨d8, l8⟩ := hh_.one 8 rfl
    obtain ⟨d9, l9⟩ := hh_.one 9 rfl
    obtain ⟨d10, l10⟩ := hh_.one 10 rfl
    obtain ⟨d11, l11⟩ := hh_.one 11 rfl
    obtain ⟨d12, l12⟩ := hh_.one 12 rfl
    obtain ⟨d13, l13⟩ := hh_.one 13 rfl
    obtain ⟨d14, l14⟩ := hh_.one 14 rfl
    clear hh_
    go_wp2_with fail
    refine hK.out (fun u => (u.cell? ⟨w.heap.size, 0, none⟩ = some (.int .i64 (A 0)) ∧ u.cell? ⟨w.heap.size, 1, none⟩ = some (.int .i64 (A 1)) ∧ u.cell? ⟨w.heap.size, 2, none⟩ = some (.int .i64 (A 2)) ∧ u.cell? ⟨w.heap.size, 3, none⟩ = some (.int .i64 (D 0)) ∧ u.cell? ⟨w.heap.size, 4, none⟩ = some (.int .i64 (D 1)) ∧ u.cell? ⟨w.heap.size, 5, none⟩ = some (.int .i64 (D 2)) ∧ u.cell? ⟨w.heap.size, 6, none⟩ = some (.int .i64 g)) ∧ u.cell? ⟨nb, 3, none⟩ = some (.int .i64 (dgl D 0)) ∧ u.cell? ⟨nb, 4, none⟩ = some (.int .i64 (dgl D 1)) ∧ u.cell? ⟨nb, 5, none⟩ = some (.int .i64 (dgl D 2)) ∧ u.cell? ⟨nb, 6, none⟩ = some (.int .i64 (dgl D 3)) ∧ u.cell? ⟨nb, 7, none⟩ = some (.int .i64 (dgl D 4)) ∧ u.cell? ⟨nb, 8, none⟩ = some (.int .i64 (dgl D 5)) ∧ u.cell? ⟨nb, 9, none⟩ = some (.int .i64 (dgl D 6)) ∧ u.cell? ⟨nb, 10, none⟩ = some (.int .i64 (dgl D 7)) ∧ u.cell? ⟨nb, 11, none⟩ = some (.int .i64 (dgl D 8))) _ _ (fun u hu => hu.1) (⟨⟨c0, c1, c2, c3, c4, c5, c6⟩, d3, d4, d5, d6, d7, d8, d9, d10, d11⟩) ?_
    clear hK K
    iterate 2
      first
        | (refine mv_free ?_ (Or.inl ⟨by rfl, ?_⟩) (⟨⟨c0, c1, c2, c3, c4, c5, c6⟩, d3, d4, d5, d6, d7, d8, d9, d10, d11⟩) ?_
           rotate_left 1
           · intro u
             go_simp
             try simp only [d1]
             try simp only [d2]
             try simp only [d3]
             try with_reducible rfl
           simp only [Act.put, List.setIfInBounds_toArray, List.set_cons_zero, List.set_cons_succ])
        | (refine mv_free _ (Or.inr ⟨by rfl, rfl⟩) (⟨⟨c0, c1, c2, c3, c4, c5, c6⟩, d3, d4, d5, d6, d7, d8, d9, d10, d11⟩) ?_
           simp only [Act.put, List.setIfInBounds_toArray, List.set_cons_zero, List.set_cons_succ])
    iterate 1
      first
        | (refine mv_take ?_ (Or.inl ⟨by rfl, ?_⟩) (⟨⟨c0, c1, c2, c3, c4, c5, c6⟩, d3, d4, d5, d6, d7, d8, d9, d10, d11⟩) ?_
           rotate_left 1
           · intro u hu
             (try dsimp only at hu)
             go_simp
             try with_reducible rfl
           simp only [Act.put, List.setIfInBounds_toArray, List.set_cons_zero, List.set_cons_succ])
        | (refine mv_take _ (Or.inr ⟨by rfl, rfl⟩) (⟨⟨c0, c1, c2, c3, c4, c5, c6⟩, d3, d4, d5, d6, d7, d8, d9, d10, d11⟩) ?_
           simp only [Act.put, List.setIfInBounds_toArray, List.set_cons_zero, List.set_cons_succ])
    refine mv_step (fun K hK => ?_)
    go_simp
    refine (SM.out _).mono ?_
    rintro e w11 ⟨rfl, hq⟩
    replace BS := Lib.hid (BS.out.trans (hq.mono BS.out.size))
    replace KA := Lib.hid (KA.out.bel hq)
    replace KN := Lib.hid (KN.out.bel hq)
    clear hq c0 f0 c1 f1 c2 f2 c3 f3 c4 f4 c5 f5 c6 f6 d0 l0 d1 l1 d2 l2 d3 l3 d4 l4 d5 l5 d6 l6 d7 l7 d8 l8 d9 l9 d10 l10 d11 l11 d12 l12 d13 l13 d14 l14
    have hh_ := KA.out
    obtain ⟨c0, f0⟩ := hh_.one 0 rfl
    obtain ⟨c1, f1⟩ := hh_.one 1 rfl
    obtain ⟨c2, f2⟩ := hh_.one 2 rfl
    obtain ⟨c3, f3⟩ := hh_.one 3 rfl
    obtain ⟨c4, f4⟩ := hh_.one 4 rfl
    obtain ⟨c5, f5⟩ := hh_.one 5 rfl
    obtain ⟨c6, f6⟩ := hh_.one 6 rfl
    clear hh_
    have hh_ := KN.out
    obtain ⟨d0, l0⟩ := hh_.one 0 rfl
    obtain ⟨d1, l1⟩ := hh_.one 1 rfl
    obtain ⟨d2, l2⟩ := hh_.one 2 rfl
    obtain ⟨d3, l3⟩ := hh_.one 3 rfl
    obtain ⟨d4, l4⟩ := hh_.one 4 rfl
    obtain ⟨d5, l5⟩ := hh_.one 5 rfl
    obtain ⟨d6, l6⟩ := hh_.one 6 rfl
    obtain ⟨d7, l7⟩ := hh_.one 7 rfl
    obtain ⟨d8, l8⟩ := hh_.one 8 rfl
    obtain ⟨d9, l9⟩ := hh_.one 9 rfl
    obtain ⟨d10, l10⟩ := hh_.one 10 rfl
    obtain ⟨d11, l11⟩ := hh_.one 11 rfl
    obtain ⟨d12, l12⟩ := hh_.one 12 rfl
    obtain ⟨d13, l13⟩ := hh_.one 13 rfl
    obtain ⟨d14, l14⟩ := hh_.one 14 rfl
    clear hh_
    go_wp2_with fail
    refine hK.out _ _ _ (fun u hu => hu) (⟨⟨c0, c1, c2, c3, c4, c5, c6⟩, d3, d4, d5, d6, d7, d8, d9, d10, d11⟩) ?_
    clear hK K
    iterate 2
      first
        | (refine mv_free ?_ (Or.inl ⟨by rfl, ?_⟩) (⟨⟨c0, c1, c2, c3, c4, c5, c6⟩, d3, d4, d5, d6, d7, d8, d9, d10, d11⟩) ?_
           rotate_left 1
           · intro u
             go_simp
             try simp only [d1]
             try simp only [d2]
             try simp only [d3]
             try with_reducible rfl
           simp only [Act.put, List.setIfInBounds_toArray, List.set_cons_zero, List.set_cons_succ])
        | (refine mv_free _ (Or.inr ⟨by rfl, rfl⟩) (⟨⟨c0, c1, c2, c3, c4, c5, c6⟩, d3, d4, d5, d6, d7, d8, d9, d10, d11⟩) ?_
           simp only [Act.put, List.setIfInBounds_toArray, List.set_cons_zero, List.set_cons_succ])
    refine mv_step (fun K hK => ?_)
    go_simp
    refine (lives41 _).mono ?_
    rintro e w12 ⟨rfl, hq⟩
    replace BS := Lib.hid (BS.out.trans (hq.mono BS.out.size))
    replace KA := Lib.hid (KA.out.bel hq)
    replace KN := Lib.hid (KN.out.bel hq)
    clear hq c0 f0 c1 f1 c2 f2 c3 f3 c4 f4 c5 f5 c6 f6 d0 l0 d1 l1 d2 l2 d3 l3 d4 l4 d5 l5 d6 l6 d7 l7 d8 l8 d9 l9 d10 l10 d11 l11 d12 l12 d13 l13 d14 l14
    have hh_ := KA.out
    obtain ⟨c0, f0⟩ := hh_.one 0 rfl
    obtain ⟨c1, f1⟩ := hh_.one 1 rfl
    obtain ⟨c2, f2⟩ := hh_.one 2 rfl
    obtain ⟨c3, f3⟩ := hh_.one 3 rfl
    obtain ⟨c4, f4⟩ := hh_.one 4 rfl
    obtain ⟨c5, f5⟩ := hh_.one 5 rfl
    obtain ⟨c6, f6⟩ := hh_.one 6 rfl
    clear hh_
    have hh_ := KN.out
    obtain ⟨d0, l0⟩ := hh_.one 0 rfl
    obtain ⟨d1, l1⟩ := hh_.one 1 rfl
    obtain ⟨d2, l2⟩ := hh_.one 2 rfl
    obtain ⟨d3, l3⟩ := hh_.one 3 rfl
    obtain ⟨d4, l4⟩ := hh_.one 4 rfl
    obtain ⟨d5, l5⟩ := hh_.one 5 rfl
    obtain ⟨d6, l6⟩ := hh_.one 6 rfl
    obtain ⟨d7, l7⟩ := hh_.one 7 rfl
    obtain ⟨d8, l8⟩ := hh_.one 8 rfl
    obtain ⟨d9, l9⟩ := hh_.one 9 rfl
    obtain ⟨d10, l10⟩ := hh_.one 10 rfl
    obtain ⟨d11, l11⟩ := hh_.one 11 rfl
    obtain ⟨d12, l12⟩ := hh_.one 12 rfl
    obtain ⟨d13, l13⟩ := hh_.one 13 rfl
    obtain ⟨d14, l14⟩ := hh_.one 14 rfl
    clear hh_
    go_wp2_with fail
    refine hK.out _ _ _ (fun u hu => hu) (⟨⟨c0, c1, c2, c3, c4, c5, c6⟩, d3, d4, d5, d6, d7, d8, d9, d10, d11⟩) ?_
    clear hK K
    iterate 2
      first
        | (refine mv_free ?_ (Or.inl ⟨by rfl, ?_⟩) (⟨⟨c0, c1, c2, c3, c4, c5, c6⟩, d3, d4, d5, d6, d7, d8, d9, d10, d11⟩) ?_
           rotate_left 1
           · intro u
             go_simp
             try simp only [d1]
             try simp only [d2]
             try simp only [d3]
             try with_reducible rfl
           simp only [Act.put, List.setIfInBounds_toArray, List.set_cons_zero, List.set_cons_succ])
        | (refine mv_free _ (Or.inr ⟨by rfl, rfl⟩) (⟨⟨c0, c1, c2, c3, c4, c5, c6⟩, d3, d4, d5, d6, d7, d8, d9, d10, d11⟩) ?_
           simp only [Act.put, List.setIfInBounds_toArray, List.set_cons_zero, List.set_cons_succ])
    refine mv_done ?_
    go_wp2
    go_ret
    exact ⟨rfl, BS.out⟩
end Go.Proofs.Ytakocggclopngaa
