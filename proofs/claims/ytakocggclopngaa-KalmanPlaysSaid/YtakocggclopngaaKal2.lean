/- The estimator's object; its small methods; walked. -/
import Derived.Test.YtakocggclopngaaKal1
import Derived.Test.YtakocggclopngaaAtom
namespace Go.Proofs.Ytakocggclopngaa
open Go.ChangeShapes Go.WideShapes Go.ChangeAt Go.RowKit
set_option linter.unusedVariables false
set_option linter.unusedSimpArgs false
def KeC (X P : Nat → Int) (g tk rf : Int) : List Value := [.int .i64 (X 0), .int .i64 (X 1), .int .i64 (X 2), .int .i64 (P 0), .int .i64 (P 1), .int .i64 (P 2), .int .i64 (P 3), .int .i64 (P 4), .int .i64 (P 5), .int .i64 (P 6), .int .i64 (P 7), .int .i64 (P 8), .int .i64 g, .int .i64 tk, .int .i64 rf]
theorem KeC_eq {X X' P P' : Nat → Int} (g tk rf : Int) (hx : ∀ t, t < 3 → X t = X' t) (hp : ∀ t, t < 9 → P t = P' t) : KeC X P g tk rf = KeC X' P' g tk rf := by
  simp only [KeC, hx 0 (by omega), hx 1 (by omega), hx 2 (by omega), hp 0 (by omega), hp 1 (by omega), hp 2 (by omega), hp 3 (by omega), hp 4 (by omega), hp 5 (by omega), hp 6 (by omega), hp 7 (by omega), hp 8 (by omega)]
set_option maxRecDepth 100000 in
set_option maxHeartbeats 8000000 in
theorem kbetween (n lo hi : Int) (w : World) : Calls Try.prog 96 #[.int .i64 n, .int .i64 lo, .int .i64 hi] w fun e w' => e = .returned (.bool (decide (lo ≤ n ∧ n ≤ hi))) ∧ w = w' := by
  go_enter Try.func96, Try.ntmps96
  go_wp2
  all_goals
    go_ret
    refine ⟨ret_bool ?_, rfl⟩
    first | (symm; apply decide_eq_true; omega) | (symm; apply decide_eq_false; omega) | (simp; omega)
set_option maxRecDepth 100000 in
set_option maxHeartbeats 8000000 in
theorem kclip (n : Int) (w : World) : Calls Try.prog 121 #[.int .i64 n] w fun e w' => e = .returned (.int .i64 (c36 n)) ∧ w = w' := by
  go_enter Try.func121, Try.ntmps121
  go_wp2
  all_goals
    go_ret
    exact ⟨ret_int (by unfold c36; omega), rfl⟩
set_option maxRecDepth 100000 in
set_option maxHeartbeats 8000000 in
theorem kall0 (A : Nat → Int) (lo hi : Int)  (g0 : ¬ (lo ≤ A 0 ∧ A 0 ≤ hi)) (w : World) : Calls Try.prog 97 #[.agg #[.int .i64 (A 0), .int .i64 (A 1), .int .i64 (A 2)], .int .i64 lo, .int .i64 hi] w fun e w' => e = .returned (.bool false) ∧ Below w.heap.size w w' := by
  have B0 := fun u => kbetween (A 0) lo hi u
  rw [show decide (lo ≤ A 0 ∧ A 0 ≤ hi) = false from decide_eq_false g0] at B0
  replace B0 := Lib.hid B0
  clear g0
  have i0 : ∀ u, (Instr.index 65 (.agg #[.int .i64 (A 0), .int .i64 (A 1), .int .i64 (A 2)]) (.int .i64 0)).run Try.prog u = .ok (.int .i64 (A 0)) u := fun _ => by kernel_rfl
  have i1 : ∀ u, (Instr.index 65 (.agg #[.int .i64 (A 0), .int .i64 (A 1), .int .i64 (A 2)]) (.int .i64 1)).run Try.prog u = .ok (.int .i64 (A 1)) u := fun _ => by kernel_rfl
  have i2 : ∀ u, (Instr.index 65 (.agg #[.int .i64 (A 0), .int .i64 (A 1), .int .i64 (A 2)]) (.int .i64 2)).run Try.prog u = .ok (.int .i64 (A 2)) u := fun _ => by kernel_rfl
  go_enter Try.func97, Try.ntmps97
  go_wp2
  go_loopw [10] (fun i u => ∃ k : Nat, k ≤ 0 ∧ i = .int .i64 (k : Int) ∧ Hid (Below w.heap.size w u)) (fun i _ => 3 - (intOf i).toNat)
  case atStart => exact ⟨0, by omega, rfl, Lib.hid (by repeat (first | exact Below.refl _ _ | assumption | apply Below.drew | apply below_drewN | (refine Below.alloc ?_ (by first | exact Nat.le_refl _ | omega | (simp <;> omega)) _) | (refine Below.setCell ?_ (by first | exact Nat.le_refl _ | omega | (simp <;> omega)) _)))⟩
  case round =>
    obtain ⟨k, hk, rfl, hb⟩ := hrel
    rcases (show k = 0 by omega) with rfl
    · have kk : ((0 : Nat) : Int) = 0 := rfl
      go_wp2_with (go_at_call 96; refine (B0.out _).mono ?_; rintro e w1 ⟨rfl, rfl⟩)
      go_ret
      exact ⟨rfl, hb.out⟩
set_option maxRecDepth 100000 in
set_option maxHeartbeats 8000000 in
theorem kall1 (A : Nat → Int) (lo hi : Int) (g0 : lo ≤ A 0 ∧ A 0 ≤ hi) (g1 : ¬ (lo ≤ A 1 ∧ A 1 ≤ hi)) (w : World) : Calls Try.prog 97 #[.agg #[.int .i64 (A 0), .int .i64 (A 1), .int .i64 (A 2)], .int .i64 lo, .int .i64 hi] w fun e w' => e = .returned (.bool false) ∧ Below w.heap.size w w' := by
  have B0 := fun u => kbetween (A 0) lo hi u
  rw [show decide (lo ≤ A 0 ∧ A 0 ≤ hi) = true from decide_eq_true g0] at B0
  replace B0 := Lib.hid B0
  have B1 := fun u => kbetween (A 1) lo hi u
  rw [show decide (lo ≤ A 1 ∧ A 1 ≤ hi) = false from decide_eq_false g1] at B1
  replace B1 := Lib.hid B1
  clear g0 g1
  have i0 : ∀ u, (Instr.index 65 (.agg #[.int .i64 (A 0), .int .i64 (A 1), .int .i64 (A 2)]) (.int .i64 0)).run Try.prog u = .ok (.int .i64 (A 0)) u := fun _ => by kernel_rfl
  have i1 : ∀ u, (Instr.index 65 (.agg #[.int .i64 (A 0), .int .i64 (A 1), .int .i64 (A 2)]) (.int .i64 1)).run Try.prog u = .ok (.int .i64 (A 1)) u := fun _ => by kernel_rfl
  have i2 : ∀ u, (Instr.index 65 (.agg #[.int .i64 (A 0), .int .i64 (A 1), .int .i64 (A 2)]) (.int .i64 2)).run Try.prog u = .ok (.int .i64 (A 2)) u := fun _ => by kernel_rfl
  go_enter Try.func97, Try.ntmps97
  go_wp2
  go_loopw [10] (fun i u => ∃ k : Nat, k ≤ 1 ∧ i = .int .i64 (k : Int) ∧ Hid (Below w.heap.size w u)) (fun i _ => 3 - (intOf i).toNat)
  case atStart => exact ⟨0, by omega, rfl, Lib.hid (by repeat (first | exact Below.refl _ _ | assumption | apply Below.drew | apply below_drewN | (refine Below.alloc ?_ (by first | exact Nat.le_refl _ | omega | (simp <;> omega)) _) | (refine Below.setCell ?_ (by first | exact Nat.le_refl _ | omega | (simp <;> omega)) _)))⟩
  case round =>
    obtain ⟨k, hk, rfl, hb⟩ := hrel
    rcases (show k = 0 ∨ k = 1 by omega) with rfl | rfl
    · have kk : ((0 : Nat) : Int) = 0 := rfl
      go_wp2_with (go_at_call 96; refine (B0.out _).mono ?_; rintro e w1 ⟨rfl, rfl⟩)
      go_roundw
      case rel => exact ⟨0 + 1, by omega, by first | rfl | go_num, hb⟩
      case measure => simp [intOf]
    · have kk : ((1 : Nat) : Int) = 1 := rfl
      go_wp2_with (go_at_call 96; refine (B1.out _).mono ?_; rintro e w1 ⟨rfl, rfl⟩)
      go_ret
      exact ⟨rfl, hb.out⟩
set_option maxRecDepth 100000 in
set_option maxHeartbeats 8000000 in
theorem kall2 (A : Nat → Int) (lo hi : Int) (g0 : lo ≤ A 0 ∧ A 0 ≤ hi) (g1 : lo ≤ A 1 ∧ A 1 ≤ hi) (g2 : ¬ (lo ≤ A 2 ∧ A 2 ≤ hi)) (w : World) : Calls Try.prog 97 #[.agg #[.int .i64 (A 0), .int .i64 (A 1), .int .i64 (A 2)], .int .i64 lo, .int .i64 hi] w fun e w' => e = .returned (.bool false) ∧ Below w.heap.size w w' := by
  have B0 := fun u => kbetween (A 0) lo hi u
  rw [show decide (lo ≤ A 0 ∧ A 0 ≤ hi) = true from decide_eq_true g0] at B0
  replace B0 := Lib.hid B0
  have B1 := fun u => kbetween (A 1) lo hi u
  rw [show decide (lo ≤ A 1 ∧ A 1 ≤ hi) = true from decide_eq_true g1] at B1
  replace B1 := Lib.hid B1
  have B2 := fun u => kbetween (A 2) lo hi u
  rw [show decide (lo ≤ A 2 ∧ A 2 ≤ hi) = false from decide_eq_false g2] at B2
  replace B2 := Lib.hid B2
  clear g0 g1 g2
  have i0 : ∀ u, (Instr.index 65 (.agg #[.int .i64 (A 0), .int .i64 (A 1), .int .i64 (A 2)]) (.int .i64 0)).run Try.prog u = .ok (.int .i64 (A 0)) u := fun _ => by kernel_rfl
  have i1 : ∀ u, (Instr.index 65 (.agg #[.int .i64 (A 0), .int .i64 (A 1), .int .i64 (A 2)]) (.int .i64 1)).run Try.prog u = .ok (.int .i64 (A 1)) u := fun _ => by kernel_rfl
  have i2 : ∀ u, (Instr.index 65 (.agg #[.int .i64 (A 0), .int .i64 (A 1), .int .i64 (A 2)]) (.int .i64 2)).run Try.prog u = .ok (.int .i64 (A 2)) u := fun _ => by kernel_rfl
  go_enter Try.func97, Try.ntmps97
  go_wp2
  go_loopw [10] (fun i u => ∃ k : Nat, k ≤ 2 ∧ i = .int .i64 (k : Int) ∧ Hid (Below w.heap.size w u)) (fun i _ => 3 - (intOf i).toNat)
  case atStart => exact ⟨0, by omega, rfl, Lib.hid (by repeat (first | exact Below.refl _ _ | assumption | apply Below.drew | apply below_drewN | (refine Below.alloc ?_ (by first | exact Nat.le_refl _ | omega | (simp <;> omega)) _) | (refine Below.setCell ?_ (by first | exact Nat.le_refl _ | omega | (simp <;> omega)) _)))⟩
  case round =>
    obtain ⟨k, hk, rfl, hb⟩ := hrel
    rcases (show k = 0 ∨ k = 1 ∨ k = 2 by omega) with rfl | rfl | rfl
    · have kk : ((0 : Nat) : Int) = 0 := rfl
      go_wp2_with (go_at_call 96; refine (B0.out _).mono ?_; rintro e w1 ⟨rfl, rfl⟩)
      go_roundw
      case rel => exact ⟨0 + 1, by omega, by first | rfl | go_num, hb⟩
      case measure => simp [intOf]
    · have kk : ((1 : Nat) : Int) = 1 := rfl
      go_wp2_with (go_at_call 96; refine (B1.out _).mono ?_; rintro e w1 ⟨rfl, rfl⟩)
      go_roundw
      case rel => exact ⟨1 + 1, by omega, by first | rfl | go_num, hb⟩
      case measure => simp [intOf]
    · have kk : ((2 : Nat) : Int) = 2 := rfl
      go_wp2_with (go_at_call 96; refine (B2.out _).mono ?_; rintro e w1 ⟨rfl, rfl⟩)
      go_ret
      exact ⟨rfl, hb.out⟩
set_option maxRecDepth 100000 in
set_option maxHeartbeats 8000000 in
theorem kall3 (A : Nat → Int) (lo hi : Int) (g0 : lo ≤ A 0 ∧ A 0 ≤ hi) (g1 : lo ≤ A 1 ∧ A 1 ≤ hi) (g2 : lo ≤ A 2 ∧ A 2 ≤ hi) (w : World) : Calls Try.prog 97 #[.agg #[.int .i64 (A 0), .int .i64 (A 1), .int .i64 (A 2)], .int .i64 lo, .int .i64 hi] w fun e w' => e = .returned (.bool true) ∧ Below w.heap.size w w' := by
  have B0 := fun u => kbetween (A 0) lo hi u
  rw [show decide (lo ≤ A 0 ∧ A 0 ≤ hi) = true from decide_eq_true g0] at B0
  replace B0 := Lib.hid B0
  have B1 := fun u => kbetween (A 1) lo hi u
  rw [show decide (lo ≤ A 1 ∧ A 1 ≤ hi) = true from decide_eq_true g1] at B1
  replace B1 := Lib.hid B1
  have B2 := fun u => kbetween (A 2) lo hi u
  rw [show decide (lo ≤ A 2 ∧ A 2 ≤ hi) = true from decide_eq_true g2] at B2
  replace B2 := Lib.hid B2
  clear g0 g1 g2
  have i0 : ∀ u, (Instr.index 65 (.agg #[.int .i64 (A 0), .int .i64 (A 1), .int .i64 (A 2)]) (.int .i64 0)).run Try.prog u = .ok (.int .i64 (A 0)) u := fun _ => by kernel_rfl
  have i1 : ∀ u, (Instr.index 65 (.agg #[.int .i64 (A 0), .int .i64 (A 1), .int .i64 (A 2)]) (.int .i64 1)).run Try.prog u = .ok (.int .i64 (A 1)) u := fun _ => by kernel_rfl
  have i2 : ∀ u, (Instr.index 65 (.agg #[.int .i64 (A 0), .int .i64 (A 1), .int .i64 (A 2)]) (.int .i64 2)).run Try.prog u = .ok (.int .i64 (A 2)) u := fun _ => by kernel_rfl
  go_enter Try.func97, Try.ntmps97
  go_wp2
  go_loopw [10] (fun i u => ∃ k : Nat, k ≤ 3 ∧ i = .int .i64 (k : Int) ∧ Hid (Below w.heap.size w u)) (fun i _ => 3 - (intOf i).toNat)
  case atStart => exact ⟨0, by omega, rfl, Lib.hid (by repeat (first | exact Below.refl _ _ | assumption | apply Below.drew | apply below_drewN | (refine Below.alloc ?_ (by first | exact Nat.le_refl _ | omega | (simp <;> omega)) _) | (refine Below.setCell ?_ (by first | exact Nat.le_refl _ | omega | (simp <;> omega)) _)))⟩
  case round =>
    obtain ⟨k, hk, rfl, hb⟩ := hrel
    rcases (show k = 0 ∨ k = 1 ∨ k = 2 ∨ k = 3 by omega) with rfl | rfl | rfl | rfl
    · have kk : ((0 : Nat) : Int) = 0 := rfl
      go_wp2_with (go_at_call 96; refine (B0.out _).mono ?_; rintro e w1 ⟨rfl, rfl⟩)
      go_roundw
      case rel => exact ⟨0 + 1, by omega, by first | rfl | go_num, hb⟩
      case measure => simp [intOf]
    · have kk : ((1 : Nat) : Int) = 1 := rfl
      go_wp2_with (go_at_call 96; refine (B1.out _).mono ?_; rintro e w1 ⟨rfl, rfl⟩)
      go_roundw
      case rel => exact ⟨1 + 1, by omega, by first | rfl | go_num, hb⟩
      case measure => simp [intOf]
    · have kk : ((2 : Nat) : Int) = 2 := rfl
      go_wp2_with (go_at_call 96; refine (B2.out _).mono ?_; rintro e w1 ⟨rfl, rfl⟩)
      go_roundw
      case rel => exact ⟨2 + 1, by omega, by first | rfl | go_num, hb⟩
      case measure => simp [intOf]
    · have kk : ((3 : Nat) : Int) = 3 := rfl
      go_wp2
      go_ret
      exact ⟨rfl, hb.out⟩
theorem kall (A : Nat → Int) (lo hi : Int) (w : World) : Calls Try.prog 97 #[.agg #[.int .i64 (A 0), .int .i64 (A 1), .int .i64 (A 2)], .int .i64 lo, .int .i64 hi] w fun e w' => e = .returned (.bool (kIn A lo hi)) ∧ Below w.heap.size w w' := by
  by_cases g0 : lo ≤ A 0 ∧ A 0 ≤ hi
  · by_cases g1 : lo ≤ A 1 ∧ A 1 ≤ hi
    · by_cases g2 : lo ≤ A 2 ∧ A 2 ≤ hi
      · rw [show kIn A lo hi = true from decide_eq_true ⟨g0, g1, g2⟩]; exact kall3 A lo hi g0 g1 g2 w
      · rw [show kIn A lo hi = false from decide_eq_false (fun q => g2 q.2.2)]; exact kall2 A lo hi g0 g1 g2 w
    · rw [show kIn A lo hi = false from decide_eq_false (fun q => g1 q.2.1)]; exact kall1 A lo hi g0 g1 w
  · rw [show kIn A lo hi = false from decide_eq_false (fun q => g0 q.1)]; exact kall0 A lo hi g0 w
theorem kn_box (w : World) (A D : Nat → Int) : ∃ V, V = ((w.alloc (.cells #[.int .i64 (A 0), .int .i64 (A 1), .int .i64 (A 2)] 65)).alloc (.cells #[.int .i64 (D 0), .int .i64 (D 1), .int .i64 (D 2)] 65)) ∧ Below w.heap.size w V ∧ Held w.heap.size [.int .i64 (A 0), .int .i64 (A 1), .int .i64 (A 2)] V ∧ Held (w.heap.size + 1) [.int .i64 (D 0), .int .i64 (D 1), .int .i64 (D 2)] V ∧ V.heap.size = w.heap.size + 2 := by
  refine ⟨_, rfl, (by repeat (first | exact Below.refl _ _ | assumption | apply Below.drew | apply below_drewN | (refine Below.alloc ?_ (by first | exact Nat.le_refl _ | omega | (simp <;> omega)) _) | (refine Below.setCell ?_ (by first | exact Nat.le_refl _ | omega | (simp <;> omega)) _))), ?_, ?_, by simp⟩
  · have := ((Held.new w [.int .i64 (A 0), .int .i64 (A 1), .int .i64 (A 2)] 65).alloc (.cells #[.int .i64 (D 0), .int .i64 (D 1), .int .i64 (D 2)] 65))
    simpa using this
  · have := (Held.new (w.alloc (.cells #[.int .i64 (A 0), .int .i64 (A 1), .int .i64 (A 2)] 65)) [.int .i64 (D 0), .int .i64 (D 1), .int .i64 (D 2)] 65)
    simpa using this
def knR (A D : Nat → Int) (g : Int) : Bool := decide (1 ≤ g ∧ g ≤ 68719476736) && kIn D 0 68719476736 && kIn A (-68719476736) 68719476736
set_option maxRecDepth 100000 in
set_option maxHeartbeats 8000000 in
theorem knew0 (A D : Nat → Int) (g : Int) (hg : decide (1 ≤ g ∧ g ≤ 68719476736) = false) (w : World) : Calls Try.prog 46 #[.agg #[.int .i64 (A 0), .int .i64 (A 1), .int .i64 (A 2)], .agg #[.int .i64 (D 0), .int .i64 (D 1), .int .i64 (D 2)], .int .i64 g] w fun e w' => e = .returned (.tuple #[.pointer none, .int .i64 2]) ∧ Below w.heap.size w w' := by
  obtain ⟨V, eV, hb0, hA, hD, hz⟩ := kn_box w A D
  have B0 := fun u => kbetween g 1 68719476736 u
  rw [hg] at B0
  replace B0 := Lib.hid B0
  have HA := Lib.hid hA
  have HD := Lib.hid hD
  obtain ⟨c0, f0⟩ := hA.one 0 rfl
  obtain ⟨c1, f1⟩ := hA.one 1 rfl
  obtain ⟨c2, f2⟩ := hA.one 2 rfl
  obtain ⟨d0, f0⟩ := hD.one 0 rfl
  obtain ⟨d1, f1⟩ := hD.one 1 rfl
  obtain ⟨d2, f2⟩ := hD.one 2 rfl
  replace eV := Lib.hid eV
  replace hz := Lib.hid hz
  replace hb0 := Lib.hid hb0
  clear hA hD hg
  go_enter Try.func46, Try.ntmps46
  go_wp2_with fail
  rw [← eV.out]
  refine (B0.out _).mono ?_
  rintro e w' ⟨rfl, rfl⟩
  go_wp2
  go_ret2
  exact ⟨rfl, hb0.out⟩
set_option maxRecDepth 100000 in
set_option maxHeartbeats 8000000 in
theorem knew1 (A D : Nat → Int) (g : Int) (hg : decide (1 ≤ g ∧ g ≤ 68719476736) = true) (hd : kIn D 0 68719476736 = false) (w : World) : Calls Try.prog 46 #[.agg #[.int .i64 (A 0), .int .i64 (A 1), .int .i64 (A 2)], .agg #[.int .i64 (D 0), .int .i64 (D 1), .int .i64 (D 2)], .int .i64 g] w fun e w' => e = .returned (.tuple #[.pointer none, .int .i64 2]) ∧ Below w.heap.size w w' := by
  obtain ⟨V, eV, hb0, hA, hD, hz⟩ := kn_box w A D
  have B0 := fun u => kbetween g 1 68719476736 u
  rw [hg] at B0
  replace B0 := Lib.hid B0
  have B1 := fun u => kall D 0 68719476736 u
  rw [hd] at B1
  replace B1 := Lib.hid B1
  have HA := Lib.hid hA
  have HD := Lib.hid hD
  obtain ⟨c0, f0⟩ := hA.one 0 rfl
  obtain ⟨c1, f1⟩ := hA.one 1 rfl
  obtain ⟨c2, f2⟩ := hA.one 2 rfl
  obtain ⟨d0, f0⟩ := hD.one 0 rfl
  obtain ⟨d1, f1⟩ := hD.one 1 rfl
  obtain ⟨d2, f2⟩ := hD.one 2 rfl
  replace eV := Lib.hid eV
  replace hz := Lib.hid hz
  replace hb0 := Lib.hid hb0
  clear hA hD hg hd
  go_enter Try.func46, Try.ntmps46
  go_wp2_with fail
  rw [← eV.out]
  refine (B0.out _).mono ?_
  rintro e w' ⟨rfl, rfl⟩
  go_wp2_with fail
  refine (B1.out _).mono ?_
  rintro e w1 ⟨rfl, hq1⟩
  have hb1 := Lib.hid (hb0.out.trans (hq1.mono hb0.out.size))
  have HA1 := Lib.hid (HA.out.bel hq1)
  have HD1 := Lib.hid (HD.out.bel hq1)
  clear c0 c1 c2 d0 d1 d2 f0 f1 f2
  have hA := HA1.out
  have hD := HD1.out
  obtain ⟨c0, f0⟩ := hA.one 0 rfl
  obtain ⟨c1, f1⟩ := hA.one 1 rfl
  obtain ⟨c2, f2⟩ := hA.one 2 rfl
  obtain ⟨d0, f0⟩ := hD.one 0 rfl
  obtain ⟨d1, f1⟩ := hD.one 1 rfl
  obtain ⟨d2, f2⟩ := hD.one 2 rfl
  clear hA hD hq1
  go_wp2
  go_ret2
  exact ⟨rfl, hb1.out⟩
set_option maxRecDepth 100000 in
set_option maxHeartbeats 8000000 in
theorem knew2 (A D : Nat → Int) (g : Int) (hg : decide (1 ≤ g ∧ g ≤ 68719476736) = true) (hd : kIn D 0 68719476736 = true) (ha : kIn A (-68719476736) 68719476736 = false) (w : World) : Calls Try.prog 46 #[.agg #[.int .i64 (A 0), .int .i64 (A 1), .int .i64 (A 2)], .agg #[.int .i64 (D 0), .int .i64 (D 1), .int .i64 (D 2)], .int .i64 g] w fun e w' => e = .returned (.tuple #[.pointer none, .int .i64 2]) ∧ Below w.heap.size w w' := by
  obtain ⟨V, eV, hb0, hA, hD, hz⟩ := kn_box w A D
  have B0 := fun u => kbetween g 1 68719476736 u
  rw [hg] at B0
  replace B0 := Lib.hid B0
  have B1 := fun u => kall D 0 68719476736 u
  rw [hd] at B1
  replace B1 := Lib.hid B1
  have B2 := fun u => kall A (-68719476736) 68719476736 u
  rw [ha] at B2
  replace B2 := Lib.hid B2
  have HA := Lib.hid hA
  have HD := Lib.hid hD
  obtain ⟨c0, f0⟩ := hA.one 0 rfl
  obtain ⟨c1, f1⟩ := hA.one 1 rfl
  obtain ⟨c2, f2⟩ := hA.one 2 rfl
  obtain ⟨d0, f0⟩ := hD.one 0 rfl
  obtain ⟨d1, f1⟩ := hD.one 1 rfl
  obtain ⟨d2, f2⟩ := hD.one 2 rfl
  replace eV := Lib.hid eV
  replace hz := Lib.hid hz
  replace hb0 := Lib.hid hb0
  clear hA hD hg hd ha
  go_enter Try.func46, Try.ntmps46
  go_wp2_with fail
  rw [← eV.out]
  refine (B0.out _).mono ?_
  rintro e w' ⟨rfl, rfl⟩
  go_wp2_with fail
  refine (B1.out _).mono ?_
  rintro e w1 ⟨rfl, hq1⟩
  have hb1 := Lib.hid (hb0.out.trans (hq1.mono hb0.out.size))
  have HA1 := Lib.hid (HA.out.bel hq1)
  have HD1 := Lib.hid (HD.out.bel hq1)
  clear c0 c1 c2 d0 d1 d2 f0 f1 f2
  have hA := HA1.out
  have hD := HD1.out
  obtain ⟨c0, f0⟩ := hA.one 0 rfl
  obtain ⟨c1, f1⟩ := hA.one 1 rfl
  obtain ⟨c2, f2⟩ := hA.one 2 rfl
  obtain ⟨d0, f0⟩ := hD.one 0 rfl
  obtain ⟨d1, f1⟩ := hD.one 1 rfl
  obtain ⟨d2, f2⟩ := hD.one 2 rfl
  clear hA hD hq1
  go_wp2_with fail
  refine (B2.out _).mono ?_
  rintro e w2 ⟨rfl, hq2⟩
  have hb2 := Lib.hid (hb1.out.trans (hq2.mono hb1.out.size))
  have HA2 := Lib.hid (HA1.out.bel hq2)
  have HD2 := Lib.hid (HD1.out.bel hq2)
  clear c0 c1 c2 d0 d1 d2 f0 f1 f2
  have hA := HA2.out
  have hD := HD2.out
  obtain ⟨c0, f0⟩ := hA.one 0 rfl
  obtain ⟨c1, f1⟩ := hA.one 1 rfl
  obtain ⟨c2, f2⟩ := hA.one 2 rfl
  obtain ⟨d0, f0⟩ := hD.one 0 rfl
  obtain ⟨d1, f1⟩ := hD.one 1 rfl
  obtain ⟨d2, f2⟩ := hD.one 2 rfl
  clear hA hD hq2
  go_wp2
  go_ret2
  exact ⟨rfl, hb2.out⟩
set_option maxRecDepth 100000 in
set_option maxHeartbeats 8000000 in
theorem knew3 (A D : Nat → Int) (g : Int) (hg : decide (1 ≤ g ∧ g ≤ 68719476736) = true) (hd : kIn D 0 68719476736 = true) (ha : kIn A (-68719476736) 68719476736 = true) (w : World) : Calls Try.prog 46 #[.agg #[.int .i64 (A 0), .int .i64 (A 1), .int .i64 (A 2)], .agg #[.int .i64 (D 0), .int .i64 (D 1), .int .i64 (D 2)], .int .i64 g] w fun e w' => ∃ b, w.heap.size ≤ b ∧ e = .returned (.tuple #[.pointer (some ⟨b, 0, none⟩), .int .i64 0]) ∧ Held b (KeC A (dgl D) g 0 0) w' ∧ Below w.heap.size w w' := by
  obtain ⟨V, eV, hb0, hA, hD, hz⟩ := kn_box w A D
  have B0 := fun u => kbetween g 1 68719476736 u
  rw [hg] at B0
  replace B0 := Lib.hid B0
  have B1 := fun u => kall D 0 68719476736 u
  rw [hd] at B1
  replace B1 := Lib.hid B1
  have B2 := fun u => kall A (-68719476736) 68719476736 u
  rw [ha] at B2
  replace B2 := Lib.hid B2
  have HA := Lib.hid hA
  have HD := Lib.hid hD
  obtain ⟨c0, f0⟩ := hA.one 0 rfl
  obtain ⟨c1, f1⟩ := hA.one 1 rfl
  obtain ⟨c2, f2⟩ := hA.one 2 rfl
  obtain ⟨d0, f0⟩ := hD.one 0 rfl
  obtain ⟨d1, f1⟩ := hD.one 1 rfl
  obtain ⟨d2, f2⟩ := hD.one 2 rfl
  replace eV := Lib.hid eV
  replace hz := Lib.hid hz
  replace hb0 := Lib.hid hb0
  clear hA hD hg hd ha
  go_enter Try.func46, Try.ntmps46
  go_wp2_with fail
  rw [← eV.out]
  refine (B0.out _).mono ?_
  rintro e w' ⟨rfl, rfl⟩
  go_wp2_with fail
  refine (B1.out _).mono ?_
  rintro e w1 ⟨rfl, hq1⟩
  have hb1 := Lib.hid (hb0.out.trans (hq1.mono hb0.out.size))
  have HA1 := Lib.hid (HA.out.bel hq1)
  have HD1 := Lib.hid (HD.out.bel hq1)
  clear c0 c1 c2 d0 d1 d2 f0 f1 f2
  have hA := HA1.out
  have hD := HD1.out
  obtain ⟨c0, f0⟩ := hA.one 0 rfl
  obtain ⟨c1, f1⟩ := hA.one 1 rfl
  obtain ⟨c2, f2⟩ := hA.one 2 rfl
  obtain ⟨d0, f0⟩ := hD.one 0 rfl
  obtain ⟨d1, f1⟩ := hD.one 1 rfl
  obtain ⟨d2, f2⟩ := hD.one 2 rfl
  clear hA hD hq1
  go_wp2_with fail
  refine (B2.out _).mono ?_
  rintro e w2 ⟨rfl, hq2⟩
  have hb2 := Lib.hid (hb1.out.trans (hq2.mono hb1.out.size))
  have HA2 := Lib.hid (HA1.out.bel hq2)
  have HD2 := Lib.hid (HD1.out.bel hq2)
  clear c0 c1 c2 d0 d1 d2 f0 f1 f2
  have hA := HA2.out
  have hD := HD2.out
  obtain ⟨c0, f0⟩ := hA.one 0 rfl
  obtain ⟨c1, f1⟩ := hA.one 1 rfl
  obtain ⟨c2, f2⟩ := hA.one 2 rfl
  obtain ⟨d0, f0⟩ := hD.one 0 rfl
  obtain ⟨d1, f1⟩ := hD.one 1 rfl
  obtain ⟨d2, f2⟩ := hD.one 2 rfl
  clear hA hD hq2
  have DG := Lib.hid (fun u => mdiag D u)
  go_wp2_with fail
  refine region_moves (fun u => u.cell? ⟨w.heap.size, 0, none⟩ = some (.int .i64 (A 0)) ∧ u.cell? ⟨w.heap.size, 1, none⟩ = some (.int .i64 (A 1)) ∧ u.cell? ⟨w.heap.size, 2, none⟩ = some (.int .i64 (A 2)) ∧ u.cell? ⟨w.heap.size + 1, 0, none⟩ = some (.int .i64 (D 0)) ∧ u.cell? ⟨w.heap.size + 1, 1, none⟩ = some (.int .i64 (D 1)) ∧ u.cell? ⟨w.heap.size + 1, 2, none⟩ = some (.int .i64 (D 2))) [(5, [(4, 5), (0, 4), (2, 4), (3, 4), (1, 2)])] [(.take, 0), (.take, 1), (.free, 3), (.step, 2), (.free, 4), (.late, 5), (.free, 6), (.free, 7)] _ (by kernel_rfl) (by kernel_rfl) (by kernel_rfl) (by kernel_rfl) (by decide) rfl (fun _ _ _ _ _ h => h) ?_
  simp only [List.filterMap_cons, List.filterMap_nil, List.getElem?_toArray, List.getElem?_cons_zero, List.getElem?_cons_succ, Option.map_some]
  iterate 2
    first
      | (refine mv_take ?_ (Or.inl ⟨by rfl, ?_⟩) (⟨c0, c1, c2, d0, d1, d2⟩) ?_
         rotate_left 1
         · intro u hu
           (try dsimp only at hu)
           go_simp
           try with_reducible rfl
         simp only [Act.put, List.setIfInBounds_toArray, List.set_cons_zero, List.set_cons_succ])
      | (refine mv_take _ (Or.inr ⟨by rfl, rfl⟩) (⟨c0, c1, c2, d0, d1, d2⟩) ?_
         simp only [Act.put, List.setIfInBounds_toArray, List.set_cons_zero, List.set_cons_succ])
  iterate 1
    first
      | (refine mv_free ?_ (Or.inl ⟨by rfl, ?_⟩) (⟨c0, c1, c2, d0, d1, d2⟩) ?_
         rotate_left 1
         · intro u
           go_simp
           try simp only [d1]
           try simp only [d2]
           try simp only [d3]
           try with_reducible rfl
         simp only [Act.put, List.setIfInBounds_toArray, List.set_cons_zero, List.set_cons_succ])
      | (refine mv_free _ (Or.inr ⟨by rfl, rfl⟩) (⟨c0, c1, c2, d0, d1, d2⟩) ?_
         simp only [Act.put, List.setIfInBounds_toArray, List.set_cons_zero, List.set_cons_succ])
  refine mv_step (fun K hK => ?_)
  go_simp
  refine (DG.out _).mono ?_
  rintro e w3 ⟨rfl, hq3⟩
  have hb3 := Lib.hid (hb2.out.drew.trans (hq3.mono hb2.out.size))
  have hA := HA2.out.drew.bel hq3
  have hD := HD2.out.drew.bel hq3
  clear c0 c1 c2 d0 d1 d2 f0 f1 f2 hq3
  obtain ⟨c0, f0⟩ := hA.one 0 rfl
  obtain ⟨c1, f1⟩ := hA.one 1 rfl
  obtain ⟨c2, f2⟩ := hA.one 2 rfl
  obtain ⟨d0, f0⟩ := hD.one 0 rfl
  obtain ⟨d1, f1⟩ := hD.one 1 rfl
  obtain ⟨d2, f2⟩ := hD.one 2 rfl
  clear hA hD
  go_wp2_with fail
  refine hK.out _ _ _ (fun u hu => hu) (⟨c0, c1, c2, d0, d1, d2⟩) ?_
  clear hK K
  iterate 1
    first
      | (refine mv_free ?_ (Or.inl ⟨by rfl, ?_⟩) (⟨c0, c1, c2, d0, d1, d2⟩) ?_
         rotate_left 1
         · intro u
           go_simp
           try simp only [d1]
           try simp only [d2]
           try simp only [d3]
           try with_reducible rfl
         simp only [Act.put, List.setIfInBounds_toArray, List.set_cons_zero, List.set_cons_succ])
      | (refine mv_free _ (Or.inr ⟨by rfl, rfl⟩) (⟨c0, c1, c2, d0, d1, d2⟩) ?_
         simp only [Act.put, List.setIfInBounds_toArray, List.set_cons_zero, List.set_cons_succ])
  refine mv_late (fun K hK => ?_)
  go_simp
  refine hK.out (fun _ => True) _ _ ?_
  clear hK K
  iterate 2
    first
      | (refine mv_free ?_ (Or.inl ⟨by rfl, ?_⟩) (trivial) ?_
         rotate_left 1
         · intro u
           go_simp
           try simp only [d1]
           try simp only [d2]
           try simp only [d3]
           try with_reducible rfl
         simp only [Act.put, List.setIfInBounds_toArray, List.set_cons_zero, List.set_cons_succ])
      | (refine mv_free _ (Or.inr ⟨by rfl, rfl⟩) (trivial) ?_
         simp only [Act.put, List.setIfInBounds_toArray, List.set_cons_zero, List.set_cons_succ])
  refine mv_done ?_
  go_wp2
  go_ret2
  exact ⟨w3.heap.size, hb3.out.size, rfl, Held.new w3 (KeC A (dgl D) g 0 0) _, hb3.out.alloc hb3.out.size _⟩
set_option maxRecDepth 100000 in
set_option maxHeartbeats 8000000 in
theorem kstate (b : Nat) (X P : Nat → Int) (g tk rf : Int) (w : World) (k : Held b (KeC X P g tk rf) w) : Calls Try.prog 51 #[.pointer (some ⟨b, 0, none⟩)] w fun e w' => e = .returned (.agg #[.int .i64 (X 0), .int .i64 (X 1), .int .i64 (X 2)]) ∧ Below w.heap.size w w' := by
  have hlt := k.lt
  have c0 := k.c 0 _ rfl
  have c1 := k.c 1 _ rfl
  have c2 := k.c 2 _ rfl
  clear k
  go_enter Try.func51, Try.ntmps51
  go_wp2
  exact bodyPost_ret (v := .agg #[.int .i64 (X 0), .int .i64 (X 1), .int .i64 (X 2)]) (by simp [results, Try.results51, go_sem]) rfl ⟨rfl, (by repeat (first | exact Below.refl _ _ | assumption | apply Below.drew | apply below_drewN | (refine Below.alloc ?_ (by first | exact Nat.le_refl _ | omega | (simp <;> omega)) _) | (refine Below.setCell ?_ (by first | exact Nat.le_refl _ | omega | (simp <;> omega)) _)))⟩
set_option maxRecDepth 100000 in
set_option maxHeartbeats 8000000 in
theorem kstate_nil (w : World) : Calls Try.prog 51 #[.pointer none] w fun e w' => e = .returned (.agg #[.int .i64 0, .int .i64 0, .int .i64 0]) ∧ Below w.heap.size w w' := by
  go_enter Try.func51, Try.ntmps51
  go_wp2
  exact bodyPost_ret (v := .agg #[.int .i64 0, .int .i64 0, .int .i64 0]) (by simp [results, Try.results51, go_sem]) rfl ⟨rfl, (by repeat (first | exact Below.refl _ _ | assumption | apply Below.drew | apply below_drewN | (refine Below.alloc ?_ (by first | exact Nat.le_refl _ | omega | (simp <;> omega)) _) | (refine Below.setCell ?_ (by first | exact Nat.le_refl _ | omega | (simp <;> omega)) _)))⟩
set_option maxRecDepth 100000 in
set_option maxHeartbeats 8000000 in
theorem kdoubt (b : Nat) (X P : Nat → Int) (g tk rf : Int) (w : World) (k : Held b (KeC X P g tk rf) w) : Calls Try.prog 52 #[.pointer (some ⟨b, 0, none⟩)] w fun e w' => e = .returned (.agg #[.int .i64 (P 0), .int .i64 (P 1), .int .i64 (P 2), .int .i64 (P 3), .int .i64 (P 4), .int .i64 (P 5), .int .i64 (P 6), .int .i64 (P 7), .int .i64 (P 8)]) ∧ Below w.heap.size w w' := by
  have hlt := k.lt
  have c0 := k.c 3 _ rfl
  have c1 := k.c 4 _ rfl
  have c2 := k.c 5 _ rfl
  have c3 := k.c 6 _ rfl
  have c4 := k.c 7 _ rfl
  have c5 := k.c 8 _ rfl
  have c6 := k.c 9 _ rfl
  have c7 := k.c 10 _ rfl
  have c8 := k.c 11 _ rfl
  clear k
  go_enter Try.func52, Try.ntmps52
  go_wp2
  exact bodyPost_ret (v := .agg #[.int .i64 (P 0), .int .i64 (P 1), .int .i64 (P 2), .int .i64 (P 3), .int .i64 (P 4), .int .i64 (P 5), .int .i64 (P 6), .int .i64 (P 7), .int .i64 (P 8)]) (by simp [results, Try.results52, go_sem]) rfl ⟨rfl, (by repeat (first | exact Below.refl _ _ | assumption | apply Below.drew | apply below_drewN | (refine Below.alloc ?_ (by first | exact Nat.le_refl _ | omega | (simp <;> omega)) _) | (refine Below.setCell ?_ (by first | exact Nat.le_refl _ | omega | (simp <;> omega)) _)))⟩
set_option maxRecDepth 100000 in
set_option maxHeartbeats 8000000 in
theorem kdoubt_nil (w : World) : Calls Try.prog 52 #[.pointer none] w fun e w' => e = .returned (.agg #[.int .i64 0, .int .i64 0, .int .i64 0, .int .i64 0, .int .i64 0, .int .i64 0, .int .i64 0, .int .i64 0, .int .i64 0]) ∧ Below w.heap.size w w' := by
  go_enter Try.func52, Try.ntmps52
  go_wp2
  exact bodyPost_ret (v := .agg #[.int .i64 0, .int .i64 0, .int .i64 0, .int .i64 0, .int .i64 0, .int .i64 0, .int .i64 0, .int .i64 0, .int .i64 0]) (by simp [results, Try.results52, go_sem]) rfl ⟨rfl, (by repeat (first | exact Below.refl _ _ | assumption | apply Below.drew | apply below_drewN | (refine Below.alloc ?_ (by first | exact Nat.le_refl _ | omega | (simp <;> omega)) _) | (refine Below.setCell ?_ (by first | exact Nat.le_refl _ | omega | (simp <;> omega)) _)))⟩
set_option maxRecDepth 100000 in
set_option maxHeartbeats 8000000 in
theorem kcounts (b : Nat) (X P : Nat → Int) (g tk rf : Int) (w : World) (k : Held b (KeC X P g tk rf) w) : Calls Try.prog 48 #[.pointer (some ⟨b, 0, none⟩)] w fun e w' => e = .returned (.tuple #[.int .i64 tk, .int .i64 rf]) ∧ ∃ n, w' = w.drewN n := by
  have c0 := k.c 13 _ rfl
  have c1 := k.c 14 _ rfl
  clear k
  go_enter Try.func48, Try.ntmps48
  go_wp2_with fail
  refine region_moves (fun u => u = w.drew) [] [(.free, 0), (.free, 1), (.free, 2), (.free, 4), (.free, 5), (.free, 6), (.step, 3), (.step, 7), (.free, 8), (.free, 9)] _ (by kernel_rfl) (by kernel_rfl) (by kernel_rfl) (by kernel_rfl) (by decide) rfl (fun _ _ _ _ _ h => h) ?_
  simp only [List.filterMap_cons, List.filterMap_nil, List.getElem?_toArray, List.getElem?_cons_zero, List.getElem?_cons_succ, Option.map_some]
  iterate 6
    first
      | (refine mv_free ?_ (Or.inl ⟨by rfl, ?_⟩) (rfl) ?_
         rotate_left 1
         · intro u
           go_simp
           try simp only [d1]
           try simp only [d2]
           try simp only [d3]
           try with_reducible rfl
         simp only [Act.put, List.setIfInBounds_toArray, List.set_cons_zero, List.set_cons_succ])
      | (refine mv_free _ (Or.inr ⟨by rfl, rfl⟩) (rfl) ?_
         simp only [Act.put, List.setIfInBounds_toArray, List.set_cons_zero, List.set_cons_succ])
  refine mv_step (fun K hK => ?_)
  go_simp
  refine (aload64 _ _ _ _ (show World.cell? w.drew _ = _ from c0)).mono ?_
  rintro e w' ⟨rfl, rfl⟩
  go_wp2_with fail
  refine hK.out _ _ _ (fun u hu => hu) (rfl) ?_
  clear hK K
  refine mv_step (fun K hK => ?_)
  go_simp
  refine (aload64 _ _ _ _ (show World.cell? w.drew _ = _ from c1)).mono ?_
  rintro e w' ⟨rfl, rfl⟩
  go_wp2_with fail
  refine hK.out _ _ _ (fun u hu => hu) (rfl) ?_
  clear hK K
  iterate 2
    first
      | (refine mv_free ?_ (Or.inl ⟨by rfl, ?_⟩) (rfl) ?_
         rotate_left 1
         · intro u
           go_simp
           try simp only [d1]
           try simp only [d2]
           try simp only [d3]
           try with_reducible rfl
         simp only [Act.put, List.setIfInBounds_toArray, List.set_cons_zero, List.set_cons_succ])
      | (refine mv_free _ (Or.inr ⟨by rfl, rfl⟩) (rfl) ?_
         simp only [Act.put, List.setIfInBounds_toArray, List.set_cons_zero, List.set_cons_succ])
  refine mv_done ?_
  go_wp2
  go_ret2
  exact ⟨rfl, 1, rfl⟩
set_option maxRecDepth 100000 in
set_option maxHeartbeats 8000000 in
theorem kcounts_nil (w : World) : Calls Try.prog 48 #[.pointer none] w fun e w' => e = .returned (.tuple #[.int .i64 0, .int .i64 0]) ∧ w = w' := by
  go_enter Try.func48, Try.ntmps48
  go_wp2
  go_ret2
  exact ⟨rfl, rfl⟩
theorem kx_box (w : World) (H : Nat → Int) (z n : Int) : ∃ V, V = (w.alloc (.cells #[.int .i64 (H 0), .int .i64 (H 1), .int .i64 (H 2), .int .i64 z, .int .i64 n] 86)) ∧ Below w.heap.size w V ∧ Held w.heap.size [.int .i64 (H 0), .int .i64 (H 1), .int .i64 (H 2), .int .i64 z, .int .i64 n] V ∧ V.heap.size = w.heap.size + 1 := by
  refine ⟨_, rfl, (by repeat (first | exact Below.refl _ _ | assumption | apply Below.drew | apply below_drewN | (refine Below.alloc ?_ (by first | exact Nat.le_refl _ | omega | (simp <;> omega)) _) | (refine Below.setCell ?_ (by first | exact Nat.le_refl _ | omega | (simp <;> omega)) _))), ?_, by simp⟩
  · have := (Held.new w [.int .i64 (H 0), .int .i64 (H 1), .int .i64 (H 2), .int .i64 z, .int .i64 n] 86)
    simpa using this
set_option maxRecDepth 100000 in
set_option maxHeartbeats 8000000 in
theorem kexpect (b : Nat) (X P : Nat → Int) (g tk rf : Int) (H : Nat → Int) (z n : Int) (w : World) (k : Held b (KeC X P g tk rf) w) : Calls Try.prog 47 #[.pointer (some ⟨b, 0, none⟩), .agg #[.int .i64 (H 0), .int .i64 (H 1), .int .i64 (H 2), .int .i64 z, .int .i64 n]] w fun e w' => e = .returned (.tuple #[.int .i64 (dtI H X), .bool true]) ∧ Below w.heap.size w w' := by
  obtain ⟨V, eV, hb0, hH, hz⟩ := kx_box w H z n
  have kV := k.below hb0 k.lt
  have DT := Lib.hid (fun u => mdot H X u)
  have c0 := kV.c 0 _ rfl
  have c1 := kV.c 1 _ rfl
  have c2 := kV.c 2 _ rfl
  obtain ⟨d0, f0⟩ := hH.one 0 rfl
  obtain ⟨d1, f1⟩ := hH.one 1 rfl
  obtain ⟨d2, f2⟩ := hH.one 2 rfl
  obtain ⟨d3, f3⟩ := hH.one 3 rfl
  obtain ⟨d4, f4⟩ := hH.one 4 rfl
  replace eV := Lib.hid eV
  replace hz := Lib.hid hz
  replace hb0 := Lib.hid hb0
  clear k kV hH
  go_enter Try.func47, Try.ntmps47
  go_wp2_with fail
  rw [← eV.out]
  go_wp2_with fail
  refine region_moves (fun u => u.cell? ⟨b, 0, none⟩ = some (.int .i64 (X 0)) ∧ u.cell? ⟨b, 1, none⟩ = some (.int .i64 (X 1)) ∧ u.cell? ⟨b, 2, none⟩ = some (.int .i64 (X 2)) ∧ u.cell? ⟨w.heap.size, 0, none⟩ = some (.int .i64 (H 0)) ∧ u.cell? ⟨w.heap.size, 1, none⟩ = some (.int .i64 (H 1)) ∧ u.cell? ⟨w.heap.size, 2, none⟩ = some (.int .i64 (H 2))) [(6, [(1, 6), (5, 6), (0, 1), (4, 5), (3, 4), (2, 3)])] [(.free, 0), (.take, 1), (.free, 2), (.free, 3), (.free, 4), (.take, 5), (.late, 6), (.free, 7), (.free, 8)] _ (by kernel_rfl) (by kernel_rfl) (by kernel_rfl) (by kernel_rfl) (by decide) rfl (fun _ _ _ _ _ h => h) ?_
  simp only [List.filterMap_cons, List.filterMap_nil, List.getElem?_toArray, List.getElem?_cons_zero, List.getElem?_cons_succ, Option.map_some]
  iterate 1
    first
      | (refine mv_free ?_ (Or.inl ⟨by rfl, ?_⟩) (⟨c0, c1, c2, d0, d1, d2⟩) ?_
         rotate_left 1
         · intro u
           go_simp
           try simp only [d1]
           try simp only [d2]
           try simp only [d3]
           try with_reducible rfl
         simp only [Act.put, List.setIfInBounds_toArray, List.set_cons_zero, List.set_cons_succ])
      | (refine mv_free _ (Or.inr ⟨by rfl, rfl⟩) (⟨c0, c1, c2, d0, d1, d2⟩) ?_
         simp only [Act.put, List.setIfInBounds_toArray, List.set_cons_zero, List.set_cons_succ])
  iterate 1
    first
      | (refine mv_take ?_ (Or.inl ⟨by rfl, ?_⟩) (⟨c0, c1, c2, d0, d1, d2⟩) ?_
         rotate_left 1
         · intro u hu
           (try dsimp only at hu)
           go_simp
           try with_reducible rfl
         simp only [Act.put, List.setIfInBounds_toArray, List.set_cons_zero, List.set_cons_succ])
      | (refine mv_take _ (Or.inr ⟨by rfl, rfl⟩) (⟨c0, c1, c2, d0, d1, d2⟩) ?_
         simp only [Act.put, List.setIfInBounds_toArray, List.set_cons_zero, List.set_cons_succ])
  iterate 3
    first
      | (refine mv_free ?_ (Or.inl ⟨by rfl, ?_⟩) (⟨c0, c1, c2, d0, d1, d2⟩) ?_
         rotate_left 1
         · intro u
           go_simp
           try simp only [d1]
           try simp only [d2]
           try simp only [d3]
           try with_reducible rfl
         simp only [Act.put, List.setIfInBounds_toArray, List.set_cons_zero, List.set_cons_succ])
      | (refine mv_free _ (Or.inr ⟨by rfl, rfl⟩) (⟨c0, c1, c2, d0, d1, d2⟩) ?_
         simp only [Act.put, List.setIfInBounds_toArray, List.set_cons_zero, List.set_cons_succ])
  iterate 1
    first
      | (refine mv_take ?_ (Or.inl ⟨by rfl, ?_⟩) (⟨c0, c1, c2, d0, d1, d2⟩) ?_
         rotate_left 1
         · intro u hu
           (try dsimp only at hu)
           go_simp
           try with_reducible rfl
         simp only [Act.put, List.setIfInBounds_toArray, List.set_cons_zero, List.set_cons_succ])
      | (refine mv_take _ (Or.inr ⟨by rfl, rfl⟩) (⟨c0, c1, c2, d0, d1, d2⟩) ?_
         simp only [Act.put, List.setIfInBounds_toArray, List.set_cons_zero, List.set_cons_succ])
  refine mv_late (fun K hK => ?_)
  go_simp
  refine (DT.out _).mono ?_
  rintro e w1 ⟨rfl, hb1⟩
  have hb2 := Lib.hid (hb0.out.drew.trans (hb1.mono hb0.out.size))
  clear hb1 c0 c1 c2 d0 d1 d2
  go_wp2_with fail
  refine hK.out (fun _ => True) _ _ ?_
  clear hK K
  iterate 2
    first
      | (refine mv_free ?_ (Or.inl ⟨by rfl, ?_⟩) (trivial) ?_
         rotate_left 1
         · intro u
           go_simp
           try simp only [d1]
           try simp only [d2]
           try simp only [d3]
           try with_reducible rfl
         simp only [Act.put, List.setIfInBounds_toArray, List.set_cons_zero, List.set_cons_succ])
      | (refine mv_free _ (Or.inr ⟨by rfl, rfl⟩) (trivial) ?_
         simp only [Act.put, List.setIfInBounds_toArray, List.set_cons_zero, List.set_cons_succ])
  refine mv_done ?_
  go_wp2
  go_ret2
  exact ⟨rfl, hb2.out⟩
set_option maxRecDepth 100000 in
set_option maxHeartbeats 8000000 in
theorem kexpect_nil (H : Nat → Int) (z n : Int) (w : World) : Calls Try.prog 47 #[.pointer none, .agg #[.int .i64 (H 0), .int .i64 (H 1), .int .i64 (H 2), .int .i64 z, .int .i64 n]] w fun e w' => e = .returned (.tuple #[.int .i64 0, .bool false]) ∧ Below w.heap.size w w' := by
  go_enter Try.func47, Try.ntmps47
  go_wp2
  go_ret2
  exact ⟨rfl, (by repeat (first | exact Below.refl _ _ | assumption | apply Below.drew | apply below_drewN | (refine Below.alloc ?_ (by first | exact Nat.le_refl _ | omega | (simp <;> omega)) _) | (refine Below.setCell ?_ (by first | exact Nat.le_refl _ | omega | (simp <;> omega)) _)))⟩
end Go.Proofs.Ytakocggclopngaa
