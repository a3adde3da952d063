/- The law's nine; the document's Times, Sum, Dot, Row, Column, Turn, Outer, Mul, Det. -/
import Derived.Test.YtaijkngdelolgaaMat7
import Derived.Test.YtaijkngdelolgaaDig8
namespace Go.Proofs.Ytaijkngdelolgaa
open Go.ChangeShapes Go.WideShapes Go.ChangeAt Go.RowKit
set_option linter.unusedVariables false
set_option linter.unusedSimpArgs false
set_option maxRecDepth 100000 in
set_option maxHeartbeats 8000000 in
theorem rtimes (x y : Int) (w : World) : Calls Try.prog 37 #[.int .i64 x, .int .i64 y] w fun e w' => e = .returned (.int .i64 (prd x y)) ∧ Below w.heap.size w w' := by
  have b1 := clp_bd x
  have b2 := clp_bd y
  have C1 := Lib.hid (fun u => rclip_any x u)
  have C2 := Lib.hid (fun u => rclip_any y u)
  have FT := fun u => rfit_any (clp x) (clp y) 1048576 u (by omega) (by omega) (by omega) (by omega) (by omega) (by omega)
  rw [show fitV (clp x) (clp y) 1048576 = prd x y from rfl] at FT
  generalize clp x = X at *
  generalize clp y = Y at *
  generalize prd x y = P at *
  replace FT := Lib.hid FT
  go_enter Try.func37, Try.ntmps37
  go_wp2_with fail
  refine (C1.out _).mono ?_
  rintro e w' ⟨rfl, rfl⟩
  go_wp2_with fail
  refine (C2.out _).mono ?_
  rintro e w' ⟨rfl, rfl⟩
  go_wp2_with fail
  refine (FT.out _).mono ?_
  rintro e w1 ⟨rfl, hb1⟩
  go_wp2
  go_ret
  exact ⟨rfl, hb1⟩
set_option maxRecDepth 100000 in
set_option maxHeartbeats 8000000 in
theorem rsum40 (x y : Int) (w : World) : Calls Try.prog 35 #[.int .i64 x, .int .i64 y] w fun e w' => e = .returned (.int .i64 (smI x y)) ∧ w = w' := by
  have b1 := clp_bd x
  have b2 := clp_bd y
  have C1 := Lib.hid (fun u => rclip_any x u)
  have C2 := Lib.hid (fun u => rclip_any y u)
  have C3 := fun u => rclip_any (clp x + clp y) u
  rw [show clp (clp x + clp y) = smI x y from rfl] at C3
  replace C3 := Lib.hid C3
  generalize clp x = X at *
  generalize clp y = Y at *
  generalize smI x y = P at *
  go_enter Try.func35, Try.ntmps35
  go_wp2_with fail
  refine (C1.out _).mono ?_
  rintro e w' ⟨rfl, rfl⟩
  go_wp2_with fail
  refine (C2.out _).mono ?_
  rintro e w' ⟨rfl, rfl⟩
  go_wp2_with fail
  refine (C3.out _).mono ?_
  rintro e w' ⟨rfl, rfl⟩
  go_wp2
  go_ret
  exact ⟨rfl, rfl⟩
theorem rdt_box (w : World) (A B : Nat → Int) : ∃ V, V = ((w.alloc (.cells #[.int .i64 (A 0), .int .i64 (A 1), .int .i64 (A 2)] 70)).alloc (.cells #[.int .i64 (B 0), .int .i64 (B 1), .int .i64 (B 2)] 70)) ∧ Below w.heap.size w V ∧ Held w.heap.size [.int .i64 (A 0), .int .i64 (A 1), .int .i64 (A 2)] V ∧ Held (w.heap.size + 1) [.int .i64 (B 0), .int .i64 (B 1), .int .i64 (B 2)] V ∧ V.heap.size = w.heap.size + 2 := by
  refine ⟨_, rfl, (by repeat (first | exact Below.refl _ _ | assumption | apply Below.drew | apply below_drewN | (refine Below.alloc ?_ (by first | exact Nat.le_refl _ | omega | (simp <;> omega)) _) | (refine Below.setCell ?_ (by first | exact Nat.le_refl _ | omega | (simp <;> omega)) _))), ?_, ?_, by simp⟩
  · have := ((Held.new w [.int .i64 (A 0), .int .i64 (A 1), .int .i64 (A 2)] 70).alloc (.cells #[.int .i64 (B 0), .int .i64 (B 1), .int .i64 (B 2)] 70))
    simpa using this
  · have := (Held.new (w.alloc (.cells #[.int .i64 (A 0), .int .i64 (A 1), .int .i64 (A 2)] 70)) [.int .i64 (B 0), .int .i64 (B 1), .int .i64 (B 2)] 70)
    simpa using this
theorem rrw_box (w : World) (X : Nat → Int) : ∃ V, V = ((w.alloc (.cells #[.int .i64 (X 0), .int .i64 (X 1), .int .i64 (X 2), .int .i64 (X 3), .int .i64 (X 4), .int .i64 (X 5), .int .i64 (X 6), .int .i64 (X 7), .int .i64 (X 8)] 74)).alloc (.cells #[.int .i64 0, .int .i64 0, .int .i64 0] 70)) ∧ Below w.heap.size w V ∧ Held w.heap.size [.int .i64 (X 0), .int .i64 (X 1), .int .i64 (X 2), .int .i64 (X 3), .int .i64 (X 4), .int .i64 (X 5), .int .i64 (X 6), .int .i64 (X 7), .int .i64 (X 8)] V ∧ Held (w.heap.size + 1) [.int .i64 0, .int .i64 0, .int .i64 0] V ∧ V.heap.size = w.heap.size + 2 := by
  refine ⟨_, rfl, (by repeat (first | exact Below.refl _ _ | assumption | apply Below.drew | apply below_drewN | (refine Below.alloc ?_ (by first | exact Nat.le_refl _ | omega | (simp <;> omega)) _) | (refine Below.setCell ?_ (by first | exact Nat.le_refl _ | omega | (simp <;> omega)) _))), ?_, ?_, by simp⟩
  · have := ((Held.new w [.int .i64 (X 0), .int .i64 (X 1), .int .i64 (X 2), .int .i64 (X 3), .int .i64 (X 4), .int .i64 (X 5), .int .i64 (X 6), .int .i64 (X 7), .int .i64 (X 8)] 74).alloc (.cells #[.int .i64 0, .int .i64 0, .int .i64 0] 70))
    simpa using this
  · have := (Held.new (w.alloc (.cells #[.int .i64 (X 0), .int .i64 (X 1), .int .i64 (X 2), .int .i64 (X 3), .int .i64 (X 4), .int .i64 (X 5), .int .i64 (X 6), .int .i64 (X 7), .int .i64 (X 8)] 74)) [.int .i64 0, .int .i64 0, .int .i64 0] 70)
    simpa using this
end Go.Proofs.Ytaijkngdelolgaa
