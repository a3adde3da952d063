/- The document's temperatures; the law HeatTells, walked. -/
import Derived.Test.YtecpmffmmiogfaaGreatHeatZ1
import Derived.Test.YtecpmffmmiogfaaGreatClip09
import Derived.Test.YtecpmffmmiogfaaGreatDig8
namespace Go.Proofs.YtecpmffmmiogfaaGreat
open Go.ChangeShapes Go.WideShapes Go.ChangeAt Go.RowKit
set_option linter.unusedVariables false
set_option linter.unusedSimpArgs false

theorem c09_htT (t : Int) : c09 t 1 1000000 = htT t := rfl
theorem c09_htM (t : Int) : c09 t 0 20000 = htM t := rfl
theorem c09_htR (t : Int) : c09 t 0 1000 = htR t := rfl
set_option maxHeartbeats 1000000 in
theorem rwarm_any (t : Int) (w : World) : Calls Tryz.prog 36 #[.int .i64 t] w fun e w' => e = .returned (.int .i64 (htT t)) ∧ w = w' := by
  have C := fun u => c09_any t 1 1000000 (by omega) u
  rw [c09_htT] at C
  replace C := Lib.hid C
  generalize htT t = T at *
  go_enter Tryz.func36, Tryz.ntmps36
  go_wp2_with (go_at_call 7; refine (C.out _).mono ?_; rintro e w1 ⟨rfl, rfl⟩)
  go_ret
  exact ⟨rfl, rfl⟩
set_option maxHeartbeats 1000000 in
theorem rpart_any (m r : Int) (w : World) : Calls Tryz.prog 37 #[.int .i64 m, .int .i64 r] w fun e w' => e = .returned (.int .i64 (htH m r)) ∧ w = w' := by
  have q := htQ_bd m r
  have HH := Lib.hid (show htH m r = 500000000000 + htR r * htM m * htM m from rfl)
  have C1 := fun u => c09_any m 0 20000 (by omega) u
  rw [c09_htM] at C1
  replace C1 := Lib.hid C1
  have C2 := fun u => c09_any r 0 1000 (by omega) u
  rw [c09_htR] at C2
  replace C2 := Lib.hid C2
  generalize htH m r = H at *
  generalize htM m = M at *
  generalize htR r = R at *
  have hw1 : IntKind.i64.wrap (R * M) = R * M := IntWalk.i64_in _ ⟨by omega, by omega⟩
  have hw2 : IntKind.i64.wrap (R * M * M) = R * M * M := IntWalk.i64_in _ ⟨by omega, by omega⟩
  have hw3 : IntKind.i64.wrap (500000000000 + R * M * M) = 500000000000 + R * M * M := IntWalk.i64_in _ ⟨by omega, by omega⟩
  clear q
  go_enter Tryz.func37, Tryz.ntmps37
  go_wp2_with fail
  refine (C1.out _).mono ?_
  rintro e w1 ⟨rfl, rfl⟩
  go_wp2_with fail
  refine (C2.out _).mono ?_
  rintro e w2 ⟨rfl, rfl⟩
  go_wp2
  go_ret
  exact ⟨ret_int HH.out.symm, rfl⟩
set_option maxHeartbeats 1000000 in
theorem rstatic_any (t m r : Int) (w : World) : Calls Tryz.prog 15 #[.int .i64 t, .int .i64 m, .int .i64 r] w fun e w' => e = .returned (.int .i64 (htS t m r)) ∧ Below w.heap.size w w' := by
  have a := htT_bd t
  have b := htH_bd m r
  have c := htS_bd t m r
  have FT := fun u => rfloor_any (htT t) 500000000000 (htH m r) u (by omega) (by omega) (by omega) (by omega) (by omega) (by omega)
  rw [flV_pos (by omega) (by unfold htS at c; omega) (by unfold htS at c; omega)] at FT
  rw [show htT t * 500000000000 / htH m r = htS t m r from rfl] at FT
  replace FT := Lib.hid FT
  have W := Lib.hid (fun u => rwarm_any t u)
  have P := Lib.hid (fun u => rpart_any m r u)
  generalize htS t m r = S at *
  generalize htT t = T at *
  generalize htH m r = H at *
  generalize flB T 500000000000 H = F at *
  go_enter Tryz.func15, Tryz.ntmps15
  go_wp2_with fail
  refine (W.out _).mono ?_
  rintro e w1 ⟨rfl, rfl⟩
  go_wp2_with fail
  refine (P.out _).mono ?_
  rintro e w2 ⟨rfl, rfl⟩
  go_wp2_with fail
  refine (FT.out _).mono ?_
  rintro e w1 ⟨rfl, hb1⟩
  go_wp2
  go_ret
  exact ⟨rfl, hb1⟩
end Go.Proofs.YtecpmffmmiogfaaGreat
