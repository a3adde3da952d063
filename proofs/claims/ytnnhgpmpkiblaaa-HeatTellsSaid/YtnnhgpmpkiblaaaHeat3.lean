/- The document's temperatures; the law HeatTells, walked. -/
import Derived.Test.YtnnhgpmpkiblaaaHeat1
import Derived.Test.YtnnhgpmpkiblaaaClip09
import Derived.Test.YtnnhgpmpkiblaaaDig8
namespace Go.Proofs.Ytnnhgpmpkiblaaa
open Go.ChangeShapes Go.WideShapes Go.ChangeAt Go.RowKit
set_option linter.unusedVariables false
set_option linter.unusedSimpArgs false

theorem c09_htT (t : Int) : c09 t 1 1000000 = htT t := rfl
theorem c09_htM (t : Int) : c09 t 0 20000 = htM t := rfl
theorem c09_htR (t : Int) : c09 t 0 1000 = htR t := rfl
set_option maxHeartbeats 1000000 in
theorem rwarm_any (t : Int) (w : World) : Calls Try.prog 75 #[.int .i64 t] w fun e w' => e = .returned (.int .i64 (htT t)) ∧ w = w' := by
  have C := fun u => c09_any t 1 1000000 (by omega) u
  rw [c09_htT] at C
  replace C := Lib.hid C
  generalize htT t = T at *
  go_enter Try.func75, Try.ntmps75
  go_wp2_with (go_at_call 71; refine (C.out _).mono ?_; rintro e w1 ⟨rfl, rfl⟩)
  go_ret
  exact ⟨rfl, rfl⟩
set_option maxHeartbeats 1000000 in
theorem rpart_any (m r : Int) (w : World) : Calls Try.prog 76 #[.int .i64 m, .int .i64 r] w fun e w' => e = .returned (.int .i64 (htH m r)) ∧ w = w' := by
  have q := htQ_bd m r
  have HH := Lib.hid (show htH m r = 500000000000 + htR r * htM m * htM m from rfl)
  have C1 := fun u => c09_any m 0 20000 (by omega) u
  rw [c09_htM] at C1
  replace C1 := Lib.hid C1
  have C2 := fun u => c09_any r 0 1000 (by omega) u
  rw [c09_htR] at C2
  replace C2 := Lib.hid C2
  generalize htH m r = H at *
  generalize htM m = M at *
  generalize htR r = R at *
  have hw1 : IntKind.i64.wrap (R * M) = R * M := IntWalk.i64_in _ ⟨by omega, by omega⟩
  have hw2 : IntKind.i64.wrap (R * M * M) = R * M * M := IntWalk.i64_in _ ⟨by omega, by omega⟩
  have hw3 : IntKind.i64.wrap (500000000000 + R * M * M) = 500000000000 + R * M * M := IntWalk.i64_in _ ⟨by omega, by omega⟩
  clear q
  go_enter Try.func76, Try.ntmps76
  go_wp2_with fail
  refine (C1.out _).mono ?_
  rintro e w1 ⟨rfl, rfl⟩
  go_wp2_with fail
  refine (C2.out _).mono ?_
  rintro e w2 ⟨rfl, rfl⟩
  go_wp2
  go_ret
  exact ⟨ret_int HH.out.symm, rfl⟩
set_option maxHeartbeats 1000000 in
theorem rstatic_any (t m r : Int) (w : World) : Calls Try.prog 45 #[.int .i64 t, .int .i64 m, .int .i64 r] w fun e w' => e = .returned (.int .i64 (htS t m r)) ∧ Below w.heap.size w w' := by
  have a := htT_bd t
  have b := htH_bd m r
  have c := htS_bd t m r
  have FT := fun u => rfloor_any (htT t) 500000000000 (htH m r) u (by omega) (by omega) (by omega) (by omega) (by omega) (by omega)
  rw [flV_pos (by omega) (by unfold htS at c; omega) (by unfold htS at c; omega)] at FT
  rw [show htT t * 500000000000 / htH m r = htS t m r from rfl] at FT
  replace FT := Lib.hid FT
  have W := Lib.hid (fun u => rwarm_any t u)
  have P := Lib.hid (fun u => rpart_any m r u)
  generalize htS t m r = S at *
  generalize htT t = T at *
  generalize htH m r = H at *
  generalize flB T 500000000000 H = F at *
  go_enter Try.func45, Try.ntmps45
  go_wp2_with fail
  refine (W.out _).mono ?_
  rintro e w1 ⟨rfl, rfl⟩
  go_wp2_with fail
  refine (P.out _).mono ?_
  rintro e w2 ⟨rfl, rfl⟩
  go_wp2_with fail
  refine (FT.out _).mono ?_
  rintro e w1 ⟨rfl, hb1⟩
  go_wp2
  go_ret
  exact ⟨rfl, hb1⟩
set_option maxHeartbeats 1000000 in
theorem rtotal_any (t m r : Int) (w : World) : Calls Try.prog 47 #[.int .i64 t, .int .i64 m, .int .i64 r] w fun e w' => e = .returned (.int .i64 (htU t m r)) ∧ Below w.heap.size w w' := by
  have a := htT_bd t
  have b := htH_bd m r
  have c := htU_bd t m r
  have FT := fun u => rfloor_any (htT t) (htH m r) 500000000000 u (by omega) (by omega) (by omega) (by omega) (by omega) (by omega)
  rw [flV_pos (by omega) (by unfold htU at c; omega) (by unfold htU at c; omega)] at FT
  rw [show htT t * htH m r / 500000000000 = htU t m r from rfl] at FT
  replace FT := Lib.hid FT
  have W := Lib.hid (fun u => rwarm_any t u)
  have P := Lib.hid (fun u => rpart_any m r u)
  generalize htU t m r = S at *
  generalize htT t = T at *
  generalize htH m r = H at *
  generalize flB T H 500000000000 = F at *
  go_enter Try.func47, Try.ntmps47
  go_wp2_with fail
  refine (W.out _).mono ?_
  rintro e w1 ⟨rfl, rfl⟩
  go_wp2_with fail
  refine (P.out _).mono ?_
  rintro e w2 ⟨rfl, rfl⟩
  go_wp2_with fail
  refine (FT.out _).mono ?_
  rintro e w1 ⟨rfl, hb1⟩
  go_wp2
  go_ret
  exact ⟨rfl, hb1⟩
set_option maxHeartbeats 1000000 in
theorem law_HeatTells (t m r : Int) (w : World) : Calls Try.prog 11 #[.int .i64 t, .int .i64 m, .int .i64 r] w fun e w' => e = .returned (.bool true) ∧ Below w.heap.size w w' := by
  have F1 := Lib.hid (fun u => hstatic_any t m r u)
  have F2 := Lib.hid (fun u => rstatic_any t m r u)
  have F3 := Lib.hid (fun u => htotal_any t m r u)
  have F4 := Lib.hid (fun u => rtotal_any t m r u)
  generalize htS t m r = S at *
  generalize htU t m r = U at *
  go_enter Try.func11, Try.ntmps11
  go_wp2_with fail
  refine (F1.out _).mono ?_
  rintro e w1 ⟨rfl, hb1⟩
  go_wp2_with fail
  refine (F2.out _).mono ?_
  rintro e w2 ⟨rfl, hb2⟩
  replace hb2 := hb1.trans (hb2.mono hb1.size)
  clear hb1
  go_wp2_with fail
  refine (F3.out _).mono ?_
  rintro e w3 ⟨rfl, hb3⟩
  replace hb3 := hb2.trans (hb3.mono hb2.size)
  clear hb2
  go_wp2_with fail
  refine (F4.out _).mono ?_
  rintro e w4 ⟨rfl, hb4⟩
  replace hb4 := hb3.trans (hb4.mono hb3.size)
  clear hb3
  go_wp2_with fail
  refine (lives10 _).mono ?_
  rintro e w5 ⟨rfl, hb5⟩
  go_wp2
  go_ret
  exact ⟨rfl, hb4.trans (hb5.mono hb4.size)⟩
end Go.Proofs.Ytnnhgpmpkiblaaa
