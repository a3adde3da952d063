/- Package baro: feet, levels, metres; the law BaroFeet, walked. -/
import Derived.Test.YtlgiefdhjhijaaaDig8
import Derived.Test.YtlgiefdhjhijaaaSatClip
namespace Go.Proofs.Ytlgiefdhjhijaaa
open Go.ChangeShapes Go.WideShapes Go.ChangeAt Go.RowKit
set_option linter.unusedVariables false
set_option linter.unusedSimpArgs false

theorem wq_bp {a b c : Int} (hc : 0 < c) : wq a b c = a * b / c := by
  unfold wq wN mag
  rw [if_neg (by omega), if_neg (by omega)]
theorem flV_bp {a b c : Int} (hc : 0 < c) (h1 : -1099511627775 ≤ a * b / c) (h2 : a * b / c ≤ 1099511627775) : flV a b c = a * b / c := by
  unfold flV flB wIn
  rw [wq_bp hc]
  rw [if_pos]
  simp
  exact ⟨by omega, h1, h2⟩
def bF (h : Int) : Int := clp h * 100 / 3048
def bL (h : Int) : Int := (clp h + 1524) / 3048
def bM (f : Int) : Int := fitV (clp f) 3048 100
theorem bF_fit (h : Int) : fitV (clp h) 100 3048 = bF h := by
  have b := clp_bd h
  unfold fitV bF
  rw [wq_bp (by omega)]
  omega

set_option maxHeartbeats 1000000 in
theorem bfeet_any (h : Int) (w : World) : Calls Try.prog 28 #[.int .i64 h] w fun e w' => e = .returned (.int .i64 (bF h)) ∧ Below w.heap.size w w' := by
  have b := clp_bd h
  have CL := Lib.hid (fun u => clip_any h u)
  have FL := fun u => floor_any (clp h) 100 3048 u (by omega) (by omega) (by omega) (by omega) (by omega) (by omega)
  rw [flV_bp (by omega) (by omega) (by omega), show clp h * 100 / 3048 = bF h from rfl] at FL
  replace FL := Lib.hid FL
  generalize bF h = R at *
  generalize flB (clp h) 100 3048 = B at *
  generalize beyB h = y at *
  generalize clp h = c at *
  go_enter Try.func28, Try.ntmps28
  go_wp2_with fail
  refine (CL.out _).mono ?_
  rintro e w1 ⟨rfl, rfl⟩
  go_wp2_with fail
  refine (FL.out _).mono ?_
  rintro e w2 ⟨rfl, hb⟩
  go_wp2
  go_ret
  exact ⟨rfl, hb⟩
set_option maxHeartbeats 1000000 in
theorem blevel_any (h : Int) (w : World) : Calls Try.prog 48 #[.int .i64 h] w fun e w' => e = .returned (.int .i64 (bL h)) ∧ Below w.heap.size w w' := by
  have b := clp_bd h
  have CL := Lib.hid (fun u => clip_any h u)
  have FL := fun u => floor_any (clp h + 1524) 1 3048 u (by omega) (by omega) (by omega) (by omega) (by omega) (by omega)
  rw [flV_bp (by omega) (by omega) (by omega), show (clp h + 1524) * 1 / 3048 = bL h by unfold bL; rw [Int.mul_one]] at FL
  replace FL := Lib.hid FL
  generalize bL h = R at *
  generalize flB (clp h + 1524) 1 3048 = B at *
  generalize beyB h = y at *
  generalize clp h = c at *
  go_enter Try.func48, Try.ntmps48
  go_wp2_with fail
  refine (CL.out _).mono ?_
  rintro e w1 ⟨rfl, rfl⟩
  go_wp2_with fail
  refine (FL.out _).mono ?_
  rintro e w2 ⟨rfl, hb⟩
  go_wp2
  go_ret
  exact ⟨rfl, hb⟩
set_option maxHeartbeats 1000000 in
theorem bmet_any (f : Int) (w : World) : Calls Try.prog 29 #[.int .i64 f] w fun e w' => e = .returned (.int .i64 (bM f)) ∧ Below w.heap.size w w' := by
  have b := clp_bd f
  have CL := Lib.hid (fun u => clip_any f u)
  have FL := fun u => fit_any (clp f) 3048 100 u (by omega) (by omega) (by omega) (by omega) (by omega) (by omega)
  rw [show fitV (clp f) 3048 100 = bM f from rfl] at FL
  replace FL := Lib.hid FL
  generalize bM f = R at *
  generalize beyB f = y at *
  generalize clp f = c at *
  go_enter Try.func29, Try.ntmps29
  go_wp2_with fail
  refine (CL.out _).mono ?_
  rintro e w1 ⟨rfl, rfl⟩
  go_wp2_with fail
  refine (FL.out _).mono ?_
  rintro e w2 ⟨rfl, hb⟩
  go_wp2
  go_ret
  exact ⟨rfl, hb⟩
set_option maxHeartbeats 1000000 in
theorem lives11 (w : World) : Calls Try.prog 26 #[] w fun e w' => e = .returned (.bool true) ∧ Below w.heap.size w w' := by
  have F := fun u => bfeet_any 3048 u
  rw [show bF 3048 = 100 by decide] at F
  replace F := Lib.hid F
  have L := fun u => blevel_any 304800 u
  rw [show bL 304800 = 100 by decide] at L
  replace L := Lib.hid L
  go_enter Try.func26, Try.ntmps26
  go_wp2_with fail
  refine (F.out _).mono ?_
  rintro e w1 ⟨rfl, hb⟩
  go_wp2_with fail
  refine (L.out _).mono ?_
  rintro e w2 ⟨rfl, hb2⟩
  go_wp2
  go_ret
  exact ⟨rfl, hb.trans (hb2.mono hb.size)⟩
end Go.Proofs.Ytlgiefdhjhijaaa
