/- How great a book is; the laws VmoLimits, VmoNew, walked. -/
import Derived.Test.YtnfbfggkbpobiaaVmo3
import Derived.Deep.Cut
namespace Go.Proofs.Ytnfbfggkbpobiaa
open Go.ChangeShapes Go.WideShapes Go.ChangeAt Go.RowKit
set_option linter.unusedVariables false
set_option linter.unusedSimpArgs false
theorem vgr_box (w : World) (a1 a2 a3 a4 : Option Addr) (e1 e2 e3 e4 : Nat) (X Y Z T : List Int) (ma mg tk : Int) : ∃ V, V = (w.alloc (.cells #[.slice a1 X.length e1, .slice a2 Y.length e2, .slice a3 Z.length e3, .slice a4 T.length e4, .int .i64 ma, .int .i64 mg, .int .i64 tk] 82)) ∧ Below w.heap.size w V ∧ V.heap.size = w.heap.size + 1 ∧ ∀ u, Below (w.heap.size + 1) V u → u.cell? ⟨w.heap.size, 0, none⟩ = some (.slice a1 X.length e1) ∧ u.cell? ⟨w.heap.size, 1, none⟩ = some (.slice a2 Y.length e2) ∧ u.cell? ⟨w.heap.size, 2, none⟩ = some (.slice a3 Z.length e3) ∧ u.cell? ⟨w.heap.size, 3, none⟩ = some (.slice a4 T.length e4) ∧ u.cell? ⟨w.heap.size, 4, none⟩ = some (.int .i64 ma) ∧ u.cell? ⟨w.heap.size, 5, none⟩ = some (.int .i64 mg) ∧ u.cell? ⟨w.heap.size, 6, none⟩ = some (.int .i64 tk) :=
  ⟨_, rfl, (by repeat (first | exact Below.refl _ _ | assumption | apply Below.drew | apply below_drewN | (refine Below.alloc ?_ (by first | exact Nat.le_refl _ | omega | (simp <;> omega)) _) | (refine Below.setCell ?_ (by first | exact Nat.le_refl _ | omega | (simp <;> omega)) _))), by simp, fun u hu => ⟨(bc hu (by omega)).trans (by go_simp), (bc hu (by omega)).trans (by go_simp), (bc hu (by omega)).trans (by go_simp), (bc hu (by omega)).trans (by go_simp), (bc hu (by omega)).trans (by go_simp), (bc hu (by omega)).trans (by go_simp), (bc hu (by omega)).trans (by go_simp)⟩⟩

def vgB (X Y Z T : List Int) : Bool := decide (300 < X.length) || (decide (300 < Y.length) || (decide (300 < Z.length) || decide (300 < T.length)))
theorem vgB_no {X Y Z T : List Int} (h : vgB X Y Z T = false) : X.length ≤ 300 ∧ Y.length ≤ 300 ∧ Z.length ≤ 300 ∧ T.length ≤ 300 := by
  unfold vgB at h
  simp at h
  omega
set_option maxRecDepth 100000 in
set_option maxHeartbeats 8000000 in
theorem vgreat (a1 a2 a3 a4 : Option Addr) (e1 e2 e3 e4 : Nat) (X Y Z T : List Int) (ma mg tk : Int) (w : World) : Calls Try.prog 46 #[.agg #[.slice a1 X.length e1, .slice a2 Y.length e2, .slice a3 Z.length e3, .slice a4 T.length e4, .int .i64 ma, .int .i64 mg, .int .i64 tk]] w fun e w' => e = .returned (.bool (vgB X Y Z T)) ∧ Below w.heap.size w w' := by
  have dX : decide ((300 : Int) < (X.length : Int)) = decide (300 < X.length) := by simp; omega
  have dY : decide ((300 : Int) < (Y.length : Int)) = decide (300 < Y.length) := by simp; omega
  have dZ : decide ((300 : Int) < (Z.length : Int)) = decide (300 < Z.length) := by simp; omega
  have dT : decide ((300 : Int) < (T.length : Int)) = decide (300 < T.length) := by simp; omega
  unfold vgB
  obtain ⟨V, eV, hb0, hz, hcs⟩ := vgr_box w a1 a2 a3 a4 e1 e2 e3 e4 X Y Z T ma mg tk
  replace hb0 := Lib.hid hb0
  replace hz := Lib.hid hz
  replace hcs := Lib.hid hcs
  replace eV := Lib.hid eV
  generalize decide (300 < X.length) = qX at *
  generalize decide (300 < Y.length) = qY at *
  generalize decide (300 < Z.length) = qZ at *
  generalize decide (300 < T.length) = qT at *
  cases qX
  case true =>
    go_enter Try.func46, Try.ntmps46
    go_wp2_with fail
    rw [← eV.out]
    obtain ⟨k0, k1, k2, k3, k4, k5, k6⟩ := hcs.out _ (Below.refl _ _)
    go_wp2
    go_ret
    exact ⟨by first | rfl | (simp [dX, dY, dZ, dT]; done), hb0.out⟩
  case false =>
    cases qY
    case true =>
      go_enter Try.func46, Try.ntmps46
      go_wp2_with fail
      rw [← eV.out]
      obtain ⟨k0, k1, k2, k3, k4, k5, k6⟩ := hcs.out _ (Below.refl _ _)
      go_wp2
      go_ret
      exact ⟨by first | rfl | (simp [dX, dY, dZ, dT]; done), hb0.out⟩
    case false =>
      cases qZ
      case true =>
        go_enter Try.func46, Try.ntmps46
        go_wp2_with fail
        rw [← eV.out]
        obtain ⟨k0, k1, k2, k3, k4, k5, k6⟩ := hcs.out _ (Below.refl _ _)
        go_wp2
        go_ret
        exact ⟨by first | rfl | (simp [dX, dY, dZ, dT]; done), hb0.out⟩
      case false =>
        cases qT
        all_goals
          go_enter Try.func46, Try.ntmps46
          go_wp2_with fail
          rw [← eV.out]
          obtain ⟨k0, k1, k2, k3, k4, k5, k6⟩ := hcs.out _ (Below.refl _ _)
          go_wp2
          go_ret
          exact ⟨by first | rfl | (simp [dX, dY, dZ, dT]; done), hb0.out⟩
end Go.Proofs.Ytnfbfggkbpobiaa
