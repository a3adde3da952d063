/- Package mach: impact pressures; the document's answers; the laws MachRatios, MachOfs, MachAts, MachRises, MachMore, walked. -/
import Derived.Test.YtecpmffmmiogfaaGreatMach4
import Derived.Test.YtecpmffmmiogfaaGreatDig8
namespace Go.Proofs.YtecpmffmmiogfaaGreat
open Go.ChangeShapes Go.WideShapes Go.ChangeAt Go.RowKit
set_option linter.unusedVariables false
set_option linter.unusedSimpArgs false

theorem mcR_bd (m : Int) : 0 ≤ mcR m ∧ mcR m ≤ 5000000000 := by
  have a := mcM_bd m
  have h0 : mcR 0 ≤ mcR m ∨ mcM m = 0 := by
    by_cases h : 0 ≤ m
    · exact .inl (mcR_mono h)
    · exact .inr (by unfold mcM; omega)
  have e0 : mcS 0 = 0 := by
    have x : mcX 0 = 1073741824 := by decide
    have c : mcC 0 = 1073741824 := by unfold mcC; rw [x]; decide
    have r : rt (1073741824 * 1073741824) = 1073741824 := rt_eq ⟨by omega, by omega, by omega⟩
    unfold mcS
    rw [c, x, r]
    decide
  have z0 : mcR 0 = 0 := by
    show mcT (mcM 0) = 0
    rw [show mcM 0 = 0 by decide]
    unfold mcT
    rw [if_pos (by omega), e0]
  have top : mcR m ≤ mcA 10 := by
    unfold mcR
    have := mcT_mono a.1 a.2 (Int.le_refl _)
    rwa [show mcT 20000 = mcA 10 by unfold mcT; rw [if_neg (by omega), if_pos rfl]] at this
  have b := mcA_bd 10
  refine ⟨?_, by omega⟩
  rcases h0 with h | h
  · omega
  · have : mcR m = mcR 0 := by unfold mcR; rw [h, show mcM 0 = 0 by decide]
    omega
theorem mcR_zero : mcR 0 = 0 := by
  have x : mcX 0 = 1073741824 := by decide
  have c : mcC 0 = 1073741824 := by unfold mcC; rw [x]; decide
  have r : rt (1073741824 * 1073741824) = 1073741824 := rt_eq ⟨by omega, by omega, by omega⟩
  show mcT (mcM 0) = 0
  rw [show mcM 0 = 0 by decide]
  unfold mcT
  rw [if_pos (by omega)]
  unfold mcS
  rw [c, x, r]
  decide
theorem mcR_ends : mcR 10000 < mcR 20000 := by
  have a : mcR 10000 = 958775376 := by
    show mcT (mcM 10000) = _
    rw [show mcM 10000 = 10000 by decide]
    unfold mcT
    rw [if_pos (by omega)]
    exact mcS_top
  have b : mcR 20000 = mcA 10 := by
    show mcT (mcM 20000) = _
    rw [show mcM 20000 = 20000 by decide]
    unfold mcT
    rw [if_neg (by omega), if_pos rfl]
  rw [a, b]
  decide
theorem mcO_neg {r : Int} (h : r < 0) : mcO r = 0 := by
  have k := mcK_is r
  have : mcK r = 0 := by
    by_cases e : mcK r = 0
    · exact e
    · have := k.2.1 0 (by omega)
      have b := mcR_bd ((0 : Nat) : Int)
      unfold mcP at this
      simp only [decide_eq_false_iff_not] at this
      omega
  unfold mcO
  rw [this]; rfl
theorem mcO_bd (r : Int) : 0 ≤ mcO r ∧ mcO r ≤ 20000 := by
  have k := (mcK_is r).1
  unfold mcO; omega

/-- The Mach number of two pressures, and whether there is one. -/
def maB (q p : Int) : Bool := !(decide (p ≤ 0)) && !(decide (q < 0))
def maV (q p : Int) : Int := if maB q p then mcO (fitV q 1073741824 p) else 0
set_option maxHeartbeats 2000000 in
theorem mat_any (q p : Int) (w : World) (g1 : -9223372036854775808 ≤ q) (g2 : q ≤ 9223372036854775807) (h1 : -9223372036854775808 ≤ p) (h2 : p ≤ 9223372036854775807) :
    Calls Tryz.prog 42 #[.int .i64 q, .int .i64 p] w fun e w' => e = .returned (.tuple #[.int .i64 (maV q p), .bool (maB q p)]) ∧ Below w.heap.size w w' := by
  by_cases hp : p ≤ 0
  · have e1 : maB q p = false := by unfold maB; rw [decide_eq_true hp]; rfl
    have e2 : maV q p = 0 := by unfold maV; rw [e1]; rfl
    rw [e1, e2]
    go_enter Tryz.func42, Tryz.ntmps42
    go_wp2
    go_ret2
    exact ⟨rfl, Below.refl _ _⟩
  · by_cases hq : q < 0
    · have e1 : maB q p = false := by unfold maB; rw [decide_eq_false hp, decide_eq_true hq]; rfl
      have e2 : maV q p = 0 := by unfold maV; rw [e1]; rfl
      rw [e1, e2]
      go_enter Tryz.func42, Tryz.ntmps42
      go_wp2
      go_ret2
      exact ⟨rfl, Below.refl _ _⟩
    · have e1 : maB q p = true := by unfold maB; rw [decide_eq_false hp, decide_eq_false hq]; rfl
      have e2 : maV q p = mcO (fitV q 1073741824 p) := by unfold maV; rw [e1]; rfl
      rw [e1, e2]
      have FT := Lib.hid (fun u => fit_any q 1073741824 p u g1 g2 (by omega) (by omega) h1 h2)
      have OF := Lib.hid (fun u => mof_any (fitV q 1073741824 p) u)
      clear e1 e2
      generalize mcO (fitV q 1073741824 p) = O at *
      generalize fitV q 1073741824 p = F at *
      go_enter Tryz.func42, Tryz.ntmps42
      go_wp2_with fail
      refine (FT.out _).mono ?_
      rintro e w1 ⟨rfl, hb1⟩
      go_wp2_with fail
      refine (OF.out _).mono ?_
      rintro e w2 ⟨rfl, hb2⟩
      go_wp2
      go_ret2
      exact ⟨rfl, hb1.trans (hb2.mono hb1.size)⟩

end Go.Proofs.YtecpmffmmiogfaaGreat
