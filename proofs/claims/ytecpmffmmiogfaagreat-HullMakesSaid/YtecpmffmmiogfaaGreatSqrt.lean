/- The document's root of a number with a sign, by halving; walked. -/
import Derived.Test.YtecpmffmmiogfaaGreatRoot4
namespace Go.Proofs.YtecpmffmmiogfaaGreat
open Go.ChangeShapes Go.WideShapes Go.ChangeAt Go.RowKit
set_option linter.unusedVariables false
set_option linter.unusedSimpArgs false

/-- What halving holds: the root lies between both. -/
def Hlg (N l h : Int) : Prop := l * l ≤ N ∧ N < (h + 1) * (h + 1)
theorem Hlg.fin {N l : Int} (h0 : 0 ≤ l) (h : Hlg N l l) : l = rt N := (rt_eq ⟨h0, h.1, h.2⟩).symm
set_option maxRecDepth 100000 in
set_option maxHeartbeats 4000000 in
theorem rsqrt_at (N : Int) (w : World) (n0 : 0 ≤ N) (n1 : N ≤ 9223372036854775807) :
    Calls Tryz.prog 65 #[.int .i64 N] w fun e w' => e = .returned (.int .i64 (rt N)) ∧ w = w' := by
  have H0 := Lib.hid (show Hlg N 0 3037000499 from ⟨by omega, by omega⟩)
  go_enter Tryz.func65, Tryz.ntmps65
  go_wp2
  go_loop [3, 4] (fun a b => ∃ l h : Int, 0 ≤ l ∧ l ≤ h ∧ h ≤ 3037000499 ∧ a = .int .i64 l ∧ b = .int .i64 h ∧ Hid (Hlg N l h)) (fun a b => (intOf b - intOf a).toNat)
  case atStart => exact ⟨0, 3037000499, by omega, by omega, by omega, rfl, rfl, H0⟩
  case round =>
    obtain ⟨l, h, l0, lh, h1, rfl, rfl, hH⟩ := hrel
    by_cases hlt : l < h
    · obtain ⟨m, hm⟩ : ∃ m, m = h - (h - l) / 2 := ⟨_, rfl⟩
      have m0 : l < m := by omega
      have m1 : m ≤ h := by omega
      have ms : 0 ≤ m * m ∧ m * m ≤ 9223372030926249001 := ⟨Int.mul_nonneg (by omega) (by omega), by have := Int.mul_le_mul (show m ≤ 3037000499 by omega) (show m ≤ 3037000499 by omega) (by omega) (by omega : (0 : Int) ≤ 3037000499); omega⟩
      have hw3 : h - (h - l) / 2 = m := hm.symm
      obtain ⟨S, hS⟩ : ∃ S, S = m * m := ⟨_, rfl⟩
      rw [← hS] at ms
      have hw4 : m * m = S := hS.symm
      by_cases hs : S ≤ N
      · have st := Lib.hid (show Hlg N m h from ⟨by omega, hH.out.2⟩)
        clear hm hS
        go_wp2
        go_round
        case rel => exact ⟨m, h, by omega, by omega, by omega, rfl, rfl, st⟩
        case measure => simp [intOf]; omega
      · have st := Lib.hid (show Hlg N l (m - 1) from ⟨hH.out.1, by rw [show m - 1 + 1 = m by omega]; omega⟩)
        clear hm hS
        go_wp2
        go_round
        case rel => exact ⟨l, m - 1, by omega, by omega, by omega, rfl, rfl, st⟩
        case measure => simp [intOf]; omega
    · obtain rfl : l = h := by omega
      have hr := Lib.hid (hH.out.fin l0)
      go_wp2
      go_ret
      exact ⟨ret_int hr.out, rfl⟩
end Go.Proofs.YtecpmffmmiogfaaGreat
