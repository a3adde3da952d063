/- The document's roots, by halving: Row, Not, Root, Sqrt; the laws RootTells and RootSquares, walked. -/
import Derived.Test.YtecpmffmmiogfaaGreatDig4
import Derived.Deep.Cut
import Derived.Test.YtecpmffmmiogfaaGreatRoot5
namespace Go.Proofs.YtecpmffmmiogfaaGreat
open Go.ChangeShapes Go.WideShapes Go.ChangeAt Go.RowKit
set_option linter.unusedVariables false
set_option linter.unusedSimpArgs false

theorem u64_wf {n : Int} (h : (Lit.int .u64 n).wf = true) : 0 ≤ n ∧ n ≤ 18446744073709551615 := by
  simp [Lit.wf, IntKind.min, IntKind.max, IntKind.signed, IntKind.bits] at h
  omega
/-- Two words as digits, k of each done. -/
def Rwi (hi lo : Int) (f : Nat → Int) (k : Nat) : Prop := Ds f 12 ∧ sm f 12 = lo % pw k + hi % pw k * pw 4 ∧ (∀ j, k ≤ j → j < 4 → f j = 0) ∧ ∀ j, 4 + k ≤ j → f j = 0
theorem Rwi.start (hi lo : Int) : Rwi hi lo (fun _ => 0) 0 := ⟨Ds.zero 12, by rw [sm_zero]; simp [pw, Int.emod_one], fun _ _ _ => rfl, fun _ _ => rfl⟩
theorem Rwi.step {hi lo : Int} {f : Nat → Int} {k : Nat} (h : Rwi hi lo f k) (hk : k < 4) : Rwi hi lo (upd (upd f k (dg lo k)) (k + 4) (dg hi k)) (k + 1) := by
  obtain ⟨h1, h2, h3, h4⟩ := h
  have bl := dg_bd lo k
  have bh := dg_bd hi k
  refine ⟨(h1.upd k bl.1 bl.2).upd (k + 4) bh.1 bh.2, ?_, fun j a b => ?_, fun j a => ?_⟩
  · rw [sm_upd _ (k + 4) _ 12 (by omega), sm_upd _ k _ 12 (by omega), upd_ne _ _ (by omega), h3 k (Nat.le_refl _) hk, h4 (k + 4) (by omega), h2, mod_pw_succ, mod_pw_succ, pw_add, Int.add_mul (hi % pw k), Int.sub_zero, Int.sub_zero, Int.mul_assoc (dg hi k)]
    omega
  · rw [upd_ne _ _ (by omega), upd_ne _ _ (by omega)]; exact h3 j (by omega) b
  · rw [upd_ne _ _ (by omega), upd_ne _ _ (by omega)]; exact h4 j (by omega)
theorem Rwi.fin {hi lo : Int} {f : Nat → Int} (h : Rwi hi lo f 4) (a0 : 0 ≤ hi) (a1 : hi < pw 4) (b0 : 0 ≤ lo) (b1 : lo < pw 4) : ∀ i, i < 12 → f i = dg (hi * 18446744073709551616 + lo) i :=
  digits_of h.1 (by rw [h.2.1, Int.emod_eq_of_lt a0 a1, Int.emod_eq_of_lt b0 b1, pw_4]; omega)

/-- What halving holds: the root lies between both. -/
def Hlf (N l h : Int) : Prop := l * l ≤ N ∧ N < (h + 1) * (h + 1)
theorem Hlf.fin {N l : Int} (h0 : 0 ≤ l) (h : Hlf N l l) : l = rt N := (rt_eq ⟨h0, h.1, h.2⟩).symm

set_option maxRecDepth 100000 in
set_option maxHeartbeats 4000000 in
theorem rsqrt_any (N : Int) (w : World) (n0 : 0 ≤ N) (n1 : N ≤ 9223372036854775807) :
    Calls Tryz.prog 65 #[.int .i64 N] w fun e w' => e = .returned (.int .i64 (rt N)) ∧ w = w' := by
  have H0 := Lib.hid (show Hlf N 0 3037000499 from ⟨by omega, by omega⟩)
  go_enter Tryz.func65, Tryz.ntmps65
  go_wp2
  go_loop [3, 4] (fun a b => ∃ l h : Int, 0 ≤ l ∧ l ≤ h ∧ h ≤ 3037000499 ∧ a = .int .i64 l ∧ b = .int .i64 h ∧ Hid (Hlf N l h)) (fun a b => (intOf b - intOf a).toNat)
  case atStart => exact ⟨0, 3037000499, by omega, by omega, by omega, rfl, rfl, H0⟩
  case round =>
    obtain ⟨l, h, l0, lh, h1, rfl, rfl, hH⟩ := hrel
    by_cases hlt : l < h
    · obtain ⟨m, hm⟩ : ∃ m, m = h - (h - l) / 2 := ⟨_, rfl⟩
      have m0 : l < m := by omega
      have m1 : m ≤ h := by omega
      have ms : 0 ≤ m * m ∧ m * m ≤ 9223372030926249001 := ⟨Int.mul_nonneg (by omega) (by omega), by have := Int.mul_le_mul (show m ≤ 3037000499 by omega) (show m ≤ 3037000499 by omega) (by omega) (by omega : (0 : Int) ≤ 3037000499); omega⟩
      have hw3 : h - (h - l) / 2 = m := hm.symm
      obtain ⟨S, hS⟩ : ∃ S, S = m * m := ⟨_, rfl⟩
      rw [← hS] at ms
      have hw4 : m * m = S := hS.symm
      by_cases hs : S ≤ N
      · have st := Lib.hid (show Hlf N m h from ⟨by omega, hH.out.2⟩)
        clear hm hS
        go_wp2
        go_round
        case rel => exact ⟨m, h, by omega, by omega, by omega, rfl, rfl, st⟩
        case measure => simp [intOf]; omega
      · have st := Lib.hid (show Hlf N l (m - 1) from ⟨hH.out.1, by rw [show m - 1 + 1 = m by omega]; omega⟩)
        clear hm hS
        go_wp2
        go_round
        case rel => exact ⟨l, m - 1, by omega, by omega, by omega, rfl, rfl, st⟩
        case measure => simp [intOf]; omega
    · obtain rfl : l = h := by omega
      have hr := Lib.hid (hH.out.fin l0)
      go_wp2
      go_ret
      exact ⟨ret_int hr.out, rfl⟩


end Go.Proofs.YtecpmffmmiogfaaGreat
