/- The document's Mach number of a ratio, and its answers; the laws MachOfs and MachAts, walked. -/
import Derived.Test.YtecpmffmmiogfaaGreatMach5
import Derived.Test.YtecpmffmmiogfaaGreatMgRg
namespace Go.Proofs.YtecpmffmmiogfaaGreat
open Go.ChangeShapes Go.WideShapes Go.ChangeAt Go.RowKit
set_option linter.unusedVariables false
set_option linter.unusedSimpArgs false

theorem mcO_eq {r m : Int} (h0 : 0 ≤ m) (h1 : m ≤ 20000) (ha : m = 0 ∨ mcR m ≤ r) (hb : m = 20000 ∨ r < mcR (m + 1)) : mcO r = m := by
  obtain ⟨k1, k2, k3⟩ := mcK_is r
  obtain ⟨M, rfl⟩ : ∃ M : Nat, m = (M : Int) := ⟨m.toNat, by omega⟩
  by_cases hK : mcK r ≤ M
  · have := k3 M hK (by omega)
    unfold mcP at this
    simp only [decide_eq_true_eq] at this
    have hz : (M : Int) = 0 := by rcases ha with h | h <;> omega
    unfold mcO
    omega
  · by_cases hK2 : mcK r = M + 1
    · unfold mcO
      rw [hK2]
      simp
    · have := k2 (M + 1) (by omega)
      unfold mcP at this
      simp only [decide_eq_false_iff_not] at this
      rcases hb with h | h
      · omega
      · rw [show ((M + 1 : Nat) : Int) = (M : Int) + 1 by omega] at this
        omega

theorem p2b (i : Nat) (h : i ≤ 13) : 1 ≤ (2 : Int) ^ i ∧ (2 : Int) ^ i ≤ 8192 := by
  rcases i with _ | _ | _ | _ | _ | _ | _ | _ | _ | _ | _ | _ | _ | _ | i
  all_goals first | omega | decide

set_option maxRecDepth 100000 in
set_option maxHeartbeats 8000000 in
theorem rof8_any (r : Int) (w : World) : Calls Tryz.prog 44 #[.int .i64 r] w fun e w' => e = .returned (.int .i64 (mcO r)) ∧ Below w.heap.size w w' := by
  have RT := Lib.hid (fun m u => rratio_any m u)
  go_enter Tryz.func44, Tryz.ntmps44
  go_wp2
  go_loopw [3, 4] (fun a b v => ∃ (m : Int) (j : Nat), j ≤ 14 ∧ 0 ≤ m ∧ m ≤ 20000 ∧ a = .int .i64 m ∧ b = .int .i64 (bitAt j) ∧ Below w.heap.size w v ∧ Hid (m = 0 ∨ mcR m ≤ r) ∧ Hid (j = 14 ∨ 20000 < m + 2 ^ j ∨ r < mcR (m + 2 ^ j))) (fun _ b _ => (intOf b).toNat)
  case atStart => exact ⟨0, 14, by omega, by omega, by omega, rfl, rfl, Below.refl _ _, Lib.hid (.inl rfl), Lib.hid (.inl rfl)⟩
  case round =>
    obtain ⟨m, j, hj, m0, m1, rfl, rfl, hb, hU, hT⟩ := hrel
    cases j with
    | zero =>
      have hf := Lib.hid (mcO_eq m0 m1 hU.out (by
        rcases hT.out with h | h | h
        · omega
        · simp at h; exact .inl (by omega)
        · simp at h; exact .inr h))
      rw [show bitAt 0 = 0 from rfl]
      go_wp2
      go_ret
      exact ⟨ret_int hf.out.symm, hb⟩
    | succ i =>
      have hB := p2b i (by omega)
      have hh := Lib.hid (bitAt_half i)
      rw [show bitAt (i + 1) = 2 ^ i from rfl]
      obtain ⟨B, hBe⟩ : ∃ B : Int, (2 : Int) ^ i = B := ⟨_, rfl⟩
      rw [hBe] at hB hh
      rw [hBe]
      replace hBe := Lib.hid hBe
      clear hT
      have hB0 : decide (0 < B) = true := decide_eq_true (by omega)
      go_wp2
      go_loopw [3] (fun a v => ∃ m : Int, 0 ≤ m ∧ m ≤ 20000 ∧ a = .int .i64 m ∧ Below w.heap.size w v ∧ Hid (m = 0 ∨ mcR m ≤ r)) (fun a _ => (20000 - intOf a).toNat)
      case atStart => exact ⟨m, m0, m1, rfl, hb, hU⟩
      case round =>
        clear m0 m1 hb hU
        obtain ⟨n, n0, n1, rfl, hb, hU⟩ := hrel
        by_cases hlt : n + B ≤ 20000
        · have RM := fun u => RT.out (n + B) u
          obtain ⟨R, hR⟩ : ∃ R, mcR (n + B) = R := ⟨_, rfl⟩
          rw [hR] at RM
          replace RM := Lib.hid RM
          replace hR := Lib.hid hR
          by_cases hs : R ≤ r
          · go_wp2_with fail
            refine (RM.out _).mono ?_
            rintro e w1 ⟨rfl, hb1⟩
            go_wp2
            go_roundw
            case rel => exact ⟨n + B, by omega, hlt, rfl, hb.trans (hb1.mono hb.size), Lib.hid (.inr (by rw [hR.out]; exact hs))⟩
            case measure => simp [intOf]; omega
          · have hs' : r < R := by omega
            go_wp2_with fail
            refine (RM.out _).mono ?_
            rintro e w1 ⟨rfl, hb1⟩
            go_wp2
            exact ⟨⟨n, i, by omega, n0, n1, rfl, by rw [hh.out], hb.trans (hb1.mono hb.size), hU, Lib.hid (.inr (.inr (by rw [hBe.out, hR.out]; exact hs')))⟩, by simp [intOf]; omega⟩
        · have hgt : 20000 < n + B := by omega
          go_wp2
          exact ⟨⟨n, i, by omega, n0, n1, rfl, by rw [hh.out], hb, hU, Lib.hid (.inr (.inl (by rw [hBe.out]; exact hgt)))⟩, by simp [intOf]; omega⟩
set_option maxHeartbeats 2000000 in
theorem rat8_any (q p : Int) (w : World) (g1 : -9223372036854775808 ≤ q) (g2 : q ≤ 9223372036854775807) (h1 : -9223372036854775808 ≤ p) (h2 : p ≤ 9223372036854775807) :
    Calls Tryz.prog 23 #[.int .i64 q, .int .i64 p] w fun e w' => e = .returned (.tuple #[.int .i64 (maV q p), .bool (maB q p)]) ∧ Below w.heap.size w w' := by
  by_cases hp : p ≤ 0
  · have e1 : maB q p = false := by unfold maB; rw [decide_eq_true hp]; rfl
    have e2 : maV q p = 0 := by unfold maV; rw [e1]; rfl
    have hp' : p < 1 := by omega
    rw [e1, e2]
    go_enter Tryz.func23, Tryz.ntmps23
    go_wp2
    go_ret2
    exact ⟨rfl, Below.refl _ _⟩
  · by_cases hq : q < 0
    · have e1 : maB q p = false := by unfold maB; rw [decide_eq_false hp, decide_eq_true hq]; rfl
      have e2 : maV q p = 0 := by unfold maV; rw [e1]; rfl
      have hp' : 1 ≤ p := by omega
      rw [e1, e2]
      go_enter Tryz.func23, Tryz.ntmps23
      go_wp2
      go_ret2
      exact ⟨rfl, Below.refl _ _⟩
    · have e1 : maB q p = true := by unfold maB; rw [decide_eq_false hp, decide_eq_false hq]; rfl
      have e2 : maV q p = mcO (fitV q 1073741824 p) := by unfold maV; rw [e1]; rfl
      have hp' : 1 ≤ p := by omega
      have hq' : 0 ≤ q := by omega
      rw [e1, e2]
      have FT := Lib.hid (fun u => rfit_any q 1073741824 p u g1 g2 (by omega) (by omega) h1 h2)
      have OF := Lib.hid (fun u => rof8_any (fitV q 1073741824 p) u)
      clear e1 e2
      generalize mcO (fitV q 1073741824 p) = O at *
      generalize fitV q 1073741824 p = F at *
      go_enter Tryz.func23, Tryz.ntmps23
      go_wp2_with fail
      refine (FT.out _).mono ?_
      rintro e w1 ⟨rfl, hb1⟩
      go_wp2_with fail
      refine (OF.out _).mono ?_
      rintro e w2 ⟨rfl, hb2⟩
      go_wp2
      go_ret2
      exact ⟨rfl, hb1.trans (hb2.mono hb1.size)⟩
end Go.Proofs.YtecpmffmmiogfaaGreat
