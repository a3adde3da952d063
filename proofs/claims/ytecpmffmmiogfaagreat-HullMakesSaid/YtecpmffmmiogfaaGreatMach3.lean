/- Package mach: Ratio, of a curve that is built; greater numbers have ratios as great, or greater; walked. -/
import Derived.Test.YtecpmffmmiogfaaGreatMach2
namespace Go.Proofs.YtecpmffmmiogfaaGreat
open Go.ChangeShapes Go.WideShapes Go.ChangeAt Go.RowKit
set_option linter.unusedVariables false
set_option linter.unusedSimpArgs false

theorem mX_at {i : Nat} (h : i < 11) : (mX 11).getD i 0 = 10000 + 1000 * (i : Int) := by
  rcases i with _ | _ | _ | _ | _ | _ | _ | _ | _ | _ | _ | i
  all_goals first | omega | rfl
theorem mY_at {i : Nat} (h : i < 11) : (mY 11).getD i 0 = mcA i := by
  rcases i with _ | _ | _ | _ | _ | _ | _ | _ | _ | _ | _ | i
  all_goals first | omega | rfl
theorem m_right : rgtB (mX 11) (mY 11) = true := by decide +kernel

theorem mcB_in {m : Int} {K : Nat} (hK : (m - 10000) / 1000 = (K : Int)) (hK9 : K < 10) : mcB m = mcA K + flV (mcA (K + 1) - mcA K) (m - (10000 + 1000 * (K : Int))) 1000 := by
  have a := mcA_bd K
  have b := mcA_bd (K + 1)
  have s := mcA_step K hK9
  have e : (m - 10000) % 1000 = m - (10000 + 1000 * (K : Int)) := by omega
  have l : 0 ≤ m - (10000 + 1000 * (K : Int)) ∧ m - (10000 + 1000 * (K : Int)) ≤ 999 := by omega
  have dB : 0 ≤ mcA (K + 1) - mcA K ∧ mcA (K + 1) - mcA K ≤ 5000000000 := by omega
  unfold mcB
  rw [hK, Int.toNat_natCast, e]
  generalize m - (10000 + 1000 * (K : Int)) = L at *
  generalize mcA (K + 1) - mcA K = D at *
  have p0 := Int.mul_nonneg (show 0 ≤ D by omega) l.1
  have p1 := Int.mul_le_mul (show D ≤ 5000000000 by omega) l.2 l.1 (by omega : (0 : Int) ≤ 5000000000)
  have : flV D L 1000 = D * L / 1000 := by
    have q : wq D L 1000 = D * L / 1000 := by unfold wq wN mag; rw [if_neg (by omega), if_neg (by omega)]
    unfold flV flB wIn
    rw [q, if_pos]
    simp
    omega
  rw [this]

/-- What the curve tells is what is between two points. -/
theorem m_tells {n : Int} (h0 : 10000 < n) (h1 : n ≤ 20000) : ∃ k, CrK (mX 11) n k ∧ crV (mX 11) (mY 11) n k = mcT n := by
  by_cases h2 : n = 20000
  · refine ⟨11, ⟨by rw [mX_len]; exact Nat.le_refl _, fun t ht => ?_, fun t a b => by rw [mX_len] at b; omega⟩, ?_⟩
    · unfold crP; rw [mX_at ht]; apply decide_eq_false; omega
    · unfold crV mcT
      rw [if_neg (by omega), mX_len, if_pos rfl, if_neg (by omega), if_pos h2]
      exact mY_at (by omega)
  · obtain ⟨K, hK⟩ : ∃ K : Nat, (n - 10000) / 1000 = (K : Int) := ⟨((n - 10000) / 1000).toNat, by omega⟩
    have hK9 : K < 10 := by omega
    refine ⟨K + 1, ⟨by rw [mX_len]; omega, fun t ht => ?_, fun t a b => ?_⟩, ?_⟩
    · unfold crP; rw [mX_at (by omega)]; apply decide_eq_false; omega
    · rw [mX_len] at b; unfold crP; rw [mX_at (by omega)]; apply decide_eq_true; omega
    · unfold crV mcT
      rw [if_neg (by omega), mX_len, if_neg (by omega), if_neg (by omega), if_neg h2, mcB_in hK hK9, show K + 1 - 1 = K by omega, mY_at (by omega), mY_at (by omega), mX_at (by omega), mX_at (by omega)]
      congr 2
      omega

set_option maxRecDepth 100000 in
set_option maxHeartbeats 4000000 in
theorem mratio_any (m : Int) (w : World) : Calls Tryz.prog 99 #[.int .i64 m] w fun e w' => e = .returned (.int .i64 (mcR m)) ∧ Below w.heap.size w w' := by
  have hm := mcM_is m
  have hb := mcM_bd m
  unfold mcR
  generalize mcM m = n at *
  by_cases hs : n ≤ 10000
  · rw [show mcT n = mcS n by unfold mcT; rw [if_pos hs]]
    have SB := Lib.hid (fun u => msub_any n u hb.1 hs)
    generalize mcS n = V at *
    rcases hm with ⟨m1, rfl⟩ | ⟨m1, rfl⟩ | ⟨m1, m2, rfl⟩
    · go_enter Tryz.func99, Tryz.ntmps99
      go_wp2_with fail
      refine (SB.out _).mono ?_
      rintro e w1 ⟨rfl, rfl⟩
      go_wp2
      go_ret
      exact ⟨rfl, Below.refl _ _⟩
    · omega
    · go_enter Tryz.func99, Tryz.ntmps99
      go_wp2_with fail
      all_goals first | (exfalso; omega) | skip
      refine (SB.out _).mono ?_
      rintro e w1 ⟨rfl, rfl⟩
      go_wp2
      go_ret
      exact ⟨rfl, Below.refl _ _⟩
  · obtain ⟨k, hk, hv⟩ := m_tells (show 10000 < n by omega) hb.2
    have SU := Lib.hid (fun u => msup_any u)
    have AT := fun ax ay cx cy u hx hy => cat5_any ax ay cx cy (mX 11) (mY 11) n k u hx hy (by rw [mX_len]; omega) (by rw [mY_len]; omega) (fun _ => hk)
    rw [m_right, if_pos rfl, hv] at AT
    replace AT := Lib.hid AT
    clear hv hk
    generalize mcT n = V at *
    rcases hm with ⟨m1, rfl⟩ | ⟨m1, rfl⟩ | ⟨m1, m2, rfl⟩
    · omega
    all_goals
      go_enter Tryz.func99, Tryz.ntmps99
      go_wp2_with fail
      all_goals first | (exfalso; omega) | skip
      refine (SU.out _).mono ?_
      rintro e w1 ⟨ax, ay, cx, cy, rfl, rx, ry, hb1⟩
      replace rx := Lib.hid rx
      replace ry := Lib.hid ry
      go_wp2_with fail
      refine (AT.out ax ay cx cy w1 rx.out ry.out).mono ?_
      rintro e w2 ⟨rfl, hb2⟩
      go_wp2
      go_ret
      exact ⟨rfl, hb1.trans (hb2.mono hb1.size)⟩
end Go.Proofs.YtecpmffmmiogfaaGreat
