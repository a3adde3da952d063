/- The document's signs; the chapter's example. -/
import Derived.Test.YtkchacjlddddjaaSigns2
namespace Go.Proofs.Ytkchacjlddddjaa
open Go.ChangeShapes Go.WideShapes Go.ChangeAt Go.RowKit
set_option linter.unusedVariables false
set_option linter.unusedSimpArgs false

set_option maxHeartbeats 1000000 in
theorem rsright_any (ep mv tk fl hi : Int) (w : World) :
    Calls Try.prog 39 #[.agg #[.int .i64 ep, .int .i64 mv, .int .i64 tk, .int .i64 fl, .int .i64 hi]] w fun e w' => e = .returned (.bool (sgR ep mv tk fl hi)) ∧ Below w.heap.size w w' := by
  have C1 := Lib.hid (fun u => r16clip_any fl u)
  have C2 := Lib.hid (fun u => r16clip_any hi u)
  have HR := Lib.hid (show sgR ep mv tk fl hi = (decide (0 ≤ ep) && decide (ep ≤ 1073741824) && decide (0 ≤ mv) && decide (mv ≤ 1073741824) && decide (1 ≤ tk) && decide (tk ≤ 10000) && (clq fl == fl) && (clq hi == hi)) by
    unfold sgR btw clq; rw [Bool.eq_iff_iff]; simp; omega)
  generalize sgR ep mv tk fl hi = q at HR ⊢
  generalize clq fl = cf at *
  generalize clq hi = ch at *
  by_cases hall : 0 ≤ ep ∧ ep ≤ 1073741824 ∧ 0 ≤ mv ∧ mv ≤ 1073741824 ∧ 1 ≤ tk ∧ tk ≤ 10000
  · obtain ⟨a1, a2, a3, a4, a5, a6⟩ := hall
    have n1 : ¬ ep < 0 := by omega
    have n2 : ¬ mv < 0 := by omega
    have n3 : ¬ tk < 1 := by omega
    have n4 : ¬ 1073741824 < ep := by omega
    have n5 : ¬ 1073741824 < mv := by omega
    have n6 : ¬ 10000 < tk := by omega
    cases hf : (cf == fl) <;> cases hh : (ch == hi)
    all_goals
      go_enter Try.func39, Try.ntmps39
      go_wp2_with fail
      go_quiet ((first | (go_at_call 27; (first | (with_reducible exact quiet_as _ rfl (C1.out _)) | (with_reducible exact quiet_as _ rfl (C2.out _))))))
      go_wp2
      go_ret
      refine ⟨ret_bool ?_, (by repeat (first | exact Below.refl _ _ | assumption | apply Below.drew | apply below_drewN | (refine Below.alloc ?_ (by first | exact Nat.le_refl _ | omega | (simp <;> omega)) _) | (refine Below.setCell ?_ (by first | exact Nat.le_refl _ | omega | (simp <;> omega)) _)))⟩
      have := HR.out
      rw [hf, hh] at this
      simp [a1, a2, a3, a4, a5, a6] at this
      simp [this]
  · have hq : q = false := by
      have := HR.out
      rw [this]
      cases h1 : (decide (0 ≤ ep) && decide (ep ≤ 1073741824) && decide (0 ≤ mv) && decide (mv ≤ 1073741824) && decide (1 ≤ tk) && decide (tk ≤ 10000))
      · simp
      · simp at h1; omega
    subst hq
    clear HR
    go_enter Try.func39, Try.ntmps39
    go_wp2_with fail
    all_goals first | (exfalso; omega) | skip
    all_goals
      go_ret
      exact ⟨rfl, (by repeat (first | exact Below.refl _ _ | assumption | apply Below.drew | apply below_drewN | (refine Below.alloc ?_ (by first | exact Nat.le_refl _ | omega | (simp <;> omega)) _) | (refine Below.setCell ?_ (by first | exact Nat.le_refl _ | omega | (simp <;> omega)) _)))⟩

theorem sgC_eq {b : Nat} {ep mv tk fl hi : Int} {an an' : Bool} {v r st lo v' r' st' lo' : Int} {w : World} (h : Held b (sgC ep mv tk fl hi an v r st lo) w) (e1 : an = an') (e2 : v = v') (e3 : r = r') (e4 : st = st') (e5 : lo = lo') : Held b (sgC ep mv tk fl hi an' v' r' st' lo') w := by
  subst e1 e2 e3 e4 e5; exact h

set_option maxHeartbeats 1000000 in
theorem lives23 (w : World) : Calls Try.prog 42 #[] w fun e w' => e = .returned (.bool true) ∧ Below w.heap.size w w' := by
  go_enter Try.func42, Try.ntmps42
  go_wp2_with fail
  refine (sgnew_ok 0 5 2 0 0 _ (by decide)).mono ?_
  rintro e w1 ⟨b, hb, rfl, h1, hb1⟩
  go_wp2_with fail
  refine (sstep_any b 7 0 _ h1 (by omega) (by omega) (by omega) (by omega) (by omega) (by omega) (by omega) (by omega)).mono ?_
  rintro e w2 ⟨rfl, h2, o2⟩
  have h2 := sgC_eq h2 rfl (show _ = 7 by decide) (show _ = 0 by decide) (show _ = 0 by decide) (show _ = 0 by decide)
  rw [show sgOut 5 2 (sgS 0 false 0 (clq 7) 0) (clq 0) (sgA 0 false 0 (clq 7) 0 (clq 0)) (sgL 0 0 (clq 7) (clq 0) 0) = 0 by decide]
  go_wp2_with fail
  refine (sstep_any b 7 9 _ h2 (by omega) (by omega) (by omega) (by omega) (by omega) (by omega) (by omega) (by omega)).mono ?_
  rintro e w3 ⟨rfl, h3, o3⟩
  have h3 := sgC_eq h3 rfl (show _ = 7 by decide) (show _ = 0 by decide) (show _ = 1 by decide) (show _ = 0 by decide)
  rw [show sgOut 5 2 (sgS 0 true 7 (clq 7) 0) (clq 9) (sgA 0 true 7 (clq 7) 0 (clq 9)) (sgL 0 0 (clq 7) (clq 9) 0) = 0 by decide]
  go_wp2_with fail
  refine (sstep_any b 7 9 _ h3 (by omega) (by omega) (by omega) (by omega) (by omega) (by omega) (by omega) (by omega)).mono ?_
  rintro e w4 ⟨rfl, h4, o4⟩
  rw [show sgOut 5 2 (sgS 0 true 7 (clq 7) 1) (clq 9) (sgA 0 true 7 (clq 7) 0 (clq 9)) (sgL 0 0 (clq 7) (clq 9) 0) = 1 by decide]
  go_wp2_with fail
  go_ret
  exact ⟨rfl, ((hb1.trans (o2.below hb)).trans (o3.below hb)).trans (o4.below hb)⟩
end Go.Proofs.Ytkchacjlddddjaa
