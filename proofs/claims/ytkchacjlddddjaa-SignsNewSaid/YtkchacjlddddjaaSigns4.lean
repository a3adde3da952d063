/- The law SignsNew, walked. -/
import Derived.Test.YtkchacjlddddjaaSigns3
namespace Go.Proofs.Ytkchacjlddddjaa
open Go.ChangeShapes Go.WideShapes Go.ChangeAt Go.RowKit
set_option linter.unusedVariables false

set_option maxHeartbeats 2000000 in
theorem law_SignsNew (ep mv tk fl hi v : Int) (w : World) :
    Calls Try.prog 8 #[.agg #[.int .i64 ep, .int .i64 mv, .int .i64 tk, .int .i64 fl, .int .i64 hi], .int .i64 v] w fun e w' => e = .returned (.bool true) ∧ Below w.heap.size w w' := by
  have hq0 := Held.new w [.int .i64 ep, .int .i64 mv, .int .i64 tk, .int .i64 fl, .int .i64 hi] 57
  have hb0 : Below w.heap.size w (w.alloc (.cells #[.int .i64 ep, .int .i64 mv, .int .i64 tk, .int .i64 fl, .int .i64 hi] 57)) := (Below.refl _ _).alloc (Nat.le_refl _) _
  cases hR : sgR ep mv tk fl hi
  · go_enter Try.func8, Try.ntmps8
    go_wp2_with fail
    refine (sgnew_no ep mv tk fl hi _ hR).mono ?_
    rintro e w1 ⟨rfl, hb1⟩
    have hq := hq0.bel hb1
    have hbel := hb0.trans (hb1.mono hb0.size)
    clear hq0 hb0 hb1
    obtain ⟨q0, f0⟩ := hq.one 0 rfl
    obtain ⟨q1, f1⟩ := hq.one 1 rfl
    obtain ⟨q2, f2⟩ := hq.one 2 rfl
    obtain ⟨q3, f3⟩ := hq.one 3 rfl
    obtain ⟨q4, f4⟩ := hq.one 4 rfl
    go_wp2_with (first | (go_at_call 37; refine (sforget_nil _).mono ?_; rintro e w1 ⟨rfl, rfl⟩) | (go_at_call 38; refine (sages_nil _).mono ?_; rintro e w1 ⟨rfl, rfl⟩))
    refine (rsright_any ep mv tk fl hi _).mono ?_
    rintro e w2 ⟨rfl, hb2⟩
    have hq2 := hq.bel hb2
    have hbel2 := hbel.trans (hb2.mono hbel.size)
    clear hq hbel hb2 q0 q1 q2 q3 q4 f0 f1 f2 f3 f4
    rw [hR]
    obtain ⟨q0, f0⟩ := hq2.one 0 rfl
    obtain ⟨q1, f1⟩ := hq2.one 1 rfl
    obtain ⟨q2, f2⟩ := hq2.one 2 rfl
    obtain ⟨q3, f3⟩ := hq2.one 3 rfl
    obtain ⟨q4, f4⟩ := hq2.one 4 rfl
    go_wp2_with (first | (go_at_call 40; refine (sstep_nil _ _ _).mono ?_; rintro e w1 ⟨rfl, rfl⟩))
    refine (sright_any ep mv tk fl hi _).mono ?_
    rintro e w3 ⟨rfl, hb3⟩
    have hbel3 := hbel2.trans (hb3.mono hbel2.size)
    rw [hR]
    go_wp2_with (go_at_call 42; refine (lives23 _).mono ?_; rintro e w1 ⟨rfl, hb4⟩)
    go_ret
    exact ⟨rfl, hbel3.trans (hb4.mono hbel3.size)⟩
  · go_enter Try.func8, Try.ntmps8
    go_wp2_with fail
    refine (sgnew_ok ep mv tk fl hi _ hR).mono ?_
    rintro e w1 ⟨b, hb, rfl, hh, hb1⟩
    have hq := hq0.bel hb1
    have hbel := hb0.trans (hb1.mono hb0.size)
    clear hq0 hb0 hb1
    obtain ⟨q0, f0⟩ := hq.one 0 rfl
    obtain ⟨q1, f1⟩ := hq.one 1 rfl
    obtain ⟨q2, f2⟩ := hq.one 2 rfl
    obtain ⟨q3, f3⟩ := hq.one 3 rfl
    obtain ⟨q4, f4⟩ := hq.one 4 rfl
    go_wp2_with (first | (go_at_call 37; refine (sforget_nil _).mono ?_; rintro e w1 ⟨rfl, rfl⟩) | (go_at_call 38; refine (sages_nil _).mono ?_; rintro e w1 ⟨rfl, rfl⟩))
    refine (rsright_any ep mv tk fl hi _).mono ?_
    rintro e w2 ⟨rfl, hb2⟩
    have hq2 := hq.bel hb2
    have hh2 := hh.bel hb2
    have hbel2 := hbel.trans (hb2.mono hbel.size)
    clear hq hh hbel hb2 q0 q1 q2 q3 q4 f0 f1 f2 f3 f4
    rw [hR]
    obtain ⟨q0, f0⟩ := hq2.one 0 rfl
    obtain ⟨q1, f1⟩ := hq2.one 1 rfl
    obtain ⟨q2, f2⟩ := hq2.one 2 rfl
    obtain ⟨q3, f3⟩ := hq2.one 3 rfl
    obtain ⟨q4, f4⟩ := hq2.one 4 rfl
    go_wp2_with (first | (go_at_call 40; refine (sstep_nil _ _ _).mono ?_; rintro e w1 ⟨rfl, rfl⟩))
    refine (sright_any ep mv tk fl hi _).mono ?_
    rintro e w3 ⟨rfl, hb3⟩
    have hh3 := hh2.bel hb3
    have hbel3 := hbel2.trans (hb3.mono hbel2.size)
    rw [hR]
    go_wp2_with fail
    refine (sages_any b _ hh3).mono ?_
    rintro e w4 ⟨rfl, k, rfl⟩
    go_wp2_with (go_at_call 42; refine (lives23 _).mono ?_; rintro e w1 ⟨rfl, hb4⟩)
    go_ret
    have hb5 := below_drewN hbel3 k
    exact ⟨rfl, hb5.trans (hb4.mono hb5.size)⟩
end Go.Proofs.Ytkchacjlddddjaa
